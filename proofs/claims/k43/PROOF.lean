import PyProof.Rows.All
import Wide.All
import OpenK.AllK
import Wide.FinOn
import Lean
import PyProof.EqAt
import PyProof.EqKinds
import PyProof.TupleCall
import PyProof.ExcBaseAll.ValueError
import PyProof.NsDelKeeps
import PyProof.NeKinds
import PyProof.Rows.SortShell
import PyProof.Rows.FStr
import PyProof.FString
import PyProof.ExcAttrAll.ValueError
import PyProof.ExcArgsOwn
import PyProof.Rows.SortRuns
import PyProof.TupleIter
import PyProof.Dict
import KE.KDictSum
import PyProof.Rows.SetFrom
import PyProof.SetRoads
import PyProof.Rows.Range3
import PyProof.WalksMore
import PyProof.TupleOfSeq
import PyProof.EnumMake
import PyProof.SliceList
import PyProof.MinMaxWalk
import PyProof.Rows.EnumRows
import PyProof.WalkInts
import PyProof.Rows.SeqCalls
import KE.KRevIter
import PyProof.CollectIter
import PyProof.TupleOfGen
import PyProof.Rows.FactsT2
import PyProof.ListRange
import PyProof.Rows.CallKwBuiltin
import PyProof.ZipIter
import PyProof.Rows.ZipGen
import PyProof.Rows.RuleM_int
import PyProof.Rows.AssignMoreSeq
import KE.KIntText
import PyProof.Rows.StrKeys3
import PyProof.StrBlock
import PyProof.StrCalls2
import PyProof.StrWalks
import PySem.Challenge.RW_guardround_k43_apart_and_clubs
set_option Elab.async false
set_option linter.all false
set_option maxRecDepth 100000
set_option maxHeartbeats 8000000
def qX{c:Prop}{h:Decidable c}(hc:c){α:Sort u}{t e:α}:ite c t e=t:=if_pos hc
def qY{c:Prop}{h:Decidable c}(hc:Not c){α:Sort u}{t e:α}:ite c t e=e:=if_neg hc
def wX{p:Prop}[i:Decidable p](h:p):decide p=true:=decide_eq_true h
def wY{p:Prop}[i:Decidable p](h:Not p):decide p=false:=decide_eq_false h
def zX{a b:Prop}(h:a)(n:Not a):b:=absurd h n
noncomputable section
open Array renaming getD_eq_getD_getElem?->E7,getElem?_eq_getElem->Q5,getElem?_toList->E3,length_toList->Bd,mem_extract_iff_getElem->OX,mem_of_getElem?->Ct,mem_toList_iff->BY,perm_iff_toList_perm->FJ,toList->iE,toList_append->BM,toList_map->Jt,toList_modify->WJ,toList_push->JU,toList_reverse->FI,toList_setIfInBounds->Qd
open Array.Perm renaming refl->NE
open Bool renaming and_eq_true->Hj,and_false->gP,and_true->iD,false_eq_true->Dj,false_ne_true->AZ,false_or->iC,not_eq_true'->Y4,not_true->iB,true_and->iA
open Classical renaming axiomOfChoice->QP
open Eq renaming trans->C0
open False renaming elim->D5
open ForInStep renaming yield->He
open Int renaming emod_lt_of_pos->NN,emod_nonneg->QZ,emod_two_eq->gM,fdiv_eq_ediv_of_nonneg->Ru,le_antisymm->IM,le_of_lt->lC,le_refl->nX,lt_of_le_of_lt->Y2,lt_of_lt_of_le->Y1,natCast_add->gK,natCast_nonneg->Y0,toNat_natCast->Bx,toNat_of_nonneg->Bg,zero_add->OI
open List renaming Nodup->ND,all_cons->hX,all_eq_true->ES,all_map->Uk,any_cons->Hn,any_eq_true->ER,any_map->kh,any_toArray->KL,append_assoc->BN,append_nil->BW,dropLast_eq_take->Uy,drop_drop->Q3,drop_eq_getElem_cons->Fj,drop_eq_nil_of_le->Uj,ext_getElem?->DN,extract->Nu,filterMap_cons->MH,filterMap_cons_none->GV,filterMap_cons_some->GU,filter_eq_self->XN,filter_map->bx,filter_sublist->F0,find?_cons->BV,find?_eq_none->Iu,find?_isSome->Yz,flatMap_append->XM,flatMap_cons->Yy,flatMap_def->bi,flatten_append->IL,forIn_cons->bw,forIn_nil->gH,getElem?_append_left->Aa,getElem?_append_right->BK,getElem?_drop->Gf,getElem?_eq_getElem->BR,getElem?_eq_none->BJ,getElem?_eq_none_iff->Bq,getElem?_eq_some_iff->AF,getElem?_map->AN,getElem?_range->BU,getElem?_replicate->DM,getElem?_set->FB,getElem?_set_ne->AW,getElem?_set_self->Ao,getElem?_take_of_lt->TF,getElem?_zipIdx->WF,getElem_of_mem->MF,length->Gh,length_append->Ad,length_cons->A8,length_drop->Hi,length_erase_of_mem->TD,length_filter_le->LC,length_map->AC,length_nil->IH,length_pos_of_mem->Ui,length_replicate->LB,length_reverse->XJ,length_set->DQ,length_singleton->Cu,length_take->Cz,lookup->Hx,lookup_cons->Cd,map->Ir,mapM_toArray->Yx,map_append->A2,map_congr_left->CG,map_cons->A5,map_id->Oy,map_id'->kg,map_map->Ax,map_nil->KW,map_reverse->bh,mem_append->Ae,mem_append_left->Az,mem_append_right->A4,mem_cons->Aw,mem_cons_of_mem->Aj,mem_cons_self->A1,mem_filter->BH,mem_filterMap->Yq,mem_flatMap->OV,mem_flatten->OU,mem_iff_getElem->WE,mem_map->Ag,mem_map_of_mem->XI,mem_of_find?_eq_some->Rs,mem_of_getElem?->BD,mem_of_mem_take->WD,mem_range->EQ,mem_reverse->bg,mem_singleton->AO,mergeSort_nil->Yp,mergeSort_perm->XH,nodup_append->B3,nodup_cons->CW,nodup_nil->FX,nodup_range->bf,not_mem_nil->Bl,of_mem_zip->QN,pairwise_append->BZ,pairwise_cons->Yo,pairwise_iff_getElem->Rr,pairwise_map->Bv,pairwise_mergeSort->TN,pairwise_reverse->LA,pairwise_singleton->KJ,perm_append_comm->Ux,range->BA,range_succ->Ka,range_succ_eq_map->Uh,replicate->Be,reverse_cons->JY,set_set->kf,singleton_append->Hd,size_toArray->AU,take_add_one->Nt,take_append_drop->E6,take_length->Cc,take_of_length_le->Eb,take_sublist->Yw,zipIdx_nil->bv
open List.Pairwise renaming imp_of_mem->FC,nil->Q4
open List.Perm renaming append_left->Js,append_right->QY,flatMap_right->QO,of_eq->WG
open List.Sublist renaming refl->nV
open Nat renaming add_le_add_left->Co,add_zero->Uw,le_of_eq->lB,le_of_lt->OH,le_of_not_lt->Ox,le_refl->AQ,le_succ->G2,le_trans->At,lt_irrefl->E5,lt_of_le_of_lt->Ay,lt_of_lt_of_le->Ab,lt_succ_of_lt->HC,lt_succ_self->Df,lt_trans->lA,min_le_right->Ow,min_self->kz,ne_of_gt->OG,ne_of_lt->Aq,not_lt->Hm,not_lt_zero->Ge,succ_ne_self->bu,zero_add->HB,zero_le->Cr
open Nat.succ renaming inj->Jo
open Ne renaming symm->CB
open Option renaming bind_some->Ac,getD_some->Nr,isSome_iff_exists->JT,isSome_map->G1,map->kd
open Option.some renaming inj->CJ
open Or renaming inl->MD,inr->K7
open Prod renaming ext->gF
open PyProof.Rows renaming AllBare->Ja,IntsAre->nU,Keyed->As,SetOf_congr->nT,SortKind->GF,SortSt->BP,Subscript_->g7,arrOf->AV,boot_all->nS,boot_any->nR,boot_bool->nQ,boot_int->nP,boot_isinstance->nO,boot_list->Fy,boot_max->nN,boot_min->nM,boot_range->g0,boot_set->nL,boot_sorted->nK,boot_sum->nJ,boot_tuple->Ik,bubble->gz,callWith_builtin1->LW,callWith_type1->Br,codeAny_set_update_loopS->nI,elem'_eq->bq,envOfC->Lh,failedOf->Il,firstMet->EO,firstMet_succ->nH,firstOfTuple'->XE,general'->Ur,listUpdate_at->XD,ltAt'->kU,mirror->Jq,mirror_perm->TC,pairsOf->KU,pendingOf->AX,reverseSlice'->OT,reverseSlice'_eq->LN,seqEpoch_at->bp,seqObj->JG,setObjOf_fresh->nG,sortedHeap->gv,step_dedup->nF,subscriptTail->XB,subscriptTail_builtinR->Ys,tuples'->kR,wpS_bind->AL,wpS_forRange->CD,wpS_get->Hk,wpS_modify->DZ,wpS_mono->DR,wpS_pure->AM
open PyProof.Rows.IntsAre renaming int_at->Yn
open PyProof.Rows.IsTup renaming new->nW
open PyProof.Rows.SortSt renaming mk'->HS
open PySem renaming Addr->AK,Around->BC,BindsTo->Um,CmpOp->OW,DictEntry->IN,FuncData->Dg,GenState->Qa,Heap->B7,IsEnum->Rt,Keyword->JZ,NameKind->QX,Paired->FZ,PassesOwn->Rq,Program->Al,Result->g8,Scope->Im,Shared->AG,Stmt->Ce,Value->AE,Within->TM,World->BE,again->kX,assign->Ot,assignEach->FA,atKey->Ut,attributeBase->Cb,backTo->Da,backToKw->Us,behindInMarks->B9,binaryOp->Cj,bindC->Yk,bindL->Yj,bootBuiltins->E9,builtinsNs->gy,cLine->Dm,call->XF,call_meets->Os,callerA->QS,cellsFrom->ku,codeAny->Li,codeAny_mono->JW,compareOp->Bi,concat_meets->Yv,eval->Bw,evalArgs_none->V8,firstArgMember->NK,foldedSetIterable->Fi,getItem->Yu,holding->kW,intKind->Yt,isTrue->Uq,keywordEach->NJ,lastMarks->Yi,letOwnedTupleGo->MC,mainGlobals->Ah,mem_of_lookup->EL,model->Af,noFill_tuple_add->Rj,preSum->gw,pyIter->Uo,pyNext->Ri,rawInt->NI,relabel->JV,scanBound->Rh,seq_tuple_add->XC,sizeLine_eq->TB,sliceBounds->bo,slot_list_getitem->kT,spliced->Ud,standAt->kS,starEach->AS,subscripted->Sz,swapsWith->Gb,sysModules->DD,truthy->gu,tupleKind->Rg,tupleKind_room_in1->Jp,valueAt->QR,wpAny->Av,wpAny_Call_Name_kw->DC,wpAny_Call_method0_late->Yh,wpAny_Dict_empty->kt,wpAny_Name->gt,wpAny_assign_Name->kQ,wpAny_attempt->OS,wpAny_bind->AH,wpAny_call->gs,wpAny_callSpecial?_slot->Er,wpAny_call_entry->Ep,wpAny_comprehension_free->XA,wpAny_dictEntries->QQ,wpAny_dictEpoch->TK,wpAny_eqBool_int->kr,wpAny_execs_cons->kn,wpAny_execs_nil->MB,wpAny_field->NH,wpAny_fieldsOf->NG,wpAny_holding->W9,wpAny_isInstance->km,wpAny_isOneOf_keyiter->MK,wpAny_isTrue_Compare1->bd,wpAny_loadPart'->G6,wpAny_mono->HA,wpAny_newObj_type->Fh,wpAny_passesOwn->FH,wpAny_pure->AY,wpAny_pyIter_enum->KS,wpAny_pyIter_keyiter->bn,wpAny_pyIter_list->kP,wpAny_pyIter_tuple->E8,wpAny_rule->gr,wpAny_setField->NF,wpAny_truthy_bool->CN,wpAny_typeNameOfWhole_keyiter->E4,wpAny_typeNameOf_keyiter->G3
open PySem.Around renaming under->TJ
open PySem.Builtin renaming bitAnd->Gi
open PySem.Builtin.Dict renaming dictSlotNone->nZ,showsAll->Oz
open PySem.Builtin.Dict_items renaming ownsTuple->KY
open PySem.Builtin.Frozenset renaming updateFrom->b0
open PySem.Builtin.List renaming listItems->Iv,listTooLong->Di
open PySem.Builtin.Range renaming rangeSize->Nv
open PySem.Builtin.SmallTypes renaming nextOf->EX
open PySem.Calls renaming Name_function_global->Qb,callWith_builtin->G5,evalArgs_plain->U0,spliced_cons->Gc,spliced_nil->G4
open PySem.Challenge renaming pw_guardround_k43_apart_and_clubs->g9,rw_guardround_k43_apart_and_clubs->HU
open PySem.Code renaming frames->lD,isFrame->Ul
open PySem.Data renaming cell->bm,fields->WI
open PySem.F renaming args_dict_keyiterator_next_1->LO,args_list_extend_2->Y3,args_tuple_add_2->JH,args_tuple_iterator_next_1->Rv,called_set->GH,entry_dict_keyiterator_next->LV,entry_list_extend->bj,entry_tuple_add->JX,entry_tuple_iterator_next->TH,plainAttrs_dict->Q2,plainAttrs_list->EB,slot_dict_iter->Rp,slot_dict_keyiterator_next->CV,slot_dict_update->QW,slot_dict_values->QV,slot_enumerate_next->Yr,slot_list_extend->QU,slot_list_extend->bz,slot_tuple_add->Jr,slot_tuple_iterator_next->Fk,type_list_extend->QT
open PySem.Heap renaming ExtBut->WH,SameBut->Ec,get?_push_of_some->AJ,get?_push_size->Ak,get?_update_ne->XO,get?_update_self->Uz,lt_size->Ai,size_push->C5
open PySem.Heap.IsSliceOf renaming new->kj
open PySem.Heap.SameBut renaming refl->nY,update->HD
open PySem.IsRange renaming new->gJ
open PySem.NameKind renaming free->Iq
open PySem.Obj renaming cls_mapFields->be,data_mapFields->JI,isFreed_of_fields->WC,mapFields->ke,mapSeq->Hl
open PySem.Paired renaming length->Dz,snoc->Ug
open PySem.SeqAt.EqAt renaming of_refs->kl
open PySem.SeqAt.RcAt renaming lists->nD,lists_lengths->Yl,tuples->V7
open PySem.SeqAt.RcNeAt renaming lists->gD,lists_lengths->Ue,tuples->br
open PySem.Str renaming ofString->KZ
open PySem.Value renaming bool->MM,bytes->kc,float->Uu,int->OD,isInt->kb,isStrOf->gC,none->Ck,ref->BB,str->OC,type->EZ
open PySem.W renaming Frag->AA,callWith_K->Uv,cellsFrom_some->Ro,codeIn->Ov,emptyDict->Cf,findIn->EA,fnOf->IB,handedIn->XG,hasDictIn->MP,instObj->Do,kdu_collect->Uf,keepIn->Gg,kia_one->CT,kitOne->Db,kitx_dict->WB,kitx_list->WA,lookIn->Ou,makesIn->Ym,methodObj->MN,mg_none_of->DE,mg_of->EN,nsIn->EM,plainGet->NM,plainOver->V9,takerIn->OF
open PySem.W.Looks renaming here->kx
open PySem.W.WData renaming int->nC
open PySem.W.WShape renaming has->kZ
open PySem.Walks renaming tuple->kY
open PySem.Within renaming cons->nE
open Sum renaming inl->CL,inr->OE
open Sum.inl renaming inj->TL
open True renaming intro->Cy
namespace L2
open PySem PySem.Spec PyProof.Rows
abbrev Key:=Sum Int Str
def RO:Key->AE->Bool
 | .inl k,v=>kb k v
 | .inr x,v=>gC x v
def keyH(w:BE):Key->Int
 | .inl k=>hashInt k
 | .inr x=>hashStr w x
def C4:∀{k:Key} {v:AE},RO k v=true->(∃i t,k=CL i/\v=OD i t)∨(∃x t,k=OE x/\v=OC x t)
 | .inl i,v,h=>by
  obtain⟨t,e⟩:=AE.isInt_shape (k:=i) (v:=v) h;exact .inl ⟨i,t,rfl,e⟩
 | .inr x,v,h=>by
  obtain⟨t,e⟩:=AE.isStrOf_shape (x:=x) (v:=v) h;exact .inr ⟨x,t,rfl,e⟩
def X5(i:Int)(t:Tok):RO (.inl i) (.int i t)=true:=by simp[RO,kb]
def X4(x:Str)(t:Tok):RO (.inr x) (.str x t)=true:=by simp[RO,gC]
def jp(a b:Int):decide ((CL a:Key)=CL b)=(a==b):=by
 by_cases e:a=b
 ·subst e;simp
 ·have h:¬(CL a:Key)=CL b:=λq=>e (TL q)
  rw[wY h];exact(beq_eq_false_iff_ne.mpr e).symm
def jm(a b:Str):decide ((OE a:Key)=OE b)=decide (a=b):=by
 by_cases e:a=b
 ·subst e;simp
 ·have h:¬(OE a:Key)=OE b:=λq=>e (OE.inj q)
  rw[wY h,wY e]
def jo(a:Int)(b:Str):decide ((CL a:Key)=OE b)=false:=wY (λq=>nomatch q)
def jn(a:Str)(b:Int):decide ((OE a:Key)=CL b)=false:=wY (λq=>nomatch q)
def Cv(prog:Al)(w:BE):PySem.KeyKind prog w Key where
 is:=RO
 hash:=keyH w
 inj:=λv a b ha hb=>by
  rcases C4 ha with⟨i,t,rfl,rfl⟩ | ⟨x,t,rfl,rfl⟩
  ·rcases C4 hb with⟨j,u,rfl,e⟩ | ⟨y,u,rfl,e⟩
   ·injection e with e1 _;rw[e1]
   ·exact nomatch e
  ·rcases C4 hb with⟨j,u,rfl,e⟩ | ⟨y,u,rfl,e⟩
   ·exact nomatch e
   ·injection e with e1 _;rw[e1]
 byValue:=λk v h=>by
  rcases C4 h with⟨i,t,rfl,rfl⟩ | ⟨x,t,rfl,rfl⟩ <;> rfl
 pyHash:=λhv h=>by
  rcases C4 hv with⟨i,t,rfl,rfl⟩ | ⟨x,t,rfl,rfl⟩
  ·exact wpAny_pyHash_int h
  ·exact wpAny_pyHash_str h
 eqBool:=λhu hv h=>by
  rcases C4 hu with⟨i,t,rfl,rfl⟩ | ⟨x,t,rfl,rfl⟩
  ·rcases C4 hv with⟨j,u,rfl,rfl⟩ | ⟨y,u,rfl,rfl⟩
   ·rw[jp]at h;exact kr h
   ·rw[jo]at h;exact SeqAt.EqAt.int_str i t y u _ _ _ _ h
  ·rcases C4 hv with⟨j,u,rfl,rfl⟩ | ⟨y,u,rfl,rfl⟩
   ·rw[jn]at h;exact SeqAt.EqAt.str_int x t j u _ _ _ _ h
   ·rw[jm]at h;exact wpAny_eqBool_str h
 «strs»:=λk x t v h=>by
  rcases C4 h with⟨i,u,rfl,e⟩ | ⟨y,u,rfl,e⟩
  ·exact nomatch e
  ·injection e with e1 _
   subst e1
   cases v <;> rfl
def UD(prog:Al)(w:BE)(i:Int)(t:Tok):(Cv prog w).is (.inl i) (.int i t)=true:=X5 i t
def UC(prog:Al)(w:BE)(x:Str)(t:Tok):(Cv prog w).is (.inr x) (.str x t)=true:=X4 x t
inductive V where
 | non | bl (b:Bool) | int (i:Int) | str (x:Str) | byt (b:Array UInt8) | flt (b:UInt64) | ref (a:AK) | ty (n:String)
 deriving DecidableEq
def RelV:V->AE->Prop
 | .non,u=>u=Ck
 | .bl b,u=>u=MM b
 | .int i,u=>∃t,u=OD i t
 | .str x,u=>∃t,u=OC x t
 | .byt b,u=>∃t,u=kc b t
 | .flt b,u=>∃t,u=Uu b t
 | .ref a,u=>u=BB a
 | .ty n,u=>u=EZ n
abbrev Bk:List V->List AE->Prop:=FZ RelV
def Bk.length{xs:List V}{us:List AE}(r:Bk xs us):xs.length=us.length:=Dz r
def Bk.get:∀{xs:List V} {us:List AE} {i:Nat} {x:V},Bk xs us->xs[i]?=some x->∃u,us[i]?=some u/\RelV x u
 | _,_,_,_,.nil,e=>by simp at e
 | _,_,0,_,.cons r _,e=>by simp at e;subst e;exact⟨_,rfl,r⟩
 | _,_,i+1,x,.cons _ t,e=>by
  obtain⟨u,h1,h2⟩:=Bk.get (i:=i) (x:=x) t (by simpa using e);exact⟨u,by simpa using h1,h2⟩
def Bk.append:∀{xs ys:List V} {us ws:List AE},Bk xs us->Bk ys ws->Bk (xs++ys) (us++ws)
 | _,_,_,_,.nil,s=>s
 | _,_,_,_,.cons r t,s=>.cons r (Bk.append t s)
def Nq:Option V->Option AE->Prop
 | some v,some u=>RelV v u
 | none,none=>True
 | _,_=>False
def KV{κ:Type}:List (κ×V)->List (κ×AE)->Prop:=FZ λ(p:κ×V) (q:κ×AE)=>p.1=q.1/\RelV p.2 q.2
def kV:Key->V
 | .inl i=>.int i
 | .inr x=>.str x
inductive HO where
 | lst (xs:List V)
 | tup (xs:List V)
 | dK (kvs:List (Key×V)) | dT (kvs:List (List Key×V))
 | set (S:Int->Bool) (n:Nat)
 | ins (C dx:AK) (fs:List (Str×V))
 | own (x:AK)
 | xd (fs:List (Str×V))
 | met (f x:AK)
 | rng (lo hi:Int)
 | frz (o:Obj) (u:HO)
 | tbl (ps:Array AE)
 | ext (φ:B7->Prop)
abbrev Hp:=AK->Option HO
def upd(H:Hp)(a:AK)(o:HO):Hp:=λb=>if b=a then some o else H b
def Bm{H:Hp}{a:AK}{o:HO}:upd H a o a=some o:=by unfold upd;rw[qX rfl]
def Bc{H:Hp}{a b:AK}{o:HO}(h:b≠a):upd H a o b=H b:=by unfold upd;rw[qY h]
def lz{H:Hp}{a b:AK}{o u:HO}(h:H a=some o)(h':H b=some u)(d:o≠u):a≠b:=by
 intro e;subst e;rw[h]at h';exact d (CJ h')
def CP{H:Hp}{a b:AK}{o:HO}(h:H a=some o)(h':H b=none):a≠b:=by
 intro e;subst e;rw[h]at h';cases h'
section
variable(P:Al)(w:BE)
def CU(H:Hp)(h:B7)(a:AK):HO->Prop
 | .lst xs=>xs.length<=sizeLine/\∃(its:List AE) (n:Nat),Bk xs its/\h.get? a=some { cls:=.type "list",data:=.seq its.toArray n }
 | .tup xs=>(xs.length<=sizeLine/\∃o,h.get? a=some o/\o.dict=none)/\∃its:List AE,Bk xs its/\IsTup h a its.toArray
 | .dK kvs=>kvs.length<=sizeLine/\(a==DD)=false/\∃vs,KV kvs vs/\h.DictOf (Cv P w) a vs
 | .dT kvs=>kvs.length<=sizeLine/\(a==DD)=false/\∃xs:List (List Key×AK×AE),
   FZ (λ(p:List Key×V) (q:List Key×AK×AE)=>p.1=q.1/\H q.2.1=some (.tup (p.1.map kV))/\RelV p.2 q.2.2) kvs xs /\
   ∃o es ep,h.get? a=some o/\o.ExactDict/\o.data=.dict es ep/\es.toList=xs.map (entryOfKey (Rg (Cv P w)))/\(xs.map (·.1)).Nodup
 | .set S n=>h.SetOf (Yt P w) a S n
 | .ins C dx fs=>H dx=some (.own a)/\fs.length<=1000/\dx≠a/\h.get? a=some (Do C dx) /\
   ∃mA,h.Ns1 dx mA/\(∀f,Nq (fs.lookup f) (mA f))/\TM mA (fs.map (·.1))
 | .own _=>∃o,h.get? a=some o
 | .xd fs=>∃mA,h.Ns1 a mA/\∀f,Nq (fs.lookup f) (mA f)
 | .rng lo hi=>∃t u v,h.get? a=some { cls:=.type "range",data:=.fields #[.int lo t,.int hi u,.int 1 v] }
 | .frz o u=>h.get? a=some o/\CU H h a u
 | .tbl ps=>h.get? a=some { cls:=.none,data:=.fields ps }
 | .met f x=>h.get? a=some (MN (.ref f) (.ref x))
 | .ext φ=>φ h/\(∃o,h.get? a=some o)/\∀h1 h2:B7,φ h1->(∀o,h1.get? a=some o->h2.get? a=some o)->φ h2
def HOk(H:Hp)(h:B7):Prop:=∀a o,H a=some o->CU P w H h a o
end
section
variable{P:Al}{w:BE}{H H':Hp}{h h':B7}{a:AK}{o:HO}
def CU.lt(x:CU P w H h a o):a < h.objs.size:=by
 cases o with
 | lst xs=>obtain⟨_,_,_,_,e⟩:=x;exact Ai e
 | tup xs=>obtain⟨_,_,_,p⟩:=x;exact p.lt
 | dK kvs=>obtain⟨_,_,_,_,o,_,_,e,_⟩:=x;exact Ai e
 | dT kvs=>obtain⟨_,_,_,_,o,_,_,e,_⟩:=x;exact Ai e
 | set S n=>obtain⟨o,_,_,_,e,_⟩:=x;exact Ai e
 | ins C dx fs=>obtain⟨_,_,_,e,_⟩:=x;exact Ai e
 | own y=>obtain⟨_,e⟩:=x;exact Ai e
 | xd fs=>obtain⟨_,⟨_,_,_,e,_⟩,_⟩:=x;exact Ai e
 | rng lo hi=>obtain⟨_,_,_,e⟩:=x;exact Ai e
 | frz ob u=>obtain⟨e,_⟩:=x;exact Ai e
 | tbl ps=>exact Ai (show h.get? a=some _ from x)
 | met f y=>exact Ai (show h.get? a=some _ from x)
 | ext φ=>obtain⟨_,⟨_,e⟩,_⟩:=x;exact Ai e
def FZ.mapP{α β:Type}{F G:α->β->Prop}:∀{l₁:List α} {l₂:List β},FZ F l₁ l₂->(∀a b,F a b->G a b)->FZ G l₁ l₂
 | _,_,.nil,_=>.nil
 | _,_,.cons r t,f=>.cons (f _ _ r) (FZ.mapP t f)
def CU.stay(x:CU P w H h a o)(k:∀b u,(b=a∨H b=some (.own a))->h.get? b=some u->h'.get? b=some u)
  (ho:∀b,H b=some (.own a)->H' b=some (.own a)) (ht:∀b xs,H b=some (.tup xs)->H' b=some (.tup xs)):CU P w H' h' a o:=by
 induction o with
 | lst xs=>obtain⟨z,its,n,r,e⟩:=x;exact⟨z,its,n,r,k _ _ (.inl rfl) e⟩
 | tup xs=>obtain⟨⟨z,o2,e2,c2⟩,its,r,ob,e,c⟩:=x;exact⟨⟨z,o2,k _ _ (.inl rfl) e2,c2⟩,its,r,ob,k _ _ (.inl rfl) e,c⟩
 | dK kvs=>obtain⟨z,y,vs,r,ob,es,ep,e,c⟩:=x;exact⟨z,y,vs,r,ob,es,ep,k _ _ (.inl rfl) e,c⟩
 | dT kvs=>
  obtain⟨z,y,xs,r,ob,es,ep,e,c⟩:=x;exact⟨z,y,xs,FZ.mapP r λp q z=>⟨z.1,ht _ _ z.2.1,z.2.2⟩,ob,es,ep,k _ _ (.inl rfl) e,c⟩
 | set S n=>obtain⟨ob,es,ep,t,e,c⟩:=x;exact⟨ob,es,ep,t,k _ _ (.inl rfl) e,c⟩
 | ins C dx fs=>
  obtain⟨d,z,ne,e,mA,⟨od,es,ep,e2,c⟩,r⟩:=x;exact⟨ho _ d,z,ne,k _ _ (.inl rfl) e,mA,⟨od,es,ep,k _ _ (.inr d) e2,c⟩,r⟩
 | own y=>obtain⟨ob,e⟩:=x;exact⟨ob,k _ _ (.inl rfl) e⟩
 | xd fs=>obtain⟨mA,⟨od,es,ep,e,c⟩,r⟩:=x;exact⟨mA,⟨od,es,ep,k _ _ (.inl rfl) e,c⟩,r⟩
 | rng lo hi=>obtain⟨t,u,v,e⟩:=x;exact⟨t,u,v,k _ _ (.inl rfl) e⟩
 | frz ob u ih=>obtain⟨e,q⟩:=x;exact⟨k _ _ (.inl rfl) e,ih q⟩
 | tbl ps=>
  have e:h.get? a=some { cls:=.none,data:=.fields ps }:=x;show h'.get? a=some { cls:=.none,data:=.fields ps };exact k a _ (.inl rfl) e
 | met f y=>
  have e:h.get? a=some (MN (.ref f) (.ref y)):=x;show h'.get? a=some (MN (.ref f) (.ref y));exact k a _ (.inl rfl) e
 | ext φ=>obtain⟨p,⟨o,e⟩,st⟩:=x;exact⟨st _ _ p λo q=>k _ _ (.inl rfl) q,⟨o,k _ _ (.inl rfl) e⟩,st⟩
def HOk.lt(x:HOk P w H h)(e:H a=some o):a < h.objs.size:=(x a o e).lt
def HOk.fresh(x:HOk P w H h)(e:h.objs.size<=a):H a=none:=by
 cases q:H a with
 | none=>rfl
 | some u=>exact zX (Ab (x.lt q) e) (E5 _)
def HOk.kept(x:HOk P w H h)(k:∀b u,h.get? b=some u->h'.get? b=some u):HOk P w H h':=λa o e=>
 (x a o e).stay (λb u _ q=>k b u q) (λ_ q=>q) λ_ _ q=>q
def HOk.laid(x:HOk P w H h)(k:∀b u,h.get? b=some u->h'.get? b=some u)(hp:h.objs.size<=a)(new:CU P w (upd H a o) h' a o):HOk P w (upd H a o) h':=λb u e=>by
 have hn:=x.fresh hp
 by_cases hb:b=a
 ·subst hb;rw[Bm]at e;cases e;exact new
 ·rw[Bc hb]at e
  exact(x b u e).stay (λc v _ q=>k c v q) (λc q=>by rw[Bc (CP q hn)];exact q) λc xs q=>by rw[Bc (CP q hn)];exact q
end
def Rd(H:Hp)(a:AK)(u:HO):Prop:=H a=some u∨∃o,H a=some (.frz o u)
def Rd.ok{P:Al}{w:BE}{H:Hp}{h:B7}{a:AK}{u:HO}(r:Rd H a u)(x:HOk P w H h):CU P w H h a u:=by
 rcases r with r | ⟨o,r⟩
 ·exact x a u r
 ·obtain⟨_,q⟩:=x a _ r
  exact q
def Mut:Option HO->Prop
 | some (.lst _)=>True
 | some (.dK _)=>True
 | some (.dT _)=>True
 | some (.set _ _)=>True
 | some (.ins _ _ _)=>True
 | some (.ext _)=>True
 | _=>False
section
variable{P:Al}{w:BE}{H:Hp}{h h':B7}{x e:AK}{o':HO}
def HOk.write(ok:HOk P w H h)(mu:Mut (H x))(he:e=x∨H e=some (.own x))(k:∀b u,b≠e->h.get? b=some u->h'.get? b=some u)(heo:∃u,h'.get? e=some u)
  (new:CU P w (upd H x o') h' x o'):HOk P w (upd H x o') h':=λb u q=>by
 have nown:∀c y,H c=some (.own y)->c≠x:=λc y r z=>by subst z;rw[r]at mu;exact mu
 have ntup:∀c xs,H c=some (.tup xs)->c≠x:=λc xs r z=>by subst z;rw[r]at mu;exact mu
 by_cases hb:b=x
 ·subst hb;rw[Bm]at q;cases q;exact new
 ·rw[Bc hb]at q
  by_cases hbe:b=e
  ·have q':H b=some (.own x):=by
    rcases he with z | z
    ·exact zX (hbe.trans z) hb
    ·rw[hbe];exact z
   rw[q]at q';cases q';obtain⟨v,hv⟩:=heo;exact⟨v,by rw[hbe];exact hv⟩
  ·refine(ok b u q).stay (λc v hc r=>k c v ?_ r) (λc r=>by rw[Bc (nown c b r)];exact r) λc xs r=>by rw[Bc (ntup c xs r)];exact r
   rcases hc with rfl | hc
   ·exact hbe
   ·rintro rfl
    rcases he with z | z
    ·exact nown c b hc z
    ·rw[hc]at z;cases z;exact hb rfl
end
structure Un(fs ex:List AK)(H H':Hp)(h h':B7):Prop where
 keep:∀b o,h.get? b=some o->H b=none->b∉fs->b∉ex->h'.get? b=some o
 slot:∀b o,h.get? b=some o->H b=none->b∈fs->b∉ex->∃sl,h'.get? b=some { o with slots:=sl }
 free:∀b o,h.get? b=some o->H b=none->b∉ex->H' b=none
 there:∀b o,h.get? b=some o->b∉ex->∃o',h'.get? b=some o'
 tups:∀b xs,H b=some (.tup xs)->H' b=some (.tup xs)
 frzs:∀b o u,H b=some (.frz o u)->H' b=some (.frz o u)
 tbls:∀b ps,H b=some (.tbl ps)->∃more,H' b=some (.tbl (ps++more))
section
variable{fs fs' ex ex':List AK}{H H1 H2:Hp}{h h1 h2 h':B7}{a x e:AK}{o:HO}
def Un.any(u:Un fs ex H H1 h h1){b:AK}{ob:Obj}(q:h.get? b=some ob)(n:H b=none)(hx:b∉ex):∃sl,h1.get? b=some { ob with slots:=sl }:=by
 by_cases hb:b∈fs
 ·exact u.slot b ob q n hb hx
 ·exact⟨ob.slots,u.keep b ob q n hb hx⟩
def Un.kept(k:∀b u,h.get? b=some u->h'.get? b=some u):Un fs ex H H h h':=
 ⟨λb ob q _ _ _=>k b ob q,λb ob q _ _ _=>⟨ob.slots,k b ob q⟩,λ_ _ _ n _=>n,λb ob q _=>⟨ob,k b ob q⟩,λ_ _ q=>q,λ_ _ _ q=>q,λ_ ps q=>⟨#[],by rw[q];simp⟩⟩
def Un.refl:Un fs ex H H h h:=Un.kept λ_ _ q=>q
def Un.laid(k:∀b u,h.get? b=some u->h'.get? b=some u)(hp:h.objs.size<=a)(hn:H a=none):Un fs ex H (upd H a o) h h' where
 keep:=λb u q _ _ _=>k b u q
 slot:=λb u q _ _ _=>⟨u.slots,k b u q⟩
 free:=λb u q n _=>by rw[Bc (Aq (Ab (Ai q) hp))];exact n
 there:=λb u q _=>⟨u,k b u q⟩
 tups:=λb xs q=>by rw[Bc (CP q hn)];exact q
 frzs:=λb u xs q=>by rw[Bc (CP q hn)];exact q
 tbls:=λb ps q=>⟨#[],by rw[Bc (CP q hn),q];simp⟩
def Un.write(mu:Mut (H x))(he:e=x∨H e=some (.own x))(k:∀b u,b≠e->h.get? b=some u->h'.get? b=some u)(heo:∃u,h'.get? e=some u):Un fs ex H (upd H x o) h h':=by
 have hx:∀b,H b=none->b≠x:=λb n z=>by subst z;rw[n]at mu;exact mu
 have hb:∀b,H b=none->b≠e:=λb n z=>by
  subst z
  rcases he with r | r
  ·exact hx b n r
  ·rw[n]at r;cases r
 have hm:∀b u,H b=some u->¬Mut (some u)->b≠x:=λb u q nm z=>by subst z;rw[q]at mu;exact nm mu
 refine⟨λb u q n _ _=>k b u (hb b n) q,λb u q n _ _=>⟨u.slots,k b u (hb b n) q⟩,λb u q n _=>by rw[Bc (hx b n)];exact n,λb u q _=>?_,
  λb xs q=>by rw[Bc (hm b _ q λz=>z)];exact q,λb u xs q=>by rw[Bc (hm b _ q λz=>z)];exact q,λb ps q=>⟨#[],by rw[Bc (hm b _ q λz=>z),q];simp⟩⟩
 by_cases hbe:b=e
 ·subst hbe;exact heo
 ·exact⟨u,k b u hbe q⟩
end
def trk(h:B7)(H:Hp):List AK:=(BA h.objs.size).filter λa=>(H a).isSome
def SZ(h:B7)(H:Hp):B7:=PySem.W.hideAll h (trk h H)
def YD(h:B7)(H:Hp):(SZ h H).objs.size=h.objs.size:=PySem.W.hideAll_size _ _
def ak{h:B7}{H:Hp}{b:AK}{o:Obj}(e:h.get? b=some o)(n:H b=none):(SZ h H).get? b=some o:=
 PySem.W.hideAll_get _ e λhm=>by
  have q:(H b).isSome=true:=(BH.mp hm).2;rw[n]at q;simp at q
def eI{h:B7}{H:Hp}{b:AK}{o:Obj}(e:(SZ h H).get? b=some o):h.get? b=some o/\H b=none:=by
 have e':h.get? b=some o:=PySem.W.of_hideAll (trk h H) e;refine⟨e',?_⟩
 cases q:H b with
 | none=>rfl
 | some x=>
  have hm:b∈trk h H:=BH.mpr ⟨EQ.mpr (Ai e'),by simp[q]⟩;have z:(SZ h H).get? b=none:=PySem.W.hideAll_none (trk h H) hm;rw[z]at e;cases e
structure Mod(K:AA)(mg:Str->Option AE)(base:B7):Prop where
 kin:K.In base
 glob:base.Ns Ah mg
 blt:∃mb,base.Ns gy mb/\∀x:Str,x≠"__name__"->mb x=E9 x
 nolimit:base.NoLimit
structure Cx where
 prog:Al
 w:BE
 K:AA
 mg:Str->Option AE
 base:B7
 A:BC
 N:List Str
 s₀:AG
 H₀:Hp
 env:Env
 outer:List Env
 stack:List Env
 ex:List AK
 fn:Str->Bool
 calm:Bool
 pn:List (AK×Obj)
 xe:AE->AG->Prop
def frs(l:List Env):List AK:=l.filterMap (·.frame)
abbrev Cx.fs(X:Cx):List AK:=frs X.outer
def Vis(sc:Im)(x:Str):Prop:=sc.names.lookup x=some .local∨sc.names.lookup x=some .cell∨sc.names.lookup x=some .free
def Loc(sc:Im)(x:Str):Prop:=sc.names.lookup x=some .local∨sc.names.lookup x=some .cell
def Look(env:Env)(h:B7)(m:Str->Option AE)(x:Str)(u:AE):Prop:=
 (env.kindOf x=some .local/\m x=some u)∨((env.kindOf x=some .cell∨env.kindOf x=some .free)/\∃c,env.cells.lookup x=some c/\h.IsCell c (some u))
structure Cx.Ok(X:Cx):Prop where
 mod:Mod X.K X.mg X.base
 kind:X.env.scope.kind=.function
 glob:X.env.globals=Ah
 blt:X.env.builtins=gy
 above:X.s₀.heap.objs.size<=X.env.locals
 inj:∀x y c,X.env.cells.lookup x=some c->X.env.cells.lookup y=some c->x=y
 has:∀x,(X.env.kindOf x=some .cell∨X.env.kindOf x=some .free)->∃c,X.env.cells.lookup x=some c
 cab:∀x c,X.fn x=true->X.env.cells.lookup x=some c->X.s₀.heap.objs.size<=c
 hd:X.calm=true->X.A.handled=none
 frames:X.A.frames=some X.stack
 stk:X.stack=X.outer∨(X.stack=X.env :: X.outer/\X.env.frame=some X.env.locals)
 exf:∀b∈X.ex,b≠X.env.locals/\∀x c,X.env.cells.lookup x=some c->c≠b
 bs:∀b o,X.base.get? b=some o->X.s₀.heap.get? b=some o/\X.H₀ b=none
 bsz:X.base.objs.size<=X.s₀.heap.objs.size
 noex:∀b o,X.base.get? b=some o->b∉X.ex
 exfs:∀b∈X.ex,b∉X.fs
 funs:X.s₀.heap.FunFrames X.base X.outer
 frf:∀b∈X.fs,X.H₀ b=none
structure Inv(X:Cx)(ζ:List (AK×Obj))(σ:List (Option V))(H:Hp)(s:AG):Prop where
 ok:X.Ok
 os:s.os=X.s₀.os
 bare:Ja s.gens
 base:Un X.fs X.ex X.H₀ H X.s₀.heap s.heap
 loc:∃m,s.heap.Ns X.env.locals m/\∀(i:Nat) (x:Str) (v:V),X.N[i]?=some x->σ[i]?=some (some v)->Vis X.env.scope x->∃u,RelV v u/\Look X.env s.heap m x u
 cell:∀x c,X.env.cells.lookup x=some c->∃v,s.heap.IsCell c v
 free:H X.env.locals=none
 freeC:∀x c,X.env.cells.lookup x=some c->H c=none
 pin:∀p∈X.pn++ζ,s.heap.get? p.1=some p.2/\H p.1=none/\p.1≠X.env.locals/\p.1∉X.fs/\∀v,p.2.data≠.cell v
 hok:HOk X.prog X.w H s.heap
 len:σ.length=X.N.length
section
variable{X:Cx}{ζ:List (AK×Obj)}{σ:List (Option V)}{H H':Hp}{s:AG}{h':B7}
def Cx.Ok.nofr(ok:X.Ok){b:AK}{o:Obj}(e:X.base.get? b=some o):b∉X.fs:=λhb=>by
 have:=(ok.funs.mem hb).1;rw[e]at this;cases this
def Inv.bs(I:Inv X ζ σ H s):∀b o,X.base.get? b=some o->s.heap.get? b=some o/\H b=none:=λb o e=>
 ⟨I.base.keep b o (I.ok.bs b o e).1 (I.ok.bs b o e).2 (I.ok.nofr e) (I.ok.noex b o e),I.base.free b o (I.ok.bs b o e).1 (I.ok.bs b o e).2 (I.ok.noex b o e)⟩
def Inv.bk(I:Inv X ζ σ H s):∀b o,X.base.get? b=some o->s.heap.get? b=some o:=λb o e=>(I.bs b o e).1
def Inv.mod(I:Inv X ζ σ H s):Mod X.K X.mg X.base:=I.ok.mod
def Inv.kIn(I:Inv X ζ σ H s):X.K.In s.heap:=I.ok.mod.kin.keeps I.bk
def Inv.lt(I:Inv X ζ σ H s):X.env.locals < s.heap.objs.size:=let ⟨_,hn,_⟩:=I.loc;hn.lt
def Inv.sz(I:Inv X ζ σ H s):X.s₀.heap.objs.size<=s.heap.objs.size:=At I.ok.above (OH I.lt)
def Inv.nofs(I:Inv X ζ σ H s){a:AK}(h:s.heap.objs.size<=a):a∉X.fs:=λhb=>by
 obtain⟨_,o,ho,_⟩:=I.ok.funs.mem hb;exact zX (Ab (Ai ho) (At I.sz h)) (E5 _)
def Inv.cne(I:Inv X ζ σ H s):∀x c,X.env.cells.lookup x=some c->c≠X.env.locals:=λx c e z=>by
 obtain⟨v,o,ho,hd⟩:=I.cell x c e;obtain⟨m,⟨o',es,ep,ho',hd',_⟩,_⟩:=I.loc;rw[z,ho']at ho;cases ho;rw[hd']at hd;cases hd
def Inv.funs(I:Inv X ζ σ H s):s.heap.FunFrames X.base X.outer:=by
 have all:∀(l:List Env),(∀b∈frs l,b∈X.fs)->X.s₀.heap.FunFrames X.base l->s.heap.FunFrames X.base l:=by
  intro l
  induction l with
  | nil=>intro _ _;trivial
  | cons env r ih=>
   intro hs hl;obtain⟨hk,⟨L,o,hf,hn,ho,hd⟩,hr⟩:=hl;have hL:L∈X.fs:=hs L (by unfold frs;rw[MH,hf];exact A1)
   obtain⟨sl,e⟩:=I.base.slot L o ho (I.ok.frf L hL) hL λz=>I.ok.exfs L z hL
   exact⟨hk,⟨L,_,hf,hn,e,hd⟩,ih (λb hb=>hs b (by unfold frs;rw[MH,hf];exact Aj _ hb)) hr⟩
 exact all X.outer (λ_ hb=>hb) I.ok.funs
def Inv.stack(I:Inv X ζ σ H s):s.heap.FunFrames X.base X.stack:=by
 rcases I.ok.stk with e | ⟨e,hf⟩
 ·rw[e];exact I.funs
 ·rw[e]
  obtain⟨m,hn,_⟩:=I.loc;refine .cons (by rw[I.ok.kind];decide) hf hn ?_ I.funs;exact B7.get?_none_of_le (At I.ok.bsz I.ok.above)
def Inv.stkSub(I:Inv X ζ σ H s):∀b∈frs X.stack,b∈X.env.locals :: X.fs:=λb hb=>by
 rcases I.ok.stk with e | ⟨e,hf⟩
 ·rw[e]at hb;exact Aj _ hb
 ·rw[e]at hb
  unfold frs at hb;rw[MH,hf]at hb;exact hb
def Inv.stkFree(I:Inv X ζ σ H s):∀b∈frs X.stack,H b=none:=λb hb=>by
 rcases Aw.mp (I.stkSub b hb)with e | hb
 ·rw[e];exact I.free
 ·obtain⟨_,o,ho,_⟩:=I.ok.funs.mem hb
  exact I.base.free b o ho (I.ok.frf b hb) λz=>I.ok.exfs b z hb
def Inv.step{g':Array Qa}{t':Nat}{d':Drawn}{ch:List AK}(I:Inv X ζ σ H s)
  (hch:∀b∈ch,(b∈X.ex∨X.s₀.heap.objs.size<=b)/\b≠X.env.locals/\(∀x c,X.env.cells.lookup x=some c->c≠b)/\∀p∈X.pn++ζ,p.1≠b)
  (keep:∀b o,b≠X.env.locals->b∉X.fs->b∉ch->s.heap.get? b=some o->H b=none->h'.get? b=some o)
  (slot:∀b o,b≠X.env.locals->b∈X.fs->b∉ch->s.heap.get? b=some o->H b=none->∃sl,h'.get? b=some { o with slots:=sl }) (free:∀b o,b∉ch->s.heap.get? b=some o->H b=none->H' b=none)
  (there:∀b o,b∉ch->s.heap.get? b=some o->∃o',h'.get? b=some o')
  (tups:∀b xs,H b=some (.tup xs)->H' b=some (.tup xs)) (frzs:∀b o u,H b=some (.frz o u)->H' b=some (.frz o u)) (tbls:∀b ps,H b=some (.tbl ps)->∃more,H' b=some (.tbl (ps++more)))
  (ns:∀m,s.heap.Ns X.env.locals m->h'.Ns X.env.locals m) (hok:HOk X.prog X.w H' h') (hg:Ja g') :
  Inv X ζ σ H' { s with heap:=h',gens:=g',drawn:=d',toks:=t' }:=by
 have neL:∀b o,X.s₀.heap.get? b=some o->b≠X.env.locals:=λb o e=>Aq (Ab (Ai e) I.ok.above)
 have neC:∀b o,X.s₀.heap.get? b=some o->b∉X.ex->b∉ch:=λb o e hx hb=>by
  rcases(hch b hb).1 with z | z
  ·exact hx z
  ·exact zX (Ab (Ai e) z) (E5 _)
 have cellK:∀x c,X.env.cells.lookup x=some c->∀v,s.heap.IsCell c v->h'.IsCell c v:=λx c e v ⟨o,ho,hd⟩=>by
  have nch:c∉ch:=λz=>(hch c z).2.2.1 x c e rfl
  by_cases hc:c∈X.fs
  ·obtain⟨sl,q⟩:=slot c o (I.cne x c e) hc nch ho (I.freeC x c e)
   exact⟨_,q,hd⟩
  ·exact⟨o,keep c o (I.cne x c e) hc nch ho (I.freeC x c e),hd⟩
 refine⟨I.ok,I.os,hg,⟨λb o e n hb hx=>?_,λb o e n hb hx=>?_,λb o e n hx=>?_,λb o e hx=>?_,λb xs e=>tups b xs (I.base.tups b xs e),λb o xs e=>frzs b o xs (I.base.frzs b o xs e),λb ps e=>?_⟩,?_,λx c e=>?_,?_,λx c e=>?_,λp hp=>?_,hok,I.len⟩
 ·exact keep b o (neL b o e) hb (neC b o e hx) (I.base.keep b o e n hb hx) (I.base.free b o e n hx)
 ·obtain⟨sl,e1⟩:=I.base.slot b o e n hb hx
  obtain⟨sl',e2⟩:=slot b _ (neL b o e) hb (neC b o e hx) e1 (I.base.free b o e n hx);exact⟨sl',e2⟩
 ·obtain⟨o',e1⟩:=I.base.there b o e hx
  exact free b o' (neC b o e hx) e1 (I.base.free b o e n hx)
 ·obtain⟨o',e1⟩:=I.base.there b o e hx
  exact there b o' (neC b o e hx) e1
 ·obtain⟨m1,e1⟩:=I.base.tbls b ps e
  obtain⟨m2,e2⟩:=tbls b _ e1;exact⟨m1++m2,by rw[e2,Array.append_assoc]⟩
 ·obtain⟨m,hn,hl⟩:=I.loc
  refine⟨m,ns m hn,λi x v e1 e2 e3=>?_⟩;obtain⟨u,r,l⟩:=hl i x v e1 e2 e3;refine⟨u,r,?_⟩
  rcases l with l | ⟨k,c,e,z⟩
  ·exact .inl l
  ·exact .inr ⟨k,c,e,cellK x c e _ z⟩
 ·obtain⟨v,z⟩:=I.cell x c e
  exact⟨v,cellK x c e v z⟩
 ·obtain⟨m,⟨o,_,_,ho,_⟩,_⟩:=I.loc
  exact free _ o (λz=>(hch _ z).2.1 rfl) ho I.free
 ·obtain⟨v,o,ho,hd⟩:=I.cell x c e
  exact free c o (λz=>(hch c z).2.2.1 x c e rfl) ho (I.freeC x c e)
 ·obtain⟨e,n,ne,nf,d⟩:=I.pin p hp
  have nch:p.1∉ch:=λz=>(hch p.1 z).2.2.2 p hp rfl
  exact⟨keep p.1 p.2 ne nf nch e n,free p.1 p.2 nch e n,ne,nf,d⟩
def Inv.un{t':Nat}(I:Inv X ζ σ H s)(u:Un X.fs [] H H' s.heap h')(hok:HOk X.prog X.w H' h'):Inv X ζ σ H' { s with heap:=h',toks:=t' }:=by
 obtain⟨m,⟨o,es,ep,ho,r⟩,_⟩:=id I.loc;obtain⟨sl,hL⟩:=u.any ho I.free (by simp)
 exact I.step (g':=s.gens) (d':=s.drawn) (ch:=[]) (λ_ z=>nomatch z) (λb o _ hb _ e n=>u.keep b o e n hb (by simp)) (λb o _ hb _ e n=>u.slot b o e n hb (by simp)) (λb o _ e n=>u.free b o e n (by simp)) (λb o _ e=>u.there b o e (by simp)) u.tups u.frzs u.tbls (λm' hm=>by
  obtain⟨o',es',ep',ho',r'⟩:=hm;rw[ho]at ho';cases ho'
  exact⟨_,es',ep',hL,r'⟩) hok I.bare
def Inv.call{g':Array Qa}{t':Nat}{d':Drawn}{ch:List AK}(I:Inv X ζ σ H s)(u:Un (frs X.stack) ch H H' s.heap h')(hok:HOk X.prog X.w H' h')(hg:Ja g')
  (hch:∀b∈ch,(b∈X.ex∨X.s₀.heap.objs.size<=b)/\b≠X.env.locals/\(∀x c,X.env.cells.lookup x=some c->c≠b)/\∀p∈X.pn++ζ,p.1≠b) :
  Inv X ζ σ H' { s with heap:=h',gens:=g',drawn:=d',toks:=t' }:=by
 obtain⟨m,⟨o,es,ep,ho,r⟩,_⟩:=id I.loc
 obtain⟨sl,hL⟩:=u.any ho I.free λz=>(hch _ z).2.1 rfl
 exact I.step (ch:=ch) hch (λb o hL hb hc e n=>u.keep b o e n (λz=>(Aw.mp (I.stkSub b z)).elim hL hb) hc) (λb o _ _ hc e n=>u.any e n hc) (λb o hc e n=>u.free b o e n hc) (λb o hc e=>u.there b o e hc) u.tups u.frzs u.tbls (λm' hm=>by
  obtain⟨o',es',ep',ho',r'⟩:=hm;rw[ho]at ho';cases ho'
  exact⟨_,es',ep',hL,r'⟩) hok hg
def Inv.turned{t':Nat}{it:AK}(I:Inv X ζ σ H s)(k:∀b o,b≠it->s.heap.get? b=some o->h'.get? b=some o)(hn:H it=none)(hL:it≠X.env.locals)
  (h1:it∈X.ex∨X.s₀.heap.objs.size<=it) (h2:∀x c,X.env.cells.lookup x=some c->c≠it) (h3:∀p∈X.pn++ζ,p.1≠it):Inv X ζ σ H { s with heap:=h',toks:=t' }:=by
 have nit:∀b u,H b=some u->b≠it:=λb u e z=>by rw[z,hn]at e;cases e
 refine I.step (g':=s.gens) (d':=s.drawn) (ch:=[it]) (λb hb=>?_) (λb o _ _ hc e _=>k b o (λz=>hc (by simp[z])) e) (λb o _ _ hc e _=>⟨o.slots,k b o (λz=>hc (by simp[z])) e⟩) (λ_ _ _ _ n=>n)
  (λb o hc e=>⟨o,k b o (λz=>hc (by simp[z])) e⟩) (λ_ _ e=>e) (λ_ _ _ e=>e) (λb ps e=>⟨#[],by rw[e];simp⟩) (λm hm=>?_) (λb u e=>?_) I.bare
 ·have e:b=it:=by simpa using hb
  subst e;exact⟨h1,hL,h2,h3⟩
 ·obtain⟨o,es,ep,ho,r⟩:=hm
  exact⟨o,es,ep,k _ o (CB hL) ho,r⟩
 ·refine(I.hok b u e).stay (λc v hc q=>k c v ?_ q) (λ_ q=>q) λ_ _ q=>q
  rcases hc with z | z
  ·rw[z];exact nit b u e
  ·exact nit c _ z
def Inv.tok(I:Inv X ζ σ H s)(t:Nat):Inv X ζ σ H { s with toks:=t }:=I.un (h':=s.heap) (t':=t) Un.refl I.hok
def Inv.kept{t':Nat}(I:Inv X ζ σ H s)(k:∀b u,s.heap.get? b=some u->h'.get? b=some u):Inv X ζ σ H { s with heap:=h',toks:=t' }:=I.un (Un.kept k) (I.hok.kept k)
def Inv.laid{a:AK}{o:HO}{t':Nat}(I:Inv X ζ σ H s)(k:∀b u,s.heap.get? b=some u->h'.get? b=some u)(hp:s.heap.objs.size<=a)(new:CU X.prog X.w (upd H a o) h' a o) :
  Inv X ζ σ (upd H a o) { s with heap:=h',toks:=t' }:=I.un (Un.laid k hp (I.hok.fresh hp)) (I.hok.laid k hp new)
def Inv.write{x e:AK}{o:HO}{t':Nat}(I:Inv X ζ σ H s)(mu:Mut (H x))(he:e=x∨H e=some (.own x))(k:∀b u,b≠e->s.heap.get? b=some u->h'.get? b=some u)(heo:∃u,h'.get? e=some u)
  (new:CU X.prog X.w (upd H x o) h' x o):Inv X ζ σ (upd H x o) { s with heap:=h',toks:=t' }:=I.un (Un.write mu he k heo) (I.hok.write mu he k heo new)
def Inv.pins_of{pins':List (AK×Obj)}(I:Inv X ζ σ H s)(h:∀p∈pins',s.heap.get? p.1=some p.2/\H p.1=none/\p.1≠X.env.locals/\p.1∉X.fs/\∀v,p.2.data≠.cell v):Inv X pins' σ H s:=
 ⟨I.ok,I.os,I.bare,I.base,I.loc,I.cell,I.free,I.freeC,λp hp=>(Ae.mp hp).elim (λz=>I.pin p (Az _ z)) (h p),I.hok,I.len⟩
def UB{N:List Str}(hN:N.Nodup){i j:Nat}{x:Str}(a:N[i]?=some x)(b:N[j]?=some x):i=j:=by
 obtain⟨h1,e1⟩:=AF.mp a;obtain⟨h2,e2⟩:=AF.mp b;exact(List.getElem_inj hN).mp (e1.trans e2.symm)
def RC{M:Model}{A:BC}{E:AE->AG->Prop}{i:Nat}{x:Str}{v:V}{u:AE}{Q:Unit->AG->Prop}(I:Inv X ζ σ H s)(hN:X.N.Nodup)(hi:X.N[i]?=some x)(hx:Loc X.env.scope x)(r:RelV v u)
  (h:∀s',Inv X ζ (σ.set i (some v)) H s'->(∃a,Ec a s.heap s'.heap/\(a=X.env.locals∨X.env.cells.lookup x=some a))->Q () s') (hf:X.fn x=true∨X.env.scope.names.lookup x=some .local:=by first | exact .inl rfl | exact .inr rfl | assumption):Av M A (storeName X.env x u) Q E s:=by
 obtain⟨m,hn,hl⟩:=id I.loc
 have hcls:(X.env.scope.kind==.class||(X.env.scope.kind==.module&&X.env.locals != X.env.globals))=false:=by rw[I.ok.kind];rfl
 have hiσ:i < σ.length:=by rw[I.len];exact(AF.mp hi).1
 have cne:=I.cne
 have tracked:∀{a:AK} {h':B7},(∃o,s.heap.get? a=some o/\H a=none)->Ec a s.heap h'->HOk X.prog X.w H h':=λ{a h'} ha hs b ob e=>by
  obtain⟨_,_,hfree⟩:=ha
  refine(I.hok b ob e).stay (λc w' hc q=>(hs.2 c ?_).trans q) (λ_ q=>q) λ_ _ q=>q
  rintro rfl
  rcases hc with rfl | hc
  ·rw[hfree]at e;cases e
  ·rw[hfree]at hc;cases hc
 rcases hx with hk | hk
 ·refine wpAny_storeName_local hk hn (λh' hn' hs=>?_) hcls
  obtain⟨oL,_,_,hoL,_⟩:=id hn;refine h _ ⟨I.ok,I.os,I.bare,⟨λb o e n hb hx=>?_,λb o e n hb hx=>?_,I.base.free,λb o e hx=>?_,I.base.tups,I.base.frzs,I.base.tbls⟩,⟨_,hn',λj y v' e1 e2 e3=>?_⟩,λy c e=>?_,I.free,I.freeC,λp hp=>?_,tracked ⟨oL,hoL,I.free⟩ hs,by simpa using I.len⟩ ⟨_,hs,.inl rfl⟩
  ·exact(hs.2 b (Aq (Ab (Ai e) I.ok.above))).trans (I.base.keep b o e n hb hx)
  ·obtain⟨sl,e1⟩:=I.base.slot b o e n hb hx
   exact⟨sl,(hs.2 b (Aq (Ab (Ai e) I.ok.above))).trans e1⟩
  ·obtain⟨o',e1⟩:=I.base.there b o e hx
   exact⟨o',(hs.2 b (Aq (Ab (Ai e) I.ok.above))).trans e1⟩
  ·by_cases hj:j=i
   ·subst hj
    rw[hi]at e1;cases e1;rw[Ao hiσ]at e2;cases e2;exact⟨u,r,.inl ⟨hk,by simp⟩⟩
   ·rw[AW (CB hj)]at e2
    obtain⟨u',r',q⟩:=hl j y v' e1 e2 e3;refine⟨u',r',?_⟩
    rcases q with⟨k,e⟩ | ⟨k,c,e,z⟩
    ·refine .inl ⟨k,?_⟩
     have:y≠x:=λe=>hj (UB hN e1 (e▸hi))
     simp[this,e]
    ·exact .inr ⟨k,c,e,z.sameBut hs (cne y c e)⟩
  ·obtain⟨w',z⟩:=I.cell y c e
   exact⟨w',z.sameBut hs (cne y c e)⟩
  ·obtain⟨e,n,ne,nf,d⟩:=I.pin p hp
   exact⟨(hs.2 p.1 ne).trans e,n,ne,nf,d⟩
 ·have hfn:X.fn x=true:=by
   rcases hf with z | z
   ·exact z
   ·rw[z]at hk;cases hk
  obtain⟨c,hc⟩:=I.ok.has x (.inl hk);obtain⟨w',z⟩:=I.cell x c hc;refine wpAny_storeName_cell I.ok.kind hk hc z (λh' hc' hs=>?_);obtain⟨oc,hoc,hocd⟩:=id z;refine h { s with heap:=h' } ⟨I.ok,I.os,I.bare,⟨λb o e n hb hx=>?_,λb o e n hb hx=>?_,I.base.free,λb o e hx=>?_,I.base.tups,I.base.frzs,I.base.tbls⟩,⟨m,hn.sameBut hs (CB (cne x c hc)),λj y v' e1 e2 e3=>?_⟩,λy c' e=>?_,I.free,I.freeC,λp hp=>?_,tracked ⟨oc,hoc,I.freeC x c hc⟩ hs,by simpa using I.len⟩ ⟨c,hs,.inr hc⟩
  ·exact(hs.2 b (Aq (Ab (Ai e) (I.ok.cab x c hfn hc)))).trans (I.base.keep b o e n hb hx)
  ·obtain⟨sl,e1⟩:=I.base.slot b o e n hb hx
   exact⟨sl,(hs.2 b (Aq (Ab (Ai e) (I.ok.cab x c hfn hc)))).trans e1⟩
  ·obtain⟨o',e1⟩:=I.base.there b o e hx
   exact⟨o',(hs.2 b (Aq (Ab (Ai e) (I.ok.cab x c hfn hc)))).trans e1⟩
  ·by_cases hj:j=i
   ·subst hj
    rw[hi]at e1;cases e1;rw[Ao hiσ]at e2;cases e2;exact⟨u,r,.inr ⟨.inl hk,c,hc,hc'⟩⟩
   ·rw[AW (CB hj)]at e2
    obtain⟨u',r',q⟩:=hl j y v' e1 e2 e3;refine⟨u',r',?_⟩
    rcases q with q | ⟨k,c',e,z'⟩
    ·exact .inl q
    ·refine .inr ⟨k,c',e,z'.sameBut hs ?_⟩
     rintro rfl;exact hj (UB hN e1 (I.ok.inj _ _ _ e hc▸hi))
  ·by_cases hcc:c'=c
   ·subst hcc;exact⟨_,hc'⟩
   ·obtain⟨w2,z2⟩:=I.cell y c' e
    exact⟨w2,z2.sameBut hs hcc⟩
  ·obtain⟨e,n,ne,nf,d⟩:=I.pin p hp
   refine⟨(hs.2 p.1 ?_).trans e,n,ne,nf,d⟩;intro q;rw[q,hoc]at e;have q':oc=p.2:=CJ e;exact d w' (by rw[<-q'];exact hocd)
def Tf{M:Model}{A:BC}{E:AE->AG->Prop}{i:Nat}{x:Str}{v:V}{u:AE}{Q:Unit->AG->Prop}(I:Inv X ζ σ H s)(hN:X.N.Nodup)(hi:X.N[i]?=some x)(hx:Loc X.env.scope x)(r:RelV v u)
  (h:∀s',Inv X ζ (σ.set i (some v)) H s'->Q () s') (hf:X.fn x=true∨X.env.scope.names.lookup x=some .local:=by first | exact .inl rfl | exact .inr rfl | assumption):Av M A (storeName X.env x u) Q E s:=
 RC I hN hi hx r (λs' I' _=>h s' I') hf
def Inv.call'{s':AG}{ch:List AK}(I:Inv X ζ σ H s)(ho:s'.os=s.os)(u:Un (frs X.stack) ch H H' s.heap s'.heap)(hok:HOk X.prog X.w H' s'.heap)(hg:Ja s'.gens)
  (hch:∀b∈ch,(b∈X.ex∨X.s₀.heap.objs.size<=b)/\b≠X.env.locals/\(∀x c,X.env.cells.lookup x=some c->c≠b)/\∀p∈X.pn++ζ,p.1≠b):Inv X ζ σ H' s':=by
 obtain⟨h',g',d',t',o'⟩:=s';have e:o'=s.os:=ho;subst e;exact I.call (g':=g') (t':=t') (d':=d') u hok hg hch
end
abbrev XK:=AE->Option AK->Hp->Prop
abbrev St:=List (Option V)
abbrev VK:=V->Hp->Prop
abbrev TE:=St->Hp->VK->Prop
abbrev TT:=St->Hp->(Bool->Hp->Prop)->Prop
abbrev TA:=St->Hp->(List V->Hp->Prop)->Prop
structure V6 where
 nx:St->Hp->Prop
 rt:VK
 bk:St->Hp->Prop:=λ_ _=>False
 ct:St->Hp->Prop:=λ_ _=>False
abbrev TS:=V6->St->Hp->Prop
def EP(X:Cx)(ζ:List (AK×Obj))(σ:St)(Q:VK)(u:AE)(s':AG):Prop:=∃v H',Inv X ζ σ H' s'/\RelV v u/\Q v H'
def TP(X:Cx)(ζ:List (AK×Obj))(σ:St)(Q:Bool->Hp->Prop)(b:Bool)(s':AG):Prop:=∃H',Inv X ζ σ H' s'/\Q b H'
def AP(X:Cx)(ζ:List (AK×Obj))(σ:St)(Q:List V->Hp->Prop)(us:List AE)(s':AG):Prop:=∃vs H',Inv X ζ σ H' s'/\Bk vs us/\Q vs H'
def SP(X:Cx)(ζ:List (AK×Obj))(D:V6)(f:Flow)(s':AG):Prop:=
 match f with
 | .next=>∃σ' H',Inv X ζ σ' H' s'/\D.nx σ' H'
 | .brk=>∃σ' H',Inv X ζ σ' H' s'/\D.bk σ' H'
 | .cont=>∃σ' H',Inv X ζ σ' H' s'/\D.ct σ' H'
 | .ret u=>∃v σ' H',Inv X ζ σ' H' s'/\RelV v u/\D.rt v H'
def PE(X:Cx)(e:Expr)(t:TE):Prop:=
 ∀(ζ:List (AK×Obj)) (s:AG) (σ:St) (H:Hp) (Q:VK),Inv X ζ σ H s->t σ H Q->Av (Af X.prog X.w) X.A (Bw e X.env) (EP X ζ σ Q) X.xe s
def PT(X:Cx)(e:Expr)(t:TT):Prop:=
 ∀(ζ:List (AK×Obj)) (s:AG) (σ:St) (H:Hp) (Q:Bool->Hp->Prop),Inv X ζ σ H s->t σ H Q->Av (Af X.prog X.w) X.A (Uq e X.env (Bw e X.env)) (TP X ζ σ Q) X.xe s
def PW(X:Cx)(e:Expr)(t:TT):Prop:=
 ∀(whole:Sem AE) (ζ:List (AK×Obj)) (s:AG) (σ:St) (H:Hp) (Q:Bool->Hp->Prop),Inv X ζ σ H s->t σ H Q->Av (Af X.prog X.w) X.A (Uq e X.env whole) (TP X ζ σ Q) X.xe s
def PW.pt{X:Cx}{e:Expr}{t:TT}(h:PW X e t):PT X e t:=h _
def PA(X:Cx)(es:List Expr)(t:TA):Prop:=
 ∀(pos:Pos) (ζ:List (AK×Obj)) (s:AG) (σ:St) (H:Hp) (Q:List V->Hp->Prop),Inv X ζ σ H s->t σ H Q->Av (Af X.prog X.w) X.A (Ud (Da pos (AS es X.env))) (AP X ζ σ Q) X.xe s
def PS(X:Cx)(st:Ce)(t:TS):Prop:=
 ∀(ζ:List (AK×Obj)) (s:AG) (σ:St) (H:Hp) (D:V6),Inv X ζ σ H s->t D σ H->Av (Af X.prog X.w) X.A (exec st X.env) (SP X ζ D) X.xe s
def PSs(X:Cx)(st:List Ce)(t:TS):Prop:=
 ∀(ζ:List (AK×Obj)) (s:AG) (σ:St) (H:Hp) (D:V6),Inv X ζ σ H s->t D σ H->Av (Af X.prog X.w) X.A (execs st X.env) (SP X ζ D) X.xe s
def thn{α:Type}{t:Sem α}{Q Q':α->AG->Prop}{M:Model}{A:BC}{E:AE->AG->Prop}{s:AG}(h:Av M A t Q E s)(hQ:∀a s,Q a s->Q' a s):Av M A t Q' E s:=HA h hQ λ_ _ x=>x
section
variable{X:Cx}
def ie(i:Nat):TE:=λσ H Q=>∃v,σ[i]?=some (some v)/\Q v H
def tC(v:V):TE:=λ_ H Q=>Q v H
def jD{i:Nat}{x:Str}{pos:Pos}(hN:X.N[i]?=some x)(hv:Vis X.env.scope x)(hd:(x==("__debug__" : Str))=false:=by decide) (hcd:(x==("__classdict__" : Str))=false:=by decide):PE X (.Name x pos) (ie i):=by
 intro ζ s σ H Q I h;obtain⟨v,e,h⟩:=h;obtain⟨m,hn,hl⟩:=I.loc;obtain⟨u,r,l⟩:=hl i x v hN e hv;have fin:EP X ζ σ Q u s:=⟨v,H,I,r,h⟩
 rcases l with⟨hk,hm⟩ | ⟨hk,c,hc,hcell⟩
 ·exact gt (wpAny_loadName_local I.ok.kind hk hn hm fin) hd
 ·rcases hk with hk | hk
  ·exact gt (wpAny_loadName_cell I.ok.kind hk hc hcell fin) hd
  ·exact gt (wpAny_loadName_free I.ok.kind hk hc hcell fin hcd) hd
def jJ{i j pos}:PE X (.Constant (.int i) j pos) (tC (.int i)):=λ_ _ _ H _ I h=>wpAny_Constant_int ⟨.int i,H,I.tok _,⟨_,rfl⟩,h⟩
def lh{b j pos}:PE X (.Constant (.bool b) j pos) (tC (.bl b)):=λ_ _ _ H _ I h=>Constant_bool ⟨.bl b,H,I,rfl,h⟩
def jH{j pos}:PE X (.Constant .none j pos) (tC .non):=λ_ _ _ H _ I h=>Constant_none ⟨.non,H,I,rfl,h⟩
def Gl(X:Cx)(x:Str):Prop:=X.env.kindOf x=some .globalImplicit
def SV{E:AE->AG->Prop}{ζ:List (AK×Obj)}{s:AG}{σ:St}{H:Hp}{x:Str}{u:AE}{pos:Pos}{Q:AE->AG->Prop}(I:Inv X ζ σ H s)(hg:Gl X x)(hm:X.mg x=some u)(h:Q u s)
  (hd:(x==("__debug__" : Str))=false:=by decide):Av (Af X.prog X.w) X.A (Bw (.Name x pos) X.env) Q E s:=
 Qb I.ok.kind hg (Calls.loadGlobal_global (by rw[I.ok.glob];exact I.mod.glob.keeps I.bk) hm h) hd
def IV{E:AE->AG->Prop}{ζ:List (AK×Obj)}{s:AG}{σ:St}{H:Hp}{x:Str}{u:AE}{pos:Pos}{Q:AE->AG->Prop}(I:Inv X ζ σ H s)(hg:Gl X x)(hm:X.mg x=none)(hv:E9 x=some u)(h:Q u s)
  (hn:x≠"__name__":=by decide) (hd:(x==("__debug__" : Str))=false:=by decide):Av (Af X.prog X.w) X.A (Bw (.Name x pos) X.env) Q E s:=by
 obtain⟨mb,h1,h2⟩:=I.mod.blt;exact Qb I.ok.kind hg (Calls.loadGlobal_builtin (by rw[I.ok.glob];exact I.mod.glob.keeps I.bk) hm (by rw[I.ok.blt];exact h1.keeps I.bk) ((h2 x hn).trans hv) h) hd
def dn{x:Str}{v:V}{u:AE}{pos:Pos}(hg:Gl X x)(hm:X.mg x=some u)(r:RelV v u)(hd:(x==("__debug__" : Str))=false:=by decide):PE X (.Name x pos) (tC v):=
 λ_ _ _ H _ I h=>SV I hg hm ⟨v,H,I,r,h⟩ hd
def Mi{x:Str}{v:V}{u:AE}{pos:Pos}(hg:Gl X x)(hm:X.mg x=none)(hv:E9 x=some u)(r:RelV v u)(hn:x≠"__name__":=by decide) (hd:(x==("__debug__" : Str))=false:=by decide):PE X (.Name x pos) (tC v):=
 λ_ _ _ H _ I h=>IV I hg hm hv ⟨v,H,I,r,h⟩ hn hd
variable{a b:Expr}{ta tb:TE}{pos:Pos}
def PC(X:Cx)(op:OW)(a b:Expr)(t:TE):Prop:=
 ∀(ζ:List (AK×Obj)) (s:AG) (σ:St) (H:Hp) (Q:VK),Inv X ζ σ H s->t σ H Q ->
  Av (Af X.prog X.w) X.A (Bw a X.env) (λv s₁=>Av (Af X.prog X.w) X.A (Bw b X.env) (λu s₂=>Av (Af X.prog X.w) X.A (Bi op v u) (EP X ζ σ Q) X.xe s₂) X.xe s₁) X.xe s
def tB(t:TE):TT:=λσ H Q=>t σ H λx H1=>∃c,x=.bl c/\Q c H1
def Zu{op:OW}{t:TE}(h:PC X op a b t)(h1:B9 op b=false:=by first | exact nobehind _ (by decide) (by decide) | rfl):PE X (.Compare a [op] [b] pos) t:=λζ s σ H Q I hw=>wpAny_Compare1 (h ζ s σ H Q I hw) h1
def Zi{op:OW}{t:TE}(h:PC X op a b t)(h1:B9 op b=false:=by first | exact nobehind _ (by decide) (by decide) | rfl):PT X (.Compare a [op] [b] pos) (tB t):=by
 intro ζ s σ H Q I hw;refine bd (thn (h ζ s σ H _ I hw) λv s1 h1=>thn h1 λu s2 h2=>thn h2 λc s3 ⟨x,H1,I1,r1,q1⟩=>?_) h1;obtain⟨d,rfl,q⟩:=q1;cases r1;exact CN ⟨H1,I1,q⟩
def i0{e:Expr}{t:TE}(h:PE X e t)(he:∀whole,Uq e X.env whole=(do let v <-whole;kS e.pos;kW [v] (gu v)):=by intro _;rfl):PT X e (tB t):=by
 intro ζ s σ H Q I hw;refine isTrue_plain (thn (h ζ s σ H _ I hw) λv s1 ⟨x,H1,I1,r1,q1⟩=>?_) (he _);obtain⟨d,rfl,q⟩:=q1;cases r1;exact CN ⟨H1,I1,q⟩
variable{tA tB':TT}{rest:List Expr}
def lR(t u:TT):TT:=λσ H Q=>t σ H λc H1=>if c=true then u σ H1 Q else Q false H1
def tOr(t u:TT):TT:=λσ H Q=>t σ H λc H1=>if c=true then Q true H1 else u σ H1 Q
def tNot(t:TT):TT:=λσ H Q=>t σ H λc H1=>Q (!c) H1
def dQ(ha:PT X a tA):PW X (.BoolOp .And [a] pos) tA:=by
 intro wh ζ s σ H Q I h;refine isTrue_and (thn (ha ζ s σ H Q I h) λc s1 e=>?_)
 cases c with
 | true=>exact isTrue_and_nil e
 | false=>exact e
def iy(ha:PT X a tA):PW X (.BoolOp .Or [a] pos) tA:=by
 intro wh ζ s σ H Q I h;refine isTrue_or (thn (ha ζ s σ H Q I h) λc s1 e=>?_)
 cases c with
 | false=>exact isTrue_or_nil e
 | true=>exact e
def iz(ha:PT X a tA)(hb:PW X (.BoolOp .And (b :: rest) pos) tB'):PW X (.BoolOp .And (a :: b :: rest) pos) (lR tA tB'):=by
 intro wh ζ s σ H Q I h;refine isTrue_and (thn (ha ζ s σ H _ I h) λc s1 ⟨H1,I1,q1⟩=>?_)
 cases c with
 | true=>exact hb wh ζ s1 σ H1 Q I1 q1
 | false=>exact⟨H1,I1,q1⟩
def lZ(ha:PT X a tA)(hb:PW X (.BoolOp .Or (b :: rest) pos) tB'):PW X (.BoolOp .Or (a :: b :: rest) pos) (tOr tA tB'):=by
 intro wh ζ s σ H Q I h;refine isTrue_or (thn (ha ζ s σ H _ I h) λc s1 ⟨H1,I1,q1⟩=>?_)
 cases c with
 | true=>exact⟨H1,I1,q1⟩
 | false=>exact hb wh ζ s1 σ H1 Q I1 q1
def i4(ha:PT X a tA):PT X (.UnaryOp .Not a pos) (tNot tA):=by
 intro ζ s σ H Q I h;exact isTrue_not (ha ζ s σ H (λc H1=>Q (!c) H1) I h)
def lQ(ta tb:TE):TE:=λσ H Q=>ta σ H λx H1=>∃c,x=.bl c/\if c=true then tb σ H1 Q else Q (.bl false) H1
def lG(ta:TE):TE:=λσ H Q=>ta σ H λx H1=>∃c,x=.bl c/\Q (.bl (!c)) H1
def jF{op}{t:TE}(h:PE X a t):PE X (.BoolOp op [a] pos) t:=λζ s σ H Q I hw=>BoolOp_one (h ζ s σ H Q I hw)
def jL(ha:PE X a ta)(hb:PE X (.BoolOp .And (b :: rest) pos) tb):PE X (.BoolOp .And (a :: b :: rest) pos) (lQ ta tb):=by
 intro ζ s σ H Q I h;refine BoolOp_and (thn (ha ζ s σ H _ I h) λv s1 ⟨x,H1,I1,r1,q1⟩=>?_);obtain⟨c,rfl,q1⟩:=q1;cases r1;refine CN ?_
 cases c with
 | true=>exact hb ζ s1 σ H1 Q I1 q1
 | false=>exact⟨.bl false,H1,I1,rfl,q1⟩
def jG(ha:PE X a ta):PE X (.UnaryOp .Not a pos) (lG ta):=by
 intro ζ s σ H Q I h;refine UnaryOp_ (thn (ha ζ s σ H _ I h) λv s1 ⟨x,H1,I1,r1,q1⟩=>?_);obtain⟨c,rfl,q1⟩:=q1;cases r1;exact not_of (CN ⟨.bl (!c),H1,I1,rfl,q1⟩)
end
def SqL(K:AA)(H:Hp)(a:AK)(xs:List V):Prop:=
 Rd H a (.lst xs) ∨
  ∃(o:Obj) (its:Array AE) (n:Nat),K.lookup a=some o/\o.cls=.type "list"/\o.dict=none/\o.data=.seq its n/\its.size<=sizeLine/\Bk xs its.toList
def SqT(K:AA)(H:Hp)(a:AK)(xs:List V):Prop:=
 Rd H a (.tup xs) ∨
  ∃(o:Obj) (its:Array AE) (n:Nat),K.lookup a=some o/\o.cls=.type "tuple"/\o.data=.seq its n/\its.size<=sizeLine/\Bk xs its.toList
def absV:AE->Option V
 | .none=>some .non
 | .bool b=>some (.bl b)
 | .int i _=>some (.int i)
 | .str x _=>some (.str x)
 | .bytes b _=>some (.byt b)
 | .float b _=>some (.flt b)
 | .ref a=>some (.ref a)
 | .type n=>some (.ty n)
 | _=>none
def RelV.abs{x:V}{u:AE}(r:RelV x u):absV u=some x:=by
 cases x with
 | non=>cases r;rfl
 | bl _=>cases r;rfl
 | int _=>obtain⟨t,rfl⟩:=r;rfl
 | str _=>obtain⟨t,rfl⟩:=r;rfl
 | byt _=>obtain⟨t,rfl⟩:=r;rfl
 | flt _=>obtain⟨t,rfl⟩:=r;rfl
 | ref _=>cases r;rfl
 | ty _=>cases r;rfl
def RelV.inj{x y:V}{u:AE}(r:RelV x u)(q:RelV y u):x=y:=CJ (r.abs.symm.trans q.abs)
def Bk.inj:∀{xs ys:List V} {us:List AE},Bk xs us->Bk ys us->xs=ys
 | _,_,_,.nil,.nil=>rfl
 | _,_,_,.cons r t,.cons r' t'=>by rw[r.inj r',Bk.inj t t']
section
variable{X:Cx}{ζ:List (AK×Obj)}{σ:St}{H:Hp}{s:AG}{a:AK}{xs ys:List V}
def Inv.list(I:Inv X ζ σ H s)(h:SqL X.K H a xs):∃its:List AE,Bk xs its/\PlainL s.heap a its.toArray/\xs.length<=sizeLine:=by
 rcases h with h | ⟨o,its,n,hk,hc,hd,hs,hz,r⟩
 ·obtain⟨z,its,n,r,e⟩:=h.ok I.hok
  exact⟨its,r,⟨_,n,e,rfl,rfl,rfl⟩,z⟩
 ·refine⟨its.toList,r,⟨o,n,I.kIn a o hk,hc,hd,by simpa using hs⟩,?_⟩
  have e:=r.length;simp only[Bd]at e
  lia
def Inv.tuple(I:Inv X ζ σ H s)(h:SqT X.K H a xs):∃its:List AE,Bk xs its/\IsTup s.heap a its.toArray/\xs.length<=sizeLine:=by
 rcases h with h | ⟨o,its,n,hk,hc,hs,hz,r⟩
 ·obtain⟨z,its,r,p⟩:=h.ok I.hok
  exact⟨its,r,p,z.1⟩
 ·refine⟨its.toList,r,⟨o,I.kIn a o hk,hc,n,by simpa using hs⟩,?_⟩
  have e:=r.length;simp only[Bd]at e
  lia
def Inv.list_inj(I:Inv X ζ σ H s)(h:SqL X.K H a xs)(h':SqL X.K H a ys):xs=ys:=by
 obtain⟨its,r,⟨o,n,e,_,_,d⟩,_⟩:=I.list h;obtain⟨its',r',⟨o',n',e',_,_,d'⟩,_⟩:=I.list h';rw[e]at e';cases e';rw[d]at d'
 injection d' with d1 _
 have:its=its':=by simpa using congrArg iE d1
 subst this;exact r.inj r'
def Inv.tuple_inj(I:Inv X ζ σ H s)(h:SqT X.K H a xs)(h':SqT X.K H a ys):xs=ys:=by
 obtain⟨its,r,⟨o,e,_,n,d⟩,_⟩:=I.tuple h;obtain⟨its',r',⟨o',e',_,n',d'⟩,_⟩:=I.tuple h';rw[e]at e';cases e';rw[d]at d'
 injection d' with d1 _
 have:its=its':=by simpa using congrArg iE d1
 subst this;exact r.inj r'
end
section
variable{X:Cx}{ζ:List (AK×Obj)}{σ:St}{H:Hp}{s:AG}{E:AE->AG->Prop}
end
section
variable{X:Cx}{st:Ce}{rest:List Ce}{t u:TS}{e:Expr}{te:TE}{pos:Pos}
def lH:TS:=λD σ H=>D.nx σ H
def tSeq(t u:TS):TS:=λD σ H=>t { D with nx:=u D } σ H
def dW:PSs X [] lH:=λ_ _ σ H _ I h=>MB ⟨σ,H,I,h⟩
def Zk(h1:PS X st t)(h2:PSs X rest u):PSs X (st :: rest) (tSeq t u):=by
 intro ζ s σ H D I h;refine kn (thn (h1 ζ s σ H { D with nx:=u D } I h) λf s1 q=>?_)
 cases f with
 | next=>
  obtain⟨σ',H',I',q⟩:=q;exact h2 ζ s1 σ' H' D I' q
 | ret v=>exact q
 | brk=>exact q
 | cont=>exact q
def dU(h1:PS X st t):PSs X [st] t:=by
 intro ζ s σ H D I h;refine kn (thn (h1 ζ s σ H D I h) λf s1 q=>?_)
 cases f with
 | next=>exact MB q
 | ret v=>exact q
 | brk=>exact q
 | cont=>exact q
def Inv.quiet{ζ:List (AK×Obj)}{σ:St}{H:Hp}{s:AG}(I:Inv X ζ σ H s):interactive X.env=false:=by simp[interactive,I.ok.kind]
def lJ(te:TE):TS:=λD σ H=>te σ H λ_ H1=>D.nx σ H1
def dX(he:PE X e te)(hs:Gb e none pos.line X.env=pure false:=by rfl):PS X (.Expr e pos) (lJ te):=by
 intro ζ s σ H D I h;exact wpAny_Expr_any (thn (he ζ s σ H _ I h) λv s1 ⟨x,H1,I1,r1,q1⟩=>⟨σ,H1,I1,q1⟩) I.quiet hs
def tRet(te:TE):TS:=λD σ H=>te σ H D.rt
def i6(he:PE X e te):PS X (.Return (some e) pos) (tRet te):=by
 intro ζ s σ H D I h;exact wpAny_Return_some (thn (he ζ s σ H _ I h) λv s1 ⟨x,H1,I1,r1,q1⟩=>⟨x,σ,H1,I1,r1,q1⟩)
def tIfS(c:TT)(t u:TS):TS:=λD σ H=>c σ H λb H1=>if b=true then t D σ H1 else u D σ H1
def lb{c:Expr}{a b:List Ce}{tc:TT}(hc:PT X c tc)(ha:PSs X a t)(hb:PSs X b u):PS X (.If c a b pos) (tIfS tc t u):=by
 intro ζ s σ H D I h;refine wpAny_If (thn (hc ζ s σ H _ I h) λd s1 ⟨H1,I1,q1⟩=>?_)
 cases d with
 | true=>exact ha ζ s1 σ H1 D I1 q1
 | false=>exact hb ζ s1 σ H1 D I1 q1
def ii:TS:=λ_ _ _=>False
def Zm:PS X st ii:=λ_ _ _ _ _ _ h=>h.elim
end
abbrev TG:=V->St->Hp->(St->Hp->Prop)->Prop
abbrev TGs:=List V->St->Hp->(St->Hp->Prop)->Prop
def PG(X:Cx)(ϖ:Expr)(t:TG):Prop:=
 ∀(ζ:List (AK×Obj)) (s:AG) (σ:St) (H:Hp) (v:V) (u:AE) (Q:St->Hp->Prop),Inv X ζ σ H s->RelV v u->t v σ H Q ->
  Av (Af X.prog X.w) X.A (Ot ϖ X.env u) (λ_ s'=>∃σ' H',Inv X ζ σ' H' s'/\Q σ' H') X.xe s
def PGs(X:Cx)(ts:List Expr)(t:TGs):Prop:=
 ∀(ζ:List (AK×Obj)) (s:AG) (σ:St) (H:Hp) (vs:List V) (us:List AE) (Q:St->Hp->Prop),Inv X ζ σ H s->Bk vs us->t vs σ H Q ->
  Av (Af X.prog X.w) X.A (assignInOrder ((FA ts X.env).map (·.2)) us) (λ_ s'=>∃σ' H',Inv X ζ σ' H' s'/\Q σ' H') X.xe s
section
variable{X:Cx}{pos:Pos}
def Wt(i:Nat):TG:=λv σ H Q=>Q (σ.set i (some v)) H
def dj{i:Nat}{x:Str}(hN:X.N.Nodup)(hi:X.N[i]?=some x)(hx:Loc X.env.scope x)(hf:X.fn x=true∨X.env.scope.names.lookup x=some .local:=by first | exact .inl rfl | exact .inr rfl | assumption):PG X (.Name x pos) (Wt i):=by
 intro ζ s σ H v u Q I r h;exact kQ (Tf I hN hi hx r (λs' I'=>⟨_,H,I',h⟩) hf)
def gNil:TGs:=λvs σ H Q=>vs=[]/\Q σ H
def mX(t:TG)(u:TGs):TGs:=λvs σ H Q=>∃v r,vs=v :: r/\t v σ H λσ' H'=>u r σ' H' Q
def di:PGs X [] gNil:=by
 intro ζ s σ H vs us Q I r h;obtain⟨e,h⟩:=h;subst e;cases r;exact assignInOrder_nil ⟨σ,H,I,h⟩
def Zr{e:Expr}{es:List Expr}{t:TG}{u:TGs}(h1:PG X e t)(h2:PGs X es u)
  (hs:(FA (e :: es) X.env).map (·.2)=Ot e X.env :: (FA es X.env).map (·.2):=by rfl):PGs X (e :: es) (mX t u):=by
 intro ζ s σ H vs us Q I r h;obtain⟨v,vr,e1,h⟩:=h;subst e1
 cases r with
 | cons r rr=>
  rw[hs];refine assignInOrder_cons (thn (h1 ζ s σ H _ _ _ I r h) λ_ s1 ⟨σ1,H1,I1,q1⟩=>?_);exact h2 ζ s1 σ1 H1 _ _ Q I1 rr q1
def gTup(K:AA)(n:Nat)(t:TGs):TG:=λv σ H Q=>∃a xs,v=.ref a/\SqT K H a xs/\xs.length=n/\t xs σ H Q
def jC{es:List Expr}{k:Nat}{t:TGs}{n:Nat}(hc:X.calm=true)(h:PGs X es t)
  (hn:(FA es X.env).length=n:=by rfl) (hst:(FA es X.env).findIdx? (·.1)=none:=by rfl):PG X (.Tuple es k pos) (gTup X.K n t):=by
 intro ζ s σ H v u Q I r hw;obtain⟨a,xs,e1,hq,hl,hw⟩:=hw;subst e1;cases r;obtain⟨its,rv,ht,hz⟩:=I.tuple hq
 refine assign_Tuple_tuple (I.ok.hd hc) ht (by simp[hn,<-hl,rv.length]) hst λh' hx=>?_
 have I1:Inv X ζ σ H { s with heap:=h' }:=I.kept (t':=s.toks) λb o e=>hx b o (Aq (Ai e)) e
 exact h ζ _ σ H xs _ Q I1 (by simpa using rv) hw
def il(te:TE)(g:TG):TS:=λD σ H=>te σ H λx H1=>g x σ H1 D.nx
def i9{tg e:Expr}{te:TE}{g:TG}(he:PE X e te)(hg:PG X tg g)(hs:swapsWithSole [tg] e pos.line X.env=pure false:=by rfl)(hw:swappedStores [tg] e X.env=pure none:=by rfl)
  (h1:(FA [tg] X.env).map (·.2)=[Ot tg X.env]:=by rfl):PS X (.Assign [tg] e pos) (il te g):=by
 intro ζ s σ H D I h;refine wpAny_Assign_stores (thn (he ζ s σ H _ I h) λv s1 ⟨x,H1,I1,r1,q1⟩=>?_) hs hw;rw[h1]
 exact thn (hg ζ s1 σ H1 x v _ I1 r1 q1) λ_ s2 q=>q
def i5{i:Nat}{x:Str}{e:Expr}{te:TE}{pos':Pos}(hN:X.N.Nodup)(hi:X.N[i]?=some x)(hx:Loc X.env.scope x)(he:PE X e te)(hs:Gb e (some (.Name x pos')) pos.line X.env=pure false:=by rfl)(hf:X.fn x=true∨X.env.scope.names.lookup x=some .local:=by first | exact .inl rfl | exact .inr rfl | assumption) :
  PS X (.Assign [.Name x pos'] e pos) (il te (Wt i)):=by
 intro ζ s σ H D I h;refine wpAny_Assign_Name (thn (he ζ s σ H _ I h) λv s1 ⟨y,H1,I1,r1,q1⟩=>?_) hs;exact Tf I1 hN hi hx r1 (λs2 I2=>⟨_,H1,I2,q1⟩) hf
end
section
variable{X:Cx}{pos:Pos}
def iZ(c:TT)(tb:TS):TS:=λD σ H=>∃W:Nat->St->Hp->Prop,(∃m,W m σ H)/\∀m σ H,W m σ H ->
 c σ H λb H1=>if b=true then ∃N:St->Hp->Prop,(∀σ' H',N σ' H'->∃m',m' < m/\W m' σ' H')/\tb { D with nx:=N,ct:=N,bk:=D.nx } σ H1 else D.nx σ H1
def Zl{c:Expr}{body:List Ce}{tc:TT}{tb:TS}(hp:Rq (Af X.prog X.w) X.A X.env X.xe)(hc:PT X c tc)(hb:PSs X body tb):PS X (.While c body [] pos) (iZ tc tb):=by
 intro ζ s σ H D I h;obtain⟨W,⟨m0,w0⟩,turn⟩:=h;refine wpAny_While (codeAny_whileLoop (λn s'=>∃σ' H',Inv X ζ σ' H' s'/\W n σ' H') ?_ m0 ⟨σ,H,I,w0⟩);rintro n s1 ⟨σ1,H1,I1,w1⟩;refine FH hp (thn (hc ζ s1 σ1 H1 _ I1 (turn n σ1 H1 w1)) λb s2 ⟨H2,I2,q2⟩=>?_)
 cases b with
 | true=>
  obtain⟨N,hN,q2⟩:=q2;rw[qX rfl];refine FH hp (thn (hb ζ s2 σ1 H2 _ I2 q2) λf s3 q3=>?_)
  cases f with
  | next=>
   obtain⟨σ3,H3,I3,n3⟩:=q3;obtain⟨m',hm,w3⟩:=hN σ3 H3 n3;exact⟨m',hm,σ3,H3,I3,w3⟩
  | cont=>
   obtain⟨σ3,H3,I3,n3⟩:=q3;obtain⟨m',hm,w3⟩:=hN σ3 H3 n3;exact⟨m',hm,σ3,H3,I3,w3⟩
  | brk=>exact q3
  | ret v=>exact q3
 | false=>
  rw[qY AZ];exact MB ⟨σ1,H2,I2,q2⟩
end
structure It where
 go:Nat->Hp->Prop
 yld:Nat->Hp->V->Hp->Prop
 stop:Nat->Hp->Prop
def L9(X:Cx)(ζ:List (AK×Obj))(H:Hp)(b:AK):Prop:=
 H b=none/\b≠X.env.locals/\b∉X.fs/\(b∈X.ex∨X.s₀.heap.objs.size<=b)/\(∀x c,X.env.cells.lookup x=some c->c≠b)/\∀p∈X.pn++ζ,p.1≠b
def Inv.fpOk{X:Cx}{ζ:List (AK×Obj)}{σ:St}{H H':Hp}{s:AG}{b:AK}(I:Inv X ζ σ H s)(hb:s.heap.objs.size<=b)(hn:H' b=none):L9 X ζ H' b:=by
 refine⟨hn,OG (Ab I.lt hb),I.nofs hb,.inr (At I.sz hb),λx c e z=>?_,λp hp z=>?_⟩
 ·obtain⟨v,q⟩:=I.cell x c e
  exact zX (Ab q.lt (by rw[z];exact hb)) (E5 _)
 ·exact zX (Ab (Ai (I.pin p hp).1) (by rw[z];exact hb)) (E5 _)
structure Su(P:Al)(w:BE)(K:AA)(tg:Expr)(J:It)(fp:List AK)(it:AK)(tn:Nat->B7->Prop):Prop where
 mem:it∈fp
 obj:∀i h,tn i h->∀b∈fp,∃o,h.get? b=some o/\∀v,o.data≠.cell v
 keep:∀i h h',tn i h->(∀b∈fp,∀o,h.get? b=some o->h'.get? b=some o)->tn i h'
 item:∀(X:Cx),X.prog=P->X.w=w->X.K=K->X.calm=true->∀(i:Nat) (ζ:List (AK×Obj)) (s:AG) (σ:St) (H:Hp) (E:AE->AG->Prop),Inv X ζ σ H s->(∀b∈fp,L9 X ζ H b)->tn i s.heap->J.go i H ->
  Av (Af P w) X.A (Ri (.ref it)) (λr s1=>∃u,r=some u /\
   Av (Af P w) X.A (MC tg (.ref it) u) (λ_ s2=>∃x H',Inv X ζ σ H' s2/\RelV x u/\J.yld i H x H'/\tn (i+1) s2.heap/\∀b∈fp,H' b=none) E s1) E s
 done:∀(X:Cx),X.prog=P->X.w=w->X.K=K->X.calm=true->∀(i:Nat) (ζ:List (AK×Obj)) (s:AG) (σ:St) (H:Hp) (E:AE->AG->Prop),Inv X ζ σ H s->(∀b∈fp,L9 X ζ H b)->tn i s.heap->J.stop i H ->
  Av (Af P w) X.A (Ri (.ref it)) (λr s1=>r=none/\Inv X ζ σ H s1) E s
 self:∀(A:BC) (i:Nat) (s:AG) (Q:AE->AG->Prop) (E:AE->AG->Prop),tn i s.heap->Q (.ref it) s->Av (Af P w) A (Uo (.ref it)) Q E s
abbrev TI:=St->Hp->(It->Hp->Prop)->Prop
def PIE(X:Cx)(ζ:List (AK×Obj))(σ:St)(tg:Expr)(R:It->Hp->Prop)(itv:AE)(s2:AG):Prop:=
 ∃(it:AK) (fp:List AK) (tn:Nat->B7->Prop) (J:It) (H':Hp),itv=.ref it/\Inv X ζ σ H' s2/\Su X.prog X.w X.K tg J fp it tn/\tn 0 s2.heap/\(∀b∈fp,L9 X ζ H' b)/\R J H'
def PI(X:Cx)(tg iter:Expr)(wi:TI):Prop:=
 ∀(ζ:List (AK×Obj)) (s:AG) (σ:St) (H:Hp) (R:It->Hp->Prop),Inv X ζ σ H s->wi σ H R ->
  Av (Af X.prog X.w) X.A (Bw iter X.env) (λv s1=>Av (Af X.prog X.w) X.A (Uo v) (PIE X ζ σ tg R) X.xe s1) X.xe s
def Wn{M:Model}{A:BC}{E:AE->AG->Prop}{s:AG}{tg:Expr}{it:AK}{u:AE}{o:Obj}{n:String}{vs:Array AE}{Q:Unit->AG->Prop}(ho:s.heap.get? it=some o)(hc:o.cls=.type n)(hd:o.data=.fields vs)
  (hn:["enumerate", "zip", "dict_itemiterator", "dict_reverseitemiterator", "odict_iterator", "itertools.zip_longest", "itertools.pairwise"].contains n=false) (hQ:Q () s):Av M A (MC tg (.ref it) u) Q E s:=by
 unfold MC
 cases tg <;> first
  | exact AY hQ
  | (cases u <;> first
    | exact AY hQ
    | (refine AH (wpAny_load ho ?_)
       rw[hc,hd];show Av M A (if (["enumerate", "zip", "dict_itemiterator", "dict_reverseitemiterator", "odict_iterator", "itertools.zip_longest", "itertools.pairwise"].contains n&&vs[0]?==some (NI _))=true then _ else _) Q E s;rw[qY (by intro h;rw[hn,Bool.false_and]at h;cases h)]
       exact AY hQ))
def Itl(K:AA)(a:AK):It:=
 ⟨λi H=>∃xs x,SqL K H a xs/\xs[i]?=some x,λi H x H'=>H'=H/\∀xs,SqL K H a xs->xs[i]?=some x,λi H=>∃xs,SqL K H a xs/\xs.length<=i⟩
def Itt(K:AA)(a:AK):It:=
 ⟨λi H=>∃xs x,SqT K H a xs/\xs[i]?=some x,λi H x H'=>H'=H/\∀xs,SqT K H a xs->xs[i]?=some x,λi H=>∃xs,SqT K H a xs/\xs.length<=i⟩
def Itr(lo:Int)(n:Nat):It:=⟨λi _=>i < n,λi H x H'=>H'=H/\x=.int (lo+i),λi _=>n<=i⟩
def XZ{P:Al}{w:BE}{K:AA}{tg:Expr}(a it:AK):Su P w K tg (Itl K a) [it] it (λi h=>h.IsListIter it a i) where
 mem:=by simp
 obj:=λi h st b hb=>by
  have e:b=it:=by simpa using hb
  subst e;obtain⟨o,e,c,d⟩:=st;exact⟨o,e,λv z=>by rw[d]at z;cases z⟩
 keep:=λi h h' st k=>st.at λo e=>k it (by simp) o e
 item:=by
  intro X hP hw hK hc i ζ s σ H E I hf st hg;subst hP hw hK;obtain⟨xs,x,hq,hx⟩:=hg;obtain⟨its,rv,p,hz⟩:=I.list hq;obtain⟨u,hu,ru⟩:=rv.get hx;obtain⟨f0,f1,f2,f3,f4,f5⟩:=hf it (by simp)
  refine wpAny_pyNext_list_item st p.isList (x:=u) (by simpa using hu) λh' st' sb=>?_
  have I1:Inv X ζ σ H { s with heap:=h' }:=I.turned (t':=s.toks) (λb o hb e=>(sb.2 b hb).trans e) f0 f1 f3 f4 f5;obtain⟨o,e,c,d⟩:=id st';exact⟨u,rfl,Wn (s:={ s with heap:=h' }) e c d (by decide) ⟨x,H,I1,ru,⟨rfl,λys hy=>by rw[I.list_inj hy hq];exact hx⟩,st',λb hb=>(hf b hb).1⟩⟩
 done:=by
  intro X hP hw hK hc i ζ s σ H E I hf st hg;subst hP hw hK;obtain⟨xs,hq,hx⟩:=hg;obtain⟨its,rv,p,hz⟩:=I.list hq;obtain⟨f0,f1,f2,f3,f4,f5⟩:=hf it (by simp);have hl:=rv.length
  exact wpAny_pyNext_list_end (I.ok.hd hc) st p.isList (by simp;lia) λh' eb=>⟨rfl,I.turned (t':=s.toks) (λb o hb e=>eb b o hb e) f0 f1 f3 f4 f5⟩
 self:=λ_ _ _ _ _ st h=>wpAny_pyIter_listiter st h
def U8{P:Al}{w:BE}{K:AA}{tg:Expr}(a it:AK):Su P w K tg (Itt K a) [it] it (λi h=>h.IsTupleIter it a i) where
 mem:=by simp
 obj:=λi h st b hb=>by
  have e:b=it:=by simpa using hb
  subst e;obtain⟨o,e,c,d⟩:=st;exact⟨o,e,λv z=>by rw[d]at z;cases z⟩
 keep:=λi h h' st k=>st.at λo e=>k it (by simp) o e
 item:=by
  intro X hP hw hK hc i ζ s σ H E I hf st hg;subst hP hw hK;obtain⟨xs,x,hq,hx⟩:=hg;obtain⟨its,rv,p,hz⟩:=I.tuple hq;obtain⟨u,hu,ru⟩:=rv.get hx;obtain⟨f0,f1,f2,f3,f4,f5⟩:=hf it (by simp)
  refine wpAny_pyNext_tuple_item st (show s.heap.IsTuple a its.toArray from p) (x:=u) (by simpa using hu) λh' st' sb=>?_
  have I1:Inv X ζ σ H { s with heap:=h' }:=I.turned (t':=s.toks) (λb o hb e=>(sb.2 b hb).trans e) f0 f1 f3 f4 f5;obtain⟨o,e,c,d⟩:=id st';exact⟨u,rfl,Wn (s:={ s with heap:=h' }) e c d (by decide) ⟨x,H,I1,ru,⟨rfl,λys hy=>by rw[I.tuple_inj hy hq];exact hx⟩,st',λb hb=>(hf b hb).1⟩⟩
 done:=by
  intro X hP hw hK hc i ζ s σ H E I hf st hg;subst hP hw hK;obtain⟨xs,hq,hx⟩:=hg;obtain⟨its,rv,p,hz⟩:=I.tuple hq;obtain⟨f0,f1,f2,f3,f4,f5⟩:=hf it (by simp);have hl:=rv.length
  exact wpAny_pyNext_tuple_end (I.ok.hd hc) st (show s.heap.IsTuple a its.toArray from p) (by simp;lia) λh' eb=>⟨rfl,I.turned (t':=s.toks) (λb o hb e=>eb b o hb e) f0 f1 f3 f4 f5⟩
 self:=λ_ _ _ _ _ st h=>wpAny_pyIter_tupleiter st h
def U9{P:Al}{w:BE}{K:AA}{tg:Expr}(it:AK)(lo:Int)(n:Nat):Su P w K tg (Itr lo n) [it] it (λi h=>IsRangeIter h it (lo+(i:Nat) * 1) ((n:Int) - (i:Nat)) 1) where
 mem:=by simp
 obj:=λi h st b hb=>by
  have e:b=it:=by simpa using hb
  subst e
  exact⟨_,st,λv z=>by
   have z':WI _=bm v:=z
   cases z'⟩
 keep:=λi h h' st k=>k it (by simp) _ st
 item:=by
  intro X hP hw hK hc i ζ s σ H E I hf st hg;subst hP hw hK;obtain⟨f0,f1,f2,f3,f4,f5⟩:=hf it (by simp);have W:=Walks.range (prog:=X.prog) (w:=X.w) (I.ok.hd hc) it lo 1 n
  refine W.item i s _ _ hg st λv h' tk hv st' kk=>?_
  obtain⟨t,rfl⟩:=hv;have I1:Inv X ζ σ H { s with heap:=h',toks:=tk }:=I.turned (λb o hb e=>kk b o (by simpa using hb) e) f0 f1 f3 f4 f5;refine⟨_,rfl,Wn (s:={ s with heap:=h',toks:=tk }) (n:="range_iterator") st' rfl rfl (by decide) ⟨.int (lo+i),H,I1,⟨t,?_⟩,⟨rfl,rfl⟩,st',λb hb=>(hf b hb).1⟩⟩;rw[Int.mul_one]
 done:=by
  intro X hP hw hK hc i ζ s σ H E I hf st hg;subst hP hw hK;obtain⟨f0,f1,f2,f3,f4,f5⟩:=hf it (by simp)
  exact wpAny_pyNext_range_end (I.ok.hd hc) st (by have:n<=i:=hg;lia) λh' eb=>⟨rfl,I.turned (t':=s.toks) (λb o hb e=>eb b o hb e) f0 f1 f3 f4 f5⟩
 self:=λ_ _ _ _ _ st h=>wpAny_pyIter_rangeiter st h
section
variable{X:Cx}{tg:Expr}
def mR(K:AA)(tl:TE):TI:=λσ H R=>tl σ H λx H1=>∃a,x=.ref a/\(∃xs,SqL K H1 a xs)/\R (Itl K a) H1
def iTup(K:AA)(tl:TE):TI:=λσ H R=>tl σ H λx H1=>∃a,x=.ref a/\(∃xs,SqT K H1 a xs)/\R (Itt K a) H1
def df{l:Expr}{tl:TE}(hl:PE X l tl):PI X tg l (mR X.K tl):=by
 intro ζ s σ H R I h
 refine thn (hl ζ s σ H _ I h) λv s1 ⟨x,H1,I1,r1,q1⟩=>?_
 obtain⟨a,e,⟨xs,hq⟩,q⟩:=q1;subst e;cases r1;obtain⟨its,rv,p,hz⟩:=I1.list hq;refine kP p.isList ?_;refine⟨s1.heap.objs.size,[s1.heap.objs.size],_,_,H1,rfl,I1.kept (t':=s1.toks) λb o e=>AJ _ e,XZ a _,⟨_,Ak _ rfl,rfl,rfl⟩,λb hb=>?_,q⟩
 have e:b=s1.heap.objs.size:=by simpa using hb
 subst e;exact I1.fpOk (AQ _) (I1.hok.fresh (AQ _))
def jB{l:Expr}{tl:TE}(hl:PE X l tl):PI X tg l (iTup X.K tl):=by
 intro ζ s σ H R I h
 refine thn (hl ζ s σ H _ I h) λv s1 ⟨x,H1,I1,r1,q1⟩=>?_
 obtain⟨a,e,⟨xs,hq⟩,q⟩:=q1;subst e;cases r1;obtain⟨its,rv,p,hz⟩:=I1.tuple hq;refine E8 (show s1.heap.IsTuple a its.toArray from p) ?_;refine⟨s1.heap.objs.size,[s1.heap.objs.size],_,_,H1,rfl,I1.kept (t':=s1.toks) λb o e=>AJ _ e,U8 a _,⟨_,Ak _ rfl,rfl,rfl⟩,λb hb=>?_,q⟩
 have e:b=s1.heap.objs.size:=by simpa using hb
 subst e;exact I1.fpOk (AQ _) (I1.hok.fresh (AQ _))
def T2{ζ:List (AK×Obj)}{σ:St}{H:Hp}{s:AG}{R:It->Hp->Prop}{E:AE->AG->Prop}{lo hi:Int}{t u v:Tok}{tk:Nat}(I:Inv X ζ σ H s)(h1:-(2 ^ 62)<=lo)(h2:lo < 2 ^ 62)(h3:-(2 ^ 62)<=hi)(h4:hi < 2 ^ 62)
  (q:R (Itr lo (hi - lo).toNat) H):Av (Af X.prog X.w) X.A (Uo (.ref s.heap.objs.size)) (PIE X ζ σ tg R) E { s with heap:=s.heap.push { cls:=.type "range",data:=.fields #[.int lo t,.int hi u,.int 1 v] },toks:=tk }:=by
 refine wpAny_pyIter_range (gJ ..) (small_one h1 h2 h3 h4) ?_
 have I1:Inv X ζ σ H { s with heap:=s.heap.push { cls:=.type "range",data:=.fields #[.int lo t,.int hi u,.int 1 v] },toks:=tk }:=I.kept λb o e=>AJ _ e
 refine⟨(s.heap.push { cls:=.type "range",data:=.fields #[.int lo t,.int hi u,.int 1 v] }).objs.size,[(s.heap.push { cls:=.type "range",data:=.fields #[.int lo t,.int hi u,.int 1 v] }).objs.size],_,_,H,rfl,
  I1.kept (t':=tk) λb o e=>AJ _ e,U9 _ lo (hi - lo).toNat,?_,λb hb=>?_,q⟩
 ·have e1:lo+((0:Nat):Int) * 1=lo:=by simp
  have e2:(((hi - lo).toNat:Nat):Int) - ((0:Nat):Int)=Nv lo hi 1:=by rw[rangeSize_one];split <;> lia
  show IsRangeIter _ _ (lo+((0:Nat):Int) * 1) ((((hi - lo).toNat:Nat):Int) - ((0:Nat):Int)) 1;rw[e1,e2];exact Ak _ rfl
 ·have e:b=(s.heap.push { cls:=.type "range",data:=.fields #[.int lo t,.int hi u,.int 1 v] }).objs.size:=by simpa using hb
  subst e;exact I1.fpOk (AQ _) (I1.hok.fresh (AQ _))
def mO(ta:TA):TI:=λσ H R=>ta σ H λvs H1=>∃j:Int,vs=[.int j]/\-(2 ^ 62)<=j/\j < 2 ^ 62/\R (Itr 0 j.toNat) H1
def mM(ta:TA):TI:=λσ H R=>ta σ H λvs H1=>∃i j:Int,vs=[.int i,.int j]/\(-(2 ^ 62)<=i/\i < 2 ^ 62/\-(2 ^ 62)<=j/\j < 2 ^ 62)/\R (Itr i (j - i).toNat) H1
def Xu{a:Expr}{ta:TA}{p pos:Pos}(hg:Gl X "range") (hm:X.mg "range" = none) (ha:PA X [a] ta) (hs:AS [a] X.env=[(false,Bw a X.env)]:=by rfl):PI X tg (.Call (.Name "range" p) [a] [] pos) (mO ta):=by
 intro ζ s σ H R I h;refine Call_ (IV I hg hm g0 (Br (thn (ha pos ζ s σ H _ I h) λus s1 ⟨vs,H1,I1,r1,q1⟩=>?_) hs rfl));obtain⟨j,e,q1,q2,q⟩:=q1;subst e
 cases r1 with
 | cons r rr=>
  cases rr;obtain⟨t,rfl⟩:=r;exact call_range_1 (T2 I1 (by lia) (by lia) q1 q2 (by simpa using q))
def Xt{a b:Expr}{ta:TA}{p pos:Pos}(hg:Gl X "range") (hm:X.mg "range" = none) (ha:PA X [a,b] ta) (hs:AS [a,b] X.env=[(false,Bw a X.env),(false,Bw b X.env)]:=by rfl) (hs2:AS [b] X.env=[(false,Bw b X.env)]:=by rfl) :
  PI X tg (.Call (.Name "range" p) [a,b] [] pos) (mM ta):=by
 intro ζ s σ H R I h;refine Call_ (IV I hg hm g0 (Br (thn (ha pos ζ s σ H _ I h) λus s1 ⟨vs,H1,I1,r1,q1⟩=>?_) (by rw[hs,hs2]) (by rw[hs2];rfl)));obtain⟨i,j,e,⟨q1,q2,q3,q4⟩,q⟩:=q1;subst e
 cases r1 with
 | cons r rr=>
  cases rr with
  | cons r' rr=>
   cases rr;obtain⟨t,rfl⟩:=r;obtain⟨t',rfl⟩:=r';exact call_range_2 (T2 I1 q1 q2 q3 q4 q)
def tFor(wi:TI)(g:TG)(tb:TS):TS:=λD σ H=>wi σ H λJ H1=>∃W:Nat->Nat->St->Hp->Prop,(∃m,W 0 m σ H1)/\∀i m σ H,W i m σ H ->
 (J.stop i H/\D.nx σ H)∨(J.go i H/\∃N:St->Hp->Prop,(∀σ' H',N σ' H'->∃m',m' < m/\W (i+1) m' σ' H')/\∀x H',J.yld i H x H'->g x σ H' λσ2 H2=>tb { D with nx:=N,ct:=N,bk:=D.nx } σ2 H2)
def Pg(fp:List AK)(h:B7):List (AK×Obj):=fp.filterMap λb=>(h.get? b).map λo=>(b,o)
def J4{fp:List AK}{h:B7}{b:AK}{o:Obj}(hb:b∈fp)(e:h.get? b=some o):(b,o)∈Pg fp h:=Yq.mpr ⟨b,hb,by rw[e];rfl⟩
def X1{fp:List AK}{h:B7}{p:AK×Obj}(hp:p∈Pg fp h):p.1∈fp/\h.get? p.1=some p.2:=by
 obtain⟨b,hb,e⟩:=Yq.mp hp
 cases q:h.get? b with
 | none=>rw[q]at e;cases e
 | some o=>
  rw[q]at e;have e':(b,o)=p:=CJ e;subst e';exact⟨hb,q⟩
def Inv.pinned{ζ:List (AK×Obj)}{σ:St}{H:Hp}{s:AG}{fp:List AK}(I:Inv X ζ σ H s)(hf:∀b∈fp,L9 X ζ H b)(ho:∀b∈fp,∃o,s.heap.get? b=some o/\∀v,o.data≠.cell v):Inv X (ζ++Pg fp s.heap) σ H s:=
 I.pins_of λp hp=>(Ae.mp hp).elim (λz=>I.pin p (A4 _ z)) λz=>by
  obtain⟨hb,e⟩:=X1 z;obtain⟨f0,f1,f2,_⟩:=hf p.1 hb;obtain⟨o,e',d⟩:=ho p.1 hb;rw[e]at e';cases e';exact⟨e,f0,f1,f2,d⟩
def Inv.unpinned{ζ pl:List (AK×Obj)}{σ:St}{H:Hp}{s:AG}(I:Inv X (ζ++pl) σ H s):Inv X ζ σ H s:=I.pins_of λp hp=>I.pin p (A4 _ (Az _ hp))
def i7{iter:Expr}{body:List Ce}{wi:TI}{g:TG}{tb:TS}{pos:Pos}(hp:Rq (Af X.prog X.w) X.A X.env X.xe)(hc:X.calm=true)(hi:PI X tg iter wi)(hg:PG X tg g)(hb:PSs X body tb)
  (hs:∀x,Fi iter X.env x=pure x:=by intro _;rfl):PS X (.For tg iter body [] pos) (tFor wi g tb):=by
 intro ζ s σ H D I h;refine wpAny_For (thn (hi ζ s σ H _ I h) λv s1 h1=>thn h1 λitv s2 h2=>?_) hs;obtain⟨it,fp,tn,J,H2,e,I2,T,st2,f2,W,⟨m0,w0⟩,turn⟩:=h2;subst e
 have stat:∀{H':Hp},(∀b∈fp,H' b=none)->∀b∈fp,L9 X ζ H' b:=λhn b hb=>⟨hn b hb,(f2 b hb).2⟩
 refine codeAny_forLoop_any (λn s'=>∃i σ' H',Inv X ζ σ' H' s'/\tn i s'.heap/\(∀b∈fp,H' b=none)/\W i n σ' H') ?_ m0 ⟨0,σ,H2,I2,st2,λb hb=>(f2 b hb).1,w0⟩;rintro n s3 ⟨i,σ3,H3,I3,st3,fr3,w3⟩
 rcases turn i n σ3 H3 w3 with⟨stop,qn⟩ | ⟨go,N,hN,step⟩
 ·refine FH hp (thn (T.done X rfl rfl rfl hc i ζ s3 σ3 H3 X.xe I3 (stat fr3) st3 stop) λr s4 ⟨hr,I4⟩=>?_)
  subst hr;exact MB ⟨σ3,H3,I4,qn⟩
 ·refine FH hp (thn (T.item X rfl rfl rfl hc i ζ s3 σ3 H3 X.xe I3 (stat fr3) st3 go) λr s4 ⟨u,hr,h4⟩=>?_)
  subst hr;refine FH hp (thn h4 λ_ s5 ⟨x,H5,I5,r5,y5,st5,fr5⟩=>?_);have I5':=I5.pinned (stat fr5) (T.obj _ _ st5);refine FH hp (thn (hg _ s5 σ3 H5 x u _ I5' r5 (step x H5 y5)) λ_ s6 ⟨σ6,H6,I6,q6⟩=>?_);refine FH hp (thn (hb _ s6 σ6 H6 _ I6 q6) λf s7 q7=>?_)
  have kX:∀{σ7:St} {H7:Hp},Inv X (ζ++Pg fp s5.heap) σ7 H7 s7->N σ7 H7->∃m,m < n/\∃i σ' H',Inv X ζ σ' H' s7/\tn i s7.heap/\(∀b∈fp,H' b=none)/\W i m σ' H':=λ{σ7 H7} I7 n7=>by
   obtain⟨m',hm,w7⟩:=hN σ7 H7 n7;refine⟨m',hm,i+1,σ7,H7,I7.unpinned,T.keep _ _ _ st5 λb hb o e=>(I7.pin (b,o) (A4 _ (A4 _ (J4 hb e)))).1,λb hb=>?_,w7⟩;obtain⟨o,e,d⟩:=T.obj _ _ st5 b hb;exact(I7.pin (b,o) (A4 _ (A4 _ (J4 hb e)))).2.1
  cases f with
  | next=>obtain⟨σ7,H7,I7,n7⟩:=q7;exact kX I7 n7
  | cont=>obtain⟨σ7,H7,I7,n7⟩:=q7;exact kX I7 n7
  | brk=>obtain⟨σ7,H7,I7,q7⟩:=q7;exact⟨σ7,H7,I7.unpinned,q7⟩
  | ret v=>obtain⟨x7,σ7,H7,I7,r7,q7⟩:=q7;exact⟨x7,σ7,H7,I7.unpinned,r7,q7⟩
end
abbrev R2:=V->V->Hp->VK->Prop
def OpR(X:Cx)(f:AE->AE->Sem AE)(r:R2):Prop:=
 ∀(ζ:List (AK×Obj)) (s:AG) (σ:St) (H:Hp) (x y:V) (v u:AE) (Q:VK),Inv X ζ σ H s->RelV x v->RelV y u->r x y H Q ->
  Av (Af X.prog X.w) X.A (f v u) (EP X ζ σ Q) X.xe s
def UnR(X:Cx)(f:AE->Sem AE)(r:V->Hp->VK->Prop):Prop:=
 ∀(ζ:List (AK×Obj)) (s:AG) (σ:St) (H:Hp) (x:V) (v:AE) (Q:VK),Inv X ζ σ H s->RelV x v->r x H Q ->
  Av (Af X.prog X.w) X.A (f v) (EP X ζ σ Q) X.xe s
def Ij(X:Cx)(f:AE)(r:List V->Hp->VK->Prop):Prop:=
 ∀(ζ:List (AK×Obj)) (s:AG) (σ:St) (H:Hp) (xs:List V) (us:List AE) (Q:VK),Inv X ζ σ H s->Bk xs us->r xs H Q ->
  Av (Af X.prog X.w) X.A (call f us) (EP X ζ σ Q) X.xe s
def TruR(X:Cx)(r:V->Hp->(Bool->Hp->Prop)->Prop):Prop:=
 ∀(ζ:List (AK×Obj)) (s:AG) (σ:St) (H:Hp) (x:V) (v:AE) (Q:Bool->Hp->Prop),Inv X ζ σ H s->RelV x v->r x H Q ->
  Av (Af X.prog X.w) X.A (gu v) (TP X ζ σ Q) X.xe s
def tOp(r:R2)(ta tb:TE):TE:=λσ H Q=>ta σ H λx H1=>tb σ H1 λy H2=>r x y H2 Q
def tUn(r:V->Hp->VK->Prop)(ta:TE):TE:=λσ H Q=>ta σ H λx H1=>r x H1 Q
def rI(C:Int->Int->Prop)(g:Int->Int->V):R2:=λx y H Q=>∃i j,x=.int i/\y=.int j/\C i j/\Q (g i j) H
def rI0(g:Int->Int->V):R2:=λx y H Q=>∃i j,x=.int i/\y=.int j/\Q (g i j) H
def rU(g:Int->V):V->Hp->VK->Prop:=λx H Q=>∃i,x=.int i/\Q (g i) H
section
variable{X:Cx}{a b c:Expr}{ta tb tc:TE}{pos:Pos}
def kH(ha:PE X a ta)(hb:PE X b tb){ζ:List (AK×Obj)}{s:AG}{σ:St}{H:Hp}{R:V->V->Hp->Prop}(I:Inv X ζ σ H s)
  (h:ta σ H λx H1=>tb σ H1 λy H2=>R x y H2) {Q:AE->AG->Prop} {f:AE->AE->Sem AE}
  (hf:∀v u s2 x y H2,Inv X ζ σ H2 s2->RelV x v->RelV y u->R x y H2->Av (Af X.prog X.w) X.A (f v u) Q X.xe s2) :
  Av (Af X.prog X.w) X.A (Bw a X.env) (λv s₁=>Av (Af X.prog X.w) X.A (Bw b X.env) (λu s₂=>Av (Af X.prog X.w) X.A (f v u) Q X.xe s₂) X.xe s₁) X.xe s:=by
 refine thn (ha ζ s σ H _ I h) λv s1 ⟨x,H1,I1,r1,q1⟩=>?_
 refine thn (hb ζ s1 σ H1 _ I1 q1) λu s2 ⟨y,H2,I2,r2,q2⟩=>?_
 exact hf v u s2 x y H2 I2 r1 r2 q2
def lf{op:Operator}{r:R2}(ho:OpR X (Cj op) r)(ha:PE X a ta)(hb:PE X b tb):PE X (.BinOp a op b pos) (tOp r ta tb):=by
 intro ζ s σ H Q I h;exact wpAny_BinOp (kH ha hb I h λv u s2 x y H2 I2 rx ry q=>ho ζ s2 σ H2 x y v u Q I2 rx ry q)
def lc{op:UnaryOp}{r:V->Hp->VK->Prop}(ho:UnR X (unaryOp op) r)(ha:PE X a ta):PE X (.UnaryOp op a pos) (tUn r ta):=by
 intro ζ s σ H Q I h;exact UnaryOp_ (thn (ha ζ s σ H _ I h) λv s1 ⟨x,H1,I1,r1,q1⟩=>ho ζ s1 σ H1 x v Q I1 r1 q1)
def opI{f:AE->AE->Sem AE}{C:Int->Int->Prop}{g:Int->Int->Int}
  (rule:∀(i j:Int) (t u:Tok) (s:AG) (Q:AE->AG->Prop) (E:AE->AG->Prop),C i j->Q (.int (g i j) s.toks) { s with toks:=s.toks+1 }->Av (Af X.prog X.w) X.A (f (.int i t) (.int j u)) Q E s) :
  OpR X f (rI C λi j=>.int (g i j)):=by
 intro ζ s σ H x y v u Q I rx ry h;obtain⟨i,j,rfl,rfl,hc,q⟩:=h;obtain⟨t,rfl⟩:=rx;obtain⟨t',rfl⟩:=ry;exact rule i j t t' s _ _ hc ⟨.int (g i j),H,I.tok _,⟨_,rfl⟩,q⟩
def jW{f:AE->AE->Sem AE}{g:Int->Int->Int}
  (rule:∀(i j:Int) (t u:Tok) (s:AG) (Q:AE->AG->Prop) (E:AE->AG->Prop),Q (.int (g i j) s.toks) { s with toks:=s.toks+1 }->Av (Af X.prog X.w) X.A (f (.int i t) (.int j u)) Q E s) :
  OpR X f (rI0 λi j=>.int (g i j)):=by
 intro ζ s σ H x y v u Q I rx ry h;obtain⟨i,j,rfl,rfl,q⟩:=h;obtain⟨t,rfl⟩:=rx;obtain⟨t',rfl⟩:=ry;exact rule i j t t' s _ _ ⟨.int (g i j),H,I.tok _,⟨_,rfl⟩,q⟩
def jX{f:AE->AE->Sem AE}{g:Int->Int->Bool}
  (rule:∀(i j:Int) (t u:Tok) (s:AG) (Q:AE->AG->Prop) (E:AE->AG->Prop),Q (.bool (g i j)) s->Av (Af X.prog X.w) X.A (f (.int i t) (.int j u)) Q E s) :
  OpR X f (rI0 λi j=>.bl (g i j)):=by
 intro ζ s σ H x y v u Q I rx ry h;obtain⟨i,j,rfl,rfl,q⟩:=h;obtain⟨t,rfl⟩:=rx;obtain⟨t',rfl⟩:=ry;exact rule i j t t' s _ _ ⟨.bl (g i j),H,I,rfl,q⟩
def gB(i j:Int):Prop:=0 < j/\j < 1073741824
def bb(i j:Int):Prop:=0<=j/\j<=1000000/\i.natAbs < 2 ^ 64
def Yg(i j:Int):Prop:=(-(2 ^ 64) < i/\i < 2 ^ 64)∨(-(2 ^ 64) < j/\j < 2 ^ 64)
def Yg.ok{i j:Int}(h:Yg i j):IntMulOk i j:=by
 rcases h with⟨h1,h2⟩ | ⟨h1,h2⟩
 ·exact .of_left (intBits_le_64 h1 h2)
 ·exact .of_right (intBits_le_64 h1 h2)
def U7(k:Nat):(0:Int)<=2 ^ k:=by
 rw[two_pow_cast];exact Y0 _
def jV:OpR X (Cj .Add) (rI0 λi j=>.int (i+j)):=jW λ_ _ _ _ _ _ _ q=>add_int q
def jN:OpR X (Cj .Sub) (rI0 λi j=>.int (i - j)):=jW λ_ _ _ _ _ _ _ q=>sub_int q
def jQ:OpR X (Cj .Mult) (rI Yg λi j=>.int (i * j)):=opI λ_ _ _ _ _ _ _ hc q=>mul_int q hc.ok
def eD:OpR X (Cj .FloorDiv) (rI gB λi j=>.int (i / j)):=opI λi j _ _ _ _ _ hc q=>by
 have h1:(0:Int) < j:=hc.1;have h2:j < 1073741824:=hc.2;exact floordiv_int (by lia) (by rw[Ru i (by lia)];exact q) (.inl (PyProof.noPylong_small (by omega)))
def jR:OpR X (Cj .Mod) (rI (λ_ j=>0 < j) λi j=>.int (i % j)):=opI λi j _ _ _ _ _ hc q=>by
 have h1:(0:Int) < j:=hc;exact mod_int' (by lia) (by rw[Int.fmod_eq_emod_of_nonneg i (by lia)];exact q)
def jP:OpR X (Cj .LShift) (rI bb λi j=>.int (i * 2 ^ j.toNat)):=opI λ_ _ _ _ _ _ _ hc q=>lshift_int_small hc.1 hc.2.1 hc.2.2 q
def jO:OpR X (Cj .RShift) (rI (λ_ j=>0<=j) λi j=>.int (i / 2 ^ j.toNat)):=opI λi j _ _ _ _ _ hc q=>
 rshift_int hc (by rw[Ru i (U7 _)];exact q)
def jU:OpR X (Cj .BitAnd) (rI0 λi j=>.int (Gi i j)):=jW λ_ _ _ _ _ _ _ q=>and_int q
def unI{f:AE->Sem AE}{g:Int->Int}
  (rule:∀(i:Int) (t:Tok) (s:AG) (Q:AE->AG->Prop) (E:AE->AG->Prop),Q (.int (g i) s.toks) { s with toks:=s.toks+1 }->Av (Af X.prog X.w) X.A (f (.int i t)) Q E s) :
  UnR X f (rU λi=>.int (g i)):=by
 intro ζ s σ H x v Q I rx h;obtain⟨i,rfl,q⟩:=h;obtain⟨t,rfl⟩:=rx;exact rule i t s _ _ ⟨.int (g i),H,I.tok _,⟨_,rfl⟩,q⟩
def iT:UnR X (unaryOp .USub) (rU λi=>.int (-i)):=unI λ_ _ _ _ _ q=>neg_int q
end
section
variable{X:Cx}{a b c:Expr}{ta tb tc:TE}{pos:Pos}
def bD{ζ:List (AK×Obj)}{σ:St}{H:Hp}{s:AG}{Q:VK}{k k':Bool}(I:Inv X ζ σ H s)(q:Q (.bl k) H)(e:k=k'):EP X ζ σ Q (.bool k') s:=by
 subst e;exact⟨.bl k,H,I,rfl,q⟩
def ll:OpR X (Bi .Lt) (rI0 λi j=>.bl (decide (i < j))):=jX λ_ _ _ _ _ _ _ q=>lt_int q
def lm:OpR X (Bi .LtE) (rI0 λi j=>.bl (decide (i<=j))):=jX λ_ _ _ _ _ _ _ q=>le_int q
def ln:OpR X (Bi .GtE) (rI0 λi j=>.bl (decide (j<=i))):=jX λ_ _ _ _ _ _ _ q=>ge_int q
def jS:OpR X (Bi .Is) (λx y H Q=>y=.non/\Q (.bl (decide (x=.non))) H):=by
 intro ζ s σ H x y v u Q I rx ry h;obtain⟨rfl,q⟩:=h;cases ry;refine is_none_gen (bD I q ?_)
 cases x <;> first
  | (cases rx;rfl)
  | (obtain⟨t,rfl⟩:=rx;rfl)
def eC:OpR X (Bi .IsNot) (λx y H Q=>y=.non/\Q (.bl (!decide (x=.non))) H):=by
 intro ζ s σ H x y v u Q I rx ry h;obtain⟨rfl,q⟩:=h;cases ry;refine isnot_none_gen (bD I q ?_)
 cases x <;> first
  | (cases rx;rfl)
  | (obtain⟨t,rfl⟩:=rx;rfl)
def OpR.or{f:AE->AE->Sem AE}{r r':R2}(h:OpR X f r)(h':OpR X f r'):OpR X f (λx y H Q=>r x y H Q∨r' x y H Q):=by
 intro ζ s σ H x y v u Q I rx ry q
 rcases q with q | q
 ·exact h ζ s σ H x y v u Q I rx ry q
 ·exact h' ζ s σ H x y v u Q I rx ry q
def Cg(b:Expr){op:OW}(h:op≠.In:=by decide)(h2:op≠.NotIn:=by decide):B9 op b=false:=by
 have e1:(op==OW.In)=false:=by cases op <;> first | rfl | exact zX rfl h
 have e2:(op==OW.NotIn)=false:=by cases op <;> first | rfl | exact zX rfl h2
 cases b <;> simp[B9,e1,e2]
def dw{op:OW}{r:R2}(ho:OpR X (Bi op) r)(ha:PE X a ta)(hb:PE X b tb)(hm:B9 op b=false):PE X (.Compare a [op] [b] pos) (tOp r ta tb):=by
 intro ζ s σ H Q I h;exact wpAny_Compare1 (kH ha hb I h λv u s2 x y H2 I2 rx ry q=>ho ζ s2 σ H2 x y v u Q I2 rx ry q) hm
def gX(t:TE):TT:=λσ H Q=>t σ H λx H'=>∃k,x=.bl k/\Q k H'
def dS{op:OW}{r:R2}(ho:OpR X (Bi op) r)(ha:PE X a ta)(hb:PE X b tb)(hm:B9 op b=false):PT X (.Compare a [op] [b] pos) (gX (tOp r ta tb)):=by
 intro ζ s σ H Q I h
 refine bd (thn (ha ζ s σ H _ I h) λv s1 ⟨x,H1,I1,r1,q1⟩=>thn (hb ζ s1 σ H1 _ I1 q1) λu s2 ⟨y,H2,I2,r2,q2⟩=>
  thn (ho ζ s2 σ H2 x y v u _ I2 r1 r2 q2) λc s3 ⟨z,H3,I3,r3,k,e,q3⟩=>?_) hm
 subst e;cases r3;exact CN ⟨H3,I3,q3⟩
def VJ(r r':R2)(ta tb tc:TE):TE:=λσ H Q=>ta σ H λx H1=>tb σ H1 λy H2=>r x y H2 λz H3=>∃k,z=.bl k /\
 (if k=true then tc σ H3 λw' H4=>r' y w' H4 Q else Q (.bl false) H3)
def Zv{op op':OW}{r r':R2}(ho:OpR X (Bi op) r)(ho':OpR X (Bi op') r')(ha:PE X a ta)(hb:PE X b tb)(hc:PE X c tc)
  (hm:Yi [op,op'] [b,c]=false:=by with_unfolding_all rfl):PE X (.Compare a [op,op'] [b,c] pos) (VJ r r' ta tb tc):=by
 intro ζ s σ H Q I h
 refine Compare_chain (thn (ha ζ s σ H _ I h) λv s1 ⟨x,H1,I1,r1,q1⟩=>chain_link (thn (hb ζ s1 σ H1 _ I1 q1) λu s2 ⟨y,H2,I2,r2,q2⟩=>
  thn (ho ζ s2 σ H2 x y v u _ I2 r1 r2 q2) λd s3 ⟨z,H3,I3,r3,k,e,q3⟩=>?_)) hm
 subst e;cases r3;refine CN ?_
 cases k with
 | false=>exact ite_ff ⟨.bl false,H3,I3,rfl,q3⟩
 | true=>exact ite_tt (chain_last (thn (hc ζ s3 σ H3 _ I3 q3) λw' s4 ⟨z',H4,I4,r4,q4⟩=>ho' ζ s4 σ H4 y z' u w' Q I4 r2 r4 q4))
def Zj{op op':OW}{r r':R2}(ho:OpR X (Bi op) r)(ho':OpR X (Bi op') r')(ha:PE X a ta)(hb:PE X b tb)(hc:PE X c tc)
  (hm:Yi [op,op'] [b,c]=false:=by with_unfolding_all rfl):PT X (.Compare a [op,op'] [b,c] pos) (gX (VJ r r' ta tb tc)):=by
 intro ζ s σ H Q I h
 refine isTrue_chain (thn (ha ζ s σ H _ I h) λv s1 ⟨x,H1,I1,r1,q1⟩=>test_link (thn (hb ζ s1 σ H1 _ I1 q1) λu s2 ⟨y,H2,I2,r2,q2⟩=>
  thn (ho ζ s2 σ H2 x y v u _ I2 r1 r2 q2) λd s3 ⟨z,H3,I3,r3,k,e,q3⟩=>?_)) hm
 subst e;cases r3;refine CN ?_
 cases k with
 | false=>
  obtain⟨k',e',q'⟩:=q3;cases e';exact ite_ff ⟨H3,I3,q'⟩
 | true=>
  refine ite_tt (test_last (thn (hc ζ s3 σ H3 _ I3 q3) λw' s4 ⟨z',H4,I4,r4,q4⟩=>thn (ho' ζ s4 σ H4 y z' u w' _ I4 r2 r4 q4) λd' s5 ⟨z2,H5,I5,r5,k2,e2,q5⟩=>?_));subst e2;cases r5;exact CN ⟨H5,I5,q5⟩
def kK(K:AA)(x:V)(H:Hp)(k:Bool):Prop:=
 match x with
 | .non=>k=false
 | .bl b=>k=b
 | .int i=>k=(i != 0)
 | .str y=>y.length<=sizeLine/\k=((y.length:Int) != 0)
 | .byt y=>y.size<=sizeLine/\k=((y.size:Int) != 0)
 | .ref p=>(∃xs,SqL K H p xs/\k = !xs.isEmpty)∨(∃xs,SqT K H p xs/\k = !xs.isEmpty)∨∃kvs,H p=some (.dK kvs)/\k = !kvs.isEmpty
 | _=>False
def Vi{κ:Type}{kvs:List (κ×V)}{vs:List (κ×AE)}(r:KV kvs vs):(!vs.isEmpty) = !kvs.isEmpty:=by
 cases r <;> rfl
def P6{xs:List V}{its:List AE}(r:Bk xs its):(!its.toArray.isEmpty) = !xs.isEmpty:=by
 cases r <;> simp
def SU:(sizeLine:Nat) < 2 ^ 63:=by rw[TB];decide
def iX:TruR X (λx H Q=>∃k,kK X.K x H k/\Q k H):=by
 intro ζ s σ H x v Q I rx h;obtain⟨k,e,q⟩:=h;have hl:=SU;have hs:sizeLine=16777216:=TB
 cases x with
 | non=>
  cases rx;have e':k=false:=e;subst e';exact truthy_none ⟨H,I,q⟩
 | bl b=>
  cases rx;have e':k=b:=e;subst e';exact CN ⟨H,I,q⟩
 | int i=>
  obtain⟨t,rfl⟩:=rx;have e':k=(i != 0):=e;subst e';exact PySem.P.truthy_int ⟨H,I,q⟩
 | str y=>
  obtain⟨t,rfl⟩:=rx;obtain⟨hy,e'⟩:y.length<=sizeLine/\k=((y.length:Int) != 0):=e;subst e';exact PySem.P.truthy_str (by lia) ⟨H,I.tok _,q⟩
 | byt y=>
  obtain⟨t,rfl⟩:=rx;obtain⟨hy,e'⟩:y.size<=sizeLine/\k=((y.size:Int) != 0):=e;subst e';exact PySem.W.truthy_bytes (by lia) ⟨H,I.tok _,q⟩
 | ref p=>
  cases rx
  have e':(∃xs,SqL X.K H p xs/\k = !xs.isEmpty)∨(∃xs,SqT X.K H p xs/\k = !xs.isEmpty)∨∃kvs,H p=some (.dK kvs)/\k = !kvs.isEmpty:=e
  rcases e' with⟨xs,hx,e'⟩ | ⟨xs,hx,e'⟩ | ⟨kvs,hx,e'⟩
  ·subst e'
   obtain⟨its,r,pl,hz⟩:=I.list hx;have hlen:=r.length;exact wpAny_truthy_list pl.isList (by simp only[AU];lia) ⟨H,I.tok _,by rw[P6 r];exact q⟩
  ·subst e'
   obtain⟨its,r,pl,hz⟩:=I.tuple hx;have hlen:=r.length;exact truthy_tuple pl (by simp only[AU];lia) ⟨H,I.tok _,by rw[P6 r];exact q⟩
  ·subst e'
   obtain⟨hz,hS,vs,r,m⟩:kvs.length<=sizeLine/\(p==DD)=false/\∃vs,KV kvs vs/\s.heap.DictOf (Cv X.prog X.w) p vs:=I.hok p _ hx
   have hlen:kvs.length=vs.length:=Dz r;exact wpAny_truthy_dict hS m (by lia) ⟨H,I.tok _,by rw[Vi r];exact q⟩
 | _=>exact(show False from e).elim
def Zh(ha:PE X a ta)(he:∀whole,Uq a X.env whole=(do let v <-whole;kS a.pos;kW [v] (gu v))) :
  PT X a (λσ H Q=>ta σ H λx H'=>∃k,kK X.K x H' k/\Q k H'):=by
 intro ζ s σ H Q I h;exact isTrue_plain (thn (ha ζ s σ H _ I h) λv s1 ⟨x,H1,I1,r1,q1⟩=>iX ζ s1 σ H1 x v Q I1 r1 q1) (he _)
def vals1{x:V}{us:List AE}(r:Bk [x] us):∃u,us=[u]/\RelV x u:=by
 cases r with
 | cons r1 r2=>cases r2;exact⟨_,rfl,r1⟩
def vals2{x y:V}{us:List AE}(r:Bk [x,y] us):∃u w',us=[u,w']/\RelV x u/\RelV y w':=by
 cases r with
 | cons r1 r2=>
  cases r2 with
  | cons r3 r4=>cases r4;exact⟨_,_,rfl,r1,r3⟩
def Yb(hc:X.calm=true):Ij X (.builtin "max") (λxs H Q=>∃i j,xs=[.int i,.int j]/\Q (.int (if j > i then j else i)) H):=by
 intro ζ s σ H xs us Q I r h;obtain⟨i,j,rfl,q⟩:=h;obtain⟨u,w',rfl,⟨t,rfl⟩,⟨t',rfl⟩⟩:=vals2 r
 refine max_two_ints (I.ok.hd hc) λh' tk k=>⟨_,H,I.kept k,?_,q⟩
 by_cases hj:j > i
 ·rw[qX hj,qX hj];exact⟨_,rfl⟩
 ·rw[qY hj,qY hj];exact⟨_,rfl⟩
def Ya(hc:X.calm=true):Ij X (.builtin "min") (λxs H Q=>∃i j,xs=[.int i,.int j]/\Q (.int (if j < i then j else i)) H):=by
 intro ζ s σ H xs us Q I r h;obtain⟨i,j,rfl,q⟩:=h;obtain⟨u,w',rfl,⟨t,rfl⟩,⟨t',rfl⟩⟩:=vals2 r
 refine min_two_ints (I.ok.hd hc) λh' tk k=>⟨_,H,I.kept k,?_,q⟩
 by_cases hj:j < i
 ·rw[qX hj,qX hj];exact⟨_,rfl⟩
 ·rw[qY hj,qY hj];exact⟨_,rfl⟩
end
structure Yf(h:B7)(x dx C:AK)(mA:Str->Option AE):Prop where
 obj:h.get? x=some (Do C dx)
 ns:h.Ns1 dx mA
 ne:dx≠x
def X3{h:B7}{dx:AK}{mA:Str->Option AE}(n:h.Ns1 dx mA):∃od,h.get? dx=some od/\∀name,Ou name od=some (mA name):=by
 obtain⟨o,es,ep,ho,hd,hk,_,hm⟩:=n;refine⟨o,ho,λname=>?_⟩;have e:=hm name;unfold nsFind findBy at e;rw[<-Array.find?_toList]at e;unfold Ou;rw[hd];dsimp only;split
 ·rename_i y q
  rw[q]at e;exact congrArg some e
 ·rename_i q
  rw[q]at e
  have a:es.toList.any (·.refKey)=false:=by
   rw[List.any_eq_false];intro y hy;obtain⟨z,t,hkey⟩:=hk y (BY.mp hy);simp[IN.refKey,hkey]
  have a':¬es.toList.any (·.refKey)=true:=by rw[a];exact AZ
  rw[qY a'];exact congrArg some e
def Yf.look{h:B7}{x dx C:AK}{mA:Str->Option AE}(I:Yf h x dx C mA):∃od,PySem.W.InstAt h x (Do C dx) C (some od)/\∀name,Ou name od=some (mA name):=
 let ⟨od,ho,hl⟩:=X3 I.ns
 ⟨od,⟨I.obj,rfl,rfl,ho⟩,hl⟩
section
variable{prog:Al}{w:BE}{A:BC}{E:AE->AG->Prop}{s:AG}{K:AA}{x dx C f:AK}{mA:Str->Option AE}{name:Str}{v:AE}
def eu{expr:Bool}{Q:AE->AG->Prop}(X:K.In s.heap)(I:Yf s.heap x dx C mA)(hg:NM K C name=true)(hh:MP K C=true)
  (ha:EA K (.ref C) name=some none) (hv:mA name=some v) (hv':XG v=true) (h:Q v { s with toks:=s.toks+1 }) :
  Av (Af prog w) A (getAttr (.ref x) name expr) Q E s:=by
 obtain⟨od,J,hl⟩:=I.look;exact PySem.W.get_value X J (PySem.W.plainGet_of hg).1 (PySem.W.findObj_own hh ha rfl (by rw[hl,hv])) hv' h
def dJ{ns:List Str}{Q:Unit->AG->Prop}(X:K.In s.heap)(I:Yf s.heap x dx C mA)
  (hs:EA K (.ref C) "__setattr__" = some (some (.builtin "object.__setattr__"))) (hp:V9 K C=true) (ht:OF K C name=some none) (hh:MP K C=true)
  (hw:TM mA ns) (hsz:ns.length<=sizeLine)
  (h:∀h',Yf h' x dx C (λy=>if y=name then some v else mA y)->Ec dx s.heap h'->Q () { s with heap:=h',toks:=s.toks+2 }) :
  Av (Af prog w) A (setAttr (.ref x) name v) Q E s:=by
 obtain⟨od,J,hl⟩:=I.look;refine PySem.W.set_plain X J hs (PySem.W.osa_open (s:={ s with toks:=s.toks+1 }) (r:=none) X J hp ht λb=>?_);obtain⟨cd,hc,hd'⟩:=PySem.W.any_some hh;have hx:s.heap.get? x=some ⟨.ref C,some dx,.plain,#[]⟩:=I.obj;refine AH (AY (AH (AH (wpAny_loadPart hx (AH (kx (s:={ s with toks:=s.toks+1 }) (PySem.W.looks_clsIn X hc) ?_))))));rw[hd'];refine AY (a:=some dx) (AH (AY (AH ?_)))
 refine wpAny_nsSet1 (s:={ s with toks:=s.toks+1 }) I.ns λh' hn2 hs2=>?_
 obtain⟨oD,esD,epD,hoD,hdD,hcD⟩:=hn2.count (nE name v hw);refine AH (wpAny_lookBehind hoD (by rw[hdD];exact pastItsLine_dict (At hcD (by rw[A8];lia))) ?_);exact AY (h _ ⟨(hs2.2 _ (CB I.ne)).trans I.obj,hn2,I.ne⟩ hs2)
def aE{R:g8->AG->Prop}{vs:List AE}{kw:List (Str×AE)}(X:K.In s.heap)(hm:Ym K C=true)
  (hi:EA K (.ref C) "__init__" = some (some (.ref f))) (hf:PySem.W.typeIn K (.ref f)=some (.type "function"))
  (h:Li (Af prog w) (A.under (.builtin "type.__call__" ⟨.ref C :: vs,kw⟩)) (.call (.ref f) ⟨.ref (s.heap.objs.size+1) :: vs,kw⟩) (PySem.W.InitBack (s.heap.objs.size+1) R)
   { s with heap:=(s.heap.push Cf).push (Do C s.heap.objs.size) }) :
  Li (Af prog w) A (.call (.ref C) ⟨vs,kw⟩) R s:=by
 obtain⟨hh,g,d,t,os⟩:=s;exact PySem.W.make_core (PySem.W.makes_of X hm) (PySem.W.looks_findIn X hi) (λself=>PySem.W.bind_fn X self hf) (.inl rfl) h
end
def putF(f:Str)(v:V):List (Str×V)->List (Str×V)
 | []=>[(f,v)]
 | (g,x) :: r=>if g=f then(g,v) :: r else(g,x) :: putF f v r
def N5(f g:Str)(v:V):∀fs:List (Str×V),(putF f v fs).lookup g=if g=f then some v else fs.lookup g
 | []=>by
  show Hx g [(f,v)]=_
  by_cases h:g=f
  ·have hb:(g==f)=true:=beq_iff_eq.mpr h
   simp only[Hx,hb,qX h]
  ·have hb:(g==f)=false:=beq_eq_false_iff_ne.mpr h
   simp only[Hx,hb,qY h]
 | (k,x) :: r=>by
  have ih:=N5 f g v r;rw[show putF f v ((k,x) :: r)=(if k=f then(k,v) :: r else(k,x) :: putF f v r)from rfl]
  by_cases hk:k=f
  ·rw[qX hk]
   by_cases h:g=k
   ·have hb:(g==k)=true:=beq_iff_eq.mpr h
    simp only[Hx,hb,qX (h.trans hk)]
   ·have hb:(g==k)=false:=beq_eq_false_iff_ne.mpr h
    simp only[Hx,hb,qY (λe:g=f=>h (e.trans hk.symm))]
  ·rw[qY hk]
   by_cases h:g=k
   ·have hb:(g==k)=true:=beq_iff_eq.mpr h
    simp only[Hx,hb,qY (λe:g=f=>hk (h.symm.trans e))]
   ·have hb:(g==k)=false:=beq_eq_false_iff_ne.mpr h
    simp only[Hx,hb];exact ih
def Ni(f:Str)(v:V):∀fs:List (Str×V),f∈(putF f v fs).map (·.1)/\∀g,g∈fs.map (·.1)->g∈(putF f v fs).map (·.1)
 | []=>⟨by simp[putF],λg h=>by simp at h⟩
 | (k,x) :: r=>by
  obtain⟨i1,i2⟩:=Ni f v r;rw[show putF f v ((k,x) :: r)=(if k=f then(k,v) :: r else(k,x) :: putF f v r)from rfl]
  by_cases hk:k=f
  ·rw[qX hk]
   subst hk;exact⟨by simp,λg h=>by simpa using h⟩
  ·rw[qY hk]
   refine⟨?_,λg h=>?_⟩
   ·rw[A5]
    exact Aj _ i1
   ·rw[A5]at h ⊢
    rcases Aw.mp h with e | e
    ·exact Aw.mpr (.inl e)
    ·exact Aj _ (i2 g e)
def N6(f:Str)(v:V):∀fs:List (Str×V),(putF f v fs).length<=fs.length+1
 | []=>by simp[putF]
 | (k,x) :: r=>by
  have ih:=N6 f v r;rw[show putF f v ((k,x) :: r)=(if k=f then(k,v) :: r else(k,x) :: putF f v r)from rfl]
  by_cases hk:k=f
  ·rw[qX hk,A8,A8];lia
  ·rw[qY hk,A8,A8];lia
def Nq.some_of{v:V}{o:Option AE}(r:Nq (some v) o):∃u,o=some u/\RelV v u:=by
 cases o with
 | none=>exact(show False from r).elim
 | some u=>exact⟨u,rfl,r⟩
def YE{v:V}{u:AE}(r:RelV v u):XG u=true:=by
 cases v with
 | non=>cases(show u=Ck from r);rfl
 | bl b=>cases(show u=MM b from r);rfl
 | int i=>obtain⟨t,e⟩:=(show ∃t,u=OD i t from r);cases e;rfl
 | str x=>obtain⟨t,e⟩:=(show ∃t,u=OC x t from r);cases e;rfl
 | byt b=>obtain⟨t,e⟩:=(show ∃t,u=kc b t from r);cases e;rfl
 | flt b=>obtain⟨t,e⟩:=(show ∃t,u=Uu b t from r);cases e;rfl
 | ref a=>cases(show u=BB a from r);rfl
 | ty n=>cases(show u=EZ n from r);rfl
section
variable{P:Al}{w:BE}{H H':Hp}{h h':B7}{a C dx:AK}{fs fs':List (Str×V)}
def SY(hok:HOk P w H h)(e:H a=some (.ins C dx fs)):∃mA,Yf h a dx C mA/\(∀f,Nq (fs.lookup f) (mA f))/\TM mA (fs.map (·.1))/\fs.length<=1000/\H dx=some (.own a):=by
 obtain⟨d,z,ne,ob,mA,n,r,q⟩:=(show CU P w H h a (.ins C dx fs)from hok a _ e);exact⟨mA,⟨ob,n,ne⟩,r,q,z,d⟩
end
structure Cls(K:AA)(C:AK):Prop where
 pg:NM K C Str.empty=true
 hd:MP K C=true
 po:V9 K C=true
 sa:EA K (.ref C) "__setattr__" = some (some (.builtin "object.__setattr__"))
def Cls.get{K:AA}{C:AK}(c:Cls K C)(f:Str):NM K C f=true:=c.pg
def Ii(K:AA)(C:AK)(f:Str):Prop:=EA K (.ref C) f=some none
def Ii.taker{K:AA}{C:AK}{f:Str}(n:Ii K C f):OF K C f=some none:=by
 unfold OF;rw[show EA K (.ref C) f=some none from n];rfl
section
variable{X:Cx}{ζ:List (AK×Obj)}{σ:St}{H:Hp}{s:AG}{a C dx:AK}{fs:List (Str×V)}{f:Str}{v:V}{A:BC}{E:AE->AG->Prop}
def Vm{b:Bool}{Q:AE->AG->Prop}(I:Inv X ζ σ H s)(e:H a=some (.ins C dx fs))(c:Cls X.K C)(n:Ii X.K C f)(l:fs.lookup f=some v)
  (h:∀u s',Inv X ζ σ H s'->RelV v u->Q u s'):Av (Af X.prog X.w) A (getAttr (.ref a) f b) Q E s:=by
 obtain⟨mA,O,r,_,_,_⟩:=SY I.hok e;obtain⟨u,hu,ru⟩:=Nq.some_of (v:=v) (o:=mA f) (by rw[<-l];exact r f);exact eu I.kIn O (c.get f) c.hd n hu (YE ru) (h u _ (I.tok _) ru)
def VN{y:V}{u:AE}{Q:Unit->AG->Prop}(I:Inv X ζ σ H s)(e:H a=some (.ins C dx fs))(c:Cls X.K C)(n:Ii X.K C f)(hl:fs.length < 1000)(ry:RelV y u)
  (h:∀s',Inv X ζ σ (upd H a (.ins C dx (putF f y fs))) s'->Q () s'):Av (Af X.prog X.w) A (setAttr (.ref a) f u) Q E s:=by
 obtain⟨mA,O,r,wi,_,ho⟩:=SY I.hok e
 have hz:(fs.map (·.1)).length<=sizeLine:=by rw[AC,TB];lia
 refine dJ I.kIn O c.sa c.po n.taker c.hd wi hz λh' O' sb=>h _ ?_
 have hd:∃o,h'.get? dx=some o:=let ⟨o,_,_,e',_⟩:=O'.ns;⟨o,e'⟩
 refine I.write (x:=a) (e:=dx) (by rw[e];exact Cy) (.inr ho) (λb q hb z=>(sb.2 b hb).trans z) hd ?_;refine⟨by rw[Bc O.ne];exact ho,?_,O.ne,O'.obj,_,O'.ns,λg=>?_,λg hg=>?_⟩
 ·have:=N6 f y fs;lia
 ·show Nq ((putF f y fs).lookup g) (if g=f then some u else mA g)
  rw[N5]
  by_cases q:g=f
  ·rw[qX q,qX q];exact ry
  ·rw[qY q,qY q];exact r g
 ·by_cases q:g=f
  ·rw[q];exact(Ni f y fs).1
  ·refine(Ni f y fs).2 g (wi g λz=>hg ?_)
   show(if g=f then some u else mA g)=none;rw[qY q];exact z
def Inv.made(I:Inv X ζ σ H s):Inv X ζ σ (upd (upd H s.heap.objs.size (.own (s.heap.objs.size+1))) (s.heap.objs.size+1) (.ins C s.heap.objs.size []))
  { s with heap:=(s.heap.push Cf).push (Do C s.heap.objs.size) }:=by
 have e1:(s.heap.push Cf).get? s.heap.objs.size=some Cf:=Ak s.heap rfl
 have e2:((s.heap.push Cf).push (Do C s.heap.objs.size)).get? (s.heap.objs.size+1)=some (Do C s.heap.objs.size):=by
  have:=Ak (s.heap.push Cf) (o:=Do C s.heap.objs.size) rfl;rwa [C5]at this
 have e3:(s.heap.push Cf).Ns s.heap.objs.size (λ_=>none):=⟨Cf,#[],_,e1,rfl,(λe he=>zX he (by simp)),λ_=>rfl⟩;have I1:=I.laid (a:=s.heap.objs.size) (o:=.own (s.heap.objs.size+1)) (h':=s.heap.push Cf) (t':=s.toks) (λb u q=>AJ _ q) (AQ _) ⟨_,e1⟩;refine I1.laid (a:=s.heap.objs.size+1) (o:=.ins C s.heap.objs.size []) (t':=s.toks) (λb u q=>AJ _ q) (lB (C5 _ _)) ?_;have ne:s.heap.objs.size≠s.heap.objs.size+1:=Aq (Df _);refine⟨by rw[Bc ne,Bm],Cr _,ne,e2,λ_=>none,(B7.Ns1.of_empty e3).at λo q=>AJ _ q,λ_=>Cy,λy hy=>zX rfl hy⟩
def ff{prog:Al}{w:BE}{env:Env}{e:Expr}{f:Str}{pos:Pos}{s:AG}{Q:AE->AG->Prop}(hb:Cb e f env (Bw e env)=Bw e env)
  (h:Av (Af prog w) A (Bw e env) (λo s₁=>Av (Af prog w) A (getAttr o f true) Q E s₁) E s):Av (Af prog w) A (Bw (.Attribute e f pos) env) Q E s:=
 Attribute_any_ h (by rw[arm_eval_Attribute,hb])
end
def tFld(K:AA)(ta:TE)(f:Str):TE:=λσ H Q=>ta σ H λx H1=>∃a C dx fs v,x=.ref a/\H1 a=some (.ins C dx fs)/\Cls K C/\Ii K C f/\fs.lookup f=some v/\Q v H1
def sFld(K:AA)(ta tv:TE)(f:Str):TS:=λD σ H=>tv σ H λy H1=>ta σ H1 λx H2=>∃a C dx fs,x=.ref a/\H2 a=some (.ins C dx fs)/\Cls K C/\Ii K C f/\fs.length < 1000 /\
 D.nx σ (upd H2 a (.ins C dx (putF f y fs)))
section
variable{X:Cx}{o e value:Expr}{f:Str}{pos pos' tpos:Pos}{ta tv:TE}
def jK(he:PE X e ta)(hb:Cb e f X.env (Bw e X.env)=Bw e X.env):PE X (.Attribute e f pos) (tFld X.K ta f):=by
 intro ζ s σ H Q I h;refine ff hb (thn (he ζ s σ H _ I h) λu s1 ⟨x,H1,I1,rx,a,C,dx,fs,v,ex,ea,c,n,l,q⟩=>?_);subst ex;obtain rfl:u=BB a:=rx
 exact Vm I1 ea c n l λu' s2 I2 ru=>⟨v,H1,I2,ru,q⟩
def i8(ha:PE X o ta)(hv:PE X value tv)(hs:Gb value (some (.Attribute o f pos')) pos.line X.env=pure false):PS X (.Assign [.Attribute o f pos'] value pos) (sFld X.K ta tv f):=by
 intro ζ s σ H D I h;refine plainObj_wpAny_Assign_Attribute (thn (hv ζ s σ H _ I h) λu s1 ⟨y,H1,I1,ry,q⟩=>thn (ha ζ s1 σ H1 _ I1 q) λov s2 ⟨x,H2,I2,rx,a,C,dx,fs,ex,ea,c,n,l,q2⟩=>?_) hs;subst ex;obtain rfl:ov=BB a:=rx
 exact VN I2 ea c n l ry λs3 I3=>⟨σ,_,I3,q2⟩
end
section
variable{X:Cx}{ζ:List (AK×Obj)}{σ:St}{H:Hp}{s:AG}{A:BC}{E:AE->AG->Prop}{Q:AE->AG->Prop}{c:AE}{b:Bool}
inductive NA(K:AA)(H:Hp):V->AE->Prop where
 | non:NA K H .non (.type "NoneType")
 | bl (x:Bool):NA K H (.bl x) (.type "bool")
 | int (i:Int):NA K H (.int i) (.type "int")
 | str (x:Str):NA K H (.str x) (.type "str")
 | flt (x:UInt64):NA K H (.flt x) (.type "float")
 | lst {a:AK} {xs:List V} (e:H a=some (.lst xs)):NA K H (.ref a) (.type "list")
 | frz {a:AK} {o:Obj} {xs:List V} (e:H a=some (.frz o (.lst xs))):NA K H (.ref a) (.type "list")
 | tup {a:AK} {xs:List V} (e:H a=some (.tup xs)):NA K H (.ref a) (.type "tuple")
 | dK {a:AK} {kvs:List (Key×V)} (e:H a=some (.dK kvs)):NA K H (.ref a) (.type "dict")
 | dT {a:AK} {kvs:List (List Key×V)} (e:H a=some (.dT kvs)):NA K H (.ref a) (.type "dict")
 | ins {a C dx:AK} {fs:List (Str×V)} (e:H a=some (.ins C dx fs)) (cl:Cls K C) (ha:EA K (.ref C) "__class__" = some (some (.builtin "object.__class__")))
   (hn:PySem.W.specialIn K (.builtin "object.__class__") "__get__" = some (some (.builtin "getset_descriptor.__get__"))) (htk:PySem.W.takesIn K (.builtin "object.__class__")=some true)
   (hm:PySem.W.mroIn K C (.type "object")=some true):NA K H (.ref a) (.ref C)
def X9{x:V}{u t:AE}(I:Inv X ζ σ H s)(rx:RelV x u)(ty:NA X.K H x t)(e:Db X.K t c=some b)(h:∀tk,Q (.bool b) { s with toks:=tk }) :
  Av (Af X.prog X.w) A (call (.builtin "isinstance") [u,c]) Q E s:=by
 cases ty with
 | non=>cases(show u=Ck from rx);exact CT PySem.W.kitx_none I.kIn Cy e (λz=>nomatch z) h
 | bl y=>cases(show u=MM y from rx);exact CT PySem.W.kitx_bool I.kIn Cy e (λz=>nomatch z) h
 | int i=>obtain⟨t,q⟩:=(show ∃t,u=OD i t from rx);cases q;exact CT PySem.W.kitx_int I.kIn Cy e (λz=>nomatch z) h
 | str y=>obtain⟨t,q⟩:=(show ∃t,u=OC y t from rx);cases q;exact CT PySem.W.kitx_str I.kIn Cy e (λz=>nomatch z) h
 | flt y=>obtain⟨t,q⟩:=(show ∃t,u=Uu y t from rx);cases q;exact CT PySem.W.kitx_float I.kIn Cy e (λz=>nomatch z) h
 | @lst a xs ea=>
  cases(show u=BB a from rx);obtain⟨_,_,n,_,h1⟩:=(show CU X.prog X.w H s.heap a (.lst xs)from I.hok a _ ea);exact CT WA I.kIn ⟨_,h1,rfl⟩ e (λz=>nomatch z) h
 | @frz a ob xs ea=>
  cases(show u=BB a from rx);obtain⟨_,_,_,n,_,h1⟩:=(show CU X.prog X.w H s.heap a (.frz ob (.lst xs))from I.hok a _ ea);exact CT WA I.kIn ⟨_,h1,rfl⟩ e (λz=>nomatch z) h
 | @tup a xs ea=>
  cases(show u=BB a from rx);obtain⟨_,_,_,p⟩:=(show CU X.prog X.w H s.heap a (.tup xs)from I.hok a _ ea);obtain⟨o,h1,h2,_⟩:=p;exact CT PySem.W.kitx_tuple I.kIn ⟨o,h1,h2⟩ e (λz=>nomatch z) h
 | @dK a kvs ea=>
  cases(show u=BB a from rx);obtain⟨_,_,vs,_,p⟩:=(show CU X.prog X.w H s.heap a (.dK kvs)from I.hok a _ ea);obtain⟨o,es,ep,h1,h2,_⟩:=p;exact CT WB I.kIn ⟨o,h1,h2.1⟩ e (λz=>nomatch z) h
 | @dT a kvs ea=>
  cases(show u=BB a from rx);obtain⟨_,_,xs,_,o,es,ep,h1,h2,_⟩:=(show CU X.prog X.w H s.heap a (.dT kvs)from I.hok a _ ea);exact CT WB I.kIn ⟨o,h1,h2.1⟩ e (λz=>nomatch z) h
 | @ins a C dx fs ea cl ha hn htk hm=>
  cases(show u=BB a from rx);obtain⟨mA,O,_⟩:=SY I.hok ea;obtain⟨od,J,_⟩:=O.look;exact CT (PySem.W.kitx_own (cl.get _) cl.hd ha hn htk hm) I.kIn J e (λz=>nomatch z) h
end
structure Hw(k:Nat)(A:BC):Prop where
 hd:A.handled=none
 dp:A.depth+3 * k+5 < recursionLimit
 un:A.units+16 * k+200 < Dm
def Hw.mono{j k:Nat}{A:BC}(r:Hw k A)(h:j<=k):Hw j A:=⟨r.hd,by have:=r.dp;lia,by have:=r.un;lia⟩
def Hw.deeper{k:Nat}{A:BC}(r:Hw (k+1) A)(env:Env):Hw k (A.deeper env):=
 ⟨r.hd,by have:=r.dp;show A.depth+1+3 * k+5 < _;lia,by have:=r.un;show A.units+3+16 * k+200 < _;lia⟩
def Vc{A:BC}{C:AK}{us:List AE}{kw:List (Str×AE)}:(A.under (.builtin "type.__call__" ⟨.ref C :: us,kw⟩)).depth=A.depth+1:=by
 first | rfl | simp[TJ,Code.weight,Code.isCreation,Code.isGuard,Code.isCaller,lD,Ul,guardIds]
def Vb{A:BC}{C:AK}{us:List AE}{kw:List (Str×AE)}:(A.under (.builtin "type.__call__" ⟨.ref C :: us,kw⟩)).units=A.units+1:=by
 first | rfl | simp[TJ,Code.cUnits,lD,Ul]
def Hw.make{k:Nat}{A:BC}(r:Hw (k+1) A)(C:AK)(us:List AE)(kw:List (Str×AE)):Hw k (A.under (.builtin "type.__call__" ⟨.ref C :: us,kw⟩)):=
 ⟨r.hd,by have:=r.dp;rw[Vc];lia,by have:=r.un;rw[Vb];lia⟩
def Hw.depth{k:Nat}{A:BC}(r:Hw k A):A.depth < recursionLimit:=by have:=r.dp;lia
def Hw.units{k:Nat}{A:BC}(r:Hw k A):A.units+64 < Dm:=by have:=r.un;lia
def tNil:TA:=λ_ H Q=>Q [] H
def lO(ta:TE)(tr:TA):TA:=λσ H Q=>ta σ H λx H1=>tr σ H1 λxs H2=>Q (x :: xs) H2
section
variable{X:Cx}{e:Expr}{es:List Expr}{te:TE}{t:TA}{pos:Pos}
def Hq:PA X [] tNil:=λ_ _ _ _ H Q I h=>G4 ⟨[],H,I,.nil,h⟩
def FS(ha:PE X e te)(hr:PA X es t)(hs:AS (e :: es) X.env=(false,Bw e X.env) :: AS es X.env:=by rfl):PA X (e :: es) (lO te t):=by
 intro pos ζ s σ H Q I h;rw[hs];show Av _ _ (Ud ((false,Bw e X.env) :: Da pos (AS es X.env))) _ _ s;refine Gc (thn (ha ζ s σ H _ I h) λu s1 ⟨x,H1,I1,r1,q1⟩=>?_)
 exact thn (hr pos ζ s1 σ H1 _ I1 q1) λus s2 ⟨xs,H2,I2,r2,q2⟩=>⟨x :: xs,H2,I2,.cons r1 r2,q2⟩
def tTup(t:TA):TE:=λσ H Q=>t σ H λxs H1=>xs.length<=sizeLine/\∀p,H1 p=none->Q (.ref p) (upd H1 p (.tup xs))
def tLst(t:TA):TE:=λσ H Q=>t σ H λxs H1=>xs.length<=sizeLine/\∀p,H1 p=none->Q (.ref p) (upd H1 p (.lst xs))
def jE{x1}(h:PA X es t):PE X (.Tuple es x1 pos) (tTup t):=by
 intro ζ s σ H Q I hq;refine wpAny_Tuple_spliced (thn (h pos ζ s σ H _ I hq) λus s1 ⟨xs,H1,I1,r,z,q⟩=>⟨by rw[<-r.length];exact z,?_⟩);have hf:H1 s1.heap.objs.size=none:=I1.hok.fresh (AQ _);refine⟨.ref s1.heap.objs.size,upd H1 s1.heap.objs.size (.tup xs),I1.laid (t':=s1.toks) (λb u e=>AJ _ e) (AQ _) ?_,rfl,q _ hf⟩;exact⟨⟨z,⟨_,Ak _ rfl,rfl⟩⟩,us,r,⟨_,Ak _ rfl,rfl,_,rfl⟩⟩
def jI(h:PA X es t):PE X (.List es pos) (tLst t):=by
 intro ζ s σ H Q I hq;refine wpAny_List_spliced (thn (h pos ζ s σ H _ I hq) λus s1 ⟨xs,H1,I1,r,z,q⟩=>⟨by rw[<-r.length];exact z,?_⟩);have hf:H1 s1.heap.objs.size=none:=I1.hok.fresh (AQ _);refine⟨.ref s1.heap.objs.size,upd H1 s1.heap.objs.size (.lst xs),I1.laid (t':=s1.toks) (λb u e=>AJ _ e) (AQ _) ?_,rfl,q _ hf⟩;exact⟨z,us,0,r,Ak _ rfl⟩
end
abbrev Sp:=List V->Hp->VK->XK->Prop
abbrev CXT:=List Env->Hp->AG->XK->AE->AG->Prop
structure V5(P:Al)(w:BE)(K:AA)(mg:Str->Option AE)(base:B7)(A:BC)(outer:List Env)(s:AG)(H:Hp):Prop where
 frames:A.frames=some outer
 mod:Mod K mg base
 bs:∀b o,base.get? b=some o->s.heap.get? b=some o/\H b=none
 bsz:base.objs.size<=s.heap.objs.size
 funs:s.heap.FunFrames base outer
 frf:∀b∈frs outer,H b=none
 hok:HOk P w H s.heap
 bare:Ja s.gens
def CE(outer:List Env)(P:Al)(w:BE)(H:Hp)(s:AG)(Q:VK)(u:AE)(s':AG):Prop:=
 ∃v H',s'.os=s.os/\Ja s'.gens/\Un (frs outer) [] H H' s.heap s'.heap/\HOk P w H' s'.heap/\RelV v u/\Q v H'
def CR(CX:CXT)(outer:List Env)(P:Al)(w:BE)(H:Hp)(s:AG)(Q:VK)(E:XK)(r:g8)(s':AG):Prop:=
 match r with
 | .ok (.ret u)=>CE outer P w H s Q u s'
 | .ok _=>False
 | .error e=>CX outer H s E e s'
structure Dh(P:Al)(w:BE)(K:AA)(mg:Str->Option AE)(base:B7)(CX:CXT)(k:Nat)(f:AK)(fd:Dg)(ps:List Str)(sp:Sp):Prop where
 len:∀vs H Q E,sp vs H Q E->vs.length=ps.length
 run:∀(A:BC) (outer:List Env) (s:AG) (H:Hp) (args:Args) (us:List AE) (vs:List V) (Q:VK) (E:XK),Hw k A->V5 P w K mg base A outer s H->Um s fd args (ps.zip us)->Bk vs us->sp vs H Q E ->
  Li (Af P w) A (.call (.ref f) args) (CR CX outer P w H s Q E) s
def Dh.imp{P:Al}{w:BE}{K:AA}{mg:Str->Option AE}{base:B7}{CX:CXT}{k:Nat}{f:AK}{fd:Dg}{ps:List Str}{sp sp':Sp}(F:Dh P w K mg base CX k f fd ps sp)
  (h:∀vs H Q E,sp' vs H Q E->sp vs H Q E):Dh P w K mg base CX k f fd ps sp':=
 ⟨λvs H Q E q=>F.len vs H Q E (h _ _ _ _ q),λA outer s H args us vs Q E hr he hb hv hs=>F.run A outer s H args us vs Q E hr he hb hv (h _ _ _ _ hs)⟩
def V5.make{P:Al}{w:BE}{K:AA}{mg:Str->Option AE}{base:B7}{A:BC}{outer:List Env}{s:AG}{H:Hp}(e:V5 P w K mg base A outer s H)(C:AK)(us:List AE)(kw:List (Str×AE)) :
  V5 P w K mg base (A.under (.builtin "type.__call__" ⟨.ref C :: us,kw⟩)) outer s H:=⟨by first | exact e.frames | (simpa[TJ,Code.envs,Ul,pushEnvs]using e.frames),e.mod,e.bs,e.bsz,e.funs,e.frf,e.hok,e.bare⟩
section
variable{X:Cx}{ζ:List (AK×Obj)}{σ:St}{H:Hp}{s s':AG}
def Inv.env0(I:Inv X ζ σ H s):V5 X.prog X.w X.K X.mg X.base X.A X.stack s H:=
 ⟨I.ok.frames,I.ok.mod,I.bs,At I.ok.bsz I.sz,I.stack,I.stkFree,I.hok,I.bare⟩
def Inv.after{Q:VK}{u:AE}(I:Inv X ζ σ H s)(h:CE X.stack X.prog X.w H s Q u s'):EP X ζ σ Q u s':=by
 obtain⟨v,H',os,bare,un,hok,r,q⟩:=h;obtain⟨hh,g,d,t,os'⟩:=s';obtain rfl:os'=s.os:=os;exact⟨v,H',I.call (h':=hh) (g':=g) (d':=d) (t':=t) (ch:=[]) un hok bare (λb z=>zX z (by simp)),r,q⟩
end
def lP(sp:Sp)(dvs:List V)(E:St->XK)(t:TA):TE:=λσ H Q=>t σ H λvs H1=>sp (vs++dvs) H1 Q (E σ)
def lI(C:AK)(sp:Sp)(dvs:List V)(E:St->XK)(t:TA):TE:=λσ H Q=>t σ H λvs H1=>∀x dx,H1 x=none->H1 dx=none->dx≠x ->
 sp (.ref x :: (vs++dvs)) (upd (upd H1 dx (.own x)) x (.ins C dx [])) (λv H2=>v=.non/\Q (.ref x) H2) (E σ)
def Binds(K:AA)(fd:Dg)(ps:List Str)(ds:List AE):Prop:=
 ∀(s:AG) (us:List AE),K.In s.heap->(us++ds).length=ps.length->Um s fd ⟨us,[]⟩ (ps.zip (us++ds))
def Binds.all{K:AA}{fd:Dg}{ps:List Str}(h:∀us:List AE,us.length=ps.length->bindArgs fd ⟨us,[]⟩=pure (ps.zip us)):Binds K fd ps []:=λs us _ hl=>by
 rw[BW]at hl ⊢;exact .of_eq (h us hl)
def L8(CX:CXT)(X:Cx)(E:St->XK):Prop:=∀(ζ:List (AK×Obj)) (σ:St) (H:Hp) (s:AG) (e:AE) (s':AG),Inv X ζ σ H s->CX X.stack H s (E σ) e s'->X.xe e s'
section
variable{X:Cx}{CX:CXT}{k:Nat}{f C:AK}{fd:Dg}{ps:List Str}{sp:Sp}{dvs:List V}{ds:List AE}{E:St->XK}{x m:Str}{p pos apos:Pos}{e o:Expr}{es:List Expr}{ta:TE}{t:TA}
def iu{ζ:List (AK×Obj)}{σ:St}{H:Hp}{s:AG}{Q:VK}{us:List AE}{vs:List V}(F:Dh X.prog X.w X.K X.mg X.base CX k f fd ps sp)(hr:Hw k X.A)(hb:Binds X.K fd ps ds)(hd:Bk dvs ds)(hx:L8 CX X E)
  (I:Inv X ζ σ H s) (r:Bk vs us) (h:sp (vs++dvs) H Q (E σ)):Av (Af X.prog X.w) X.A (call (.ref f) us) (EP X ζ σ Q) X.xe s:=by
 have r2:Bk (vs++dvs) (us++ds):=r.append hd
 have hl:(us++ds).length=ps.length:=by rw[<-r2.length];exact F.len _ _ _ _ h
 refine gs (JW (F.run X.A X.stack s H ⟨us,[]⟩ (us++ds) (vs++dvs) Q (E σ) hr I.env0 (hb s us I.kIn hl) r2 h) λr s' hq=>?_)
 cases r with
 | error e=>exact hx ζ σ H s e s' I hq
 | ok fl=>
  cases fl with
  | ret u=>exact I.after hq
  | next=>exact D5 hq
  | brk=>exact D5 hq
  | cont=>exact D5 hq
def dy(F:Dh X.prog X.w X.K X.mg X.base CX k f fd ps sp)(hr:Hw k X.A)(hg:Gl X x)(hm:X.mg x=some (.ref f))(hk:Gg X.K (.ref f)=true)(hb:Binds X.K fd ps ds)(hd:Bk dvs ds)(hx:L8 CX X E)
  (ha:PA X (e :: es) t) (hdb:(x==("__debug__" : Str))=false:=by decide) (he:AS (e :: es) X.env=(false,Bw e X.env) :: AS es X.env:=by rfl) (hpl:(Da pos (AS es X.env)).any (·.1)=false:=by rfl) :
  PE X (.Call (.Name x p) (e :: es) [] pos) (lP sp dvs E t):=by
 intro ζ s σ H Q I h;refine DC (SV I hg hm ?_ hdb);refine Uv (h₀:=X.base) I.ok.mod.kin hk (thn (ha pos ζ s σ H _ I h) λus s1 ⟨vs,H1,I1,r,q⟩=>⟨I1.kIn,?_⟩) he hpl;exact iu F hr hb hd hx I1 r q
structure Mk(K:AA)(C f:AK):Prop where
 makes:Ym K C=true
 init:EA K (.ref C) "__init__" = some (some (.ref f))
 fn:PySem.W.isFn K (.ref f)=true
 kp:Gg K (.ref C)=true
def Zd{ζ:List (AK×Obj)}{σ:St}{H:Hp}{s:AG}{Q:VK}{us:List AE}{vs:List V}(M:Mk X.K C f)(F:Dh X.prog X.w X.K X.mg X.base CX k f fd ps sp)(hr:Hw (k+1) X.A)(hb:Binds X.K fd ps ds)(hd:Bk dvs ds)
  (hx:L8 CX X E) (I:Inv X ζ σ H s) (r:Bk vs us)
  (h:∀x dx,H x=none->H dx=none->dx≠x->sp (.ref x :: (vs++dvs)) (upd (upd H dx (.own x)) x (.ins C dx [])) (λv H2=>v=.non/\Q (.ref x) H2) (E σ)) :
  Av (Af X.prog X.w) X.A (call (.ref C) us) (EP X ζ σ Q) X.xe s:=by
 have hq:=h (s.heap.objs.size+1) s.heap.objs.size (I.hok.fresh (G2 _)) (I.hok.fresh (AQ _)) (Aq (Df _));have I2:=Inv.made (C:=C) I;have r2:Bk (V.ref (s.heap.objs.size+1) :: (vs++dvs)) (BB (s.heap.objs.size+1) :: (us++ds)):=.cons rfl (r.append hd)
 have hl:(BB (s.heap.objs.size+1) :: us++ds).length=ps.length:=by
  have e:=r2.length;rw[F.len _ _ _ _ hq]at e;exact e.symm
 refine gs (aE (f:=f) I.kIn M.makes M.init (beq_iff_eq.mp M.fn) (JW (F.run _ X.stack _ _ ⟨BB (s.heap.objs.size+1) :: us,[]⟩ (BB (s.heap.objs.size+1) :: (us++ds)) _ _ (E σ) (hr.make C us [])
  (I2.env0.make C us []) (hb _ (BB (s.heap.objs.size+1) :: us) I2.kIn hl) r2 hq) λr s' hq'=>?_))
 cases r with
 | error e=>exact hx ζ σ _ _ e s' I2 hq'
 | ok fl=>
  cases fl with
  | ret u=>
   obtain⟨v,H',I3,rv,ev,q3⟩:=I2.after hq';subst ev;exact⟨rv,⟨V.ref (s.heap.objs.size+1),H',I3,rfl,q3⟩⟩
  | next=>exact D5 hq'
  | brk=>exact D5 hq'
  | cont=>exact D5 hq'
def dm(M:Mk X.K C f)(F:Dh X.prog X.w X.K X.mg X.base CX k f fd ps sp)(hr:Hw (k+1) X.A)(hg:Gl X x)(hm:X.mg x=some (.ref C))(hb:Binds X.K fd ps ds)(hd:Bk dvs ds)(hx:L8 CX X E)
  (ha:PA X (e :: es) t) (hdb:(x==("__debug__" : Str))=false:=by decide) (he:AS (e :: es) X.env=(false,Bw e X.env) :: AS es X.env:=by rfl) (hpl:(Da pos (AS es X.env)).any (·.1)=false:=by rfl) :
  PE X (.Call (.Name x p) (e :: es) [] pos) (lI C sp dvs E t):=by
 intro ζ s σ H Q I h;refine DC (SV I hg hm ?_ hdb);refine Uv (h₀:=X.base) I.ok.mod.kin M.kp (thn (ha pos ζ s σ H _ I h) λus s1 ⟨vs,H1,I1,r,q⟩=>⟨I1.kIn,?_⟩) he hpl;exact Zd M F hr hb hd hx I1 r q
end
section
variable{X:Cx}{CX:CXT}{k:Nat}{f C:AK}{fd:Dg}{ps ks:List Str}{sp:Sp}{E:St->XK}{x m:Str}{p pos apos kpos:Pos}{e o:Expr}{es:List Expr}{kws:List JZ}{te ta:TE}{t tk:TA}{nm:Option Str}
variable{g:List AE->List AE->List AE}{gV:List V->List V->List V}
end
structure Bz(N P:List Str)(sc:Im):Prop where
 kind:sc.kind=.function
 co:sc.isCoroutine=false
 gen:sc.isGenerator=false
 nd:N.Nodup
 pre:N.take P.length=P
 par:∀x∈P,sc.names.lookup x=some .local∨sc.names.lookup x=some .cell
 nofree:∀y∈sc.names,y.2≠.free
def RY{kindOf:Str->Option QX}{x:Str}:∀{binds:List (Str×AE)} {m:Str->Option AE},(∀v,(x,v)∉binds)->Yj kindOf binds m x=m x
 | [],_,_=>rfl
 | (n,v) :: r,m,h=>by
  unfold Yj;rw[RY λw hw=>h w (Aj _ hw)];split
  ·have:x≠n:=by rintro rfl;exact h v A1
   simp[this]
  ·rfl
def Ra{kindOf:Str->Option QX}{x:Str}:∀{binds:List (Str×AE)} {m:Str->Option AE},(∀v,(x,v)∉binds)->Yk kindOf binds m x=m x
 | [],_,_=>rfl
 | (n,v) :: r,m,h=>by
  unfold Yk;rw[Ra λw hw=>h w (Aj _ hw)];split
  ·rfl
  ·have:x≠n:=by rintro rfl;exact h v A1
   simp[this]
def RZ{kindOf:Str->Option QX}{x:Str}{v:AE}:∀{P:List Str} {vs:List AE} {i:Nat} {m:Str->Option AE},P.Nodup->P[i]?=some x->vs[i]?=some v->kindOf x=some .local ->
  Yj kindOf (P.zip vs) m x=some v
 | [],_,_,_,_,h,_,_=>by simp at h
 | _ :: _,[],_,_,_,_,h,_=>by simp at h
 | p :: P,w :: vs,0,m,nd,h1,h2,hk=>by
  simp at h1 h2;subst h1;subst h2;show Yj kindOf ((p,w) :: P.zip vs) m p=_;unfold Yj;rw[RY λv hv=>(CW.mp nd).1 (QN hv).1,qX hk];simp
 | p :: P,w :: vs,i+1,m,nd,h1,h2,hk=>by
  show Yj kindOf ((p,w) :: P.zip vs) m x=_;unfold Yj;exact RZ (i:=i) (CW.mp nd).2 (by simpa using h1) (by simpa using h2) hk
def Rb{kindOf:Str->Option QX}{x:Str}{v:AE}:∀{P:List Str} {vs:List AE} {i:Nat} {m:Str->Option AE},P.Nodup->P[i]?=some x->vs[i]?=some v->kindOf x≠some .local ->
  Yk kindOf (P.zip vs) m x=some v
 | [],_,_,_,_,h,_,_=>by simp at h
 | _ :: _,[],_,_,_,_,h,_=>by simp at h
 | p :: P,w :: vs,0,m,nd,h1,h2,hk=>by
  simp at h1 h2;subst h1;subst h2;show Yk kindOf ((p,w) :: P.zip vs) m p=_;unfold Yk;rw[Ra λv hv=>(CW.mp nd).1 (QN hv).1,qY hk];simp
 | p :: P,w :: vs,i+1,m,nd,h1,h2,hk=>by
  show Yk kindOf ((p,w) :: P.zip vs) m x=_;unfold Yk;exact Rb (i:=i) (CW.mp nd).2 (by simpa using h1) (by simpa using h2) hk
def start(N:List Str)(vs:List V):St:=vs.map some++Be (N.length - vs.length) none
def Vv(CX:CXT)(P:Al)(w:BE)(K:AA)(mg:Str->Option AE)(base:B7)(N:List Str)(qual:Str)(scope:Im)(f:AK)(cd:AE)(A:BC)(outer:List Env)(s:AG)(H:Hp)(E:XK):Cx where
 prog:=P
 w:=w
 K:=K
 mg:=mg
 base:=base
 A:=A.deeper (Lh qual scope s.heap.objs.size f cd)
 N:=N
 s₀:=s
 H₀:=H
 env:=Lh qual scope s.heap.objs.size f cd
 outer:=outer
 stack:=Lh qual scope s.heap.objs.size f cd :: outer
 ex:=[]
 calm:=true
 fn:=λ_=>true
 pn:=[]
 xe:=λe s'=>Av (Af P w) (A.deeper (Lh qual scope s.heap.objs.size f cd)) (leaving (Lh qual scope s.heap.objs.size f cd) e) (λ_ s''=>CX outer H s E e s'') (λe' s''=>CX outer H s E e' s'') s'
def UX{sc:Im}{n:Nat}{x:Str}(h:sc.names.lookup x=some .cell):∃c,(ku n sc.names []).lookup x=some c:=by
 have q:=Ro sc.names n [] (.inl h);exact JT.mp q
def YB{CX:CXT}{P:Al}{w:BE}{K:AA}{mg:Str->Option AE}{base:B7}{N ps:List Str}{qual:Str}{scope:Im}{f:AK}{cd:AE}{A:BC}{outer:List Env}{s s1:AG}{H:Hp}{E:XK}{us:List AE}{vs:List V}
  (S:Bz N ps scope) (hd:A.handled=none) (e0:V5 P w K mg base A outer s H) (hl:vs.length=ps.length) (r:Bk vs us)
  (x:InCallC s s.heap.objs.size (Yj (Lh qual scope s.heap.objs.size f cd).kindOf (ps.zip us) λ_=>none) (ku (s.heap.objs.size+1) scope.names []) (Yk (Lh qual scope s.heap.objs.size f cd).kindOf (ps.zip us) λ_=>none) s1) :
  Inv (Vv CX P w K mg base N qual scope f cd A outer s H E) [] (start N vs) H s1:=by
 have hpl:ps.length<=N.length:=by have:=congrArg Gh S.pre;rw[Cz]at this;lia
 obtain⟨h1,tk,rfl,hk⟩:=x.done
 have noA:∀b:AK,b∉(Vv CX P w K mg base N qual scope f cd A outer s H E).ex:=λb z=>zX (show b∈([]:List AK)from z) (by simp)
 refine⟨⟨e0.mod,S.kind,rfl,rfl,AQ _,λy z c h1 h2=>?_,λy hy=>?_,λy c _ h=>?_,λ_=>hd,BC.frames_deeper e0.frames,.inr ⟨rfl,rfl⟩,λb z=>zX z (noA b),e0.bs,e0.bsz,λb _ _=>noA b,λb z=>zX z (noA b),e0.funs,e0.frf⟩,
  rfl,e0.bare,Un.kept hk,⟨_,x.toInCall.ns,λi y v h1 h2 h3=>?_⟩,λy c h=>⟨_,x.cell y c h⟩,e0.hok.fresh (AQ _),λy c h=>?_,λp hp=>zX (show p∈([]:List (AK×Obj))from hp) (by simp),e0.hok.kept hk,?_⟩
 ·exact name_of_addr x.apart (EL h1) (EL h2)
 ·have hy:scope.names.lookup y=some .cell∨scope.names.lookup y=some .free:=hy
  rcases hy with hy | hy
  ·exact UX hy
  ·exact zX rfl (S.nofree _ (EL hy))
 ·exact OH (x.above y c (EL h))
 ·have hi:i < vs.length:=by
   unfold start at h2
   by_cases hi:i < vs.length
   ·exact hi
   ·rw[BK (by simpa using hi)]at h2
    rw[DM]at h2
    split at h2 <;> cases h2
  have ha:vs[i]?=some v:=by
   unfold start at h2;rw[Aa (by simpa using hi),AN]at h2
   cases e:vs[i]? with
   | none=>rw[e]at h2;cases h2
   | some a=>rw[e]at h2;cases h2;rfl
  obtain⟨u,hu,rv⟩:=r.get ha
  have hp:ps[i]?=some y:=by
   rw[<-S.pre,TF (by lia)];exact h1
  have ndP:ps.Nodup:=by rw[<-S.pre];exact S.nd.sublist (Yw _ _)
  refine⟨u,rv,?_⟩
  rcases S.par y (BD hp)with k | k
  ·exact .inl ⟨k,RZ ndP hp hu k⟩
  ·obtain⟨c,e⟩:=UX (n:=s.heap.objs.size+1) k
   refine .inr ⟨.inl k,c,e,?_⟩;have q:=x.cell y c e;rw[Rb ndP hp hu (by show scope.names.lookup y≠_;rw[k];decide)]at q;exact q
 ·exact e0.hok.fresh (OH (x.above y c (EL h)))
 ·unfold start
  show _=N.length;rw[Ad,AC,LB]
  lia
def mY{CX:CXT}{P:Al}{w:BE}{K:AA}{mg:Str->Option AE}{base:B7}{k:Nat}{f:AK}{name qual:Str}{params:Arguments}{body:List Ce}{scope:Im}{dV kV doc pm cdv ct oc:AE}{an od:Option AK}
  {osl:Array (Option AE)} {N ps:List Str} {sp:Sp} (lk:K.lookup f=some ⟨oc,od,.func (IB name qual params body scope dV kV doc pm an cdv ct),osl⟩) (hcd:Ov K cdv qual=true) (S:Bz N ps scope)
  (len:∀vs H Q E,sp vs H Q E->vs.length=ps.length)
  (hbody:∀(A:BC) (outer:List Env) (s:AG) (H:Hp) (vs:List V) (Q:VK) (E:XK),Hw k (A.deeper (Lh qual scope s.heap.objs.size f cdv))->sp vs H Q E ->
   ∃t,PSs (Vv CX P w K mg base N qual scope f cdv A outer s H E) body t/\t { nx:=λ_ H'=>Q .non H',rt:=Q } (start N vs) H) :
  Dh P w K mg base CX (k+1) f (IB name qual params body scope dV kV doc pm an cdv ct) ps sp:=by
 refine⟨len,λA outer s H args us vs Q E hr e0 hb r hsp=>?_⟩;have hl:=len _ _ _ _ hsp
 have KX:K.In s.heap:=e0.mod.kin.keeps λb o e=>(e0.bs b o e).1
 have lim:s.heap.NoLimit:=e0.mod.nolimit.keeps λb o e=>(e0.bs b o e).1
 have hkind:∀y∈ps.zip us,scope.names.lookup y.1=some .local∨(scope.names.lookup y.1=some .cell/\((ku (s.heap.objs.size+1) scope.names []).lookup y.1).isSome=true):=λ⟨n,v⟩ hy=>by
  rcases S.par n (QN hy).1 with q | q
  ·exact .inl q
  ·exact .inr ⟨q,Ro _ _ _ (.inl q)⟩
 refine codeAny_call_function hr.depth (KX _ _ lk) rfl S.co S.gen rfl (PySem.W.codeRec_of KX hcd) (hb _ _ _ _ ?_)
 refine wpAny_newFunctionEnv_cells S.kind hkind λenv he s1 x=>?_
 subst he;refine⟨lim.keeps x.toInCall.keep,codeAny_func ?_⟩;obtain⟨t,ht,hq⟩:=hbody A outer s H vs Q E (hr.deeper _) hsp;have I:Inv (Vv CX P w K mg base N qual scope f cdv A outer s H E) [] (start N vs) H s1:=YB S hr.hd e0 hl r x
 refine HA (ht [] s1 (start N vs) H _ I hq) (λfl s' hs=>?_) λe s' hs=>hs
 have fin:∀{σ':St} {H':Hp} {v:V} {u:AE},Inv (Vv CX P w K mg base N qual scope f cdv A outer s H E) [] σ' H' s'->RelV v u->Q v H'->CE outer P w H s Q u s':=
  λ{σ' H' v u} J rv q=>⟨v,H',J.os,J.bare,J.base,J.hok,rv,q⟩
 cases fl with
 | ret u=>
  obtain⟨v,σ',H',J,rv,q⟩:=hs;exact fin J rv q
 | next=>
  obtain⟨σ',H',J,q⟩:=hs;exact fin (v:=V.non) (u:=Ck) J rfl q
 | brk=>
  obtain⟨_,_,_,q⟩:=hs;exact D5 q
 | cont=>
  obtain⟨_,_,_,q⟩:=hs;exact D5 q
section
variable{X:Cx}{x:Str}{p pos:Pos}{e:Expr}{es:List Expr}{t:TA}{id T:String}{r:List V->Hp->VK->Prop}
def tCB(r:List V->Hp->VK->Prop)(t:TA):TE:=λσ H Q=>t σ H λvs H1=>r vs H1 Q
def Kf(hc:Ij X (.builtin id) r)(hg:Gl X x)(hm:X.mg x=none)(hv:E9 x=some (.builtin id))(ha:PA X (e :: es) t)(hn:x≠"__name__":=by decide) (hdb:(x==("__debug__" : Str))=false:=by decide)
  (he:AS (e :: es) X.env=(false,Bw e X.env) :: AS es X.env:=by rfl) (hpl:(Da pos (AS es X.env)).any (·.1)=false:=by rfl):PE X (.Call (.Name x p) (e :: es) [] pos) (tCB r t):=by
 intro ζ s σ H Q I h;refine DC (IV I hg hm hv ?_ hn hdb);exact LW (thn (ha pos ζ s σ H _ I h) λus s1 ⟨vs,H1,I1,r1,q1⟩=>hc ζ s1 σ H1 vs us Q I1 r1 q1) he hpl
def RJ(hc:Ij X (.type T) r)(hg:Gl X x)(hm:X.mg x=none)(hv:E9 x=some (.type T))(ha:PA X (e :: es) t)(hn:x≠"__name__":=by decide) (hdb:(x==("__debug__" : Str))=false:=by decide)
  (he:AS (e :: es) X.env=(false,Bw e X.env) :: AS es X.env:=by rfl) (hpl:(Da pos (AS es X.env)).any (·.1)=false:=by rfl):PE X (.Call (.Name x p) (e :: es) [] pos) (tCB r t):=by
 intro ζ s σ H Q I h;refine DC (IV I hg hm hv ?_ hn hdb);exact Br (thn (ha pos ζ s σ H _ I h) λus s1 ⟨vs,H1,I1,r1,q1⟩=>hc ζ s1 σ H1 vs us Q I1 r1 q1) he hpl
end
end L2
namespace HT
open PySem PyProof.Rows
section
open PySem.SeqAt
open PySem.AutoSeq1 (wpAny_loadPart')
open PySem.MeetsSeq PySem.MeetsSeq2 PySem.MeetsSeq3
end
section
variable{prog:Al}{w:BE}{A:BC}{E:AE->AG->Prop}{s:AG}
def fb{t b:AK}{vs ws:List AE}{Q:AE->AG->Prop}(ht:IsTup s.heap t vs.toArray)(hb:IsTup s.heap b ws.toArray)(hv:vs≠[])
  (h1:ws=[]->Q (.ref t) s) (h2:ws≠[]->Q (.ref s.heap.objs.size) { s with heap:=s.heap.push { cls:=.type "tuple",data:=.seq (vs++ws).toArray } })
  (hsz:vs.length+ws.length<=sizeLine):Av (Af prog w) A (Cj .Add (.ref t) (.ref b)) Q E s:=by
 obtain⟨⟨cls,dd,data,sl⟩,ho,hc,n,hd⟩:=id ht;obtain⟨⟨cls2,dd2,data2,sl2⟩,ho2,hc2,n2,hd2⟩:=id hb;simp only at hc hd hc2 hd2;subst hc hd hc2 hd2
 have e:vs.toArray++ws.toArray=(vs++ws).toArray:=by simp
 by_cases hw:ws=[]
 ·exact Yv ⟨_,ho,rfl⟩ ⟨_,ho2,rfl⟩ Rj XC Jr JX (JH _ _)
   (tuple_addW1 t b vs.toArray ws.toArray n n2 dd dd2 sl sl2 (by simpa using hv) (by simp[hw])) ⟨ho,ho2,h1 hw⟩
 ·refine Yv ⟨_,ho,rfl⟩ ⟨_,ho2,rfl⟩ Rj XC Jr JX (JH _ _)
   (tuple_addW2 t b vs.toArray ws.toArray n n2 dd dd2 sl sl2 (by simpa using hv) (by simpa using hw) (by rw[AU,AU];exact hsz)) ⟨ho,ho2,?_⟩
  rw[e];exact h2 hw
end
end HT
namespace L2
open PySem PySem.Spec PyProof.Rows
abbrev TO:=St->Hp->(Option Int->Hp->Prop)->Prop
def PO(X:Cx)(e:Option Expr)(t:TO):Prop:=
 ∀(ζ:List (AK×Obj)) (s:AG) (σ:St) (H:Hp) (Q:Option Int->Hp->Prop),Inv X ζ σ H s->t σ H Q ->
  Av (Af X.prog X.w) X.A (evalPart e X.env) (λu s'=>∃o H',Inv X ζ σ H' s'/\IsPart u o/\Q o H') X.xe s
def cr:TO:=λ_ H Q=>Q none H
def lF(t:TE):TO:=λσ H Q=>t σ H λx H1=>∃i,x=.int i/\Q (some i) H1
def intsAre_of{ns:List Int}:∀{us:List AE},Bk (ns.map V.int) us->IntsAre us ns:=by
 induction ns with
 | nil=>intro us r;rw[KW]at r;cases r;exact .nil
 | cons n ns ih=>
  intro us r;rw[A5]at r
  cases r with
  | cons r1 r2=>
   obtain⟨t,e⟩:=r1;subst e;exact .cons n t (ih r2)
section
variable{κ:Type}[DecidableEq κ]
def Jw(kvs:List (κ×V))(k:κ):Option V:=(kvs.find? λkv=>decide (kv.1=k)).map (·.2)
def Ho(kvs:List (κ×V))(k:κ)(v:V):List (κ×V):=
 if (kvs.any λkv=>decide (kv.1=k))=true then kvs.map (λkv=>if kv.1=k then(kv.1,v)else kv)else kvs++[(k,v)]
def PK{p:κ×V}{r:List (κ×V)}{k:κ}(e:p.1=k):Jw (p :: r) k=some p.2:=by simp[Jw,BV,e]
def PL{p:κ×V}{r:List (κ×V)}{k:κ}(e:¬p.1=k):Jw (p :: r) k=Jw r k:=by simp[Jw,BV,e]
def Ta(k:κ):∀kvs:List (κ×V),(kvs.any λkv=>decide (kv.1=k))=(Jw kvs k).isSome
 | []=>rfl
 | p :: r=>by
  rw[Hn]
  by_cases e:p.1=k
  ·simp only[PK e,wX e,Bool.true_or,Option.isSome_some]
  ·rw[PL e,wY e,iC];exact Ta k r
def Kn(kvs:List (κ×V))(k:κ)(v:V):(Ho kvs k v).length<=kvs.length+1:=by
 unfold Ho;split
 ·rw[AC];lia
 ·rw[Ad,A8,IH];lia
def Nq.isSome_eq{o:Option V}{u:Option AE}(r:Nq o u):o.isSome=u.isSome:=by
 cases o with
 | none=>cases u with
  | none=>rfl
  | some _=>exact(show False from r).elim
 | some _=>cases u with
  | none=>exact(show False from r).elim
  | some _=>rfl
def KV.val{kvs:List (κ×V)}{vs:List (κ×AE)}(r:KV kvs vs)(k:κ):Nq (Jw kvs k) (QR vs k):=by
 unfold KV at r
 induction r with
 | nil=>exact Cy
 | @cons p q ps qs h t ih=>
  obtain⟨h1,h2⟩:=h
  by_cases e:p.1=k
  ·have e':q.1=k:=h1.symm.trans e
   have b:QR (q :: qs) k=some q.2:=by simp[QR,BV,e']
   rw[PK e,b];exact h2
  ·have e':¬q.1=k:=λz=>e (h1.trans z)
   have b:QR (q :: qs) k=QR qs k:=by simp[QR,BV,e']
   rw[PL e,b];exact ih
def KV.any{kvs:List (κ×V)}{vs:List (κ×AE)}(r:KV kvs vs)(k:κ):(kvs.any λkv=>decide (kv.1=k))=vs.any λkv=>decide (kv.1=k):=by
 unfold KV at r
 induction r with
 | nil=>rfl
 | cons h t ih=>rw[Hn,Hn,ih,h.1]
def KV.repl{kvs:List (κ×V)}{vs:List (κ×AE)}(r:KV kvs vs)(k:κ){y:V}{u:AE}(ry:RelV y u) :
  KV (kvs.map λkv=>if kv.1=k then(kv.1,y)else kv) (vs.map λkv=>if kv.1=k then(kv.1,u)else kv):=by
 unfold KV at r ⊢
 induction r with
 | nil=>exact .nil
 | @cons p q ps qs h t ih=>
  rw[A5,A5];refine .cons ?_ ih;obtain⟨h1,h2⟩:=h
  by_cases e:p.1=k
  ·rw[qX e,qX (h1.symm.trans e)];exact⟨h1,ry⟩
  ·rw[qY e,qY (λz=>e (h1.trans z))];exact⟨h1,h2⟩
def KV.put{kvs:List (κ×V)}{vs:List (κ×AE)}(r:KV kvs vs)(k:κ){y:V}{u:AE}(ry:RelV y u):KV (Ho kvs k y) (stored vs k u):=by
 unfold Ho stored;rw[r.any k]
 by_cases e:(vs.any λkv=>decide (kv.1=k))=true
 ·rw[qX e,qX e];exact r.repl k ry
 ·rw[qY e,qY e];exact Ug r ⟨rfl,ry⟩
def KV.length{kvs:List (κ×V)}{vs:List (κ×AE)}(r:KV kvs vs):kvs.length=vs.length:=Dz r
end
def RP{P:Al}{w:BE}{k:Key}{u:AE}(r:RelV (kV k) u):(Cv P w).is k u=true:=by
 cases k with
 | inl i=>obtain⟨t,e⟩:=(show ∃t,u=OD i t from r);subst e;exact UD P w i t
 | inr x=>obtain⟨t,e⟩:=(show ∃t,u=OC x t from r);subst e;exact UC P w x t
def RQ{P:Al}{w:BE}:∀{ks:List Key} {us:List AE},Bk (ks.map kV) us->ItemsAre (Cv P w) ks us
 | [],_,r=>by rw[KW]at r;cases r;exact .nil
 | k :: ks,_,r=>by
  rw[A5]at r
  cases r with
  | cons h t=>exact .cons (RP h) (RQ t)
abbrev KT(H:Hp):List (List Key×V)->List (List Key×AK×AE)->Prop:=FZ λp q=>p.1=q.1/\H q.2.1=some (.tup (p.1.map kV))/\RelV p.2 q.2.2
def KT.val{H:Hp}{kvs:List (List Key×V)}{xs:List (List Key×AK×AE)}(r:KT H kvs xs)(k:List Key):Nq (Jw kvs k) ((Ut xs k).map (·.2)):=by
 induction r with
 | nil=>exact Cy
 | @cons p q ps qs h t ih=>
  obtain⟨h1,_,h2⟩:=h
  by_cases e:p.1=k
  ·have e':q.1=k:=h1.symm.trans e
   have b:Ut (q :: qs) k=some q.2:=by simp[Ut,BV,e']
   rw[PK e,b];exact h2
  ·have e':¬q.1=k:=λz=>e (h1.trans z)
   have b:Ut (q :: qs) k=Ut qs k:=by simp[Ut,BV,e']
   rw[PL e,b];exact ih
def KT.repl{H:Hp}{kvs:List (List Key×V)}{xs:List (List Key×AK×AE)}(r:KT H kvs xs)(k:List Key){y:V}{u:AE}(ry:RelV y u) :
  KT H (kvs.map λkv=>if kv.1=k then(kv.1,y)else kv) (xs.map (putAt k u)):=by
 induction r with
 | nil=>exact .nil
 | @cons p q ps qs h t ih=>
  rw[A5,A5];refine .cons ?_ ih;obtain⟨h1,h2,h3⟩:=h;unfold putAt
  by_cases e:p.1=k
  ·rw[qX e,qX (h1.symm.trans e)];exact⟨h1,h2,ry⟩
  ·rw[qY e,qY (λz=>e (h1.trans z))];exact⟨h1,h2,h3⟩
def KT.put{H:Hp}{kvs:List (List Key×V)}{xs:List (List Key×AK×AE)}(r:KT H kvs xs)(k:List Key){b:AK}{y:V}{u:AE}(hb:H b=some (.tup (k.map kV)))(ry:RelV y u) :
  KT H (Ho kvs k y) (storedH xs k b u):=by
 have e:(kvs.any λkv=>decide (kv.1=k))=(Ut xs k).isSome:=by
  rw[Ta,(r.val k).isSome_eq,G1]
 unfold Ho storedH;rw[e]
 by_cases q:(Ut xs k).isSome=true
 ·rw[qX q,qX q];exact r.repl k ry
 ·rw[qY q,qY q];exact Ug r ⟨rfl,hb,ry⟩
def KT.keeps{H H':Hp}{kvs:List (List Key×V)}{xs:List (List Key×AK×AE)}(r:KT H kvs xs)(ht:∀b ys,H b=some (.tup ys)->H' b=some (.tup ys)):KT H' kvs xs:=
 FZ.mapP r λ_ _ z=>⟨z.1,ht _ _ z.2.1,z.2.2⟩
variable{X:Cx}{e:Expr}{te:TE}{lo hi:Option Expr}{tl th:TO}{pos p2:Pos}
def de:PO X none cr:=by
 intro ζ s σ H Q I h;rw[evalPart_none];exact AY ⟨none,H,I,.none,h⟩
def dc(h:PE X e te):PO X (some e) (lF te):=by
 intro ζ s σ H Q I hw;rw[evalPart_some]
 refine thn (h ζ s σ H _ I hw) λu s1 ⟨x,H1,I1,r1,q1⟩=>?_
 obtain⟨i,rfl,q⟩:=q1;obtain⟨t,rfl⟩:=r1;exact⟨some i,H1,I1,.int i t,q⟩
def lX(K:AA):R2:=λx y H Q=>∃a b xs ys,x=.ref a/\y=.ref b/\SqT K H a xs/\SqT K H b ys/\xs≠[]/\xs.length+ys.length<=sizeLine /\
 (ys=[]->Q (.ref a) H)/\(ys≠[]->∀p,H p=none->Q (.ref p) (upd H p (.tup (xs++ys))))
def Bk.nil_iff{xs:List V}{us:List AE}(r:Bk xs us):us=[]↔xs=[]:=by
 cases r with
 | nil=>simp
 | cons _ _=>simp
def eE:OpR X (Cj .Add) (lX X.K):=by
 intro ζ s σ H x y v u Q I rx ry h;obtain⟨a,b,xs,ys,rfl,rfl,ha,hb,hx,hz,q1,q2⟩:=h;cases rx;cases ry;obtain⟨its,r1,p1,_⟩:=I.tuple ha;obtain⟨its2,r2,p2,_⟩:=I.tuple hb;refine HT.fb p1 p2 (λz=>hx (r1.nil_iff.mp z)) (λz=>⟨.ref a,H,I,rfl,q1 (r2.nil_iff.mp z)⟩) (λz=>?_) (by rw[<-r1.length,<-r2.length];exact hz);refine⟨.ref s.heap.objs.size,_,I.laid (t':=s.toks) (o:=.tup (xs++ys)) (λb ob q=>AJ _ q) (AQ _) ?_,rfl,q2 (λw=>z (r2.nil_iff.mpr w)) _ (I.hok.fresh (AQ _))⟩;exact⟨⟨by rw[Ad];exact hz,⟨_,Ak _ rfl,rfl⟩⟩,_,r1.append r2,nW _ _⟩
def ixN(n:Nat)(i:Int):Option Nat:=if 0<=i then(if i < n then some i.toNat else none)else if -(n:Int)<=i then some (i+n).toNat else none
def atI{α:Type}(xs:List α)(i:Int):Option α:=(ixN xs.length i).bind λj=>xs[j]?
def eZ{n:Nat}{i:Int}{j:Nat}(h:ixN n i=some j):seqIndex? i n=some j/\j < n/\-(n:Int)<=i/\i < n:=by
 unfold ixN at h
 by_cases h0:0<=i
 ·rw[qX h0]at h
  by_cases h1:i < n
  ·rw[qX h1]at h
   have e:i.toNat=j:=CJ h;exact⟨by rw[seqIndex_of h0 h1,e],by lia,by lia,h1⟩
  ·rw[qY h1]at h;cases h
 ·rw[qY h0]at h
  by_cases h1:-(n:Int)<=i
  ·rw[qX h1]at h
   have e:(i+n).toNat=j:=CJ h;exact⟨by rw[seqIndex_neg (by lia) h1,e],by lia,h1,by lia⟩
  ·rw[qY h1]at h;cases h
def W5{α:Type}{xs:List α}{i:Int}{v:α}(h:atI xs i=some v):∃j,seqIndex? i xs.length=some j/\xs[j]?=some v/\j < xs.length/\-(xs.length:Int)<=i/\i < xs.length:=by
 unfold atI at h
 cases e:ixN xs.length i with
 | none=>rw[e]at h;cases h
 | some j=>
  rw[e]at h;obtain⟨h1,h2,h3,h4⟩:=eZ e;exact⟨j,h1,h,h2,h3,h4⟩
def Sy(b:Expr):Prop:=∀o i,Sz b false o i=operate [o,i] (Yu o i)
def IxR(X:Cx)(r:R2):Prop:=
 ∀(value slice:Expr) (ζ:List (AK×Obj)) (s:AG) (σ:St) (H:Hp) (x y:V) (v u:AE) (Q:VK),Inv X ζ σ H s->RelV x v->RelV y u->r x y H Q ->
  Sz slice false v u=operate [v,u] (Yu v u)->Av (Af X.prog X.w) X.A (XB value slice v u) (EP X ζ σ Q) X.xe s
def MtR(X:Cx)(id:String)(r:V->List V->Hp->VK->Prop):Prop:=
 ∀(ζ:List (AK×Obj)) (s:AG) (σ:St) (H:Hp) (x:V) (xs:List V) (v:AE) (us:List AE) (Q:VK),Inv X ζ σ H s->RelV x v->Bk xs us->r x xs H Q ->
  Av (Af X.prog X.w) X.A (call (.builtin id) (v :: us)) (EP X ζ σ Q) X.xe s
section
variable{P:Al}{w:BE}{H:Hp}{h:B7}{a:AK}
def gY{u:HO}(ok:HOk P w H h)(e:Rd H a u):CU P w H h a u:=e.ok ok
def RW{kvs:List (Key×V)}(ok:HOk P w H h)(e:Rd H a (.dK kvs)):kvs.length<=sizeLine/\(a==DD)=false/\∃vs,KV kvs vs/\h.DictOf (Cv P w) a vs:=
 show CU P w H h a (.dK kvs)from gY ok e
def Wz{kvs:List (Key×V)}(ok:HOk P w H h)(e:H a=some (.dK kvs)):kvs.length<=sizeLine/\(a==DD)=false/\∃vs,KV kvs vs/\h.DictOf (Cv P w) a vs:=RW ok (.inl e)
def P2{ks:List Key}(ok:HOk P w H h)(e:H a=some (.tup (ks.map kV))):(Rg (Cv P w)).is h ks a:=by
 obtain⟨_,its,r,o,h1,h2,n,h3⟩:=(show CU P w H h a (.tup (ks.map kV))from ok a _ e);exact⟨o,its.toArray,n,h1,h2,h3,by simpa using RQ r⟩
def RV{kvs:List (List Key×V)}(ok:HOk P w H h)(e:Rd H a (.dT kvs)):kvs.length<=sizeLine/\(a==DD)=false /\
  ∃xs,KT H kvs xs/\h.DictOfH (Rg (Cv P w)) a xs:=by
 obtain⟨z,y,xs,r,o,es,ep,h1,h2,h3,h4,h5⟩:=(show CU P w H h a (.dT kvs)from gY ok e);refine⟨z,y,xs,r,o,es,ep,h1,h2,h3,h4,λx hx=>?_,h5⟩
 have all:∀{l:List (List Key×V)} {m:List (List Key×AK×AE)},KT H l m->∀x∈m,(Rg (Cv P w)).is h x.1 x.2.1:=by
  intro l m q
  induction q with
  | nil=>intro x hx;exact nomatch hx
  | @cons p q ps qs hq t ih=>
   intro x hx
   rcases Aw.mp hx with e | hx
   ·subst e
    exact P2 ok (by rw[<-hq.1];exact hq.2.1)
   ·exact ih x hx
 exact all r x hx
def md{kvs:List (List Key×V)}(ok:HOk P w H h)(e:H a=some (.dT kvs)):kvs.length<=sizeLine/\(a==DD)=false /\
  ∃xs,KT H kvs xs/\h.DictOfH (Rg (Cv P w)) a xs:=RV ok (.inl e)
end
def NC(H:Hp)(a:AK)(y:V)(r:Option V):Prop:=
 (∃kvs k,Rd H a (.dK kvs)/\y=kV k/\r=Jw kvs k)∨∃kvs k b,Rd H a (.dT kvs)/\y=.ref b/\H b=some (.tup (k.map kV))/\r=Jw kvs k
def Uc(H:Hp)(a:AK)(y v:V)(H':Hp):Prop:=
 (∃kvs k,H a=some (.dK kvs)/\y=kV k/\kvs.length < sizeLine/\H'=upd H a (.dK (Ho kvs k v))) ∨
 ∃kvs k b,H a=some (.dT kvs)/\y=.ref b/\H b=some (.tup (k.map kV))/\kvs.length < sizeLine/\H'=upd H a (.dT (Ho kvs k v))
def NC.k{H:Hp}{a:AK}{kvs:List (Key×V)}{k:Key}(e:H a=some (.dK kvs)):NC H a (kV k) (Jw kvs k):=.inl ⟨kvs,k,.inl e,rfl,rfl⟩
def NC.t{H:Hp}{a b:AK}{kvs:List (List Key×V)}{k:List Key}(e:H a=some (.dT kvs))(eb:H b=some (.tup (k.map kV))):NC H a (.ref b) (Jw kvs k):=.inr ⟨kvs,k,b,.inl e,rfl,eb,rfl⟩
def Uc.k{H:Hp}{a:AK}{kvs:List (Key×V)}{k:Key}{v:V}(e:H a=some (.dK kvs))(hl:kvs.length < sizeLine):Uc H a (kV k) v (upd H a (.dK (Ho kvs k v))):=.inl ⟨kvs,k,e,rfl,hl,rfl⟩
def Uc.t{H:Hp}{a b:AK}{kvs:List (List Key×V)}{k:List Key}{v:V}(e:H a=some (.dT kvs))(eb:H b=some (.tup (k.map kV)))(hl:kvs.length < sizeLine) :
  Uc H a (.ref b) v (upd H a (.dT (Ho kvs k v))):=.inr ⟨kvs,k,b,e,rfl,eb,hl,rfl⟩
variable{X:Cx}{a b:Expr}{ta tb:TE}{pos:Pos}
def IxR.or{r r':R2}(h:IxR X r)(h':IxR X r'):IxR X (λx y H Q=>r x y H Q∨r' x y H Q):=by
 intro value slice ζ s σ H x y v u Q I rx ry q hs
 rcases q with q | q
 ·exact h value slice ζ s σ H x y v u Q I rx ry q hs
 ·exact h' value slice ζ s σ H x y v u Q I rx ry q hs
def lg{r:R2}(hr:IxR X r)(ha:PE X a ta)(hb:PE X b tb)(hs:Sy b):PE X (.Subscript a b pos) (tOp r ta tb):=by
 intro ζ s σ H Q I h;exact g7 (kH ha hb I h λv u s2 x y H2 I2 rx ry q=>hr a b ζ s2 σ H2 x y v u Q I2 rx ry q (hs _ _))
def rIxL(K:AA):R2:=λx y H Q=>∃p xs i v,x=.ref p/\y=.int i/\SqL K H p xs/\atI xs i=some v/\Q v H
def rIxT(K:AA):R2:=λx y H Q=>∃p xs i v,x=.ref p/\y=.int i/\SqT K H p xs/\atI xs i=some v/\Q v H
def ix_list:IxR X (rIxL X.K):=by
 intro value slice ζ s σ H x y v u Q I rx ry h hs;obtain⟨p,xs,i,z,rfl,rfl,hq,he,q⟩:=h;cases rx;obtain⟨t,rfl⟩:=ry;obtain⟨its,r,pl,hz⟩:=I.list hq;obtain⟨j,h1,h2,h3,h4,h5⟩:=W5 he;obtain⟨w,ew,rw'⟩:=r.get h2;have hl:=r.length;have hn:=SU;have fin:EP X ζ σ Q w s:=⟨z,H,I,rw',q⟩
 by_cases h0:0<=i
 ·have hj:i.toNat=j:=by
   rw[seqIndex_of h0 h5]at h1;exact CJ h1
  exact item_listR pl.isList h0 (by lia) (by rw[hj];simpa using ew) fin hs
 ·have hj:(i+(its.toArray.size:Int)).toNat=j:=by
   rw[seqIndex_neg (by lia) h4]at h1;rw[AU,<-hl];exact CJ h1
  exact Ys (x:=w) pl.isList.typeIs kT.lookup
   (wpAny_getItem_list_neg (Q:=λr s'=>r=w/\EP X ζ σ Q r s') pl.isList (by lia) (by rw[AU] <;> lia) (by lia) (by rw[hj];simpa using ew) ⟨rfl,fin⟩) hs
def jq:IxR X (rIxT X.K):=by
 intro value slice ζ s σ H x y v u Q I rx ry h hs;obtain⟨p,xs,i,z,rfl,rfl,hq,he,q⟩:=h;cases rx;obtain⟨t,rfl⟩:=ry;obtain⟨its,r,pl,hz⟩:=I.tuple hq;obtain⟨j,h1,h2,h3,h4,h5⟩:=W5 he;obtain⟨w,ew,rw'⟩:=r.get h2;have hl:=r.length;have hn:=SU;have fin:EP X ζ σ Q w s:=⟨z,H,I,rw',q⟩
 exact Ys (x:=w) pl.typeIs slot_tuple_getitem.lookup
  (getItem_tuple (j:=j) (Q:=λr s'=>r=w/\EP X ζ σ Q r s') pl (by lia) (by lia) (by rw[AU,<-hl];exact h1) (by simpa using ew) ⟨rfl,fin⟩) hs
def Sq:Ij X (.builtin "len") (λxs H Q=>∃p ys,xs=[.ref p]/\(SqL X.K H p ys∨SqT X.K H p ys)/\Q (.int ys.length) H):=by
 intro ζ s σ H xs us Q I r h;obtain⟨p,ys,rfl,hq,q⟩:=h;obtain⟨u,rfl,rx⟩:=vals1 r;cases rx;have hn:=SU
 rcases hq with hq | hq
 ·obtain⟨its,r',pl,hz⟩:=I.list hq
  have hlen:=r'.length;exact Calls.call_len_list pl.isList (by simp only[AU] <;> lia) ⟨.int ys.length,H,I.tok _,⟨s.toks+1,by rw[AU,hlen]⟩,q⟩
 ·obtain⟨its,r',pl,hz⟩:=I.tuple hq
  have hlen:=r'.length;exact len_tuple pl (by simp only[AU] <;> lia) ⟨.int ys.length,H,I.tok _,⟨s.toks+1,by rw[AU,hlen]⟩,q⟩
def So:Ij X (.type "list") (λxs H Q=>∃p ys,xs=[.ref p]/\(SqL X.K H p ys∨SqT X.K H p ys)/\∀l,H l=none->Q (.ref l) (upd H l (.lst ys))):=by
 intro ζ s σ H xs us Q I r h;obtain⟨p,ys,rfl,hq,q⟩:=h;obtain⟨u,rfl,rx⟩:=vals1 r;cases rx
 have fin:∀(its:List AE),Bk ys its->ys.length<=sizeLine->∀(h':B7) (c':Nat),(∀b o',s.heap.get? b=some o'->h'.get? b=some o') ->
   h'.get? s.heap.objs.size=some { cls:=.type "list",dict:=none,data:=.seq its.toArray c',slots:=#[] }->EP X ζ σ Q (.ref s.heap.objs.size) { s with heap:=h' }:=λits r' hz h' c' kp e=>
  ⟨.ref s.heap.objs.size,_,I.laid (t':=s.toks) kp (AQ _) (show CU X.prog X.w _ h' _ (.lst ys)from⟨hz,its,c',r',e⟩),rfl,q _ (I.hok.fresh (AQ _))⟩
 rcases hq with hq | hq
 ·obtain⟨its,r',pl,hz⟩:=I.list hq
  have hlen:=r'.length;obtain⟨o,ho,hc,n,hd⟩:=pl.isList;exact call_list_seq p (.inl rfl) ho hc hd (λh' c' kp e=>fin its r' hz h' c' kp e) (by simp only[AU] <;> lia)
 ·obtain⟨its,r',pl,hz⟩:=I.tuple hq
  have hlen:=r'.length;obtain⟨o,ho,hc,n,hd⟩:=pl;exact call_list_seq p (.inr rfl) ho hc hd (λh' c' kp e=>fin its r' hz h' c' kp e) (by simp only[AU] <;> lia)
def Qy:Ij X (.type "tuple") (λxs H Q=>∃p ys,xs=[.ref p]/\((SqL X.K H p ys/\∀l,H l=none->Q (.ref l) (upd H l (.tup ys)))∨(SqT X.K H p ys/\Q (.ref p) H))):=by
 intro ζ s σ H xs us Q I r h;obtain⟨p,ys,rfl,h⟩:=h;obtain⟨u,rfl,rx⟩:=vals1 r;cases rx
 rcases h with⟨hq,q⟩ | ⟨hq,q⟩
 ·obtain⟨its,r',pl,hz⟩:=I.list hq
  have hlen:=r'.length;refine call_tuple_list pl.isList (λh' kp=>?_) (by simp only[AU] <;> lia);have I1:Inv X ζ σ H { s with heap:=h' }:=I.kept (t':=s.toks) kp
  have I2:Inv X ζ σ (upd H h'.objs.size (.tup ys)) { s with heap:=h'.push { cls:=.type "tuple",data:=.seq its.toArray } }:=
   I1.laid (t':=s.toks) (λb o e=>AJ _ e) (AQ _) (show CU X.prog X.w _ _ _ (.tup ys)from⟨⟨hz,⟨_,Ak _ rfl,rfl⟩⟩,its,r',nW _ _⟩)
  exact⟨.ref h'.objs.size,_,I2,rfl,q _ (I1.hok.fresh (AQ _))⟩
 ·obtain⟨its,r',pl,hz⟩:=I.tuple hq
  exact call_tuple_same pl ⟨.ref p,H,I,rfl,q⟩
def tyV(K:AA)(T:String)(x:V)(H:Hp):Prop:=match x with
 | .str _=>T = "str"
 | .int _=>T = "int"
 | .ref p=>(T = "list"/\∃xs,SqL K H p xs)∨(T = "tuple"/\∃o,K.lookup p=some o/\o.cls=.type "tuple"/\o.dict=none) ∨
   (T = "dict"/\((∃kvs,H p=some (.dK kvs))∨∃kvs,H p=some (.dT kvs)))∨(T = "set"/\∃S n,H p=some (.set S n))
 | _=>False
def ZM{ζ:List (AK×Obj)}{σ:St}{H:Hp}{s:AG}{T:String}{x:V}{v:AE}(I:Inv X ζ σ H s)(r:RelV x v)(ty:tyV X.K T x H) :
  s.TypeIs v T/\∀a,v=.ref a->∃ob,s.heap.get? a=some ob/\ob.dict=none:=by
 cases x with
 | str z=>
  obtain⟨t,rfl⟩:=r;cases(show T = "str" from ty);exact⟨typeIs_str s z t,λ_ e=>nomatch e⟩
 | int i=>
  obtain⟨t,rfl⟩:=r;cases(show T = "int" from ty);exact⟨typeIs_int s i t,λ_ e=>nomatch e⟩
 | ref p=>
  cases r
  rcases ty with⟨rfl,xs,hq⟩ | ⟨rfl,o,hk,hc,hd⟩ | ⟨rfl,hk⟩ | ⟨rfl,S,n,hk⟩
  ·obtain⟨its,_,pl,_⟩:=I.list hq
   refine⟨pl.isList.typeIs,λa e=>?_⟩;cases e;obtain⟨o,n,e,c,hd,_⟩:=pl;exact⟨o,e,hd⟩
  ·refine⟨⟨o,I.kIn p o hk,hc⟩,λa e=>?_⟩
   cases e;exact⟨o,I.kIn _ o hk,hd⟩
  ·have z:∃o,s.heap.get? p=some o/\o.ExactDict:=by
    rcases hk with⟨kvs,hk⟩ | ⟨kvs,hk⟩
    ·obtain⟨_,_,_,_,o,_,_,e,ex,_⟩:=I.hok p _ hk
     exact⟨o,e,ex⟩
    ·obtain⟨_,_,_,_,o,_,_,e,ex,_⟩:=I.hok p _ hk
     exact⟨o,e,ex⟩
   obtain⟨o,e,ex⟩:=z;refine⟨⟨o,e,ex.1⟩,λa e2=>?_⟩;cases e2;exact⟨o,e,ex.2.1⟩
  ·obtain⟨o,_,_,_,e,ex,_⟩:=I.hok p _ hk
   refine⟨⟨o,e,ex.1⟩,λa e2=>?_⟩;cases e2;exact⟨o,e,ex.2.1⟩
 | _=>exact D5 ty
def tBM0(K:AA)(T:String)(r:V->List V->Hp->VK->Prop)(to:TE):TE:=λσ H Q=>to σ H λx H1=>tyV K T x H1/\r x [] H1 Q
def tBM(K:AA)(T:String)(r:V->List V->Hp->VK->Prop)(to:TE)(t:TA):TE:=λσ H Q=>to σ H λx H1=>tyV K T x H1/\t σ H1 λxs H2=>r x xs H2 Q
variable{o e:Expr}{es:List Expr}{to:TE}{t:TA}{name:Str}{apos cpos:Pos}{T id:String}{r:V->List V->Hp->VK->Prop}
def Zw(pa:PlainAttrs T)(slot:Slot T name id)(hty:typeOf (.builtin id)=pure (.type "method_descriptor")) (hm:MtR X id r) (ho:PE X o to)
  (hbase:Cb o name X.env (Bw o X.env)=Bw o X.env:=by rfl) (hline:(apos.endLine==cpos.line)=true:=by rfl):PE X (.Call (.Attribute o name apos) [] [] cpos) (tBM0 X.K T r to):=by
 intro ζ s σ H Q I h;refine Yh hbase hline (thn (ho ζ s σ H _ I h) λv s1 ⟨x,H1,I1,r1,ty,q1⟩=>?_);obtain⟨h1,h2⟩:=ZM I1 r1 ty;exact⟨T,id,pa,slot,hty,h1,h2,G5 rfl (V8 (hm ζ s1 σ H1 x [] v [] Q I1 r1 .nil q1))⟩
def Zx(pa:PlainAttrs T)(slot:Slot T name id)(hty:typeOf (.builtin id)=pure (.type "method_descriptor")) (hm:MtR X id r) (ho:PE X o to) (ha:PA X (e :: es) t)
  (hbase:Cb o name X.env (Bw o X.env)=Bw o X.env:=by rfl)
  (hfew:((Da cpos (AS (e :: es) X.env)).all (λx=>!x.1)&&(Us cpos (NJ [] X.env)).all (λx=>x.1.isSome)
    &&decide ((e :: es).length+([]:List JZ).length+(if ([]:List JZ).isEmpty then 0 else 1) < 30))=true:=by rfl)
  (hline:(apos.endLine==cpos.line)=true:=by rfl) (hs:AS (e :: es) X.env=(false,Bw e X.env) :: AS es X.env:=by rfl) (hplain:(Da cpos (AS es X.env)).any (·.1)=false:=by rfl) :
  PE X (.Call (.Attribute o name apos) (e :: es) [] cpos) (tBM X.K T r to t):=by
 intro ζ s σ H Q I h;refine wpAny_Call_method_late hbase hfew hline rfl (thn (ho ζ s σ H _ I h) λv s1 ⟨x,H1,I1,r1,ty,q1⟩=>?_);obtain⟨h1,h2⟩:=ZM I1 r1 ty;refine⟨T,id,pa,slot,hty,h1,h2,?_⟩;have hA:=ha cpos ζ s1 σ H1 _ I1 q1;rw[hs]at hA ⊢;refine G5 (by show(false||(Da cpos (AS es X.env)).any (·.1))=false;rw[hplain] <;> rfl) (U0 ?_)
 exact thn hA λus s2 ⟨vs,H2,I2,r2,q2⟩=>hm ζ s2 σ H2 x vs v us Q I2 r1 r2 q2
def MtM(X:Cx)(id:String)(r:V->List V->Hp->VK->Prop):Prop:=
 ∀(ζ:List (AK×Obj)) (s:AG) (σ:St) (H:Hp) (x:V) (xs:List V) (v:AE) (us:List AE) (Q:VK),Inv X ζ σ H s->RelV x v->Bk xs us->r x xs H Q ->
  Av (Af X.prog X.w) X.A (call (.builtin id) (v :: us)) (EP X ζ σ Q) X.xe s
def Bk.one:∀{x:V} {us:List AE},Bk [x] us->∃u,us=[u]/\RelV x u
 | _,_,.cons r .nil=>⟨_,rfl,r⟩
def Bk.zero:∀{us:List AE},Bk [] us->us=[]
 | _,.nil=>rfl
def Bk.dropLast{xs:List V}{us:List AE}(h:Bk xs us):Bk xs.dropLast us.dropLast:=by
 induction h with
 | nil=>exact .nil
 | cons r t ih=>
  cases t with
  | nil=>exact .nil
  | cons q t'=>exact .cons r ih
def Bk.reverse{xs:List V}{us:List AE}(h:Bk xs us):Bk xs.reverse us.reverse:=by
 induction h with
 | nil=>exact .nil
 | cons r t ih=>rw[JY,JY];exact Bk.append ih (.cons r .nil)
def Vq{α:Type}(l:List α):l.eraseIdx (l.length - 1)=l.dropLast:=by
 induction l with
 | nil=>rfl
 | cons a r ih=>
  cases r with
  | nil=>rfl
  | cons b r=>
   have e:(a :: b :: r).length - 1=((b :: r).length - 1)+1:=by
    have h1:(a :: b :: r).length=r.length+2:=rfl;have h2:(b :: r).length=r.length+1:=rfl
    lia
   rw[e,List.eraseIdx_cons_succ,ih]
   all_goals rfl
section
variable{X:Cx}{ζ:List (AK×Obj)}{σ:St}{H:Hp}{s:AG}{a:AK}{y v:V}{u r:AE}{o:Option V}{A:BC}{E:AE->AG->Prop}
def Inv.big(I:Inv X ζ σ H s):DD < s.heap.objs.size:=by
 have h:Ah < s.heap.objs.size:=(I.mod.glob.keeps I.bk).lt;exact lA (by decide) h
def YV{Q:AE->AG->Prop}(hu:A.units+1 < Dm)(I:Inv X ζ σ H s)(g:NC H a y (some v))(ry:RelV y u)(h:∀w' s',Inv X ζ σ H s'->RelV v w'->Q w' s') :
  Av (Af X.prog X.w) A (Yu (.ref a) u) Q E s:=by
 rcases g with⟨kvs,k,e,ey,l⟩ | ⟨kvs,k,b,e,ey,eb,l⟩
 ·subst ey
  obtain⟨z,hd,vs,rel,dd⟩:=RW I.hok e;obtain⟨w',hw,rw'⟩:=Nq.some_of (v:=v) (o:=QR vs k) (by rw[l];exact rel.val k);exact wpAny_getItem_of (RP ry) dd.mapOf hw (h w' _ (I.tok _) rw')
 ·subst ey
  cases(show u=BB b from ry);obtain⟨z,hd,xs,rel,dd⟩:=RV I.hok e;obtain⟨w',hw,rw'⟩:=Nq.some_of (v:=v) (o:=(Ut xs k).map (·.2)) (by rw[l];exact rel.val k);obtain⟨p,hp,hp2⟩:=Option.map_eq_some_iff.mp hw;refine wpAny_getItem_heap (Jp hu) (P2 I.hok eb) dd hp ?_;rw[hp2];exact h w' _ (I.tok _) rw'
def d_in{Q:AE->AG->Prop}(hu:A.units+1 < Dm)(I:Inv X ζ σ H s)(g:NC H a y o)(ry:RelV y u)(h:∀s',Inv X ζ σ H s'->Q (.bool o.isSome) s') :
  Av (Af X.prog X.w) A (Bi .In u (.ref a)) Q E s:=by
 rcases g with⟨kvs,k,e,ey,l⟩ | ⟨kvs,k,b,e,ey,eb,l⟩
 ·subst ey
  obtain⟨z,hd,vs,rel,dd⟩:=RW I.hok e;refine wpAny_in_of (RP ry) hd dd.mapOf ?_;rw[<-(rel.val k).isSome_eq,<-l];exact h _ (I.tok _)
 ·subst ey
  cases(show u=BB b from ry);obtain⟨z,hd,xs,rel,dd⟩:=RV I.hok e;refine wpAny_in_heap (Jp hu) (P2 I.hok eb) hd dd ?_;have q:=(rel.val k).isSome_eq;rw[G1]at q;rw[<-q,<-l];exact h _ (I.tok _)
def fU{Q:AE->AG->Prop}(hu:A.units+1 < Dm)(I:Inv X ζ σ H s)(g:NC H a y o)(ry:RelV y u)(h:∀s',Inv X ζ σ H s'->Q (.bool (!o.isSome)) s') :
  Av (Af X.prog X.w) A (Bi .NotIn u (.ref a)) Q E s:=by
 rcases g with⟨kvs,k,e,ey,l⟩ | ⟨kvs,k,b,e,ey,eb,l⟩
 ·subst ey
  obtain⟨z,hd,vs,rel,dd⟩:=RW I.hok e;refine wpAny_notIn_of (RP ry) hd dd.mapOf ?_;rw[<-(rel.val k).isSome_eq,<-l];exact h _ (I.tok _)
 ·subst ey
  cases(show u=BB b from ry);obtain⟨z,hd,xs,rel,dd⟩:=RV I.hok e;refine wpAny_notIn_heap (Jp hu) (P2 I.hok eb) hd dd ?_;have q:=(rel.val k).isSome_eq;rw[G1]at q;rw[<-q,<-l];exact h _ (I.tok _)
def Oo{h':B7}{t':Nat}{ob:HO}(I:Inv X ζ σ H s)(mu:Mut (H a))(hs:Ec a s.heap h')(he:∃q,h'.get? a=some q)(new:CU X.prog X.w (upd H a ob) h' a ob) :
  Inv X ζ σ (upd H a ob) { s with heap:=h',toks:=t' }:=
 I.write (x:=a) (e:=a) mu (.inl rfl) (λb q hb z=>(hs.2 b hb).trans z) he new
def Vr{P:Al}{w:BE}{H':Hp}{h':B7}{kvs:List (Key×V)}{vs:List (Key×AE)}(z:kvs.length<=sizeLine)(hd:(a==DD)=false)(rel:KV kvs vs)(dd:h'.DictOf (Cv P w) a vs) :
  CU P w H' h' a (.dK kvs):=⟨z,hd,vs,rel,dd⟩
def YU{H':Hp}{Q:Unit->AG->Prop}(hu:A.units+1 < Dm)(I:Inv X ζ σ H s)(g:Uc H a y v H')(ry:RelV y u)(rv:RelV v r)(h:∀s',Inv X ζ σ H' s'->Q () s') :
  Av (Af X.prog X.w) A (setItem (.ref a) u r) Q E s:=by
 rcases g with⟨kvs,k,e,ey,l,eH⟩ | ⟨kvs,k,b,e,ey,eb,l,eH⟩
 ·subst ey eH
  obtain⟨z,hd,vs,rel,dd⟩:=Wz I.hok e
  have hz:vs.length<=sizeLine:=by rw[<-rel.length];exact z
  have hl:(Ho kvs k v).length<=sizeLine:=by have:=Kn kvs k v;lia
  refine wpAny_setItem_pairs (hsz:=hz) (RP ry) dd λh' dd' hs=>h _ ?_
  have he:∃q,h'.get? a=some q:=let ⟨q,_,_,hq,_⟩:=dd';⟨q,hq⟩
  exact Oo I (by rw[e];exact Cy) hs he (Vr hl hd (rel.put k rv) dd')
 ·subst ey eH
  cases(show u=BB b from ry);obtain⟨z,hd,xs,rel,dd⟩:=md I.hok e
  have hz:xs.length<=sizeLine:=by rw[<-Dz rel];exact z
  have hl:(Ho kvs k v).length<=sizeLine:=by have:=Kn kvs k v;lia
  refine wpAny_setItem_heap (hsz:=hz) (Jp hu) (P2 I.hok eb) dd λh' dd' hs=>h _ ?_
  obtain⟨q,es,ep,hq,h2,h3,h4,_,h5⟩:=dd';refine Oo I (by rw[e];exact Cy) hs ⟨q,hq⟩ ⟨hl,hd,_,(rel.put k eb rv).keeps λc ys ec=>?_,q,es,ep,hq,h2,h3,h4,h5⟩;rw[Bc (lz ec e (λz=>nomatch z))];exact ec
variable{X:Cx}{ζ:List (AK×Obj)}{σ:St}{H:Hp}{s:AG}{l b:AK}{xs ys zs:List V}
def Inv.lset{its its':List AE}{n:Nat}{f:Array AE->Array AE}{t':Nat}(I:Inv X ζ σ H s)(hH:H l=some (.lst xs))
  (e:s.heap.get? l=some { cls:=.type "list",data:=.seq its.toArray n }) (hf:f its.toArray=its'.toArray) (hv:Bk ys its') (hz:ys.length<=sizeLine) :
  Inv X ζ σ (upd H l (.lst ys)) { s with heap:=s.heap.update l (Hl f),toks:=t' }:=by
 have q:=PySem.IsL.update e f;rw[hf]at q;refine I.write (x:=l) (e:=l) (by rw[hH];exact trivial) (.inl rfl) (λb' u hb hu=>(B7.get?_update_other s.heap (Hl f) (CB hb)).trans hu) ⟨_,q⟩ ?_;exact⟨hz,its',_,hv,q⟩
def Inv.lnew{its:List AE}{t':Nat}(I:Inv X ζ σ H s)(hv:Bk ys its)(hz:ys.length<=sizeLine) :
  Inv X ζ σ (upd H s.heap.objs.size (.lst ys)) { s with heap:=s.heap.push { cls:=.type "list",data:=.seq its.toArray },toks:=t' }:=
 I.laid (λ_ _ q=>AJ _ q) (AQ _) ⟨hz,its,0,hv,Ak _ rfl⟩
def Inv.fresh(I:Inv X ζ σ H s):H s.heap.objs.size=none:=I.hok.fresh (AQ _)
def Inv.lstM(I:Inv X ζ σ H s)(hH:H l=some (.lst xs)):xs.length<=sizeLine/\∃(its:List AE) (n:Nat),Bk xs its/\xs.length=its.length/\s.heap.get? l=some { cls:=.type "list",data:=.seq its.toArray n }:=by
 obtain⟨z,its,n,r,e⟩:=I.hok l _ hH;exact⟨z,its,n,r,r.length,e⟩
def UA{n:Nat}(h:n<=sizeLine):Di n=false:=by
 unfold Di;exact wY (by lia)
end
section
variable{X:Cx}{ζ:List (AK×Obj)}{σ:St}{H:Hp}{s:AG}{a:AK}{kvs:List (Key×V)}{k:Key}{u:AE}{A:BC}{E:AE->AG->Prop}
end
def kN(i:Expr):Prop:=∀ov iv,Sz i false ov iv=operate [ov,iv] (Yu ov iv)
def dC{prog:Al}{w:BE}{A:BC}{E:AE->AG->Prop}{s:AG}{env:Env}{value slice:Expr}{pos:Pos}{T id:String}{Q:AE->AG->Prop}
  (hl:typeLookup (.type T) "__getitem__" = pure (some (.builtin id))) (hs:kN slice)
  (h:Av (Af prog w) A (Bw value env) (λo s₁=>Av (Af prog w) A (Bw slice env) (λi s₂=>s₂.TypeIs o T/\Av (Af prog w) A (Yu o i) Q E s₂) E s₁) E s) :
  Av (Af prog w) A (Bw (.Subscript value slice pos) env) Q E s:=by
 refine g7 (HA h (λo s₁ h₁=>HA h₁ (λi s₂ h₂=>?_) λ_ _ x=>x) λ_ _ x=>x);obtain⟨hT,h₂⟩:=h₂;unfold XB;refine AH ?_;rw[getitemInPython_of_ne hT.not_modules];refine AH (wpAny_specialOf hT hl ?_)
 have fin:Av (Af prog w) A (Sz slice false o i) (λr s₃=>Av (Af prog w) A (letTemporaryGo value o r >>= λ_=>pure r) Q E s₃) E s₂:=by
  rw[hs o i];exact wpAny_operating (HA h₂ (λr s₃ h₃=>AH (wpAny_letTemporaryGo (AY h₃))) λ_ _ x=>x)
 first
  | exact AY (AH fin)
  | exact AH (AY (AH fin))
  | exact AH fin
def UU{X:Cx}{ζ:List (AK×Obj)}{σ:St}{H:Hp}{s:AG}{a:AK}{y:V}{o:Option V}(I:Inv X ζ σ H s)(g:NC H a y o):s.TypeIs (.ref a) "dict":=by
 rcases g with⟨kvs,k,e,_,_⟩ | ⟨kvs,k,b,e,_,_,_⟩
 ·obtain⟨_,_,vs,_,dd⟩:=RW I.hok e
  exact dd.typeIs
 ·obtain⟨_,_,xs,_,dd⟩:=RV I.hok e
  exact dd.typeIs
def lN(td ty:TE):TE:=λσ H Q=>td σ H λx H1=>ty σ H1 λy H2=>∃a v,x=.ref a/\NC H2 a y (some v)/\Q v H2
def lM(ty td:TE):TE:=λσ H Q=>ty σ H λy H1=>td σ H1 λx H2=>∃a o,x=.ref a/\NC H2 a y o/\Q (.bl o.isSome) H2
def WS(ty td:TE):TE:=λσ H Q=>ty σ H λy H1=>td σ H1 λx H2=>∃a o,x=.ref a/\NC H2 a y o/\Q (.bl (!o.isSome)) H2
def lT(td ty tv:TE):TS:=λD σ H=>tv σ H λv H1=>td σ H1 λx H2=>ty σ H2 λy H3=>∃a H4,x=.ref a/\Uc H3 a y v H4/\D.nx σ H4
variable{X:Cx}
def dP:V->List V->Hp->VK->Prop:=λx vs H Q=>∃l xs y,x=.ref l/\vs=[y]/\H l=some (.lst xs)/\xs.length < sizeLine/\Q .non (upd H l (.lst (xs++[y])))
def RM:MtM X "list.append" dP:=by
 intro ζ s σ H x vs v us Q I rx rv h;obtain⟨l,xs,y,rfl,rfl,hH,hz,q⟩:=h;cases rx;obtain⟨u,rfl,ru⟩:=rv.one;obtain⟨z,its,n,r,hl,e⟩:=I.lstM hH;refine Os F.slot_list_append ⟨_,e,rfl⟩ F.entry_list_append (F.args_list_append_2 _ _) (PySem.list_append l its.toArray n u (by rw[AU];lia)) ⟨e,?_⟩;refine⟨.non,_,I.lset (its':=its++[u]) hH e (by simp) (r.append (.cons ru .nil)) ?_,rfl,q⟩;rw[Ad,Cu]
 lia
def dO:V->List V->Hp->VK->Prop:=λx vs H Q=>∃l b xs zs,x=.ref l/\vs=[.ref b]/\H l=some (.lst xs)/\H b=some (.lst zs)/\xs.length+zs.length<=sizeLine/\Q .non (upd H l (.lst (xs++zs)))
def X2:MtM X "list.extend" dO:=by
 intro ζ s σ H x vs v us Q I rx rv h;obtain⟨l,b,xs,zs,rfl,rfl,hH,hB,hz,q⟩:=h;cases rx;obtain⟨u,rfl,ru⟩:=rv.one;cases ru;obtain⟨z,its,n,r,hl,e⟩:=I.lstM hH;obtain⟨z2,its2,n2,r2,hl2,e2⟩:=I.lstM hB
 have hsz:its.toArray.size+its2.toArray.size<=sizeLine:=by rw[AU,AU];lia
 have hlong:¬(!its.toArray.isEmpty&&Di (its.toArray.size+its2.toArray.size))=true:=by
  rw[UA hsz,gP];exact AZ
 refine Os bz ⟨_,e,rfl⟩ bj (Y3 _ _)
  (AutoSeq1.list_extend_list_list_0 l its.toArray n b its2.toArray n2 hlong (by rw[AU];lia) (by lia)) ⟨e,e2,?_⟩
 refine⟨.non,_,I.lset (its':=its++its2) hH e (by simp) (r.append r2) ?_,rfl,q⟩;rw[Ad];omega
def rPop:V->List V->Hp->VK->Prop:=λx vs H Q=>∃l xs y,x=.ref l/\vs=[]/\H l=some (.lst xs)/\xs[xs.length - 1]?=some y/\Q y (upd H l (.lst xs.dropLast))
def ji:MtM X "list.pop" rPop:=by
 intro ζ s σ H x vs v us Q I rx rv h;obtain⟨l,xs,y,rfl,rfl,hH,hy,q⟩:=h;cases rx;have hus:=rv.zero;subst hus;obtain⟨z,its,n,r,hl,e⟩:=I.lstM hH;obtain⟨u,hu,ru⟩:=r.get hy
 have hy':its.toArray[its.toArray.size - 1]?=some u:=by
  show its.toArray[its.length - 1]?=some u;rw[<-E3,<-hl];exact hu
 refine Os F.slot_list_pop ⟨_,e,rfl⟩ F.entry_list_pop (F.args_list_pop_1 _) (MeetsSeq.list_pop_last l its.toArray n u hy' (by rw[AU];lia)) ⟨e,?_⟩;refine⟨y,_,I.lset (its':=its.dropLast) hH e ?_ r.dropLast ?_,ru,q⟩
 ·show its.toArray.eraseIdxIfInBounds (its.toArray.size - 1)=its.dropLast.toArray
  rw[AU,List.eraseIdxIfInBounds_toArray,Vq]
 ·rw[List.length_dropLast]
  lia
def Zg:V->List V->Hp->VK->Prop:=λx vs H Q=>∃l xs,x=.ref l/\vs=[]/\H l=some (.lst xs)/\Q .non (upd H l (.lst xs.reverse))
def Va:MtM X "list.reverse" Zg:=by
 intro ζ s σ H x vs v us Q I rx rv h;obtain⟨l,xs,rfl,rfl,hH,q⟩:=h;cases rx;have hus:=rv.zero;subst hus;obtain⟨z,its,n,r,hl,e⟩:=I.lstM hH;refine Os F.slot_list_reverse ⟨_,e,rfl⟩ F.entry_list_reverse (F.args_list_reverse_1 _) (AutoSeq1.list_reverse_list_0 l its.toArray n (by rw[AU];lia)) ⟨e,?_⟩;refine⟨.non,_,I.lset (its':=its.reverse) hH e (by simp) r.reverse ?_,rfl,q⟩;rw[XJ];omega
def rCat:R2:=λx y H Q=>∃l b xs zs,x=.ref l/\y=.ref b/\H l=some (.lst xs)/\H b=some (.lst zs)/\xs.length+zs.length<=sizeLine/\∀p,H p=none->Q (.ref p) (upd H p (.lst (xs++zs)))
def jT:OpR X (Cj .Add) rCat:=by
 intro ζ s σ H x y v u Q I rx ry h;obtain⟨l,b,xs,zs,rfl,rfl,hH,hB,hz,q⟩:=h;cases rx;cases ry;obtain⟨z,its,n,r,hl,e⟩:=I.lstM hH;obtain⟨z2,its2,n2,r2,hl2,e2⟩:=I.lstM hB;refine PySem.P.add_list e e2 ?_ (by rw[AU,AU];lia)
 have ea:its.toArray++its2.toArray=(its++its2).toArray:=by simp
 rw[ea];exact⟨.ref _,_,I.lnew (t':=s.toks) (r.append r2) (by rw[Ad];omega),rfl,q _ I.fresh⟩
section
variable{X:Cx}{o i e value:Expr}{pos pos' tpos:Pos}{td ty tv:TE}
def du(hu:X.A.units+1 < Dm)(ho:PE X o td)(hi:PE X i ty)(hs:kN i):PE X (.Subscript o i pos) (lN td ty):=by
 intro ζ s σ H Q I h;refine dC PySem.F.slot_dict_getitem.lookup hs (thn (ho ζ s σ H _ I h) λu s1 ⟨x,H1,I1,rx,q1⟩=>thn (hi ζ s1 σ H1 _ I1 q1) λiv s2 ⟨y,H2,I2,ry,a,v,ex,g,q2⟩=>?_);subst ex;obtain rfl:u=BB a:=rx;exact⟨UU I2 g,YV hu I2 g ry λw' s3 I3 rw'=>⟨v,H2,I3,rw',q2⟩⟩
def Zy(hu:X.A.units+1 < Dm)(hi:PE X i ty)(ho:PE X o td):PC X .In i o (lM ty td):=by
 intro ζ s σ H Q I h
 refine thn (hi ζ s σ H _ I h) λiv s1 ⟨y,H1,I1,ry,q1⟩=>thn (ho ζ s1 σ H1 _ I1 q1) λu s2 ⟨x,H2,I2,rx,a,ov,ex,g,q2⟩=>?_
 subst ex;obtain rfl:u=BB a:=rx
 exact d_in hu I2 g ry λs3 I3=>⟨.bl ov.isSome,H2,I3,rfl,q2⟩
def RK(hu:X.A.units+1 < Dm)(hi:PE X i ty)(ho:PE X o td):PC X .NotIn i o (WS ty td):=by
 intro ζ s σ H Q I h
 refine thn (hi ζ s σ H _ I h) λiv s1 ⟨y,H1,I1,ry,q1⟩=>thn (ho ζ s1 σ H1 _ I1 q1) λu s2 ⟨x,H2,I2,rx,a,ov,ex,g,q2⟩=>?_
 subst ex;obtain rfl:u=BB a:=rx
 exact fU hu I2 g ry λs3 I3=>⟨.bl (!ov.isSome),H2,I3,rfl,q2⟩
def dY(hu:X.A.units+1 < Dm)(ho:PE X o td)(hi:PE X i ty)(hv:PE X value tv)(hs:Gb value (some (.Subscript o i pos')) pos.line X.env=pure false) :
  PS X (.Assign [.Subscript o i pos'] value pos) (lT td ty tv):=by
 intro ζ s σ H D I h;refine wpAny_Assign_Subscript (thn (hv ζ s σ H _ I h) λr s1 ⟨v,H1,I1,rv,q1⟩=>thn (ho ζ s1 σ H1 _ I1 q1) λu s2 ⟨x,H2,I2,rx,q2⟩=>thn (hi ζ s2 σ H2 _ I2 q2) λiv s3 ⟨y,H3,I3,ry,a,H4,ex,g,q3⟩=>?_) hs;subst ex;obtain rfl:u=BB a:=rx
 exact YU hu I3 g ry rv λs4 I4=>⟨σ,H4,I4,q3⟩
end
def UT{P:Al}{w:BE}{H:Hp}(h:B7)(hb:DD < h.objs.size):CU P w H (h.push { cls:=.type "dict",data:=.dict #[] }) h.objs.size (.dK []):=
 ⟨Cr _,beq_eq_false_iff_ne.mpr (CB (Aq hb)),[],.nil,B7.DictOf.new h⟩
def bM{P:Al}{w:BE}{H:Hp}(h:B7)(hb:DD < h.objs.size):CU P w H (h.push { cls:=.type "dict",data:=.dict #[] }) h.objs.size (.dT []):=
 ⟨Cr _,beq_eq_false_iff_ne.mpr (CB (Aq hb)),[],.nil,_,#[],0,Ak _ rfl,⟨rfl,rfl,rfl⟩,rfl,rfl,FX⟩
def ik:TE:=λ_ H Q=>∀p,H p=none->Q (.ref p) (upd H p (.dK []))
def ij:TE:=λ_ H Q=>∀p,H p=none->Q (.ref p) (upd H p (.dT []))
variable{prog:Al}{w:BE}{A:BC}{E:AE->AG->Prop}{s:AG}
section
variable{X:Cx}{pos:Pos}
def Zt:PE X (.Dict [] [] pos) ik:=λζ s σ H Q I h=>
 kt ⟨.ref s.heap.objs.size,_,I.laid (a:=s.heap.objs.size) (o:=.dK []) (t':=s.toks) (λ_ _ q=>AJ _ q) (AQ _) (UT s.heap I.big),rfl,h _ (I.hok.fresh (AQ _))⟩
def Zs:PE X (.Dict [] [] pos) ij:=λζ s σ H Q I h=>
 kt ⟨.ref s.heap.objs.size,_,I.laid (a:=s.heap.objs.size) (o:=.dT []) (t':=s.toks) (λ_ _ q=>AJ _ q) (AQ _) (bM s.heap I.big),rfl,h _ (I.hok.fresh (AQ _))⟩
end
def VH:List (TE×TE)->St->Hp->(List (V×V)->Hp->Prop)->Prop
 | [],_,H,Q=>Q [] H
 | (tk,tv) :: r,σ,H,Q=>tk σ H λx H1=>tv σ H1 λy H2=>VH r σ H2 λps H3=>Q ((x,y) :: ps) H3
abbrev VV:List (V×V)->List (AE×AE)->Prop:=FZ λp q=>RelV p.1 q.1/\RelV p.2 q.2
def PPs(X:Cx)(pos:Pos)(keys:List (Option Expr))(values:List Expr)(trs:List (TE×TE)):Prop:=
 ∀(ζ:List (AK×Obj)) (s:AG) (σ:St) (H:Hp) (Q:List (V×V)->Hp->Prop),Inv X ζ σ H s->VH trs σ H Q ->
  Av (Af X.prog X.w) X.A (evalPairs (pairTrees keys values X.env pos)) (λvs s'=>∃ps H',Inv X ζ σ H' s'/\VV ps vs/\Q ps H') X.xe s
def da{X:Cx}{pos:Pos}:PPs X pos [] [] []:=λζ s σ H Q I h=>pairTrees_nil_walk ⟨[],H,I,.nil,h⟩
def Zo{X:Cx}{pos:Pos}{k v:Expr}{ks:List (Option Expr)}{vs:List Expr}{tk tv:TE}{trs:List (TE×TE)}(hk:PE X k tk)(hv:PE X v tv)(hr:PPs X pos ks vs trs) :
  PPs X pos (some k :: ks) (v :: vs) ((tk,tv) :: trs):=λζ s σ H Q I h=>
 pairTrees_cons_walk (thn (hk ζ s σ H _ I h) λu s1 ⟨x,H1,I1,rx,q1⟩=>thn (hv ζ s1 σ H1 _ I1 q1) λw2 s2 ⟨y,H2,I2,ry,q2⟩=>
  thn (hr ζ s2 σ H2 _ I2 q2) λws s3 ⟨ps,H3,I3,rel,q3⟩=>⟨(x,y) :: ps,H3,I3,.cons ⟨rx,ry⟩ rel,q3⟩)
def JL(kvs more:List (Key×V)):List (Key×V):=more.foldl (λacc kv=>Ho acc kv.1 kv.2) kvs
def KV.merge:∀{more:List (Key×V)} {rs:List (Key×AE)} {kvs:List (Key×V)} {vs:List (Key×AE)},KV more rs->KV kvs vs->KV (JL kvs more) (merged vs rs):=by
 intro more rs kvs vs r;unfold KV at r
 induction r generalizing kvs vs with
 | nil=>intro q;exact q
 | @cons p q ps qs h t ih=>
  intro r0
  have e:KV (Ho kvs p.1 p.2) (stored vs q.1 q.2):=by
   have:=r0.put p.1 h.2;rw[<-h.1];exact this
  exact ih e
def JM:∀(more kvs:List (Key×V)),(JL kvs more).length<=kvs.length+more.length
 | [],kvs=>by show kvs.length<=kvs.length+0;lia
 | p :: r,kvs=>by
  have h1:=JM r (Ho kvs p.1 p.2);have h2:=Kn kvs p.1 p.2;show(JL (Ho kvs p.1 p.2) r).length<=_;rw[A8];lia
def QI{P:Al}{w:BE}:∀{kvs:List (Key×V)} {ws:List (AE×AE)},VV (kvs.map λkv=>(kV kv.1,kv.2)) ws->∃rs,Carries (Cv P w) ws rs/\KV kvs rs
 | [],_,r=>by rw[KW]at r;cases r;exact⟨[],Cy,.nil⟩
 | p :: kvs,_,r=>by
  rw[A5]at r
  cases r with
  | @cons a b as bs h t=>
   obtain⟨rs,c,q⟩:=QI (P:=P) (w:=w) t;obtain⟨b1,b2⟩:=b;exact⟨(p.1,b2) :: rs,⟨RP h.1,rfl,c⟩,.cons ⟨rfl,h.2⟩ q⟩
def lK(trs:List (TE×TE)):TE:=λσ H Q=>∀p,H p=none->VH trs σ (upd H p (.dK [])) λps H2=>H2 p=some (.dK [])/\∃kvs:List (Key×V),ps=kvs.map (λkv=>(kV kv.1,kv.2))/\kvs.length<=15/\Q (.ref p) (upd H2 p (.dK (JL [] kvs)))
def dr{X:Cx}{pos:Pos}{keys:List (Option Expr)}{values:List Expr}{trs:List (TE×TE)}(h:PPs X pos keys values trs)(hall:keys.all (·.isSome)=true)(hl:keys.length=values.length)(h0:keys≠[])
  (h15:keys.length<=15):PE X (.Dict keys values pos) (lK trs):=by
 intro ζ s σ H Q I q;have hn:=I.hok.fresh (AQ s.heap.objs.size);have I1:=I.laid (a:=s.heap.objs.size) (o:=.dK []) (h':=s.heap.push { cls:=.type "dict",data:=.dict #[] }) (t':=s.toks) (λ_ _ q=>AJ _ q) (AQ _) (UT s.heap I.big);refine wpAny_Dict_walk (knd:=Cv X.prog X.w) hall hl h0 h15 (thn (h ζ _ σ _ _ I1 (q _ hn)) λws s2 ⟨ps,H2,I2,rel,e,kvs,ep,lk,q2⟩=>?_);subst ep;obtain⟨rs,c,rk⟩:=QI (P:=X.prog) (w:=X.w) rel;obtain⟨z,hd,vs0,r0,dd⟩:=Wz I2.hok e;cases r0;refine⟨rs,c,dd,λh' dd' hs=>⟨.ref s.heap.objs.size,_,?_,rfl,q2⟩⟩
 have hz:(JL [] kvs).length<=sizeLine:=by
  have h1:=JM kvs [];rw[IH]at h1;rw[TB];lia
 have he:∃q,h'.get? s.heap.objs.size=some q:=let ⟨q,_,_,hq,_⟩:=dd';⟨q,hq⟩
 exact Oo I2 (by rw[e];exact Cy) hs he (Vr hz hd (rk.merge .nil) dd')
structure M1(X:Cx)(o:Expr)(m:Str)(apos:Pos)(e:Expr)(cpos:Pos):Prop where
 base:Cb o m X.env (Bw o X.env)=Bw o X.env
 few:((Da cpos (AS [e] X.env)).all (λx=>!x.1)&&(Us cpos (NJ [] X.env)).all (λx=>x.1.isSome)
   &&decide (([e]:List Expr).length+([]:List JZ).length+(if ([]:List JZ).isEmpty then 0 else 1) < 30))=true
 line:(apos.endLine==cpos.line)=true
 trees:Da cpos (AS [e] X.env)=[(false,Bw e X.env)]
def IsD(H:Hp)(a:AK):Prop:=(∃kvs,Rd H a (.dK kvs))∨∃kvs,Rd H a (.dT kvs)
def aa{X:Cx}{ζ:List (AK×Obj)}{σ:St}{H:Hp}{s:AG}{a:AK}(I:Inv X ζ σ H s)(d:IsD H a) :
  s.TypeIs (.ref a) "dict"/\(∀b,BB a=.ref b->∃ob,s.heap.get? b=some ob/\ob.dict=none)/\(a==DD)=false:=by
 rcases d with⟨kvs,e⟩ | ⟨kvs,e⟩
 ·obtain⟨_,hd,vs,_,dd⟩:=RW I.hok e
  refine⟨dd.typeIs,λb q=>?_,hd⟩;cases q;obtain⟨ob,_,_,h1,h2,_⟩:=dd;exact⟨ob,h1,h2.2.1⟩
 ·obtain⟨_,hd,xs,_,dd⟩:=RV I.hok e
  refine⟨dd.typeIs,λb q=>?_,hd⟩;cases q;obtain⟨ob,_,_,h1,h2,_⟩:=dd;exact⟨ob,h1,h2.2.1⟩
section
variable{X:Cx}{ζ:List (AK×Obj)}{σ:St}{H:Hp}{s:AG}{a:AK}{y d:V}{u r:AE}{o:Option V}{A:BC}{E:AE->AG->Prop}
end
section
variable{X:Cx}{o e f:Expr}{apos cpos:Pos}{td ty tx:TE}
end
section
variable{X:Cx}{ζ:List (AK×Obj)}{σ:St}{H:Hp}{s:AG}{a:AK}{kvs:List (Key×V)}{A:BC}{E:AE->AG->Prop}
end
section
variable{X:Cx}{ζ:List (AK×Obj)}{σ:St}{H:Hp}{s:AG}{a:AK}{y:V}{u:AE}{A:BC}{E:AE->AG->Prop}
variable{X:Cx}
end
end L2
namespace Att
open PySem PySem.W PySem.Calls PyProof.Rows
def OP{P:Params}{h:B7}:∀(ns:List Int) (vs:List AE),WellAll P h vs (ns.map nC)->IntsAre vs ns:=by
 intro ns
 induction ns with
 | nil=>
  intro vs w;rw[KW]at w;cases w;exact .nil
 | cons n ns ih=>
  intro vs w;rw[A5]at w
  cases w with
  | cons a b=>
   cases a;exact .cons _ _ (ih _ b)
def Xh{l:OpenLaw}{n:Nat}(hn:l.most=some n){P:Params}{h:B7}{args:List WData}{vals:List AE}
  (hpre:l.row.toRowW.claim.pre args=true) (hwl:WellAll P h vals args) :
  ∃a vs ns,vals=[BB a]/\args=[WData.list (ns.map nC)]/\h.get? a=some { cls:=.type "list",data:=.seq vs.toArray }/\IntsAre vs ns/\ns.length<=n:=by
 have hsh:WShape.hasAll [] args [.list .int]=true:=(pre_splitW hpre).1;have hc:l.pre.holds [] { args:=args }=true:=(pre_splitW hpre).2;obtain⟨d,r,rfl,h1,h2⟩:=hasAllW_cons hsh;obtain rfl:=hasAllW_nil h2;obtain⟨xs,rfl,h3⟩:=hasW_list h1;obtain⟨ns,rfl⟩:=items_int h3
 have hlen:ns.length<=n:=by
  unfold OpenLaw.pre at hc
  have h4:(WTm.not (.lt (.lit (.int (n:Int))) (.len (.arg 0)))).holds [] { args:=[.list (ns.map .int)] }=true:=by
   have h4:=(holds_andW hc).1;rw[hn]at h4;exact h4
  have h5:=condW_of h4 (w_not (w_lt w_lit (w_len_list (w_arg rfl))));rw[AC]at h5
  refine Ox λq=>?_
  have q':(n:Int) < ((ns.length:Nat):Int):=by omega
  first
   | (rw[wX q']at h5;exact zX h5 (by decide))
   | (simp at h5;omega)
 cases hwl with
 | cons w1 w2=>
  cases w2
  cases w1 with
  | list ho hall=>exact⟨_,_,ns,rfl,rfl,ho,OP ns _ hall,hlen⟩
def Xp(l:OpenLaw)(args:List WData):l.row.toRowW.claim.post args (.bool true) args=true:=
 postW_of (r:=l.row.toRowW) (X:=(true==true))
  (show kZ [] (.bool true) .bool=true by first | rfl | decide | simp[kZ,WShape.arms,WShape.armsAll])
  (show(WTm.eq .res (.lit (.bool true))).value [] { args:=args,res:=some (.bool true),after:=args }=some (.bool (true==true))from w_eq_bool (w_res rfl) w_lit) rfl
def UZ{l:OpenLaw}{n:Nat}{q:Al}{loose:List Str}{XP:(Str->Option AE)->B7->Prop}{YP:BE->B7->Prop}{d:DefRec}
  (hn:l.most=some n) (hdf:d.params.defaults=[])
  (call:∀(w:BE) (s₀ s₁:AG) (mg mb:Str->Option AE) (fa:AK) (o:Obj) (pm cd doc:AE) (a:AK) (vs:List AE) (ns:List Int),
   Ground q loose [] XP w s₀ mg mb s₁.heap->YP w s₁.heap ->
   s₁.heap.get? fa=some o->o.data=.func (docDef d.name d.params d.body d.scope pm cd doc)->s₁.heap.CodeRec cd d.name->mg d.name=some (.ref fa) ->
   s₁.heap.get? a=some { cls:=.type "list",data:=.seq vs.toArray }->IntsAre vs ns->ns.length<=n->s₁.gens = #[] ->
   Li (Af l.prog w) QS (.call (.ref fa) ⟨[.ref a],[]⟩) (λr s'=>r=.ok (.ret (.bool true))/\OldK s₁.heap s'.heap/\s'.os=s₁.os/\Ja s'.gens) s₁) :
  WalkO q loose XP YP l.row.toRowW d [] (λf vs=>XF f vs):=by
 intro w s₀ s₁ mg mb G Y fa o pm cd doc dV kV ho hd hcd hD hmg hg args vals as hpre hlay hrd hwl hlo;obtain rfl:dV=.none:=Dflts.none hD hdf;obtain rfl:kV=.none:=Dflts.noKw hD;obtain⟨a,vs,ns,rfl,rfl,hobj,hints,hlen⟩:=Xh hn hpre hwl;refine enter_call (JW (call w s₀ s₁ mg mb fa o pm cd doc a vs ns G Y ho (fd_plain hd) hcd hmg hobj hints hlen hg) λr s' hq=>?_);obtain⟨rfl,h2,h3,h4⟩:=hq;exact⟨.inl ⟨.bool true,.bool true,[],rfl,λ_=>rfl,.bool true,Xp l _,λ_=>⟨Q4,λ_ hm=>(nomatch hm)⟩⟩,h2,h3,h4⟩
section
variable{prog:Al}{w:BE}{A:BC}{E:AE->AG->Prop}{s:AG}{K:Frag}
end
end Att
namespace L2
open PySem PySem.Spec PyProof.Rows
def RA:∀{vs:List AE} {ns:List Int},IntsAre vs ns->Bk (ns.map V.int) vs
 | _,_,.nil=>.nil
 | _,_,.cons n t h=>.cons ⟨t,rfl⟩ (RA h)
def fx(H:Hp):Prop:=∀b,H b=none∨∃o xs,H b=some (.frz o (.lst xs))
def aU{P:Al}{w:BE}{K:AA}{mg mb:Str->Option AE}{CX:CXT}{k:Nat}{fa a:AK}{fd:Dg}{x:Str}{sp:Sp}{s₁:AG}{vs:List AE}{ns:List Int}
  (KX:K.In s₁.heap) (hns:s₁.heap.Ns Ah mg) (hb:s₁.heap.Ns gy mb) (hbb:∀x:Str,x≠"__name__"->mb x=E9 x) (hlim:s₁.heap.NoLimit) (hg:s₁.gens = #[])
  (ha:s₁.heap.get? a=some { cls:=.type "list",data:=.seq vs.toArray }) (hi:IntsAre vs ns) (hl:ns.length<=sizeLine) (hr:Hw k QS)
  (F:∀base:B7,K.In base->base.Ns Ah mg->Dh P w K mg base CX k fa fd [x] sp) (hbind:∀(s:AG) (u:AE),Um s fd ⟨[u],[]⟩ [(x,u)])
  (hsp:∀H:Hp,fx H->SqL K H a (ns.map V.int)->sp [.ref a] H (λv _=>v=.bl true) λ_ _ _=>False)
  (hCX:∀H e s',CX [] H s₁ (λ_ _ _=>False) e s'->False) :
  Li (Af P w) QS (.call (.ref fa) ⟨[.ref a],[]⟩) (λr s'=>r=.ok (.ret (.bool true))/\OldK s₁.heap s'.heap/\s'.os=s₁.os/\Ja s'.gens) s₁:=by
 have rv:=RA hi;have lenV:=hi.length
 have core:∀H:Hp,fx H->SqL K H a (ns.map V.int)->HOk P w H s₁.heap->(∀b,H b≠none->b=a)->(H a≠none->K.lookup a=none) ->
   Li (Af P w) QS (.call (.ref fa) ⟨[.ref a],[]⟩) (λr s'=>r=.ok (.ret (.bool true))/\OldK s₁.heap s'.heap/\s'.os=s₁.os/\Ja s'.gens) s₁:=by
  intro H hO hS hok hA hK
  have base_of:∀{b:AK} {o:Obj},s₁.heap.get? b=some o->H b=none->(SZ s₁.heap H).get? b=some o:=λe n=>ak e n
  have noA:∀{b:AK} {o:Obj} {es:Array IN} {ep:Nat},s₁.heap.get? b=some o->o.data=.dict es ep->H b=none:=λ{b o es ep} e d=>by
   cases q:H b with
   | none=>rfl
   | some u=>
    have e':b=a:=hA b (by rw[q];simp);subst e';rw[ha]at e;cases e;have d':Data.seq vs.toArray _=Data.dict es ep:=d;cases d'
  have nsK:∀{b:AK} {m:Str->Option AE},s₁.heap.Ns b m->(SZ s₁.heap H).Ns b m:=λ{b m} ⟨o,es,ep,e,d,r⟩=>⟨o,es,ep,base_of e (noA e d),d,r⟩
  have hKb:K.In (SZ s₁.heap H):=λb o e=>base_of (KX b o e) (by
   cases q:H b with
   | none=>rfl
   | some u=>
    have e':b=a:=hA b (by rw[q];simp);subst e'
    rw[hK (by rw[q];simp)]at e;cases e)
  have hM:Mod K mg (SZ s₁.heap H):=⟨hKb,nsK hns,⟨mb,nsK hb,hbb⟩,let ⟨mc,h1,h2⟩:=hlim;⟨mc,nsK h1,h2⟩⟩;have e0:V5 P w K mg (SZ s₁.heap H) QS [] s₁ H:=⟨rfl,hM,λb o e=>eI e,lB (YD _ _),trivial,λb hb=>zX (show b∈([]:List AK)from hb) (by simp),hok,.of_eq hg⟩
  refine JW ((F _ hKb (nsK hns)).run QS [] s₁ H ⟨[.ref a],[]⟩ [.ref a] [.ref a] _ _ hr e0 (hbind s₁ (.ref a)) (.cons rfl .nil) (hsp H hO hS)) λr s' h=>?_
  cases r with
  | error e=>exact(hCX H e s' h).elim
  | ok fl=>
   cases fl with
   | next=>exact D5 h
   | brk=>exact D5 h
   | cont=>exact D5 h
   | ret u=>
    obtain⟨v,H',os,bare,un,hok',r',q⟩:=h;have q':v=.bl true:=q;subst q';obtain rfl:u=MM true:=r';refine⟨rfl,OldK.of_keep λb o e=>?_,os,bare⟩
    cases q:H b with
    | none=>exact un.keep b o e q (by intro z;exact zX (show b∈([]:List AK)from z) (by simp)) (by simp)
    | some u=>
     rcases hO b with z | ⟨ob,xs,z⟩
     ·rw[q]at z;cases z
     ·have z2:=un.frzs b ob _ z
      obtain⟨e1,_⟩:=hok b _ z;obtain⟨e2,_⟩:=hok' b _ z2;rw[e]at e1;cases e1;exact e2
 cases hk:K.lookup a with
 | some o=>
  have e:=KX a o hk;rw[ha]at e;cases e
  refine core (λ_=>none) (λ_=>.inl rfl) (.inr ⟨_,vs.toArray,_,hk,rfl,rfl,rfl,by rw[AU,lenV];exact hl,by simpa using rv⟩) (λb u z=>by have z':(none:Option HO)=some u:=z;cases z') (λb z=>zX rfl z) λz=>zX rfl z
 | none=>
  refine core (λb=>if b=a then some (.frz { cls:=.type "list",data:=.seq vs.toArray } (.lst (ns.map V.int)))else none) (λb=>?_) (.inl (.inr ⟨{ cls:=.type "list",data:=.seq vs.toArray },qX rfl⟩)) (λb u z=>?_) (λb z=>?_) λ_=>hk
  ·by_cases hb:b=a
   ·exact .inr ⟨_,_,qX hb⟩
   ·exact .inl (qY hb)
  ·by_cases hb:b=a
   ·have z':=(qX hb).symm.trans z
    cases z';subst hb;exact⟨ha,by rw[AC];exact hl,vs,_,rv,ha⟩
   ·have z':=(qY hb).symm.trans z
    cases z'
  ·by_cases hb:b=a
   ·exact hb
   ·exact zX (qY hb) z
def cG{l:PySem.W.OpenLaw}{n k:Nat}{q:Al}{loose:List Str}{XP:(Str->Option AE)->B7->Prop}{YP:BE->B7->Prop}{d:DefRec}{K:Params->AA}{CX:BE->CXT}{sp:BE->Sp}{x:Str}
  (hn:l.most=some n) (hn2:n<=sizeLine) (hdf:d.params.defaults=[]) (hr:Hw k QS)
  (hY:∀(w:BE) (h:B7),YP w h->(K w.params).In h)
  (F:∀(w:BE) (mg:Str->Option AE) (fa:AK) (h:B7),(K w.params).In h->h.Ns Ah mg->mg d.name=some (.ref fa) ->
   ∃fd:Dg,(∀(s:AG) (u:AE),Um s fd ⟨[u],[]⟩ [(x,u)]) /\
    ∀base:B7,(K w.params).In base->base.Ns Ah mg->Dh l.prog w (K w.params) mg base (CX w) k fa fd [x] (sp w))
  (hsp:∀(w:BE) (H:Hp) (a:AK) (ns:List Int),ns.length<=n->fx H->SqL (K w.params) H a (ns.map V.int)->sp w [.ref a] H (λv _=>v=.bl true) λ_ _ _=>False)
  (hCX:∀(w:BE) (H:Hp) (s:AG) (e:AE) (s':AG),CX w [] H s (λ_ _ _=>False) e s'->False) :
  PySem.W.WalkO q loose XP YP l.row.toRowW d [] (λf vs=>XF f vs):=by
 refine Att.UZ hn hdf λw s₀ s₁ mg mb fa o pm cd doc a vs ns G Y ho hd hcd hmg hobj hints hlen hg=>?_
 have KX:=hY w _ Y;obtain⟨fd,hb,hF⟩:=F w mg fa _ KX G.T.g hmg
 exact aU KX G.T.g G.T.b G.T.builtins G.T.nolimit hg hobj hints (At hlen hn2) hr hF hb (λH hO hS=>hsp w H a ns hlen hO hS) λH e s'=>hCX w H s₁ e s'
def eh(s:Ce)(j:Nat):Ce:=match s with
 | .ClassDef _ _ _ body _ _ _ _ _ _ _=>body.getD j (.Pass ⟨0,0,0,0⟩)
 | _=>.Pass ⟨0,0,0,0⟩
def B0(s:Ce):Arguments:=match s with
 | .FunctionDef _ a _ _ _ _ _ _ _ _=>a
 | _=>{ posonlyargs:=[],args:=[],vararg:=none,kwonlyargs:=[],kw_defaults:=[],kwarg:=none,defaults:=[] }
def Bt(s:Ce):List Ce:=match s with
 | .FunctionDef _ _ b _ _ _ _ _ _ _=>b
 | _=>[]
def An(s:Ce):Im:=match s with
 | .FunctionDef _ _ _ _ _ _ sc _ _ _=>sc
 | _=>{ kind:=.function,names:=[],isGenerator:=false,isCoroutine:=false }
structure Fun(K:AA)(x qual:Str)(st:Ce)(f:AK)(fd:Dg):Prop where
 ex:∃(oc:AE) (od:Option AK) (kV doc pm:AE) (an:Option AK) (cdv ct:AE) (osl:Array (Option AE)),
  fd=IB x qual (B0 st) (Bt st) (An st) .none kV doc pm an cdv ct/\K.lookup f=some ⟨oc,od,.func fd,osl⟩/\Ov K cdv qual=true
 kp:Gg K (.ref f)=true
section
variable{P:Al}{w:BE}{K:AA}{mg:Str->Option AE}{base:B7}
def Fun.binds{x qual:Str}{st:Ce}{f:AK}{fd:Dg}{ps:List Str}(F:Fun K x qual st f fd)
  (h:∀(kV doc pm:AE) (an:Option AK) (cdv ct:AE) (us:List AE),us.length=ps.length->bindArgs (IB x qual (B0 st) (Bt st) (An st) .none kV doc pm an cdv ct) ⟨us,[]⟩=pure (ps.zip us)):Binds K fd ps []:=by
 obtain⟨oc,od,kV,doc,pm,an,cdv,ct,osl,rfl,lk,hcd⟩:=F.ex;exact .all (h kV doc pm an cdv ct)
def Ci{x qual:Str}{st:Ce}{f:AK}{oc:AE}{od an:Option AK}{osl:Array (Option AE)}{kV doc pm cdv ct:AE}(l:K.lookup f=some ⟨oc,od,.func (IB x qual (B0 st) (Bt st) (An st) .none kV doc pm an cdv ct),osl⟩)
  (c:Ov K cdv qual=true) (k:Gg K (.ref f)=true):Fun K x qual st f (IB x qual (B0 st) (Bt st) (An st) .none kV doc pm an cdv ct):=⟨⟨oc,od,kV,doc,pm,an,cdv,ct,osl,rfl,l,c⟩,k⟩
end
section
variable{X:Cx}
def pv(i:Nat){x:Str}{pos:Pos}(hN:X.N[i]?=some x:=by rfl)(hv:Vis X.env.scope x:=by first | exact MD rfl | exact K7 (MD rfl) | exact K7 (K7 rfl))(hd:(x==("__debug__" : Str))=false:=by decide)
  (hcd:(x==("__classdict__" : Str))=false:=by decide):PE X (.Name x pos) (ie i):=jD hN hv hd hcd
end
section
variable{κ:Type}[DecidableEq κ]
end
inductive D where
 | non | bl (b:Bool) | int (i:Int) | str (x:Str) | tup (ds:List D) | fro (ds:List D) | ref (n:Nat) | exc (C:AK)
def Q0(K:AA)(H:Hp)(a:AK)(vs:List V):Prop:=
 (∃o,H a=some (.frz o (.lst vs))) ∨
  ∃(o:Obj) (its:Array AE) (n:Nat),K.lookup a=some o/\o.cls=.type "list"/\o.dict=none/\o.data=.seq its n/\its.size<=sizeLine/\Bk vs its.toList
def Q0.sq{K:AA}{H:Hp}{a:AK}{vs:List V}(h:Q0 K H a vs):SqL K H a vs:=by
 rcases h with h | h
 ·exact .inl (.inr h)
 ·exact .inr h
def ExcO(o:Obj)(C:AK):Prop:=o.cls=.ref C/\o.dict=none/\∃vs,o.data=.fields vs
mutual
inductive Bu(K:AA)(ρ:List AK)(H:Hp):D->V->Prop where
 | non:Bu K ρ H .non .non
 | bl (b:Bool):Bu K ρ H (.bl b) (.bl b)
 | int (i:Int):Bu K ρ H (.int i) (.int i)
 | str (x:Str):Bu K ρ H (.str x) (.str x)
 | tup {ds:List D} {a:AK} {vs:List V}:H a=some (.tup vs)->A0 K ρ H ds vs->Bu K ρ H (.tup ds) (.ref a)
 | fro {ds:List D} {a:AK} {vs:List V}:Q0 K H a vs->A0 K ρ H ds vs->Bu K ρ H (.fro ds) (.ref a)
 | ref {n:Nat} {a:AK}:ρ[n]?=some a->Bu K ρ H (.ref n) (.ref a)
 | exc {C a:AK} {o:Obj} {u:HO}:H a=some (.frz o u)->ExcO o C->Bu K ρ H (.exc C) (.ref a)
inductive A0(K:AA)(ρ:List AK)(H:Hp):List D->List V->Prop where
 | nil:A0 K ρ H [] []
 | cons {d:D} {v:V} {ds:List D} {vs:List V}:Bu K ρ H d v->A0 K ρ H ds vs->A0 K ρ H (d :: ds) (v :: vs)
end
structure Le(K:AA)(ρ:List AK)(H:Hp)(ρ':List AK)(H':Hp):Prop where
 pre:∀(n:Nat) a,ρ[n]?=some a->ρ'[n]?=some a
 tup:∀a xs,H a=some (.tup xs)->H' a=some (.tup xs)
 frz:∀a o u,H a=some (.frz o u)->H' a=some (.frz o u)
 oth:∀a o,H a=some o->(∀n:Nat,ρ[n]?≠some a)->H' a=some o/\∀n:Nat,ρ'[n]?≠some a
def Q0.mono{K:AA}{H H':Hp}{a:AK}{xs:List V}(l:∀a o u,H a=some (.frz o u)->H' a=some (.frz o u))(h:Q0 K H a xs):Q0 K H' a xs:=by
 rcases h with⟨o,h⟩ | h
 ·exact .inl ⟨o,l _ _ _ h⟩
 ·exact .inr h
section
variable{K:AA}{ρ ρ' ρ'':List AK}{H H' H'':Hp}
def Le.fro(l:Le K ρ H ρ' H'):∀a xs,Q0 K H a xs->Q0 K H' a xs:=λ_ _ h=>h.mono l.frz
def Le.refl:Le K ρ H ρ H:=⟨λ_ _ h=>h,λ_ _ h=>h,λ_ _ _ h=>h,λ_ _ h n=>⟨h,n⟩⟩
def Le.trans(a:Le K ρ H ρ' H')(b:Le K ρ' H' ρ'' H''):Le K ρ H ρ'' H'':=
 ⟨λn x h=>b.pre n x (a.pre n x h),λx xs h=>b.tup x xs (a.tup x xs h),λx o u h=>b.frz x o u (a.frz x o u h),λx o h n=>b.oth x o (a.oth x o h n).1 (a.oth x o h n).2⟩
mutual
def Bu.mono(l:Le K ρ H ρ' H'):∀{d:D} {v:V},Bu K ρ H d v->Bu K ρ' H' d v
 | _,_,.non=>.non
 | _,_,.bl b=>.bl b
 | _,_,.int i=>.int i
 | _,_,.str x=>.str x
 | _,_,.tup h r=>.tup (l.tup _ _ h) (A0.mono l r)
 | _,_,.fro h r=>.fro (l.fro _ _ h) (A0.mono l r)
 | _,_,.ref h=>.ref (l.pre _ _ h)
 | _,_,.exc h e=>.exc (l.frz _ _ _ h) e
def A0.mono(l:Le K ρ H ρ' H'):∀{ds:List D} {vs:List V},A0 K ρ H ds vs->A0 K ρ' H' ds vs
 | _,_,.nil=>.nil
 | _,_,.cons r t=>.cons (Bu.mono l r) (A0.mono l t)
end
mutual
def Bu.more(l:∀(n:Nat) a,ρ[n]?=some a->ρ'[n]?=some a):∀{d:D} {v:V},Bu K ρ H d v->Bu K ρ' H d v
 | _,_,.non=>.non
 | _,_,.bl b=>.bl b
 | _,_,.int i=>.int i
 | _,_,.str x=>.str x
 | _,_,.tup h r=>.tup h (A0.more l r)
 | _,_,.fro h r=>.fro h (A0.more l r)
 | _,_,.ref h=>.ref (l _ _ h)
 | _,_,.exc h e=>.exc h e
def A0.more(l:∀(n:Nat) a,ρ[n]?=some a->ρ'[n]?=some a):∀{ds:List D} {vs:List V},A0 K ρ H ds vs->A0 K ρ' H ds vs
 | _,_,.nil=>.nil
 | _,_,.cons r t=>.cons (Bu.more l r) (A0.more l t)
end
mutual
def Bu.keep(h1:∀a xs,H a=some (.tup xs)->H' a=some (.tup xs))(h2:∀a o u,H a=some (.frz o u)->H' a=some (.frz o u)):∀{d:D} {v:V},Bu K ρ H d v->Bu K ρ H' d v
 | _,_,.non=>.non
 | _,_,.bl b=>.bl b
 | _,_,.int i=>.int i
 | _,_,.str x=>.str x
 | _,_,.tup h r=>.tup (h1 _ _ h) (A0.keep h1 h2 r)
 | _,_,.fro h r=>.fro (h.mono h2) (A0.keep h1 h2 r)
 | _,_,.ref h=>.ref h
 | _,_,.exc h e=>.exc (h2 _ _ _ h) e
def A0.keep(h1:∀a xs,H a=some (.tup xs)->H' a=some (.tup xs))(h2:∀a o u,H a=some (.frz o u)->H' a=some (.frz o u)):∀{ds:List D} {vs:List V},A0 K ρ H ds vs->A0 K ρ H' ds vs
 | _,_,.nil=>.nil
 | _,_,.cons r t=>.cons (Bu.keep h1 h2 r) (A0.keep h1 h2 t)
end
def A0.length:∀{ds:List D} {vs:List V},A0 K ρ H ds vs->ds.length=vs.length
 | _,_,.nil=>rfl
 | _,_,.cons _ t=>by rw[A8,A8,A0.length t]
def A0.get:∀{ds:List D} {vs:List V} {i:Nat} {d:D},A0 K ρ H ds vs->ds[i]?=some d->∃v,vs[i]?=some v/\Bu K ρ H d v
 | _,_,_,_,.nil,e=>by simp at e
 | _,_,0,_,.cons r _,e=>by simp at e;subst e;exact⟨_,rfl,r⟩
 | _,_,i+1,d,.cons _ t,e=>by
  obtain⟨v,h1,h2⟩:=A0.get (i:=i) (d:=d) t (by simpa using e);exact⟨v,by simpa using h1,h2⟩
def A0.get':∀{ds:List D} {vs:List V} {i:Nat} {v:V},A0 K ρ H ds vs->vs[i]?=some v->∃d,ds[i]?=some d/\Bu K ρ H d v
 | _,_,_,_,.nil,e=>by simp at e
 | _,_,0,_,.cons r _,e=>by simp at e;subst e;exact⟨_,rfl,r⟩
 | _,_,i+1,d,.cons _ t,e=>by
  obtain⟨v,h1,h2⟩:=A0.get' (i:=i) (v:=d) t (by simpa using e);exact⟨v,by simpa using h1,h2⟩
def A0.append:∀{ds es:List D} {vs us:List V},A0 K ρ H ds vs->A0 K ρ H es us->A0 K ρ H (ds++es) (vs++us)
 | _,_,_,_,.nil,s=>s
 | _,_,_,_,.cons r t,s=>.cons r (A0.append t s)
def A0.take:∀{ds:List D} {vs:List V} (n:Nat),A0 K ρ H ds vs->A0 K ρ H (ds.take n) (vs.take n)
 | _,_,0,_=>.nil
 | _,_,_+1,.nil=>.nil
 | _,_,n+1,.cons r t=>.cons r (A0.take n t)
def A0.reverse{ds:List D}{vs:List V}(h:A0 K ρ H ds vs):A0 K ρ H ds.reverse vs.reverse:=by
 induction ds generalizing vs with
 | nil=>cases h;exact .nil
 | cons d ds ih=>
  cases h with
  | cons r t=>rw[JY,JY];exact(ih t).append (.cons r .nil)
def A0.of_ints:∀(ns:List Int),A0 K ρ H (ns.map D.int) (ns.map V.int)
 | []=>.nil
 | n :: ns=>.cons (.int n) (A0.of_ints ns)
def A0.ints:∀{ns:List Int} {vs:List V},A0 K ρ H (ns.map D.int) vs->vs=ns.map V.int
 | [],_,.nil=>rfl
 | n :: ns,_,.cons r t=>by
  cases r;rw[A0.ints (ns:=ns) t];rfl
end
inductive Ob where
 | lst (ds:List D)
 | dK (kvs:List (Key×D))
 | dT (kvs:List (List Key×D))
 | ins (C:AK) (fs:List (Str×D))
 | fK (kvs:List (Key×D))
 | fT (kvs:List (List Key×D))
abbrev Sto:=List Ob
abbrev KVR{κ:Type}(K:AA)(ρ:List AK)(H:Hp):List (κ×D)->List (κ×V)->Prop:=FZ λ(p:κ×D) (q:κ×V)=>p.1=q.1/\Bu K ρ H p.2 q.2
def E2(K:AA)(ρ:List AK)(H:Hp)(a:AK):Ob->Prop
 | .lst ds=>∃vs,H a=some (.lst vs)/\A0 K ρ H ds vs
 | .dK kvs=>∃kvs',H a=some (.dK kvs')/\KVR K ρ H kvs kvs'
 | .dT kvs=>∃kvs',H a=some (.dT kvs')/\KVR K ρ H kvs kvs'
 | .ins C fs=>∃dx fs',H a=some (.ins C dx fs')/\KVR K ρ H fs fs'
 | .fK kvs=>∃ob kvs',H a=some (.frz ob (.dK kvs'))/\KVR K ρ H kvs kvs'
 | .fT kvs=>∃ob kvs',H a=some (.frz ob (.dT kvs'))/\KVR K ρ H kvs kvs'
structure CA(K:AA)(ρ:List AK)(S:Sto)(H:Hp):Prop where
 len:ρ.length=S.length
 nd:∀(i j:Nat) a,ρ[i]?=some a->ρ[j]?=some a->i=j
 ob:∀(n:Nat) o a,S[n]?=some o->ρ[n]?=some a->E2 K ρ H a o
section
variable{K:AA}{ρ ρ':List AK}{H H':Hp}{S:Sto}{a p:AK}{o:Ob}{n:Nat}{ho:HO}
def KVR.mono{κ:Type}(l:Le K ρ H ρ' H'){x:List (κ×D)}{y:List (κ×V)}(h:KVR K ρ H x y):KVR K ρ' H' x y:=FZ.mapP h λ_ _ z=>⟨z.1,z.2.mono l⟩
def E2.has(h:E2 K ρ H a o):H a≠none:=by
 cases o with
 | lst ds=>obtain⟨_,e,_⟩:=h;rw[e];exact λz=>nomatch z
 | dK ds=>obtain⟨_,e,_⟩:=h;rw[e];exact λz=>nomatch z
 | dT ds=>obtain⟨_,e,_⟩:=h;rw[e];exact λz=>nomatch z
 | ins C fs=>obtain⟨_,_,e,_⟩:=h;rw[e];exact λz=>nomatch z
 | fK ds=>obtain⟨_,_,e,_⟩:=h;rw[e];exact λz=>nomatch z
 | fT ds=>obtain⟨_,_,e,_⟩:=h;rw[e];exact λz=>nomatch z
def E2.mono(l:Le K ρ H ρ' H')(e:H' a=H a)(h:E2 K ρ H a o):E2 K ρ' H' a o:=by
 cases o with
 | lst ds=>obtain⟨vs,h1,h2⟩:=h;exact⟨vs,e.trans h1,h2.mono l⟩
 | dK ds=>obtain⟨vs,h1,h2⟩:=h;exact⟨vs,e.trans h1,h2.mono l⟩
 | dT ds=>obtain⟨vs,h1,h2⟩:=h;exact⟨vs,e.trans h1,h2.mono l⟩
 | ins C fs=>obtain⟨dx,vs,h1,h2⟩:=h;exact⟨dx,vs,e.trans h1,h2.mono l⟩
 | fK ds=>obtain⟨dx,vs,h1,h2⟩:=h;exact⟨dx,vs,e.trans h1,h2.mono l⟩
 | fT ds=>obtain⟨dx,vs,h1,h2⟩:=h;exact⟨dx,vs,e.trans h1,h2.mono l⟩
def E2.keep(h1:∀a xs,H a=some (.tup xs)->H' a=some (.tup xs))(h2:∀a o u,H a=some (.frz o u)->H' a=some (.frz o u))(e:H' a=H a)(h:E2 K ρ H a o):E2 K ρ H' a o:=by
 cases o with
 | lst ds=>obtain⟨vs,q1,q2⟩:=h;exact⟨vs,e.trans q1,q2.keep h1 h2⟩
 | dK ds=>obtain⟨vs,q1,q2⟩:=h;exact⟨vs,e.trans q1,FZ.mapP q2 λ_ _ z=>⟨z.1,z.2.keep h1 h2⟩⟩
 | dT ds=>obtain⟨vs,q1,q2⟩:=h;exact⟨vs,e.trans q1,FZ.mapP q2 λ_ _ z=>⟨z.1,z.2.keep h1 h2⟩⟩
 | ins C fs=>obtain⟨dx,vs,q1,q2⟩:=h;exact⟨dx,vs,e.trans q1,FZ.mapP q2 λ_ _ z=>⟨z.1,z.2.keep h1 h2⟩⟩
 | fK ds=>obtain⟨dx,vs,q1,q2⟩:=h;exact⟨dx,vs,e.trans q1,FZ.mapP q2 λ_ _ z=>⟨z.1,z.2.keep h1 h2⟩⟩
 | fT ds=>obtain⟨dx,vs,q1,q2⟩:=h;exact⟨dx,vs,e.trans q1,FZ.mapP q2 λ_ _ z=>⟨z.1,z.2.keep h1 h2⟩⟩
def E2.mono'(l:∀(n:Nat) a,ρ[n]?=some a->ρ'[n]?=some a)(h:E2 K ρ H a o):E2 K ρ' H a o:=by
 cases o with
 | lst ds=>obtain⟨vs,h1,h2⟩:=h;exact⟨vs,h1,h2.more l⟩
 | dK ds=>obtain⟨vs,h1,h2⟩:=h;exact⟨vs,h1,FZ.mapP h2 λ_ _ z=>⟨z.1,z.2.more l⟩⟩
 | dT ds=>obtain⟨vs,h1,h2⟩:=h;exact⟨vs,h1,FZ.mapP h2 λ_ _ z=>⟨z.1,z.2.more l⟩⟩
 | ins C fs=>obtain⟨dx,vs,h1,h2⟩:=h;exact⟨dx,vs,h1,FZ.mapP h2 λ_ _ z=>⟨z.1,z.2.more l⟩⟩
 | fK ds=>obtain⟨dx,vs,h1,h2⟩:=h;exact⟨dx,vs,h1,FZ.mapP h2 λ_ _ z=>⟨z.1,z.2.more l⟩⟩
 | fT ds=>obtain⟨dx,vs,h1,h2⟩:=h;exact⟨dx,vs,h1,FZ.mapP h2 λ_ _ z=>⟨z.1,z.2.more l⟩⟩
def Gt(hp:H p=none∨Mut (H p)):(∀a xs,H a=some (.tup xs)->upd H p ho a=some (.tup xs))/\∀a o u,H a=some (.frz o u)->upd H p ho a=some (.frz o u):=by
 have ne:∀a u,H a=some u->¬Mut (some u)->a≠p:=λa u e nm z=>by
  subst z
  rcases hp with h | h
  ·rw[e]at h;cases h
  ·rw[e]at h;exact nm h
 refine⟨λa xs e=>?_,λa o u e=>?_⟩
 ·rw[Bc (ne a _ e λz=>z)];exact e
 ·rw[Bc (ne a _ e λz=>z)];exact e
def Le.fresh(hp:H p=none):Le K ρ H ρ (upd H p ho):=
 ⟨λ_ _ h=>h,(Gt (.inl hp)).1,(Gt (.inl hp)).2,λa o e n=>⟨by rw[Bc (CP e hp)];exact e,n⟩⟩
def Le.write(hn:ρ[n]?=some p)(hm:Mut (H p)):Le K ρ H ρ (upd H p ho):=
 ⟨λ_ _ h=>h,(Gt (.inr hm)).1,(Gt (.inr hm)).2,λa o e h=>⟨by rw[Bc λz=>h n (by rw[z];exact hn)];exact e,h⟩⟩
def IW{α:Type}{l:List α}{x:α}{m:Nat}{a:α}(e:(l++[x])[m]?=some a):(l[m]?=some a/\m < l.length)∨(m=l.length/\a=x):=by
 by_cases hm:m < l.length
 ·rw[Aa hm]at e;exact .inl ⟨e,hm⟩
 ·rw[BK (by lia)]at e
  have:m - l.length=0:=by
   have:=(AF.mp e).1;simp at this;omega
  rw[this]at e;exact .inr ⟨by lia,by simpa using e.symm⟩
def Le.alloc(hp:H p=none):Le K ρ H (ρ++[p]) (upd H p ho):=by
 refine⟨λn a h=>by rw[Aa (AF.mp h).1];exact h,(Gt (.inl hp)).1,(Gt (.inl hp)).2,λa o e h=>⟨by rw[Bc (CP e hp)];exact e,λn q=>?_⟩⟩
 rcases IW q with⟨q,_⟩ | ⟨_,q⟩
 ·exact h n q
 ·exact CP e hp q
def CA.at(h:CA K ρ S H)(e:S[n]?=some o):∃a,ρ[n]?=some a/\E2 K ρ H a o:=by
 have hn:n < ρ.length:=by rw[h.len];exact(AF.mp e).1
 exact⟨ρ[n],by simp[hn],h.ob n o _ e (by simp[hn])⟩
def CA.there(h:CA K ρ S H){m:Nat}(e:ρ[m]?=some a):∃o,S[m]?=some o/\E2 K ρ H a o:=by
 have hn:m < S.length:=by rw[<-h.len];exact(AF.mp e).1
 exact⟨S[m],by simp[hn],h.ob m _ a (by simp[hn]) e⟩
def CA.notIn(h:CA K ρ S H)(hp:H p=none){m:Nat}(e:ρ[m]?=some p):False:=by
 obtain⟨o,_,r⟩:=h.there e;exact r.has hp
def CA.alloc(h:CA K ρ S H)(hp:H p=none)(hob:E2 K (ρ++[p]) (upd H p ho) p o):CA K (ρ++[p]) (S++[o]) (upd H p ho)/\Le K ρ H (ρ++[p]) (upd H p ho)/\(ρ++[p])[S.length]?=some p:=by
 have le:Le K ρ H (ρ++[p]) (upd H p ho):=Le.alloc hp
 have at':∀(m:Nat) a,(ρ++[p])[m]?=some a->(ρ[m]?=some a/\m < ρ.length)∨(m=ρ.length/\a=p):=λm a e=>IW e
 refine⟨⟨by simp[h.len],λi j a hi hj=>?_,λm ob a hm ha=>?_⟩,le,by rw[<-h.len];simp⟩
 ·rcases at' i a hi with⟨hi1,_⟩ | ⟨hi1,ea⟩ <;> rcases at' j a hj with⟨hj1,_⟩ | ⟨hj1,ea'⟩
  ·exact h.nd i j a hi1 hj1
  ·rw[ea']at hi1;exact(h.notIn hp hi1).elim
  ·rw[ea]at hj1;exact(h.notIn hp hj1).elim
  ·lia
 ·rcases at' m a ha with⟨ha1,hlt⟩ | ⟨rfl,rfl⟩
  ·rw[Aa (by rw[<-h.len];exact hlt)]at hm
   refine(h.ob m ob a hm ha1).mono le (Bc λz=>?_);rw[z]at ha1;exact h.notIn hp ha1
  ·rw[h.len]at hm
   simp at hm;subst hm;exact hob
def CA.write(h:CA K ρ S H)(hn:ρ[n]?=some a)(hob:E2 K ρ (upd H a ho) a o)(le:Le K ρ H ρ (upd H a ho)):CA K ρ (S.set n o) (upd H a ho)/\Le K ρ H ρ (upd H a ho):=by
 refine⟨⟨by simp[h.len],h.nd,λm ob b hm hb=>?_⟩,le⟩
 by_cases e:m=n
 ·subst e
  rw[hn]at hb;cases hb;rw[Ao (by rw[<-h.len];exact(AF.mp hn).1)]at hm;cases hm;exact hob
 ·rw[AW (CB e)]at hm
  refine(h.ob m ob b hm hb).mono le (Bc λz=>?_);subst z;exact e (h.nd m n b hb hn)
def Le.back{S':Sto}(l:Le K ρ H ρ' H')(s:CA K ρ S H)(s':CA K ρ' S' H')(hp:H' p=none):H p=none:=by
 cases q:H p with
 | none=>rfl
 | some o=>
  by_cases hn:∃n:Nat,ρ[n]?=some p
  ·obtain⟨n,hn⟩:=hn
   exact(s'.notIn hp (l.pre n p hn)).elim
  ·have:=(l.oth p o q λn h=>hn ⟨n,h⟩).1
   rw[hp]at this;cases this
def CA.adopt(h:CA K ρ S H)(hn:∀m:Nat,ρ[m]?≠some p)(hob:E2 K (ρ++[p]) H p o):CA K (ρ++[p]) (S++[o]) H/\(ρ++[p])[S.length]?=some p:=by
 have le:∀a ob,E2 K ρ H a ob->E2 K (ρ++[p]) H a ob:=λa ob r=>by
  have l0:∀(n:Nat) a,ρ[n]?=some a->(ρ++[p])[n]?=some a:=λn a h=>by rw[Aa (AF.mp h).1];exact h
  exact r.mono' l0
 refine⟨⟨by simp[h.len],λi j a hi hj=>?_,λm ob a hm ha=>?_⟩,by rw[<-h.len];simp⟩
 ·rcases IW hi with⟨hi1,_⟩ | ⟨hi1,ea⟩ <;> rcases IW hj with⟨hj1,_⟩ | ⟨hj1,ea'⟩
  ·exact h.nd i j a hi1 hj1
  ·rw[ea']at hi1;exact(hn i hi1).elim
  ·rw[ea]at hj1;exact(hn j hj1).elim
  ·lia
 ·rcases IW ha with⟨ha,hlt⟩ | ⟨rfl,rfl⟩
  ·rw[Aa (by rw[<-h.len];exact hlt)]at hm
   exact le a ob (h.ob m ob a hm ha)
  ·rw[h.len]at hm
   simp at hm;subst hm;exact hob
end
inductive Res(α:Type) where
 | ok (a:α) (S:Sto) | err (c:AK) (S:Sto) | bad
def Res.bind{α β:Type}(r:Res α)(f:α->Sto->Res β):Res β:=match r with
 | .ok a S=>f a S
 | .err c S=>.err c S
 | .bad=>.bad
abbrev Lo:=List (Option D)
abbrev ME:=Lo->Sto->Res D
abbrev MT:=Lo->Sto->Res Bool
abbrev ML:=Lo->Sto->Res (List D)
inductive Fl where
 | nx (e:Lo) | rt (d:D) | bk (e:Lo) | ct (e:Lo) | ex (c:AK) (e:Lo)
abbrev MS:=Lo->Sto->Res Fl
abbrev MG:=D->Lo->Sto->Res Lo
abbrev IF:=Sto->Option (List D)
abbrev MI:=Lo->Sto->Res IF
structure Fx(K:AA)(ρ:List AK)(H:Hp)(e:Lo)(σ:St):Prop where
 len:e.length=σ.length
 at':∀(i:Nat) d,e[i]?=some (some d)->∃v,σ[i]?=some (some v)/\Bu K ρ H d v
section
variable{K:AA}{ρ ρ':List AK}{H H':Hp}{S:Sto}{e:Lo}{σ:St}
def Fx.mono(l:Le K ρ H ρ' H')(h:Fx K ρ H e σ):Fx K ρ' H' e σ:=⟨h.len,λi d q=>by
 obtain⟨v,h1,h2⟩:=h.at' i d q
 exact⟨v,h1,h2.mono l⟩⟩
def Fx.set{d:D}{v:V}(h:Fx K ρ H e σ)(r:Bu K ρ H d v)(i:Nat):Fx K ρ H (e.set i (some d)) (σ.set i (some v)):=by
 refine⟨by simp[h.len],λj d' q=>?_⟩
 by_cases hj:i=j
 ·subst hj
  have hi:i < e.length:=by
   have:=(AF.mp q).1;simpa using this
  rw[Ao hi]at q;cases q;exact⟨v,by rw[Ao (by rw[<-h.len];exact hi)],r⟩
 ·rw[AW hj]at q ⊢
  exact h.at' j d' q
end
abbrev EW:=AK->St->Hp->Prop
abbrev EH:=AK->Hp->Prop
abbrev noE:EW:=λ_ _ _=>False
abbrev noH:EH:=λ_ _=>False
def CK{α:Type}(K:AA)(E:EH)(ρ:List AK)(H:Hp)(r:Res α)(k:α->Sto->Prop):Prop:=match r with
 | .ok a S=>k a S
 | .err c S=>∀ρ' H',Le K ρ H ρ' H'->CA K ρ' S H'->E c H'
 | .bad=>False
section
variable{α β:Type}{K:AA}{E:EH}{ρ ρ1:List AK}{H H1:Hp}
def CK.seq{r:Res α}{F:α->Sto->Res β}{k:β->Sto->Prop}{k':α->Sto->Prop}(h:CK K E ρ H (r.bind F) k)(f:∀a S,CK K E ρ H (F a S) k->k' a S):CK K E ρ H r k':=by
 cases r with
 | ok a S=>exact f a S h
 | err c S=>exact h
 | bad=>exact h
def CK.later{r:Res α}{k:α->Sto->Prop}(h:CK K E ρ H r k)(l:Le K ρ H ρ1 H1):CK K E ρ1 H1 r k:=by
 cases r with
 | ok a S=>exact h
 | err c S=>exact λρ' H' l'=>h ρ' H' (l.trans l')
 | bad=>exact h
def CK.imp{r:Res α}{k k':α->Sto->Prop}(h:CK K E ρ H r k)(f:∀a S,k a S->k' a S):CK K E ρ H r k':=by
 cases r with
 | ok a S=>exact f a S h
 | err c S=>exact h
 | bad=>exact h
def CK.go{r:Res α}{k k':α->Sto->Prop}(h:CK K E ρ H r k)(l:Le K ρ H ρ1 H1)(f:∀a S,k a S->k' a S):CK K E ρ1 H1 r k':=(h.later l).imp f
end
def okR{α:Type}:Res α->Res α
 | .ok a S=>.ok a S
 | _=>.bad
def CK.okR{α:Type}{K:AA}{E:EH}{ρ:List AK}{H:Hp}{r:Res α}{k:α->Sto->Prop}(h:CK K E ρ H (L2.okR r) k):∃a S,r=.ok a S/\k a S:=by
 cases r with
 | ok a S=>exact⟨a,S,rfl,h⟩
 | err c S=>exact h.elim
 | bad=>exact h.elim
section
variable(K:AA)(E:EW)
def gE(m:ME):TE:=λσ H Q=>∃ρ e S,Fx K ρ H e σ/\CA K ρ S H/\CK K (λc=>E c σ) ρ H (m e S) λd S'=>∀ρ' H' x,Le K ρ H ρ' H'->CA K ρ' S' H'->Bu K ρ' H' d x->Q x H'
def gT(m:MT):TT:=λσ H Q=>∃ρ e S,Fx K ρ H e σ/\CA K ρ S H/\CK K (λc=>E c σ) ρ H (m e S) λb S'=>∀ρ' H',Le K ρ H ρ' H'->CA K ρ' S' H'->Q b H'
def gA(m:ML):TA:=λσ H Q=>∃ρ e S,Fx K ρ H e σ/\CA K ρ S H/\CK K (λc=>E c σ) ρ H (m e S) λds S'=>∀ρ' H' xs,Le K ρ H ρ' H'->CA K ρ' S' H'->A0 K ρ' H' ds xs->Q xs H'
def gL(m:ML):TE:=λσ H Q=>∃ρ e S,Fx K ρ H e σ/\CA K ρ S H/\CK K (λc=>E c σ) ρ H (m e S) λds S'=>∀ρ' H' p xs,Le K ρ H ρ' H'->CA K ρ' S' H'->A0 K ρ' H' ds xs->H' p=some (.lst xs)->(∀n:Nat,ρ'[n]?≠some p)->H p=none->Q (.ref p) H'
def gQ(m:ML):TE:=λσ H Q=>∃ρ e S,Fx K ρ H e σ/\CA K ρ S H/\CK K (λc=>E c σ) ρ H (m e S) λds S'=>∀ρ' H' p xs,Le K ρ H ρ' H'->CA K ρ' S' H'->A0 K ρ' H' ds xs->(SqL K H' p xs∨SqT K H' p xs)->Q (.ref p) H'
def OQ(K:AA)(E:EW)(ρ:List AK)(H:Hp)(S':Sto)(D:V6):Fl->Prop
 | .ex c e'=>∀ρ' H' σ',Le K ρ H ρ' H'->CA K ρ' S' H'->Fx K ρ' H' e' σ'->E c σ' H'
 | .nx e'=>∀ρ' H' σ',Le K ρ H ρ' H'->CA K ρ' S' H'->Fx K ρ' H' e' σ'->D.nx σ' H'
 | .bk e'=>∀ρ' H' σ',Le K ρ H ρ' H'->CA K ρ' S' H'->Fx K ρ' H' e' σ'->D.bk σ' H'
 | .ct e'=>∀ρ' H' σ',Le K ρ H ρ' H'->CA K ρ' S' H'->Fx K ρ' H' e' σ'->D.ct σ' H'
 | .rt d=>∀ρ' H' x,Le K ρ H ρ' H'->CA K ρ' S' H'->Bu K ρ' H' d x->D.rt x H'
def gS(m:MS):TS:=λD σ H=>∃ρ e S,Fx K ρ H e σ/\CA K ρ S H/\CK K noH ρ H (m e S) λfl S'=>OQ K E ρ H S' D fl
def gG(m:MG):TG:=λv σ H Q=>∃ρ e S d,Bu K ρ H d v/\Fx K ρ H e σ/\CA K ρ S H/\CK K noH ρ H (m d e S) λe' S'=>∀ρ' H' σ',Le K ρ H ρ' H'->CA K ρ' S' H'->Fx K ρ' H' e' σ'->Q σ' H'
def L6(ρ0:List AK)(H0:Hp)(J:It)(v:IF):Prop:=∀ρ H S ds (i:Nat),Le K ρ0 H0 ρ H->CA K ρ S H->v S=some ds ->
 (ds[i]?=none->J.stop i H)/\∀d,ds[i]?=some d->J.go i H/\∀x H',J.yld i H x H'->∃ρ',Le K ρ H ρ' H'/\CA K ρ' S H'/\Bu K ρ' H' d x
def gI(m:MI):TI:=λσ H R=>∃ρ e S,Fx K ρ H e σ/\CA K ρ S H/\CK K (λc=>E c σ) ρ H (m e S) λv S'=>∀ρ' H' J,Le K ρ H ρ' H'->CA K ρ' S' H'->L6 K ρ' H' J v->R J H'
end
abbrev GE(X:Cx)(E:EW)(e:Expr)(m:ME):Prop:=PE X e (gE X.K E m)
abbrev GT(X:Cx)(E:EW)(e:Expr)(m:MT):Prop:=PT X e (gT X.K E m)
abbrev GA(X:Cx)(E:EW)(es:List Expr)(m:ML):Prop:=PA X es (gA X.K E m)
abbrev GL(X:Cx)(E:EW)(e:Expr)(m:ML):Prop:=PE X e (gL X.K E m)
abbrev GQ(X:Cx)(E:EW)(e:Expr)(m:ML):Prop:=PE X e (gQ X.K E m)
abbrev GS(X:Cx)(E:EW)(s:Ce)(m:MS):Prop:=PS X s (gS X.K E m)
abbrev GSs(X:Cx)(E:EW)(s:List Ce)(m:MS):Prop:=PSs X s (gS X.K E m)
abbrev GG(X:Cx)(t:Expr)(m:MG):Prop:=PG X t (gG X.K m)
abbrev GI(X:Cx)(E:EW)(tg t:Expr)(m:MI):Prop:=PI X tg t (gI X.K E m)
def PE.imp{X:Cx}{e:Expr}{t t':TE}(h:PE X e t)(i:∀σ H Q,t' σ H Q->t σ H Q):PE X e t':=λζ s σ H Q I q=>h ζ s σ H Q I (i σ H Q q)
def PT.imp{X:Cx}{e:Expr}{t t':TT}(h:PT X e t)(i:∀σ H Q,t' σ H Q->t σ H Q):PT X e t':=λζ s σ H Q I q=>h ζ s σ H Q I (i σ H Q q)
def PW.imp{X:Cx}{e:Expr}{t t':TT}(h:PW X e t)(i:∀σ H Q,t' σ H Q->t σ H Q):PW X e t':=λwh ζ s σ H Q I q=>h wh ζ s σ H Q I (i σ H Q q)
def PA.imp{X:Cx}{e:List Expr}{t t':TA}(h:PA X e t)(i:∀σ H Q,t' σ H Q->t σ H Q):PA X e t':=λpos ζ s σ H Q I q=>h pos ζ s σ H Q I (i σ H Q q)
def PS.imp{X:Cx}{e:Ce}{t t':TS}(h:PS X e t)(i:∀D σ H,t' D σ H->t D σ H):PS X e t':=λζ s σ H D I q=>h ζ s σ H D I (i D σ H q)
def PSs.imp{X:Cx}{e:List Ce}{t t':TS}(h:PSs X e t)(i:∀D σ H,t' D σ H->t D σ H):PSs X e t':=λζ s σ H D I q=>h ζ s σ H D I (i D σ H q)
def PG.imp{X:Cx}{e:Expr}{t t':TG}(h:PG X e t)(i:∀v σ H Q,t' v σ H Q->t v σ H Q):PG X e t':=λζ s σ H v u Q I r q=>h ζ s σ H v u Q I r (i v σ H Q q)
def PI.imp{X:Cx}{tg e:Expr}{t t':TI}(h:PI X tg e t)(i:∀σ H R,t' σ H R->t σ H R):PI X tg e t':=λζ s σ H R I q=>h ζ s σ H R I (i σ H R q)
def OpR.imp{X:Cx}{f:AE->AE->Sem AE}{r r':R2}(h:OpR X f r)(i:∀x y H Q,r' x y H Q->r x y H Q):OpR X f r':=λζ s σ H x y v u Q I rx ry q=>h ζ s σ H x y v u Q I rx ry (i x y H Q q)
def IxR.imp{X:Cx}{r r':R2}(h:IxR X r)(i:∀x y H Q,r' x y H Q->r x y H Q):IxR X r':=λva sl ζ s σ H x y v u Q I rx ry q=>h va sl ζ s σ H x y v u Q I rx ry (i x y H Q q)
def AB(i:Nat):ME:=λe S=>match e[i]? with
 | some (some d)=>.ok d S
 | _=>.bad
def mC(d:D):ME:=λ_ S=>.ok d S
section
variable{X:Cx}{E:EW}{e a b:Expr}{pos:Pos}{ma mb:ME}
def AD{i:Nat}(h:PE X e (ie i)):GE X E e (AB i):=h.imp λσ H Q ⟨ρ,l,S,hl,hs,hm⟩=>by
 unfold AB at hm;split at hm
 ·rename_i d' hd
  obtain⟨v,h1,h2⟩:=hl.at' i _ hd;exact⟨v,h1,hm ρ H v .refl hs h2⟩
 ·exact hm.elim
def fC{v:V}{d:D}(h:PE X e (tC v))(hd:∀ρ H,Bu X.K ρ H d v):GE X E e (mC d):=h.imp λσ H Q ⟨ρ,l,S,hl,hs,hm⟩=>by
 exact hm ρ H v .refl hs (hd _ _)
def ge_int{i j pos}:GE X E (.Constant (.int i) j pos) (mC (.int i)):=fC jJ λ_ _=>.int i
def IZ{b j pos}:GE X E (.Constant (.bool b) j pos) (mC (.bl b)):=fC lh λ_ _=>.bl b
def Se{j pos}:GE X E (.Constant .none j pos) (mC .non):=fC jH λ_ _=>.non
def ax{x:Str}{i:Int}{tk:Tok}{pos:Pos}(hg:Gl X x)(hm:X.mg x=some (.int i tk))(hd:(x==("__debug__" : Str))=false:=by decide):GE X E (.Name x pos) (mC (.int i)):=
 fC (dn (v:=.int i) hg hm ⟨tk,rfl⟩ hd) λ_ _=>.int i
def m2(f:D->D->Sto->Res D)(ma mb:ME):ME:=λe S=>(ma e S).bind λx S1=>(mb e S1).bind λy S2=>okR (f x y S2)
def rD(K:AA)(f:D->D->Sto->Res D):R2:=λu v H Q=>∃ρ S x y d S',CA K ρ S H/\Bu K ρ H x u/\Bu K ρ H y v/\f x y S=.ok d S' /\
 ∀ρ' H' z,Le K ρ H ρ' H'->CA K ρ' S' H'->Bu K ρ' H' d z->Q z H'
def Lj{K:AA}{f:D->D->Sto->Res D}{σ:St}{H:Hp}{Q:VK}(h:gE K E (m2 f ma mb) σ H Q):tOp (rD K f) (gE K E ma) (gE K E mb) σ H Q:=by
 obtain⟨ρ,l,S,hl,hs,hm⟩:=h;refine⟨ρ,l,S,hl,hs,hm.seq λx S1 hm ρ1 H1 u l1 s1 r1=>⟨ρ1,l,S1,hl.mono l1,s1,(hm.later l1).seq λy S2 hm ρ2 H2 v l2 s2 r2=>?_⟩⟩;obtain⟨d,S',e,k⟩:=hm.okR;exact⟨ρ2,S2,x,y,d,S',s2,r1.mono l2,r2,e,λρ' H' z l' s' r'=>k ρ' H' z (l1.trans (l2.trans l')) s' r'⟩
def B2{op:Operator}{f:D->D->Sto->Res D}(ho:OpR X (Cj op) (rD X.K f))(ha:GE X E a ma)(hb:GE X E b mb):GE X E (.BinOp a op b pos) (m2 f ma mb):=(lf ho ha hb).imp λ_ _ _ h=>Lj h
def Ks{op:OW}{f:D->D->Sto->Res D}(ho:OpR X (Bi op) (rD X.K f))(ha:GE X E a ma)(hb:GE X E b mb)(hm:B9 op b=false):GE X E (.Compare a [op] [b] pos) (m2 f ma mb):=(dw ho ha hb hm).imp λ_ _ _ h=>Lj h
def mV{f:D->D->Sto->Res D}(ho:IxR X (rD X.K f))(ha:GE X E a ma)(hb:GE X E b mb)(hs:Sy b:=by intro _ _;rfl):GE X E (.Subscript a b pos) (m2 f ma mb):=(lg ho ha hb hs).imp λ_ _ _ h=>Lj h
def mB(m:ME):MT:=λe S=>(m e S).bind λd S1=>match d with
 | .bl b=>.ok b S1
 | _=>.bad
def Ps(d:D)(S:Sto):Option Bool:=match d with
 | .non=>some false
 | .bl b=>some b
 | .int i=>some (i != 0)
 | .tup ds=>some (!ds.isEmpty)
 | .fro ds=>some (!ds.isEmpty)
 | .ref n=>match S[n]? with
  | some (.lst ds)=>some (!ds.isEmpty)
  | some (.dK kvs)=>some (!kvs.isEmpty)
  | _=>none
 | _=>none
def Io(m:ME):MT:=λe S=>(m e S).bind λd S1=>match Ps d S1 with
 | some b=>.ok b S1
 | none=>.bad
def A0.empty{K:AA}{ρ:List AK}{H:Hp}{ds:List D}{vs:List V}(h:A0 K ρ H ds vs):ds.isEmpty=vs.isEmpty:=by cases h <;> rfl
def KVR.empty{κ:Type}{K:AA}{ρ:List AK}{H:Hp}{x:List (κ×D)}{y:List (κ×V)}(h:KVR K ρ H x y):x.isEmpty=y.isEmpty:=by cases h <;> rfl
def cp{K:AA}{ρ:List AK}{H:Hp}{S:Sto}{d:D}{x:V}{b:Bool}(hs:CA K ρ S H)(r:Bu K ρ H d x)(h:Ps d S=some b):kK K x H b:=by
 cases r with
 | non=>cases h;rfl
 | bl c=>cases h;rfl
 | int i=>cases h;rfl
 | str x=>cases h
 | tup h1 h2=>cases h;rw[h2.empty];exact .inr (.inl ⟨_,.inl (.inl h1),rfl⟩)
 | fro h1 h2=>cases h;rw[h2.empty];exact .inl ⟨_,h1.sq,rfl⟩
 | exc _ _=>cases h
 | @ref n a hn=>
  obtain⟨o,ho,ro⟩:=hs.there hn;unfold Ps at h;simp only[ho]at h
  cases o with
  | lst ds=>cases h;obtain⟨vs,e,rr⟩:=ro;rw[rr.empty];exact .inl ⟨_,.inl (.inl e),rfl⟩
  | dK kvs=>cases h;obtain⟨vs,e,rr⟩:=ro;rw[KVR.empty rr];exact .inr (.inr ⟨_,e,rfl⟩)
  | dT kvs=>cases h
  | ins C fs=>cases h
  | fK _=>cases h
  | fT _=>cases h
def Nk(h:GE X E e ma)(he:∀whole,Uq e X.env whole=(do let v <-whole;kS e.pos;kW [v] (gu v)):=by intro _;rfl):GT X E e (mB ma):=(i0 h he).imp λσ H Q ⟨ρ,l,S,hl,hs,hm⟩=>by
 refine⟨ρ,l,S,hl,hs,hm.seq λd S1 hm ρ1 H1 x l1 s1 r1=>?_⟩
 cases d <;> first | exact hm.elim | skip
 cases r1;exact⟨_,rfl,hm ρ1 H1 l1 s1⟩
def Ji(h:GE X E e ma)(he:∀whole,Uq e X.env whole=(do let v <-whole;kS e.pos;kW [v] (gu v)):=by intro _;rfl):GT X E e (Io ma):=(Zh h he).imp λσ H Q ⟨ρ,l,S,hl,hs,hm⟩=>by
 refine⟨ρ,l,S,hl,hs,hm.seq λd S1 hm ρ1 H1 x l1 s1 r1=>?_⟩
 cases hb:Ps d S1 with
 | none=>rw[hb]at hm;exact hm.elim
 | some c=>
  rw[hb]at hm;exact⟨c,cp s1 r1 hb,hm ρ1 H1 l1 s1⟩
def DK{op:OW}{f:D->D->Sto->Res D}(ho:OpR X (Bi op) (rD X.K f))(ha:GE X E a ma)(hb:GE X E b mb)(hm:B9 op b=false):GT X E (.Compare a [op] [b] pos) (mB (m2 f ma mb)):=(dS ho ha hb hm).imp λσ H Q ⟨ρ,l,S,hl,hs,hm⟩=>by
 refine Lj (Q:=λx H'=>∃k,x=.bl k/\Q k H') ⟨ρ,l,S,hl,hs,hm.seq λd S1 hm ρ1 H1 x l1 s1 r1=>?_⟩
 cases d <;> first | exact hm.elim | skip
 cases r1;exact⟨_,rfl,hm ρ1 H1 l1 s1⟩
def J5(m:MT):MT:=λe S=>(m e S).bind λb S1=>.ok (!b) S1
def Pv(ma mb:MT):MT:=λe S=>(ma e S).bind λb S1=>if b=true then mb e S1 else .ok false S1
def mOr(ma mb:MT):MT:=λe S=>(ma e S).bind λb S1=>if b=true then .ok true S1 else mb e S1
variable{ta tb:MT}{rest:List Expr}
def J8(h:GT X E a ta):GT X E (.UnaryOp .Not a pos) (J5 ta):=(i4 h).imp λσ H Q ⟨ρ,l,S,hl,hs,hm⟩=>by
 exact⟨ρ,l,S,hl,hs,hm.seq λd S1 hm ρ1 H1 l1 s1=>hm ρ1 H1 l1 s1⟩
def dA{K:AA}{σ:St}{H:Hp}{Q:Bool->Hp->Prop}(h:gT K E (Pv ta tb) σ H Q):lR (gT K E ta) (gT K E tb) σ H Q:=by
 obtain⟨ρ,l,S,hl,hs,hm⟩:=h;refine⟨ρ,l,S,hl,hs,hm.seq λc S1 hm ρ1 H1 l1 s1=>?_⟩
 cases c with
 | true=>rw[qX rfl]at hm ⊢;exact⟨ρ1,l,S1,hl.mono l1,s1,hm.go l1 λ_ _ k ρ2 H2 l2 s2=>k ρ2 H2 (l1.trans l2) s2⟩
 | false=>rw[qY AZ]at hm ⊢;exact hm ρ1 H1 l1 s1
def ig{K:AA}{σ:St}{H:Hp}{Q:Bool->Hp->Prop}(h:gT K E (mOr ta tb) σ H Q):tOr (gT K E ta) (gT K E tb) σ H Q:=by
 obtain⟨ρ,l,S,hl,hs,hm⟩:=h;refine⟨ρ,l,S,hl,hs,hm.seq λc S1 hm ρ1 H1 l1 s1=>?_⟩
 cases c with
 | false=>rw[qY AZ]at hm ⊢;exact⟨ρ1,l,S1,hl.mono l1,s1,hm.go l1 λ_ _ k ρ2 H2 l2 s2=>k ρ2 H2 (l1.trans l2) s2⟩
 | true=>rw[qX rfl]at hm ⊢;exact hm ρ1 H1 l1 s1
abbrev GW(X:Cx)(E:EW)(e:Expr)(m:MT):Prop:=PW X e (gT X.K E m)
def Sa(ha:GT X E a ta):GW X E (.BoolOp .And [a] pos) ta:=dQ ha
def Ly(ha:GT X E a ta):GW X E (.BoolOp .Or [a] pos) ta:=iy ha
def Vk(ha:GT X E a ta)(hb:GW X E (.BoolOp .And (b :: rest) pos) tb):GW X E (.BoolOp .And (a :: b :: rest) pos) (Pv ta tb):=(iz ha hb).imp λ_ _ _ h=>dA h
def N7(ha:GT X E a ta)(hb:GW X E (.BoolOp .Or (b :: rest) pos) tb):GW X E (.BoolOp .Or (a :: b :: rest) pos) (mOr ta tb):=(lZ ha hb).imp λ_ _ _ h=>ig h
def Qv{t:MT}(h:GW X E e t):GT X E e t:=PW.pt h
def JB(ma mb:ME):ME:=λe S=>(ma e S).bind λd S1=>match d with
 | .bl true=>mb e S1
 | .bl false=>.ok (.bl false) S1
 | _=>.bad
def Wf(ma:ME):ME:=λe S=>(ma e S).bind λd S1=>match d with
 | .bl c=>.ok (.bl (!c)) S1
 | _=>.bad
def P7{op}(h:GE X E a ma):GE X E (.BoolOp op [a] pos) ma:=jF h
def Nl(ha:GE X E a ma)(hb:GE X E (.BoolOp .And (b :: rest) pos) mb):GE X E (.BoolOp .And (a :: b :: rest) pos) (JB ma mb):=(jL ha hb).imp λσ H Q ⟨ρ,l,S,hl,hs,hm⟩=>by
 refine⟨ρ,l,S,hl,hs,hm.seq λc S1 hm ρ1 H1 x l1 s1 r1=>?_⟩
 cases c with
 | bl c=>
  cases r1;refine⟨c,rfl,?_⟩
  cases c with
  | true=>rw[qX rfl];exact⟨ρ1,l,S1,hl.mono l1,s1,hm.go l1 λ_ _ k ρ2 H2 z l2 s2 r2=>k ρ2 H2 z (l1.trans l2) s2 r2⟩
  | false=>rw[qY AZ];exact hm ρ1 H1 _ l1 s1 (.bl false)
 | _=>exact hm.elim
def j4(ha:GE X E a ma):GE X E (.UnaryOp .Not a pos) (Wf ma):=(jG ha).imp λσ H Q ⟨ρ,l,S,hl,hs,hm⟩=>by
 refine⟨ρ,l,S,hl,hs,hm.seq λc S1 hm ρ1 H1 x l1 s1 r1=>?_⟩
 cases c with
 | bl c=>cases r1;exact⟨c,rfl,hm ρ1 H1 _ l1 s1 (.bl _)⟩
 | _=>exact hm.elim
def m3(f g:D->D->Sto->Res D)(ma mb mc:ME):ME:=λe S=>(ma e S).bind λx S1=>(mb e S1).bind λy S2=>(okR (f x y S2)).bind λz S3=>match z with
 | .bl true=>(mc e S3).bind λw S4=>okR (g y w S4)
 | .bl false=>.ok (.bl false) S3
 | _=>.bad
def Au:ML:=λ_ S=>.ok [] S
def AI(m:ME)(r:ML):ML:=λe S=>(m e S).bind λd S1=>(r e S1).bind λds S2=>.ok (d :: ds) S2
variable{es:List Expr}{ml:ML}
def A7:GA X E [] Au:=Hq.imp λσ H Q ⟨ρ,l,S,hl,hs,hm⟩=>by
 exact hm ρ H [] .refl hs .nil
def AR(ha:GE X E e ma)(hr:GA X E es ml)(hs:AS (e :: es) X.env=(false,Bw e X.env) :: AS es X.env:=by rfl):GA X E (e :: es) (AI ma ml):=(FS ha hr hs).imp λσ H Q ⟨ρ,l,S,hl,hs,hm⟩=>by
 exact⟨ρ,l,S,hl,hs,hm.seq λd S1 hm ρ1 H1 x l1 s1 r1=>⟨ρ1,l,S1,hl.mono l1,s1,(hm.later l1).seq λds' S2 hm ρ2 H2 xs l2 s2 r2=>hm ρ2 H2 (x :: xs) (l1.trans l2) s2 (.cons (r1.mono l2) r2)⟩⟩
def Fn(m:ML):ME:=λe S=>(m e S).bind λds S1=>if ds.length<=sizeLine then .ok (.tup ds) S1 else .bad
def IC{K:AA}{ρ:List AK}{H:Hp}{S:Sto}{p:AK}{ho:HO}(hs:CA K ρ S H)(hp:H p=none):CA K ρ S (upd H p ho)/\Le K ρ H ρ (upd H p ho):=by
 have le:Le K ρ H ρ (upd H p ho):=Le.fresh hp;refine⟨⟨hs.len,hs.nd,λn o a h1 h2=>(hs.ob n o a h1 h2).mono le (Bc λz=>?_)⟩,le⟩;subst z;exact hs.notIn hp h2
def IX{x1}(h:GA X E es ml):GE X E (.Tuple es x1 pos) (Fn ml):=(jE h).imp λσ H Q ⟨ρ,l,S,hl,hs,hm⟩=>by
 refine⟨ρ,l,S,hl,hs,hm.seq λds S1 hm ρ1 H1 xs l1 s1 r1=>?_⟩;split at hm
 ·rename_i hz
  refine⟨by rw[<-r1.length];exact hz,λp hp=>?_⟩;obtain⟨s2,l2⟩:=IC (ho:=.tup xs) s1 hp;exact hm ρ1 _ _ (l1.trans l2) s2 (.tup Bm (r1.mono l2))
 ·exact hm.elim
def Cn(m:ML):ML:=λe S=>(m e S).bind λds S1=>if ds.length<=sizeLine then .ok ds S1 else .bad
def HN(h:GA X E es ml):GL X E (.List es pos) (Cn ml):=(jI h).imp λσ H Q ⟨ρ,l,S,hl,hs,hm⟩=>by
 refine⟨ρ,l,S,hl,hs,hm.seq λds S1 hm ρ1 H1 xs l1 s1 r1=>?_⟩;split at hm
 ·rename_i hz
  refine⟨by rw[<-r1.length];exact hz,λp hp=>?_⟩;obtain⟨s2,l2⟩:=IC (ho:=.lst xs) s1 hp;exact hm ρ1 _ p xs (l1.trans l2) s2 (r1.mono l2) Bm (λn q=>s1.notIn hp q) (l1.back hs s1 hp)
 ·exact hm.elim
def Cq(m:ML):ME:=λe S=>(m e S).bind λds S1=>.ok (.ref S1.length) (S1++[.lst ds])
def DL(h:GL X E e ml):GE X E e (Cq ml):=PE.imp h λσ H Q ⟨ρ,l,S,hl,hs,hm⟩=>by
 refine⟨ρ,l,S,hl,hs,hm.seq λds S1 hm ρ1 H1 p xs l1 s1 r1 hp hn hp0=>?_⟩
 have l0:∀(n:Nat) a,ρ1[n]?=some a->(ρ1++[p])[n]?=some a:=λn a h=>by rw[Aa (AF.mp h).1];exact h
 obtain⟨s2,at2⟩:=s1.adopt (o:=.lst ds) hn ⟨xs,hp,r1.more l0⟩;refine hm _ _ _ ⟨λn a h=>l0 n a (l1.pre n a h),l1.tup,l1.frz,λa o e h=>⟨(l1.oth a o e h).1,λn q=>?_⟩⟩ s2 (.ref at2)
 rcases IW q with⟨q,_⟩ | ⟨_,q⟩
 ·exact(l1.oth a o e h).2 n q
 ·exact CP e hp0 q
def Fa(d:D)(S:Sto):Option (List D):=match d with
 | .tup ds=>some ds
 | .fro ds=>some ds
 | .ref n=>match S[n]? with
  | some (.lst ds)=>some ds
  | _=>none
 | _=>none
def Ip(m:ME):ML:=λe S=>(m e S).bind λd S1=>match Fa d S1 with
 | some ds=>.ok ds S1
 | none=>.bad
def Mb{K:AA}{ρ:List AK}{H:Hp}{S:Sto}{d:D}{x:V}{ds:List D}(hs:CA K ρ S H)(r:Bu K ρ H d x)(h:Fa d S=some ds):∃p xs,x=.ref p/\A0 K ρ H ds xs/\(SqL K H p xs∨SqT K H p xs):=by
 cases r with
 | tup h1 h2=>cases h;exact⟨_,_,rfl,h2,.inr (.inl (.inl h1))⟩
 | fro h1 h2=>cases h;exact⟨_,_,rfl,h2,.inl h1.sq⟩
 | @ref n a hn=>
  obtain⟨o,ho,ro⟩:=hs.there hn;unfold Fa at h;simp only[ho]at h
  cases o with
  | lst es=>cases h;obtain⟨vs,e,rr⟩:=ro;exact⟨_,_,rfl,rr,.inl (.inl (.inl e))⟩
  | _=>cases h
 | _=>cases h
def Wl(h:GE X E e ma):GQ X E e (Ip ma):=PE.imp h λσ H Q ⟨ρ,l,S,hl,hs,hm⟩=>by
 refine⟨ρ,l,S,hl,hs,hm.seq λx S1 hm ρ1 H1 v l1 s1 r1=>?_⟩
 cases hq:Fa x S1 with
 | none=>rw[hq]at hm;exact hm.elim
 | some ds=>
  rw[hq]at hm;obtain⟨p,xs,rfl,r2,sq⟩:=Mb s1 r1 hq;exact hm ρ1 H1 p xs l1 s1 r2 sq
end
def Res.lift{α:Type}(r:Res α)(e:Lo)(f:α->Sto->Res Fl):Res Fl:=match r with
 | .ok a S=>f a S
 | .err c S=>.ok (.ex c e) S
 | .bad=>.bad
def CK.lift{α:Type}{K:AA}{E:EW}{ρ ρ1:List AK}{H H1:Hp}{σ:St}{e:Lo}{D:V6}{r:Res α}{F:α->Sto->Res Fl}{k':α->Sto->Prop}(h:CK K noH ρ1 H1 (r.lift e F) λfl S'=>OQ K E ρ H S' D fl)(hl:Fx K ρ1 H1 e σ)(l:Le K ρ H ρ1 H1)
  (f:∀a S,(CK K noH ρ1 H1 (F a S) λfl S'=>OQ K E ρ H S' D fl)->k' a S):CK K (λc=>E c σ) ρ1 H1 r k':=by
 cases r with
 | ok a S=>exact f a S h
 | err c S=>exact λρ' H' l' s'=>h ρ' H' σ (l.trans l') s' (hl.mono l')
 | bad=>exact h
def sNx:MS:=λe S=>.ok (.nx e) S
def Qm:MS:=λ_ _=>.bad
def BF(a b:MS):MS:=λe S=>(a e S).bind λf S1=>match f with
 | .nx e1=>b e1 S1
 | f=>.ok f S1
def CH(m:ME):MS:=λe S=>(m e S).lift e λ_ S1=>.ok (.nx e) S1
def DH(m:ME):MS:=λe S=>(m e S).lift e λd S1=>.ok (.rt d) S1
def sIf(t:MT)(a b:MS):MS:=λe S=>(t e S).lift e λc S1=>if c=true then a e S1 else b e S1
def Ts(m:ME)(g:MG):MS:=λe S=>(m e S).lift e λd S1=>(g d e S1).bind λe1 S2=>.ok (.nx e1) S2
def tgN(i:Nat):MG:=λd e S=>.ok (e.set i (some d)) S
def Bj(i:Nat)(m:ME):MS:=Ts m (tgN i)
section
variable{X:Cx}{E:EW}{st:Ce}{rest:List Ce}{e:Expr}{pos:Pos}{a b:MS}{m:ME}{t:MT}
def OQ.later{K:AA}{ρ ρ1:List AK}{H H1:Hp}{S:Sto}{D:V6}{f:Fl}(l:Le K ρ H ρ1 H1)(h:OQ K E ρ H S D f):OQ K E ρ1 H1 S D f:=by
 cases f with
 | nx e=>exact λρ' H' σ' l'=>h ρ' H' σ' (l.trans l')
 | bk e=>exact λρ' H' σ' l'=>h ρ' H' σ' (l.trans l')
 | ct e=>exact λρ' H' σ' l'=>h ρ' H' σ' (l.trans l')
 | ex c e=>exact λρ' H' σ' l'=>h ρ' H' σ' (l.trans l')
 | rt d=>exact λρ' H' x l'=>h ρ' H' x (l.trans l')
def CM:GSs X E [] sNx:=dW.imp λD σ H ⟨ρ,l,S,hl,hs,hm⟩=>by
 exact hm ρ H σ .refl hs hl
def AT(h1:GS X E st a)(h2:GSs X E rest b):GSs X E (st :: rest) (BF a b):=(Zk h1 h2).imp λD σ H ⟨ρ,l,S,hl,hs,hm⟩=>by
 refine⟨ρ,l,S,hl,hs,hm.seq λg S1 hm=>?_⟩
 cases g with
 | nx e'=>exact λρ1 H1 σ1 l1 s1 r1=>⟨ρ1,e',S1,r1,s1,hm.go l1 λ_ _ k=>k.later l1⟩
 | rt d=>exact hm
 | bk d=>exact hm
 | ct d=>exact hm
 | ex c d=>exact hm
def Am(h1:GS X E st a):GSs X E [st] a:=dU h1
def Jj:GS X E st Qm:=(Zm (X:=X) (st:=st)).imp λD σ H ⟨ρ,l,S,hl,hs,hm⟩=>hm.elim
def Cw(he:GE X E e m)(hs:Gb e none pos.line X.env=pure false:=by rfl):GS X E (.Expr e pos) (CH m):=(dX he hs).imp λD σ H ⟨ρ,l,S,hl,hs,hm⟩=>by
 exact⟨ρ,l,S,hl,hs,hm.lift hl .refl λd S1 hm ρ1 H1 x l1 s1 r1=>hm ρ1 H1 σ l1 s1 (hl.mono l1)⟩
def B4(he:GE X E e m):GS X E (.Return (some e) pos) (DH m):=(i6 he).imp λD σ H ⟨ρ,l,S,hl,hs,hm⟩=>by
 exact⟨ρ,l,S,hl,hs,hm.lift hl .refl λd S1 hm ρ1 H1 x l1 s1 r1=>hm ρ1 H1 x l1 s1 r1⟩
def Dk{c:Expr}{sa sb:List Ce}(hc:GT X E c t)(ha:GSs X E sa a)(hb:GSs X E sb b):GS X E (.If c sa sb pos) (sIf t a b):=(lb hc ha hb).imp λD σ H ⟨ρ,l,S,hl,hs,hm⟩=>by
 refine⟨ρ,l,S,hl,hs,hm.lift hl .refl λc S1 hm ρ1 H1 l1 s1=>?_⟩
 cases c with
 | true=>rw[qX rfl]at hm ⊢;exact⟨ρ1,l,S1,hl.mono l1,s1,hm.go l1 λ_ _ k=>k.later l1⟩
 | false=>rw[qY AZ]at hm ⊢;exact⟨ρ1,l,S1,hl.mono l1,s1,hm.go l1 λ_ _ k=>k.later l1⟩
def et{i:Nat}{tg:Expr}(h:PG X tg (Wt i)):GG X tg (tgN i):=h.imp λv σ H Q ⟨ρ,l,S,d,hd,hl,hs,hm⟩=>by
 exact hm ρ H _ .refl hs (hl.set hd i)
def aq{tg:Expr}{g:MG}(he:GE X E e m)(hg:GG X tg g)(hs:swapsWithSole [tg] e pos.line X.env=pure false:=by rfl)(hw:swappedStores [tg] e X.env=pure none:=by rfl)
  (h1:(FA [tg] X.env).map (·.2)=[Ot tg X.env]:=by rfl):GS X E (.Assign [tg] e pos) (Ts m g):=(i9 he hg hs hw h1).imp λD σ H ⟨ρ,l,S,hl,hs,hm⟩=>by
 exact⟨ρ,l,S,hl,hs,hm.lift hl .refl λd S1 hm ρ1 H1 x l1 s1 r1=>⟨ρ1,l,S1,d,r1,hl.mono l1,s1,(hm.later l1).seq λe1 S2 hm ρ2 H2 σ2 l2 s2 r2=>hm ρ2 H2 σ2 (l1.trans l2) s2 r2⟩⟩
def jw{i:Nat}{x:Str}{pos':Pos}(hN:X.N.Nodup)(hi:X.N[i]?=some x)(hx:Loc X.env.scope x)(he:GE X E e m)(hs:Gb e (some (.Name x pos')) pos.line X.env=pure false:=by rfl)
  (hf:X.fn x=true∨X.env.scope.names.lookup x=some .local:=by first | exact .inl rfl | exact .inr rfl | assumption):GS X E (.Assign [.Name x pos'] e pos) (Bj i m):=(i5 hN hi hx he hs hf).imp λD σ H ⟨ρ,l,S,hl,hs,hm⟩=>by
 exact⟨ρ,l,S,hl,hs,hm.lift hl .refl λd S1 hm ρ1 H1 x l1 s1 r1=>hm ρ1 H1 _ l1 s1 ((hl.mono l1).set r1 i)⟩
def Jl(v:IF)(g:MG)(b:MS):Nat->Nat->Lo->Sto->Res Fl
 | k,i,e,S=>match v S with
  | none=>.bad
  | some ds=>match ds[i]? with
   | none=>.ok (.nx e) S
   | some d=>match k with
    | 0=>.bad
    | k+1=>(g d e S).bind λe1 S1=>(b e1 S1).bind λf S2=>match f with
     | .nx e2=>Jl v g b k (i+1) e2 S2
     | .ct e2=>Jl v g b k (i+1) e2 S2
     | .bk e2=>.ok (.nx e2) S2
     | .rt d=>.ok (.rt d) S2
     | .ex c e2=>.ok (.ex c e2) S2
def Cp(v:IF)(S:Sto):Nat:=match v S with
 | none=>0
 | some ds=>ds.length
def GK(m:MI)(g:MG)(b:MS):MS:=λe S=>(m e S).lift e λv S1=>Jl v g b (Cp v S1) 0 e S1
def EJ{tg iter:Expr}{body:List Ce}{mi:MI}{g:MG}(hp:Rq (Af X.prog X.w) X.A X.env X.xe)(hc:X.calm=true)(hi:GI X E tg iter mi)(hg:GG X tg g)(hb:GSs X E body b)
  (hs:∀x,Fi iter X.env x=pure x:=by intro _;rfl):GS X E (.For tg iter body [] pos) (GK mi g b):=(i7 hp hc hi hg hb hs).imp λD σ H ⟨ρ,l,S,hl,hs,hm⟩=>by
 refine⟨ρ,l,S,hl,hs,hm.lift hl .refl λv S1 hm ρ1 H1 J l1 s1 vo=>?_⟩;refine⟨λi n σ2 H2=>∃ρ2 e2 S2,Le X.K ρ1 H1 ρ2 H2/\Fx X.K ρ2 H2 e2 σ2/\CA X.K ρ2 S2 H2/\CK X.K noH ρ2 H2 (Jl v g b n i e2 S2) λfl S'=>OQ X.K E ρ H S' D fl,⟨Cp v S1,ρ1,l,S1,.refl,hl.mono l1,s1,hm.later l1⟩,?_⟩;rintro i n σ2 H2 ⟨ρ2,e2,S2,l2,r2,s2,hm2⟩;unfold Jl at hm2
 cases hv:v S2 with
 | none=>rw[hv]at hm2;exact hm2.elim
 | some ds=>
  rw[hv]at hm2;dsimp only at hm2;obtain⟨v1,v2⟩:=vo ρ2 H2 S2 ds i l2 s2 hv
  cases hd:ds[i]? with
  | none=>
   rw[hd]at hm2;exact .inl ⟨v1 hd,hm2 ρ2 H2 σ2 (l1.trans l2) s2 r2⟩
  | some d=>
   rw[hd]at hm2;dsimp only at hm2;obtain⟨go,yl⟩:=v2 d hd
   cases n with
   | zero=>exact hm2.elim
   | succ n=>
    dsimp only at hm2;refine .inr ⟨go,λσ' H'=>∃ρ2 e2 S2,Le X.K ρ1 H1 ρ2 H'/\Fx X.K ρ2 H' e2 σ'/\CA X.K ρ2 S2 H'/\CK X.K noH ρ2 H' (Jl v g b n (i+1) e2 S2) λfl S'=>OQ X.K E ρ H S' D fl,λσ' H' q=>⟨n,Df n,q⟩,λx H' y=>?_⟩;obtain⟨ρ3,l3,s3,rd⟩:=yl x H' y;refine⟨ρ3,e2,S2,d,rd,r2.mono l3,s3,(hm2.later l3).seq λe3 S3 hm2 ρ4 H4 σ4 l4 s4 r4=>?_⟩;refine⟨ρ4,e3,S3,r4,s4,(hm2.later l4).seq λf4 S4 hm2=>?_⟩
    cases f4 with
    | nx e5=>exact λρ5 H5 σ5 l5 s5 r5=>⟨ρ5,e5,S4,l2.trans (l3.trans (l4.trans l5)),r5,s5,hm2.later l5⟩
    | ct e5=>exact λρ5 H5 σ5 l5 s5 r5=>⟨ρ5,e5,S4,l2.trans (l3.trans (l4.trans l5)),r5,s5,hm2.later l5⟩
    | bk e5=>exact λρ5 H5 σ5 l5 s5 r5=>hm2 ρ5 H5 σ5 (l1.trans (l2.trans (l3.trans (l4.trans l5)))) s5 r5
    | ex c e5=>exact λρ5 H5 σ5 l5 s5 r5=>hm2 ρ5 H5 σ5 (l1.trans (l2.trans (l3.trans (l4.trans l5)))) s5 r5
    | rt d5=>exact λρ5 H5 x5 l5 s5 r5=>hm2 ρ5 H5 x5 (l1.trans (l2.trans (l3.trans (l4.trans l5)))) s5 r5
def GJ(c:MT)(b:MS):Nat->MS
 | 0=>λ_ _=>.bad
 | n+1=>λe S=>(c e S).lift e λt S1=>if t=true then(b e S1).bind λf S2=>match f with
   | .nx e2=>GJ c b n e2 S2
   | .ct e2=>GJ c b n e2 S2
   | .bk e2=>.ok (.nx e2) S2
   | .rt d=>.ok (.rt d) S2
   | .ex c e2=>.ok (.ex c e2) S2
  else .ok (.nx e) S1
def UN{c:Expr}{body:List Ce}(N:Nat)(hp:Rq (Af X.prog X.w) X.A X.env X.xe)(hc:GT X E c t)(hb:GSs X E body b):GS X E (.While c body [] pos) (GJ t b N):=(Zl hp hc hb).imp λD σ H ⟨ρ,l,S,hl,hs,hm⟩=>by
 refine⟨λn σ2 H2=>∃ρ2 e2 S2,Le X.K ρ H ρ2 H2/\Fx X.K ρ2 H2 e2 σ2/\CA X.K ρ2 S2 H2/\CK X.K noH ρ2 H2 (GJ t b n e2 S2) λfl S'=>OQ X.K E ρ H S' D fl,⟨N,ρ,l,S,.refl,hl,hs,hm⟩,?_⟩;rintro n σ2 H2 ⟨ρ2,e2,S2,l2,r2,s2,hm2⟩
 cases n with
 | zero=>exact hm2.elim
 | succ n=>
  refine⟨ρ2,e2,S2,r2,s2,hm2.lift r2 l2 λtc S3 hm2 ρ3 H3 l3 s3=>?_⟩
  cases tc with
  | false=>rw[qY AZ]at hm2 ⊢;exact hm2 ρ3 H3 σ2 (l2.trans l3) s3 (r2.mono l3)
  | true=>
   rw[qX rfl]at hm2 ⊢;refine⟨λσ' H'=>∃ρ2 e2 S2,Le X.K ρ H ρ2 H'/\Fx X.K ρ2 H' e2 σ'/\CA X.K ρ2 S2 H'/\CK X.K noH ρ2 H' (GJ t b n e2 S2) λfl S'=>OQ X.K E ρ H S' D fl,λσ' H' q=>⟨n,Df n,q⟩,?_⟩;refine⟨ρ3,e2,S3,r2.mono l3,s3,(hm2.later l3).seq λf4 S4 hm2=>?_⟩
   cases f4 with
   | nx e5=>exact λρ5 H5 σ5 l5 s5 r5=>⟨ρ5,e5,S4,l2.trans (l3.trans l5),r5,s5,hm2.later l5⟩
   | ct e5=>exact λρ5 H5 σ5 l5 s5 r5=>⟨ρ5,e5,S4,l2.trans (l3.trans l5),r5,s5,hm2.later l5⟩
   | bk e5=>exact λρ5 H5 σ5 l5 s5 r5=>hm2 ρ5 H5 σ5 (l2.trans (l3.trans l5)) s5 r5
   | ex c e5=>exact λρ5 H5 σ5 l5 s5 r5=>hm2 ρ5 H5 σ5 (l2.trans (l3.trans l5)) s5 r5
   | rt d5=>exact λρ5 H5 x5 l5 s5 r5=>hm2 ρ5 H5 x5 (l2.trans (l3.trans l5)) s5 r5
end
section
variable{X:Cx}{E:EW}{tg e:Expr}{m:ME}{ml:ML}{K:AA}
def Ny(d:D):IF:=λS=>match d with
 | .ref n=>match S[n]? with
  | some (.lst ds)=>some ds
  | _=>none
 | .fro ds=>some ds
 | _=>none
def D0(ds:List D):IF:=λ_=>some ds
def mP(m:ME):MI:=λe S=>(m e S).bind λd S1=>match Ny d S1 with
 | some _=>.ok (Ny d) S1
 | none=>.bad
def gi(m:ME):MI:=λe S=>(m e S).bind λd S1=>match d with
 | .tup ds=>.ok (D0 ds) S1
 | _=>.bad
def PB{ρ:List AK}{H:Hp}{S:Sto}{a:AK}{d:D}{ds:List D}(s:CA K ρ S H)(r:Bu K ρ H d (.ref a))(hv:Ny d S=some ds):∃xs,SqL K H a xs/\A0 K ρ H ds xs:=by
 cases r with
 | tup h1 h2=>cases hv
 | exc _ _=>cases hv
 | fro h1 h2=>cases hv;exact⟨_,h1.sq,h2⟩
 | @ref n _ hn=>
  obtain⟨o,ho,ro⟩:=s.there hn;unfold Ny at hv;simp only[ho]at hv
  cases o with
  | lst es=>
   cases hv;obtain⟨vs,e,rr⟩:=ro;exact⟨vs,.inl (.inl e),rr⟩
  | _=>cases hv
def O8{ρ:List AK}{H:Hp}{a:AK}{d:D}(r:Bu K ρ H d (.ref a)):L6 K ρ H (Itl K a) (Ny d):=by
 intro ρ2 H2 S ds i l s hv;obtain⟨xs,sq,rr⟩:=PB s (r.mono l) hv;refine⟨λhn=>⟨xs,sq,by rw[<-rr.length];exact Bq.mp hn⟩,λd hd=>?_⟩;obtain⟨x,hx,rx⟩:=rr.get hd;refine⟨⟨xs,x,sq,hx⟩,λy H' ⟨e,hy⟩=>?_⟩;subst e;have:=hy xs sq;rw[hx]at this;cases this;exact⟨ρ2,.refl,s,rx⟩
def jy(h:GE X E e m):GI X E tg e (mP m):=(df h).imp λσ H R ⟨ρ,l,S,hl,hs,hm⟩=>by
 refine⟨ρ,l,S,hl,hs,hm.seq λd S1 hm ρ1 H1 x l1 s1 r1=>?_⟩
 cases hv:Ny d S1 with
 | none=>rw[hv]at hm;exact hm.elim
 | some ds=>
  rw[hv]at hm
  have:∃a,x=.ref a:=by
   cases r1 <;> first | exact⟨_,rfl⟩ | (cases hv;done)
  obtain⟨a,rfl⟩:=this;obtain⟨xs,sq,_⟩:=PB s1 r1 hv;exact⟨a,rfl,⟨xs,sq⟩,hm ρ1 H1 _ l1 s1 (O8 r1)⟩
def O6{ρ:List AK}{H:Hp}{a:AK}{ds:List D}{xs:List V}(h1:H a=some (.tup xs))(h2:A0 K ρ H ds xs):L6 K ρ H (Itt K a) (D0 ds):=by
 intro ρ2 H2 S ds' i l s hv;cases hv;have rr:=h2.mono l;have sq:SqT K H2 a xs:=.inl (.inl (l.tup _ _ h1));refine⟨λhn=>⟨xs,sq,by rw[<-rr.length];exact Bq.mp hn⟩,λd hd=>?_⟩;obtain⟨x,hx,rx⟩:=rr.get hd;refine⟨⟨xs,x,sq,hx⟩,λy H' ⟨e,hy⟩=>?_⟩;subst e;have:=hy xs sq;rw[hx]at this;cases this;exact⟨ρ2,.refl,s,rx⟩
def jx(h:GE X E e m):GI X E tg e (gi m):=(jB h).imp λσ H R ⟨ρ,l,S,hl,hs,hm⟩=>by
 refine⟨ρ,l,S,hl,hs,hm.seq λd S1 hm ρ1 H1 x l1 s1 r1=>?_⟩
 cases d <;> first | exact hm.elim | skip
 cases r1 with
 | tup q1 q2=>exact⟨_,rfl,⟨_,.inl (.inl q1)⟩,hm ρ1 H1 _ l1 s1 (O6 q1 q2)⟩
def C2(lo:Int)(n:Nat):List D:=(BA n).map λi:Nat=>D.int (lo+i)
def NW(lo:Int)(n i:Nat):(C2 lo n)[i]?=if i < n then some (.int (lo+i))else none:=by
 unfold C2;rw[AN]
 by_cases h:i < n
 ·rw[BU h,qX h];rfl
 ·rw[qY h,Bq.mpr (by simpa using h)];rfl
def O7{ρ:List AK}{H:Hp}(lo:Int)(n:Nat):L6 K ρ H (Itr lo n) (D0 (C2 lo n)):=by
 intro ρ2 H2 S ds' i l s hv;cases hv;rw[NW];refine⟨λhn=>?_,λd hd=>?_⟩
 ·split at hn
  ·cases hn
  ·rename_i h;exact Ox h
 ·split at hd
  ·rename_i h
   cases hd;refine⟨h,λy H' ⟨e,hy⟩=>?_⟩;subst e;subst hy;exact⟨ρ2,.refl,s,.int _⟩
  ·cases hd
def iR1(ml:ML):MI:=λe S=>(ml e S).bind λds S1=>match ds with
 | [.int j]=>if -(2 ^ 62)<=j/\j < 2 ^ 62 then .ok (D0 (C2 0 j.toNat)) S1 else .bad
 | _=>.bad
def iR2(ml:ML):MI:=λe S=>(ml e S).bind λds S1=>match ds with
 | [.int i,.int j]=>if -(2 ^ 62)<=i/\i < 2 ^ 62/\-(2 ^ 62)<=j/\j < 2 ^ 62 then .ok (D0 (C2 i (j - i).toNat)) S1 else .bad
 | _=>.bad
def Em{a:Expr}{p pos:Pos}(hg:Gl X "range") (hm:X.mg "range" = none) (ha:GA X E [a] ml) (hs:AS [a] X.env=[(false,Bw a X.env)]:=by rfl):GI X E tg (.Call (.Name "range" p) [a] [] pos) (iR1 ml):=(Xu hg hm ha hs).imp λσ H R ⟨ρ,l,S,hl,hs,hm⟩=>by
 refine⟨ρ,l,S,hl,hs,hm.seq λds S1 hm ρ1 H1 xs l1 s1 r1=>?_⟩;split at hm
 ·rename_i j
  split at hm
  ·rename_i hj
   cases r1 with
   | cons r t=>
    cases t;cases r;exact⟨j,rfl,hj.1,hj.2,hm ρ1 H1 _ l1 s1 (O7 0 j.toNat)⟩
  ·exact hm.elim
 ·exact hm.elim
def YI{a b:Expr}{p pos:Pos}(hg:Gl X "range") (hm:X.mg "range" = none) (ha:GA X E [a,b] ml) (hs:AS [a,b] X.env=[(false,Bw a X.env),(false,Bw b X.env)]:=by rfl) (hs2:AS [b] X.env=[(false,Bw b X.env)]:=by rfl) :
  GI X E tg (.Call (.Name "range" p) [a,b] [] pos) (iR2 ml):=(Xt hg hm ha hs hs2).imp λσ H R ⟨ρ,l,S,hl,hs,hm⟩=>by
 refine⟨ρ,l,S,hl,hs,hm.seq λds S1 hm ρ1 H1 xs l1 s1 r1=>?_⟩;split at hm
 ·rename_i i j
  split at hm
  ·rename_i hj
   cases r1 with
   | cons r t=>
    cases t with
    | cons r' t=>
     cases t;cases r;cases r';exact⟨i,j,rfl,hj,hm ρ1 H1 _ l1 s1 (O7 i _)⟩
  ·exact hm.elim
 ·exact hm.elim
end
def ET:List D->Lo->Sto->Res Lo
 | [],e,S=>.ok e S
 | _,_,_=>.bad
def Ba(g:MG)(r:List D->Lo->Sto->Res Lo):List D->Lo->Sto->Res Lo
 | d :: ds,e,S=>(g d e S).bind λe1 S1=>r ds e1 S1
 | [],_,_=>.bad
def EC(n:Nat)(r:List D->Lo->Sto->Res Lo):MG:=λd e S=>match d with
 | .tup ds=>if ds.length=n then r ds e S else .bad
 | _=>.bad
section
variable{X:Cx}{E:EW}{pos:Pos}
def gGs(K:AA)(r:List D->Lo->Sto->Res Lo):TGs:=λvs σ H Q=>∃ρ e S ds,A0 K ρ H ds vs/\Fx K ρ H e σ/\CA K ρ S H/\CK K noH ρ H (r ds e S) λe' S'=>∀ρ' H' σ',Le K ρ H ρ' H'->CA K ρ' S' H'->Fx K ρ' H' e' σ'->Q σ' H'
abbrev GGs(X:Cx)(ts:List Expr)(r:List D->Lo->Sto->Res Lo):Prop:=PGs X ts (gGs X.K r)
def PGs.imp{X:Cx}{ts:List Expr}{t t':TGs}(h:PGs X ts t)(i:∀vs σ H Q,t' vs σ H Q->t vs σ H Q):PGs X ts t':=λζ s σ H vs us Q I r q=>h ζ s σ H vs us Q I r (i vs σ H Q q)
def GC:GGs X [] ET:=di.imp λvs σ H Q ⟨ρ,l,S,ds,hd,hl,hs,hm⟩=>by
 cases ds with
 | nil=>cases hd;exact⟨rfl,hm ρ H σ .refl hs hl⟩
 | cons d ds=>exact hm.elim
def CI{e:Expr}{es:List Expr}{g:MG}{r:List D->Lo->Sto->Res Lo}(h1:GG X e g)(h2:GGs X es r)
  (hs:(FA (e :: es) X.env).map (·.2)=Ot e X.env :: (FA es X.env).map (·.2):=by rfl):GGs X (e :: es) (Ba g r):=(Zr h1 h2 hs).imp λvs σ H Q ⟨ρ,l,S,ds,hd,hl,hs,hm⟩=>by
 cases ds with
 | nil=>exact hm.elim
 | cons d ds=>
  cases hd with
  | cons q1 q2=>
   exact⟨_,_,rfl,ρ,l,S,d,q1,hl,hs,hm.seq λe1 S1 hm ρ1 H1 σ1 l1 s1 r1=>⟨ρ1,e1,S1,ds,q2.mono l1,r1,s1,hm.go l1 λ_ _ k ρ2 H2 σ2 l2 s2 r2=>k ρ2 H2 σ2 (l1.trans l2) s2 r2⟩⟩
def Hu{es:List Expr}{k:Nat}{r:List D->Lo->Sto->Res Lo}{n:Nat}(hc:X.calm=true)(h:GGs X es r)
  (hn:(FA es X.env).length=n:=by rfl) (hst:(FA es X.env).findIdx? (·.1)=none:=by rfl):GG X (.Tuple es k pos) (EC n r):=(jC hc h hn hst).imp λv σ H Q ⟨ρ,l,S,d,hd,hl,hs,hm⟩=>by
 cases d <;> first | exact hm.elim | skip
 rename_i ds
 cases hd with
 | tup q1 q2=>
  unfold EC at hm;dsimp only at hm;split at hm
  ·rename_i hlen
   exact⟨_,_,rfl,.inl (.inl q1),by rw[<-q2.length];exact hlen,ρ,l,S,ds,q2,hl,hs,hm⟩
  ·exact hm.elim
end
def spM(K:AA)(n:Nat)(f:List D->Sto->Res D):Sp:=λvs H Q E=>∃ρ ds S,ds.length=n/\A0 K ρ H ds vs/\CA K ρ S H/\CK K (λc H'=>E (.ref c) none H') ρ H (f ds S) λd S'=>
 ∀ρ' H' x,Le K ρ H ρ' H'->CA K ρ' S' H'->Bu K ρ' H' d x->Q x H'
def spM.len{K:AA}{n:Nat}{f:List D->Sto->Res D}{vs:List V}{H:Hp}{Q:VK}{E:XK}(h:spM K n f vs H Q E):vs.length=n:=by
 obtain⟨ρ,ds,S,h1,h2,_⟩:=h;rw[<-h2.length];exact h1
def BI(n:Nat)(f:List D->Sto->Res D)(m:ML):ME:=λe S=>(m e S).bind λds S1=>if ds.length=n then f ds S1 else .bad
def Pt(C:AK)(n:Nat)(f:List D->Sto->Res D)(m:ML):ME:=λe S=>(m e S).bind λds S1=>if ds.length+1=n then(f (.ref S1.length :: ds) (S1++[.ins C []])).bind (λd S2=>match d with
  | .non=>.ok (.ref S1.length) S2
  | _=>.bad)else .bad
def XQ(E:EW)(σ:St):XK:=λv o H=>o=none/\∃c,v=.ref c/\E c σ H
section
variable{X:Cx}{E:EW}{CX:CXT}{k n:Nat}{f C:AK}{fd:Dg}{ps:List Str}{x:Str}{p pos:Pos}{e:Expr}{es:List Expr}{ml:ML}{g:List D->Sto->Res D}
def CK.xk{α:Type}{K:AA}{σ:St}{ρ ρ1:List AK}{H H1:Hp}{r:Res α}{k k':α->Sto->Prop}(h:CK K (λc=>E c σ) ρ H r k)(l:Le K ρ H ρ1 H1)(f:∀a S,k a S->k' a S):CK K (λc H'=>XQ E σ (.ref c) none H') ρ1 H1 r k':=by
 cases r with
 | ok a S=>exact f a S h
 | err c S=>exact λρ' H' l' s=>⟨rfl,c,rfl,h ρ' H' (l.trans l') s⟩
 | bad=>exact h
def Bb(F:Dh X.prog X.w X.K X.mg X.base CX k f fd ps (spM X.K n g))(hx:L8 CX X (XQ E))(hr:Hw k X.A)(hg:Gl X x)(hm:X.mg x=some (.ref f))(hk:Gg X.K (.ref f)=true)(hb:Binds X.K fd ps [])
  (ha:GA X E (e :: es) ml) (hdb:(x==("__debug__" : Str))=false:=by decide) (he:AS (e :: es) X.env=(false,Bw e X.env) :: AS es X.env:=by rfl) (hpl:(Da pos (AS es X.env)).any (·.1)=false:=by rfl) :
  GE X E (.Call (.Name x p) (e :: es) [] pos) (BI n g ml):=(dy (E:=XQ E) F hr hg hm hk hb .nil hx ha hdb he hpl).imp λσ H Q ⟨ρ,l,S,hl,hs,hm⟩=>by
 refine⟨ρ,l,S,hl,hs,hm.seq λds S1 hm ρ1 H1 xs l1 s1 r1=>?_⟩;split at hm
 ·rename_i hlen
  rw[BW];exact⟨ρ1,ds,S1,hlen,r1,s1,hm.xk l1 λ_ _ k ρ' H' z l' s' r'=>k ρ' H' z (l1.trans l') s' r'⟩
 ·exact hm.elim
def e8(M:Mk X.K C f)(F:Dh X.prog X.w X.K X.mg X.base CX k f fd ps (spM X.K n g))(hx:L8 CX X (XQ E))(hr:Hw (k+1) X.A)(hg:Gl X x)(hm:X.mg x=some (.ref C))(hb:Binds X.K fd ps [])
  (ha:GA X E (e :: es) ml) (hdb:(x==("__debug__" : Str))=false:=by decide) (he:AS (e :: es) X.env=(false,Bw e X.env) :: AS es X.env:=by rfl) (hpl:(Da pos (AS es X.env)).any (·.1)=false:=by rfl) :
  GE X E (.Call (.Name x p) (e :: es) [] pos) (Pt C n g ml):=(dm (E:=XQ E) M F hr hg hm hb .nil hx ha hdb he hpl).imp λσ H Q ⟨ρ,l,S,hl,hs,hm⟩=>by
 refine⟨ρ,l,S,hl,hs,hm.seq λds S1 hm ρ1 H1 xs l1 s1 r1 a dx ha hdx hne=>?_⟩;split at hm
 ·rename_i hlen
  rw[BW];obtain⟨s2,l2⟩:=IC (ho:=.own a) s1 hdx
  have ha2:upd H1 dx (.own a) a=none:=by rw[Bc (CB hne)];exact ha
  obtain⟨s3,l3,at3⟩:=s2.alloc (p:=a) (ho:=.ins C dx []) (o:=.ins C []) ha2 ⟨dx,[],Bm,.nil⟩;refine⟨ρ1++[a],.ref S1.length :: ds,S1++[.ins C []],by simpa using hlen,.cons (.ref at3) (r1.mono (l2.trans l3)),s3,CK.xk (hm.seq λz S2 hm=>hm) (l1.trans (l2.trans l3)) λz S2 hm ρ' H' y l' s' r'=>?_⟩
  cases z <;> first | exact hm.elim | skip
  cases r';exact⟨rfl,hm ρ' H' _ (l1.trans (l2.trans (l3.trans l'))) s' (.ref (l'.pre _ _ at3))⟩
 ·exact hm.elim
end
def KVR.lookup{K:AA}{ρ:List AK}{H:Hp}(f:Str):∀{x:List (Str×D)} {y:List (Str×V)} {d:D},KVR K ρ H x y->x.lookup f=some d->∃v,y.lookup f=some v/\Bu K ρ H d v
 | _,_,_,.nil,h=>by simp at h
 | (g,a) :: x,(g',b) :: y,d,.cons r t,h=>by
  obtain⟨r1,r2⟩:=r;dsimp only at r1 r2;subst r1;rw[Cd]at h ⊢
  cases hq:(f==g)with
  | true=>rw[hq]at h;cases h;exact⟨b,rfl,r2⟩
  | false=>rw[hq]at h;exact KVR.lookup f t h
def OM(f:Str)(v:D):List (Str×D)->List (Str×D)
 | []=>[(f,v)]
 | (g,x) :: r=>if g=f then(g,v) :: r else(g,x) :: OM f v r
def KVR.putF{K:AA}{ρ:List AK}{H:Hp}(f:Str){d:D}{v:V}(rd:Bu K ρ H d v):∀{x:List (Str×D)} {y:List (Str×V)},KVR K ρ H x y->KVR K ρ H (OM f d x) (putF f v y)
 | _,_,.nil=>.cons ⟨rfl,rd⟩ .nil
 | (g,a) :: x,(g',b) :: y,.cons r t=>by
  obtain⟨r1,r2⟩:=r;dsimp only at r1 r2;subst r1;unfold OM L2.putF
  by_cases hq:g=f
  ·rw[qX hq,qX hq];exact .cons ⟨rfl,rd⟩ t
  ·rw[qY hq,qY hq];exact .cons ⟨rfl,r2⟩ (KVR.putF f rd t)
def KVR.length{κ:Type}{K:AA}{ρ:List AK}{H:Hp}{x:List (κ×D)}{y:List (κ×V)}(h:KVR K ρ H x y):x.length=y.length:=Dz h
def HJ(C:AK)(f:Str)(m:ME):ME:=λe S=>(m e S).bind λd S1=>match d with
 | .ref n=>match S1[n]? with
  | some (.ins C' fs)=>if C'=C then(match fs.lookup f with | some v=>.ok v S1 | none=>.bad)else .bad
  | _=>.bad
 | _=>.bad
def RG(C:AK)(f:Str)(mo mv:ME):MS:=λe S=>(mv e S).lift e λv S1=>(mo e S1).lift e λd S2=>match d with
 | .ref n=>match S2[n]? with
  | some (.ins C' fs)=>if C'=C/\fs.length < 1000 then .ok (.nx e) (S2.set n (.ins C (OM f v fs)))else .bad
  | _=>.bad
 | _=>.bad
section
variable{X:Cx}{E:EW}{o e value:Expr}{f:Str}{pos pos':Pos}{m mv:ME}{C:AK}
def Hv(hc:Cls X.K C)(hn:Ii X.K C f)(he:GE X E e m)(hb:Cb e f X.env (Bw e X.env)=Bw e X.env:=by rfl):GE X E (.Attribute e f pos) (HJ C f m):=(jK he hb).imp λσ H Q ⟨ρ,l,S,hl,hs,hm⟩=>by
 refine⟨ρ,l,S,hl,hs,hm.seq λx S1 hm ρ1 H1 v l1 s1 r1=>?_⟩
 cases x <;> first | exact hm.elim | skip
 rename_i n;dsimp only at hm
 cases ho:S1[n]? with
 | none=>rw[ho]at hm;exact hm.elim
 | some ob=>
  rw[ho]at hm
  cases ob <;> first | exact hm.elim | skip
  rename_i C' fs;dsimp only at hm;split at hm
  ·rename_i hC
   rw[hC]at ho
   cases r1 with
   | ref hn'=>
    obtain⟨dx,fs',e1,e2⟩:=s1.ob n _ _ ho hn'
    cases hq:fs.lookup f with
    | none=>rw[hq]at hm;exact hm.elim
    | some w=>
     rw[hq]at hm;obtain⟨v,h3,h4⟩:=KVR.lookup f e2 hq;exact⟨_,_,dx,fs',v,rfl,e1,hc,hn,h3,hm ρ1 H1 v l1 s1 h4⟩
  ·exact hm.elim
def Vl(hc:Cls X.K C)(hn:Ii X.K C f)(ha:GE X E o m)(hv:GE X E value mv)(hs:Gb value (some (.Attribute o f pos')) pos.line X.env=pure false:=by rfl):GS X E (.Assign [.Attribute o f pos'] value pos) (RG C f m mv):=(i8 ha hv hs).imp λD σ H ⟨ρ,l,S,hl,hs,hm⟩=>by
 refine⟨ρ,l,S,hl,hs,hm.lift hl .refl λv S1 hm ρ1 H1 y l1 s1 r1=>⟨ρ1,l,S1,hl.mono l1,s1,(hm.later l1).lift (hl.mono l1) l1 λx S2 hm ρ2 H2 u l2 s2 r2=>?_⟩⟩
 cases x <;> first | exact hm.elim | skip
 rename_i n;dsimp only at hm
 cases ho:S2[n]? with
 | none=>rw[ho]at hm;exact hm.elim
 | some ob=>
  rw[ho]at hm
  cases ob <;> first | exact hm.elim | skip
  rename_i C' fs;dsimp only at hm;split at hm
  ·rename_i hC
   obtain⟨hC,hlen⟩:=hC;rw[hC]at ho
   cases r2 with
   | ref hn'=>
    obtain⟨dx,fs',e1,e2⟩:=s2.ob n _ _ ho hn';have le:Le X.K ρ2 H2 ρ2 (upd H2 _ (.ins C dx (putF f y fs'))):=Le.write hn' (by rw[e1];trivial);obtain⟨s3,l3⟩:=s2.write (ho:=.ins C dx (putF f y fs')) (o:=.ins C (OM f v fs)) hn' ⟨dx,_,Bm,(KVR.putF f (r1.mono l2) e2).mono le⟩ le;refine⟨_,C,dx,fs',rfl,e1,hc,hn,by rw[<-KVR.length e2];exact hlen,?_⟩;exact hm ρ2 _ σ (l1.trans (l2.trans l3)) s3 (hl.mono (l1.trans (l2.trans l3)))
  ·exact hm.elim
end
def ExAt(Nw:AK->Prop)(F:Option AE->Prop)(ea C:AK)(H:Hp)(h:B7):Prop:=
 H ea=none/\Nw ea/\∃(oe:Obj) (vs:Array AE) (a0:AE),h.get? ea=some oe/\oe.cls=.ref C/\(oe.dict=none/\oe.data=.fields vs)/\vs[0]?=some a0 /\
  ((F none/\vs[1]?=some .none)∨∃(T:AK) (oT:Obj) (ts:Array AE) (fl:AE),F (some fl)/\vs[1]?=some (.ref T)/\T≠ea/\H T=none/\Nw T/\h.get? T=some oT/\oT.data=.fields ts/\ts[3]?=some fl)
section
variable{X:Cx}{ζ:List (AK×Obj)}{σ:St}{H:Hp}{s:AG}{h':B7}{ea C:AK}{F:Option AE->Prop}
end
def CXG(P:Al)(w:BE):CXT:=λouter H s E e s'=>∃ea C H',e=.ref ea/\s'.os=s.os/\Ja s'.gens/\Un (frs outer) [] H H' s.heap s'.heap/\HOk P w H' s'.heap/\ExAt (λb=>s.heap.get? b=none) (· = some .none) ea C H' s'.heap/\E (.ref C) none H'
def Inv.with{X:Cx}{ζ:List (AK×Obj)}{σ:St}{H:Hp}{s:AG}(I:Inv X ζ σ H s)(z:AE->AG->Prop):Inv { X with xe:=z } ζ σ H s:=by
 obtain⟨ok,a,b,c,d,e,f,g,i,j,l⟩:=I;obtain⟨o1,o2,o3,o4,o5,o6,o7,o8,o9,o10,o11,o12,o13,o14,o15,o16,o17,o18⟩:=ok;exact⟨⟨o1,o2,o3,o4,o5,o6,o7,o8,o9,o10,o11,o12,o13,o14,o15,o16,o17,o18⟩,a,b,c,d,e,f,g,i,j,l⟩
def Inv.without{X:Cx}{ζ:List (AK×Obj)}{σ:St}{H:Hp}{s:AG}{z:AE->AG->Prop}(I:Inv { X with xe:=z } ζ σ H s):Inv X ζ σ H s:=by
 have:=I.with X.xe
 exact this
structure Good(X:Cx)(E:EW):Prop where
 pass:L8 (CXG X.prog X.w) X (XQ E)
 own:Rq (Af X.prog X.w) X.A X.env X.xe
 made:∀(ζ:List (AK×Obj)) (σ:St) (H:Hp) (s:AG) (h':B7) (ea C:AK) (args:List AE),Inv X ζ σ H s->E C σ H->B7.MadeExcOf s.heap h' ea (.ref C) args->X.xe (.ref ea) { s with heap:=h' }
def good_none{X:Cx}(hx:X.xe=λ_ _=>False):Good X noE:=by
 refine⟨λζ σ H s e s' I h=>?_,by rw[hx];exact Rq.never,λ_ _ _ _ _ _ _ _ _ w _=>w.elim⟩;obtain⟨ea,C,H',rfl,os,bare,un,hok,x,_,c,ec,w⟩:=h;exact w.elim
section
variable{X:Cx}{E:EW}{x:Str}{np cpos pos:Pos}{e:Expr}{es:List Expr}{ml:ML}{C:AK}
end
section
variable{X:Cx}{E:EW}{body suite:List Ce}{b₀:Ce}{g n:Str}{gp hpos pos:Pos}{cs:List AK}{i:Nat}{mb mh:MS}{G:AK}
end
def DF(n:Nat)(ds:List D):Lo:=ds.map some++Be (n - ds.length) none
def VM{K:AA}{ρ:List AK}{H:Hp}{N:List Str}{ds:List D}{vs:List V}(r:A0 K ρ H ds vs):Fx K ρ H (DF N.length ds) (start N vs):=by
 refine⟨by simp[DF,start,r.length],λi d q=>?_⟩;unfold DF at q;unfold start
 by_cases hi:i < ds.length
 ·rw[Aa (by simpa using hi),AN]at q
  rw[Aa (by rw[AC,<-r.length];exact hi),AN]
  cases e:ds[i]? with
  | none=>rw[e]at q;cases q
  | some d'=>
   rw[e]at q;cases q;obtain⟨v,h1,h2⟩:=r.get e;exact⟨v,by rw[h1];rfl,h2⟩
 ·rw[BK (by simpa using hi),DM]at q
  split at q <;> cases q
section
variable{P:Al}{w:BE}{K:AA}{mg:Str->Option AE}{base:B7}
end
section
variable{X:Cx}
def intOp(C:Int->Int->Prop)[∀i j,Decidable (C i j)](g:Int->Int->D):D->D->Sto->Res D
 | .int i,.int j,S=>if C i j then .ok (g i j) S else .bad
 | _,_,_=>.bad
def ag{C:Int->Int->Prop}[∀i j,Decidable (C i j)]{g:Int->Int->D}{a b d:D}{S S':Sto}(h:intOp C g a b S=.ok d S'):∃i j,a=.int i/\b=.int j/\C i j/\d=g i j/\S'=S:=by
 unfold intOp at h;split at h
 ·split at h
  ·rename_i i j _ hc
   cases h;exact⟨_,_,rfl,rfl,hc,rfl,rfl⟩
  ·cases h
 ·cases h
def Na{f:AE->AE->Sem AE}{C:Int->Int->Prop}[∀i j,Decidable (C i j)]{g:Int->Int->D}{v:Int->Int->V}(hv:∀ρ H i j,Bu X.K ρ H (g i j) (v i j))(h:OpR X f (rI C v)):OpR X f (rD X.K (intOp C g)):=h.imp λx y H Q ⟨ρ,S,a,b,d,S',hs,ra,rb,hm,k⟩=>by
 obtain⟨i,j,rfl,rfl,hc,rfl,rfl⟩:=ag hm;cases ra;cases rb;exact⟨i,j,rfl,rfl,hc,k ρ H _ .refl hs (hv _ _ _ _)⟩
def Mn{f:AE->AE->Sem AE}{g:Int->Int->D}{v:Int->Int->V}(hv:∀ρ H i j,Bu X.K ρ H (g i j) (v i j))(h:OpR X f (rI0 v)):OpR X f (rD X.K (intOp (λ_ _=>True) g)):=
 Na (C:=λ_ _=>True) hv (h.imp λx y H Q ⟨i,j,e1,e2,_,q⟩=>⟨i,j,e1,e2,q⟩)
instance(i j:Int):Decidable (gB i j):=inferInstanceAs (Decidable (_/\_))
instance(i j:Int):Decidable (bb i j):=inferInstanceAs (Decidable (_/\_/\_))
instance(i j:Int):Decidable (Yg i j):=inferInstanceAs (Decidable (_∨_))
abbrev ZS:=intOp (λ_ _=>True) λi j=>.int (i - j)
abbrev Pr:=intOp Yg λi j=>.int (i * j)
abbrev M2:=intOp gB λi j=>.int (i / j)
abbrev D6:=intOp (λ_ j=>0 < j) λi j=>.int (i % j)
abbrev ltD:=intOp (λ_ _=>True) λi j=>.bl (decide (i < j))
abbrev leD:=intOp (λ_ _=>True) λi j=>.bl (decide (i<=j))
abbrev geD:=intOp (λ_ _=>True) λi j=>.bl (decide (j<=i))
def Z3:OpR X (Cj .Sub) (rD X.K ZS):=Mn (λ_ _ _ _=>.int _) jN
def SM:OpR X (Cj .Mult) (rD X.K Pr):=Na (λ_ _ _ _=>.int _) jQ
def SN:OpR X (Cj .FloorDiv) (rD X.K M2):=Na (λ_ _ _ _=>.int _) eD
def Fc:OpR X (Cj .Mod) (rD X.K D6):=Na (λ_ _ _ _=>.int _) jR
def T9:OpR X (Bi .Lt) (rD X.K ltD):=Mn (λ_ _ _ _=>.bl _) ll
def Wb:OpR X (Bi .LtE) (rD X.K leD):=Mn (λ_ _ _ _=>.bl _) lm
def lr:OpR X (Bi .GtE) (rD X.K geD):=Mn (λ_ _ _ _=>.bl _) ln
def Ff:D->D->Sto->Res D
 | .int i,.int j,S=>.ok (.int (i+j)) S
 | .tup xs,.tup ys,S=>if xs.length+ys.length<=sizeLine then .ok (.tup (xs++ys)) S else .bad
 | .ref l,.ref b,S=>match S[l]?,S[b]? with
  | some (.lst xs),some (.lst ys)=>if xs.length+ys.length<=sizeLine then .ok (.ref S.length) (S++[.lst (xs++ys)])else .bad
  | _,_=>.bad
 | _,_,_=>.bad
def lY(K:AA):R2:=λx y H Q=>∃a b xs ys,x=.ref a/\y=.ref b/\H a=some (.tup xs)/\H b=some (.tup ys)/\xs.length+ys.length<=sizeLine /\
 (xs=[]->Q (.ref b) H)/\(ys=[]->Q (.ref a) H)/\(∀p,H p=none->Q (.ref p) (upd H p (.tup (xs++ys))))
def eG:OpR X (Cj .Add) (lY X.K):=by
 intro ζ s σ H x y v u Q I rx ry h;obtain⟨a,b,xs,ys,rfl,rfl,ha,hb,hz,q0,q1,q2⟩:=h;cases rx;cases ry;obtain⟨its,r1,p1,_⟩:=I.tuple (a:=a) (xs:=xs) (.inl (.inl ha));obtain⟨its2,r2,p2,_⟩:=I.tuple (a:=b) (xs:=ys) (.inl (.inl hb))
 by_cases hx:xs=[]
 ·obtain⟨⟨cls,dd,data,sl⟩,ho,hc,n,hd⟩:=id p1
  obtain⟨⟨cls2,dd2,data2,sl2⟩,ho2,hc2,n2,hd2⟩:=id p2;simp only at hc hd hc2 hd2;subst hc hd hc2 hd2;have hi:its=[]:=r1.nil_iff.mpr hx
  exact Yv ⟨_,ho,rfl⟩ ⟨_,ho2,rfl⟩ Rj XC Jr JX (JH _ _)
   (tuple_addW0 a b its.toArray its2.toArray n n2 dd dd2 sl sl2 (by simp[hi])) ⟨ho,ho2,⟨.ref b,H,I,rfl,q0 hx⟩⟩
 ·exact eE ζ s σ H (.ref a) (.ref b) _ _ Q I rfl rfl ⟨a,b,xs,ys,rfl,rfl,.inl (.inl ha),.inl (.inl hb),hx,hz,q1,λ_ p hp=>q2 p hp⟩
def A0.nil_of{K:AA}{ρ:List AK}{H:Hp}{xs:List D}{vs:List V}(r:A0 K ρ H xs vs)(e:vs=[]):xs=[]:=by
 subst e;cases r;rfl
def Hr:OpR X (Cj .Add) (rD X.K Ff):=(jV.or (eG.or jT)).imp λx y H Q ⟨ρ,S,a,b,d,S',hs,ra,rb,hm,k⟩=>by
 cases ra with
 | int i=>
  cases rb <;> first | (cases hm;done) | skip
  cases hm;exact .inl ⟨_,_,rfl,rfl,k ρ H _ .refl hs (.int _)⟩
 | @tup xs a1 vs h1 h2=>
  cases rb with
  | @tup ys b1 ws h3 h4=>
   unfold Ff at hm;dsimp only at hm;split at hm
   ·rename_i hz
    cases hm;refine .inr (.inl ⟨_,_,_,_,rfl,rfl,h1,h3,by rw[<-h2.length,<-h4.length];exact hz,λe=>?_,λe=>?_,λp hp=>?_⟩)
    ·rw[h2.nil_of e,List.nil_append]at k
     exact k ρ H _ .refl hs (.tup h3 h4)
    ·rw[h4.nil_of e,BW]at k
     exact k ρ H _ .refl hs (.tup h1 h2)
    ·obtain⟨s2,l2⟩:=IC (ho:=.tup (vs++ws)) hs hp
     exact k ρ _ _ l2 s2 (.tup Bm ((h2.append h4).mono l2))
   ·cases hm
  | _=>cases hm
 | @ref n a1 hn=>
  cases rb with
  | @ref m b1 hn'=>
   unfold Ff at hm;dsimp only at hm;split at hm
   ·rename_i xs ys h1 h2
    split at hm
    ·rename_i hz
     cases hm;obtain⟨vs,e1,r1⟩:=hs.ob _ _ _ h1 hn;obtain⟨us,e2,r2⟩:=hs.ob _ _ _ h2 hn';refine .inr (.inr ⟨_,_,_,_,rfl,rfl,e1,e2,by rw[<-r1.length,<-r2.length];exact hz,λp hp=>?_⟩);have le:Le X.K ρ H (ρ++[p]) (upd H p (.lst (vs++us))):=Le.alloc hp;obtain⟨s2,l2,at2⟩:=hs.alloc (ho:=.lst (vs++us)) (o:=.lst (xs++ys)) hp ⟨_,Bm,(r1.append r2).mono le⟩;exact k _ _ _ l2 s2 (.ref at2)
    ·cases hm
   ·cases hm
  | _=>cases hm
 | _=>cases hm
def ixD:D->D->Sto->Res D:=λa b S=>match Fa a S,b with
 | some ds,.int i=>match atI ds i with
  | some d=>.ok d S
  | none=>.bad
 | _,_=>.bad
def fg{K:AA}{ρ:List AK}{H:Hp}{ds:List D}{vs:List V}{i:Int}{d:D}(r:A0 K ρ H ds vs)(h:atI ds i=some d):∃v,atI vs i=some v/\Bu K ρ H d v:=by
 unfold atI at h ⊢;rw[<-r.length]
 cases hq:ixN ds.length i with
 | none=>rw[hq]at h;cases h
 | some j=>
  rw[hq]at h;exact r.get h
def lq:IxR X (rD X.K ixD):=(ix_list.or jq).imp λx y H Q ⟨ρ,S,a,b,d,S',hs,ra,rb,hm,k⟩=>by
 unfold ixD at hm;split at hm
 ·rename_i ds i hq
  split at hm
  ·rename_i d' hd
   cases hm;cases rb;obtain⟨p,xs,rfl,rr,sq⟩:=Mb hs ra hq;obtain⟨v,h1,h2⟩:=fg rr hd
   rcases sq with sq | sq
   ·exact .inl ⟨p,xs,_,v,rfl,rfl,sq,h1,k ρ H v .refl hs h2⟩
   ·exact .inr ⟨p,xs,_,v,rfl,rfl,sq,h1,k ρ H v .refl hs h2⟩
  ·cases hm
 ·cases hm
def YA(neg:Bool)(x y:D)(S:Sto):Res D:=match y with
 | .non=>match x with
  | .non=>.ok (.bl (!neg)) S
  | _=>.ok (.bl neg) S
 | _=>.bad
def jd:OpR X (Bi .Is) (rD X.K (YA false)):=jS.imp λx y H Q ⟨ρ,S,a,b,d,S',hs,ra,rb,hm,k⟩=>by
 cases rb <;> first | (cases hm;done) | skip
 refine⟨rfl,?_⟩
 cases ra <;> (cases hm;exact k ρ H _ .refl hs (.bl _))
def eJ:OpR X (Bi .IsNot) (rD X.K (YA true)):=eC.imp λx y H Q ⟨ρ,S,a,b,d,S',hs,ra,rb,hm,k⟩=>by
 cases rb <;> first | (cases hm;done) | skip
 refine⟨rfl,?_⟩
 cases ra <;> (cases hm;exact k ρ H _ .refl hs (.bl _))
end
def mQ(f:List D->Sto->Res D)(m:ML):ME:=λe S=>(m e S).bind λds S1=>okR (f ds S1)
section
variable{X:Cx}{E:EW}{e:Expr}{es:List Expr}{x:Str}{p pos:Pos}{ml:ML}{id T:String}{r:List V->Hp->VK->Prop}{f:List D->Sto->Res D}
def kL(K:AA)(r:List V->Hp->VK->Prop)(f:List D->Sto->Res D):Prop:=∀ρ H S ds q xs d S' (Q:VK),CA K ρ S H->A0 K ρ H ds xs->(SqL K H q xs∨SqT K H q xs)->f ds S=.ok d S' ->
 (∀ρ' H' z,Le K ρ H ρ' H'->CA K ρ' S' H'->Bu K ρ' H' d z->Q z H')->r [.ref q] H Q
def kO(K:AA)(r:List V->Hp->VK->Prop)(f:List D->Sto->Res D):Prop:=∀ρ H S ds xs d S' (Q:VK),CA K ρ S H->A0 K ρ H ds xs->f ds S=.ok d S' ->
 (∀ρ' H' z,Le K ρ H ρ' H'->CA K ρ' S' H'->Bu K ρ' H' d z->Q z H')->r xs H Q
def nA(K:AA)(r:List V->Hp->VK->Prop)(f:List D->Option (List D)):Prop:=∀ρ H S ds q xs es (Q:VK),CA K ρ S H->A0 K ρ H ds xs->(SqL K H q xs∨SqT K H q xs)->f ds=some es ->
 (∀ρ' H' p ys,Le K ρ H ρ' H'->CA K ρ' S H'->A0 K ρ' H' es ys->H' p=some (.lst ys)->(∀n:Nat,ρ'[n]?≠some p)->H p=none->Q (.ref p) H')->r [.ref q] H Q
def Sd(hc:Ij X (.builtin id) r)(hf:kL X.K r f)(hg:Gl X x)(hm:X.mg x=none)(hv:E9 x=some (.builtin id))(h:GQ X E e ml)(hn:x≠"__name__":=by decide) (hdb:(x==("__debug__" : Str))=false:=by decide)
  (he:AS [e] X.env=(false,Bw e X.env) :: AS [] X.env:=by rfl):GE X E (.Call (.Name x p) [e] [] pos) (mQ f ml):=(Kf hc hg hm hv (FS h Hq he) hn hdb he rfl).imp λσ H Q ⟨ρ,l,S,hl,hs,hm⟩=>by
 refine⟨ρ,l,S,hl,hs,hm.seq λds S1 hm ρ1 H1 q xs l1 s1 r1 sq=>?_⟩;obtain⟨d,S',e,k⟩:=hm.okR
 exact hf ρ1 H1 S1 ds q xs d S' Q s1 r1 sq e λρ' H' z l' s' r'=>k ρ' H' z (l1.trans l') s' r'
def Wr(hc:Ij X (.builtin id) r)(hf:kO X.K r f)(hg:Gl X x)(hm:X.mg x=none)(hv:E9 x=some (.builtin id))(h:GA X E (e :: es) ml)(hn:x≠"__name__":=by decide) (hdb:(x==("__debug__" : Str))=false:=by decide)
  (he:AS (e :: es) X.env=(false,Bw e X.env) :: AS es X.env:=by rfl) (hpl:(Da pos (AS es X.env)).any (·.1)=false:=by rfl):GE X E (.Call (.Name x p) (e :: es) [] pos) (mQ f ml):=(Kf hc hg hm hv h hn hdb he hpl).imp λσ H Q ⟨ρ,l,S,hl,hs,hm⟩=>by
 refine⟨ρ,l,S,hl,hs,hm.seq λds S1 hm ρ1 H1 xs l1 s1 r1=>?_⟩;obtain⟨d,S',e,k⟩:=hm.okR
 exact hf ρ1 H1 S1 ds xs d S' Q s1 r1 e λρ' H' z l' s' r'=>k ρ' H' z (l1.trans l') s' r'
def mN(f:List D->Option (List D))(m:ML):ML:=λe S=>(m e S).bind λds S1=>match f ds with
 | some es=>.ok es S1
 | none=>.bad
def em{f:List D->Option (List D)}(hc:Ij X (.type T) r)(hf:nA X.K r f)(hg:Gl X x)(hm:X.mg x=none)(hv:E9 x=some (.type T))(h:GQ X E e ml)(hn:x≠"__name__":=by decide) (hdb:(x==("__debug__" : Str))=false:=by decide)
  (he:AS [e] X.env=(false,Bw e X.env) :: AS [] X.env:=by rfl):GL X E (.Call (.Name x p) [e] [] pos) (mN f ml):=(RJ hc hg hm hv (FS h Hq he) hn hdb he rfl).imp λσ H Q ⟨ρ,l,S,hl,hs,hm⟩=>by
 refine⟨ρ,l,S,hl,hs,hm.seq λds S1 hm ρ1 H1 q xs l1 s1 r1 sq=>?_⟩
 cases hq:f ds with
 | none=>rw[hq]at hm;exact hm.elim
 | some es=>
  rw[hq]at hm
  exact hf ρ1 H1 S1 ds q xs es Q s1 r1 sq hq λρ' H' p ys l' s' r' hp hn hp0=>hm ρ' H' p ys (l1.trans l') s' r' hp hn (l1.back hs s1 hp0)
def mJ(ds:List D)(S:Sto):Res D:=.ok (.int ds.length) S
def iq:kL X.K (λxs H Q=>∃p ys,xs=[.ref p]/\(SqL X.K H p ys∨SqT X.K H p ys)/\Q (.int ys.length) H) mJ:=λρ H S ds q xs d S' Q hs rr sq hm k=>by
 cases hm;exact⟨q,xs,rfl,sq,k ρ H _ .refl hs (by rw[rr.length];exact .int _)⟩
def N3:List D->Sto->Res D
 | [.int i,.int j],S=>.ok (.int (if j < i then j else i)) S
 | _,_=>.bad
def N4:List D->Sto->Res D
 | [.int i,.int j],S=>.ok (.int (if j > i then j else i)) S
 | _,_=>.bad
def fv:kO X.K (λxs H Q=>∃i j,xs=[.int i,.int j]/\Q (.int (if j < i then j else i)) H) N3:=λρ H S ds xs d S' Q hs rr hm k=>by
 unfold N3 at hm;split at hm
 ·cases hm
  cases rr with
  | cons a t=>
   cases t with
   | cons b t=>
    cases t;cases a;cases b;exact⟨_,_,rfl,k ρ H _ .refl hs (.int _)⟩
 ·cases hm
def fw:kO X.K (λxs H Q=>∃i j,xs=[.int i,.int j]/\Q (.int (if j > i then j else i)) H) N4:=λρ H S ds xs d S' Q hs rr hm k=>by
 unfold N4 at hm;split at hm
 ·cases hm
  cases rr with
  | cons a t=>
   cases t with
   | cons b t=>
    cases t;cases a;cases b;exact⟨_,_,rfl,k ρ H _ .refl hs (.int _)⟩
 ·cases hm
def Ms(ds:List D):Option (List D):=some ds
def dF:nA X.K (λxs H Q=>∃p ys,xs=[.ref p]/\(SqL X.K H p ys∨SqT X.K H p ys)/\∀l,H l=none->Q (.ref l) (upd H l (.lst ys))) Ms:=λρ H S ds q xs es Q hs rr sq hm k=>by
 cases hm;refine⟨q,xs,rfl,sq,λl hl=>?_⟩;obtain⟨s2,l2⟩:=IC (ho:=.lst xs) hs hl;exact k ρ _ l xs l2 s2 (rr.mono l2) Bm (λn e=>hs.notIn hl e) hl
end
def Dy(X:Cx)(scope:Im)(N':List Str)(cl:List (Str×AK))(C:AK)(s₁:AG)(H₁:Hp)(ex:List AK)(pn:List (AK×Obj)):Cx where
 prog:=X.prog
 w:=X.w
 K:=X.K
 mg:=X.mg
 base:=X.base
 A:=X.A
 N:=N'
 s₀:=s₁
 H₀:=H₁
 env:=compEnvC scope cl C X.env
 outer:=X.stack
 stack:=X.stack
 ex:=ex
 fn:=λ_=>false
 calm:=X.calm
 pn:=pn
 xe:=λ_ _=>False
def Si{env:Env}:∀(names:List (Str×QX)) (acc:List (Str×AK)),(∀y∈names,y.2=.free->∃c,env.cells.lookup y.1=some c)->(∀n c,acc.lookup n=some c->env.cells.lookup n=some c) ->
  ∃cl,(forIn names acc (λ(x:Str×QX) (cs:List (Str×AK))=>match x with | (name,kind)=>if (kind==Iq)=true then do let a <-cellOf env name;pure (He ((name,a) :: cs))else pure (He cs)):Sem (List (Str×AK)))=pure cl /\
   (∀n c,cl.lookup n=some c->env.cells.lookup n=some c)/\(∀n c,acc.lookup n=some c->∃c',cl.lookup n=some c')/\∀y∈names,y.2=.free->∃c,cl.lookup y.1=some c
 | [],acc,_,ha=>⟨acc,rfl,ha,λn c h=>⟨c,h⟩,λ_ h=>nomatch h⟩
 | (n,k) :: r,acc,h,ha=>by
  rw[bw]
  by_cases hk:k=.free
  ·subst hk
   obtain⟨c,hc⟩:=h (n,.free) A1 rfl
   obtain⟨cl,e,h1,h2,h3⟩:=Si r ((n,c) :: acc) (λy hy=>h y (Aj _ hy)) (λm d hm=>by
    rw[Cd]at hm
    cases hq:(m==n)with
    | true=>rw[hq]at hm;cases hm;rw[eq_of_beq hq];exact hc
    | false=>rw[hq]at hm;exact ha m d hm)
   have e0:cellOf env n=pure c:=by unfold cellOf;rw[hc]
   refine⟨cl,?_,h1,λm d hm=>h2 m (if m==n then c else d) ?_,λy hy hf=>?_⟩
   ·simp only[beq_self_eq_true,if_true,e0,pure_bind]
    exact e
   ·rw[Cd]
    cases hq:(m==n)with
    | true=>rfl
    | false=>exact hm
   ·rcases Aw.mp hy with rfl | hy
    ·exact h2 n c (by rw[Cd,beq_self_eq_true])
    ·exact h3 y hy hf
  ·have hb:(k==Iq)=false:=by simpa using hk
   obtain⟨cl,e,h1,h2,h3⟩:=Si r acc (λy hy=>h y (Aj _ hy)) ha;refine⟨cl,?_,h1,h2,λy hy hf=>?_⟩
   ·simp only[hb,Dj,if_false,pure_bind]
    exact e
   ·rcases Aw.mp hy with rfl | hy
    ·exact(hk hf).elim
    ·exact h3 y hy hf
def W0{scope:Im}{env:Env}(h:∀y∈scope.names,y.2=.free->∃c,env.cells.lookup y.1=some c):∃cl,closureFor scope env=pure cl /\
  (∀n c,cl.lookup n=some c->env.cells.lookup n=some c)/\∀y∈scope.names,y.2=.free->∃c,cl.lookup y.1=some c:=by
 obtain⟨cl,e,h1,_,h3⟩:=Si scope.names [] h (λn c z=>by simp at z);refine⟨cl,?_,h1,h3⟩;unfold closureFor;exact(congrArg (λz=>z >>= λcs=>pure cs) e).trans (by rw[pure_bind])
def V3(X:Cx)(ifs:List Expr)(t:TT):Prop:=
 ∀(ζ:List (AK×Obj)) (s:AG) (σ:St) (H:Hp) (Q:Bool->Hp->Prop),Inv X ζ σ H s->t σ H Q ->
  Av (Af X.prog X.w) X.A (forIn ifs true λc r=>if r=true then do let ok <-Uq c X.env (Bw c X.env);pure (He ok)else pure (He r)) (TP X ζ σ Q) X.xe s
def Zq{X:Cx}:V3 X [] (λ_ H Q=>Q true H):=λζ s σ H Q I h=>wpAny_tests_nil ⟨H,I,h⟩
def Zp{X:Cx}{c:Expr}{t:TT}(h:PT X c t):V3 X [c] t:=λζ s σ H Q I q=>wpAny_tests_one (h ζ s σ H Q I q)
structure MA(X:Cx)(scope:Im)(own N':List Str):Prop where
 kind:scope.kind=.function
 nocell:∀y∈scope.names,y.2≠.cell
 names:∀y∈scope.names,y.2=.local->scope.names.lookup y.1=some .local
 free:∀y∈scope.names,y.2=.free->X.env.kindOf y.1=some .cell∨X.env.kindOf y.1=some .free
 len:N'.length=own.length+X.N.length
 up:∀i x,N'[own.length+i]?=some x->Vis (JV scope X.env) x->X.N[i]?=some x/\Vis X.env.scope x/\((JV scope X.env).names.lookup x=some .cell∨(JV scope X.env).names.lookup x=some .free)/\X.env.kindOf x≠some .local
 vis:∀x,((JV scope X.env).names.lookup x=some .cell∨(JV scope X.env).names.lookup x=some .free)->(x,Iq)∈scope.names
section
variable{X:Cx}{ζ:List (AK×Obj)}{σ:St}{H2:Hp}{s2:AG}{scope:Im}{own N':List Str}{cl:List (Str×AK)}{fp:List AK}{C:AK}{s:AG}{H:Hp}
def Vw(Sc:MA X scope own N')(I:Inv X ζ σ H2 s2)(hf:∀b∈fp,L9 X ζ H2 b)(hfl:∀b∈fp,b < s2.heap.objs.size)
  (c1:∀n c,cl.lookup n=some c->X.env.cells.lookup n=some c) (c2:∀y∈scope.names,y.2=.free->∃c,cl.lookup y.1=some c)
  (hC:s2.heap.objs.size<=C) {m:Str->Option AE} (hn:s.heap.Ns C m) (hos:s.os=s2.os) (hg:Ja s.gens)
  (u:Un (frs X.stack) fp H2 H s2.heap s.heap) (hok:HOk X.prog X.w H s.heap) (hHC:H C=none) :
  Inv (Dy X scope N' cl C s2 H2 fp (X.pn++ζ)) [] (Be own.length none++σ) H s:=by
 have cellK:∀x c v,cl.lookup x=some c->s2.heap.IsCell c v->s.heap.IsCell c v:=λx c v e ⟨o,ho,hd⟩=>by
  obtain⟨sl,q⟩:=u.any ho (I.freeC x c (c1 x c e)) λz=>(hf c z).2.2.2.2.1 x c (c1 x c e) rfl
  exact⟨_,q,hd⟩
 have ok':(Dy X scope N' cl C s2 H2 fp (X.pn++ζ)).Ok:=by
  refine⟨I.ok.mod,Sc.kind,I.ok.glob,I.ok.blt,hC,λx y c h1 h2=>I.ok.inj x y c (c1 x c h1) (c1 y c h2),λx hx=>?_,λx c z=>?_,I.ok.hd,I.ok.frames,.inl rfl,λb hb=>?_,I.bs,At I.ok.bsz I.sz,λb o e hb=>?_,λb hb hb'=>?_,I.stack,I.stkFree⟩
  ·obtain⟨c,hc⟩:=c2 _ (Sc.vis x hx) rfl
   exact⟨c,hc⟩
  ·exact zX (show false=true from z) AZ
  ·exact⟨Aq (Ab (hfl b hb) hC),λx c e=>(hf b hb).2.2.2.2.1 x c (c1 x c e)⟩
  ·obtain⟨_,_,_,z,_⟩:=hf b hb
   rcases z with z | z
   ·exact I.ok.noex b o e z
   ·exact zX (Ab (Ai (I.ok.bs b o e).1) z) (E5 _)
  ·obtain⟨_,z1,z2,_⟩:=hf b hb
   rcases Aw.mp (I.stkSub b hb')with e | e
   ·exact z1 e
   ·exact z2 e
 refine⟨ok',hos,hg,u,⟨m,hn,λi x v e1 e2 e3=>?_⟩,λx c e=>?_,hHC,λx c e=>?_,λp hp=>?_,hok,?_⟩
 ·have hi:own.length<=i:=by
   apply Ox
   intro hlt;rw[Aa (by simpa using hlt),DM,qX hlt]at e2;cases e2
  obtain⟨j,rfl⟩:∃j,i=own.length+j:=⟨i - own.length,by lia⟩
  rw[BK (by simp)]at e2
  have e2':σ[j]?=some (some v):=by simpa using e2
  obtain⟨n1,n2,n3,n4⟩:=Sc.up j x e1 e3;obtain⟨m0,hn0,hl⟩:=I.loc;obtain⟨w',r,lk⟩:=hl j x v n1 e2' n2;refine⟨w',r,.inr ⟨n3,?_⟩⟩
  rcases lk with⟨k,_⟩ | ⟨_,c,hc,hcell⟩
  ·exact(n4 k).elim
  ·obtain⟨c',hc'⟩:=c2 _ (Sc.vis x n3) rfl
   have e:=c1 x c' hc';rw[hc]at e;cases e;exact⟨c,hc',cellK x c _ hc' hcell⟩
 ·obtain⟨v,z⟩:=I.cell x c (c1 x c e)
  exact⟨v,cellK x c v e z⟩
 ·obtain⟨v,o,ho,hd⟩:=I.cell x c (c1 x c e)
  exact u.free c o ho (I.freeC x c (c1 x c e)) λz=>(hf c z).2.2.2.2.1 x c (c1 x c e) rfl
 ·have hp':p∈X.pn++ζ:=by
   have hp:p∈(X.pn++ζ)++[]:=hp;rwa [BW]at hp
  obtain⟨e,n,ne,nf,d⟩:=I.pin p hp'
  have nfs:p.1∉frs X.stack:=λz=>(Aw.mp (I.stkSub _ z)).elim ne nf
  have nfp:p.1∉fp:=λz=>(hf _ z).2.2.2.2.2 p hp' rfl
  exact⟨u.keep p.1 p.2 e n nfs nfp,u.free p.1 p.2 e n nfp,Aq (Ab (Ai e) hC),nfs,d⟩
 ·show(Be own.length none++σ).length=N'.length
  rw[Ad,LB,I.len,Sc.len]
def ZR(k:Nat)(wi:TI)(g:TG)(tc:TT)(te:TE):TE:=λσ H Q=>wi σ H λJ H1=>∀p,H1 p=none->∃W:Nat->Nat->St->Hp->List V->Prop,(∃m,W 0 m (Be k none++σ) (upd H1 p (.lst [])) []) /\
 ∀i m σ' H' xs,W i m σ' H' xs->H' p=some (.lst xs)/\((J.stop i H'/\Q (.ref p) H')∨(J.go i H'/\xs.length < sizeLine/\∀x H'',J.yld i H' x H''->g x σ' H'' λσ2 H2=>tc σ2 H2 λb H3=>
  if b=true then te σ2 H3 λy H4=>H4 p=some (.lst xs)/\∃m',m' < m/\W (i+1) m' σ2 (upd H4 p (.lst (xs++[y]))) (xs++[y])else ∃m',m' < m/\W (i+1) m' σ2 H3 xs))
def YX{X':Cx}{elt ϖ iter:Expr}{ifs:List Expr}{pos:Pos}{J:It}{it p:AK}{tn:Nat->B7->Prop}{g:TG}{tc:TT}{te:TE}{R:g8->AG->Prop}{Q:Hp->Prop}
  (hc:X'.calm=true) (hx:X'.xe=λ_ _=>False) (T:Su X'.prog X'.w X'.K ϖ J fp it tn) (hg:PG X' ϖ g) (hif:V3 X' ifs tc) (he:PE X' elt te)
  (W:Nat->Nat->St->Hp->List V->Prop) (turn:∀i m σ' H' xs,W i m σ' H' xs->H' p=some (.lst xs)/\((J.stop i H'/\Q H')∨(J.go i H'/\xs.length < sizeLine/\∀x H'',J.yld i H' x H''->g x σ' H'' λσ2 H2=>tc σ2 H2 λb H3=>
   if b=true then te σ2 H3 λy H4=>H4 p=some (.lst xs)/\∃m',m' < m/\W (i+1) m' σ2 (upd H4 p (.lst (xs++[y]))) (xs++[y])else ∃m',m' < m/\W (i+1) m' σ2 H3 xs)))
  (fin:∀σ' H' s',Inv X' [] σ' H' s'->Q H'->R (.ok .next) s')
  {m0:Nat} {σ0:St} {H0:Hp} {s0:AG} (I0:Inv X' [] σ0 H0 s0) (st0:tn 0 s0.heap) (f0:∀b∈fp,L9 X' [] H0 b) (w0:W 0 m0 σ0 H0 []) :
  Li (Af X'.prog X'.w) X'.A (.compLoop (.ListComp elt [⟨ϖ,iter,ifs,0⟩] scope pos) 0 (.ref it) (.ref p) X'.env) R s0:=by
 have stat:∀{H':Hp},(∀b∈fp,H' b=none)->∀b∈fp,L9 X' [] H' b:=λhn b hb=>⟨hn b hb,(f0 b hb).2⟩
 refine codeAny_loop rfl (λn s'=>∃i σ' H' xs,Inv X' [] σ' H' s'/\tn i s'.heap/\(∀b∈fp,H' b=none)/\W i n σ' H' xs) (λn s1 hI=>?_) m0 ⟨0,σ0,H0,[],I0,st0,λb hb=>(f0 b hb).1,w0⟩;obtain⟨i,σ1,H1,xs,I1,st1,fr1,w1⟩:=hI;show Av _ X'.A ((compTurn (.ListComp elt [⟨ϖ,iter,ifs,0⟩] scope pos) 0 (.ref it) (.ref p) X'.env).onRaise (λx=>do noteFrame x X'.env;theTreesLotGoes x)) _ _ s1;refine wpAny_noted ?_;rw[compTurn_list]
 have up:∀{α:Type} {t:Sem α} {P:α->AG->Prop} {E:AE->AG->Prop} {s:AG},Av (Af X'.prog X'.w) X'.A t P X'.xe s->Av (Af X'.prog X'.w) X'.A t P E s:=λh=>HA h (λ_ _ z=>z) λ_ _ z=>by rw[hx]at z;exact z.elim
 obtain⟨hp,hcase⟩:=turn i n σ1 H1 xs w1;refine AH (wpAny_standAt (AH ?_))
 rcases hcase with⟨stop,q⟩ | ⟨go,hz,step⟩
 ·refine up (thn (T.done X' rfl rfl rfl hc i [] s1 σ1 H1 X'.xe I1 (stat fr1) st1 stop) λr s4 ⟨hr,I4⟩=>?_)
  subst hr;exact AY (fin σ1 H1 s4 I4 q)
 ·refine up (thn (T.item X' rfl rfl rfl hc i [] s1 σ1 H1 X'.xe I1 (stat fr1) st1 go) λr s4 ⟨u,hr,h4⟩=>?_)
  subst hr;refine AH (up (thn h4 λ_ s5 ⟨x,H5,I5,r5,y5,st5,fr5⟩=>?_));have I5':=I5.pinned (stat fr5) (T.obj _ _ st5);refine AH (up (thn (hg _ s5 σ1 H5 x u _ I5' r5 (step x H5 y5)) λ_ s6 ⟨σ6,H6,I6,q6⟩=>?_))
  have kX:∀{s7:AG} {σ7:St} {H7:Hp} {ys:List V},Inv X' ([]++Pg fp s5.heap) σ7 H7 s7->(∃m',m' < n/\W (i+1) m' σ7 H7 ys)->∃m,m < n/\∃i σ' H' xs,Inv X' [] σ' H' s7/\tn i s7.heap/\(∀b∈fp,H' b=none)/\W i m σ' H' xs:=λ{s7 σ7 H7 ys} I7 ⟨m',hm,w7⟩=>by
   refine⟨m',hm,i+1,σ7,H7,ys,I7.unpinned,T.keep _ _ _ st5 λb hb o e=>(I7.pin (b,o) (A4 _ (A4 _ (J4 hb e)))).1,λb hb=>?_,w7⟩;obtain⟨o,e,d⟩:=T.obj _ _ st5 b hb;exact(I7.pin (b,o) (A4 _ (A4 _ (J4 hb e)))).2.1
  refine AH (up (thn (hif _ s6 σ6 H6 _ I6 q6) λok s7 ⟨H7,I7,q7⟩=>?_))
  cases ok with
  | false=>
   rw[qY AZ]at q7;exact AY ⟨rfl,kX I7 q7⟩
  | true=>
   rw[qX rfl]at q7;refine AH (AH (up (thn (he _ s7 σ6 H7 _ I7 q7) λyv s8 ⟨y,H8,I8,r8,hp8,q8⟩=>?_)));refine AH (up (thn (RM (X:=X') _ s8 σ6 H8 (.ref p) [y] (.ref p) [yv] (λv H9=>v=.non/\H9=upd H8 p (.lst (xs++[y]))) I8 rfl (.cons r8 .nil) ⟨p,xs,y,rfl,rfl,hp8,hz,rfl,rfl⟩) λv9 s9 ⟨v,H9,I9,r9,e9,e10⟩=>?_));subst e10;exact AY (AY ⟨rfl,kX I9 q8⟩)
end
section
variable{X:Cx}{ζ:List (AK×Obj)}{σ:St}{H2:Hp}{s2:AG}{scope:Im}{own N':List Str}{cl:List (Str×AK)}{fp:List AK}{C:AK}
def RX{σ':St}{H':Hp}{s':AG}{h':B7}(I2:Inv X ζ σ H2 s2)(J:Inv (Dy X scope N' cl C s2 H2 fp (X.pn++ζ)) [] σ' H' s')(hC:s2.heap.objs.size<=C)(hf:∀b∈fp,L9 X ζ H2 b)
  (sb:Ec C s'.heap h'):Inv X ζ σ H' { s' with heap:=h' }:=by
 have ne:∀b o,s2.heap.get? b=some o->b≠C:=λb o e=>Aq (Ab (Ai e) hC)
 have jb:Un (frs X.stack) fp H2 H' s2.heap s'.heap:=J.base
 have u:Un (frs X.stack) fp H2 H' s2.heap h':=by
  refine⟨λb o e n hb hx=>(sb.2 b (ne b o e)).trans (jb.keep b o e n hb hx),λb o e n hb hx=>?_,jb.free,λb o e hx=>?_,jb.tups,jb.frzs,jb.tbls⟩
  ·obtain⟨sl,q⟩:=jb.slot b o e n hb hx
   exact⟨sl,(sb.2 b (ne b o e)).trans q⟩
  ·obtain⟨o',q⟩:=jb.there b o e hx
   exact⟨o',(sb.2 b (ne b o e)).trans q⟩
 have hHC:H' C=none:=J.free
 have hok:HOk X.prog X.w H' h':=λa o e=>(J.hok a o e).stay (λb u hb q=>(sb.2 b λz=>by
  subst z
  rcases hb with z | z
  ·subst z;rw[hHC]at e;cases e
  ·rw[hHC]at z;cases z).trans q) (λ_ q=>q) λ_ _ q=>q
 exact I2.call' (s':={ s' with heap:=h' }) (ch:=fp) J.os u hok J.bare λb hb=>by
  obtain⟨_,z1,z2,z3,z4,z5⟩:=hf b hb;exact⟨z3,z1,z4,z5⟩
variable{elt iter ϖ:Expr}{ifs:List Expr}{pos:Pos}{wi:TI}{g:TG}{tc:TT}{te:TE}
def QF{σ:St}{E:AE->AG->Prop}{Qf:AK->Hp->Prop}{RR:AE->AK->g8->AG->Prop}{it:AK}{J:It}{tn:Nat->B7->Prop}(hc:X.calm=true)(Sc:MA X scope own N')
  (hg:∀cl C s₁ H₁ ex pn,PG (Dy X scope N' cl C s₁ H₁ ex pn) ϖ g) (hif:∀cl C s₁ H₁ ex pn,V3 (Dy X scope N' cl C s₁ H₁ ex pn) ifs tc) (he:∀cl C s₁ H₁ ex pn,PE (Dy X scope N' cl C s₁ H₁ ex pn) elt te)
  (c1:∀n c,cl.lookup n=some c->X.env.cells.lookup n=some c) (c2:∀y∈scope.names,y.2=.free->∃c,cl.lookup y.1=some c)
  (I2:Inv X ζ σ H2 s2) (T:Su X.prog X.w X.K ϖ J fp it tn) (st2:tn 0 s2.heap) (f2:∀b∈fp,L9 X ζ H2 b)
  (q2:∀p,H2 p=none->∃W:Nat->Nat->St->Hp->List V->Prop,(∃m,W 0 m (Be own.length none++σ) (upd H2 p (.lst [])) []) /\
   ∀i m σ' H' xs,W i m σ' H' xs->H' p=some (.lst xs)/\((J.stop i H'/\Qf p H')∨(J.go i H'/\xs.length < sizeLine/\∀x H'',J.yld i H' x H''->g x σ' H'' λσ2 H2=>tc σ2 H2 λb H3=>
    if b=true then te σ2 H3 λy H4=>H4 p=some (.lst xs)/\∃m',m' < m/\W (i+1) m' σ2 (upd H4 p (.lst (xs++[y]))) (xs++[y])else ∃m',m' < m/\W (i+1) m' σ2 H3 xs)))
  (hRR:∀D C σ' H' s',s2.heap.objs.size<=C->Inv (Dy X scope N' cl C s2 H2 fp (X.pn++ζ)) [] σ' H' s'->Qf D H'->RR (.ref D) C (.ok .next) s') :
  Av (Af X.prog X.w) X.A (newList []) (λacc s₃=>Av (Af X.prog X.w) X.A (newFunctionEnv scope X.env.globals cl [] X.env.qual none .none (some X.env)) (λcenv s₄=>
   Li (Af X.prog X.w) X.A (.compStart (.ListComp elt [⟨ϖ,iter,ifs,0⟩] scope pos) 0 (.ref it) acc { cenv with scope:=JV scope X.env }) (RR acc cenv.locals) s₄) E s₃) E s2:=by
 have hfl:∀b∈fp,b < s2.heap.objs.size:=λb hb=>by
  obtain⟨o,e,_⟩:=T.obj _ _ st2 b hb;exact Ai e
 refine Fh (wpAny_newFunctionEnv Sc.nocell (by intro y hy;simp at hy) (λh₁ hns₁ hsb₁=>?_) Sc.kind);dsimp only at hns₁ hsb₁ ⊢;generalize hH3:s2.heap.push { cls:=.type "list",dict:=none,data:=.seq ([]:List AE).toArray }=H3 at hns₁ hsb₁ ⊢
 have hC:H3.objs.size=s2.heap.objs.size+1:=by rw[<-hH3,C5]
 have hDC:s2.heap.objs.size≠H3.objs.size:=by rw[hC];exact Aq (Df _)
 have hCle:s2.heap.objs.size<=H3.objs.size:=by rw[hC];exact G2 _
 have old:∀b o,s2.heap.get? b=some o->h₁.get? b=some o:=λb o e=>hsb₁.extBut b o (Aq (by rw[hC];exact HC (Ai e))) (AJ _ (hH3▸AJ _ e))
 have hacc:h₁.get? s2.heap.objs.size=some { cls:=.type "list",dict:=none,data:=.seq ([]:List AE).toArray }:=hsb₁.extBut _ _ hDC (AJ _ (hH3▸Ak _ rfl));have hD:H2 s2.heap.objs.size=none:=I2.hok.fresh (AQ _);have u:Un (frs X.stack) fp H2 (upd H2 s2.heap.objs.size (.lst [])) s2.heap h₁:=Un.laid old (AQ _) hD;have hok:HOk X.prog X.w (upd H2 s2.heap.objs.size (.lst [])) h₁:=I2.hok.laid old (AQ _) ⟨Cr _,[],0,.nil,hacc⟩
 have hHC:upd H2 s2.heap.objs.size (.lst []) H3.objs.size=none:=by rw[Bc (CB hDC)];exact I2.hok.fresh hCle
 obtain⟨W,⟨m0,w0⟩,turn⟩:=q2 s2.heap.objs.size hD
 have loop:∀s₃:AG,s₃={ s2 with heap:=h₁,toks:=s2.toks+([]:List (Str×AE)).length } ->
   Li (Af X.prog X.w) X.A (.compLoop (.ListComp elt [⟨ϖ,iter,ifs,0⟩] scope pos) 0 (.ref it) (.ref s2.heap.objs.size) (compEnvC scope cl H3.objs.size X.env))
    (RR (.ref s2.heap.objs.size) H3.objs.size) s₃:=by
  rintro s₃ rfl
  have J0:Inv (Dy X scope N' cl H3.objs.size s2 H2 fp (X.pn++ζ)) [] (Be own.length none++σ) (upd H2 s2.heap.objs.size (.lst [])) { s2 with heap:=h₁,toks:=s2.toks+([]:List (Str×AE)).length }:=
   Vw (s:={ s2 with heap:=h₁,toks:=s2.toks+([]:List (Str×AE)).length }) Sc I2 f2 hfl c1 c2 hCle hns₁ rfl I2.bare u hok hHC
  refine YX (X':=Dy X scope N' cl H3.objs.size s2 H2 fp (X.pn++ζ)) (fp:=fp) (Q:=Qf s2.heap.objs.size) hc rfl T (hg _ _ _ _ _ _) (hif _ _ _ _ _ _) (he _ _ _ _ _ _) W turn (λσ' H' s' J q=>hRR _ _ σ' H' s' hCle J q) J0 (T.keep _ _ _ st2 λb _ o e=>old b o e) (λb hb=>?_) w0;obtain⟨z0,z1,z2,z3,z4,z5⟩:=f2 b hb;refine⟨by rw[Bc (Aq (hfl b hb))];exact z0,Aq (Ab (hfl b hb) hCle),λz=>?_,.inl hb,λx c e=>z4 x c (c1 x c e),λp hp=>?_⟩
  ·exact(Aw.mp (I2.stkSub _ z)).elim z1 z2
  ·have hp:p∈(X.pn++ζ)++[]:=hp
   rw[BW]at hp;exact z5 p hp
 exact codeAny_compStart_list (loop _ rfl) (T.self X.A 0 _ _ _ (T.keep _ _ _ st2 λb _ o e=>old b o e) (loop _ rfl))
def dv(hc:X.calm=true)(Sc:MA X scope own N')(hi:PI X ϖ iter wi)
  (hg:∀cl C s₁ H₁ ex pn,PG (Dy X scope N' cl C s₁ H₁ ex pn) ϖ g) (hif:∀cl C s₁ H₁ ex pn,V3 (Dy X scope N' cl C s₁ H₁ ex pn) ifs tc) (he:∀cl C s₁ H₁ ex pn,PE (Dy X scope N' cl C s₁ H₁ ex pn) elt te)
  (hs:∀x,Fi iter X.env x=pure x:=by intro _;rfl):PE X (.ListComp elt [⟨ϖ,iter,ifs,0⟩] scope pos) (ZR own.length wi g tc te):=by
 intro ζ s σ H Q I h;rw[eval_ListComp];obtain⟨cl,hclos,c1,c2⟩:=W0 (scope:=scope) (env:=X.env) (λy hy hf=>I.ok.has y.1 (Sc.free y hy hf));refine XA (use:=none) rfl hs hclos Sc.kind Sc.names (thn (hi ζ s σ H _ I h) λv s1 h1=>thn h1 λitv s2 h2=>?_);obtain⟨it,fp,tn,J,H2,rfl,I2,T,st2,f2,q2⟩:=h2
 refine QF (Qf:=λp H'=>Q (.ref p) H') (RR:=λacc C=>compPost (Af X.prog X.w) X.A X.xe none (EP X ζ σ Q) acc C) hc Sc hg hif he c1 c2 I2 T st2 f2 q2 λD C σ' H' s' hC J q=>?_
 obtain⟨m,hn,_⟩:=J.loc;exact⟨m,hn,λh' sb=>⟨.ref D,H',RX I2 J hC f2 sb,rfl,q⟩⟩
def dZ{i:Nat}{y:Str}{py spos:Pos}(hc:X.calm=true)(hsw:Gb (.ListComp elt [⟨ϖ,iter,ifs,0⟩] scope pos) (some (.Name y py)) spos.line X.env=pure true)
  (hN:X.N.Nodup) (hy:X.N[i]?=some y) (hloc:Loc X.env.scope y) (Sc:MA X scope own N') (hi:PI X ϖ iter wi)
  (hg:∀cl C s₁ H₁ ex pn,PG (Dy X scope N' cl C s₁ H₁ ex pn) ϖ g) (hif:∀cl C s₁ H₁ ex pn,V3 (Dy X scope N' cl C s₁ H₁ ex pn) ifs tc) (he:∀cl C s₁ H₁ ex pn,PE (Dy X scope N' cl C s₁ H₁ ex pn) elt te)
  (hs:∀x,Fi iter X.env x=pure x:=by intro _;rfl) (hf:X.fn y=true∨X.env.scope.names.lookup y=some .local:=by first | exact .inl rfl | exact .inr rfl | assumption) :
  PS X (.Assign [.Name y py] (.ListComp elt [⟨ϖ,iter,ifs,0⟩] scope pos) spos) (il (ZR own.length wi g tc te) (Wt i)):=by
 intro ζ s σ H D I h;rw[exec_Assign_Name_used _ _ _ _ hsw];refine AH (wpAny_standAt (AH ?_));show Av _ X.A (do let _ <-comprehension (.ListComp elt [⟨ϖ,iter,ifs,0⟩] scope pos) scope X.env _ (newList []) false (Bw iter X.env) (some (Ot (.Name y py) X.env))) _ _ s;obtain⟨cl,hclos,c1,c2⟩:=W0 (scope:=scope) (env:=X.env) (λy hy hf=>I.ok.has y.1 (Sc.free y hy hf))
 refine AH (HA (XA (use:=some (Ot (.Name y py) X.env)) (Q:=λ_ s'=>SP X ζ D .next s') rfl hs hclos Sc.kind Sc.names
  (thn (hi ζ s σ H _ I h) λv s1 h1=>thn h1 λitv s2 h2=>?_)) (λ_ s' hq=>AY (AY hq)) λ_ _ e=>e)
 obtain⟨it,fp,tn,J,H2,rfl,I2,T,st2,f2,q2⟩:=h2
 refine QF (Qf:=λp H'=>D.nx (σ.set i (some (.ref p))) H') (RR:=λacc C=>compPost (Af X.prog X.w) X.A X.xe (some (Ot (.Name y py) X.env)) (λ_ s'=>SP X ζ D .next s') acc C) hc Sc hg hif he c1 c2 I2 T st2 f2 q2 λA C σ' H' s' hC J q=>?_
 obtain⟨m,hn,_⟩:=J.loc;have I3:Inv X ζ σ H' s':=RX I2 J hC f2 (nY ..);have hHC:H' C=none:=J.free
 have hcell:∀x c,X.env.cells.lookup x=some c->c≠C:=λx c e z=>by
  obtain⟨v,q⟩:=I2.cell x c e;exact zX (Ab q.lt (by rw[z];exact hC)) (E5 _)
 have hloc':C≠X.env.locals:=OG (Ab I2.lt hC);show Av _ X.A (Ot (.Name y py) X.env (.ref A)) _ _ s';refine kQ (RC (v:=.ref A) I3 hN hy hloc rfl (λs4 I4 ⟨a,sb,ha⟩=>?_) hf)
 have haC:C≠a:=by
  rcases ha with e | e
  ·rw[e];exact hloc'
  ·exact CB (hcell _ _ e)
 refine⟨m,hn.sameBut sb haC,λh' sb'=>⟨_,H',?_,q⟩⟩
 refine I4.turned (t':=s4.toks) (it:=C) (λb o hb e=>(sb'.2 b hb).trans e) hHC hloc' (.inr (At I2.sz hC)) hcell λp hp z=>?_
 exact zX (Ab (Ai (I2.pin p hp).1) (by rw[z];exact hC)) (E5 _)
end
def FY(v:IF)(g:MG)(c:MT)(m:ME):Nat->Nat->Lo->Sto->List D->Res (List D)
 | k,i,e,S,acc=>match v S with
  | none=>.bad
  | some ds=>match ds[i]? with
   | none=>.ok acc S
   | some d=>match k with
    | 0=>.bad
    | k+1=>if acc.length < sizeLine then(okR (g d e S)).bind λe1 S1=>(okR (c e1 S1)).bind λb S2=>if b=true then(okR (m e1 S2)).bind λy S3=>FY v g c m k (i+1) e1 S3 (acc++[y])else FY v g c m k (i+1) e1 S2 acc else .bad
def D4(n:Nat)(mi:MI)(g:MG)(c:MT)(m:ME):ML:=λe S=>(mi e S).bind λv S1=>FY v g c m (Cp v S1) 0 (Be n none++e) S1 []
def EK:MT:=λ_ S=>.ok true S
section
variable{X:Cx}{E:EW}{scope:Im}{own N':List Str}{elt iter ϖ:Expr}{ifs:List Expr}{pos:Pos}{mi:MI}{g:MG}{c:MT}{m:ME}
abbrev fy(X:Cx)(E:EW)(ifs:List Expr)(c:MT):Prop:=V3 X ifs (gT X.K E c)
def FF:fy X E [] EK:=λζ s σ H Q I ⟨ρ,l,S,hl,hs,hm⟩=>by
 exact Zq ζ s σ H Q I (hm ρ H .refl hs)
def Kr{e:Expr}(h:GT X E e c):fy X E [e] c:=Zp h
def Fx.grow{K:AA}{ρ:List AK}{H:Hp}{e:Lo}{σ:St}(n:Nat)(h:Fx K ρ H e σ):Fx K ρ H (Be n none++e) (Be n none++σ):=by
 refine⟨by simp[h.len],λi d q=>?_⟩
 by_cases hi:i < n
 ·rw[Aa (by simpa using hi),DM,qX hi]at q
  cases q
 ·rw[BK (by simpa using hi)]at q ⊢
  simp only[LB]at q ⊢;exact h.at' _ d q
def CK.ok_of{α:Type}{K:AA}{E:EH}{ρ:List AK}{H:Hp}{r:Res α}{k:α->Sto->Prop}{a:α}{S:Sto}(e:r=.ok a S)(h:k a S):CK K E ρ H r k:=by
 subst e;exact h
def Po{α β:Type}{r:Res α}{F:α->Sto->Res β}{b:β}{S:Sto}(h:(okR r).bind F=.ok b S):∃a S1,r=.ok a S1/\F a S1=.ok b S:=by
 cases r with
 | ok a S1=>exact⟨a,S1,rfl,h⟩
 | err c S1=>cases h
 | bad=>cases h
def UW{v:IF}{g:MG}{c:MT}{m:ME}{er:AK}{S':Sto}:∀(k i:Nat) (e:Lo) (S:Sto) (acc:List D),FY v g c m k i e S acc≠.err er S':=by
 intro k
 induction k with
 | zero=>
  intro i e S acc h;unfold FY at h;split at h
  ·cases h
  ·split at h <;> cases h
 | succ k ih=>
  intro i e S acc h;unfold FY at h;split at h
  ·cases h
  ·split at h
   ·cases h
   ·dsimp only at h
    split at h
    ·cases h1:g _ e S with
     | ok e1 S1=>
      rw[h1]at h;dsimp only[okR,Res.bind]at h
      cases h2:c e1 S1 with
      | ok b S2=>
       rw[h2]at h;dsimp only[okR,Res.bind]at h
       cases b with
       | true=>
        rw[qX rfl]at h
        cases h3:m e1 S2 with
        | ok y S3=>rw[h3]at h;exact ih _ _ _ _ h
        | err _ _=>rw[h3]at h;cases h
        | bad=>rw[h3]at h;cases h
       | false=>
        rw[qY AZ]at h;exact ih _ _ _ _ h
      | err _ _=>rw[h2]at h;cases h
      | bad=>rw[h2]at h;cases h
     | err _ _=>rw[h1]at h;cases h
     | bad=>rw[h1]at h;cases h
    ·cases h
def Te{K:AA}{n:Nat}{σ:St}{H:Hp}{Q:VK}(h:gL K E (D4 n mi g c m) σ H Q):ZR n (gI K E mi) (gG K g) (gT K noE c) (gE K noE m) σ H Q:=by
 obtain⟨ρ,l,S,hl,hs,hm⟩:=h;refine⟨ρ,l,S,hl,hs,hm.seq λv S1 hm ρ1 H1 J l1 s1 vo p hp=>?_⟩
 obtain⟨ds,S',hm,k⟩:∃ds S',FY v g c m (Cp v S1) 0 (Be n none++l) S1 []=.ok ds S'/\∀ρ' H' p xs,Le K ρ H ρ' H'->CA K ρ' S' H'->A0 K ρ' H' ds xs->H' p=some (.lst xs)->(∀n:Nat,ρ'[n]?≠some p)->H p=none->Q (.ref p) H':=by
  cases hc:FY v g c m (Cp v S1) 0 (Be n none++l) S1 []with
  | ok ds S'=>rw[hc]at hm;exact⟨ds,S',rfl,hm⟩
  | err c S'=>exact(UW _ _ _ _ _ hc).elim
  | bad=>rw[hc]at hm;exact hm.elim
 obtain⟨s1',l1'⟩:=IC (ho:=.lst []) s1 hp;have hp0:H p=none:=l1.back hs s1 hp
 refine⟨λi j σ2 H2 xs=>∃ρ2 e2 S2 acc,Le K ρ1 H1 ρ2 H2/\Fx K ρ2 H2 e2 σ2/\CA K ρ2 S2 H2/\A0 K ρ2 H2 acc xs/\H2 p=some (.lst xs)/\(∀q:Nat,ρ2[q]?≠some p)/\FY v g c m j i e2 S2 acc=.ok ds S',
  ⟨Cp v S1,ρ1,_,S1,[],l1',(hl.mono (l1.trans l1')).grow n,s1',.nil,Bm,λq e=>s1.notIn hp e,hm⟩,?_⟩
 rintro i j σ2 H2 xs ⟨ρ2,e2,S2,acc,l2,r2,s2,ra,hp2,hn2,hm2⟩;refine⟨hp2,?_⟩;unfold FY at hm2
 cases hv:v S2 with
 | none=>rw[hv]at hm2;cases hm2
 | some vs=>
  rw[hv]at hm2;dsimp only at hm2;obtain⟨v1,v2⟩:=vo ρ2 H2 S2 vs i l2 s2 hv
  cases hd:vs[i]? with
  | none=>
   rw[hd]at hm2;cases hm2;exact .inl ⟨v1 hd,k ρ2 H2 p xs (l1.trans l2) s2 ra hp2 hn2 hp0⟩
  | some d=>
   rw[hd]at hm2;dsimp only at hm2;obtain⟨go,yl⟩:=v2 d hd
   cases j with
   | zero=>cases hm2
   | succ j=>
    dsimp only at hm2;split at hm2
    ·rename_i hz
     obtain⟨e3,S3,h3,hm2⟩:=Po hm2;obtain⟨b,S4,h4,hm2⟩:=Po hm2;refine .inr ⟨go,by rw[<-ra.length];exact hz,λx H' y=>?_⟩;obtain⟨ρ3,l3,s3,rd⟩:=yl x H' y;obtain⟨hp3,hn3⟩:=l3.oth p _ hp2 hn2;refine⟨ρ3,e2,S2,d,rd,r2.mono l3,s3,CK.ok_of h3 λρ4 H4 σ4 l4 s4 r4=>?_⟩;obtain⟨hp4,hn4⟩:=l4.oth p _ hp3 hn3;refine⟨ρ4,e3,S3,r4,s4,CK.ok_of h4 λρ5 H5 l5 s5=>?_⟩;obtain⟨hp5,hn5⟩:=l5.oth p _ hp4 hn4
     cases b with
     | false=>
      rw[qY AZ]at hm2 ⊢;exact⟨j,Df j,ρ5,e3,S4,acc,l2.trans (l3.trans (l4.trans l5)),r4.mono l5,s5,ra.mono (l3.trans (l4.trans l5)),hp5,hn5,hm2⟩
     | true=>
      rw[qX rfl]at hm2 ⊢;obtain⟨yv,S5,h5,hm2⟩:=Po hm2;refine⟨ρ5,e3,S4,r4.mono l5,s5,CK.ok_of h5 λρ6 H6 y6 l6 s6 r6=>?_⟩;obtain⟨hp6,hn6⟩:=l6.oth p _ hp5 hn5
      have l7:∀xs',Le K ρ6 H6 ρ6 (upd H6 p (.lst xs'))->True:=λ_ _=>trivial
      have up7:∀xs':List V,CA K ρ6 S5 (upd H6 p (.lst xs'))/\(∀a o,E2 K ρ6 H6 a o->a≠p->E2 K ρ6 (upd H6 p (.lst xs')) a o)/\∀e' w',Bu K ρ6 H6 e' w'->Bu K ρ6 (upd H6 p (.lst xs')) e' w':=λxs'=>by
       have kk:=Gt (H:=H6) (p:=p) (ho:=.lst xs') (.inr (by rw[hp6];trivial))
       have mono:∀e' w',Bu K ρ6 H6 e' w'->Bu K ρ6 (upd H6 p (.lst xs')) e' w':=λe' w' r=>r.keep kk.1 kk.2
       have mob:∀a o,E2 K ρ6 H6 a o->a≠p->E2 K ρ6 (upd H6 p (.lst xs')) a o:=λa o r ne=>r.keep kk.1 kk.2 (Bc ne)
       exact⟨⟨s6.len,s6.nd,λn o a q1 q2=>mob a o (s6.ob n o a q1 q2) λz=>hn6 n (by rw[<-z];exact q2)⟩,mob,mono⟩
      obtain⟨u1,u2,u3⟩:=up7 (xs++[y6]);refine⟨hp6,j,Df j,ρ6,e3,S5,acc++[yv],?_,?_,u1,?_,Bm,hn6,hm2⟩
      ·have lx:=l2.trans (l3.trans (l4.trans (l5.trans l6)))
       have kk:=Gt (H:=H6) (p:=p) (ho:=.lst (xs++[y6])) (.inr (by rw[hp6];trivial))
       exact⟨lx.pre,λa zs q=>kk.1 a zs (lx.tup a zs q),λa o u q=>kk.2 a o u (lx.frz a o u q),λa o q z=>by
        have nap:a≠p:=CP q hp;obtain⟨z1,z2⟩:=lx.oth a o q z
        exact⟨by rw[Bc nap];exact z1,z2⟩⟩
      ·have rr:=r4.mono (l5.trans l6)
       exact⟨rr.len,λq d' hq=>by
        obtain⟨w',z1,z2⟩:=rr.at' q d' hq
        exact⟨w',z1,u3 _ _ z2⟩⟩
      ·have ra6:=ra.mono (l3.trans (l4.trans (l5.trans l6)))
       have kk:=Gt (H:=H6) (p:=p) (ho:=.lst (xs++[y6])) (.inr (by rw[hp6];trivial));exact(ra6.keep kk.1 kk.2).append (.cons (u3 _ _ r6) .nil)
    ·cases hm2
def HY(hc:X.calm=true)(Sc:MA X scope own N')(hi:GI X E ϖ iter mi)
  (hg:∀cl C s₁ H₁ ex pn,GG (Dy X scope N' cl C s₁ H₁ ex pn) ϖ g) (hif:∀cl C s₁ H₁ ex pn,fy (Dy X scope N' cl C s₁ H₁ ex pn) noE ifs c) (he:∀cl C s₁ H₁ ex pn,GE (Dy X scope N' cl C s₁ H₁ ex pn) noE elt m)
  (hs:∀x,Fi iter X.env x=pure x:=by intro _;rfl):GL X E (.ListComp elt [⟨ϖ,iter,ifs,0⟩] scope pos) (D4 own.length mi g c m):=
 (dv (g:=gG X.K g) (tc:=gT X.K noE c) (te:=gE X.K noE m) hc Sc hi hg hif he hs).imp λ_ _ _ h=>Te h
def LJ{i:Nat}{y:Str}{py spos:Pos}(hc:X.calm=true)(hsw:Gb (.ListComp elt [⟨ϖ,iter,ifs,0⟩] scope pos) (some (.Name y py)) spos.line X.env=pure true)
  (hN:X.N.Nodup) (hy:X.N[i]?=some y) (hloc:Loc X.env.scope y) (Sc:MA X scope own N') (hi:GI X E ϖ iter mi)
  (hg:∀cl C s₁ H₁ ex pn,GG (Dy X scope N' cl C s₁ H₁ ex pn) ϖ g) (hif:∀cl C s₁ H₁ ex pn,fy (Dy X scope N' cl C s₁ H₁ ex pn) noE ifs c) (he:∀cl C s₁ H₁ ex pn,GE (Dy X scope N' cl C s₁ H₁ ex pn) noE elt m)
  (hs:∀x,Fi iter X.env x=pure x:=by intro _;rfl) (hf:X.fn y=true∨X.env.scope.names.lookup y=some .local:=by first | exact .inl rfl | exact .inr rfl | assumption) :
  GS X E (.Assign [.Name y py] (.ListComp elt [⟨ϖ,iter,ifs,0⟩] scope pos) spos) (Bj i (Cq (D4 own.length mi g c m))):=by
 refine(dZ (g:=gG X.K g) (tc:=gT X.K noE c) (te:=gE X.K noE m) hc hsw hN hy hloc Sc hi hg hif he hs hf).imp λD σ H ⟨ρ,l,S,hl,hs,hm⟩=>?_
 refine Te (E:=E) (Q:=λx H'=>D.nx (σ.set i (some x)) H') ⟨ρ,l,S,hl,hs,CK.seq (F:=λds S1=>Res.ok (L2.D.ref S1.length) (S1++[Ob.lst ds])) (k:=λd S2=>CK X.K noH ρ H ((tgN i d l S2).bind λe1 S2=>.ok (.nx e1) S2) λfl S'=>OQ X.K E ρ H S' D fl) (CK.lift hm hl .refl λd S2 h=>h) λds S1 hm ρ1 H1 p xs l1 s1 r1 hp hn hp0=>?_⟩
 have l0:∀(n:Nat) a,ρ1[n]?=some a->(ρ1++[p])[n]?=some a:=λn a h=>by rw[Aa (AF.mp h).1];exact h
 obtain⟨s2,at2⟩:=s1.adopt (o:=.lst ds) hn ⟨xs,hp,r1.more l0⟩
 have l2:Le X.K ρ H (ρ1++[p]) H1:=⟨λn a h=>l0 n a (l1.pre n a h),l1.tup,l1.frz,λa o e h=>⟨(l1.oth a o e h).1,λn q=>by
  rcases IW q with⟨q,_⟩ | ⟨_,q⟩
  ·exact(l1.oth a o e h).2 n q
  ·exact CP e hp0 q⟩⟩
 exact hm _ _ _ l2 s2 ((hl.mono l2).set (.ref at2) i)
end
end L2
namespace L2
open PySem PySem.Spec PyProof.Rows PySem.SeqAt
def KF:D->D->Option Bool
 | .non,.non=>some true
 | .bl a,.bl b=>some (a==b)
 | .int a,.int b=>some (a==b)
 | .str a,.str b=>some (a==b)
 | .non,.int _=>some false
 | .non,.str _=>some false
 | .non,.bl _=>some false
 | .non,.tup _=>some false
 | .int _,.non=>some false
 | .str _,.non=>some false
 | .bl _,.non=>some false
 | .tup _,.non=>some false
 | .int _,.tup _=>some false
 | .tup _,.int _=>some false
 | _,_=>none
def eqL(f:D->D->Option Bool):List D->List D->Option Bool
 | [],[]=>some true
 | [],_ :: _=>some false
 | _ :: _,[]=>some false
 | x :: xs,y :: ys=>match f x y,eqL f xs ys with
  | some a,some b=>some (a&&b)
  | _,_=>none
def eqP:Nat->D->D->Option Bool
 | 0,x,y=>KF x y
 | n+1,x,y=>match x,y with
  | .tup xs,.tup ys=>eqL (eqP n) xs ys
  | x,y=>KF x y
def Kv{f:D->D->Option Bool}{x y:D}{xs ys:List D}{b:Bool}(h:eqL f (x :: xs) (y :: ys)=some b):∃a c,f x y=some a/\eqL f xs ys=some c/\b=(a&&c):=by
 unfold eqL at h;split at h
 ·rename_i a c h1 h2
  cases h;exact⟨a,c,h1,h2,rfl⟩
 ·cases h
def Sf{f:D->D->Option Bool}:∀{xs ys:List D} {b:Bool},eqL f xs ys=some b->(∀(j:Nat) x y,xs[j]?=some x->ys[j]?=some y->∃c,f x y=some c) /\
  b=((BA (min xs.length ys.length)).all (λj=>match xs[j]?,ys[j]? with | some x,some y=>(f x y).getD false | _,_=>false)&&xs.length==ys.length)
 | [],[],b,h=>by cases h;exact⟨λj x y h=>by simp at h,by simp⟩
 | [],y :: ys,b,h=>by cases h;exact⟨λj x y h=>by simp at h,by simp⟩
 | x :: xs,[],b,h=>by cases h;exact⟨λj x y _ h=>by simp at h,by simp⟩
 | x :: xs,y :: ys,b,h=>by
  obtain⟨a,c,h1,h2,rfl⟩:=Kv h;obtain⟨i1,i2⟩:=Sf h2;refine⟨λj x' y' e1 e2=>?_,?_⟩
  ·cases j with
   | zero=>simp at e1 e2;subst e1;subst e2;exact⟨a,h1⟩
   | succ j=>exact i1 j x' y' (by simpa using e1) (by simpa using e2)
  ·rw[i2,A8,A8,show min (xs.length+1) (ys.length+1)=min xs.length ys.length+1 by lia,Uh,hX,Uk]
   simp only[List.getElem?_cons_zero,h1,Nr,Function.comp_def,List.getElem?_cons_succ];rw[Bool.and_assoc]
   congr 1
   congr 1
   rw[Bool.eq_iff_iff];simp
section
variable{K:AA}{ρ:List AK}{H:Hp}
def Wu(n k:Nat)(y:D):eqP n (.ref k) y=none:=by cases n <;> cases y <;> rfl
def Wv(n:Nat)(ds:List D)(y:D):eqP n (.fro ds) y=none:=by cases n <;> cases y <;> rfl
def Ww(n:Nat)(c:AK)(y:D):eqP n (.exc c) y=none:=by cases n <;> cases y <;> rfl
def Mf{x x':D}{v:V}(r1:Bu K ρ H x v)(r2:Bu K ρ H x' v):x=x'∨(∃ds ds' vs,x=.tup ds/\x'=.tup ds'/\A0 K ρ H ds vs/\A0 K ρ H ds' vs)∨(∀n y,eqP n x y=none)∨∀n y,eqP n x' y=none:=by
 cases r1 with
 | non=>cases r2;exact .inl rfl
 | bl b=>cases r2;exact .inl rfl
 | int b=>cases r2;exact .inl rfl
 | str b=>cases r2;exact .inl rfl
 | fro _ _=>exact .inr (.inr (.inl λn y=>Wv n _ y))
 | ref _=>exact .inr (.inr (.inl λn y=>Wu n _ y))
 | exc _ _=>exact .inr (.inr (.inl λn y=>Ww n _ y))
 | tup u1 u2=>
  cases r2 with
  | fro _ _=>exact .inr (.inr (.inr λn y=>Wv n _ y))
  | ref _=>exact .inr (.inr (.inr λn y=>Wu n _ y))
  | exc _ _=>exact .inr (.inr (.inr λn y=>Ww n _ y))
  | tup w1 w2=>
   rw[u1]at w1;cases w1;exact .inr (.inl ⟨_,_,_,rfl,rfl,u2,w2⟩)
def fM:∀(n:Nat) {x x' y:D} {v:V} {b b':Bool},Bu K ρ H x v->Bu K ρ H x' v->eqP n x y=some b->eqP n x' y=some b'->b=b':=by
 intro n
 induction n with
 | zero=>
  intro x x' y v b b' r1 r2 h h'
  rcases Mf r1 r2 with rfl | ⟨ds,ds',vs,rfl,rfl,_,_⟩ | q | q
  ·rw[h]at h';cases h';rfl
  ·have:eqP 0 (.tup ds) y=eqP 0 (.tup ds') y:=by cases y <;> rfl
   rw[<-this,h]at h';cases h';rfl
  ·rw[q]at h;cases h
  ·rw[q]at h';cases h'
 | succ n ih=>
  intro x x' y v b b' r1 r2 h h'
  have lists:∀{xs:List D} {vs:List V} {xs' ys:List D} {b b':Bool},A0 K ρ H xs vs->A0 K ρ H xs' vs->eqL (eqP n) xs ys=some b->eqL (eqP n) xs' ys=some b'->b=b':=by
   intro xs
   induction xs with
   | nil=>
    intro vs xs' ys b b' q1 q2 g g';cases q1;cases q2;rw[g]at g';cases g';rfl
   | cons d ds ihl=>
    intro vs xs' ys b b' q1 q2 g g'
    cases q1 with
    | cons a1 a2=>
     cases q2 with
     | cons c1 c2=>
      cases ys with
      | nil=>cases g;cases g';rfl
      | cons y ys=>
       obtain⟨p,q,g1,g2,rfl⟩:=Kv g;obtain⟨p',q',g1',g2',rfl⟩:=Kv g';rw[ih a1 c1 g1 g1',ihl a2 c2 g2 g2']
  rcases Mf r1 r2 with rfl | ⟨ds,ds',vs,rfl,rfl,q1,q2⟩ | q | q
  ·rw[h]at h';cases h';rfl
  ·by_cases c:∃ys,y=.tup ys
   ·obtain⟨ys,rfl⟩:=c
    exact lists q1 q2 h h'
   ·have:eqP (n+1) (.tup ds) y=eqP (n+1) (.tup ds') y:=by
     cases y <;> first | rfl | exact(c ⟨_,rfl⟩).elim
    rw[<-this,h]at h';cases h';rfl
  ·rw[q]at h;cases h
  ·rw[q]at h';cases h'
def EV{x:D}{b:Bool}(h:KF x x=some b):b=true:=by
 cases x <;> first | (cases h;done) | (cases h;simp)
def QC:∀(n:Nat) {x:D} {b:Bool},eqP n x x=some b->b=true
 | 0,_,_,h=>EV h
 | n+1,x,b,h=>by
  have lists:∀{xs:List D} {b:Bool},eqL (eqP n) xs xs=some b->b=true:=by
   intro xs
   induction xs with
   | nil=>intro b g;cases g;rfl
   | cons d ds ih=>
    intro b g;obtain⟨p,q,g1,g2,rfl⟩:=Kv g;rw[QC n g1,ih g2];rfl
  cases x with
  | tup xs=>exact lists h
  | non=>exact EV (x:=.non) h
  | bl c=>exact EV (x:=.bl c) h
  | int c=>exact EV (x:=.int c) h
  | str c=>exact EV (x:=.str c) h
  | ref c=>exact EV (x:=.ref c) h
  | fro c=>exact EV (x:=.fro c) h
  | exc c=>exact EV (x:=.exc c) h
def LK{x y:D}(hy:(∃f,y=.fro f)∨(∃r,y=.ref r)∨∃c,y=.exc c)(n:Nat):eqP n x y=none:=by
 rcases hy with⟨f,rfl⟩ | ⟨r,rfl⟩ | ⟨c,rfl⟩ <;> (cases n <;> cases x <;> rfl)
def bG(n:Nat){x y:D}{v:V}{b:Bool}(h1:Bu K ρ H x v)(h2:Bu K ρ H y v)(h:eqP n x y=some b):b=true:=by
 induction n generalizing x y v b with
 | zero=>
  rcases Mf h1 h2 with rfl | ⟨ds,ds',vs,rfl,rfl,_,_⟩ | q | q
  ·exact QC 0 h
  ·cases h
  ·rw[q]at h;cases h
  ·cases h2 with
   | fro _ _=>rw[LK (.inl ⟨_,rfl⟩)]at h;cases h
   | ref _=>rw[LK (.inr (.inl ⟨_,rfl⟩))]at h;cases h
   | exc _ _=>rw[LK (.inr (.inr ⟨_,rfl⟩))]at h;cases h
   | non=>cases(q 0 .non)
   | bl b=>cases(q 0 (.bl b))
   | int b=>cases(q 0 (.int b))
   | str b=>cases(q 0 (.str b))
   | tup _ _=>cases(q 0 .non)
 | succ n ih=>
  have lists:∀{xs ys:List D} {vs:List V} {b:Bool},A0 K ρ H xs vs->A0 K ρ H ys vs->eqL (eqP n) xs ys=some b->b=true:=by
   intro xs
   induction xs with
   | nil=>intro ys vs b q1 q2 g;cases q1;cases q2;cases g;rfl
   | cons d ds ihl=>
    intro ys vs b q1 q2 g
    cases q1 with
    | cons a1 a2=>
     cases q2 with
     | cons c1 c2=>
      obtain⟨p,q,g1,g2,rfl⟩:=Kv g;rw[ih a1 c1 g1,ihl a2 c2 g2];rfl
  rcases Mf h1 h2 with rfl | ⟨ds,ds',vs,rfl,rfl,q1,q2⟩ | q | q
  ·exact QC (n+1) h
  ·exact lists q1 q2 h
  ·rw[q]at h;cases h
  ·cases h2 with
   | fro _ _=>rw[LK (.inl ⟨_,rfl⟩)]at h;cases h
   | ref _=>rw[LK (.inr (.inl ⟨_,rfl⟩))]at h;cases h
   | exc _ _=>rw[LK (.inr (.inr ⟨_,rfl⟩))]at h;cases h
   | non=>cases(q 0 .non)
   | bl b=>cases(q 0 (.bl b))
   | int b=>cases(q 0 (.int b))
   | str b=>cases(q 0 (.str b))
   | tup _ _=>cases(q 0 .non)
end
section
variable{X:Cx}{ζ:List (AK×Obj)}{σ:St}{H:Hp}{s:AG}{ρ:List AK}
def El(A:BC):A.in1.units=A.units+1:=rfl
def Bk.at_{vs:List V}{its:List AE}(r:Bk vs its){j:Nat}(h:j < its.toArray.size):∃v,vs[j]?=some v/\RelV v its.toArray[j]:=by
 have hj:j < its.length:=by simpa using h
 have hv:j < vs.length:=by rw[r.length];exact hj
 obtain⟨u,h1,h2⟩:=r.get (i:=j) (x:=vs[j]) (by simp[hv]);refine⟨vs[j],by simp[hv],?_⟩
 have:its.toArray[j]=u:=by
  have:=AF.mp h1;obtain⟨_,e⟩:=this;simpa using e
 rw[this];exact h2
def SD{n:Nat}{A:BC}(ih:∀(x y:D) (b:Bool) (xv yv:V) (u v:AE),eqP n x y=some b->Bu X.K ρ H x xv->Bu X.K ρ H y yv->RelV xv u->RelV yv v->EqAt A s u v b)
  {xs ys:List D} {vs ws:List V} {us zs:List AE} {b:Bool} (h:eqL (eqP n) xs ys=some b) (r1:A0 X.K ρ H xs vs) (r2:A0 X.K ρ H ys ws) (q1:Bk vs us) (q2:Bk ws zs) :
  ∃e:Nat->Bool,(∀j (h1:j < us.toArray.size) (h2:j < zs.toArray.size),EqAt A s us.toArray[j] zs.toArray[j] (e j))/\b=((BA (min us.toArray.size zs.toArray.size)).all e&&us.toArray.size==zs.toArray.size):=by
 obtain⟨i1,i2⟩:=Sf h;refine⟨λj=>match xs[j]?,ys[j]? with | some x,some y=>(eqP n x y).getD false | _,_=>false,λj h1 h2=>?_,?_⟩
 ·obtain⟨v,e1,rv⟩:=Bk.at_ q1 h1
  obtain⟨w,e2,rw'⟩:=Bk.at_ q2 h2;obtain⟨x,e3,rx⟩:=r1.get' e1;obtain⟨y,e4,ry⟩:=r2.get' e2;obtain⟨c,hc⟩:=i1 j x y e3 e4;have:=ih x y c v w _ _ hc rx ry rv rw';simp only[e3,e4,hc,Nr];exact this
 ·rw[i2,r1.length,r2.length,q1.length,q2.length]
  simp
def Nm{A:BC}{x y:D}{b:Bool}{xv yv:V}{u v:AE}(I:Inv X ζ σ H s)(hu:A.units < Dm)(h:KF x y=some b)(r1:Bu X.K ρ H x xv)(r2:Bu X.K ρ H y yv)(q1:RelV xv u)(q2:RelV yv v) :
  EqAt A s u v b/\RcAt A s u v b/\RcNeAt A s u v (!b):=by
 cases r1 with
 | non=>
  cases q1
  cases r2 with
  | non=>cases q2;cases h;exact⟨EqAt.same _,RcAt.none_none,RcNeAt.none_none⟩
  | bl c=>cases q2;cases h;exact⟨EqAt.none_bool _,RcAt.none_bool _,RcNeAt.none_bool _⟩
  | int i=>obtain⟨t,rfl⟩:=q2;cases h;exact⟨EqAt.none_int _ _,RcAt.none_int _ _,RcNeAt.none_int _ _⟩
  | str z=>obtain⟨t,rfl⟩:=q2;cases h;exact⟨EqAt.none_str _ _,RcAt.none_str _ _,RcNeAt.none_str _ _⟩
  | tup a1 a2=>
   cases q2;cases h;obtain⟨its,_,p,_⟩:=I.tuple (.inl (.inl a1));exact⟨EqAt.none_tuple p hu,RcAt.none_tuple p hu,RcNeAt.none_tuple p hu⟩
  | _=>cases h
 | bl a=>
  cases q1
  cases r2 with
  | non=>cases q2;cases h;exact⟨EqAt.bool_none _,RcAt.bool_none _,RcNeAt.bool_none _⟩
  | bl c=>cases q2;cases h;exact⟨EqAt.bool_bool _ _,RcAt.bool_bool _ _,RcNeAt.bool_bool _ _⟩
  | _=>cases h
 | int a=>
  obtain⟨t,rfl⟩:=q1
  cases r2 with
  | non=>cases q2;cases h;exact⟨EqAt.int_none _ _,RcAt.int_none _ _,RcNeAt.int_none _ _⟩
  | int i=>obtain⟨t',rfl⟩:=q2;cases h;exact⟨EqAt.int_int _ _ _ _,RcAt.int_int _ _ _ _,RcNeAt.int_int _ _ _ _⟩
  | tup a1 a2=>
   cases q2;cases h;obtain⟨its,_,p,_⟩:=I.tuple (.inl (.inl a1));exact⟨EqAt.int_tuple _ _ p hu,RcAt.int_tuple _ _ p hu,RcNeAt.int_tuple _ _ p hu⟩
  | _=>cases h
 | str a=>
  obtain⟨t,rfl⟩:=q1
  cases r2 with
  | non=>cases q2;cases h;exact⟨EqAt.str_none _ _,RcAt.str_none _ _,RcNeAt.str_none _ _⟩
  | str i=>obtain⟨t',rfl⟩:=q2;cases h;exact⟨EqAt.str_str _ _ _ _,RcAt.str_str _ _ _ _,RcNeAt.str_str _ _ _ _⟩
  | _=>cases h
 | tup a1 a2=>
  cases q1;obtain⟨its,_,p,_⟩:=I.tuple (.inl (.inl a1))
  cases r2 with
  | non=>cases q2;cases h;exact⟨EqAt.tuple_none p hu,RcAt.tuple_none p hu,RcNeAt.tuple_none p hu⟩
  | int i=>obtain⟨t',rfl⟩:=q2;cases h;exact⟨EqAt.tuple_int _ _ p hu,RcAt.tuple_int _ _ p hu,RcNeAt.tuple_int _ _ p hu⟩
  | _=>cases h
 | _=>cases h
def QD(I:Inv X ζ σ H s):∀(n:Nat) (A:BC) (x y:D) (b:Bool) (xv yv:V) (u v:AE),A.units+n < Dm->eqP n x y=some b->Bu X.K ρ H x xv->Bu X.K ρ H y yv->RelV xv u->RelV yv v->EqAt A s u v b:=by
 intro n
 induction n with
 | zero=>exact λA x y b xv yv u v hu h r1 r2 q1 q2=>(Nm I (by omega) h r1 r2 q1 q2).1
 | succ n ih=>
  intro A x y b xv yv u v hu h r1 r2 q1 q2
  by_cases ht:∃xs ys,x=.tup xs/\y=.tup ys
  ·obtain⟨xs,ys,rfl,rfl⟩:=ht
   cases r1 with
   | @tup _ a vs a1 a2=>
    cases r2 with
    | @tup _ c ws b1 b2=>
     cases q1;cases q2
     by_cases hac:a=c
     ·subst hac
      rw[bG (n+1) (.tup a1 a2) (.tup b1 b2) h];exact EqAt.same _
     ·obtain⟨its,rv,p,_⟩:=I.tuple (.inl (.inl a1))
      obtain⟨its2,rw',p2,_⟩:=I.tuple (.inl (.inl b1));obtain⟨e,he,rfl⟩:=SD (A:=A.in1) (λx y b xv yv u v g1 g2 g3 g4 g5=>ih A.in1 x y b xv yv u v (by rw[El];lia) g1 g2 g3 g4 g5) h a2 b2 rv rw';exact kl hac (V7 p p2 (by lia) he)
  ·have hf:KF x y=some b:=by
    cases x <;> cases y <;> first | exact h | exact(ht ⟨_,_,rfl,rfl⟩).elim
   exact(Nm I (by lia) hf r1 r2 q1 q2).1
def Py(d:D)(S:Sto):Option (List D):=match d with
 | .fro ds=>some ds
 | .ref n=>match S[n]? with
  | some (.lst ds)=>some ds
  | _=>none
 | _=>none
def eqB(x y:D)(S:Sto):Option Bool:=match Py x S,Py y S with
 | some xs,some ys=>if xs.length=ys.length then eqL (eqP 8) xs ys else some false
 | none,none=>eqP 8 x y
 | some _,none=>match y with
  | .tup _=>some false
  | .non=>some false
  | _=>none
 | none,some _=>match x with
  | .tup _=>some false
  | .non=>some false
  | _=>none
def eqD(neg:Bool)(x y:D)(S:Sto):Res D:=match eqB x y S with
 | some b=>.ok (.bl (if neg then !b else b)) S
 | none=>.bad
def LH{K:AA}{S:Sto}{d:D}{x:V}{ds:List D}(hs:CA K ρ S H)(r:Bu K ρ H d x)(h:Py d S=some ds):∃p xs,x=.ref p/\A0 K ρ H ds xs/\SqL K H p xs:=by
 cases r with
 | fro h1 h2=>cases h;exact⟨_,_,rfl,h2,h1.sq⟩
 | @ref n a hn=>
  obtain⟨o,ho,ro⟩:=hs.there hn;unfold Py at h;simp only[ho]at h
  cases o with
  | lst es=>cases h;obtain⟨vs,e,rr⟩:=ro;exact⟨_,_,rfl,rr,.inl (.inl e)⟩
  | _=>cases h
 | _=>cases h
def bK{S:Sto}{x y:D}{b:Bool}{xv yv:V}{u v:AE}(I:Inv X ζ σ H s)(hu:X.A.units+64 < Dm)(hs:CA X.K ρ S H)(r1:Bu X.K ρ H x xv)(r2:Bu X.K ρ H y yv)(q1:RelV xv u)(q2:RelV yv v)(h:eqB x y S=some b) :
  RcAt X.A s u v b/\RcNeAt X.A s u v (!b):=by
 unfold eqB at h;split at h
 ·rename_i xs ys h1 h2
  obtain⟨p,vs,rfl,rr,sq⟩:=LH hs r1 h1;obtain⟨p',vs',rfl,rr',sq'⟩:=LH hs r2 h2;cases q1;cases q2;obtain⟨its,rv,pl,_⟩:=I.list sq;obtain⟨its2,rv2,pl2,_⟩:=I.list sq';split at h
  ·rename_i hlen
   obtain⟨e,he,rfl⟩:=SD (A:=X.A.in1) (λx y b xv yv u v g1 g2 g3 g4 g5=>QD I 8 X.A.in1 x y b xv yv u v (by rw[El];lia) g1 g2 g3 g4 g5) h rr rr' rv rv2
   have hsz:its.toArray.size=its2.toArray.size:=by
    simp only[AU];rw[<-rv.length,<-rv2.length,<-rr.length,<-rr'.length];exact hlen
   have e1:((BA (min its.toArray.size its2.toArray.size)).all e&&its.toArray.size==its2.toArray.size)=(BA its.toArray.size).all e:=by
    rw[<-hsz,kz,beq_self_eq_true,iD]
   rw[e1];exact⟨nD pl.isList pl2.isList hsz (by lia) he,gD pl.isList pl2.isList hsz (by lia) he⟩
  ·rename_i hlen
   cases h
   have hsz:(its.toArray.size != its2.toArray.size)=true:=by
    simp only[AU];rw[<-rv.length,<-rv2.length,<-rr.length,<-rr'.length];simpa using hlen
   exact⟨Yl pl.isList pl2.isList hsz (by lia),Ue pl.isList pl2.isList hsz (by lia)⟩
 ·by_cases ht:∃xs ys,x=.tup xs/\y=.tup ys
  ·obtain⟨xs,ys,rfl,rfl⟩:=ht
   cases r1 with
   | tup a1 a2=>
    cases r2 with
    | tup b1 b2=>
     cases q1;cases q2;obtain⟨its,rv,p,_⟩:=I.tuple (.inl (.inl a1));obtain⟨its2,rw',p2,_⟩:=I.tuple (.inl (.inl b1));obtain⟨e,he,rfl⟩:=SD (n:=7) (A:=X.A.in1) (λx y b xv yv u v g1 g2 g3 g4 g5=>QD I 7 X.A.in1 x y b xv yv u v (by rw[El];lia) g1 g2 g3 g4 g5) h a2 b2 rv rw';exact⟨V7 p p2 (by lia) he,br p p2 (by lia) he⟩
  ·have hf:KF x y=some b:=by
    cases x <;> cases y <;> first | exact h | exact(ht ⟨_,_,rfl,rfl⟩).elim
   exact(Nm I (by lia) hf r1 r2 q1 q2).2
 ·rename_i xs h1 h2
  obtain⟨p,vs,rfl,rr,sq⟩:=LH hs r1 h1;cases q1;obtain⟨its,rv,pl,_⟩:=I.list sq;split at h
  ·cases h
   cases r2 with
   | tup b1 b2=>
    cases q2;obtain⟨its2,rw',p2,_⟩:=I.tuple (.inl (.inl b1));exact⟨RcAt.list_tuple pl.isList p2 (by lia),RcNeAt.list_tuple pl.isList p2 (by lia)⟩
  ·cases h
   cases r2;cases q2;exact⟨RcAt.list_none pl.isList (by lia),RcNeAt.list_none pl.isList (by lia)⟩
  ·cases h
 ·rename_i xs h1 h2
  obtain⟨p,vs,rfl,rr,sq⟩:=LH hs r2 h2;cases q2;obtain⟨its,rv,pl,_⟩:=I.list sq;split at h
  ·cases h
   cases r1 with
   | tup b1 b2=>
    cases q1;obtain⟨its2,rw',p2,_⟩:=I.tuple (.inl (.inl b1));exact⟨RcAt.tuple_list p2 pl.isList (by lia),RcNeAt.tuple_list p2 pl.isList (by lia)⟩
  ·cases h
   cases r1;cases q1;exact⟨RcAt.none_list pl.isList (by lia),RcNeAt.none_list pl.isList (by lia)⟩
  ·cases h
def JA(hu:X.A.units+64 < Dm):OpR X (Bi .Eq) (rD X.K (eqD false)):=by
 intro ζ s σ H x y v u Q I rx ry h;obtain⟨ρ,S,a,b,d,S',hs,ra,rb,hm,k⟩:=h;unfold eqD at hm;split at hm
 ·rename_i c hc
  cases hm;exact(bK I hu hs ra rb rx ry hc).1 _ _ _ _ ⟨.bl c,H,I,rfl,k ρ H _ .refl hs (.bl _)⟩
 ·cases hm
def N0(hu:X.A.units+64 < Dm):OpR X (Bi .NotEq) (rD X.K (eqD true)):=by
 intro ζ s σ H x y v u Q I rx ry h;obtain⟨ρ,S,a,b,d,S',hs,ra,rb,hm,k⟩:=h;unfold eqD at hm;split at hm
 ·rename_i c hc
  cases hm;exact(bK I hu hs ra rb rx ry hc).2 _ _ _ _ ⟨.bl (!c),H,I,rfl,k ρ H _ .refl hs (.bl _)⟩
 ·cases hm
def Lf(x:D):List D->Option Bool
 | []=>some false
 | d :: ds=>match eqP 8 d x,Lf x ds with
  | some a,some b=>some (a||b)
  | _,_=>none
def inD(neg:Bool)(x y:D)(S:Sto):Res D:=match Fa y S with
 | some ds=>match Lf x ds with
  | some b=>.ok (.bl (if neg then !b else b)) S
  | none=>.bad
 | none=>.bad
def V0{x d:D}{ds:List D}{b:Bool}(h:Lf x (d :: ds)=some b):∃a c,eqP 8 d x=some a/\Lf x ds=some c/\b=(a||c):=by
 unfold Lf at h;split at h
 ·rename_i a c h1 h2
  cases h;exact⟨a,c,h1,h2,rfl⟩
 ·cases h
open Classical in
def M8{x:D}{xv:V}{v:AE}(I:Inv X ζ σ H s){A:BC}(hu:A.units+8 < Dm)(rx:Bu X.K ρ H x xv)(qx:RelV xv v):∀{ds:List D} {vs:List V} {us:List AE} {b:Bool},A0 X.K ρ H ds vs->Bk vs us->Lf x ds=some b ->
  ∃e:AE->Bool,(∀y∈us,EqAt A s y v (e y))/\b=us.any e:=by
 intro ds vs us b r q h
 let e:AE->Bool:=λy=>decide (∃d w,d∈ds/\Bu X.K ρ H d w/\RelV w y/\eqP 8 d x=some true)
 have all:∀{ds':List D} {vs':List V} {us':List AE} {b':Bool},(∀d∈ds',d∈ds)->A0 X.K ρ H ds' vs'->Bk vs' us'->Lf x ds'=some b'->(∀y∈us',EqAt A s y v (e y))/\b'=us'.any e:=by
  intro ds'
  induction ds' with
  | nil=>intro vs' us' b' _ r q h;cases r;cases q;cases h;exact⟨(λ_ z=>nomatch z),rfl⟩
  | cons d ds' ih=>
   intro vs' us' b' hsub r q h
   cases r with
   | cons r1 r2=>
    cases q with
    | @cons w y _ _ q1 q2=>
     obtain⟨a,c,h1,h2,rfl⟩:=V0 h;obtain⟨i1,i2⟩:=ih (λz hz=>hsub z (Aj _ hz)) r2 q2 h2
     have ha:e y=a:=by
      by_cases hq:∃d w,d∈ds/\Bu X.K ρ H d w/\RelV w y/\eqP 8 d x=some true
      ·obtain⟨d',w',_,g1,g2,g3⟩:=id hq
       rw[RelV.inj g2 q1]at g1;have:=fM 8 g1 r1 g3 h1;rw[<-this];exact wX hq
      ·have:a=false:=by
        cases a with
        | false=>rfl
        | true=>exact(hq ⟨d,_,hsub d A1,r1,q1,h1⟩).elim
       rw[this];exact wY hq
     refine⟨λz hz=>?_,by rw[Hn,ha,<-i2]⟩
     rcases Aw.mp hz with rfl | hz
     ·rw[ha]
      exact QD I 8 A d x a _ _ _ _ hu h1 r1 rx q1 qx
     ·exact i1 z hz
 obtain⟨e1,e2⟩:=all (λ_ h=>h) r q h;exact⟨e,e1,e2⟩
def gZ(hu:X.A.units+64 < Dm):OpR X (Bi .In) (rD X.K (inD false)):=by
 intro ζ s σ H x y v u Q I rx ry h;obtain⟨ρ,S,a,b,d,S',hs,ra,rb,hm,k⟩:=h;unfold inD at hm;split at hm
 ·rename_i ds hq
  split at hm
  ·rename_i c hc
   cases hm;obtain⟨p,xs,rfl,rr,sq⟩:=Mb hs rb hq;cases ry
   rcases sq with sq | sq
   ·obtain⟨its,rv,pl,_⟩:=I.list sq
    obtain⟨e,he,rfl⟩:=M8 I (A:=X.A.in1) (by rw[El];lia) ra rx rr rv hc;exact in_listAt e pl.isList (λz hz=>he z (by simpa using hz)) ⟨.bl (its.toArray.any e),H,I,rfl,by rw[KL];exact k ρ H _ .refl hs (.bl _)⟩
   ·obtain⟨its,rv,pl,_⟩:=I.tuple sq
    obtain⟨e,he,rfl⟩:=M8 I (A:=X.A.in1) (by rw[El];lia) ra rx rr rv hc;exact in_tupleAt e pl (λz hz=>he z (by simpa using hz)) ⟨.bl (its.toArray.any e),H,I,rfl,by rw[KL];exact k ρ H _ .refl hs (.bl _)⟩
  ·cases hm
 ·cases hm
def T8(hu:X.A.units+64 < Dm):OpR X (Bi .NotIn) (rD X.K (inD true)):=by
 intro ζ s σ H x y v u Q I rx ry h;obtain⟨ρ,S,a,b,d,S',hs,ra,rb,hm,k⟩:=h;unfold inD at hm;split at hm
 ·rename_i ds hq
  split at hm
  ·rename_i c hc
   cases hm;obtain⟨p,xs,rfl,rr,sq⟩:=Mb hs rb hq;cases ry
   rcases sq with sq | sq
   ·obtain⟨its,rv,pl,_⟩:=I.list sq
    obtain⟨e,he,rfl⟩:=M8 I (A:=X.A.in1) (by rw[El];lia) ra rx rr rv hc;exact notIn_listAt e pl.isList (λz hz=>he z (by simpa using hz)) ⟨.bl (!its.toArray.any e),H,I,rfl,by rw[KL];exact k ρ H _ .refl hs (.bl _)⟩
   ·obtain⟨its,rv,pl,_⟩:=I.tuple sq
    obtain⟨e,he,rfl⟩:=M8 I (A:=X.A.in1) (by rw[El];lia) ra rx rr rv hc;exact notIn_tupleAt e pl (λz hz=>he z (by simpa using hz)) ⟨.bl (!its.toArray.any e),H,I,rfl,by rw[KL];exact k ρ H _ .refl hs (.bl _)⟩
  ·cases hm
 ·cases hm
end
end L2
namespace L2
open PySem PySem.Spec PyProof.Rows
def FU(mo ma:ME):ME:=λe S=>(mo e S).bind λd S1=>match d with
 | .ref n=>match S1[n]? with
  | some (.lst _)=>(ma e S1).bind λy S2=>match S2[n]? with
   | some (.lst xs)=>if xs.length < sizeLine then .ok .non (S2.set n (.lst (xs++[y])))else .bad
   | _=>.bad
  | _=>.bad
 | _=>.bad
section
variable{X:Cx}{E:EW}{o e:Expr}{apos cpos:Pos}{mo ma:ME}
def WX{K:AA}{ρ:List AK}{S:Sto}{H:Hp}{n:Nat}{x:V}{xs:List D}(s:CA K ρ S H)(r:Bu K ρ H (.ref n) x)(h:S[n]?=some (.lst xs)):∃a vs,x=.ref a/\ρ[n]?=some a/\H a=some (.lst vs)/\A0 K ρ H xs vs:=by
 cases r with
 | ref hn=>
  obtain⟨vs,e,rr⟩:=s.ob n _ _ h hn;exact⟨_,vs,rfl,hn,e,rr⟩
def DA(ho:GE X E o mo)(ha:GE X E e ma)(hbase:Cb o "append" X.env (Bw o X.env)=Bw o X.env:=by rfl)
  (hfew:((Da cpos (AS [e] X.env)).all (λx=>!x.1)&&(Us cpos (NJ [] X.env)).all (λx=>x.1.isSome)
    &&decide ([e].length+([]:List JZ).length+(if ([]:List JZ).isEmpty then 0 else 1) < 30))=true:=by rfl)
  (hline:(apos.endLine==cpos.line)=true:=by rfl) (hs:AS [e] X.env=(false,Bw e X.env) :: AS [] X.env:=by rfl) (hplain:(Da cpos (AS [] X.env)).any (·.1)=false:=by rfl) :
  GE X E (.Call (.Attribute o "append" apos) [e] [] cpos) (FU mo ma):=(Zx EB PySem.F.slot_list_append PySem.F.type_list_append RM ho (FS ha Hq hs) hbase hfew hline hs hplain).imp λσ H Q ⟨ρ,l,S,hl,hs,hm⟩=>by
 refine⟨ρ,l,S,hl,hs,hm.seq λx S1 hm ρ1 H1 v l1 s1 r1=>?_⟩
 cases x <;> first | exact hm.elim | skip
 rename_i n;dsimp only at hm;split at hm
 ·rename_i xs0 h0
  obtain⟨a,vs,rfl,hn,e0,_⟩:=WX s1 r1 h0;refine⟨.inl ⟨rfl,vs,.inl (.inl e0)⟩,ρ1,l,S1,hl.mono l1,s1,(hm.later l1).seq λy S2 hm ρ2 H2 u l2 s2 r2=>?_⟩;split at hm
  ·rename_i xs h3
   split at hm
   ·rename_i hz
    have hn2:=l2.pre n a hn;obtain⟨ws,e3,rr⟩:=s2.ob n _ _ h3 hn2;have le:Le X.K ρ2 H2 ρ2 (upd H2 a (.lst (ws++[u]))):=Le.write hn2 (by rw[e3];trivial);obtain⟨s3,l3⟩:=s2.write (ho:=.lst (ws++[u])) (o:=.lst (xs++[y])) hn2 ⟨_,Bm,(rr.append (.cons r2 .nil)).mono le⟩ le;exact⟨a,ws,u,rfl,rfl,e3,by rw[<-rr.length];exact hz,hm ρ2 _ _ (l1.trans (l2.trans l3)) s3 .non⟩
   ·exact hm.elim
  ·exact hm.elim
 ·exact hm.elim
end
def A3{κ β:Type}[DecidableEq κ](kvs:List (κ×β))(k:κ):Option β:=(kvs.find? λkv=>decide (kv.1=k)).map (·.2)
def CF{κ β:Type}[DecidableEq κ](kvs:List (κ×β))(k:κ)(v:β):List (κ×β):=
 if (kvs.any λkv=>decide (kv.1=k))=true then kvs.map (λkv=>if kv.1=k then(kv.1,v)else kv)else kvs++[(k,v)]
section
variable{κ:Type}[DecidableEq κ]{K:AA}{ρ:List AK}{H:Hp}
def KVR.val(k:κ):∀{x:List (κ×D)} {y:List (κ×V)},KVR K ρ H x y->(A3 x k=none->Jw y k=none)/\∀d,A3 x k=some d->∃v,Jw y k=some v/\Bu K ρ H d v
 | _,_,.nil=>⟨λ_=>rfl,λd h=>by cases h⟩
 | (g,a) :: x,(g',b) :: y,.cons r t=>by
  obtain⟨r1,r2⟩:=r;dsimp only at r1 r2;subst r1;unfold A3 Jw;rw[BV,BV]
  by_cases e:g=k
  ·simp only[e,decide_true]
   exact⟨(λh=>nomatch h),(λd h=>by cases h;exact⟨b,rfl,r2⟩)⟩
  ·simp only[e,decide_false]
   exact KVR.val k t
def KVR.any(k:κ):∀{x:List (κ×D)} {y:List (κ×V)},KVR K ρ H x y->(x.any λkv=>decide (kv.1=k))=y.any λkv=>decide (kv.1=k)
 | _,_,.nil=>rfl
 | (g,a) :: x,(g',b) :: y,.cons r t=>by
  rw[Hn,Hn,KVR.any k t,show g=g' from r.1]
def KVR.repl(k:κ){d:D}{v:V}(rd:Bu K ρ H d v):∀{x:List (κ×D)} {y:List (κ×V)},KVR K ρ H x y->KVR K ρ H (x.map λkv=>if kv.1=k then(kv.1,d)else kv) (y.map λkv=>if kv.1=k then(kv.1,v)else kv)
 | _,_,.nil=>.nil
 | (g,a) :: x,(g',b) :: y,.cons r t=>by
  obtain⟨r1,r2⟩:=r;dsimp only at r1 r2;subst r1;rw[A5,A5];refine .cons ?_ (KVR.repl k rd t)
  by_cases e:g=k
  ·rw[qX e,qX e];exact⟨rfl,rd⟩
  ·rw[qY e,qY e];exact⟨rfl,r2⟩
def KVR.put(k:κ){d:D}{v:V}(rd:Bu K ρ H d v){x:List (κ×D)}{y:List (κ×V)}(h:KVR K ρ H x y):KVR K ρ H (CF x k d) (Ho y k v):=by
 unfold CF Ho;rw[KVR.any k h];split
 ·exact KVR.repl k rd h
 ·exact Ug h ⟨rfl,rd⟩
end
def X6:D->Option Key
 | .int i=>some (.inl i)
 | .str x=>some (.inr x)
 | _=>none
def RN:List D->Option (List Key)
 | []=>some []
 | d :: ds=>match X6 d,RN ds with
  | some k,some ks=>some (k :: ks)
  | _,_=>none
def Mx{K:AA}{ρ:List AK}{H:Hp}{d:D}{v:V}{k:Key}(r:Bu K ρ H d v)(h:X6 d=some k):v=kV k:=by
 cases r <;> first | (cases h;done) | (cases h;rfl)
def Mv{K:AA}{ρ:List AK}{H:Hp}:∀{ds:List D} {vs:List V} {ks:List Key},A0 K ρ H ds vs->RN ds=some ks->vs=ks.map kV
 | _,_,_,.nil,h=>by cases h;rfl
 | _,_,_,.cons r t,h=>by
  unfold RN at h;split at h
  ·rename_i k ks h1 h2
   cases h;rw[Mx r h1,Mv t h2];rfl
  ·cases h
def LS(x y:D)(S:Sto):Option (Option D):=match x with
 | .ref n=>match S[n]? with
  | some (.dK kvs)=>match X6 y with
   | some k=>some (A3 kvs k)
   | none=>none
  | some (.dT kvs)=>match y with
   | .tup ds=>match RN ds with
    | some ks=>some (A3 kvs ks)
    | none=>none
   | _=>none
  | some (.fK kvs)=>match X6 y with
   | some k=>some (A3 kvs k)
   | none=>none
  | some (.fT kvs)=>match y with
   | .tup ds=>match RN ds with
    | some ks=>some (A3 kvs ks)
    | none=>none
   | _=>none
  | _=>none
 | _=>none
def Sh{K:AA}{ρ:List AK}{S:Sto}{H:Hp}{x y:D}{xv yv:V}{o:Option D}(s:CA K ρ S H)(rx:Bu K ρ H x xv)(ry:Bu K ρ H y yv)(h:LS x y S=some o) :
  ∃a o',xv=.ref a/\NC H a yv o'/\(o=none->o'=none)/\∀d,o=some d->∃v,o'=some v/\Bu K ρ H d v:=by
 unfold LS at h;split at h
 ·rename_i n
  cases rx with
  | @ref _ a hn=>
   split at h
   ·rename_i kvs h1
    split at h
    ·rename_i k hk
     cases h;obtain⟨kvs',e,r⟩:=s.ob n _ _ h1 hn;rw[Mx ry hk];obtain⟨v1,v2⟩:=KVR.val k r;exact⟨a,Jw kvs' k,rfl,NC.k e,v1,v2⟩
    ·cases h
   ·rename_i kvs h1
    split at h
    ·rename_i ds
     split at h
     ·rename_i ks hk
      cases h;obtain⟨kvs',e,r⟩:=s.ob n _ _ h1 hn
      cases ry with
      | tup b1 b2=>
       obtain⟨v1,v2⟩:=KVR.val ks r;rw[Mv b2 hk]at b1;exact⟨a,Jw kvs' ks,rfl,NC.t e b1,v1,v2⟩
     ·cases h
    ·cases h
   ·rename_i kvs h1
    split at h
    ·rename_i k hk
     cases h;obtain⟨ob,kvs',e,r⟩:=s.ob n _ _ h1 hn;rw[Mx ry hk];obtain⟨v1,v2⟩:=KVR.val k r;exact⟨a,Jw kvs' k,rfl,(.inl ⟨_,_,.inr ⟨ob,e⟩,rfl,rfl⟩),v1,v2⟩
    ·cases h
   ·rename_i kvs h1
    split at h
    ·rename_i ds
     split at h
     ·rename_i ks hk
      cases h;obtain⟨ob,kvs',e,r⟩:=s.ob n _ _ h1 hn
      cases ry with
      | tup b1 b2=>
       obtain⟨v1,v2⟩:=KVR.val ks r;rw[Mv b2 hk]at b1;exact⟨a,Jw kvs' ks,rfl,(.inr ⟨_,_,_,.inr ⟨ob,e⟩,rfl,b1,rfl⟩),v1,v2⟩
     ·cases h
    ·cases h
   ·cases h
 ·cases h
def Ld(x y:D)(S:Sto):Res D:=match LS x y S with
 | some (some d)=>.ok d S
 | _=>.bad
def Jm(neg:Bool)(y x:D)(S:Sto):Res D:=match LS x y S with
 | some o=>.ok (.bl (if neg then !o.isSome else o.isSome)) S
 | none=>.bad
section
variable{X:Cx}{E:EW}{o i value:Expr}{pos pos':Pos}{mo mi mv:ME}
def fB(hu:X.A.units+1 < Dm)(ho:GE X E o mo)(hi:GE X E i mi)(hs:kN i:=by intro _ _;rfl):GE X E (.Subscript o i pos) (m2 Ld mo mi):=(du hu ho hi hs).imp λσ H Q h=>by
 refine(Lj h:tOp (rD X.K Ld) (gE X.K E mo) (gE X.K E mi) σ H Q) |> λt=>?_
 obtain⟨ρ,l,S,hl,hs,k⟩:=t;refine⟨ρ,l,S,hl,hs,k.imp λx S1 k ρ1 H1 u l1 s1 r1=>?_⟩;obtain⟨ρ2,l2,S2,hl2,hs2,k2⟩:=k ρ1 H1 u l1 s1 r1;refine⟨ρ2,l2,S2,hl2,hs2,k2.imp λy S3 k2 ρ3 H3 v l3 s3 r3=>?_⟩;obtain⟨ρ4,S4,x4,y4,d,S5,s4,r4,r5,hm,k4⟩:=k2 ρ3 H3 v l3 s3 r3;unfold Ld at hm;split at hm
 ·rename_i d' hd
  cases hm;obtain⟨a,o',rfl,g,_,g2⟩:=Sh s4 r4 r5 hd;obtain⟨w',rfl,rw'⟩:=g2 _ rfl;exact⟨a,w',rfl,g,k4 ρ4 H3 w' .refl s4 rw'⟩
 ·cases hm
def WT{σ:St}{H:Hp}{Q:VK}(h:gE X.K E (m2 (Jm false) mi mo) σ H Q):lM (gE X.K E mi) (gE X.K E mo) σ H Q:=by
 obtain⟨ρ,l,S,hl,hs,k⟩:=(Lj h:tOp (rD X.K (Jm false)) (gE X.K E mi) (gE X.K E mo) σ H Q);refine⟨ρ,l,S,hl,hs,k.imp λx S1 k ρ1 H1 u l1 s1 r1=>?_⟩;obtain⟨ρ2,l2,S2,hl2,hs2,k2⟩:=k ρ1 H1 u l1 s1 r1;refine⟨ρ2,l2,S2,hl2,hs2,k2.imp λy S3 k2 ρ3 H3 v l3 s3 r3=>?_⟩;obtain⟨ρ4,S4,x4,y4,d,S5,s4,r4,r5,hm,k4⟩:=k2 ρ3 H3 v l3 s3 r3;unfold Jm at hm;split at hm
 ·rename_i o' hd
  cases hm;obtain⟨a,o2,rfl,g,g1,g2⟩:=Sh s4 r5 r4 hd;refine⟨a,o2,rfl,g,?_⟩
  have:o2.isSome=o'.isSome:=by
   cases o' with
   | none=>rw[g1 rfl];rfl
   | some d=>obtain⟨w',rfl,_⟩:=g2 d rfl;rfl
  rw[this];exact k4 ρ4 H3 _ .refl s4 (.bl _)
 ·cases hm
def PR{σ:St}{H:Hp}{Q:VK}(h:gE X.K E (m2 (Jm true) mi mo) σ H Q):WS (gE X.K E mi) (gE X.K E mo) σ H Q:=by
 obtain⟨ρ,l,S,hl,hs,k⟩:=(Lj h:tOp (rD X.K (Jm true)) (gE X.K E mi) (gE X.K E mo) σ H Q);refine⟨ρ,l,S,hl,hs,k.imp λx S1 k ρ1 H1 u l1 s1 r1=>?_⟩;obtain⟨ρ2,l2,S2,hl2,hs2,k2⟩:=k ρ1 H1 u l1 s1 r1;refine⟨ρ2,l2,S2,hl2,hs2,k2.imp λy S3 k2 ρ3 H3 v l3 s3 r3=>?_⟩;obtain⟨ρ4,S4,x4,y4,d,S5,s4,r4,r5,hm,k4⟩:=k2 ρ3 H3 v l3 s3 r3;unfold Jm at hm;split at hm
 ·rename_i o' hd
  cases hm;obtain⟨a,o2,rfl,g,g1,g2⟩:=Sh s4 r5 r4 hd;refine⟨a,o2,rfl,g,?_⟩
  have:o2.isSome=o'.isSome:=by
   cases o' with
   | none=>rw[g1 rfl];rfl
   | some d=>obtain⟨w',rfl,_⟩:=g2 d rfl;rfl
  rw[this];exact k4 ρ4 H3 _ .refl s4 (.bl _)
 ·cases hm
def j5(hu:X.A.units+1 < Dm)(hi:GE X E i mi)(ho:GE X E o mo)(h1:B9 .In o=false:=by rfl):GE X E (.Compare i [.In] [o] pos) (m2 (Jm false) mi mo):=(Zu (Zy hu hi ho) h1).imp λ_ _ _ h=>WT h
def YM(hu:X.A.units+1 < Dm)(hi:GE X E i mi)(ho:GE X E o mo)(h1:B9 .NotIn o=false:=by rfl):GE X E (.Compare i [.NotIn] [o] pos) (m2 (Jm true) mi mo):=(Zu (RK hu hi ho) h1).imp λ_ _ _ h=>PR h
def aL{K:AA}{m:ME}{σ:St}{H:Hp}{Q:Bool->Hp->Prop}(h:gT K E (mB m) σ H Q):gE K E m σ H λx H1=>∃c,x=.bl c/\Q c H1:=by
 obtain⟨ρ,l,S,hl,hs,hm⟩:=h;refine⟨ρ,l,S,hl,hs,hm.seq λd S1 hm ρ1 H1 x l1 s1 r1=>?_⟩
 cases d <;> first | exact hm.elim | skip
 cases r1;exact⟨_,rfl,hm ρ1 H1 l1 s1⟩
def jv(hu:X.A.units+1 < Dm)(hi:GE X E i mi)(ho:GE X E o mo)(h1:B9 .In o=false:=by rfl):GT X E (.Compare i [.In] [o] pos) (mB (m2 (Jm false) mi mo)):=(Zi (Zy hu hi ho) h1).imp λ_ _ _ h=>WT (aL h)
def YG(hu:X.A.units+1 < Dm)(hi:GE X E i mi)(ho:GE X E o mo)(h1:B9 .NotIn o=false:=by rfl):GT X E (.Compare i [.NotIn] [o] pos) (mB (m2 (Jm true) mi mo)):=(Zi (RK hu hi ho) h1).imp λ_ _ _ h=>PR (aL h)
def Hs:ME:=λ_ S=>.ok (.ref S.length) (S++[.dK []])
def aK:ME:=λ_ S=>.ok (.ref S.length) (S++[.dT []])
def Jk:GE X E (.Dict [] [] pos) Hs:=(Zt (X:=X) (pos:=pos)).imp λσ H Q ⟨ρ,l,S,hl,hs,k⟩ p hp=>by
 obtain⟨s2,l2,at2⟩:=hs.alloc (ho:=.dK []) (o:=.dK []) hp ⟨[],Bm,.nil⟩;exact k _ _ _ l2 s2 (.ref at2)
def ay:GE X E (.Dict [] [] pos) aK:=(Zs (X:=X) (pos:=pos)).imp λσ H Q ⟨ρ,l,S,hl,hs,k⟩ p hp=>by
 obtain⟨s2,l2,at2⟩:=hs.alloc (ho:=.dT []) (o:=.dT []) hp ⟨[],Bm,.nil⟩;exact k _ _ _ l2 s2 (.ref at2)
def Qx(x y v:D)(S:Sto):Option Sto:=match x with
 | .ref n=>match S[n]? with
  | some (.dK kvs)=>match X6 y with
   | some k=>if kvs.length < sizeLine then some (S.set n (.dK (CF kvs k v)))else none
   | none=>none
  | some (.dT kvs)=>match y with
   | .tup ds=>match RN ds with
    | some ks=>if kvs.length < sizeLine then some (S.set n (.dT (CF kvs ks v)))else none
    | none=>none
   | _=>none
  | _=>none
 | _=>none
def DI(mo mi mv:ME):MS:=λe S=>(mv e S).lift e λv S1=>(mo e S1).lift e λx S2=>(mi e S2).lift e λy S3=>match Qx x y v S3 with
 | some S4=>.ok (.nx e) S4
 | none=>.bad
def JC(hu:X.A.units+1 < Dm)(ho:GE X E o mo)(hi:GE X E i mi)(hv:GE X E value mv)(hs:Gb value (some (.Subscript o i pos')) pos.line X.env=pure false:=by rfl):GS X E (.Assign [.Subscript o i pos'] value pos) (DI mo mi mv):=(dY hu ho hi hv hs).imp λD σ H ⟨ρ,l,S,hl,hs,hm⟩=>by
 refine⟨ρ,l,S,hl,hs,hm.lift hl .refl λv S1 hm ρ1 H1 vv l1 s1 r1=>⟨ρ1,l,S1,hl.mono l1,s1,(hm.later l1).lift (hl.mono l1) l1 λx S2 hm ρ2 H2 xv l2 s2 r2=>⟨ρ2,l,S2,hl.mono (l1.trans l2),s2,(hm.later l2).lift (hl.mono (l1.trans l2)) (l1.trans l2) λy S3 hm ρ3 H3 yv l3 s3 r3=>?_⟩⟩⟩;have r1':=r1.mono (l2.trans l3);have r2':=r2.mono l3;have hl3:=hl.mono (l1.trans (l2.trans l3));split at hm
 ·rename_i S4 hp
  unfold Qx at hp;split at hp
  ·rename_i n
   cases r2' with
   | @ref _ a hn=>
    split at hp
    ·rename_i kvs h4
     split at hp
     ·rename_i ky hk
      split at hp
      ·rename_i hz
       cases hp;obtain⟨kvs',e,r⟩:=s3.ob n _ _ h4 hn;rw[Mx r3 hk];have le:Le X.K ρ3 H3 ρ3 (upd H3 a (.dK (Ho kvs' ky vv))):=Le.write hn (by rw[e];trivial);obtain⟨s5,l5⟩:=s3.write (ho:=.dK (Ho kvs' ky vv)) (o:=.dK (CF kvs ky v)) hn ⟨_,Bm,(KVR.put ky r1' r).mono le⟩ le;exact⟨a,_,rfl,Uc.k e (by rw[<-KVR.length r];exact hz),hm ρ3 _ σ (l1.trans (l2.trans (l3.trans l5))) s5 (hl3.mono l5)⟩
      ·cases hp
     ·cases hp
    ·rename_i kvs h4
     split at hp
     ·rename_i ds
      split at hp
      ·rename_i ks hk
       split at hp
       ·rename_i hz
        cases hp;obtain⟨kvs',e,r⟩:=s3.ob n _ _ h4 hn
        cases r3 with
        | tup b1 b2=>
         rw[Mv b2 hk]at b1;have le:Le X.K ρ3 H3 ρ3 (upd H3 a (.dT (Ho kvs' ks vv))):=Le.write hn (by rw[e];trivial);obtain⟨s5,l5⟩:=s3.write (ho:=.dT (Ho kvs' ks vv)) (o:=.dT (CF kvs ks v)) hn ⟨_,Bm,(KVR.put ks r1' r).mono le⟩ le;exact⟨a,_,rfl,Uc.t e b1 (by rw[<-KVR.length r];exact hz),hm ρ3 _ σ (l1.trans (l2.trans (l3.trans l5))) s5 (hl3.mono l5)⟩
       ·cases hp
      ·cases hp
     ·cases hp
    ·cases hp
  ·cases hp
 ·exact hm.elim
end
section
variable{X:Cx}{E:EW}{a b c:Expr}{pos:Pos}{ma mb mc:ME}
def RB{K:AA}{f g:D->D->Sto->Res D}{σ:St}{H:Hp}{Q:VK}(h:gE K E (m3 f g ma mb mc) σ H Q):VJ (rD K f) (rD K g) (gE K E ma) (gE K E mb) (gE K E mc) σ H Q:=by
 obtain⟨ρ,l,S,hl,hs,hm⟩:=h;refine⟨ρ,l,S,hl,hs,hm.seq λx S1 hm ρ1 H1 u l1 s1 r1=>⟨ρ1,l,S1,hl.mono l1,s1,(hm.later l1).seq λy S2 hm ρ2 H2 v l2 s2 r2=>?_⟩⟩
 cases hf:f x y S2 with
 | bad=>rw[hf]at hm;exact hm.elim
 | err _ _=>rw[hf]at hm;exact hm.elim
 | ok z S3=>
  rw[hf]at hm;dsimp only[okR,Res.bind]at hm;refine⟨ρ2,S2,x,y,z,S3,s2,r1.mono l2,r2,hf,λρ3 H3 w l3 s3 r3=>?_⟩
  cases z with
  | bl k=>
   cases r3;refine⟨k,rfl,?_⟩
   cases k with
   | true=>
    rw[qX rfl];refine⟨ρ3,l,S3,hl.mono (l1.trans (l2.trans l3)),s3,CK.seq (hm.later (l2.trans l3)) λw S4 hm ρ4 H4 wv l4 s4 r4=>?_⟩;obtain⟨d,S',e,k⟩:=hm.okR;exact⟨ρ4,S4,y,w,d,S',s4,r2.mono (l3.trans l4),r4,e,λρ' H' z l' s' r'=>k ρ' H' z (l1.trans (l2.trans (l3.trans (l4.trans l')))) s' r'⟩
   | false=>rw[qY AZ];exact hm ρ3 H3 _ (l1.trans (l2.trans l3)) s3 (.bl false)
  | _=>exact hm.elim
def bA{op op':OW}{f g:D->D->Sto->Res D}(ho:OpR X (Bi op) (rD X.K f))(ho':OpR X (Bi op') (rD X.K g))(ha:GE X E a ma)(hb:GE X E b mb)(hc:GE X E c mc)
  (hm:Yi [op,op'] [b,c]=false:=by with_unfolding_all rfl):GE X E (.Compare a [op,op'] [b,c] pos) (m3 f g ma mb mc):=(Zv ho ho' ha hb hc hm).imp λ_ _ _ h=>RB h
def UM{op op':OW}{f g:D->D->Sto->Res D}(ho:OpR X (Bi op) (rD X.K f))(ho':OpR X (Bi op') (rD X.K g))(ha:GE X E a ma)(hb:GE X E b mb)(hc:GE X E c mc)
  (hm:Yi [op,op'] [b,c]=false:=by with_unfolding_all rfl):GT X E (.Compare a [op,op'] [b,c] pos) (mB (m3 f g ma mb mc)):=(Zj ho ho' ha hb hc hm).imp λ_ _ _ h=>RB (aL h)
def aH(m:ME):ME:=λe S=>(m e S).bind λd S1=>match d with
 | .int i=>.ok (.int (-i)) S1
 | _=>.bad
def av(h:GE X E a ma):GE X E (.UnaryOp .USub a pos) (aH ma):=(lc iT h).imp λσ H Q ⟨ρ,l,S,hl,hs,hm⟩=>by
 refine⟨ρ,l,S,hl,hs,hm.seq λd S1 hm ρ1 H1 x l1 s1 r1=>?_⟩
 cases d <;> first | exact hm.elim | skip
 cases r1;exact⟨_,rfl,hm ρ1 H1 _ l1 s1 (.int _)⟩
end
abbrev MO:=Lo->Sto->Res (Option Int)
def gO(K:AA)(E:EW)(m:MO):TO:=λσ H Q=>∃ρ e S,Fx K ρ H e σ/\CA K ρ S H/\CK K (λc=>E c σ) ρ H (m e S) λo S'=>∀ρ' H',Le K ρ H ρ' H'->CA K ρ' S' H'->Q o H'
abbrev GO(X:Cx)(E:EW)(e:Option Expr)(m:MO):Prop:=PO X e (gO X.K E m)
def Wc:MO:=λ_ S=>.ok none S
def Pp(m:ME):MO:=λe S=>(m e S).bind λd S1=>match d with
 | .int i=>.ok (some i) S1
 | _=>.bad
section
variable{X:Cx}{E:EW}{e:Expr}{lo hi:Option Expr}{pos p2:Pos}{m:ME}{ml mh:MO}
def PO.imp{o:Option Expr}{t t':TO}(h:PO X o t)(i:∀σ H Q,t' σ H Q->t σ H Q):PO X o t':=λζ s σ H Q I q=>h ζ s σ H Q I (i σ H Q q)
def ej:GO X E none Wc:=PO.imp de λσ H Q ⟨ρ,l,S,hl,hs,hm⟩=>hm ρ H .refl hs
def Wm(h:GE X E e m):GO X E (some e) (Pp m):=PO.imp (dc h) λσ H Q ⟨ρ,l,S,hl,hs,hm⟩=>by
 refine⟨ρ,l,S,hl,hs,hm.seq λd S1 hm ρ1 H1 x l1 s1 r1=>?_⟩
 cases d <;> first | exact hm.elim | skip
 cases r1;exact⟨_,rfl,hm ρ1 H1 l1 s1⟩
end
section
variable{X:Cx}{E:EW}{e:Expr}{p pos:Pos}{m:ME}{ml:ML}
def Fe(m:ME):ME:=λe S=>(m e S).bind λd S1=>match Fa d S1 with
 | some ds=>.ok (.tup ds) S1
 | none=>.bad
def Hh(hg:Gl X "tuple") (hm:X.mg "tuple" = none) (h:GE X E e m) (he:AS [e] X.env=(false,Bw e X.env) :: AS [] X.env:=by rfl):GE X E (.Call (.Name "tuple" p) [e] [] pos) (Fe m):=
 (RJ Qy hg hm Ik (FS h Hq he) (by decide) (by decide) he rfl).imp λσ H Q ⟨ρ,l,S,hl,hs,hm⟩=>by
 refine⟨ρ,l,S,hl,hs,hm.seq λd S1 hm ρ1 H1 x l1 s1 r1=>?_⟩
 cases hq:Fa d S1 with
 | none=>rw[hq]at hm;exact hm.elim
 | some ds=>
  rw[hq]at hm
  have newL:∀a vs,x=.ref a->SqL X.K H1 a vs->A0 X.K ρ1 H1 ds vs->∃p ys,[x]=[.ref p]/\((SqL X.K H1 p ys/\∀l,H1 l=none->Q (.ref l) (upd H1 l (.tup ys)))∨(SqT X.K H1 p ys/\Q (.ref p) H1)):=λa vs e sq rr=>by
   subst e;refine⟨a,vs,rfl,.inl ⟨sq,λq hq=>?_⟩⟩;obtain⟨s2,l2⟩:=IC (ho:=.tup vs) s1 hq;exact hm _ _ _ (l1.trans l2) s2 (.tup Bm (rr.mono l2))
  cases r1 with
  | @tup _ a vs h1 h2=>cases hq;exact⟨a,vs,rfl,.inr ⟨.inl (.inl h1),hm ρ1 H1 _ l1 s1 (.tup h1 h2)⟩⟩
  | @fro _ a vs h1 h2=>cases hq;exact newL a vs rfl h1.sq h2
  | @ref n a hn=>
   obtain⟨o,ho,ro⟩:=s1.there hn;unfold Fa at hq;simp only[ho]at hq
   cases o with
   | lst es=>cases hq;obtain⟨vs,e,rr⟩:=ro;exact newL a vs rfl (.inl (.inl e)) rr
   | _=>cases hq
  | _=>cases hq
variable{o:Expr}{apos cpos:Pos}{mo ma:ME}
def atL(d:D)(S:Sto):Option (Nat×List D):=match d with
 | .ref n=>match S[n]? with
  | some (.lst xs)=>some (n,xs)
  | _=>none
 | _=>none
def L5{K:AA}{ρ:List AK}{S:Sto}{H:Hp}{d:D}{x:V}{n:Nat}{xs:List D}(s:CA K ρ S H)(r:Bu K ρ H d x)(h:atL d S=some (n,xs)):d=.ref n/\S[n]?=some (.lst xs)/\∃a vs,x=.ref a/\ρ[n]?=some a/\H a=some (.lst vs)/\A0 K ρ H xs vs:=by
 unfold atL at h;split at h
 ·split at h
  ·rename_i ds hd
   cases h;exact⟨rfl,hd,WX s r hd⟩
  ·cases h
 ·cases h
def Oa{K:AA}{ρ:List AK}{S:Sto}{H:Hp}{n:Nat}{a:AK}{vs ws:List V}{ys:List D}(s:CA K ρ S H)(hn:ρ[n]?=some a)(e:H a=some (.lst vs))(r:A0 K ρ H ys ws) :
  CA K ρ (S.set n (.lst ys)) (upd H a (.lst ws))/\Le K ρ H ρ (upd H a (.lst ws)):=by
 have le:Le K ρ H ρ (upd H a (.lst ws)):=Le.write hn (by rw[e];trivial);exact s.write (ho:=.lst ws) (o:=.lst ys) hn ⟨_,Bm,r.mono le⟩ le
def aF(mo:ME):ME:=λe S=>(mo e S).bind λd S1=>match atL d S1 with
 | some (n,xs)=>.ok .non (S1.set n (.lst xs.reverse))
 | none=>.bad
def Vn(ho:GE X E o mo)(hbase:Cb o "reverse" X.env (Bw o X.env)=Bw o X.env:=by rfl) (hline:(apos.endLine==cpos.line)=true:=by rfl) :
  GE X E (.Call (.Attribute o "reverse" apos) [] [] cpos) (aF mo):=(Zw EB PySem.F.slot_list_reverse PySem.F.type_list_reverse Va ho hbase hline).imp λσ H Q ⟨ρ,l,S,hl,hs,hm⟩=>by
 refine⟨ρ,l,S,hl,hs,hm.seq λd S1 hm ρ1 H1 v l1 s1 r1=>?_⟩
 cases hq:atL d S1 with
 | none=>rw[hq]at hm;exact hm.elim
 | some z=>
  obtain⟨n,xs⟩:=z;rw[hq]at hm;obtain⟨rfl,h0,a,vs,rfl,hn,e,rr⟩:=L5 s1 r1 hq;obtain⟨s2,l2⟩:=Oa s1 hn e rr.reverse;exact⟨.inl ⟨rfl,vs,.inl (.inl e)⟩,a,vs,rfl,rfl,e,hm ρ1 _ _ (l1.trans l2) s2 .non⟩
def aG(mo:ME):ME:=λe S=>(mo e S).bind λd S1=>match atL d S1 with
 | some (n,xs)=>match xs[xs.length - 1]? with
  | some y=>.ok y (S1.set n (.lst xs.dropLast))
  | none=>.bad
 | none=>.bad
def A0.dropLast{K:AA}{ρ:List AK}{H:Hp}{ds:List D}{vs:List V}(r:A0 K ρ H ds vs):A0 K ρ H ds.dropLast vs.dropLast:=by
 rw[Uy,Uy,r.length];exact r.take _
def j3(ho:GE X E o mo)(hbase:Cb o "pop" X.env (Bw o X.env)=Bw o X.env:=by rfl) (hline:(apos.endLine==cpos.line)=true:=by rfl) :
  GE X E (.Call (.Attribute o "pop" apos) [] [] cpos) (aG mo):=(Zw EB PySem.F.slot_list_pop PySem.F.type_list_pop ji ho hbase hline).imp λσ H Q ⟨ρ,l,S,hl,hs,hm⟩=>by
 refine⟨ρ,l,S,hl,hs,hm.seq λd S1 hm ρ1 H1 v l1 s1 r1=>?_⟩
 cases hq:atL d S1 with
 | none=>rw[hq]at hm;exact hm.elim
 | some z=>
  obtain⟨n,xs⟩:=z;rw[hq]at hm;dsimp only at hm;obtain⟨rfl,h0,a,vs,rfl,hn,e,rr⟩:=L5 s1 r1 hq;split at hm
  ·rename_i y hy
   obtain⟨s2,l2⟩:=Oa s1 hn e rr.dropLast;obtain⟨w,hw,rw'⟩:=rr.get hy;exact⟨.inl ⟨rfl,vs,.inl (.inl e)⟩,a,vs,w,rfl,rfl,e,by rw[<-rr.length];exact hw,hm ρ1 _ _ (l1.trans l2) s2 (rw'.mono l2)⟩
  ·exact hm.elim
end
section
variable{X:Cx}{E:EW}
def range_getD{α:Type}(d:α)(bs:List α):(BA bs.length).map (λi=>bs.getD i d)=bs:=by
 apply DN
 intro i;rw[AN]
 by_cases h:i < bs.length
 ·rw[BU h]
  simp[List.getD,h]
 ·rw[Bq.mpr (by simpa using h),Bq.mpr (by simpa using h)]
  rfl
def cj{bs:List Bool}{its:List AE}(r:Bk (bs.map V.bl) its){i:Nat}{v:AE}(h:its.toArray[i]?=some v):v=.bool (bs.getD i false):=by
 have h':its[i]?=some v:=by simpa using h
 obtain⟨hi,e⟩:=AF.mp h'
 have hb:i < bs.length:=by have:=r.length;simp at this;lia
 obtain⟨u,hu,ru⟩:=r.get (show(bs.map V.bl)[i]?=some (V.bl bs[i]) by simp[hb]);rw[h']at hu;cases hu;rw[show v=MM bs[i]from ru];simp[List.getD,hb]
def VP(K:AA)(f:List Bool->Bool):List V->Hp->VK->Prop:=λxs H Q=>∃p bs,xs=[.ref p]/\(SqL K H p (bs.map V.bl)∨SqT K H p (bs.map V.bl))/\Q (.bl (f bs)) H
def QJ{ζ:List (AK×Obj)}{s:AG}{σ:St}{H:Hp}{p:AK}{bs:List Bool}{R:AE->AG->Prop}{E:AE->AG->Prop}(hc:X.calm=true)(I:Inv X ζ σ H s)(hq:SqL X.K H p (bs.map V.bl)∨SqT X.K H p (bs.map V.bl))
  (h:∀itv s2,(∃I fp wr n P St tr,itv=BB I/\Walks X.prog X.w X.A.in1 I fp wr n P St/\St 0 s2.heap/\TruthOf X.prog X.w X.A.in1 P tr/\(BA n).map tr=bs /\
   ∀(h':B7) (tk:Nat),(∀b o,¬b∈wr->s2.heap.get? b=some o->h'.get? b=some o)->Inv X ζ σ H { s2 with heap:=h',toks:=tk })->R itv s2) :
  Av (Af X.prog X.w) X.A.in1 (Uo (.ref p)) R E s:=by
 have hh:X.A.in1.handled=none:=I.ok.hd hc
 have fin:∀(its:List AE),Bk (bs.map V.bl) its->(BA its.toArray.size).map (λi=>bs.getD i false)=bs:=λits r=>by
  have:its.toArray.size=bs.length:=by have:=r.length;simp at this;simpa using this.symm
  rw[this,range_getD]
 have tru:∀(its:List AE),Bk (bs.map V.bl) its->TruthOf X.prog X.w X.A.in1 (λi v=>its.toArray[i]?=some v) (λi=>bs.getD i false):=λits r i v s Q E hv q=>by
  rw[cj r hv];exact CN q
 have kp:∀(ob:Obj) (h':B7) (tk:Nat),(∀b o,¬b∈[s.heap.objs.size]->(s.heap.push ob).get? b=some o->h'.get? b=some o)->Inv X ζ σ H { s with heap:=h',toks:=tk }:=λob h' tk k=>
  I.kept λb o e=>k b o (by simpa using Aq (Ai e)) (AJ _ e)
 rcases hq with hq | hq
 ·obtain⟨its,r',pl,hz⟩:=I.list hq
  refine kP pl.isList (h _ _ ⟨s.heap.objs.size,_,_,_,_,_,_,rfl,Walks.list hh _ p (Aq (Ai pl.isList.choose_spec.1)) its.toArray,⟨⟨_,Ak _ rfl,rfl,rfl⟩,?_⟩,tru its r',fin its r',kp _⟩)
  exact pl.isList.at λo e=>AJ _ e
 ·obtain⟨its,r',pl,hz⟩:=I.tuple hq
  have pt:s.heap.IsTuple p its.toArray:=pl;refine E8 pt (h _ _ ⟨s.heap.objs.size,_,_,_,_,_,_,rfl,kY hh _ p (Aq pl.lt) its.toArray,⟨⟨_,Ak _ rfl,rfl,rfl⟩,?_⟩,tru its r',fin its r',kp _⟩);obtain⟨o,e,c⟩:=pt;exact⟨o,AJ _ e,c⟩
def Yd(hc:X.calm=true):Ij X (.builtin "all") (VP X.K λbs=>bs.all id):=by
 intro ζ s σ H xs us Q I r h;obtain⟨p,bs,rfl,hq,q⟩:=h;obtain⟨u,rfl,rx⟩:=vals1 r;cases rx;refine call_all_walk (QJ hc I hq λitv s2 ⟨J,fp,wr,n,P,St,tr,e,W,st,tru,eb,kp⟩=>⟨J,fp,wr,n,P,St,tr,e,W,st,tru,λh' tk k=>⟨.bl _,H,kp h' tk k,rfl,?_⟩⟩);rw[<-eb]at q;dsimp only at q;rw[Uk]at q;exact q
def Yc(hc:X.calm=true):Ij X (.builtin "any") (VP X.K λbs=>bs.any id):=by
 intro ζ s σ H xs us Q I r h;obtain⟨p,bs,rfl,hq,q⟩:=h;obtain⟨u,rfl,rx⟩:=vals1 r;cases rx;refine call_any_walk (QJ hc I hq λitv s2 ⟨J,fp,wr,n,P,St,tr,e,W,st,tru,eb,kp⟩=>⟨J,fp,wr,n,P,St,tr,e,W,st,tru,λh' tk k=>⟨.bl _,H,kp h' tk k,rfl,?_⟩⟩);rw[<-eb]at q;dsimp only at q;rw[kh]at q;exact q
def Vz:List D->Option (List Bool)
 | []=>some []
 | .bl b :: ds=>(Vz ds).map (b :: ·)
 | _ :: _=>none
def W3{K:AA}{ρ:List AK}{H:Hp}:∀{ds:List D} {vs:List V} {bs:List Bool},A0 K ρ H ds vs->Vz ds=some bs->vs=bs.map V.bl
 | _,_,_,.nil,h=>by cases h;rfl
 | .bl b :: ds,_,bs,.cons r t,h=>by
  unfold Vz at h
  cases hq:Vz ds with
  | none=>rw[hq]at h;cases h
  | some cs=>rw[hq]at h;cases h;cases r;rw[W3 t hq];rfl
 | .non :: _,_,_,.cons r t,h=>by cases h
 | .int _ :: _,_,_,.cons r t,h=>by cases h
 | .str _ :: _,_,_,.cons r t,h=>by cases h
 | .tup _ :: _,_,_,.cons r t,h=>by cases h
 | .fro _ :: _,_,_,.cons r t,h=>by cases h
 | .ref _ :: _,_,_,.cons r t,h=>by cases h
 | .exc _ :: _,_,_,.cons r t,h=>by cases h
def Vy(f:List Bool->Bool)(ds:List D)(S:Sto):Res D:=match Vz ds with
 | some bs=>.ok (.bl (f bs)) S
 | none=>.bad
def Ti{f:List Bool->Bool}:kL X.K (VP X.K f) (Vy f):=λρ H S ds q xs d S' Q hs rr sq hm k=>by
 unfold Vy at hm;split at hm
 ·rename_i bs hb
  cases hm;rw[W3 rr hb]at sq;exact⟨q,bs,rfl,sq,k ρ H _ .refl hs (.bl _)⟩
 ·cases hm
abbrev Ss:=Vy λbs=>bs.all id
abbrev bY:=Vy λbs=>bs.any id
def dB:List Int->Int:=λns=>gw (λi=>ns.getD i 0) ns.length
def Mh{f g:Nat->Int}:∀(n:Nat),(∀i,i < n->f i=g i)->gw f n=gw g n
 | 0,_=>rfl
 | n+1,h=>by
  show gw f n+f n=gw g n+g n;rw[Mh n λi hi=>h i (by lia),h n (by lia)]
def Qu{ns:List Int}{its:List AE}(r:Bk (ns.map V.int) its):∃xs:Array (Int×Tok),its.toArray=intItems xs/\xs.size=ns.length/\∀i,i < ns.length->numAt xs i=ns.getD i 0:=by
 induction ns generalizing its with
 | nil=>
  cases r;exact⟨#[],by simp[intItems],rfl,λi hi=>zX hi (by simp)⟩
 | cons n ns ih=>
  cases r with
  | cons r1 r2=>
   obtain⟨xs,e1,e2,e3⟩:=ih r2;obtain⟨t,rfl⟩:=r1;refine⟨#[(n,t)]++xs,?_,by simp[e2];lia,λi hi=>?_⟩
   ·unfold intItems at e1 ⊢
    rw[Array.map_append,<-e1];simp
   ·cases i with
    | zero=>
     unfold numAt;rw[Array.getElem?_append_left (by simp)];simp
    | succ i=>
     have:=e3 i (by simpa using hi);unfold numAt at this ⊢;rw[Array.getElem?_append_right (by simp)];simpa using this
def lV(K:AA)(f:List Int->Int):List V->Hp->VK->Prop:=λxs H Q=>∃p ns,xs=[.ref p]/\SqL K H p (ns.map V.int)/\Q (.int (f ns)) H
def YY(hc:X.calm=true):Ij X (.builtin "sum") (lV X.K dB):=by
 intro ζ s σ H xs us Q I r h;obtain⟨p,ns,rfl,hq,q⟩:=h;obtain⟨u,rfl,rx⟩:=vals1 r;cases rx;obtain⟨its,r',pl,hz⟩:=I.list hq;obtain⟨xs,e1,e2,e3⟩:=Qu r'
 refine sum_intListG (xs:=xs) (I.ok.hd hc) (by rw[<-e1];exact pl.isList) λh' tk t' kp=>⟨.int _,H,I.kept kp,⟨t',rfl⟩,?_⟩
 rw[e2,Mh _ e3];exact q
def G8:List D->Option (List Int)
 | []=>some []
 | .int b :: ds=>(G8 ds).map (b :: ·)
 | _ :: _=>none
def Kq:∀{ds:List D} {ns:List Int},G8 ds=some ns->ds=ns.map D.int
 | [],_,h=>by cases h;rfl
 | .int b :: ds,ns,h=>by
  unfold G8 at h
  cases hq:G8 ds with
  | none=>rw[hq]at h;cases h
  | some cs=>rw[hq]at h;cases h;rw[Kq hq];rfl
 | .non :: _,_,h=>by cases h
 | .bl _ :: _,_,h=>by cases h
 | .str _ :: _,_,h=>by cases h
 | .tup _ :: _,_,h=>by cases h
 | .fro _ :: _,_,h=>by cases h
 | .ref _ :: _,_,h=>by cases h
 | .exc _ :: _,_,h=>by cases h
def Vd(m:ME):ME:=λe S=>(m e S).bind λd S1=>match Py d S1 with
 | some ds=>match G8 ds with
  | some ns=>.ok (.int (dB ns)) S1
  | none=>.bad
 | none=>.bad
variable{e:Expr}{m:ME}{ml:ML}{p pos:Pos}
def j0(hc:X.calm=true)(hg:Gl X "sum") (hm:X.mg "sum" = none) (h:GE X E e m) (he:AS [e] X.env=(false,Bw e X.env) :: AS [] X.env:=by rfl):GE X E (.Call (.Name "sum" p) [e] [] pos) (Vd m):=
 (Kf (YY hc) hg hm nJ (FS h Hq he) (by decide) (by decide) he rfl).imp λσ H Q ⟨ρ,l,S,hl,hs,hm⟩=>by
 refine⟨ρ,l,S,hl,hs,hm.seq λd S1 hm ρ1 H1 x l1 s1 r1=>?_⟩
 cases hq:Py d S1 with
 | none=>rw[hq]at hm;exact hm.elim
 | some ds=>
  rw[hq]at hm;dsimp only at hm
  cases hi:G8 ds with
  | none=>rw[hi]at hm;exact hm.elim
  | some ns=>
   rw[hi]at hm;obtain⟨p,xs,rfl,rr,sq⟩:=LH s1 r1 hq;rw[Kq hi]at rr;rw[rr.ints]at sq;exact⟨p,ns,rfl,sq,hm ρ1 H1 _ l1 s1 (.int _)⟩
def tyD(d:D)(S:Sto):Option String:=match d with
 | .non=>some "NoneType"
 | .bl _=>some "bool"
 | .int _=>some "int"
 | .str _=>some "str"
 | .tup _=>some "tuple"
 | .ref n=>match S[n]? with
  | some (.lst _)=>some "list"
  | some (.dK _)=>some "dict"
  | some (.dT _)=>some "dict"
  | _=>none
 | .fro _=>none
 | .exc _=>none
def iU{K:AA}{ρ:List AK}{S:Sto}{H:Hp}{d:D}{x:V}{T:String}(s:CA K ρ S H)(r:Bu K ρ H d x)(h:tyD d S=some T):NA K H x (.type T):=by
 cases r with
 | non=>cases h;exact .non
 | bl b=>cases h;exact .bl b
 | int i=>cases h;exact .int i
 | str i=>cases h;exact .str i
 | tup h1 _=>cases h;exact .tup h1
 | fro _ _=>cases h
 | exc _ _=>cases h
 | @ref n a hn=>
  obtain⟨o,ho,ro⟩:=s.there hn;unfold tyD at h;simp only[ho]at h
  cases o with
  | lst es=>cases h;obtain⟨vs,e,rr⟩:=ro;exact .lst e
  | dK es=>cases h;obtain⟨vs,e,rr⟩:=ro;exact .dK e
  | dT es=>cases h;obtain⟨vs,e,rr⟩:=ro;exact .dT e
  | ins _ _=>cases h
  | fK _=>cases h
  | fT _=>cases h
def gg(c T:String):Option Bool:=if T==c then some true else if T=="bool"&&c=="int" then some true else if ["NoneType", "bool", "int", "str", "tuple", "list", "dict"].contains T&&["bool", "int", "str", "tuple", "list", "dict"].contains c then some false else none
end
def Gq{α:Type}(r r':Res α):Res α:=match r with
 | .bad=>r'
 | r=>r
def X0{α:Type}(r r':Res α):Gq r r'=r∨Gq r r'=r':=by cases r <;> simp[Gq]
def op2(f g:D->D->Sto->Res D):D->D->Sto->Res D:=λx y S=>Gq (f x y S) (g x y S)
def UG(f g:D->D->Sto->Res D)(ma mb:ME)(l:Lo)(S:Sto):m2 (op2 f g) ma mb l S=m2 f ma mb l S∨m2 (op2 f g) ma mb l S=m2 g ma mb l S:=by
 unfold m2
 cases ma l S with
 | ok x S1=>
  dsimp only[Res.bind]
  cases mb l S1 with
  | ok y S2=>
   dsimp only[Res.bind];unfold op2
   rcases X0 (f x y S2) (g x y S2)with e | e <;> rw[e] <;> simp
  | err c S2=>exact .inl rfl
  | bad=>exact .inl rfl
 | err c S1=>exact .inl rfl
 | bad=>exact .inl rfl
section
variable{X:Cx}{E:EW}{e o i:Expr}{pos:Pos}{m m1 m2':ME}
def Vo{m m1 m2:ME}(h1:GE X E e m1)(h2:GE X E e m2)(h:∀l S,m l S=m1 l S∨m l S=m2 l S):GE X E e m:=λζ s σ H Q I ⟨ρ,l,S,hl,hs,a⟩=>by
 rcases h l S with q | q
 ·rw[q]at a;exact h1 ζ s σ H Q I ⟨ρ,l,S,hl,hs,a⟩
 ·rw[q]at a;exact h2 ζ s σ H Q I ⟨ρ,l,S,hl,hs,a⟩
def ao{t t1 t2:MT}(h1:GT X E e t1)(h2:GT X E e t2)(h:∀l S,t l S=t1 l S∨t l S=t2 l S):GT X E e t:=λζ s σ H Q I ⟨ρ,l,S,hl,hs,a⟩=>by
 rcases h l S with q | q
 ·rw[q]at a;exact h1 ζ s σ H Q I ⟨ρ,l,S,hl,hs,a⟩
 ·rw[q]at a;exact h2 ζ s σ H Q I ⟨ρ,l,S,hl,hs,a⟩
def jz{tg:Expr}{t t1 t2:MI}(h1:GI X E tg e t1)(h2:GI X E tg e t2)(h:∀l S,t l S=t1 l S∨t l S=t2 l S):GI X E tg e t:=λζ s σ H R I ⟨ρ,l,S,hl,hs,a⟩=>by
 rcases h l S with q | q
 ·rw[q]at a;exact h1 ζ s σ H R I ⟨ρ,l,S,hl,hs,a⟩
 ·rw[q]at a;exact h2 ζ s σ H R I ⟨ρ,l,S,hl,hs,a⟩
def gf{m m1 m2:ME}(h:∀l S,m l S=m1 l S∨m l S=m2 l S)(l:Lo)(S:Sto):mB m l S=mB m1 l S∨mB m l S=mB m2 l S:=by
 unfold mB
 rcases h l S with q | q <;> rw[q] <;> simp
abbrev inA(neg:Bool):=op2 (inD neg) (Jm neg)
variable{mi mo:ME}
def aw(hu:X.A.units+64 < Dm)(hi:GE X E i mi)(ho:GE X E o mo)(h1:B9 .In o=false:=by with_unfolding_all rfl):GE X E (.Compare i [.In] [o] pos) (m2 (inA false) mi mo):=
 Vo (Ks (gZ hu) hi ho h1) (j5 (by lia) hi ho h1) λ_ _=>UG _ _ _ _ _ _
def au(hu:X.A.units+64 < Dm)(hi:GE X E i mi)(ho:GE X E o mo)(h1:B9 .NotIn o=false:=by with_unfolding_all rfl):GE X E (.Compare i [.NotIn] [o] pos) (m2 (inA true) mi mo):=
 Vo (Ks (T8 hu) hi ho h1) (YM (by lia) hi ho h1) λ_ _=>UG _ _ _ _ _ _
def mT(hu:X.A.units+64 < Dm)(hi:GE X E i mi)(ho:GE X E o mo)(h1:B9 .In o=false:=by with_unfolding_all rfl):GT X E (.Compare i [.In] [o] pos) (mB (m2 (inA false) mi mo)):=
 ao (DK (gZ hu) hi ho h1) (jv (by lia) hi ho h1) (gf λ_ _=>UG _ _ _ _ _ _)
def Fp(hu:X.A.units+64 < Dm)(hi:GE X E i mi)(ho:GE X E o mo)(h1:B9 .NotIn o=false:=by with_unfolding_all rfl):GT X E (.Compare i [.NotIn] [o] pos) (mB (m2 (inA true) mi mo)):=
 ao (DK (T8 hu) hi ho h1) (YG (by lia) hi ho h1) (gf λ_ _=>UG _ _ _ _ _ _)
abbrev ixA:=op2 ixD Ld
def Dl(hu:X.A.units+64 < Dm)(ho:GE X E o mo)(hi:GE X E i mi)(hs:Sy i:=by intro _ _;rfl):GE X E (.Subscript o i pos) (m2 ixA mo mi):=
 Vo (mV lq ho hi hs) (fB (by lia) ho hi hs) λ_ _=>UG _ _ _ _ _ _
def Ea(d:D):IF:=match d with
 | .tup ds=>D0 ds
 | d=>Ny d
def D7(m:ME):MI:=λe S=>(m e S).bind λd S1=>match Ea d S1 with
 | some _=>.ok (Ea d) S1
 | none=>.bad
def Dv{tg:Expr}(h:GE X E e m):GI X E tg e (D7 m):=jz (jy h) (jx h) λl S=>by
 unfold D7 mP gi
 cases m l S with
 | ok d S1=>
  dsimp only[Res.bind]
  cases d <;> first | exact .inl rfl | exact .inr rfl
 | err c S1=>exact .inl rfl
 | bad=>exact .inl rfl
def GN(m:ME):ME:=λe S=>(m e S).bind λd S1=>match Fa d S1 with
 | some ds=>.ok (.int ds.length) S1
 | none=>.bad
variable{p:Pos}{ml:ML}{es:List Expr}
def IY(hg:Gl X "len") (hm:X.mg "len" = none) (h:GE X E e m) (he:AS [e] X.env=(false,Bw e X.env) :: AS [] X.env:=by rfl):GE X E (.Call (.Name "len" p) [e] [] pos) (GN m):=
 (Sd Sq iq hg hm PySem.boot_len (Wl h) (by decide) (by decide) he).imp λσ H Q ⟨ρ,l,S,hl,hs,a⟩=>⟨ρ,l,S,hl,hs,by
  have q:mQ mJ (Ip m) l S=GN m l S:=by
   unfold mQ Ip GN
   cases m l S with
   | ok d S1=>
    dsimp only[Res.bind]
    cases Fa d S1 <;> rfl
   | err c S1=>rfl
   | bad=>rfl
  rw[q];exact a⟩
def Wo{a b:Expr}(hc:X.calm=true)(hg:Gl X "min") (hm:X.mg "min" = none) (h:GA X E [a,b] ml) (he:AS [a,b] X.env=(false,Bw a X.env) :: AS [b] X.env:=by rfl) (hpl:(Da pos (AS [b] X.env)).any (·.1)=false:=by rfl):GE X E (.Call (.Name "min" p) [a,b] [] pos) (mQ N3 ml):=
 Wr (Ya hc) fv hg hm nM h (by decide) (by decide) he hpl
def Wp{a b:Expr}(hc:X.calm=true)(hg:Gl X "max") (hm:X.mg "max" = none) (h:GA X E [a,b] ml) (he:AS [a,b] X.env=(false,Bw a X.env) :: AS [b] X.env:=by rfl) (hpl:(Da pos (AS [b] X.env)).any (·.1)=false:=by rfl):GE X E (.Call (.Name "max" p) [a,b] [] pos) (mQ N4 ml):=
 Wr (Yb hc) fw hg hm nN h (by decide) (by decide) he hpl
def Ol(hg:Gl X "list") (hm:X.mg "list" = none) (h:GE X E e m) (he:AS [e] X.env=(false,Bw e X.env) :: AS [] X.env:=by rfl):GE X E (.Call (.Name "list" p) [e] [] pos) (Cq (mN Ms (Ip m))):=
 DL (em So dF hg hm Fy (Wl h) (by decide) (by decide) he)
def Vp(hc:X.calm=true)(hg:Gl X "all") (hm:X.mg "all" = none) (h:GE X E e m) (he:AS [e] X.env=(false,Bw e X.env) :: AS [] X.env:=by rfl):GE X E (.Call (.Name "all" p) [e] [] pos) (mQ Ss (Ip m)):=
 Sd (Yd hc) Ti hg hm nS (Wl h) (by decide) (by decide) he
def j6(hc:X.calm=true)(hg:Gl X "any") (hm:X.mg "any" = none) (h:GE X E e m) (he:AS [e] X.env=(false,Bw e X.env) :: AS [] X.env:=by rfl):GE X E (.Call (.Name "any" p) [e] [] pos) (mQ bY (Ip m)):=
 Sd (Yc hc) Ti hg hm nR (Wl h) (by decide) (by decide) he
end
section
variable{X:Cx}{E:EW}{e a b:Expr}{es:List Expr}{pos:Pos}{m:ME}{mj:MJ}
end
def Mr(mo ma:ME):ME:=λe S=>(mo e S).bind λd S1=>match atL d S1 with
 | some (n,_)=>(ma e S1).bind λy S2=>match atL d S2,atL y S2 with
  | some (_,xs),some (k,ys)=>if k≠n/\xs.length+ys.length<=sizeLine then .ok .non (S2.set n (.lst (xs++ys)))else .bad
  | _,_=>.bad
 | none=>.bad
section
variable{X:Cx}{E:EW}{o e:Expr}{apos cpos:Pos}{mo ma:ME}
def YL(ho:GE X E o mo)(ha:GE X E e ma)(hbase:Cb o "extend" X.env (Bw o X.env)=Bw o X.env:=by rfl)
  (hfew:((Da cpos (AS [e] X.env)).all (λx=>!x.1)&&(Us cpos (NJ [] X.env)).all (λx=>x.1.isSome)
    &&decide ([e].length+([]:List JZ).length+(if ([]:List JZ).isEmpty then 0 else 1) < 30))=true:=by rfl)
  (hline:(apos.endLine==cpos.line)=true:=by rfl) (hs:AS [e] X.env=(false,Bw e X.env) :: AS [] X.env:=by rfl) (hplain:(Da cpos (AS [] X.env)).any (·.1)=false:=by rfl) :
  GE X E (.Call (.Attribute o "extend" apos) [e] [] cpos) (Mr mo ma):=(Zx EB QU QT X2 ho (FS ha Hq hs) hbase hfew hline hs hplain).imp λσ H Q ⟨ρ,l,S,hl,hs,hm⟩=>by
 refine⟨ρ,l,S,hl,hs,hm.seq λd S1 hm ρ1 H1 v l1 s1 r1=>?_⟩
 cases hq:atL d S1 with
 | none=>rw[hq]at hm;exact hm.elim
 | some z=>
  obtain⟨n,xs0⟩:=z;rw[hq]at hm;dsimp only at hm;obtain⟨rfl,h0,a,vs0,rfl,hn,e0,_⟩:=L5 s1 r1 hq;refine⟨.inl ⟨rfl,vs0,.inl (.inl e0)⟩,ρ1,l,S1,hl.mono l1,s1,(hm.later l1).seq λy S2 hm ρ2 H2 u l2 s2 r2=>?_⟩;split at hm
  ·rename_i n' xs k ys h2 h3
   split at hm
   ·rename_i hz
    obtain⟨e',h4,a',vs,ea,hn2,e2,rr⟩:=L5 s2 (r1.mono l2) h2;cases e';cases ea;obtain⟨ey,h5,p,ws,rfl,hk,e3,rw'⟩:=L5 s2 r2 h3;obtain⟨s3,l3⟩:=Oa s2 hn2 e2 (rr.append rw');exact⟨a,p,vs,ws,rfl,rfl,e2,e3,by rw[<-rr.length,<-rw'.length];exact hz.2,hm ρ2 _ _ (l1.trans (l2.trans l3)) s3 .non⟩
   ·exact hm.elim
  ·exact hm.elim
end
def isB(t A:String):Option Bool:=if ["NoneType", "bool", "int", "str", "tuple", "list", "dict"].contains A then gg t A else none
def cP(sc:Im)(x:Str):Bool:=decide (sc.names.lookup x=some .local)||decide (sc.names.lookup x=some .cell)||decide (sc.names.lookup x=some .free)
def bP(X:Cx)(scope:Im)(own N':List Str):Bool:=
 decide (scope.kind=.function)&&scope.names.all (λy=>!decide (y.2=.cell))&&scope.names.all (λy=>!decide (y.2=.local)||decide (scope.names.lookup y.1=some .local)) &&
 scope.names.all (λy=>!decide (y.2=.free)||decide (X.env.kindOf y.1=some .cell)||decide (X.env.kindOf y.1=some .free))&&decide (N'.length=own.length+X.N.length) &&
 ((N'.drop own.length).zip X.N).all (λp=>!cP (JV scope X.env) p.1||(decide (p.1=p.2)&&cP X.env.scope p.1&&(decide ((JV scope X.env).names.lookup p.1=some .cell)||decide ((JV scope X.env).names.lookup p.1=some .free))&&!decide (X.env.kindOf p.1=some .local))) &&
 (JV scope X.env).names.all (λy=>(!decide (y.2=.cell)&&!decide (y.2=.free))||scope.names.any (λz=>decide (z=(y.1,Iq))))
def TV{sc:Im}{x:Str}:cP sc x=true↔Vis sc x:=by
 unfold cP Vis;simp[or_assoc]
def D9{X:Cx}{scope:Im}{own N':List Str}(h:bP X scope own N'=true):MA X scope own N':=by
 unfold bP at h;simp only[Hj]at h;obtain⟨⟨⟨⟨⟨⟨h1,h2⟩,h3⟩,h4⟩,h5⟩,h6⟩,h7⟩:=h;rw[ES]at h2 h3 h4 h6 h7;refine⟨of_decide_eq_true h1,λy hy=>?_,λy hy e=>?_,λy hy e=>?_,of_decide_eq_true h5,λi x e v=>?_,λx hx=>?_⟩
 ·simpa using h2 y hy
 ·have:=h3 y hy
  simpa[e]using this
 ·have:=h4 y hy
  simpa[e]using this
 ·have hlen:=of_decide_eq_true h5
  have hi:own.length+i < N'.length:=(AF.mp e).1
  have hx:i < X.N.length:=by lia
  have hm:(x,X.N[i])∈(N'.drop own.length).zip X.N:=by
   rw[List.mem_iff_getElem?];refine⟨i,?_⟩;rw[List.getElem?_zip_eq_some];exact⟨by rw[Gf];exact e,by simp[hx]⟩
  have:=h6 _ hm;rw[TV.mpr v]at this;simp only[iB,iC,Hj,Bool.or_eq_true,decide_eq_true_eq,Y4,decide_eq_false_iff_not]at this;obtain⟨⟨⟨z1,z2⟩,z3⟩,z4⟩:=this;exact⟨by rw[z1];simp[hx],TV.mp z2,z3,z4⟩
 ·have key:∀k,(JV scope X.env).names.lookup x=some k->(k=.cell∨k=.free)->(x,Iq)∈scope.names:=λk e hk=>by
   have:=h7 _ (EL e)
   rcases hk with rfl | rfl
   ·simpa using this
   ·simpa using this
  rcases hx with e | e
  ·exact key _ e (.inl rfl)
  ·exact key _ e (.inr rfl)
structure Dfn(K:AA)(mg:Str->Option AE)(x qual:Str)(st:Ce)(ps:List Str) where
 f:AK
 fd:Dg
 F:Fun K x qual st f fd
 b:Binds K fd ps []
 m:mg x=some (.ref f)
def Dfn.kp{K:AA}{mg:Str->Option AE}{x qual:Str}{st:Ce}{ps:List Str}(d:Dfn K mg x qual st ps):Gg K (.ref d.f)=true:=d.F.kp
structure Mtd(K:AA)(x qual:Str)(st:Ce)(ps:List Str) where
 f:AK
 fd:Dg
 F:Fun K x qual st f fd
 b:Binds K fd ps []
structure Own(K:AA)(mg:Str->Option AE)(x:Str)(C f:AK):Prop where
 cl:Cls K C
 mk':Mk K C f
 m:mg x=some (.ref C)
abbrev wN:Nat:=1000000
section
variable{prog:Al}{w:BE}{A:BC}{E:AE->AG->Prop}{s:AG}{K:AA}{a C:AK}{o:Obj}
end
section
variable{X:Cx}{E:EW}{e ce:Expr}{p pos:Pos}{m:ME}{c:V}{cv:AE}{tab:String->Option Bool}{tabC:AK->Option Bool}
end
end L2
namespace Srt
open PySem PyProof.Rows
structure Ord(U:As->Prop)(lt:As->As->Bool):Prop where
 asym:∀x y,U x->U y->lt x y=true->lt y x=false
 ntr:∀x y z,U x->U y->U z->lt y x=false->lt z y=false->lt z x=false
def Ord.irr{U:As->Prop}{lt:As->As->Bool}(o:Ord U lt){x:As}(h:U x):lt x x=false:=by
 cases e:lt x x with
 | false=>rfl
 | true=>exact(o.asym x x h h e).symm.trans e |>.symm▸rfl
def ix(xs:Array As)(i:Nat):As:=xs.getD i (.none,.none)
def Jh{xs ys:Array As}{i j:Nat}(h:xs[i]?=ys[j]?):ix xs i=ix ys j:=by
 unfold ix;rw[E7,E7,h]
def DT{xs:Array As}{i:Nat}(h:i < xs.size):xs[i]?=some (ix xs i):=by
 unfold ix;rw[E7,getElem?_pos xs i h];rfl
def X7{xs:Array As}{src d:Nat}(hs:src < xs.size)(hd:d<=src)(k:Nat) :
  ix (gz xs src d) k=if k=src - d then ix xs src else if src - d < k/\k<=src then ix xs (k - 1)else ix xs k:=by
 have e:=getElem?_bubble hs d hd k;split
 ·rename_i h;rw[qX h]at e;exact Jh e
 ·rename_i h
  rw[qY h]at e;split
  ·rename_i h2;rw[qX h2]at e;exact Jh e
  ·rename_i h2;rw[qY h2]at e;exact Jh e
def EI{xs:Array As}{i j:Nat}(hj:j<=xs.size)(k:Nat) :
  ix (Jq xs i j ((j - i) / 2)) k=if i<=k/\k < j then ix xs (i+j - 1 - k)else ix xs k:=by
 have e:=getElem?_mirror_all (i:=i) hj k;split
 ·rename_i h;rw[qX h]at e;exact Jh e
 ·rename_i h;rw[qY h]at e;exact Jh e
section
variable{prog:Al}{w:BE}{A:BC}{E:AE->AG->Prop}{s:AG}{a₀:Array As}{κ:GF}{lt:As->As->Bool}
def KO(prog:Al)(w:BE)(A:BC)(s:AG)(a₀:Array As)(κ:GF)(lt:As->As->Bool):Prop:=
 ∀x y,x∈a₀->y∈a₀->∀(Q:Bool->AG->Prop) (E:AE->AG->Prop),Q (lt x y) s->Av (Af prog w) A (keyLt' κ x.1 y.1) Q E s
structure Good(a₀:Array As)(κ:GF)(st:BP):Prop where
 perm:(AV st).Perm a₀
 kind:kindOf st=κ
 failed:Il st=none
def Good.size{st:BP}(g:Good a₀ κ st):(AV st).size=a₀.size:=g.perm.size_eq
def Good.mem{st:BP}(g:Good a₀ κ st){i:Nat}(h:i < a₀.size):ix (AV st) i∈a₀:=by
 have h':i < (AV st).size:=by rw[g.size];exact h
 have e:=DT h';have:=Ct e;exact BY.mp ((FJ.mp g.perm).mem_iff.mp (BY.mpr this))
def Good.setArr{st:BP}(g:Good a₀ κ st){xs:Array As}(hp:xs.Perm (AV st)):Good a₀ κ (setArr st xs):=⟨hp.trans g.perm,g.kind,g.failed⟩
def O0{st:BP}{x y:As}{Q:Option Bool->BP->Prop}(C:KO prog w A s a₀ κ lt)(g:Good a₀ κ st)(hx:x∈a₀)(hy:y∈a₀)(h:Q (some (lt x y)) st):wpS (Af prog w) A E s (lt' x y) Q st:=by
 rw[lt'_eq];refine AL (Hk ?_);rw[g.kind];refine AL (wpS_lift (OS ?_));refine C x y hx hy _ _ ⟨rfl,?_⟩;exact AM h
def NO{st:BP}{i j:Nat}{Q:Option Bool->BP->Prop}(C:KO prog w A s a₀ κ lt)(g:Good a₀ κ st)(hi:i < a₀.size)(hj:j < a₀.size)(h:Q (some (lt (ix (AV st) i) (ix (AV st) j))) st) :
  wpS (Af prog w) A E s (kU i j) Q st:=by
 rw[ltAt'_eq];refine AL (Hk ?_);show wpS _ _ _ _ (do let x <-elem' (AV st) i;let y <-elem' (AV st) j;lt' x y) Q st;rw[bq,bq,DT (by rw[g.size];exact hi),DT (by rw[g.size];exact hj)];exact AL (AM (AL (AM (O0 C g (g.mem hi) (g.mem hj) h))))
def Up(lt:As->As->Bool)(xs:Array As)(lo hi:Nat):Prop:=∀i j,lo<=i->i<=j->j < hi->lt (ix xs j) (ix xs i)=false
def Dn(lt:As->As->Bool)(xs:Array As)(lo hi:Nat):Prop:=∀i j,lo<=i->i<=j->j < hi->lt (ix xs i) (ix xs j)=false
def Out(xs ys:Array As)(lo hi:Nat):Prop:=∀i,(i < lo∨hi<=i)->ix ys i=ix xs i
def Out.refl{xs:Array As}{lo hi:Nat}:Out xs xs lo hi:=λ_ _=>rfl
def Out.trans{xs ys zs:Array As}{lo hi:Nat}(a:Out xs ys lo hi)(b:Out ys zs lo hi):Out xs zs lo hi:=λi h=>(b i h).trans (a i h)
def Up.out{xs ys:Array As}{lo hi l h:Nat}(u:Up lt xs l h)(o:Out xs ys lo hi)(d:h<=lo∨hi<=l):Up lt ys l h:=λi j h1 h2 h3=>by
 rw[o i (by lia),o j (by lia)];exact u i j h1 h2 h3
def Up.grow{st:BP}(O:Ord (·∈a₀) lt)(g:Good a₀ κ st){lo hi:Nat}(hs:hi < a₀.size)(u:Up lt (AV st) lo hi)(h0:lo < hi)(h:lt (ix (AV st) hi) (ix (AV st) (hi - 1))=false):Up lt (AV st) lo (hi+1):=λi j h1 h2 h3=>by
 by_cases hj:j < hi
 ·exact u i j h1 h2 hj
 ·have:j=hi:=by lia
  subst this
  by_cases hi':i=j
  ·subst hi';exact O.irr (g.mem hs)
  ·exact O.ntr _ _ _ (g.mem (by lia)) (g.mem (show j - 1 < _ by omega)) (g.mem hs) (u i (j - 1) h1 (by lia) (by lia)) h
def wpS_binarySort{st:BP}{lo n ok:Nat}{Q:Bool->BP->Prop}(C:KO prog w A s a₀ κ lt)(O:Ord (·∈a₀) lt)(hn:lo+n<=a₀.size)(hok:ok<=n)(g:Good a₀ κ st)(u:Up lt (AV st) lo (lo+ok))
  (h:∀st',Good a₀ κ st'->Up lt (AV st') lo (lo+n)->Out (AV st) (AV st') lo (lo+n)->AX st'=AX st->Q true st'):wpS (Af prog w) A E s (binarySort' lo n ok) Q st:=by
 rw[binarySort'_eq]
 refine AL (DR (CD (I:=λk c st'=>c=(none,())/\Good a₀ κ st'/\Up lt (AV st') lo (lo+min k n)/\Out (AV st) (AV st') lo (lo+n)/\AX st'=AX st)
  (Q:=λc st'=>c=(none,())/\Good a₀ κ st'/\Up lt (AV st') lo (lo+n)/\Out (AV st) (AV st') lo (lo+n)/\AX st'=AX st) ?step ?fin ?init) ?post)
 case post=>
  rintro c st' ⟨rfl,g',u',o',p'⟩;exact AM (h st' g' u' o' p')
 case init=>
  refine⟨rfl,g,λi j h1 h2 h3=>?_,.refl,rfl⟩
  by_cases h0:ok=0
  ·have:i=j:=by lia
   subst this;exact O.irr (g.mem (by omega))
  ·exact u i j h1 h2 (by lia)
 case fin=>
  rintro c st' ⟨hc,g',u',o',p'⟩;refine⟨hc,g',?_,o',p'⟩;rwa [show min (max (max ok 1) n) n=n by lia]at u'
 case step=>
  rintro k c st1 hak hkn ⟨rfl,g1,u1,o1,p1⟩;rw[show min k n=k by lia]at u1
  have hk:lo+k < a₀.size:=by lia
  refine AL (DR (CD (I:=λx c st2=>st2=st1/\∃l r,c=(none,l,r)/\l<=r/\r<=k/\r - l<=k - x /\
    (∀i,i < l->lt (ix (AV st1) (lo+k)) (ix (AV st1) (lo+i))=false)/\(∀i,r<=i->i < k->lt (ix (AV st1) (lo+k)) (ix (AV st1) (lo+i))=true))
   (Q:=λc st2=>st2=st1/\∃l r,c=(none,l,r)/\l<=k /\
    (∀i,i < l->lt (ix (AV st1) (lo+k)) (ix (AV st1) (lo+i))=false)/\(∀i,l<=i->i < k->lt (ix (AV st1) (lo+k)) (ix (AV st1) (lo+i))=true)) ?istep ?ifin ?iinit) ?ipost)
  case iinit=>exact⟨rfl,0,k,rfl,by lia,by lia,by lia,λi hi=>by lia,λi h1 h2=>by lia⟩
  case ifin=>
   rintro c st2 ⟨rfl,l,r,rfl,hlr,hrk,hm,hlo,hhi⟩
   have:l=r:=by lia
   subst this;exact⟨rfl,l,l,rfl,hrk,hlo,hhi⟩
  case istep=>
   rintro x c st2 _ hxk ⟨rfl,l,r,rfl,hlr,hrk,hm,hlo,hhi⟩;dsimp only
   by_cases hge:l ≥ r
   ·rw[qX hge]
    have:l=r:=by lia
    subst this;exact AM ⟨rfl,l,l,rfl,hrk,hlo,hhi⟩
   ·rw[qY hge]
    refine AL (NO C g1 hk (by lia) ?_)
    cases hless:lt (ix (AV st2) (lo+k)) (ix (AV st2) (lo+(l+r) / 2))with
    | true=>
     refine AM ⟨rfl,l,(l+r) / 2,rfl,by lia,by lia,by omega,hlo,λi h1 h2=>?_⟩
     cases e:lt (ix (AV st2) (lo+k)) (ix (AV st2) (lo+i))with
     | true=>rfl
     | false=>
      have:=O.ntr _ _ _ (g1.mem (show lo+(l+r) / 2 < _ by lia)) (g1.mem (show lo+i < _ by lia)) (g1.mem hk) (u1 (lo+(l+r) / 2) (lo+i) (by lia) (by lia) (by lia)) e;rw[hless]at this;cases this
    | false=>
     refine AM ⟨rfl,(l+r) / 2+1,r,rfl,by lia,by omega,by omega,λi h1=>?_,hhi⟩;exact O.ntr _ _ _ (g1.mem (show lo+i < _ by lia)) (g1.mem (show lo+(l+r) / 2 < _ by lia)) (g1.mem hk) (u1 (lo+i) (lo+(l+r) / 2) (by lia) (by lia) (by lia)) hless
  case ipost=>
   rintro c st2 ⟨rfl,l,r,rfl,hlk,hlo,hhi⟩;show wpS _ _ _ _ (do moveDown' (lo+k) (lo+l);pure (He (none,()))) _ _;rw[moveDown'_eq]
   have hks:lo+k < (AV st2).size:=by rw[g1.size];exact hk
   have e:∀i,ix (gz (AV st2) (lo+k) (lo+k - (lo+l))) i=if i=lo+l then ix (AV st2) (lo+k)else if lo+l < i/\i<=lo+k then ix (AV st2) (i - 1)else ix (AV st2) i:=λi=>by
    rw[X7 hks (by lia),show lo+k - (lo+k - (lo+l))=lo+l by lia]
   refine AL (DZ (AM ⟨rfl,g1.setArr (bubble_perm _ _ _),?_,o1.trans λi hi=>?_,p1⟩))
   ·rw[show min (k+1) n=k+1 by lia]
    intro i j h1 h2 h3;show lt (ix (gz (AV st2) (lo+k) (lo+k - (lo+l))) j) (ix (gz (AV st2) (lo+k) (lo+k - (lo+l))) i)=false;rw[e,e]
    repeat' split
    all_goals first
     | (exfalso;lia)
     | exact O.irr (g1.mem hk)
     | (have q:=hlo (i - lo) (by lia);rw[show lo+(i - lo)=i by lia]at q;exact q)
     | (have q:=hhi (j - 1 - lo) (by omega) (by omega);rw[show lo+(j - 1 - lo)=j - 1 by lia]at q;exact O.asym _ _ (g1.mem hk) (g1.mem (by lia)) q)
     | exact u1 _ _ (by omega) (by omega) (by lia)
   ·show ix (gz (AV st2) (lo+k) (lo+k - (lo+l))) i=ix (AV st2) i
    rw[e,qY (by lia),qY (by lia)]
end
section
variable{prog:Al}{w:BE}{A:BC}{E:AE->AG->Prop}{s:AG}{a₀:Array As}{κ:GF}{lt:As->As->Bool}
def Jb{σ:Type}{M:Model}{r:String}{Q:PUnit->σ->Prop}{st:σ}(h:Q ⟨⟩ st):wpS M A E s (liftM (rule r):StateT σ Sem PUnit) Q st:=wpS_lift (gr ⟨rfl,h⟩)
def Dn.flip{xs:Array As}{lo hi:Nat}(hs:hi<=xs.size)(d:Dn lt xs lo hi):Up lt (Jq xs lo hi ((hi - lo) / 2)) lo hi:=λi j h1 h2 h3=>by
 rw[EI hs,EI hs,qX (by lia),qX (by lia)];exact d _ _ (by omega) (by omega) (by omega)
def Dn.part{xs:Array As}{lo hi m:Nat}(hs:hi<=xs.size)(hm:lo<=m)(hmh:m<=hi)(d:Dn lt xs lo hi)(e:Up lt xs m hi):Dn lt (Jq xs m hi ((hi - m) / 2)) lo hi:=λi j h1 h2 h3=>by
 rw[EI hs,EI hs]
 by_cases hi':m<=i
 ·rw[qX (by lia),qX (by lia)]
  exact e _ _ (by omega) (by omega) (by omega)
 ·rw[qY (by lia)]
  split
  ·exact d _ _ (by omega) (by lia) (by omega)
  ·exact d _ _ (by omega) (by omega) (by omega)
def J1{xs:Array As}{i j lo hi:Nat}(hj:j<=xs.size)(h1:lo<=i)(h2:j<=hi):Out xs (Jq xs i j ((j - i) / 2)) lo hi:=λk hk=>by
 rw[EI hj,qY (by lia)]
def Dn.grow{st:BP}(O:Ord (·∈a₀) lt)(g:Good a₀ κ st){lo hi:Nat}(hs:hi < a₀.size)(u:Dn lt (AV st) lo hi)(h0:lo < hi)(h:lt (ix (AV st) (hi - 1)) (ix (AV st) hi)=false):Dn lt (AV st) lo (hi+1):=λi j h1 h2 h3=>by
 by_cases hj:j < hi
 ·exact u i j h1 h2 hj
 ·have:j=hi:=by lia
  subst this
  by_cases hi':i=j
  ·subst hi';exact O.irr (g.mem hs)
  ·exact O.ntr _ _ _ (g.mem hs) (g.mem (show j - 1 < _ by omega)) (g.mem (by lia)) h (u i (j - 1) h1 (by lia) (by lia))
def U6(O:Ord (·∈a₀) lt){st:BP}(g:Good a₀ κ st){lo:Nat}(h:lo < a₀.size):Up lt (AV st) lo (lo+1):=λi j h1 h2 h3=>by
 have e1:i=lo:=by lia
 have e2:j=lo:=by lia
 rw[e1,e2];exact O.irr (g.mem h)
def cD{st:BP}{lo nrem n:Nat}{Q:Option Nat->BP->Prop}(C:KO prog w A s a₀ κ lt)(O:Ord (·∈a₀) lt)(h1:1<=n)(h2:n<=nrem)(hn:lo+nrem<=a₀.size)(g:Good a₀ κ st)(u:Up lt (AV st) lo (lo+n))
  (h:∀n,1<=n->n<=nrem->Up lt (AV st) lo (lo+n)->Q (some n) st):wpS (Af prog w) A E s (do
   let mut n:=n
   for _ in [n:nrem] do
    let some smaller <-kU (lo+n) (lo+n - 1) | return none
    if smaller then break
    n:=n+1
   return some n) Q st:=by
 refine AL (DR (CD (I:=λx c st'=>st'=st/\c=(none,x)/\Up lt (AV st) lo (lo+x))
  (Q:=λc st'=>st'=st/\∃n,c=(none,n)/\1<=n/\n<=nrem/\Up lt (AV st) lo (lo+n)) ?step ?fin ⟨rfl,rfl,u⟩) ?post)
 case fin=>
  rintro c st' ⟨rfl,rfl,u⟩
  have e:max n nrem=nrem:=by lia
  rw[e]at u ⊢;exact⟨rfl,nrem,rfl,by lia,AQ _,u⟩
 case step=>
  rintro x c st' hx1 hx2 ⟨rfl,rfl,u⟩;dsimp only;refine AL (NO C g (by lia) (by lia) ?_)
  cases hq:lt (ix (AV st') (lo+x)) (ix (AV st') (lo+x - 1))with
  | true=>exact AM ⟨rfl,x,rfl,by lia,by lia,u⟩
  | false=>exact AM ⟨rfl,rfl,Up.grow (hi:=lo+x) O g (by lia) u (by lia) hq⟩
 case post=>
  rintro c st' ⟨rfl,n,rfl,hn1,hn2,u⟩;exact AM (h n hn1 hn2 u)
def wpS_countRun{st:BP}{lo nrem:Nat}{Q:Option Nat->BP->Prop}(C:KO prog w A s a₀ κ lt)(O:Ord (·∈a₀) lt)(h1:1<=nrem)(hn:lo+nrem<=a₀.size)(g:Good a₀ κ st)
  (h:∀st' n,Good a₀ κ st'->1<=n->n<=nrem->Up lt (AV st') lo (lo+n)->Out (AV st) (AV st') lo (lo+nrem)->AX st'=AX st->Q (some n) st'):wpS (Af prog w) A E s (countRun' lo nrem) Q st:=by
 rw[countRun'_eq]
 refine AL (DR (CD (I:=λx c st'=>st'=st/\c=(none,x)/\Up lt (AV st) lo (lo+x))
  (Q:=λc st'=>st'=st/\∃n,c=(none,n)/\1<=n/\n<=nrem/\Up lt (AV st) lo (lo+n)/\(n=nrem∨lt (ix (AV st) (lo+n)) (ix (AV st) (lo+n - 1))=true)) ?step ?fin ?init) ?post)
 case init=>
  refine⟨rfl,rfl,λi j a1 a2 a3=>?_⟩
  have:i=j:=by lia
  subst this;exact O.irr (g.mem (by lia))
 case fin=>
  rintro c st' ⟨rfl,rfl,u⟩
  have e:max 1 nrem=nrem:=by lia
  rw[e]at u ⊢;exact⟨rfl,nrem,rfl,h1,AQ _,u,.inl rfl⟩
 case step=>
  rintro x c st' hx1 hx2 ⟨rfl,rfl,u⟩;dsimp only;refine AL (NO C g (by lia) (by lia) ?_)
  cases hq:lt (ix (AV st') (lo+x)) (ix (AV st') (lo+x - 1))with
  | true=>exact AM ⟨rfl,x,rfl,hx1,by lia,u,.inr hq⟩
  | false=>exact AM ⟨rfl,rfl,Up.grow (hi:=lo+x) O g (by lia) u (by lia) hq⟩
 case post=>
  rintro c st' ⟨rfl,n,rfl,hn1,hn2,u,hd⟩;dsimp only
  by_cases hnn:n=nrem
  ·rw[qX (by simpa using hnn)]
   exact AM (h st' n g hn1 hn2 u .refl rfl)
  ·rw[qY (by simpa using hnn)]
   have hd':=hd.resolve_left hnn
   have desc:∀(st1:BP),Good a₀ κ st1->Dn lt (AV st1) lo (lo+(n+1))->Out (AV st') (AV st1) lo (lo+nrem)->AX st1=AX st' ->
     wpS (Af prog w) A E s (do
      liftM (rule "list.sort.descending-run")
      let mut n:=n+1
      let mut neq:=0
      for _ in [n:nrem] do
       let some smaller <-kU (lo+n) (lo+n - 1) | return none
       if smaller then
        if neq > 0 then OT (lo+n - (neq+1)) (lo+n)
        neq:=0
       else
        let some larger <-kU (lo+n - 1) (lo+n) | return none
        if larger then break
        neq:=neq+1
       n:=n+1
      if neq > 0 then OT (lo+n - (neq+1)) (lo+n)
      OT lo (lo+n)
      for _ in [n:nrem] do
       let some smaller <-kU (lo+n) (lo+n - 1) | return none
       if smaller then break
       n:=n+1
      return some n) Q st1:=by
    intro st1 g1 d1 o1 p1;refine AL (Jb ?_)
    refine AL (DR (CD (I:=λx c st2=>Good a₀ κ st2/\∃q,c=(none,x,q)/\q+1<=x/\Dn lt (AV st2) lo (lo+x)/\Up lt (AV st2) (lo+x - (q+1)) (lo+x)/\Out (AV st') (AV st2) lo (lo+nrem)/\AX st2=AX st')
     (Q:=λc st2=>Good a₀ κ st2/\∃n q,c=(none,n,q)/\n<=nrem/\q+1<=n/\Dn lt (AV st2) lo (lo+n)/\Up lt (AV st2) (lo+n - (q+1)) (lo+n)/\Out (AV st') (AV st2) lo (lo+nrem)/\AX st2=AX st') ?dstep ?dfin ?dinit) ?dpost)
    case dinit=>
     refine⟨g1,0,rfl,by lia,d1,?_,o1,p1⟩;have:=U6 O g1 (lo:=lo+n) (by lia);rwa [show lo+(n+1) - (0+1)=lo+n by lia,show lo+(n+1)=lo+n+1 by lia]
    case dfin=>
     rintro c st2 ⟨g2,q,rfl,hq,d2,u2,o2,p2⟩
     have e:max (n+1) nrem=nrem:=by lia
     rw[e]at d2 u2 hq ⊢;exact⟨g2,nrem,q,rfl,AQ _,hq,d2,u2,o2,p2⟩
    case dstep=>
     rintro x c st2 hx1 hx2 ⟨g2,q,rfl,hq,d2,u2,o2,p2⟩;dsimp only;refine AL (NO C g2 (by lia) (by lia) ?_)
     cases hs:lt (ix (AV st2) (lo+x)) (ix (AV st2) (lo+x - 1))with
     | true=>
      dsimp only;rw[qX rfl];have hlt:=O.asym _ _ (g2.mem (show lo+x < _ by lia)) (g2.mem (show lo+x - 1 < _ by lia)) hs
      by_cases hq0:q > 0
      ·rw[qX hq0,LN]
       have hsz:lo+x<=(AV st2).size:=by rw[g2.size];lia
       have g3:Good a₀ κ (setArr st2 (Jq (AV st2) (lo+x - (q+1)) (lo+x) ((lo+x - (lo+x - (q+1))) / 2))):=g2.setArr (TC _ _ _ _);have d3:=Dn.part (lt:=lt) (lo:=lo) hsz (show lo<=lo+x - (q+1) by lia) (by omega) d2 u2;refine AL (DZ (AM ⟨g3,0,rfl,by lia,?_,?_,o2.trans (J1 hsz (by lia) (by lia)),p2⟩))
       ·refine Dn.grow (hi:=lo+x) O g3 (by lia) d3 (by lia) ?_
        show lt (ix (Jq (AV st2) (lo+x - (q+1)) (lo+x) ((lo+x - (lo+x - (q+1))) / 2)) (lo+x - 1)) (ix (Jq (AV st2) (lo+x - (q+1)) (lo+x) ((lo+x - (lo+x - (q+1))) / 2)) (lo+x))=false;rw[EI hsz,EI hsz,qX (by omega),qY (by lia)];exact O.ntr _ _ _ (g2.mem (by lia)) (g2.mem (show lo+x - 1 < _ by lia)) (g2.mem (by omega)) hlt (d2 _ _ (by lia) (by omega) (by lia))
       ·have:=U6 O g3 (lo:=lo+x) (by lia)
        rwa [show lo+(x+1) - (0+1)=lo+x by lia,show lo+(x+1)=lo+x+1 by lia]
      ·rw[qY hq0]
       refine AM ⟨g2,0,rfl,by lia,Dn.grow (hi:=lo+x) O g2 (by lia) d2 (by lia) hlt,?_,o2,p2⟩;have:=U6 O g2 (lo:=lo+x) (by lia);rwa [show lo+(x+1) - (0+1)=lo+x by lia,show lo+(x+1)=lo+x+1 by lia]
     | false=>
      dsimp only;rw[qY AZ];refine AL (NO C g2 (by lia) (by lia) ?_)
      cases hl:lt (ix (AV st2) (lo+x - 1)) (ix (AV st2) (lo+x))with
      | true=>exact AM ⟨g2,x,q,rfl,by lia,hq,d2,u2,o2,p2⟩
      | false=>
       refine AM ⟨g2,q+1,rfl,by lia,Dn.grow (hi:=lo+x) O g2 (by lia) d2 (by lia) hl,?_,o2,p2⟩;rw[show lo+(x+1) - (q+1+1)=lo+x - (q+1) by lia];exact Up.grow (hi:=lo+x) O g2 (by lia) u2 (by omega) hs
    case dpost=>
     rintro c st2 ⟨g2,m,q,rfl,hm,hq,d2,u2,o2,p2⟩;dsimp only
     have hsz:lo+m<=(AV st2).size:=by rw[g2.size];lia
     have last:∀st3,Good a₀ κ st3->Dn lt (AV st3) lo (lo+m)->Out (AV st') (AV st3) lo (lo+nrem)->AX st3=AX st'->∀(R:StateT BP Sem (Option Nat)),R=(do
        let mut n:=m
        for _ in [n:nrem] do
         let some smaller <-kU (lo+n) (lo+n - 1) | return none
         if smaller then break
         n:=n+1
        return some n)->wpS (Af prog w) A E s (do OT lo (lo+m);R) Q st3:=by
      rintro st3 g3 d3 o3 p3 R rfl
      have hsz3:lo+m<=(AV st3).size:=by rw[g3.size];lia
      rw[LN];refine AL (DZ ?_);have g4:Good a₀ κ (setArr st3 (Jq (AV st3) lo (lo+m) ((lo+m - lo) / 2))):=g3.setArr (TC _ _ _ _)
      exact cD C O (by lia) hm hn g4 (Dn.flip hsz3 d3) λk k1 k2 k3=>h _ k g4 k1 k2 k3 (o3.trans (J1 hsz3 (by lia) (by lia))) p3
     by_cases hq0:q > 0
     ·rw[qX hq0,LN]
      refine AL (DZ ?_);exact last _ (g2.setArr (TC _ _ _ _)) (Dn.part hsz (by lia) (by omega) d2 u2) (o2.trans (J1 hsz (by lia) (by lia))) p2 _ rfl
     ·rw[qY hq0]
      exact last _ g2 d2 o2 p2 _ rfl
   have hlt:=O.asym _ _ (g.mem (show lo+n < _ by lia)) (g.mem (show lo+n - 1 < _ by omega)) hd'
   by_cases hn0:n > 1
   ·rw[qX hn0]
    refine AL (NO C g (by lia) (by omega) ?_)
    cases hr:lt (ix (AV st') lo) (ix (AV st') (lo+n - 1))with
    | true=>exact AM (h st' n g hn1 hn2 u .refl rfl)
    | false=>
     dsimp only;rw[qY AZ,LN]
     have hsz:lo+n<=(AV st').size:=by rw[g.size];lia
     have g1:Good a₀ κ (setArr st' (Jq (AV st') lo (lo+n) ((lo+n - lo) / 2))):=g.setArr (TC _ _ _ _)
     have al:∀i j,lo<=i->i < lo+n->lo<=j->j < lo+n->lt (ix (AV st') i) (ix (AV st') j)=false:=λi j i1 i2 j1 j2=>by
      have q1:=u j (lo+n - 1) (by omega) (by lia) (by omega);have q2:=u lo i (by lia) (by omega) (by omega);exact O.ntr _ _ _ (g.mem (by lia)) (g.mem (show lo < _ by lia)) (g.mem (by lia)) (O.ntr _ _ _ (g.mem (by lia)) (g.mem (show lo+n - 1 < _ by lia)) (g.mem (by lia)) q1 hr) q2
     refine AL (DZ ?_);refine desc _ g1 ?_ (J1 hsz (by lia) (by lia)) rfl;refine Dn.grow (hi:=lo+n) O g1 (by lia) (λi j a1 a2 a3=>?_) (by lia) ?_
     ·show lt (ix (Jq (AV st') lo (lo+n) ((lo+n - lo) / 2)) i) (ix (Jq (AV st') lo (lo+n) ((lo+n - lo) / 2)) j)=false
      rw[EI hsz,EI hsz,qX (by lia),qX (by lia)];exact al _ _ (by omega) (by omega) (by omega) (by omega)
     ·show lt (ix (Jq (AV st') lo (lo+n) ((lo+n - lo) / 2)) (lo+n - 1)) (ix (Jq (AV st') lo (lo+n) ((lo+n - lo) / 2)) (lo+n))=false
      rw[EI hsz,EI hsz,qX (by omega),qY (by lia),show lo+(lo+n) - 1 - (lo+n - 1)=lo by omega];exact O.ntr _ _ _ (g.mem (by lia)) (g.mem (show lo+n - 1 < _ by lia)) (g.mem (by lia)) hlt hr
   ·rw[qY hn0]
    have e:n=1:=by lia
    subst e;refine desc _ g (Dn.grow (hi:=lo+1) O g (by lia) (λi j a1 a2 a3=>?_) (by lia) hlt) .refl rfl
    have e1:i=lo:=by lia
    have e2:j=lo:=by lia
    rw[e1,e2];exact O.irr (g.mem (by lia))
end
def mW:Bool->As->Array As->Nat->Nat->Nat->StateT BP Sem (Option Nat):=sortPriv% PySem.Builtin.gallop
section
variable{prog:Al}{w:BE}{A:BC}{E:AE->AG->Prop}{s:AG}{a₀:Array As}{κ:GF}{lt:As->As->Bool}
abbrev BS:=Option (Option Nat)×Nat×Nat
def fc{st:BP}{p:Nat->Bool}{n lo hi:Nat}{F:Nat->BS->StateT BP Sem (ForInStep BS)}{T:BS->StateT BP Sem (Option Nat)}{Q:Option Nat->BP->Prop}(hlh:lo<=hi)(hhn:hi<=n)
  (hlo:∀i,i < lo->p i=true) (hhi:∀i,hi<=i->i < n->p i=false) (mono:∀i j,i<=j->j < n->p j=true->p i=true)
  (hF:∀x l h (R:ForInStep BS->BP->Prop),l<=h->h<=n->(l ≥ h->R (.done (none,l,h)) st)->(l < h->p (l+(h - l) / 2)=true->R (.yield (none,l+(h - l) / 2+1,h)) st)->(l < h->p (l+(h - l) / 2)=false->R (.yield (none,l,l+(h - l) / 2)) st) ->
   wpS (Af prog w) A E s (F x (none,l,h)) R st)
  (hT:∀l h,h<=n->(∀i,i < h->p i=true)->(∀i,h<=i->i < n->p i=false)->wpS (Af prog w) A E s (T (none,l,h)) Q st):wpS (Af prog w) A E s (forIn [0:n] (none,lo,hi) F >>= T) Q st:=by
 refine AL (DR (CD (I:=λx c st'=>st'=st/\∃l h,c=(none,l,h)/\l<=h/\h<=n/\h - l<=n - x/\(∀i,i < l->p i=true)/\(∀i,h<=i->i < n->p i=false))
  (Q:=λc st'=>st'=st/\∃l h,c=(none,l,h)/\h<=n/\(∀i,i < h->p i=true)/\(∀i,h<=i->i < n->p i=false)) ?step ?fin ⟨rfl,lo,hi,rfl,hlh,hhn,by lia,hlo,hhi⟩) ?post)
 case fin=>
  rintro c st' ⟨rfl,l,h,rfl,h1,h2,h3,h4,h5⟩
  have:l=h:=by lia
  subst this;exact⟨rfl,l,l,rfl,h2,h4,h5⟩
 case step=>
  rintro x c st' _ hx ⟨rfl,l,h,rfl,h1,h2,h3,h4,h5⟩
  refine hF x l h _ h1 h2 (λhge=>?_) (λhlt hp=>?_) λhlt hp=>?_
  ·have:l=h:=by lia
   subst this;exact⟨rfl,l,l,rfl,h2,h4,h5⟩
  ·exact⟨rfl,_,_,rfl,by lia,h2,by omega,λi hi=>mono i (l+(h - l) / 2) (by lia) (by lia) hp,h5⟩
  ·refine⟨rfl,_,_,rfl,by lia,by lia,by omega,h4,λi hi1 hi2=>?_⟩
   cases e:p i with
   | false=>rfl
   | true=>rw[mono _ i hi1 hi2 e]at hp;cases hp
 case post=>
  rintro c st' ⟨rfl,l,h,rfl,h2,h4,h5⟩;exact hT l h h2 h4 h5
def Ws{st:BP}{q:Nat->Bool}{n mx:Nat}{F:Nat->BS->StateT BP Sem (ForInStep BS)}{T:BS->StateT BP Sem (Option Nat)}{Q:Option Nat->BP->Prop}(hm:mx<=n)(q0:q 0=true)
  (hF:∀x a b (R:ForInStep BS->BP->Prop),a < b->(b ≥ mx->R (.done (none,a,b)) st)->(b < mx->q b=false->R (.done (none,a,b)) st)->(b < mx->q b=true->R (.yield (none,b,2 * b+1)) st)->wpS (Af prog w) A E s (F x (none,a,b)) R st)
  (hT:∀a b,a < b->q a=true->(a=0∨a < mx)->(b < mx->q b=false)->wpS (Af prog w) A E s (T (none,a,b)) Q st):wpS (Af prog w) A E s (forIn [0:n] (none,0,1) F >>= T) Q st:=by
 refine AL (DR (CD (I:=λx c st'=>st'=st/\∃a b,c=(none,a,b)/\a < b/\x+1<=b/\q a=true/\(a=0∨a < mx))
  (Q:=λc st'=>st'=st/\∃a b,c=(none,a,b)/\a < b/\q a=true/\(a=0∨a < mx)/\(b < mx->q b=false)) ?step ?fin ⟨rfl,0,1,rfl,by lia,by lia,q0,.inl rfl⟩) ?post)
 case fin=>
  rintro c st' ⟨rfl,a,b,rfl,h1,h2,h3,h4⟩;exact⟨rfl,a,b,rfl,h1,h3,h4,λh=>by lia⟩
 case step=>
  rintro x c st' _ hx ⟨rfl,a,b,rfl,h1,h2,h3,h4⟩
  refine hF x a b _ h1 (λhge=>?_) (λhlt hp=>?_) λhlt hp=>?_
  ·exact⟨rfl,a,b,rfl,h1,h3,h4,λh=>by lia⟩
  ·exact⟨rfl,a,b,rfl,h1,h3,h4,λ_=>hp⟩
  ·exact⟨rfl,b,2 * b+1,rfl,by lia,by lia,hp,.inr hlt⟩
 case post=>
  rintro c st' ⟨rfl,a,b,rfl,h1,h3,h4,h5⟩;exact hT a b h1 h3 h4 h5
def FD{st:BP}{left:Bool}{key:As}{arr:Array As}{base n hint:Nat}{Q:Option Nat->BP->Prop}(C:KO prog w A s a₀ κ lt)(g:Good a₀ κ st)(p:Nat->Bool)
  (hkey:key∈a₀) (harr:∀i,i < n->base+i < arr.size/\ix arr (base+i)∈a₀) (hp:∀i,i < n->p i=if left=true then lt (ix arr (base+i)) key else !lt key (ix arr (base+i)))
  (mono:∀i j,i<=j->j < n->p j=true->p i=true) (hh:hint < n)
  (h:∀k,k<=n->(∀i,i < k->p i=true)->(∀i,k<=i->i < n->p i=false)->Q (some k) st):wpS (Af prog w) A E s (mW left key arr base n hint) Q st:=by
 have bey:∀i,i < n->∀R:Option Bool->BP->Prop,R (some (p i)) st->wpS (Af prog w) A E s (do let x <-elem' arr (base+i);if left=true then lt' x key else do let y <-lt' key x;pure (y.map (!·))) R st:=by
  intro i hi R hR;obtain⟨h1,h2⟩:=harr i hi;rw[bq,DT h1];refine AL (AM ?_);rw[hp i hi]at hR
  cases left with
  | true=>exact O0 C g h2 hkey hR
  | false=>exact AL (O0 C g hkey h2 (AM hR))
 refine(AL ?_:wpS _ _ _ _ (mW left key arr base n hint) Q st);refine bey hint hh _ ?_
 have fin:∀(lo hi:Nat) {F:Nat->BS->StateT BP Sem (ForInStep BS)} {T:BS->StateT BP Sem (Option Nat)},lo<=hi->hi<=n->(∀i,i < lo->p i=true)->(∀i,hi<=i->i < n->p i=false) ->
   (∀x l h' (R:ForInStep BS->BP->Prop),l<=h'->h'<=n->(l ≥ h'->R (.done (none,l,h')) st)->(l < h'->p (l+(h' - l) / 2)=true->R (.yield (none,l+(h' - l) / 2+1,h')) st)->(l < h'->p (l+(h' - l) / 2)=false->R (.yield (none,l,l+(h' - l) / 2)) st) ->
    wpS (Af prog w) A E s (F x (none,l,h')) R st)->(∀l h',T (none,l,h')=pure (some h'))->wpS (Af prog w) A E s (forIn [0:n] (none,lo,hi) F >>= T) Q st:=λlo hi F T h1 h2 h3 h4 hF hT=>
  fc h1 h2 h3 h4 mono hF λl h' q1 q2 q3=>by rw[hT];exact AM (h h' q1 q2 q3)
 cases hq:p hint with
 | true=>
  dsimp only;rw[qX rfl]
  refine Ws (q:=λi=>decide (hint+i < n)&&p (hint+i)) (mx:=n - hint) (by lia) (by simp[hq,hh]) (λx a b R hab r1 r2 r3=>?_) λa b hab qa ha hb=>?_
  ·dsimp only
   by_cases hge:b ≥ n - hint
   ·rw[qX hge];exact AM (r1 hge)
   ·rw[qY hge]
    refine AL (bey (hint+b) (by lia) _ ?_);have hd:decide (hint+b < n)=true:=wX (by lia)
    cases e:p (hint+b)with
    | true=>exact AM (r3 (by lia) (by simp[hd,e]))
    | false=>exact AM (r2 (by lia) (by simp[hd,e]))
  ·dsimp only
   have pa:p (hint+a)=true:=by simp at qa;exact qa.2
   have han:hint+a < n:=by simp at qa;exact qa.1
   refine fin (hint+a+1) (hint+min b (n - hint)) (by omega) (by omega) (λi hi=>mono i (hint+a) (by lia) han pa) (λi h1 h2=>?_) (λx l h' R l1 l2 r1 r2 r3=>?_) λl h'=>rfl
   ·by_cases hbm:b < n - hint
    ·have:=hb hbm
     have hd:decide (hint+b < n)=true:=wX (by lia);rw[hd,iA]at this
     cases e:p i with
     | false=>rfl
     | true=>rw[mono (hint+b) i (by lia) h2 e]at this;cases this
    ·omega
   ·dsimp only
    by_cases hge:l ≥ h'
    ·rw[qX hge];exact AM (r1 hge)
    ·rw[qY hge]
     refine AL (bey (l+(h' - l) / 2) (by lia) _ ?_)
     cases e:p (l+(h' - l) / 2)with
     | true=>exact AM (r2 (by lia) e)
     | false=>exact AM (r3 (by lia) e)
 | false=>
  dsimp only;rw[qY AZ]
  refine Ws (q:=λi=>decide (i<=hint)&&!p (hint - i)) (mx:=hint+1) (by lia) (by simp[hq]) (λx a b R hab r1 r2 r3=>?_) λa b hab qa ha hb=>?_
  ·dsimp only
   by_cases hge:b ≥ hint+1
   ·rw[qX hge];exact AM (r1 hge)
   ·rw[qY hge]
    refine AL (bey (hint - b) (by omega) _ ?_);have hd:decide (b<=hint)=true:=wX (by lia)
    cases e:p (hint - b)with
    | true=>exact AM (r2 (by lia) (by simp[hd,e]))
    | false=>exact AM (r3 (by lia) (by simp[hd,e]))
  ·dsimp only
   have pa:p (hint - a)=false:=by simp at qa;exact qa.2
   have han:a<=hint:=by simp at qa;exact qa.1
   refine fin (hint+1 - min b (hint+1)) (hint - a) (by omega) (by omega) (λi hi=>?_) (λi h1 h2=>?_) (λx l h' R l1 l2 r1 r2 r3=>?_) λl h'=>rfl
   ·by_cases hbm:b < hint+1
    ·have:=hb hbm
     have hd:decide (b<=hint)=true:=wX (by lia);rw[hd,iA]at this;exact mono i (hint - b) (by omega) (by lia) (by simpa using this)
    ·omega
   ·cases e:p i with
    | false=>rfl
    | true=>rw[mono (hint - a) i h1 h2 e]at pa;cases pa
   ·dsimp only
    by_cases hge:l ≥ h'
    ·rw[qX hge];exact AM (r1 hge)
    ·rw[qY hge]
     refine AL (bey (l+(h' - l) / 2) (by lia) _ ?_)
     cases e:p (l+(h' - l) / 2)with
     | true=>exact AM (r2 (by lia) e)
     | false=>exact AM (r3 (by lia) e)
end
structure MI(R:As->As->Prop)(T o ra rb:List As):Prop where
 perm:(o++(ra++rb)).Perm T
 srt:o.Pairwise R
 low:∀x∈o,∀y∈ra++rb,R x y
 sa:ra.Pairwise R
 sb:rb.Pairwise R
structure IG(R:As->As->Prop)(T r:List As):Prop where
 perm:r.Perm T
 srt:r.Pairwise R
section
variable{R:As->As->Prop}{T o ra rb xs:List As}
def MI.takeA(m:MI R T o (xs++ra) rb)(h:∀x∈xs,∀y∈rb,R x y):MI R T (o++xs) ra rb:=by
 have sa:=BZ.mp m.sa;refine⟨by simpa[BN]using m.perm,BZ.mpr ⟨m.srt,sa.1,λx hx y hy=>m.low x hx y (by simp[hy])⟩,λx hx y hy=>?_,sa.2.1,m.sb⟩
 rcases Ae.mp hx with hx | hx
 ·exact m.low x hx y (by rcases Ae.mp hy with h | h <;> simp[h])
 ·rcases Ae.mp hy with hy | hy
  ·exact sa.2.2 x hx y hy
  ·exact h x hx y hy
def MI.takeB(m:MI R T o ra (xs++rb))(h:∀x∈xs,∀y∈ra,R x y):MI R T (o++xs) ra rb:=by
 have sb:=BZ.mp m.sb;refine⟨?_,BZ.mpr ⟨m.srt,sb.1,λx hx y hy=>m.low x hx y (by simp[hy])⟩,λx hx y hy=>?_,m.sa,sb.2.1⟩
 ·refine List.Perm.trans ?_ m.perm
  rw[BN];refine Js o ?_;rw[<-BN,<-BN];exact QY rb Ux
 ·rcases Ae.mp hx with hx | hx
  ·exact m.low x hx y (by rcases Ae.mp hy with h | h <;> simp[h])
  ·rcases Ae.mp hy with hy | hy
   ·exact h x hx y hy
   ·exact sb.2.2 x hx y hy
def MI.endA(m:MI R T o ra []):IG R T (o++ra):=by
 refine⟨by simpa using m.perm,BZ.mpr ⟨m.srt,m.sa,λx hx y hy=>m.low x hx y (by simp[hy])⟩⟩
def MI.endB(m:MI R T o [] rb):IG R T (o++rb):=by
 refine⟨by simpa using m.perm,BZ.mpr ⟨m.srt,m.sb,λx hx y hy=>m.low x hx y (by simp[hy])⟩⟩
def MI.last(m:MI R T o ra rb)(h:∀y∈rb,∀x∈ra,R y x):IG R T (o++(rb++ra)):=by
 refine⟨(Js o Ux).trans m.perm,BZ.mpr ⟨m.srt,BZ.mpr ⟨m.sb,m.sa,h⟩,λx hx y hy=>m.low x hx y (by rcases Ae.mp hy with h | h <;> simp[h])⟩⟩
end
def On{a:Array As}{i:Nat}(h:i < a.size):a.toList.drop i=ix a i :: a.toList.drop (i+1):=by
 rw[Fj (by simpa using h)]
 congr 1
 have:=DT h;rw[getElem?_pos a i h]at this;simpa using this
def Ic{a:Array As}{i k:Nat}(h:i+k<=a.size):a.toList.drop i=(a.extract i (i+k)).toList++a.toList.drop (i+k):=by
 have e:(a.extract i (i+k)).toList=(a.toList.drop i).take k:=by simp[Nu]
 rw[e,<-Q3,E6]
def Od{a:Array As}{i k:Nat}(h:i+k<=a.size){x:As}(hx:x∈(a.extract i (i+k)).toList):∃j,j < k/\x=ix a (i+j):=by
 rw[BY,OX]at hx;obtain⟨j,hj,rfl⟩:=hx;refine⟨j,by lia,?_⟩;have:=DT (xs:=a) (i:=i+j) (by lia);rw[getElem?_pos a _ (by lia)]at this;simpa using this
def KD(a:Array As)(i:Nat):(a.extract i a.size).toList=a.toList.drop i:=by
 simp[Nu];exact Eb (by simp)
def Ga{a:Array As}{i:Nat}{x:As}(hx:x∈a.toList.drop i):∃j,i<=j/\j < a.size/\x=ix a j:=by
 obtain⟨k,hk,rfl⟩:=WE.mp hx;simp at hk;refine⟨i+k,by lia,by omega,?_⟩;have:=DT (xs:=a) (i:=i+k) (by omega);rw[getElem?_pos a _ (by omega)]at this;simpa using this
section
variable{prog:Al}{w:BE}{A:BC}{E:AE->AG->Prop}{s:AG}{a₀:Array As}{κ:GF}{lt:As->As->Bool}
def Bn{st:BP}{a:Array As}{i:Nat}{Q:As->BP->Prop}(h:i < a.size)(hq:Q (ix a i) st):wpS (Af prog w) A E s (elem' a i) Q st:=by
 rw[bq,DT h];exact AM hq
def mLo:Array As->Array As->StateT BP Sem (Array As):=sortPriv% PySem.Builtin.mergeLo
def mHi:Array As->Array As->StateT BP Sem (Array As):=sortPriv% PySem.Builtin.mergeHi
structure KR(a₀:Array As)(κ:GF)(st st':BP):Prop where
 good:Good a₀ κ st'
 arr:AV st'=AV st
 pend:AX st'=AX st
def KR.gal{st st':BP}(h:KR a₀ κ st st')(n:Nat):KR a₀ κ st (HS (kindOf st') (AV st') (AX st') n (Il st')):=⟨⟨h.good.perm,h.good.kind,h.good.failed⟩,h.arr,h.pend⟩
abbrev Rl(lt:As->As->Bool)(x y:As):Prop:=lt y x=false
def Tc(O:Ord (·∈a₀) lt){a:Array As}(ma:∀i,i < a.size->ix a i∈a₀)(sa:a.toList.Pairwise (Rl lt)):∀i j,i<=j->j < a.size->Rl lt (ix a i) (ix a j):=λi j hij hj=>by
 by_cases e:i=j
 ·subst e;exact O.irr (ma i hj)
 ·have hd:=On (a:=a) (i:=i) (by lia)
  have:=sa.sublist (List.drop_sublist i a.toList);rw[hd]at this;refine(Yo.mp this).1 _ ?_;rw[show a.toList.drop (i+1)=(a.extract (i+1) (i+1+(j - (i+1)))).toList++a.toList.drop (i+1+(j - (i+1)))from Ic (by lia),show i+1+(j - (i+1))=j by lia,On hj];simp
def SW{a:Array As}(ma:∀x∈a.toList,x∈a₀):∀i,i < a.size->ix a i∈a₀:=λi hi=>ma _ (BY.mpr (Ct (DT hi)))
def OY{st:BP}{n:Nat}{Q:Unit->BP->Prop}(h:Q () (HS (kindOf st) (AV st) (AX st) n (Il st))):wpS (Af prog w) A E s ((sortPriv% PySem.Builtin.setMinGallop) n) Q st:=DZ h
abbrev L7:=Option (Array As)×Array As×Nat×Nat×Nat×Nat×Nat
def cB{st:BP}{a b:Array As}{Q:Array As->BP->Prop}(C:KO prog w A s a₀ κ lt)(O:Ord (·∈a₀) lt)(g:Good a₀ κ st)
  (ma:∀x∈a.toList,x∈a₀) (mb:∀x∈b.toList,x∈a₀) (sa:a.toList.Pairwise (Rl lt)) (sb:b.toList.Pairwise (Rl lt)) (na:0 < a.size) (nb:0 < b.size)
  (h0:∀x∈a.toList,Rl lt (ix b 0) x) (h1:∀y∈b.toList,Rl lt y (ix a (a.size - 1)))
  (h:∀r st',KR a₀ κ st st'->IG (Rl lt) (a.toList++b.toList) r.toList->Q r st'):wpS (Af prog w) A E s (mLo a b) Q st:=by
 have ia0:=SW ma;have ib0:=SW mb;have ua:=Tc O ia0 sa;have ub:=Tc O ib0 sb
 have tr:∀x y z:As,x∈a₀->y∈a₀->z∈a₀->Rl lt x y->Rl lt y z->Rl lt x z:=λx y z hx hy hz h1 h2=>O.ntr x y z hx hy hz h1 h2
 let M (out:Array As) (ia ib:Nat):Prop:=MI (Rl lt) (a.toList++b.toList) out.toList (a.toList.drop ia) (b.toList.drop ib)
 have tA:∀out ia ib,M out ia ib->ia < a.size->(∀j,ib<=j->j < b.size->Rl lt (ix a ia) (ix b j))->M (out.push (ix a ia)) (ia+1) ib:=λout ia ib m hia hr=>by
  have m':MI (Rl lt) (a.toList++b.toList) out.toList ([ix a ia]++a.toList.drop (ia+1)) (b.toList.drop ib):=by rw[Hd,<-On hia];exact m
  have:=m'.takeA λx hx y hy=>by
   obtain⟨j,j1,j2,rfl⟩:=Ga hy;rw[AO.mp hx];exact hr j j1 j2
  simpa[M]using this
 have tB:∀out ia ib,M out ia ib->ib < b.size->(∀j,ia<=j->j < a.size->Rl lt (ix b ib) (ix a j))->M (out.push (ix b ib)) ia (ib+1):=λout ia ib m hib hr=>by
  have m':MI (Rl lt) (a.toList++b.toList) out.toList (a.toList.drop ia) ([ix b ib]++b.toList.drop (ib+1)):=by rw[Hd,<-On hib];exact m
  have:=m'.takeB λx hx y hy=>by
   obtain⟨j,j1,j2,rfl⟩:=Ga hy;rw[AO.mp hx];exact hr j j1 j2
  simpa[M]using this
 have sA:∀out ia ib k,M out ia ib->ia+k<=a.size->(∀i j,i < k->ib<=j->j < b.size->Rl lt (ix a (ia+i)) (ix b j))->M (out++a.extract ia (ia+k)) (ia+k) ib:=λout ia ib k m hk hr=>by
  have m':MI (Rl lt) (a.toList++b.toList) out.toList ((a.extract ia (ia+k)).toList++a.toList.drop (ia+k)) (b.toList.drop ib):=by rw[<-Ic hk];exact m
  have:=m'.takeA λx hx y hy=>by
   obtain⟨j,j1,j2,rfl⟩:=Ga hy;obtain⟨i,i1,rfl⟩:=Od hk hx;exact hr i j i1 j1 j2
  show MI _ _ (out++a.extract ia (ia+k)).toList _ _;rw[BM];exact this
 have sB:∀out ia ib k,M out ia ib->ib+k<=b.size->(∀i j,i < k->ia<=j->j < a.size->Rl lt (ix b (ib+i)) (ix a j))->M (out++b.extract ib (ib+k)) ia (ib+k):=λout ia ib k m hk hr=>by
  have m':MI (Rl lt) (a.toList++b.toList) out.toList (a.toList.drop ia) ((b.extract ib (ib+k)).toList++b.toList.drop (ib+k)):=by rw[<-Ic hk];exact m
  have:=m'.takeB λx hx y hy=>by
   obtain⟨j,j1,j2,rfl⟩:=Ga hy;obtain⟨i,i1,rfl⟩:=Od hk hx;exact hr i j i1 j1 j2
  show MI _ _ (out++b.extract ib (ib+k)).toList _ _;rw[BM];exact this
 have eB:∀out ia ib,M out ia ib->ib=b.size->IG (Rl lt) (a.toList++b.toList) (out++a.extract ia a.size++b.extract ib b.size).toList:=λout ia ib m e=>by
  subst e
  have m':MI (Rl lt) (a.toList++b.toList) out.toList (a.toList.drop ia) []:=by
   have:b.toList.drop b.size=[]:=by simp
   rw[<-this];exact m
  rw[BM,BM,KD,KD,show b.toList.drop b.size=[] by simp,BW];exact m'.endA
 have eA:∀out ia ib,M out ia ib->ia=a.size->IG (Rl lt) (a.toList++b.toList) (out++a.extract ia a.size++b.extract ib b.size).toList:=λout ia ib m e=>by
  subst e
  have m':MI (Rl lt) (a.toList++b.toList) out.toList [] (b.toList.drop ib):=by
   have:a.toList.drop a.size=[]:=by simp
   rw[<-this];exact m
  rw[BM,BM,KD,KD,show a.toList.drop a.size=[] by simp,BW];exact m'.endB
 have eL:∀out ia ib,M out ia ib->ia+1=a.size->IG (Rl lt) (a.toList++b.toList) (out++b.extract ib b.size++a.extract ia a.size).toList:=λout ia ib m e=>by
  have:=m.last λy hy x hx=>by
   obtain⟨j,j1,j2,rfl⟩:=Ga hx;obtain⟨i,i1,i2,rfl⟩:=Ga hy
   have:j=a.size - 1:=by lia
   subst this;exact h1 _ (BY.mpr (Ct (DT i2)))
  rw[BM,BM,KD,KD,BN];exact this
 have m0:M #[] 0 0:=⟨by simp,by simp,by simp,by simpa using sa,by simpa using sb⟩
 have m1:M #[ix b 0] 0 1:=by
  have:=tB #[] 0 0 m0 nb λj _ hj=>h0 _ (BY.mpr (Ct (DT hj)))
  simpa using this
 refine(AL (Jb ?_):wpS _ _ _ _ (mLo a b) Q st);refine AL (Bn nb ?_)
 by_cases c1:1=b.size
 ·refine(show wpS (Af prog w) A E s (if (1==b.size)=true then _ else _) Q st from ?_)
  rw[qX (by simpa using c1)];exact AM (h _ st ⟨g,rfl,rfl⟩ (eB _ _ _ m1 c1))
 refine(show wpS (Af prog w) A E s (if (1==b.size)=true then _ else _) Q st from ?_);rw[qY (by simpa using c1)]
 by_cases c2:0+1=a.size
 ·rw[qX (by simpa using c2)]
  exact AM (h _ st ⟨g,rfl,rfl⟩ (eL _ _ _ m1 c2))
 rw[qY (by simpa using c2)];refine AL (Hk ?_)
 refine AL (DR (CD (I:=λx c st'=>KR a₀ κ st st'/\∃out ia ib mg,c=(none,out,ia,ib,mg)/\M out ia ib/\ia+1 < a.size/\ib < b.size/\1+x<=ia+ib)
  (Q:=λc st'=>KR a₀ κ st st'/\∃r z,c=(some r,z)/\IG (Rl lt) (a.toList++b.toList) r.toList) ?step ?fin ?init) ?post)
 case init=>exact⟨⟨g,rfl,rfl⟩,_,_,_,_,rfl,m1,by lia,by lia,by lia⟩
 case fin=>
  rintro c st' ⟨_,out,ia,ib,mg,_,_,k1,k2,k3⟩
  lia
 case post=>
  rintro c st' ⟨s1,r,z,rfl,f⟩;exact AM (h r st' s1 f)
 case step=>
  rintro x c st1 _ _ ⟨s1,out,ia,ib,mg,rfl,m,k1,k2,k3⟩
  refine AL (DR (CD (I:=λy c st'=>st'=st1/\∃out' ia' ib' ac bc,c=(none,out',ia',ib',ac,bc)/\M out' ia' ib'/\ia'+1 < a.size/\ib' < b.size/\ia+ib+y<=ia'+ib')
   (Q:=λc st'=>st'=st1/\((∃r z,c=(some r,z)/\IG (Rl lt) (a.toList++b.toList) r.toList)∨∃out' ia' ib' ac bc,c=(none,out',ia',ib',ac,bc)/\M out' ia' ib'/\ia'+1 < a.size/\ib' < b.size/\ia+ib+1<=ia'+ib')) ?step1 ?fin1 ?init1) ?post1)
  case init1=>exact⟨rfl,out,ia,ib,0,0,rfl,m,k1,k2,by lia⟩
  case fin1=>
   rintro c st' ⟨rfl,out',ia',ib',ac,bc,rfl,m',q1,q2,q3⟩;exact⟨rfl,.inr ⟨out',ia',ib',ac,bc,rfl,m',q1,q2,by lia⟩⟩
  case step1=>
   rintro y c st' _ _ ⟨rfl,out',ia',ib',ac,bc,rfl,m',q1,q2,q3⟩;refine AL (Bn (i:=ib') q2 ?_);refine AL (Bn (i:=ia') (show ia' < a.size by lia) ?_);refine AL (O0 C s1.good (ib0 _ q2) (ia0 _ (by lia)) ?_)
   cases e:lt (ix b ib') (ix a ia')with
   | true=>
    refine AL (Bn q2 ?_);have r0:Rl lt (ix b ib') (ix a ia'):=O.asym _ _ (ib0 _ q2) (ia0 _ (by lia)) e
    have m2:=tB out' ia' ib' m' q2 λj j1 j2=>tr _ _ _ (ib0 _ q2) (ia0 _ (by lia)) (ia0 _ j2) r0 (ua ia' j j1 j2)
    refine(show wpS (Af prog w) A E s (if (ib'+1==b.size)=true then _ else _) _ st' from ?_)
    by_cases d:ib'+1=b.size
    ·rw[qX (by simpa using d)]
     exact AM ⟨rfl,.inl ⟨_,_,rfl,eB _ _ _ m2 d⟩⟩
    ·rw[qY (by simpa using d)]
     split
     ·exact AM ⟨rfl,.inr ⟨_,ia',ib'+1,_,_,rfl,m2,by omega,by lia,by lia⟩⟩
     ·exact AM ⟨rfl,_,ia',ib'+1,_,_,rfl,m2,by omega,by lia,by lia⟩
   | false=>
    refine AL (Bn (show ia' < a.size by lia) ?_)
    have m2:=tA out' ia' ib' m' (by lia) λj j1 j2=>tr _ _ _ (ia0 _ (by lia)) (ib0 _ q2) (ib0 _ j2) e (ub ib' j j1 j2)
    refine(show wpS (Af prog w) A E s (if (ia'+1+1==a.size)=true then _ else _) _ st' from ?_)
    by_cases d:ia'+1+1=a.size
    ·rw[qX (by simpa using d)]
     exact AM ⟨rfl,.inl ⟨_,_,rfl,eL _ _ _ m2 d⟩⟩
    ·rw[qY (by simpa using d)]
     split
     ·exact AM ⟨rfl,.inr ⟨_,ia'+1,ib',_,_,rfl,m2,by lia,by omega,by lia⟩⟩
     ·exact AM ⟨rfl,_,ia'+1,ib',_,_,rfl,m2,by lia,by omega,by lia⟩
  case post1=>
   rintro c st' ⟨rfl,⟨r,z,rfl,f⟩ | ⟨out',ia',ib',ac,bc,rfl,m',q1,q2,q3⟩⟩
   ·exact AM ⟨s1,_,_,rfl,f⟩
   refine AL (Jb ?_)
   refine AL (DR (CD (I:=λy c st2=>KR a₀ κ st st2/\∃out2 ia2 ib2 mg2 ac bc,c=(none,out2,ia2,ib2,mg2,ac,bc)/\M out2 ia2 ib2/\ia2+1 < a.size/\ib2 < b.size/\ia+ib+1<=ia2+ib2)
    (Q:=λc st2=>KR a₀ κ st st2/\((∃r z,c=(some r,z)/\IG (Rl lt) (a.toList++b.toList) r.toList)∨∃out2 ia2 ib2 mg2 ac bc,c=(none,out2,ia2,ib2,mg2,ac,bc)/\M out2 ia2 ib2/\ia2+1 < a.size/\ib2 < b.size/\ia+ib+1<=ia2+ib2)) ?step2 ?fin2 ?init2) ?post2)
   case init2=>exact⟨s1,out',ia',ib',mg+1,ac,bc,rfl,m',q1,q2,q3⟩
   case fin2=>
    rintro c st2 ⟨s2,out2,ia2,ib2,mg2,ac2,bc2,rfl,m2,p1,p2,p3⟩;exact⟨s2,.inr ⟨out2,ia2,ib2,mg2,ac2,bc2,rfl,m2,p1,p2,p3⟩⟩
   case post2=>
    rintro c st2 ⟨s2,⟨r,z,rfl,f⟩ | ⟨out2,ia2,ib2,mg2,ac2,bc2,rfl,m2,p1,p2,p3⟩⟩
    ·exact AM ⟨s2,_,_,rfl,f⟩
    ·exact AL (OY (AM ⟨s2.gal _,out2,ia2,ib2,mg2+1,rfl,m2,p1,p2,by lia⟩))
   case step2=>
    rintro y c st2 _ _ ⟨s2,out2,ia2,ib2,mg2,ac2,bc2,rfl,m2,p1,p2,p3⟩
    let P:ForInStep L7->BP->Prop:=λr st'=>match r with
     | .done c'=>KR a₀ κ st st'/\((∃r z,c'=(some r,z)/\IG (Rl lt) (a.toList++b.toList) r.toList)∨∃out2 ia2 ib2 mg2 ac bc,c'=(none,out2,ia2,ib2,mg2,ac,bc)/\M out2 ia2 ib2/\ia2+1 < a.size/\ib2 < b.size/\ia+ib+1<=ia2+ib2)
     | .yield c'=>KR a₀ κ st st'/\∃out2 ia2 ib2 mg2 ac bc,c'=(none,out2,ia2,ib2,mg2,ac,bc)/\M out2 ia2 ib2/\ia2+1 < a.size/\ib2 < b.size/\ia+ib+1<=ia2+ib2
    refine DR (Q:=P) ?_ λr st' h=>by cases r <;> exact h
    refine(show wpS (Af prog w) A E s (if mg2 > 1 then _ else _) P st2 from ?_);split
    all_goals
     refine AL (OY ?_);refine AL (Bn (i:=ib2) p2 ?_);refine AL (FD (base:=ia2) (n:=a.size - ia2) (hint:=0) (arr:=a) (key:=ix b ib2) (left:=false) C (s2.gal _).good (λi=>!lt (ix b ib2) (ix a (ia2+i))) (ib0 _ p2) (λi hi=>⟨by lia,ia0 _ (by lia)⟩) (λi hi=>rfl) (λi j hij hj e=>?_) (by lia) λk hk k1 k2=>?_)
     ·have e':lt (ix b ib2) (ix a (ia2+j))=false:=by simpa using e
      have:=tr _ _ _ (ia0 _ (by lia)) (ia0 _ (by lia)) (ib0 _ p2) (ua (ia2+i) (ia2+j) (by lia) (by lia)) e';simpa using this
     ·have far:∀j,ia2+k<=j->j < a.size->Rl lt (ix b ib2) (ix a j):=λj j1 j2=>by
       have:=k2 (j - ia2) (by lia) (by lia);rw[show ia2+(j - ia2)=j by lia]at this;exact O.asym _ _ (ib0 _ p2) (ia0 _ j2) (by simpa using this)
      have m5:=sA out2 ia2 ib2 k m2 (by lia) λi j hi j1 j2=>tr _ _ _ (ia0 _ (by lia)) (ib0 _ p2) (ib0 _ j2) (by simpa using k1 i hi) (ub ib2 j j1 j2)
      refine(show wpS (Af prog w) A E s (if k > 0 then _ else _) P _ from ?_)
      by_cases hk0:k > 0
      ·rw[qX hk0]
       refine(show wpS (Af prog w) A E s (if (ia2+k+1==a.size)=true then _ else _) P _ from ?_)
       by_cases d1:ia2+k+1=a.size
       ·rw[qX (by simpa using d1)]
        exact AM ⟨s2.gal _,.inl ⟨_,_,rfl,eL _ _ _ m5 d1⟩⟩
       rw[qY (by simpa using d1)]
       by_cases d2:ia2+k=a.size
       ·rw[qX (by simpa using d2)]
        exact AM ⟨s2.gal _,.inl ⟨_,_,rfl,eA _ _ _ m5 d2⟩⟩
       rw[qY (by simpa using d2)]
       have c1:ia2+k+1 < a.size:=by lia
       have c3:ia+ib+1<=ia2+k+ib2:=by lia
       have m4:=tB _ _ _ m5 p2 far;refine AL (Bn (i:=ib2) p2 ?_);refine(show wpS (Af prog w) A E s (if (ib2+1==b.size)=true then _ else _) P _ from ?_)
       by_cases d:ib2+1=b.size
       ·rw[qX (by simpa using d)]
        exact AM ⟨s2.gal _,.inl ⟨_,_,rfl,eB _ _ _ m4 d⟩⟩
       rw[qY (by simpa using d)];refine AL (Bn (i:=ia2+k) (by lia) ?_);refine AL (FD (base:=ib2+1) (n:=b.size - (ib2+1)) (hint:=0) (arr:=b) (key:=ix a (ia2+k)) (left:=true) C (s2.gal _).good (λi=>lt (ix b (ib2+1+i)) (ix a (ia2+k))) (ia0 _ (by lia)) (λi hi=>⟨by lia,ib0 _ (by lia)⟩) (λi hi=>rfl) (λi j hij hj e=>?_) (by lia) λk3 hk3 k4 k5=>?_)
       ·cases e2:lt (ix b (ib2+1+i)) (ix a (ia2+k))with
        | true=>rfl
        | false=>
         have:=tr _ _ _ (ia0 _ (by lia)) (ib0 _ (by lia)) (ib0 _ (by lia)) e2 (ub (ib2+1+i) (ib2+1+j) (by lia) (by lia));exact nomatch (show true=false from(show lt (ix b (ib2+1+j)) (ix a (ia2+k))=true from e).symm.trans this)
       ·have far2:∀j,ib2+1+k3<=j->j < b.size->Rl lt (ix a (ia2+k)) (ix b j):=λj j1 j2=>by
         have:=k5 (j - (ib2+1)) (by lia) (by omega);rwa [show ib2+1+(j - (ib2+1))=j by lia]at this
        have m6:=sB _ (ia2+k) (ib2+1) k3 m4 (by lia) λi j hi j1 j2=>tr _ _ _ (ib0 _ (by lia)) (ia0 _ (by lia)) (ia0 _ j2) (O.asym _ _ (ib0 _ (by lia)) (ia0 _ (by lia)) (k4 i hi)) (ua (ia2+k) j j1 j2)
        refine(show wpS (Af prog w) A E s (if k3 > 0 then _ else _) P _ from ?_)
        by_cases hk3:k3 > 0
        ·rw[qX hk3]
         refine(show wpS (Af prog w) A E s (if (ib2+1+k3==b.size)=true then _ else _) P _ from ?_)
         by_cases d2:ib2+1+k3=b.size
         ·rw[qX (by simpa using d2)]
          exact AM ⟨s2.gal _,.inl ⟨_,_,rfl,eB _ _ _ m6 d2⟩⟩
         rw[qY (by simpa using d2)];have m7:=tA _ _ _ m6 (by lia) far2;refine AL (Bn (i:=ia2+k) (by lia) ?_);refine(show wpS (Af prog w) A E s (if (ia2+k+1+1==a.size)=true then _ else _) P _ from ?_)
         by_cases d3:ia2+k+1+1=a.size
         ·rw[qX (by simpa using d3)]
          exact AM ⟨s2.gal _,.inl ⟨_,_,rfl,eL _ _ _ m7 d3⟩⟩
         rw[qY (by simpa using d3)];split
         ·exact AM ⟨s2.gal _,.inr ⟨_,ia2+k+1,ib2+1+k3,_,_,_,rfl,m7,by lia,by lia,by lia⟩⟩
         ·exact AM ⟨s2.gal _,_,ia2+k+1,ib2+1+k3,_,_,_,rfl,m7,by lia,by lia,by lia⟩
        ·rw[qY hk3]
         have:k3=0:=by lia
         subst this;have m7:=tA _ _ _ m4 (by lia) far2;refine AL (Bn (i:=ia2+k) (by lia) ?_);refine(show wpS (Af prog w) A E s (if (ia2+k+1+1==a.size)=true then _ else _) P _ from ?_)
         by_cases d3:ia2+k+1+1=a.size
         ·rw[qX (by simpa using d3)]
          exact AM ⟨s2.gal _,.inl ⟨_,_,rfl,eL _ _ _ m7 d3⟩⟩
         rw[qY (by simpa using d3)];split
         ·exact AM ⟨s2.gal _,.inr ⟨_,ia2+k+1,ib2+1,_,_,_,rfl,m7,by lia,by lia,by lia⟩⟩
         ·exact AM ⟨s2.gal _,_,ia2+k+1,ib2+1,_,_,_,rfl,m7,by lia,by lia,by lia⟩
      ·rw[qY hk0]
       have:k=0:=by lia
       subst this
       have c1:ia2+1 < a.size:=by omega
       have c3:ia+ib+1<=ia2+ib2:=by omega
       have m4:=tB _ _ _ m2 p2 far;refine AL (Bn (i:=ib2) p2 ?_);refine(show wpS (Af prog w) A E s (if (ib2+1==b.size)=true then _ else _) P _ from ?_)
       by_cases d:ib2+1=b.size
       ·rw[qX (by simpa using d)]
        exact AM ⟨s2.gal _,.inl ⟨_,_,rfl,eB _ _ _ m4 d⟩⟩
       rw[qY (by simpa using d)];refine AL (Bn (i:=ia2) (by lia) ?_);refine AL (FD (base:=ib2+1) (n:=b.size - (ib2+1)) (hint:=0) (arr:=b) (key:=ix a ia2) (left:=true) C (s2.gal _).good (λi=>lt (ix b (ib2+1+i)) (ix a ia2)) (ia0 _ (by lia)) (λi hi=>⟨by lia,ib0 _ (by lia)⟩) (λi hi=>rfl) (λi j hij hj e=>?_) (by lia) λk3 hk3 k4 k5=>?_)
       ·cases e2:lt (ix b (ib2+1+i)) (ix a ia2)with
        | true=>rfl
        | false=>
         have:=tr _ _ _ (ia0 _ (by lia)) (ib0 _ (by lia)) (ib0 _ (by lia)) e2 (ub (ib2+1+i) (ib2+1+j) (by lia) (by lia));exact nomatch (show true=false from(show lt (ix b (ib2+1+j)) (ix a ia2)=true from e).symm.trans this)
       ·have far2:∀j,ib2+1+k3<=j->j < b.size->Rl lt (ix a ia2) (ix b j):=λj j1 j2=>by
         have:=k5 (j - (ib2+1)) (by lia) (by omega);rwa [show ib2+1+(j - (ib2+1))=j by lia]at this
        have m6:=sB _ ia2 (ib2+1) k3 m4 (by lia) λi j hi j1 j2=>tr _ _ _ (ib0 _ (by lia)) (ia0 _ (by lia)) (ia0 _ j2) (O.asym _ _ (ib0 _ (by lia)) (ia0 _ (by lia)) (k4 i hi)) (ua ia2 j j1 j2)
        refine(show wpS (Af prog w) A E s (if k3 > 0 then _ else _) P _ from ?_)
        by_cases hk3:k3 > 0
        ·rw[qX hk3]
         refine(show wpS (Af prog w) A E s (if (ib2+1+k3==b.size)=true then _ else _) P _ from ?_)
         by_cases d2:ib2+1+k3=b.size
         ·rw[qX (by simpa using d2)]
          exact AM ⟨s2.gal _,.inl ⟨_,_,rfl,eB _ _ _ m6 d2⟩⟩
         rw[qY (by simpa using d2)];have m7:=tA _ _ _ m6 (by lia) far2;refine AL (Bn (i:=ia2) (by lia) ?_);refine(show wpS (Af prog w) A E s (if (ia2+1+1==a.size)=true then _ else _) P _ from ?_)
         by_cases d3:ia2+1+1=a.size
         ·rw[qX (by simpa using d3)]
          exact AM ⟨s2.gal _,.inl ⟨_,_,rfl,eL _ _ _ m7 d3⟩⟩
         rw[qY (by simpa using d3)];split
         ·exact AM ⟨s2.gal _,.inr ⟨_,ia2+1,ib2+1+k3,_,_,_,rfl,m7,by lia,by lia,by lia⟩⟩
         ·exact AM ⟨s2.gal _,_,ia2+1,ib2+1+k3,_,_,_,rfl,m7,by lia,by lia,by lia⟩
        ·rw[qY hk3]
         have:k3=0:=by lia
         subst this;have m7:=tA _ _ _ m4 (by lia) far2;refine AL (Bn (i:=ia2) (by lia) ?_);refine(show wpS (Af prog w) A E s (if (ia2+1+1==a.size)=true then _ else _) P _ from ?_)
         by_cases d3:ia2+1+1=a.size
         ·rw[qX (by simpa using d3)]
          exact AM ⟨s2.gal _,.inl ⟨_,_,rfl,eL _ _ _ m7 d3⟩⟩
         rw[qY (by simpa using d3)];split
         ·exact AM ⟨s2.gal _,.inr ⟨_,ia2+1,ib2+1,_,_,_,rfl,m7,by lia,by lia,by lia⟩⟩
         ·exact AM ⟨s2.gal _,_,ia2+1,ib2+1,_,_,_,rfl,m7,by lia,by lia,by lia⟩
end
def MI.last2{R:As->As->Prop}{T o ra rb:List As}(m:MI R T o ra rb)(h:∀x∈ra,∀y∈rb,R x y):IG R T (o++(ra++rb)):=by
 refine⟨m.perm,BZ.mpr ⟨m.srt,BZ.mpr ⟨m.sa,m.sb,h⟩,λx hx y hy=>m.low x hx y hy⟩⟩
def IG.rev{lt:As->As->Bool}{T r:List As}(f:IG (λx y=>Rl lt y x) T r):IG (Rl lt) T r.reverse:=⟨r.reverse_perm.trans f.perm,LA.mpr f.srt⟩
def WR{a:Array As}{i:Nat}(h:i < a.size):(a.toList.take (i+1)).reverse=ix a i :: (a.toList.take i).reverse:=by
 have:=DT h;rw[getElem?_pos a i h]at this;rw[Nt,show a.toList[i]?=some (ix a i) by simpa using DT h];simp
def Td{a:Array As}{i n:Nat}(h:i<=n)(hn:n<=a.size):(a.toList.take n).reverse=(a.extract i n).toList.reverse++(a.toList.take i).reverse:=by
 have e:(a.extract i n).toList=(a.toList.take n).drop i:=by simp[Nu,List.drop_take]
 rw[e,<-List.reverse_append]
 congr 1
 have:=E6 i (a.toList.take n);rw[List.take_take,show min i n=i by lia]at this;exact this.symm
def GZ{a:Array As}{n:Nat}{x:As}(hx:x∈(a.toList.take n).reverse):∃j,j < n/\j < a.size/\x=ix a j:=by
 rw[bg]at hx;obtain⟨k,hk,rfl⟩:=WE.mp hx;simp at hk;refine⟨k,by lia,by lia,?_⟩;have:=DT (xs:=a) (i:=k) (by lia);rw[getElem?_pos a _ (by lia)]at this;simpa using this
def UE{a:Array As}{i n:Nat}{x:As}(hx:x∈(a.extract i n).toList.reverse):∃j,i<=j/\j < n/\j < a.size/\x=ix a j:=by
 rw[bg,BY,OX]at hx;obtain⟨j,hj,rfl⟩:=hx;refine⟨i+j,by lia,by omega,by omega,?_⟩;have:=DT (xs:=a) (i:=i+j) (by omega);rw[getElem?_pos a _ (by omega)]at this;simpa using this
def IK(a:Array As)(n:Nat):(a.extract 0 n).toList=a.toList.take n:=by simp[Nu]
section
variable{prog:Al}{w:BE}{A:BC}{E:AE->AG->Prop}{s:AG}{a₀:Array As}{κ:GF}{lt:As->As->Bool}
def cC{st:BP}{a b:Array As}{Q:Array As->BP->Prop}(C:KO prog w A s a₀ κ lt)(O:Ord (·∈a₀) lt)(g:Good a₀ κ st)
  (ma:∀x∈a.toList,x∈a₀) (mb:∀x∈b.toList,x∈a₀) (sa:a.toList.Pairwise (Rl lt)) (sb:b.toList.Pairwise (Rl lt)) (pa:0 < a.size) (pb:0 < b.size)
  (h0:∀x∈a.toList,Rl lt (ix b 0) x) (h1:∀y∈b.toList,Rl lt y (ix a (a.size - 1)))
  (h:∀r st',KR a₀ κ st st'->IG (Rl lt) (a.toList++b.toList) r.toList->Q r st'):wpS (Af prog w) A E s (mHi a b) Q st:=by
 have ia0:=SW ma;have ib0:=SW mb;have ua:=Tc O ia0 sa;have ub:=Tc O ib0 sb
 have tr:∀x y z:As,x∈a₀->y∈a₀->z∈a₀->Rl lt x y->Rl lt y z->Rl lt x z:=λx y z hx hy hz h1 h2=>O.ntr x y z hx hy hz h1 h2
 let M (out:Array As) (na nb:Nat):Prop:=MI (λx y=>Rl lt y x) (a.toList++b.toList) out.toList (a.toList.take na).reverse (b.toList.take nb).reverse
 have tA0:∀out na nb,M out (na+1) nb->na < a.size->nb<=b.size->(∀j,j < nb->Rl lt (ix b j) (ix a na))->M (out.push (ix a na)) na nb:=λout na nb m hna hnb hr=>by
  have m':MI (λx y=>Rl lt y x) (a.toList++b.toList) out.toList ([ix a na]++(a.toList.take na).reverse) (b.toList.take nb).reverse:=by rw[Hd,<-WR hna];exact m
  have:=m'.takeA λx hx y hy=>by
   obtain⟨j,j1,j2,rfl⟩:=GZ hy;rw[AO.mp hx];exact hr j j1
  simpa[M]using this
 have tB0:∀out na nb,M out na (nb+1)->nb < b.size->na<=a.size->(∀j,j < na->Rl lt (ix a j) (ix b nb))->M (out.push (ix b nb)) na nb:=λout na nb m hnb hna hr=>by
  have m':MI (λx y=>Rl lt y x) (a.toList++b.toList) out.toList (a.toList.take na).reverse ([ix b nb]++(b.toList.take nb).reverse):=by rw[Hd,<-WR hnb];exact m
  have:=m'.takeB λx hx y hy=>by
   obtain⟨j,j1,j2,rfl⟩:=GZ hy;rw[AO.mp hx];exact hr j j1
  simpa[M]using this
 have tA:∀out na nb,M out na nb->0 < na->na<=a.size->nb<=b.size->(∀j,j < nb->Rl lt (ix b j) (ix a (na - 1)))->M (out.push (ix a (na - 1))) (na - 1) nb:=λout na nb m h0 hna hnb hr=>
  tA0 out (na - 1) nb (by rw[show na - 1+1=na by lia];exact m) (by omega) hnb hr
 have tB:∀out na nb,M out na nb->0 < nb->nb<=b.size->na<=a.size->(∀j,j < na->Rl lt (ix a j) (ix b (nb - 1)))->M (out.push (ix b (nb - 1))) na (nb - 1):=λout na nb m h0 hnb hna hr=>
  tB0 out na (nb - 1) (by rw[show nb - 1+1=nb by lia];exact m) (by omega) hna hr
 have sA:∀out na nb k,M out na nb->k<=na->na<=a.size->nb<=b.size->(∀i j,k<=i->i < na->j < nb->Rl lt (ix b j) (ix a i))->M (out++(a.extract k na).reverse) k nb:=λout na nb k m hk hna hnb hr=>by
  have m':MI (λx y=>Rl lt y x) (a.toList++b.toList) out.toList ((a.extract k na).toList.reverse++(a.toList.take k).reverse) (b.toList.take nb).reverse:=by rw[<-Td hk hna];exact m
  have:=m'.takeA λx hx y hy=>by
   obtain⟨j,j1,j2,rfl⟩:=GZ hy;obtain⟨i,i1,i2,i3,rfl⟩:=UE hx;exact hr i j i1 i2 j1
  show MI _ _ (out++(a.extract k na).reverse).toList _ _;rw[BM,FI];exact this
 have sB:∀out na nb k,M out na nb->k<=nb->nb<=b.size->na<=a.size->(∀i j,k<=i->i < nb->j < na->Rl lt (ix a j) (ix b i))->M (out++(b.extract k nb).reverse) na k:=λout na nb k m hk hnb hna hr=>by
  have m':MI (λx y=>Rl lt y x) (a.toList++b.toList) out.toList (a.toList.take na).reverse ((b.extract k nb).toList.reverse++(b.toList.take k).reverse):=by rw[<-Td hk hnb];exact m
  have:=m'.takeB λx hx y hy=>by
   obtain⟨j,j1,j2,rfl⟩:=GZ hy;obtain⟨i,i1,i2,i3,rfl⟩:=UE hx;exact hr i j i1 i2 j1
  show MI _ _ (out++(b.extract k nb).reverse).toList _ _;rw[BM,FI];exact this
 have eA:∀out na nb,M out na nb->na=0->IG (Rl lt) (a.toList++b.toList) (a.extract 0 na++b.extract 0 nb++out.reverse).toList:=λout na nb m e=>by
  subst e
  have m':MI (λx y=>Rl lt y x) (a.toList++b.toList) out.toList [] (b.toList.take nb).reverse:=by simpa[M]using m
  have:=m'.endB.rev;rw[BM,BM,IK,IK,FI];simpa using this
 have eB:∀out na nb,M out na nb->nb=0->IG (Rl lt) (a.toList++b.toList) (a.extract 0 na++b.extract 0 nb++out.reverse).toList:=λout na nb m e=>by
  subst e
  have m':MI (λx y=>Rl lt y x) (a.toList++b.toList) out.toList (a.toList.take na).reverse []:=by simpa[M]using m
  have:=m'.endA.rev;rw[BM,BM,IK,IK,FI];simpa using this
 have eF:∀out na nb,M out na nb->nb=1->IG (Rl lt) (a.toList++b.toList) (b.extract 0 nb++a.extract 0 na++out.reverse).toList:=λout na nb m e=>by
  have:=m.last2 λx hx y hy=>by
   obtain⟨j,j1,j2,rfl⟩:=GZ hx;obtain⟨i,i1,i2,rfl⟩:=GZ hy
   have:i=0:=by lia
   subst this;exact h0 _ (BY.mpr (Ct (DT j2)))
  have:=this.rev;rw[BM,BM,IK,IK,FI];simpa using this
 have m0:M #[] a.size b.size:=by
  refine⟨?_,by simp,by simp,?_,?_⟩
  ·rw[Eb (by simp),Eb (by simp)]
   simpa using List.Perm.append a.toList.reverse_perm b.toList.reverse_perm
  ·rw[Eb (by simp)];exact LA.mpr sa
  ·rw[Eb (by simp)];exact LA.mpr sb
 have m1:M #[ix a (a.size - 1)] (a.size - 1) b.size:=by
  have:=tA #[] a.size b.size m0 pa (AQ _) (AQ _) λj hj=>h1 _ (BY.mpr (Ct (DT hj)))
  simpa using this
 refine(AL (Jb ?_):wpS _ _ _ _ (mHi a b) Q st);refine AL (Bn (i:=a.size - 1) (by omega) ?_)
 by_cases c1:a.size - 1=0
 ·refine(show wpS (Af prog w) A E s (if (a.size - 1==0)=true then _ else _) Q st from ?_)
  rw[qX (by simpa using c1)];exact AM (h _ st ⟨g,rfl,rfl⟩ (eA _ _ _ m1 c1))
 refine(show wpS (Af prog w) A E s (if (a.size - 1==0)=true then _ else _) Q st from ?_);rw[qY (by simpa using c1)]
 by_cases c2:b.size=1
 ·rw[qX (by simpa using c2)]
  exact AM (h _ st ⟨g,rfl,rfl⟩ (eF _ _ _ m1 c2))
 rw[qY (by simpa using c2)];refine AL (Hk ?_)
 refine AL (DR (CD (I:=λx c st'=>KR a₀ κ st st'/\∃out na nb mg,c=(none,na,nb,out,mg)/\M out na nb/\0 < na/\1 < nb/\na<=a.size/\nb<=b.size/\na+nb+1+x<=a.size+b.size)
  (Q:=λc st'=>KR a₀ κ st st'/\∃r z,c=(some r,z)/\IG (Rl lt) (a.toList++b.toList) r.toList) ?step ?fin ?init) ?post)
 case init=>exact⟨⟨g,rfl,rfl⟩,_,a.size - 1,b.size,_,rfl,m1,by lia,by lia,by omega,by lia,by lia⟩
 case fin=>
  rintro c st' ⟨_,out,na,nb,mg,_,_,k1,k2,k3,k4,k5⟩
  lia
 case post=>
  rintro c st' ⟨s1,r,z,rfl,f⟩;exact AM (h r st' s1 f)
 case step=>
  rintro x c st1 _ _ ⟨s1,out,na,nb,mg,rfl,m,k1,k2,k3,k4,k5⟩
  refine AL (DR (CD (I:=λy c st'=>st'=st1/\∃out' na' nb' ac bc,c=(none,na',nb',out',ac,bc)/\M out' na' nb'/\0 < na'/\1 < nb'/\na'<=a.size/\nb'<=b.size/\na'+nb'+y<=na+nb)
   (Q:=λc st'=>st'=st1/\((∃r z,c=(some r,z)/\IG (Rl lt) (a.toList++b.toList) r.toList)∨∃out' na' nb' ac bc,c=(none,na',nb',out',ac,bc)/\M out' na' nb'/\0 < na'/\1 < nb'/\na'<=a.size/\nb'<=b.size/\na'+nb'+1<=na+nb)) ?step1 ?fin1 ?init1) ?post1)
  case init1=>exact⟨rfl,out,na,nb,0,0,rfl,m,k1,k2,k3,k4,by lia⟩
  case fin1=>
   rintro c st' ⟨rfl,out',na',nb',ac,bc,rfl,m',q1,q2,q3,q4,q5⟩;exact⟨rfl,.inr ⟨out',na',nb',ac,bc,rfl,m',q1,q2,q3,q4,by lia⟩⟩
  case step1=>
   rintro y c st' _ _ ⟨rfl,out',na',nb',ac,bc,rfl,m',q1,q2,q3,q4,q5⟩;refine AL (Bn (i:=nb' - 1) (by lia) ?_);refine AL (Bn (i:=na' - 1) (by lia) ?_);refine AL (O0 C s1.good (ib0 _ (by lia)) (ia0 _ (by lia)) ?_)
   cases e:lt (ix b (nb' - 1)) (ix a (na' - 1))with
   | true=>
    refine AL (Bn (i:=na' - 1) (by lia) ?_);have r0:Rl lt (ix b (nb' - 1)) (ix a (na' - 1)):=O.asym _ _ (ib0 _ (by lia)) (ia0 _ (by lia)) e
    have m2:=tA out' na' nb' m' q1 q3 q4 λj j1=>tr _ _ _ (ib0 _ (by lia)) (ib0 _ (by lia)) (ia0 _ (by lia)) (ub j (nb' - 1) (by lia) (by lia)) r0
    refine(show wpS (Af prog w) A E s (if (na' - 1==0)=true then _ else _) _ st' from ?_)
    by_cases d:na' - 1=0
    ·rw[qX (by simpa using d)]
     exact AM ⟨rfl,.inl ⟨_,_,rfl,eA _ _ _ m2 d⟩⟩
    ·rw[qY (by simpa using d)]
     split
     ·exact AM ⟨rfl,.inr ⟨_,na' - 1,nb',_,_,rfl,m2,by lia,by omega,by lia,by omega,by lia⟩⟩
     ·exact AM ⟨rfl,_,na' - 1,nb',_,_,rfl,m2,by lia,by omega,by lia,by omega,by lia⟩
   | false=>
    refine AL (Bn (i:=nb' - 1) (by lia) ?_)
    have m2:=tB out' na' nb' m' (by lia) q4 q3 λj j1=>tr _ _ _ (ia0 _ (by lia)) (ia0 _ (by lia)) (ib0 _ (by lia)) (ua j (na' - 1) (by lia) (by lia)) e
    refine(show wpS (Af prog w) A E s (if (nb' - 1==1)=true then _ else _) _ st' from ?_)
    by_cases d:nb' - 1=1
    ·rw[qX (by simpa using d)]
     exact AM ⟨rfl,.inl ⟨_,_,rfl,eF _ _ _ m2 d⟩⟩
    ·rw[qY (by simpa using d)]
     split
     ·exact AM ⟨rfl,.inr ⟨_,na',nb' - 1,_,_,rfl,m2,by omega,by lia,by omega,by lia,by lia⟩⟩
     ·exact AM ⟨rfl,_,na',nb' - 1,_,_,rfl,m2,by omega,by lia,by omega,by lia,by lia⟩
  case post1=>
   rintro c st' ⟨rfl,⟨r,z,rfl,f⟩ | ⟨out',na',nb',ac,bc,rfl,m',q1,q2,q3,q4,q5⟩⟩
   ·exact AM ⟨s1,_,_,rfl,f⟩
   refine AL (Jb ?_)
   refine AL (DR (CD (I:=λy c st2=>KR a₀ κ st st2/\∃out2 na2 nb2 mg2 ac bc,c=(none,na2,nb2,out2,mg2,ac,bc)/\M out2 na2 nb2/\0 < na2/\1 < nb2/\na2<=a.size/\nb2<=b.size/\na2+nb2+1<=na+nb)
    (Q:=λc st2=>KR a₀ κ st st2/\((∃r z,c=(some r,z)/\IG (Rl lt) (a.toList++b.toList) r.toList)∨∃out2 na2 nb2 mg2 ac bc,c=(none,na2,nb2,out2,mg2,ac,bc)/\M out2 na2 nb2/\0 < na2/\1 < nb2/\na2<=a.size/\nb2<=b.size/\na2+nb2+1<=na+nb)) ?step2 ?fin2 ?init2) ?post2)
   case init2=>exact⟨s1,out',na',nb',mg+1,ac,bc,rfl,m',q1,q2,q3,q4,q5⟩
   case fin2=>
    rintro c st2 ⟨s2,out2,na2,nb2,mg2,ac2,bc2,rfl,m2,p1⟩;exact⟨s2,.inr ⟨out2,na2,nb2,mg2,ac2,bc2,rfl,m2,p1⟩⟩
   case post2=>
    rintro c st2 ⟨s2,⟨r,z,rfl,f⟩ | ⟨out2,na2,nb2,mg2,ac2,bc2,rfl,m2,p1,p2,p3,p4,p5⟩⟩
    ·exact AM ⟨s2,_,_,rfl,f⟩
    ·exact AL (OY (AM ⟨s2.gal _,out2,na2,nb2,mg2+1,rfl,m2,p1,p2,p3,p4,by lia⟩))
   case step2=>
    rintro y c st2 _ _ ⟨s2,out2,na2,nb2,mg2,ac2,bc2,rfl,m2,p1,p2,p3,p4,p5⟩
    let P:ForInStep (Option (Array As)×Nat×Nat×Array As×Nat×Nat×Nat)->BP->Prop:=λr st'=>match r with
     | .done c'=>KR a₀ κ st st'/\((∃r z,c'=(some r,z)/\IG (Rl lt) (a.toList++b.toList) r.toList)∨∃out2 na2 nb2 mg2 ac bc,c'=(none,na2,nb2,out2,mg2,ac,bc)/\M out2 na2 nb2/\0 < na2/\1 < nb2/\na2<=a.size/\nb2<=b.size/\na2+nb2+1<=na+nb)
     | .yield c'=>KR a₀ κ st st'/\∃out2 na2 nb2 mg2 ac bc,c'=(none,na2,nb2,out2,mg2,ac,bc)/\M out2 na2 nb2/\0 < na2/\1 < nb2/\na2<=a.size/\nb2<=b.size/\na2+nb2+1<=na+nb
    refine DR (Q:=P) ?_ λr st' h=>by cases r <;> exact h
    refine(show wpS (Af prog w) A E s (if mg2 > 1 then _ else _) P st2 from ?_);split
    all_goals
     refine AL (OY ?_);refine AL (Bn (i:=nb2 - 1) (by lia) ?_);refine AL (FD (base:=0) (n:=na2) (hint:=na2 - 1) (arr:=a) (key:=ix b (nb2 - 1)) (left:=false) C (s2.gal _).good (λi=>!lt (ix b (nb2 - 1)) (ix a (0+i))) (ib0 _ (by lia)) (λi hi=>⟨by lia,ia0 _ (by lia)⟩) (λi hi=>rfl) (λi j hij hj e=>?_) (by lia) λk hk k1 k2=>?_)
     ·have e':lt (ix b (nb2 - 1)) (ix a (0+j))=false:=by simpa using e
      have:=tr _ _ _ (ia0 _ (by lia)) (ia0 _ (by lia)) (ib0 _ (by lia)) (ua (0+i) (0+j) (by lia) (by lia)) e';simpa using this
     ·have near:∀j,j < k->Rl lt (ix a j) (ix b (nb2 - 1)):=λj j1=>by
       have:=k1 j j1;rw[HB]at this;simpa using this
      have m5:=sA out2 na2 nb2 k m2 hk p3 p4 λi j i1 i2 j1=>by
       have:=k2 i i1 i2;rw[HB]at this;exact tr _ _ _ (ib0 _ (by lia)) (ib0 _ (by lia)) (ia0 _ (by lia)) (ub j (nb2 - 1) (by lia) (by lia)) (O.asym _ _ (ib0 _ (by lia)) (ia0 _ (by lia)) (by simpa using this))
      refine(show wpS (Af prog w) A E s (if na2 - k > 0 then _ else _) P _ from ?_)
      by_cases hk0:na2 - k > 0
      ·rw[qX hk0]
       refine(show wpS (Af prog w) A E s (if (k==0)=true then _ else _) P _ from ?_)
       by_cases d1:k=0
       ·rw[qX (by simpa using d1)]
        exact AM ⟨s2.gal _,.inl ⟨_,_,rfl,eA _ _ _ m5 d1⟩⟩
       rw[qY (by simpa using d1)];have m4:=tB _ _ _ m5 (by lia) p4 (by lia) near;refine AL (Bn (i:=nb2 - 1) (by lia) ?_);refine(show wpS (Af prog w) A E s (if (nb2 - 1==1)=true then _ else _) P _ from ?_)
       by_cases d:nb2 - 1=1
       ·rw[qX (by simpa using d)]
        exact AM ⟨s2.gal _,.inl ⟨_,_,rfl,eF _ _ _ m4 d⟩⟩
       rw[qY (by simpa using d)];refine AL (Bn (i:=k - 1) (by omega) ?_);refine AL (FD (base:=0) (n:=nb2 - 1) (hint:=nb2 - 1 - 1) (arr:=b) (key:=ix a (k - 1)) (left:=true) C (s2.gal _).good (λi=>lt (ix b (0+i)) (ix a (k - 1))) (ia0 _ (by omega)) (λi hi=>⟨by lia,ib0 _ (by lia)⟩) (λi hi=>rfl) (λi j hij hj e=>?_) (by lia) λk3 hk3 k4 k5=>?_)
       ·cases e2:lt (ix b (0+i)) (ix a (k - 1))with
        | true=>rfl
        | false=>
         have:=tr _ _ _ (ia0 _ (by lia)) (ib0 _ (by lia)) (ib0 _ (by lia)) e2 (ub (0+i) (0+j) (by lia) (by lia));exact nomatch (show true=false from(show lt (ix b (0+j)) (ix a (k - 1))=true from e).symm.trans this)
       ·have near2:∀j,j < k3->Rl lt (ix b j) (ix a (k - 1)):=λj j1=>by
         have:=k4 j j1;rw[HB]at this;exact O.asym _ _ (ib0 _ (by lia)) (ia0 _ (by omega)) this
        have m6:=sB _ k (nb2 - 1) k3 m4 hk3 (by lia) (by lia) λi j i1 i2 j1=>by
         have:=k5 i i1 i2;rw[HB]at this;exact tr _ _ _ (ia0 _ (by lia)) (ia0 _ (by lia)) (ib0 _ (by lia)) (ua j (k - 1) (by lia) (by lia)) this
        refine(show wpS (Af prog w) A E s (if nb2 - 1 - k3 > 0 then _ else _) P _ from ?_)
        by_cases hk4:nb2 - 1 - k3 > 0
        ·rw[qX hk4]
         refine(show wpS (Af prog w) A E s (if (k3==1)=true then _ else _) P _ from ?_)
         by_cases d2:k3=1
         ·rw[qX (by simpa using d2)]
          exact AM ⟨s2.gal _,.inl ⟨_,_,rfl,eF _ _ _ m6 d2⟩⟩
         rw[qY (by simpa using d2)]
         by_cases d4:k3=0
         ·rw[qX (by simpa using d4)]
          exact AM ⟨s2.gal _,.inl ⟨_,_,rfl,eB _ _ _ m6 d4⟩⟩
         rw[qY (by simpa using d4)];have m7:=tA _ _ _ m6 (by lia) (by lia) (by lia) near2;refine AL (Bn (i:=k - 1) (by lia) ?_);refine(show wpS (Af prog w) A E s (if (k - 1==0)=true then _ else _) P _ from ?_)
         by_cases d3:k - 1=0
         ·rw[qX (by simpa using d3)]
          exact AM ⟨s2.gal _,.inl ⟨_,_,rfl,eA _ _ _ m7 d3⟩⟩
         rw[qY (by simpa using d3)];split
         ·exact AM ⟨s2.gal _,.inr ⟨_,k - 1,k3,_,_,_,rfl,m7,by lia,by lia,by lia,by lia,by lia⟩⟩
         ·exact AM ⟨s2.gal _,_,k - 1,k3,_,_,_,rfl,m7,by lia,by lia,by lia,by lia,by lia⟩
        ·rw[qY hk4]
         have:k3=nb2 - 1:=by lia
         subst this;have m7:=tA _ _ _ m4 (by lia) (by lia) (by lia) near2;refine AL (Bn (i:=k - 1) (by lia) ?_);refine(show wpS (Af prog w) A E s (if (k - 1==0)=true then _ else _) P _ from ?_)
         by_cases d3:k - 1=0
         ·rw[qX (by simpa using d3)]
          exact AM ⟨s2.gal _,.inl ⟨_,_,rfl,eA _ _ _ m7 d3⟩⟩
         rw[qY (by simpa using d3)];split
         ·exact AM ⟨s2.gal _,.inr ⟨_,k - 1,nb2 - 1,_,_,_,rfl,m7,by lia,by lia,by lia,by lia,by lia⟩⟩
         ·exact AM ⟨s2.gal _,_,k - 1,nb2 - 1,_,_,_,rfl,m7,by lia,by lia,by lia,by lia,by lia⟩
      ·rw[qY hk0]
       have:k=na2:=by lia
       subst this;have m4:=tB _ _ _ m2 (by lia) p4 (by omega) near;refine AL (Bn (i:=nb2 - 1) (by lia) ?_);refine(show wpS (Af prog w) A E s (if (nb2 - 1==1)=true then _ else _) P _ from ?_)
       by_cases d:nb2 - 1=1
       ·rw[qX (by simpa using d)]
        exact AM ⟨s2.gal _,.inl ⟨_,_,rfl,eF _ _ _ m4 d⟩⟩
       rw[qY (by simpa using d)];refine AL (Bn (i:=k - 1) (by lia) ?_);refine AL (FD (base:=0) (n:=nb2 - 1) (hint:=nb2 - 1 - 1) (arr:=b) (key:=ix a (k - 1)) (left:=true) C (s2.gal _).good (λi=>lt (ix b (0+i)) (ix a (k - 1))) (ia0 _ (by lia)) (λi hi=>⟨by lia,ib0 _ (by lia)⟩) (λi hi=>rfl) (λi j hij hj e=>?_) (by lia) λk3 hk3 k4 k5=>?_)
       ·cases e2:lt (ix b (0+i)) (ix a (k - 1))with
        | true=>rfl
        | false=>
         have:=tr _ _ _ (ia0 _ (by lia)) (ib0 _ (by lia)) (ib0 _ (by lia)) e2 (ub (0+i) (0+j) (by lia) (by lia));exact nomatch (show true=false from(show lt (ix b (0+j)) (ix a (k - 1))=true from e).symm.trans this)
       ·have near2:∀j,j < k3->Rl lt (ix b j) (ix a (k - 1)):=λj j1=>by
         have:=k4 j j1;rw[HB]at this;exact O.asym _ _ (ib0 _ (by lia)) (ia0 _ (by lia)) this
        have m6:=sB _ k (nb2 - 1) k3 m4 hk3 (by lia) (by omega) λi j i1 i2 j1=>by
         have:=k5 i i1 i2;rw[HB]at this;exact tr _ _ _ (ia0 _ (by lia)) (ia0 _ (by lia)) (ib0 _ (by lia)) (ua j (k - 1) (by lia) (by lia)) this
        refine(show wpS (Af prog w) A E s (if nb2 - 1 - k3 > 0 then _ else _) P _ from ?_)
        by_cases hk4:nb2 - 1 - k3 > 0
        ·rw[qX hk4]
         refine(show wpS (Af prog w) A E s (if (k3==1)=true then _ else _) P _ from ?_)
         by_cases d2:k3=1
         ·rw[qX (by simpa using d2)]
          exact AM ⟨s2.gal _,.inl ⟨_,_,rfl,eF _ _ _ m6 d2⟩⟩
         rw[qY (by simpa using d2)]
         by_cases d4:k3=0
         ·rw[qX (by simpa using d4)]
          exact AM ⟨s2.gal _,.inl ⟨_,_,rfl,eB _ _ _ m6 d4⟩⟩
         rw[qY (by simpa using d4)];have m7:=tA _ _ _ m6 (by omega) (by omega) (by lia) near2;refine AL (Bn (i:=k - 1) (by lia) ?_);refine(show wpS (Af prog w) A E s (if (k - 1==0)=true then _ else _) P _ from ?_)
         by_cases d3:k - 1=0
         ·rw[qX (by simpa using d3)]
          exact AM ⟨s2.gal _,.inl ⟨_,_,rfl,eA _ _ _ m7 d3⟩⟩
         rw[qY (by simpa using d3)];split
         ·exact AM ⟨s2.gal _,.inr ⟨_,k - 1,k3,_,_,_,rfl,m7,by lia,by lia,by lia,by lia,by lia⟩⟩
         ·exact AM ⟨s2.gal _,_,k - 1,k3,_,_,_,rfl,m7,by lia,by lia,by lia,by lia,by lia⟩
        ·rw[qY hk4]
         have:k3=nb2 - 1:=by lia
         subst this;have m7:=tA _ _ _ m4 (by omega) (by omega) (by lia) near2;refine AL (Bn (i:=k - 1) (by lia) ?_);refine(show wpS (Af prog w) A E s (if (k - 1==0)=true then _ else _) P _ from ?_)
         by_cases d3:k - 1=0
         ·rw[qX (by simpa using d3)]
          exact AM ⟨s2.gal _,.inl ⟨_,_,rfl,eA _ _ _ m7 d3⟩⟩
         rw[qY (by simpa using d3)];split
         ·exact AM ⟨s2.gal _,.inr ⟨_,k - 1,nb2 - 1,_,_,_,rfl,m7,by lia,by lia,by lia,by lia,by lia⟩⟩
         ·exact AM ⟨s2.gal _,_,k - 1,nb2 - 1,_,_,_,rfl,m7,by lia,by lia,by lia,by lia,by lia⟩
end
def wr(arr:Array As)(sa:Nat)(l:List (As×Nat)):Array As:=l.foldl (λa (x:As×Nat)=>match x with | (p,j)=>a.setIfInBounds (sa+j) p) arr
def Rw(sa:Nat):∀(l:List As) (k:Nat) (arr:Array As),sa+k+l.length<=arr.size->(wr arr sa (l.zipIdx k)).toList=arr.toList.take (sa+k)++l++arr.toList.drop (sa+k+l.length)
 | [],k,arr,h=>by simp[wr]
 | x :: l,k,arr,h=>by
  rw[A8]at h;have e:wr arr sa ((x :: l).zipIdx k)=wr (arr.setIfInBounds (sa+k) x) sa (l.zipIdx (k+1)):=rfl;rw[e,Rw sa l (k+1) _ (by simp;lia)]
  have hk:sa+k < arr.toList.length:=by simp;lia
  rw[Qd,A8,show sa+(k+1)=sa+k+1 by lia];rw[Nt,List.take_set_of_le (AQ _),Ao hk,List.drop_set_of_lt (by lia)];simp[show sa+k+1+l.length=sa+k+(l.length+1) by lia]
def ix_list(a:Array As)(i:Nat):ix a i=(a.toList[i]?).getD (.none,.none):=by
 unfold ix;rw[E7];simp
def aX{arr m:Array As}{sa:Nat}(h:sa+m.size<=arr.size)(i:Nat):ix (wr arr sa m.toList.zipIdx) i=if i < sa then ix arr i else if i < sa+m.size then ix m (i - sa)else ix arr i:=by
 have e:=Rw sa m.toList 0 arr (by simpa using h);rw[ix_list,show m.toList.zipIdx=m.toList.zipIdx 0 from rfl,e,Uw]
 have hl:(arr.toList.take sa).length=sa:=by simp;lia
 split
 ·rename_i h1
  rw[BN,Aa (by lia),TF h1,ix_list]
 ·rename_i h1
  split
  ·rename_i h2
   rw[BN,BK (by lia),hl,Aa (by simp;lia),ix_list]
  ·rename_i h2
   rw[BK (by simp;lia),Gf,ix_list]
   congr 2
   simp
   lia
def dk{arr m:Array As}{sa:Nat}(h:sa+m.size<=arr.size)(hp:m.toList.Perm (arr.extract sa (sa+m.size)).toList):(wr arr sa m.toList.zipIdx).Perm arr:=by
 rw[FJ];have e:=Rw sa m.toList 0 arr (by simpa using h);rw[show m.toList.zipIdx=m.toList.zipIdx 0 from rfl,e,Uw]
 have e2:arr.toList=arr.toList.take sa++(arr.extract sa (sa+m.size)).toList++arr.toList.drop (sa+m.toList.length):=by
  rw[BN,Bd,<-Ic h,E6]
 conv=>rhs;rw[e2]
 exact QY _ (Js _ hp)
def Vg{a:Array As}{lo hi i:Nat}(h:hi<=a.size)(hi':i < hi - lo):ix (a.extract lo hi) i=ix a (lo+i):=by
 apply Jh
 rw[Array.getElem?_extract];simp
 lia
section
variable{prog:Al}{w:BE}{A:BC}{E:AE->AG->Prop}{s:AG}{a₀:Array As}{κ:GF}{lt:As->As->Bool}
def ZL{a:Array As}{lo hi:Nat}(h:hi<=a.size)(u:Up lt a lo hi):(a.extract lo hi).toList.Pairwise (Rl lt):=by
 rw[Rr];intro i j hi' hj hij;simp at hi' hj
 have e:∀k (hk:k < (a.extract lo hi).toList.length),(a.extract lo hi).toList[k]=ix a (lo+k):=λk hk=>by
  have hk':k < (a.extract lo hi).size:=by rw[Bd]at hk;exact hk
  have:=DT hk';rw[getElem?_pos (a.extract lo hi) k hk']at this
  have hs:(a.extract lo hi).size=hi - lo:=by simp;lia
  rw[<-Vg h (by lia)];simpa using this
 rw[e,e];exact u _ _ (by lia) (by lia) (by omega)
def cA{st st1:BP}{Q:PUnit->BP->Prop}(h:Q ⟨⟩ st1):wpS (Af prog w) A E s (set st1:StateT BP Sem PUnit) Q st:=AM h
def TQ{st:BP}{i sa na pw sb nb pw2:Nat}{Q:Bool->BP->Prop}(C:KO prog w A s a₀ κ lt)(O:Ord (·∈a₀) lt)(g:Good a₀ κ st)
  (e1:(AX st)[i]?=some (sa,na,pw)) (e2:(AX st)[i+1]?=some (sb,nb,pw2)) (hab:sb=sa+na) (hna:1<=na) (hnb:1<=nb) (hs:sb+nb<=a₀.size)
  (ua:Up lt (AV st) sa (sa+na)) (ub:Up lt (AV st) sb (sb+nb))
  (h:∀st',Good a₀ κ st'->AX st'=((AX st).setIfInBounds i (sa,na+nb,pw)).eraseIdxIfInBounds (i+1)->Up lt (AV st') sa (sa+(na+nb))->Out (AV st) (AV st') sa (sa+(na+nb))->Q true st') :
  wpS (Af prog w) A E s (mergeAt' i) Q st:=by
 subst hab;have hsz:=g.size
 have mem:∀j,j < a₀.size->ix (AV st) j∈a₀:=λj hj=>g.mem hj
 have tr:∀x y z:As,x∈a₀->y∈a₀->z∈a₀->Rl lt x y->Rl lt y z->Rl lt x z:=λx y z hx hy hz h1 h2=>O.ntr x y z hx hy hz h1 h2
 refine(AL (Hk ?_):wpS _ _ _ _ (mergeAt' i) Q st);rw[show(sortPriv% PySem.Builtin.SortState.pending) st=AX st from rfl,e1,e2];refine AL (cA ?_);generalize hst1:((sortPriv% PySem.Builtin.SortState.mk) (kindOf st) (AV st) (((AX st).setIfInBounds i (sa,na+nb,pw)).eraseIdxIfInBounds (i+1)) (gallopOf st) (Il st))=st1
 have g1:Good a₀ κ st1:=by subst hst1;exact⟨g.perm,g.kind,g.failed⟩
 have a1:AV st1=AV st:=by subst hst1;rfl
 have p1:AX st1=((AX st).setIfInBounds i (sa,na+nb,pw)).eraseIdxIfInBounds (i+1):=by subst hst1;rfl
 refine AL (Bn (a:=AV st) (i:=sa+na) (by lia) ?_);refine AL (FD (base:=sa) (n:=na) (hint:=0) (arr:=AV st) (key:=ix (AV st) (sa+na)) (left:=false) C g1 (λj=>!lt (ix (AV st) (sa+na)) (ix (AV st) (sa+j))) (mem _ (by lia)) (λj hj=>⟨by lia,mem _ (by lia)⟩) (λj hj=>rfl) (λx y hxy hy e=>?_) (by lia) λk hk k1 k2=>?_)
 ·have e':lt (ix (AV st) (sa+na)) (ix (AV st) (sa+y))=false:=by simpa using e
  have:=tr _ _ _ (mem _ (by lia)) (mem _ (by lia)) (mem _ (by lia)) (ua (sa+x) (sa+y) (by lia) (by lia) (by lia)) e';simpa using this
 have low:∀j,sa<=j->j < sa+k->Rl lt (ix (AV st) j) (ix (AV st) (sa+na)):=λj j1 j2=>by
  have:=k1 (j - sa) (by lia);rw[show sa+(j - sa)=j by lia]at this;simpa using this
 have lowb:∀i j,sa<=i->i < sa+k->sa+na<=j->j < sa+na+nb->Rl lt (ix (AV st) i) (ix (AV st) j):=λi j i1 i2 j1 j2=>tr _ _ _ (mem _ (by lia)) (mem _ (by lia)) (mem _ (by lia)) (low i i1 i2) (ub _ _ (by lia) (by omega) (by omega))
 have whole:(∀j,sa<=j->j < sa+na->Rl lt (ix (AV st) j) (ix (AV st) (sa+na)))->Up lt (AV st) sa (sa+(na+nb)):=λhh x y h1 h2 h3=>by
  by_cases c1:y < sa+na
  ·exact ua x y h1 h2 c1
  by_cases c2:x < sa+na
  ·exact tr _ _ _ (mem _ (by lia)) (mem _ (by lia)) (mem _ (by lia)) (hh x h1 c2) (ub _ _ (by lia) (by lia) (by lia))
  ·exact ub x y (by lia) h2 (by lia)
 refine(show wpS (Af prog w) A E s (if (na - k==0)=true then _ else _) Q st1 from ?_)
 by_cases c1:na - k=0
 ·rw[qX (by simpa using c1)]
  refine AM (h st1 g1 p1 ?_ (by rw[a1];exact .refl));rw[a1]
  exact whole λj j1 j2=>low j j1 (by lia)
 rw[qY (by simpa using c1)];refine AL (Bn (a:=AV st) (i:=sa+k+(na - k) - 1) (by omega) ?_);rw[show sa+k+(na - k) - 1=sa+na - 1 by lia];refine AL (FD (base:=sa+na) (n:=nb) (hint:=nb - 1) (arr:=AV st) (key:=ix (AV st) (sa+na - 1)) (left:=true) C g1 (λj=>lt (ix (AV st) (sa+na+j)) (ix (AV st) (sa+na - 1))) (mem _ (by lia)) (λj hj=>⟨by lia,mem _ (by lia)⟩) (λj hj=>rfl) (λx y hxy hy e=>?_) (by omega) λk3 hk3 k4 k5=>?_)
 ·cases e2:lt (ix (AV st) (sa+na+x)) (ix (AV st) (sa+na - 1))with
  | true=>rfl
  | false=>
   have:=tr _ _ _ (mem _ (by lia)) (mem _ (by lia)) (mem _ (by lia)) e2 (ub (sa+na+x) (sa+na+y) (by lia) (by lia) (by lia));exact nomatch (show true=false from(show lt (ix (AV st) (sa+na+y)) (ix (AV st) (sa+na - 1))=true from e).symm.trans this)
 have high:∀j,sa+na+k3<=j->j < sa+na+nb->Rl lt (ix (AV st) (sa+na - 1)) (ix (AV st) j):=λj j1 j2=>by
  have:=k5 (j - (sa+na)) (by lia) (by lia);rwa [show sa+na+(j - (sa+na))=j by lia]at this
 refine(show wpS (Af prog w) A E s (if (k3==0)=true then _ else _) Q st1 from ?_)
 by_cases c2:k3=0
 ·rw[qX (by simpa using c2)]
  refine AM (h st1 g1 p1 ?_ (by rw[a1];exact .refl));rw[a1]
  exact whole λj j1 j2=>tr _ _ _ (mem _ (by lia)) (mem _ (by lia)) (mem _ (by lia)) (ua j (sa+na - 1) (by omega) (by lia) (by lia)) (high _ (by lia) (by lia))
 rw[qY (by simpa using c2)]
 let x:=(AV st).extract (sa+k) (sa+na)
 let y:=(AV st).extract (sa+na) (sa+na+k3)
 have xs:x.size=na - k:=by simp[x];lia
 have ys:y.size=k3:=by simp[y];lia
 have ixx:∀j,j < na - k->ix x j=ix (AV st) (sa+k+j):=λj hj=>Vg (by lia) (by lia)
 have ixy:∀j,j < k3->ix y j=ix (AV st) (sa+na+j):=λj hj=>Vg (by lia) (by lia)
 have memx:∀z∈x.toList,∃j,j < na - k/\z=ix (AV st) (sa+k+j):=λz hz=>by
  have hz:z∈((AV st).extract (sa+k) (sa+k+(na - k))).toList:=by rw[show sa+k+(na - k)=sa+na by lia];exact hz
  exact Od (by lia) hz
 have memy:∀z∈y.toList,∃j,j < k3/\z=ix (AV st) (sa+na+j):=λz hz=>Od (by lia) hz
 have fin:∀(r:Array As) (st':BP),KR a₀ κ st1 st'->IG (Rl lt) (x.toList++y.toList) r.toList->∀st2:BP,AV st2=wr (AV st') (sa+k) r.toList.zipIdx->kindOf st2=kindOf st'->Il st2=Il st'->AX st2=AX st'->Q true st2:=by
  intro r st' sm f st2 q1 q2 q3 q4
  have hr:r.size=na - k+k3:=by
   have:=f.perm.length_eq;simp only[Ad,Bd]at this
   lia
  have ha:AV st'=AV st:=sm.arr.trans a1;rw[ha]at q1
  have hb:sa+k+r.size<=(AV st).size:=by lia
  have mm:∀t,t < r.size->∃t',ix r t=ix (AV st) t'/\sa+k<=t'/\t' < sa+na+k3:=λt ht=>by
   have:ix r t∈r.toList:=BY.mpr (Ct (DT ht))
   rcases Ae.mp (f.perm.mem_iff.mp this)with h | h
   ·obtain⟨j,j1,e⟩:=memx _ h
    exact⟨_,e,by lia,by lia⟩
   ·obtain⟨j,j1,e⟩:=memy _ h
    exact⟨_,e,by lia,by lia⟩
  have rs:=Tc O (a:=r) (λt ht=>by
   obtain⟨t',e,_,_⟩:=mm t ht;rw[e]
   exact mem _ (by lia)) f.srt
  refine h st2 ⟨?_,?_,?_⟩ (q4.trans (sm.pend.trans p1)) ?_ ?_
  ·rw[q1]
   refine(dk hb (f.perm.trans ?_)).trans g.perm
   have:(AV st).toList.drop (sa+k)=x.toList++(AV st).toList.drop (sa+na):=by
    have:=Ic (a:=AV st) (i:=sa+k) (k:=na - k) (by lia);rw[show sa+k+(na - k)=sa+na by lia]at this;exact this
   have h2:(AV st).toList.drop (sa+na)=y.toList++(AV st).toList.drop (sa+na+k3):=Ic (by lia);have h3:(AV st).toList.drop (sa+k)=((AV st).extract (sa+k) (sa+k+r.size)).toList++(AV st).toList.drop (sa+k+r.size):=Ic hb;rw[this,h2,<-BN,show sa+k+r.size=sa+na+k3 by lia]at h3;rw[show sa+k+r.size=sa+na+k3 by lia];exact WG (List.append_cancel_right h3)
  ·rw[q2];exact sm.good.kind
  ·rw[q3];exact sm.good.failed
  ·rw[q1]
   intro i j h1 h2 h3;show Rl lt _ _;rw[aX hb,aX hb]
   by_cases i1:i < sa+k
   ·rw[qX i1]
    by_cases j1:j < sa+k
    ·rw[qX j1];exact ua i j h1 h2 (by lia)
    rw[qY j1]
    by_cases j2:j < sa+k+r.size
    ·rw[qX j2]
     obtain⟨t,e,t1,t2⟩:=mm (j - (sa+k)) (by omega);rw[e]
     by_cases t3:t < sa+na
     ·exact ua i t h1 (by lia) t3
     ·exact lowb i t h1 i1 (by lia) (by lia)
    ·rw[qY j2];exact lowb i j h1 i1 (by lia) (by lia)
   rw[qY i1,qY (show ¬j < sa+k by lia)]
   by_cases i2:i < sa+k+r.size
   ·rw[qX i2]
    by_cases j2:j < sa+k+r.size
    ·rw[qX j2];exact rs _ _ (by lia) (by omega)
    ·rw[qY j2]
     obtain⟨t,e,t1,t2⟩:=mm (i - (sa+k)) (by omega);rw[e]
     by_cases t3:t < sa+na
     ·exact tr _ _ _ (mem _ (by lia)) (mem _ (by lia)) (mem _ (by lia)) (ua t (sa+na - 1) (by lia) (by lia) (by lia)) (high j (by lia) (by lia))
     ·exact ub t j (by lia) (by lia) (by lia)
   ·rw[qY i2,qY (show ¬j < sa+k+r.size by lia)]
    exact ub i j (by lia) h2 (by lia)
  ·rw[q1]
   intro i hi;rw[aX hb]
   by_cases i1:i < sa+k
   ·rw[qX i1]
   ·rw[qY i1,qY (by lia)]
 have args:∀{P:Prop},((∀z∈x.toList,z∈a₀)->(∀z∈y.toList,z∈a₀)->x.toList.Pairwise (Rl lt)->y.toList.Pairwise (Rl lt)->0 < x.size->0 < y.size->(∀z∈x.toList,Rl lt (ix y 0) z)->(∀z∈y.toList,Rl lt z (ix x (x.size - 1)))->P)->P:=by
  intro P hP
  refine hP (λz hz=>?_) (λz hz=>?_) (ZL (by lia) λi j h1 h2 h3=>ua i j (by lia) h2 h3) (ZL (by lia) λi j h1 h2 h3=>ub i j h1 h2 (by lia)) (by lia) (by lia) (λz hz=>?_) λz hz=>?_
  ·obtain⟨j,j1,rfl⟩:=memx z hz
   exact mem _ (by lia)
  ·obtain⟨j,j1,rfl⟩:=memy z hz
   exact mem _ (by lia)
  ·obtain⟨j,j1,rfl⟩:=memx z hz
   rw[ixy 0 (by lia)];have:=k2 (k+j) (by lia) (by lia);rw[show sa+(k+j)=sa+k+j by lia]at this;exact O.asym _ _ (mem _ (by lia)) (mem _ (by lia)) (by simpa using this)
  ·obtain⟨j,j1,rfl⟩:=memy z hz
   rw[xs,ixx _ (by lia),show sa+k+(na - k - 1)=sa+na - 1 by lia];exact O.asym _ _ (mem _ (by lia)) (mem _ (by lia)) (k4 j j1)
 refine(show wpS (Af prog w) A E s (if na - k<=k3 then mLo x y >>= _ else mHi x y >>= _) Q st1 from ?_);split
 ·refine AL (args λb1 b2 b3 b4 b5 b6 b7 b8=>cB C O g1 b1 b2 b3 b4 b5 b6 b7 b8 λr st' sm f=>?_)
  refine AL (DZ (AL (Hk (AM ?_))));have q:=fin r st' sm f (setArr st' (wr (AV st') (sa+k) r.toList.zipIdx)) rfl rfl rfl rfl;rw[<-show(Il st').isNone=true by rw[sm.good.failed];rfl]at q;exact q
 ·refine AL (args λb1 b2 b3 b4 b5 b6 b7 b8=>cC C O g1 b1 b2 b3 b4 b5 b6 b7 b8 λr st' sm f=>?_)
  refine AL (DZ (AL (Hk (AM ?_))));have q:=fin r st' sm f (setArr st' (wr (AV st') (sa+k) r.toList.zipIdx)) rfl rfl rfl rfl;rw[<-show(Il st').isNone=true by rw[sm.good.failed];rfl]at q;exact q
end
def ee{c:Prop}[Decidable c]{z:Nat}(h:1 < z):(if c then z - 2 - 1 else z - 2)+1 < z:=by split <;> omega
def Stk(lt:As->As->Bool)(arr:Array As):List (Nat×Nat×Nat)->Nat->Nat->Prop
 | [],lo,hi=>lo=hi
 | (s,n,_) :: r,lo,hi=>s=lo/\1<=n/\Up lt arr s (s+n)/\Stk lt arr r (s+n) hi
section
variable{lt:As->As->Bool}{arr arr':Array As}
def Stk.le:∀{l:List (Nat×Nat×Nat)} {lo hi:Nat},Stk lt arr l lo hi->lo+l.length<=hi
 | [],lo,hi,h=>by cases h;simp
 | (s,n,_) :: r,lo,hi,⟨h1,h2,_,h4⟩=>by
  have:=Stk.le h4;rw[A8]
  lia
def Stk.app:∀{l r:List (Nat×Nat×Nat)} {lo hi:Nat},Stk lt arr (l++r) lo hi↔∃mid,Stk lt arr l lo mid/\Stk lt arr r mid hi
 | [],r,lo,hi=>⟨λh=>⟨lo,rfl,h⟩,λ⟨_,e,h⟩=>by cases e;exact h⟩
 | (s,n,_) :: l,r,lo,hi=>by
  constructor
  ·rintro⟨h1,h2,h3,h4⟩
   obtain⟨mid,a,b⟩:=Stk.app.mp h4;exact⟨mid,⟨h1,h2,h3,a⟩,b⟩
  ·rintro⟨mid,⟨h1,h2,h3,h4⟩,b⟩
   exact⟨h1,h2,h3,Stk.app.mpr ⟨mid,h4,b⟩⟩
def Stk.pw{f:Nat×Nat×Nat->Nat×Nat×Nat}(hf:∀x,(f x).1=x.1/\(f x).2.1=x.2.1):∀{l:List (Nat×Nat×Nat)} {lo hi:Nat} (i:Nat),Stk lt arr l lo hi->Stk lt arr (l.modify i f) lo hi
 | [],lo,hi,i,h=>by cases i <;> exact h
 | (s,n,p) :: r,lo,hi,0,h=>by
  obtain⟨e1,e2⟩:=hf (s,n,p);show Stk lt arr (f (s,n,p) :: r) lo hi;generalize f (s,n,p)=q at e1 e2;obtain⟨s',n',p'⟩:=q;dsimp only at e1 e2;subst e1 e2;exact h
 | (s,n,p) :: r,lo,hi,i+1,⟨h1,h2,h3,h4⟩=>⟨h1,h2,h3,Stk.pw hf i h4⟩
def Stk.out:∀{l:List (Nat×Nat×Nat)} {lo hi x y:Nat},Stk lt arr l lo hi->Out arr arr' x y->(hi<=x∨y<=lo)->Stk lt arr' l lo hi
 | [],lo,hi,x,y,h,o,d=>h
 | (s,n,_) :: r,lo,hi,x,y,⟨h1,h2,h3,h4⟩,o,d=>by
  have:=h4.le;exact⟨h1,h2,h3.out o (by lia),Stk.out h4 o (by lia)⟩
end
section
variable{prog:Al}{w:BE}{A:BC}{E:AE->AG->Prop}{s:AG}{a₀:Array As}{κ:GF}{lt:As->As->Bool}
def Out.wide{xs ys:Array As}{l h l' h':Nat}(o:Out xs ys l h)(h1:l'<=l)(h2:h<=h'):Out xs ys l' h':=λi hi=>o i (by lia)
def Ju{st:BP}{i hi:Nat}{Q:Bool->BP->Prop}(C:KO prog w A s a₀ κ lt)(O:Ord (·∈a₀) lt)(g:Good a₀ κ st)(k:Stk lt (AV st) (AX st).toList 0 hi)(hs:hi<=a₀.size)(hi1:i+1 < (AX st).size)
  (h:∀st',Good a₀ κ st'->Stk lt (AV st') (AX st').toList 0 hi->(AX st').size+1=(AX st).size->Out (AV st) (AV st') 0 hi->Q true st'):wpS (Af prog w) A E s (mergeAt' i) Q st:=by
 obtain⟨sa,na,pw,e1⟩:∃sa na pw,(AX st)[i]?=some (sa,na,pw):=⟨_,_,_,getElem?_pos (AX st) i (by lia)⟩
 obtain⟨sb,nb,pw2,e2⟩:∃sa na pw,(AX st)[i+1]?=some (sa,na,pw):=⟨_,_,_,getElem?_pos (AX st) (i+1) hi1⟩
 obtain⟨l,r,el,hl⟩:∃l r,(AX st).toList=l++(sa,na,pw) :: (sb,nb,pw2) :: r/\l.length=i:=by
  have a1:(AX st).toList[i]?=some (sa,na,pw):=by simpa using e1
  have a2:(AX st).toList[i+1]?=some (sb,nb,pw2):=by simpa using e2
  obtain⟨b1,c1⟩:=AF.mp a1;obtain⟨b2,c2⟩:=AF.mp a2;refine⟨(AX st).toList.take i,(AX st).toList.drop (i+2),?_,by rw[Cz];lia⟩
  conv=>lhs;rw[<-E6 i (AX st).toList,Fj b1,Fj b2,c1,c2]
 rw[el]at k;obtain⟨mid,k1,⟨q1,q2,q3,⟨q4,q5,q6,q7⟩⟩⟩:=Stk.app.mp k;have hle:=q7.le;have hle1:=k1.le
 refine TQ C O g e1 e2 q4 q2 q5 (by lia) q3 q6 λst' g' p' u' o'=>?_
 have pl:(AX st').toList=l++(sa,na+nb,pw) :: r:=by
  rw[p',Array.toList_eraseIdxIfInBounds,Qd,el];rw[List.set_append_right _ _ (by lia),hl,Nat.sub_self,List.set_cons_zero,List.eraseIdx_append_of_length_le (by lia),show i+1 - l.length=1 by lia];rfl
 refine h st' g' ?_ ?_ (o'.wide (by lia) (by lia))
 ·rw[pl]
  refine Stk.app.mpr ⟨mid,k1.out o' (.inl (by lia)),q1,by lia,u',?_⟩
  have e:sb+nb=sa+(na+nb):=by lia
  rw[e]at q7;exact q7.out o' (.inr (by lia))
 ·have z1:=congrArg Gh pl
  have z2:=congrArg Gh el;simp at z1 z2
  lia
def wpS_sortRuns{st:BP}{Q:Unit->BP->Prop}(C:KO prog w A s a₀ κ lt)(O:Ord (·∈a₀) lt)(g:Good a₀ κ st)(hp:AX st = #[])
  (h:∀st',Good a₀ κ st'->Up lt (AV st') 0 a₀.size->Q () st'):wpS (Af prog w) A E s sortRuns' Q st:=by
 rw[sortRuns'_eq];refine AL (Hk ?_);dsimp only;rw[g.size];generalize minRun' a₀.size a₀.size 0=mr
 refine AL (DR (CD (I:=λx c st'=>∃lo,c=(none,lo)/\Good a₀ κ st'/\Stk lt (AV st') (AX st').toList 0 lo/\lo<=a₀.size/\min x a₀.size<=lo)
  (Q:=λc st'=>c=(none,a₀.size)/\Good a₀ κ st'/\Stk lt (AV st') (AX st').toList 0 a₀.size) ?step ?fin ?init) ?post)
 case init=>exact⟨0,rfl,g,by rw[hp];rfl,by lia,by lia⟩
 case fin=>
  rintro c st' ⟨lo,rfl,g',k',h1,h2⟩
  have:lo=a₀.size:=by lia
  subst this;exact⟨rfl,g',k'⟩
 case step=>
  rintro x c st1 _ hx ⟨lo,rfl,g1,k1,h1,h2⟩;dsimp only
  by_cases hge:lo ≥ a₀.size
  ·rw[qX hge]
   have:lo=a₀.size:=by lia
   subst this;exact AM ⟨rfl,g1,k1⟩
  rw[qY hge];refine AL (wpS_countRun C O (by lia) (by lia) g1 λst2 n g2 n1 n2 u2 o2 p2=>?_);dsimp only
  have k2:Stk lt (AV st2) (AX st2).toList 0 lo:=by
   rw[p2];exact k1.out o2 (.inl (AQ _))
  by_cases hm:n < mr
  ·rw[qX hm]
   refine AL (Jb ?_);refine AL (wpS_binarySort C O (by lia) (by omega) g2 u2 λst3 g3 u3 o3 p3=>?_)
   have k3:Stk lt (AV st3) (AX st3).toList 0 lo:=by
    rw[p3];exact k2.out o3 (.inl (AQ _))
   rw[qY (by simp)];refine AL (Hk ?_)
   cases hb:(AX st3).back? with
   | none=>
    dsimp only;refine AL (DZ (AM ⟨lo+min (a₀.size - lo) mr,rfl,⟨g3.perm,g3.kind,g3.failed⟩,?_,by lia,by lia⟩));show Stk lt (AV st3) ((AX st3).push (lo,min (a₀.size - lo) mr,0)).toList 0 (lo+min (a₀.size - lo) mr);rw[JU];exact Stk.app.mpr ⟨lo,k3,rfl,by omega,u3,rfl⟩
   | some t=>
    obtain⟨s1,n1,z⟩:=t;dsimp only;generalize power' a₀.size (2 * s1+n1) (2 * s1+n1+n1+min (a₀.size - lo) mr) a₀.size=pw
    refine AL (DR (CD (I:=λ_ c st4=>c=(none,())/\Good a₀ κ st4/\Stk lt (AV st4) (AX st4).toList 0 lo/\Up lt (AV st4) lo (lo+min (a₀.size - lo) mr))
     (Q:=λc st4=>c=(none,())/\Good a₀ κ st4/\Stk lt (AV st4) (AX st4).toList 0 lo/\Up lt (AV st4) lo (lo+min (a₀.size - lo) mr)) ?_ (λc st4 h=>h) ⟨rfl,g3,k3,u3⟩) ?_)
    ·rintro x' c' st4 _ _ ⟨rfl,g4,k4,u4⟩
     refine AL (Hk ?_)
     by_cases hz:(AX st4).size > 1
     ·rw[qX hz]
      obtain⟨s2,n2,older,e2⟩:∃s2 n2 older,(AX st4)[(AX st4).size - 2]?=some (s2,n2,older):=⟨_,_,_,getElem?_pos (AX st4) ((AX st4).size - 2) (by lia)⟩
      rw[e2];dsimp only
      by_cases ho:older<=pw
      ·rw[qX ho]
       exact AM ⟨rfl,g4,k4,u4⟩
      ·rw[qY ho]
       refine AL (Ju C O g4 k4 (by omega) (by lia) λst5 g5 k5 _ o5=>?_);exact AM ⟨rfl,g5,k5,u4.out o5 (.inr (by lia))⟩
     ·rw[qY hz]
      exact AM ⟨rfl,g4,k4,u4⟩
    ·rintro c' st4 ⟨rfl,g4,k4,u4⟩
     dsimp only;refine AL (DZ (AL (DZ (AM ⟨lo+min (a₀.size - lo) mr,rfl,⟨g4.perm,g4.kind,g4.failed⟩,?_,by lia,by lia⟩))));show Stk lt (AV st4) ((((AX st4).modify ((AX st4).size - 1) λx=>(x.fst,x.2.fst,pw))).push (lo,min (a₀.size - lo) mr,0)).toList 0 (lo+min (a₀.size - lo) mr);rw[JU,WJ];exact Stk.app.mpr ⟨lo,Stk.pw (f:=λx=>(x.fst,x.2.fst,pw)) (λx=>⟨rfl,rfl⟩) _ k4,rfl,by omega,u4,rfl⟩
  ·rw[qY hm]
   refine AL (Hk ?_)
   cases hb:(AX st2).back? with
   | none=>
    dsimp only;refine AL (DZ (AM ⟨lo+n,rfl,⟨g2.perm,g2.kind,g2.failed⟩,?_,by lia,by lia⟩));show Stk lt (AV st2) ((AX st2).push (lo,n,0)).toList 0 (lo+n);rw[JU];exact Stk.app.mpr ⟨lo,k2,rfl,by omega,u2,rfl⟩
   | some t=>
    obtain⟨s1,n1,z⟩:=t;dsimp only;generalize power' a₀.size (2 * s1+n1) (2 * s1+n1+n1+n) a₀.size=pw
    refine AL (DR (CD (I:=λ_ c st4=>c=(none,())/\Good a₀ κ st4/\Stk lt (AV st4) (AX st4).toList 0 lo/\Up lt (AV st4) lo (lo+n))
     (Q:=λc st4=>c=(none,())/\Good a₀ κ st4/\Stk lt (AV st4) (AX st4).toList 0 lo/\Up lt (AV st4) lo (lo+n)) ?_ (λc st4 h=>h) ⟨rfl,g2,k2,u2⟩) ?_)
    ·rintro x' c' st4 _ _ ⟨rfl,g4,k4,u4⟩
     refine AL (Hk ?_)
     by_cases hz:(AX st4).size > 1
     ·rw[qX hz]
      obtain⟨s2,n2,older,e2⟩:∃s2 n2 older,(AX st4)[(AX st4).size - 2]?=some (s2,n2,older):=⟨_,_,_,getElem?_pos (AX st4) ((AX st4).size - 2) (by lia)⟩
      rw[e2];dsimp only
      by_cases ho:older<=pw
      ·rw[qX ho]
       exact AM ⟨rfl,g4,k4,u4⟩
      ·rw[qY ho]
       refine AL (Ju C O g4 k4 (by omega) (by lia) λst5 g5 k5 _ o5=>?_);exact AM ⟨rfl,g5,k5,u4.out o5 (.inr (by lia))⟩
     ·rw[qY hz]
      exact AM ⟨rfl,g4,k4,u4⟩
    ·rintro c' st4 ⟨rfl,g4,k4,u4⟩
     dsimp only;refine AL (DZ (AL (DZ (AM ⟨lo+n,rfl,⟨g4.perm,g4.kind,g4.failed⟩,?_,by lia,by lia⟩))));show Stk lt (AV st4) ((((AX st4).modify ((AX st4).size - 1) λx=>(x.fst,x.2.fst,pw))).push (lo,n,0)).toList 0 (lo+n);rw[JU,WJ];exact Stk.app.mpr ⟨lo,Stk.pw (f:=λx=>(x.fst,x.2.fst,pw)) (λx=>⟨rfl,rfl⟩) _ k4,rfl,by omega,u4,rfl⟩
 case post=>
  rintro c st1 ⟨rfl,g1,k1⟩;dsimp only
  refine AL (DR (CD (I:=λx c st4=>c=(none,())/\Good a₀ κ st4/\Stk lt (AV st4) (AX st4).toList 0 a₀.size/\((AX st4).size<=1∨(AX st4).size+x<=a₀.size))
   (Q:=λc st4=>c=(none,())/\Good a₀ κ st4/\Stk lt (AV st4) (AX st4).toList 0 a₀.size/\(AX st4).size<=1) ?_ ?_ ?_) ?_)
  ·rintro x c st4 _ _ ⟨rfl,g4,k4,d⟩
   refine AL (Hk ?_)
   by_cases hz:(AX st4).size<=1
   ·rw[qX hz]
    exact AM ⟨rfl,g4,k4,hz⟩
   ·rw[qY hz]
    refine AL (Ju C O g4 k4 (AQ _) (ee (by lia)) λst5 g5 k5 z5 o5=>?_);exact AM ⟨rfl,g5,k5,.inr (by lia)⟩
  ·rintro c st4 ⟨rfl,g4,k4,d⟩
   exact⟨rfl,g4,k4,by lia⟩
  ·refine⟨rfl,g1,k1,.inr ?_⟩
   have:=k1.le;simp at this;omega
  ·rintro c st4 ⟨rfl,g4,k4,d⟩
   refine AM (h st4 g4 ?_);generalize hl:(AX st4).toList=l at k4
   have hd:l.length<=1:=by rw[<-hl];simpa using d
   match l,k4,hd with
   | [],k4,_=>exact λi j h1 h2 h3=>by have:(0:Nat)=a₀.size:=k4;lia
   | [(s,n,_)],⟨e1,_,u,e2⟩,_=>
    have e2:s+n=a₀.size:=e2;rw[e2,e1]at u;exact u
end
def ltL:List Int->List Int->Bool
 | [],[]=>false
 | [],_ :: _=>true
 | _ :: _,[]=>false
 | x :: xs,y :: ys=>if x=y then ltL xs ys else decide (x < y)
def Pw:∀x y,ltL x y=true->ltL y x=false
 | [],[],h=>by cases h
 | [],_ :: _,_=>rfl
 | _ :: _,[],h=>by cases h
 | x :: xs,y :: ys,h=>by
  unfold ltL at h ⊢
  by_cases e:x=y
  ·rw[qX e]at h;rw[qX e.symm];exact Pw xs ys h
  ·rw[qY e]at h;rw[qY (CB e)];simp at h ⊢;lia
def SS:∀x y z,ltL y x=false->ltL z y=false->ltL z x=false
 | [],y,[],_,_=>rfl
 | [],[],_ :: _,_,_=>rfl
 | [],_ :: _,_ :: _,_,_=>rfl
 | x :: xs,[],z,h,_=>by cases h
 | _,y :: ys,[],_,h=>by cases h
 | x :: xs,y :: ys,z :: zs,h1,h2=>by
  unfold ltL at h1 h2 ⊢
  by_cases e1:y=x
  ·rw[qX e1]at h1
   subst e1
   by_cases e2:z=y
   ·rw[qX e2]at h2 ⊢
    exact SS xs ys zs h1 h2
   ·rw[qY e2]at h2 ⊢;exact h2
  ·rw[qY e1]at h1
   by_cases e2:z=y
   ·subst e2;rw[qY e1];exact h1
   ·rw[qY e2]at h2
    by_cases e3:z=x
    ·subst e3;simp at h1 h2;lia
    ·rw[qY e3];simp at h1 h2 ⊢;lia
def Wg:∀x y,ltL x y=false->ltL y x=false->x=y
 | [],[],_,_=>rfl
 | [],_ :: _,h,_=>by cases h
 | _ :: _,[],_,h=>by cases h
 | x :: xs,y :: ys,h1,h2=>by
  unfold ltL at h1 h2
  by_cases e:x=y
  ·rw[qX e]at h1;rw[qX e.symm]at h2;rw[e,Wg xs ys h1 h2]
  ·rw[qY e]at h1;rw[qY (CB e)]at h2;simp at h1 h2;lia
def ltK(f:AE->List Int)(x y:As):Bool:=ltL (f x.1) (f y.1)
def d7(f:AE->List Int)(U:As->Prop):Ord U (ltK f):=⟨λx y _ _ h=>Pw _ _ h,λx y z _ _ _ h1 h2=>SS _ _ _ h1 h2⟩
section
variable{prog:Al}{w:BE}{A:BC}{E:AE->AG->Prop}{s:AG}
def VX{a b:Int}{t u:Tok}(o:Bool){Q:Bool->AG->Prop}(h:Q (decide (a < b)) s):Av (Af prog w) A (oneLt' o (.int a t) (.int b u)) Q E s:=by
 cases o with
 | true=>exact oneLt_int h
 | false=>
  rw[oneLt'_eq];simp only[Dj,if_false];exact AH (wpAny_lt_int (CN h))
def V2(s:AG)(v:AE)(ns:List Int):Prop:=∃a its,v=.ref a/\s.heap.IsTuple a its/\IntsAre its.toList ns
def mn(o:Bool):(AE×AE)×Nat->Option Bool×Unit->Sem (ForInStep (Option Bool×Unit)):=λe _=>match e with
 | ((p,q),i)=>eqBool p q >>= λc=>if (!c)=true then oneLt' (o&&i==0) p q >>= λb=>pure (.done (some b,()))else pure (.yield (none,()))
def aW(o:Bool)(x y:AE):keyLt' (kR o) x y=(Iv x >>= λr=>Iv y >>= λq=>forIn (r.toList.zip q.toList).zipIdx ((none,()):Option Bool×Unit) (mn o) >>= λz=>match z.1 with
  | some b=>pure b
  | none=>pure (decide (r.size < q.size))):=by kernel_rfl
def bR(o:Bool){n0:Nat}:∀{is js:List AE} {ns ms:List Int} (k:Nat) {Q:Bool->AG->Prop},IntsAre is ns->IntsAre js ms->Q (ltL ns ms) s ->
  Av (Af prog w) A (forIn ((is.zip js).zipIdx k) ((none,()):Option Bool×Unit) (mn o) >>= λz=>match z.1 with
   | some b=>pure b
   | none=>pure (decide (n0+is.length < n0+js.length))) Q E s:=by
 intro is
 induction is with
 | nil=>
  intro js ns ms k Q h1 h2 hq;cases h1;rw[List.zip_nil_left,bv,gH];refine AH (AY (AY ?_))
  cases h2 with
  | nil=>simpa[ltL]using hq
  | cons m t h=>simpa[ltL]using hq
 | cons v is ih=>
  intro js ns ms k Q h1 h2 hq
  cases h1 with
  | cons n t h1=>
   cases h2 with
   | nil=>
    rw[List.zip_nil_right,bv,gH];refine AH (AY (AY ?_));rw[wY (by rw[A8,IH];lia)];exact hq
   | cons m u h2=>
    rw[List.zip_cons_cons,List.zipIdx_cons,bw];rw[bind_assoc];unfold ltL at hq;refine AH ?_;refine AH (kr ?_)
    by_cases e:n=m
    ·rw[qX e]at hq
     rw[qY (by simp[e])];refine AY ?_;have:=ih (k+1) h1 h2 hq;simpa[Nat.add_lt_add_iff_left]using this
    ·rw[qY e]at hq
     rw[qX (by simp[e])];refine AH (VX _ (AY ?_));exact AH (AY (AY hq))
end
section
variable{prog:Al}{w:BE}{A:BC}{E:AE->AG->Prop}{s:AG}
def NS{v:AE}{ns:List Int}(h:V2 s v ns):∃its:Array AE,IntsAre its.toList ns/\s.TypeIs v "tuple"/\∀(E:AE->AG->Prop) (Q:Array AE->AG->Prop),Q its s->Av (Af prog w) A (Iv v) Q E s:=by
 obtain⟨a,its,rfl,⟨o,ho,hc,n,hd⟩,hi⟩:=h;exact⟨its,hi,⟨o,ho,hc⟩,λE Q q=>listItems_at ho hd q⟩
def fY{x y:AE}{ns ms:List Int}(o:Bool)(hx:V2 s x ns)(hy:V2 s y ms){Q:Bool->AG->Prop}(h:Q (ltL ns ms) s):Av (Af prog w) A (keyLt' (kR o) x y) Q E s:=by
 obtain⟨r,hr,_,wr⟩:=NS (prog:=prog) (w:=w) (A:=A) hx;obtain⟨q,hq,_,wq⟩:=NS (prog:=prog) (w:=w) (A:=A) hy;rw[aW];refine AH (wr E _ (AH (wq E _ ?_)));have:=bR (prog:=prog) (w:=w) (A:=A) (E:=E) (n0:=0) o 0 hr hq h;simp only[HB,Bd]at this;exact this
def YQ{v:AE}{n:Int}{ns:List Int}(h:V2 s v (n :: ns)){Q:Option AE->AG->Prop}(hq:∀t,Q (some (.int n t)) s):Av (Af prog w) A (XE v) Q E s:=by
 obtain⟨r,hr,ty,wr⟩:=NS (prog:=prog) (w:=w) (A:=A) h;refine(AH (wpAny_typeOf ty ?_):Av _ _ (XE v) Q E s);refine(show Av (Af prog w) A (if (EZ "tuple" != EZ "tuple")=true then _ else _) Q E s from ?_);rw[qY (by simp)];refine AH (wr E _ (AY ?_));generalize hl:r.toList=l at hr
 cases hr with
 | cons _ t h2=>
  have:r[0]?=some (.int n t):=by
   rw[<-E3,hl];rfl
  rw[this];exact hq t
def QA:∀{vs:List AE},(∀v∈vs,∃n ns,V2 s v (n :: ns))->∀{Q:List (Option AE)->AG->Prop},(∀is ns,IntsAre is ns->is.length=vs.length->Q (is.map some) s)->Av (Af prog w) A (vs.mapM XE) Q E s
 | [],_,Q,h=>by
  rw[List.mapM_nil];exact AY (h [] [] .nil rfl)
 | v :: vs,hv,Q,h=>by
  obtain⟨n,ns,hn⟩:=hv v A1;rw[List.mapM_cons];refine AH (YQ hn λt=>AH (QA (λv hv'=>hv v (Aj _ hv')) λis ms h1 h2=>AY ?_));exact h (.int n t :: is) (n :: ms) (.cons n t h1) (by rw[A8,h2,A8])
def SI{is:List AE}{ns:List Int}(h:IntsAre is ns)(h0:is≠[]):oneTypeOnly' is.toArray=pure (some (.type "int")):=by
 rw[oneTypeOnly'_eq,Yx,mapM_typeOf_ints h];simp only[map_pure,pure_bind]
 cases is with
 | nil=>exact zX rfl h0
 | cons v is=>
  have e0:(Ir (λ_=>EZ "int") (v :: is)).toArray[0]?=some (EZ "int"):=by simp
  have e1:((Ir (λ_=>EZ "int") (v :: is)).toArray.all λx=>x==EZ "int")=true:=by
   simp only[List.all_toArray,Uk,ES]
   exact λ_ _=>rfl
  rw[e0];simp only[e1,if_true]
def aV{vs:List AE}(hv:∀v∈vs,∃n ns,V2 s v (n :: ns))(h0:vs≠[]){Q:GF->AG->Prop}(h:Q (kR true) s):Av (Af prog w) A (keyKind' vs.toArray) Q E s:=by
 rw[keyKind'_eq,Yx];refine AH ?_;rw[map_eq_pure_bind];refine AH (QA hv λis ns h1 h2=>AY ?_)
 have hall:((is.map some).toArray.all λx=>x.isSome)=true:=by simp
 rw[qX hall];refine AH (gr ?_)
 have hf:(is.map some).toArray.filterMap id=is.toArray:=by simp
 rw[hf,SI h1 (by intro e;subst e;cases vs with | nil=>exact h0 rfl | cons=>simp at h2)];refine AH (AY (AY ?_));exact h
end
section
variable{prog:Al}{w:BE}{A:BC}{E:AE->AG->Prop}{s:AG}
def HI{vs:List AE}{x:As}(h:x∈KU vs):x.1∈vs/\x.1=x.2:=by
 have:x∈(KU vs).toList:=BY.mpr h;rw[pairsOf_toList]at this;exact⟨(mem_zip_self this).2,(mem_zip_self this).1⟩
def Xy(vs:List AE):(KU vs).map (·.2)=vs.toArray:=by
 apply Array.ext'
 rw[Jt,pairsOf_toList];simp[List.map_snd_zip]
def Sv(prog:Al)(w:BE)(A:BC)(s:AG)(vs:List AE)(f:AE->List Int):Prop:=
 ∃κ:GF,(∀(Q:GF->AG->Prop) (E:AE->AG->Prop),Q κ s->Av (Af prog w) A (keyKind' vs.toArray) Q E s)/\KO prog w A s (KU vs) κ (ltK f)
def Qt{a:AK}{vs:List AE}{n:Nat}{P:Fin->AG->Prop}{f:AE->List Int}(ho:s.heap.get? a=some (JG "list" vs.toArray n)) (hz:vs.length<=sizeLine)
  (hk:2<=vs.length->∀s':AG,(∀b o,b≠a->s.heap.get? b=some o->s'.heap.get? b=some o)->Sv prog w A s' vs f)
  (h:∀out:Array AE,out.toList.Perm vs->out.toList.Pairwise (λx y=>ltL (f y) (f x)=false)->P (.done (.ret .none)) { s with heap:=gv s.heap a vs out }) :
  Av (Af prog w) A (Builtin.«list.sort» ⟨[.ref a],[]⟩) P E s:=by
 have ha:a < s.heap.objs.size:=Ai ho
 have hsz:vs.toArray.size=vs.length:=by simp
 obtain⟨e1,ho1⟩:∃e1,(s.heap.update a (Hl λ_=>#[])).get? a=some (JG "list" #[] e1):=⟨_,get?_update_seq ho (λ_=>#[])⟩
 have ho6:(((s.heap.update a (Hl λ_=>#[])).push (JG "tuple" vs.toArray 0)).push (JG "list" #[] 0)).get? a=some (JG "list" #[] e1):=
  AJ _ (AJ _ ho1)
 have old:∀b o,b≠a->s.heap.get? b=some o->(((s.heap.update a (Hl λ_=>#[])).push (JG "tuple" vs.toArray 0)).push (JG "list" #[] 0)).get? b=some o:=λb o hb hg=>
  AJ _ (AJ _ (by rw[XO _ _ _ _ hb];exact hg))
 have fin:∀st':BP,(AV st').Perm (KU vs)->(AV st').toList.Pairwise (Rl (ltK f))->P (.done (.ret .none)) { s with heap:=gv s.heap a vs ((AV st').map (·.2)) }:=by
  intro st' hp hs
  have hmem:∀x∈(AV st').toList,x.1=x.2:=λx hx=>by
   have:x∈(KU vs).toList:=(FJ.mp hp).mem_iff.mp hx;exact(HI (BY.mp this)).2
  refine h _ ?_ ?_
  ·have:=(FJ.mp hp).map (·.2)
   rw[<-Jt,<-Jt,Xy]at this;simpa using this
  ·rw[Jt,Bv]
   refine hs.imp_of_mem λ{x y} hx hy r=>?_
   rw[<-hmem x hx,<-hmem y hy];exact r
 have last:∀st':BP,(AV st').Perm (KU vs)->Il st'=none->(AV st').toList.Pairwise (Rl (ltK f))->(((AV st').map (·.2)).size<=sizeLine+1):=λst' hp _ _=>by
  rw[Array.size_map,hp.size_eq,pairsOf_size]
  lia
 rw[list_sort_plain];refine AH (listItems_at ho rfl (AH (XD ho rfl (AH (bp ho1 rfl (AH (wpAny_newTuple (AH (wpAny_newList (W9 ?_)))))) ) (by rw[hsz];exact hz) (Cr _))));show Av (Af prog w) A _ P E { s with heap:=((s.heap.update a (Hl λ_=>#[])).push (JG "tuple" vs.toArray 0)).push (JG "list" #[] 0) };dsimp only
 by_cases h2:vs.toArray.size < 2
 ·rw[qX h2,qX h2]
  refine AH (AY ?_);rw[StateT.run_pure]
  have hs0:(AV (HS Ur (vs.toArray.zip vs.toArray) #[] 7 none)).toList.Pairwise (Rl (ltK f)):=by
   have:(AV (HS Ur (vs.toArray.zip vs.toArray) #[] 7 none)).toList.length < 2:=by
    rw[Bd];show(KU vs).size < 2;rw[pairsOf_size];omega
   generalize (AV (HS Ur (vs.toArray.zip vs.toArray) #[] 7 none)).toList=l at this
   match l,this with
   | [],_=>exact .nil
   | [x],_=>exact KJ _ _
   | _ :: _ :: _,h=>simp at h;lia
  refine AH (AY (AH (bp ho6 rfl (AH (XD ho6 rfl ?_ (Cr _) (last (HS Ur (vs.toArray.zip vs.toArray) #[] 7 none) (NE _) rfl hs0))))));simp only[bne_self_eq_false,Dj,if_false];exact AY (fin (HS Ur (vs.toArray.zip vs.toArray) #[] 7 none) (NE _) hs0)
 ·rw[qY h2,qY h2]
  obtain⟨κ,kk,C⟩:=hk (by lia) { s with heap:=((s.heap.update a (Hl λ_=>#[])).push (JG "tuple" vs.toArray 0)).push (JG "list" #[] 0) } old;refine AH (kk _ _ ?_)
  refine AH (HA (Srt.wpS_sortRuns (a₀:=KU vs) (st:=HS κ (vs.toArray.zip vs.toArray) #[] 7 none)
   (Q:=λ_ st'=>(AV st').Perm (KU vs)/\Il st'=none/\(AV st').toList.Pairwise (Rl (ltK f))) C (d7 f _) ⟨NE _,rfl,rfl⟩ rfl λst' g u=>⟨g.perm,g.failed,?_⟩) ?_ λ_ _ e=>e)
  ·have:=ZL (a:=AV st') (lo:=0) (hi:=(AV st').size) (AQ _) (by rw[g.size];exact u)
   rwa [KD,List.drop_zero]at this
  rintro⟨⟨⟩,st'⟩ s' ⟨rfl,hp,hf,hs⟩;refine AH (bp ho6 rfl (AH (XD ho6 rfl ?_ (Cr _) (last st' hp hf hs))));rw[hf];simp only[bne_self_eq_false,Dj,if_false];exact AY (fin st' hp hs)
def Xe{vs:List AE}{f:AE->List Int}(h:∀v∈vs,V2 s v (f v)/\f v≠[])(h0:vs≠[]):Sv prog w A s vs f:=
 ⟨kR true,λQ E q=>aV (λv hv=>by
  obtain⟨h1,h2⟩:=h v hv
  cases e:f v with
  | nil=>exact zX e h2
  | cons n ns=>exact⟨n,ns,by rw[<-e];exact h1⟩) h0 q,λx y hx hy Q E q=>fY true (h _ (HI hx).1).1 (h _ (HI hy).1).1 q⟩
def Z2(v:AE):List Int:=[numOf v]
def Xf{vs:List AE}{ns:List Int}(h:IntsAre vs ns)(h2:2<=vs.length):Sv prog w A s vs Z2:=by
 refine⟨oneType',λQ E q=>?_,λx y hx hy Q E q=>?_⟩
 ·match vs,h2,h with
  | v :: u :: r,_,h=>rw[keyKind_ints h];exact AY q
 ·obtain⟨n,t,e1⟩:=h.all _ (HI hx).1
  obtain⟨m,u,e2⟩:=h.all _ (HI hy).1;rw[keyLt'_oneType,e1,e2];refine oneLt_int ?_
  have:ltK Z2 x y=decide (n < m):=by
   unfold ltK Z2;rw[e1,e2];show(if n=m then false else decide (n < m))=_;split
   ·rename_i e;simp[e]
   ·rfl
  rw[<-this];exact q
end
def Qz(h:B7)(d:AK)(es:Array IN)(ep:Nat):Prop:=∃o,h.get? d=some o/\o.ExactDict/\o.data=.dict es ep
def Qz.at'{h h':B7}{d:AK}{es:Array IN}{ep:Nat}(x:Qz h d es ep)(e:∀o,h.get? d=some o->h'.get? d=some o):Qz h' d es ep:=let ⟨o,ho,r⟩:=x;⟨o,e _ ho,r⟩
def Qz.ty{s:AG}{d:AK}{es:Array IN}{ep:Nat}(x:Qz s.heap d es ep):s.TypeIs (.ref d) "dict":=let ⟨o,ho,hc,_⟩:=x;⟨o,ho,hc.1⟩
section
variable{prog:Al}{w:BE}{A:BC}{E:AE->AG->Prop}{s:AG}{d it:AK}{es:Array IN}{ep i:Nat}
def T1{Q:AE->AG->Prop}(hd:(d==DD)=false)(hm:Qz s.heap d es ep)
  (kq:Q (.ref s.heap.objs.size) { s with heap:=s.heap.push { cls:=.type "dict_keyiterator",data:=.fields #[.ref d,.int 0 0,.int es.size 0,.int ep 0] } }):Av (Af prog w) A (Uo (.ref d)) Q E s:=by
 have hT:=hm.ty;obtain⟨o,ho,hc,hdat⟩:=hm;refine wpAny_pyIter_slot hT Rp (Ep Rp hT PySem.F.entry_dict_iter ?_ (PySem.F.args_dict_iter_1 _));unfold Builtin.«dict.__iter__»;refine AH ?_;unfold nZ;refine AH (wpAny_notOrdered_dict hT (show Av _ _ (pure (BB d)) _ _ s from AY ?_));refine(show Av _ _ (Oz d >>= _) _ _ s from ?_);unfold Oz;rw[qY (by simp[hd])];refine AH (AY (AH (QQ ho hdat (AH (TK ho hdat (AH (Fh (AY ⟨_,rfl, "dict_keyiterator",_,⟨_,Ak _ rfl,rfl⟩,CV.lookup,?_⟩))))))));simpa[NI]using kq
def T0{Q:Option AE->AG->Prop}(ki:s.heap.IsKeyIter it d i es.size ep)(hm:Qz s.heap d es ep)(hi:i < es.size)
  (kq:∀h',h'.IsKeyIter it d (i+1) es.size ep->Ec it s.heap h'->Q (some es[i].key) { s with heap:=h' }):Av (Af prog w) A (Ri (.ref it)) Q E s:=by
 obtain⟨o,ho,hc,hd⟩:=id ki;obtain⟨od,hod,hcd,hdd⟩:=hm;unfold Ri;refine AH (OS (Er (name:=KZ "__next__") ki.typeIs CV (Ep CV ki.typeIs LV (AH (AY (AH (AH ?_)))) (LO _))))
 first | refine AH (E4 ki.typeIs (AY (AH (NG ho hd ?_)))) | refine AH (G3 ki.typeIs (AY (AH (NG ho hd ?_))))
 simp only[show KY "dict_keyiterator" = false by decide,Dj,if_false];refine(show Av _ _ (if (BB d==Ck)=true then _ else _) _ _ s from ?_);rw[qY (λz:(BB d==Ck)=true=>AZ z)];refine AH (AY (AH (QQ hod hdd ?_)));rw[qY (by simp)];refine AH (AY (AH (TK hod hdd ?_)));rw[qY (by simp)];refine AY ?_;simp only[show ¬((i:Int) < 0) by lia,if_false,Bx,Q5 hi];refine AH ?_
 first | refine AH (E4 ki.typeIs (AY (AH (MK ki.typeIs ?_)))) | refine AH (G3 ki.typeIs (AY (AH (MK ki.typeIs ?_))))
 refine(show Av _ _ (setField (.ref it) 1 (NI ((i:Int)+1)) >>= _) _ _ s from ?_);have ki':(s.heap.update it (ke (·.setIfInBounds 1 (NI ((i:Int)+1))))).IsKeyIter it d (i+1) es.size ep:=⟨_,Uz _ ho (WC (JI hd _)),(be ..).trans hc,by rw[JI hd];simp[NI]⟩;refine AH (NF ho hd (by simp) (AH (W9 (AH (MK (s:={ s with heap:=s.heap.update it (ke (·.setIfInBounds 1 (NI ((i:Int)+1)))) }) ki'.typeIs ?_)))));exact(show Av _ _ (pure es[i].key) _ _ _ from AY (AY ⟨_,rfl,AY (kq _ ki' (HD ..))⟩))
def WZ{Q:Option AE->AG->Prop}(h0:A.handled=none)(ki:s.heap.IsKeyIter it d i es.size ep)(hm:Qz s.heap d es ep)(hi:es.size<=i)
  (kq:∀h',WH it s.heap h'->Q none { s with heap:=h' }):Av (Af prog w) A (Ri (.ref it)) Q E s:=by
 obtain⟨o,ho,hc,hd⟩:=id ki;obtain⟨od,hod,hcd,hdd⟩:=hm;unfold Ri;refine AH (OS (Er (name:=KZ "__next__") ki.typeIs CV (Ep CV ki.typeIs LV (AH (AY (AH (AH ?_)))) (LO _))))
 first | refine AH (E4 ki.typeIs (AY (AH (NG ho hd ?_)))) | refine AH (G3 ki.typeIs (AY (AH (NG ho hd ?_))))
 simp only[show KY "dict_keyiterator" = false by decide,Dj,if_false];refine(show Av _ _ (if (BB d==Ck)=true then _ else _) _ _ s from ?_);rw[qY (λz:(BB d==Ck)=true=>AZ z)];refine AH (AY (AH (QQ hod hdd ?_)));rw[qY (by simp)];refine AH (AY (AH (TK hod hdd ?_)));rw[qY (by simp)];refine AY ?_;simp only[show ¬((i:Int) < 0) by lia,if_false,Bx,Array.getElem?_eq_none hi];refine AH ?_
 first | refine AH (E4 ki.typeIs (AY (show Av _ _ (setField (.ref it) 0 .none >>= _) _ _ s from ?_))) | refine AH (G3 ki.typeIs (AY (show Av _ _ (setField (.ref it) 0 .none >>= _) _ _ s from ?_)))
 refine AH (NF ho hd (by simp) (show Av _ _ (newExc (.type "StopIteration") [] >>= _) _ _ _ from AH ?_));simp only[newExc,newTuple];refine AH (Fh (AH (m:=NK _ _) (wpAny_of_eq (a:=Ck) (by first | rfl | (simp only[NK];rfl)) (Fh ?_ (by size_fits)))) (by size_fits));simp only[raiseNew];refine AH (wpAny_handled ?_);rw[show A.in1.handled=none from h0];refine AH (AY (wpAny_throw ?_));refine AH (km (T:="StopIteration") (b:=true) ⟨_,Ak _ rfl,rfl⟩ isSubtype_stop (AY ?_));exact kq _ (((HD ..).extBut.push _).push _)
def Xo(h0:A.handled=none)(I:AK)(hne:d≠I):Walks prog w A I [I,d] [I] es.size (λi v=>∃h:i < es.size,v=es[i].key) (λi h=>h.IsKeyIter I d i es.size ep/\Qz h d es ep) where
 sub:=λx hx=>by simp at hx;simp[hx]
 frame:=λ_ _ _ st keep=>⟨st.1.at λo e=>keep I (by simp) o e,st.2.at' λo e=>keep d (by simp) o e⟩
 item:=λi s Q E hi st kq=>T0 st.1 st.2 hi λh' ki' hs'=>kq _ h' s.toks ⟨hi,rfl⟩ ⟨ki',st.2.at' λo e=>hs'.extBut d o hne e⟩ λb o hb e=>hs'.extBut b o (λh=>hb (by simp[h])) e
 done:=λs Q E st kq=>WZ h0 st.1 st.2 (AQ _) λh' he'=>kq h' s.toks λb o hb e=>he' b o (λh=>hb (by simp[h])) e
 self:=λ_ _ _ _ st kq=>bn st.1 kq
def WY(lo:(d==DD)=false):PySem.W.KdlSrc prog w "dict" d d es.size (λi v=>∃h:i < es.size,v=es[i].key) (λh=>Qz h d es ep) where
 type:=λ_ hm=>hm.ty
 there:=λ_ hm=>⟨let ⟨_,ho,_⟩:=hm;Ai ho,let ⟨_,ho,_⟩:=hm;Ai ho⟩
 keep:=λ_ _ hm hk=>hm.at' λo e=>hk d (.inl rfl) o e
 notList:=by decide
 notTuple:=by decide
 hint:=λ_ _ _ _ hm hq=>PySem.W.kdl_hint_dict hm.ty hq
 iter:=λ_ _ h0 hm=>⟨_,_,(λ_ _ hq=>T1 lo hm hq),Xo h0 _ (Aq (let ⟨_,ho,_⟩:=hm;Ai ho)),⟨⟨_,Ak _ rfl,rfl,rfl⟩,hm.at' λo e=>AJ _ e⟩⟩
end
end Srt
namespace PySem.SetTable
end PySem.SetTable
namespace PySem
open SetTable
end PySem
namespace PySem
open Sem (wp)
open SetTable PyProof.Rows
section
variable{prog:Al}{w:BE}{A:BC}{E:AE->AG->Prop}{s:AG}
end
section
variable{prog:Al}{w:BE}{A:BC}{E:AE->AG->Prop}{s:AG}{a it T:AK}{es:Array (Int×AE)}{ep i:Nat}{t:SetTable}
end
section
variable{prog:Al}{w:BE}{A:BC}{E:AE->AG->Prop}{s:AG}{a it T:AK}{es:Array (Int×AE)}{ep i:Nat}{t:SetTable}
end
section
variable{prog:Al}{w:BE}{A:BC}{E:AE->AG->Prop}{s:AG}{a:AK}{es:Array (Int×AE)}{ep:Nat}{t:SetTable}
end
end PySem
namespace L2
open PySem PySem.Spec PyProof.Rows
open Srt (ltL)
def T5{α β:Type}{R:α->β->Prop}{l2 l2':List β}(p:l2.Perm l2'):∀{l1:List α},FZ R l1 l2->∃l1',FZ R l1' l2'/\l1'.Perm l1:=by
 induction p with
 | nil=>intro l1 h;cases h;exact⟨[],.nil,.refl _⟩
 | cons x _ ih=>
  intro l1 h
  cases h with
  | cons r t=>
   obtain⟨l',h1,h2⟩:=ih t;exact⟨_ :: l',.cons r h1,h2.cons _⟩
 | swap x y l=>
  intro l1 h
  cases h with
  | cons r t=>
   cases t with
   | cons r2 t=>exact⟨_ :: _ :: _,.cons r2 (.cons r t),List.Perm.swap _ _ _⟩
 | trans _ _ ih1 ih2=>
  intro l1 h;obtain⟨a,h1,h2⟩:=ih1 h;obtain⟨b,h3,h4⟩:=ih2 h1;exact⟨b,h3,h4.trans h2⟩
def Mj{α β γ:Type}{R:α->β->Prop}{f:α->γ}{g:β->γ}:∀{l1:List α} {l2:List β},FZ R l1 l2->(∀a∈l1,∀b,R a b->g b=f a)->l2.map g=l1.map f
 | _,_,.nil,_=>rfl
 | _,_,.cons r t,h=>by rw[A5,A5,h _ A1 _ r,Mj t λa ha=>h a (Aj _ ha)]
def Ph{α β:Type}{R:α->β->Prop}:∀{l1:List α} {l2:List β} {b:β},FZ R l1 l2->b∈l2->∃a∈l1,R a b
 | _,_,_,.nil,h=>nomatch h
 | _,_,b,.cons r t,h=>by
  rcases Aw.mp h with h | h
  ·subst h;exact⟨_,A1,r⟩
  ·obtain⟨a,ha,e⟩:=Ph t h
   exact⟨a,Aj _ ha,e⟩
def Qs:V->Int
 | .int n=>n
 | _=>0
def Xj(H:Hp):AE->List Int
 | .int n _=>[n]
 | .ref b=>match H b with
  | some (.tup xs)=>xs.map Qs
  | _=>[]
 | _=>[]
def Nb(r:List Int):(r.map V.int).map Qs=r:=by
 rw[Ax];exact(CG λa _=>rfl).trans (kg r)
def m9(K:AA)(H:Hp)(p:AK)(G:List V->Prop):Prop:=
 (∃vs,(SqL K H p vs∨SqT K H p vs)/\G vs)∨(∃kvs,H p=some (.dK kvs)/\G (kvs.map λx=>kV x.1)) ∨
  ∃kvs,H p=some (.dT kvs)/\∀bs:List AK,FZ (λ(k:List Key×V) b=>H b=some (.tup (k.1.map kV))) kvs bs->G (bs.map V.ref)
def Re(H:Hp)(f:V->List Int)(vs:List V):Prop:=(∀v∈vs,∃n,v=.int n/\f v=[n])∨∀v∈vs,∃b,v=.ref b/\H b=some (.tup ((f v).map V.int))/\f v≠[]
def lU(K:AA):List V->Hp->VK->Prop:=λxs H Q=>∃p,xs=[.ref p]/\m9 K H p λvs=>∃f:V->List Int,Re H f vs /\
 ∀out,out.Perm vs->out.Pairwise (λx y=>ltL (f y) (f x)=false)->∀l,H l=none->Q (.ref l) (upd H l (.lst out))
def Re.rel{H:Hp}{f:V->List Int}{vs:List V}(h:Re H f vs):∀v∈vs,∀u,RelV v u->Xj H u=f v:=λv hv u r=>by
 rcases h with h | h
 ·obtain⟨n,rfl,e⟩:=h v hv
  obtain⟨t,rfl⟩:=r;exact e.symm
 ·obtain⟨b,rfl,e,_⟩:=h v hv
  cases r;show(match H b with | some (.tup xs)=>xs.map Qs | _=>[])=_;rw[e];exact Nb _
def Th{X:Cx}{ζ:List (AK×Obj)}{s:AG}{σ:St}{H:Hp}{p:AK}{G:List V->Prop}(hc:X.calm=true)(I:Inv X ζ σ H s)(h:m9 X.K H p G) :
  ∃vs its,G vs/\Bk vs its/\its.length<=sizeLine/\∀(R:List AE->AG->Prop) (E:AE->AG->Prop),(∀(g:B7) (tk:Nat),(∀b o,s.heap.get? b=some o->g.get? b=some o)->R its { s with heap:=g,toks:=tk })->Av (Af X.prog X.w) X.A.in1 (collect (.ref p)) R E s:=by
 have hh:X.A.handled=none:=I.ok.hd hc
 rcases h with⟨vs,sq,g⟩ | ⟨kvs,e,g⟩ | ⟨kvs,e,g⟩
 ·rcases sq with sq | sq
  ·obtain⟨its,rv,pl,hz⟩:=I.list sq
   refine⟨vs,its,g,rv,by rw[<-rv.length];exact hz,λR E k=>collect_list pl.isList (k _ s.toks λb o e=>?_) (by rw[<-rv.length];exact hz)⟩;rw[XO _ _ _ _ (Aq (Ai e))];exact AJ _ e
  ·obtain⟨its,rv,⟨o,ho,hcl,n,hd⟩,hz⟩:=I.tuple sq
   have hz':its.length<=sizeLine:=by rw[<-rv.length];exact hz
   exact⟨vs,its,g,rv,hz',λR E k=>wpAny_collect_seq p (.inr rfl) ho hcl hd (λh' kp=>by simpa using k h' s.toks kp) (by simpa using hz')⟩
 ·obtain⟨hz,sm,us,kv,o,es,ep,g1,g2,g3,g5,g6,_⟩:=(show CU X.prog X.w H s.heap p (.dK kvs)from I.hok p _ e)
  have hlen:es.size=kvs.length:=by
   have a1:=g6.length;have a2:kvs.length=us.length:=Dz kv;rw[Bd]at a1
   lia
  have hv:Bk (kvs.map λx=>kV x.1) (es.toList.map (·.key)):=by
   have key:∀{l:List IN} {us:List (Key×AE)} {kvs:List (Key×V)},Pairs (Cv X.prog X.w) l us->KV kvs us->Bk (kvs.map λx=>kV x.1) (l.map (·.key)):=by
    intro l us kvs hp
    induction hp generalizing kvs with
    | nil=>intro h;cases h;exact .nil
    | cons q1 q2 _ ih=>
     intro h
     cases h with
     | cons r t=>
      refine .cons ?_ (ih t);dsimp only;rw[r.1]
      rcases C4 q1 with⟨i,t,e1,e2⟩ | ⟨x,t,e1,e2⟩
      ·rw[e1,e2];exact⟨t,rfl⟩
      ·rw[e1,e2];exact⟨t,rfl⟩
   exact key g6 kv
  refine⟨_,es.toList.map (·.key),g,hv,by rw[AC,Bd,hlen];exact hz,λR E k=>?_⟩
  refine Uf (Srt.WY (es:=es) (ep:=ep) sm) hh ⟨o,g1,g2,g3⟩ (by rw[hlen];exact hz) λg' tk acc kp ac=>?_
  have:acc.toList=es.toList.map (·.key):=by
   apply DN
   intro j
   by_cases hj:j < es.size
   ·have hj2:j < acc.size:=by rw[ac.1];exact hj
    obtain⟨_,e2⟩:=ac.2 j acc[j] (by simp[hj2]);simp[hj,hj2,e2]
   ·have hj2:¬j < acc.size:=by rw[ac.1];exact hj
    simp[hj,hj2]
  rw[this];exact k g' tk kp
 ·obtain⟨hz,sm,xs,rr,o,es,ep,g1,g2,g3,g4,_⟩:=(show CU X.prog X.w H s.heap p (.dT kvs)from I.hok p _ e)
  have hlen:es.size=kvs.length:=by
   have a1:=congrArg Gh g4;have a2:kvs.length=xs.length:=Dz rr;rw[Bd,AC]at a1
   lia
  have hb:FZ (λ(k:List Key×V) b=>H b=some (.tup (k.1.map kV))) kvs (xs.map (·.2.1)):=by
   have key:∀{kvs:List (List Key×V)} {xs:List (List Key×AK×AE)},FZ (λ(p:List Key×V) (q:List Key×AK×AE)=>p.1=q.1/\H q.2.1=some (.tup (p.1.map kV))/\RelV p.2 q.2.2) kvs xs->FZ (λ(k:List Key×V) b=>H b=some (.tup (k.1.map kV))) kvs (xs.map (·.2.1)):=by
    intro kvs xs h
    induction h with
    | nil=>exact .nil
    | cons r _ ih=>exact .cons r.2.1 ih
   exact key rr
  have hk:es.toList.map (·.key)=(xs.map (·.2.1)).map BB:=by
   rw[g4,Ax,Ax];rfl
  have hv:∀l:List AK,Bk (l.map V.ref) (l.map BB):=λl=>by
   induction l with
   | nil=>exact .nil
   | cons a l ih=>exact .cons rfl ih
  refine⟨_,(xs.map (·.2.1)).map BB,g _ hb,hv _,by rw[AC,AC,<-Dz rr];exact hz,λR E k=>?_⟩
  refine Uf (Srt.WY (es:=es) (ep:=ep) sm) hh ⟨o,g1,g2,g3⟩ (by rw[hlen];exact hz) λg' tk acc kp ac=>?_
  have:acc.toList=(xs.map (·.2.1)).map BB:=by
   rw[<-hk]
   apply DN
   intro j
   by_cases hj:j < es.size
   ·have hj2:j < acc.size:=by rw[ac.1];exact hj
    obtain⟨_,e2⟩:=ac.2 j acc[j] (by simp[hj2]);simp[hj,hj2,e2]
   ·have hj2:¬j < acc.size:=by rw[ac.1];exact hj
    simp[hj,hj2]
  rw[this];exact k g' tk kp
def Tt{X:Cx}{s:AG}{H:Hp}{f:V->List Int}{vs:List V}{its:List AE}(I:∀b xs,H b=some (.tup xs)->∃is:List AE,Bk xs is/\IsTup s.heap b is.toArray)(h:Re H f vs)(rv:Bk vs its)(h2:2<=its.length){A:BC}:Srt.Sv X.prog X.w A s its (Xj H):=by
 rcases id h with hi | ht
 ·have:∃ns,IntsAre its ns:=by
   have key:∀{vs:List V} {its:List AE},Bk vs its->(∀v∈vs,∃n,v=.int n/\f v=[n])->∃ns,IntsAre its ns:=by
    intro vs its r
    induction r with
    | nil=>exact λ_=>⟨[],.nil⟩
    | cons r _ ih=>
     intro hv
     obtain⟨ns,hns⟩:=ih λv hv'=>hv v (Aj _ hv')
     obtain⟨n,rfl,_⟩:=hv _ A1;obtain⟨t,rfl⟩:=r;exact⟨n :: ns,.cons n t hns⟩
   exact key rv hi
  obtain⟨ns,hns⟩:=this;obtain⟨κ,k1,k2⟩:=Srt.Xf (prog:=X.prog) (w:=X.w) (A:=A) (s:=s) hns h2;refine⟨κ,k1,λx y hx hy Q E q=>k2 x y hx hy Q E ?_⟩;obtain⟨n,t,e1⟩:=hns.all _ (Srt.HI hx).1;obtain⟨m,u,e2⟩:=hns.all _ (Srt.HI hy).1
  have e:Srt.ltK Srt.Z2 x y=Srt.ltK (Xj H) x y:=by
   unfold Srt.ltK Srt.Z2;rw[e1,e2];rfl
  rw[e];exact q
 ·refine Srt.Xe (λu hu=>?_) (by intro e;subst e;simp at h2)
  obtain⟨v,hv,r⟩:=Ph rv hu;rw[h.rel v hv u r];obtain⟨b,rfl,e,ne⟩:=ht v hv;cases r;refine⟨⟨b,?_⟩,ne⟩;obtain⟨is,r,o,ho,hcl,n,hd⟩:=I b _ e;exact⟨is.toArray,rfl,⟨o,ho,hcl,n,hd⟩,by simpa using intsAre_of r⟩
def YZ{X:Cx}(hc:X.calm=true):Ij X (.builtin "sorted") (lU X.K):=by
 intro ζ s σ H xs us Q I r h;obtain⟨p,rfl,src⟩:=h;obtain⟨u,rfl,rx⟩:=vals1 r;cases rx;obtain⟨vs,its,⟨f,rows,q⟩,rv,hz,col⟩:=Th hc I src;refine Calls.call_function_entry kind_sorted plain_sorted entry_sorted (args_sorted1 _) ?_;unfold Builtin.«sorted»;refine AH (m:=checkCount "sorted" 1 1 _) (AY (AH (col _ _ λg tk kp=>?_)));refine AH (wpAny_newList ?_ hz);have I1:Inv X ζ σ H { s with heap:=g,toks:=tk }:=I.kept kp;have hl:(g.push (JG "list" its.toArray 0)).get? g.objs.size=some (JG "list" its.toArray 0):=Ak _ rfl;refine AH (W9 (Ep slot_list_sort ⟨_,hl,rfl⟩ entry_list_sort (Srt.Qt (f:=Xj H) hl hz (λh2 s' keep=>?_) λout po so=>⟨_,rfl,AY ⟨_,rfl,?_⟩⟩) (args_list_sort _)))
 ·refine Tt (λb xs e=>?_) rows rv h2
  obtain⟨_,is,r,o,ho,hcl,n,hd⟩:=(show CU X.prog X.w H g b (.tup xs)from I1.hok b _ e);exact⟨is,r,o,keep b o (Aq (Ai ho)) (AJ _ ho),hcl,n,hd⟩
 ·obtain⟨vo,ro,pv⟩:=T5 po.symm rv
  have so':vo.Pairwise (λx y=>ltL (f y) (f x)=false):=by
   have e:out.toList.map (Xj H)=vo.map f:=Mj ro λa ha b rb=>rows.rel a (pv.mem_iff.mp ha) b rb
   have:=(Bv (f:=Xj H) (R:=λx y=>ltL y x=false)).mpr so;rw[e]at this;exact Bv.mp this
  obtain⟨k,hk⟩:=sortedHeap_at (out:=out) hl
  have hlen:vo.length<=sizeLine:=by rw[pv.length_eq,rv.length];exact hz
  have I2:=I1.laid (a:=g.objs.size) (o:=.lst vo) (t':=tk) (h':=gv (g.push (JG "list" its.toArray 0)) g.objs.size its out)
   (λb u z=>by
    have lt:b < g.objs.size:=Ai z;rw[sortedHeap_old (Aq lt) (by rw[size_push'];exact HC lt)]
    exact AJ _ z) (AQ _) ⟨hlen,out.toList,k,ro,hk⟩
  exact⟨.ref g.objs.size,_,I2,rfl,q vo pv so' _ (I1.hok.fresh (AQ _))⟩
def C1(ns:List Int):List Int:=ns.mergeSort (λa b=>decide (a<=b))
@[simp] def RE:C1 []=[]:=by unfold C1;simp
def Dc(ns:List Int):(C1 ns).Perm ns:=XH ns _
def IT(ns:List Int):(C1 ns).Pairwise (·<=·):=by
 have:=TN (le:=λa b:Int=>decide (a<=b)) (by intro a b c h1 h2;simp at h1 h2 ⊢;lia) (by intro a b;simp;lia) ns
 exact this.imp λh=>by simpa using h
def Gk(rs:List (List Int)):List (List Int):=rs.mergeSort (λa b=>!ltL b a)
def Du(rs:List (List Int)):(Gk rs).Perm rs:=XH rs _
def MZ(rs:List (List Int)):(Gk rs).Pairwise (λa b=>ltL b a=false):=by
 have:=TN (le:=λa b:List Int=>!ltL b a) (by intro a b c h1 h2;simp at h1 h2 ⊢;exact Srt.SS _ _ _ h1 h2) (by
  intro a b
  cases e:ltL b a with
  | false=>simp
  | true=>simp[Srt.Pw _ _ e]) rs
 exact this.imp λh=>by simpa using h
def RD{l l':List (List Int)}(p:l.Perm l')(h:l.Pairwise (λa b=>ltL b a=false))(h':l'.Pairwise (λa b=>ltL b a=false)):l=l':=
 p.eq_of_pairwise (λa b _ _ h1 h2=>Srt.Wg a b h2 h1) h h'
def Vf:Key->D
 | .inl i=>.int i
 | .inr x=>.str x
def HM(d:D)(S:Sto):Option (List D):=match d with
 | .fro ds=>some ds
 | .tup ds=>some ds
 | .ref n=>match S[n]? with
  | some (.lst ds)=>some ds
  | some (.dK kvs)=>some (kvs.map λx=>Vf x.1)
  | some (.dT kvs)=>some (kvs.map λx=>.tup (x.1.map Vf))
  | _=>none
 | _=>none
def B8(r:List Int):D:=.tup (r.map D.int)
def Kd:List D->Option (List (List Int))
 | []=>some []
 | .tup ds :: r=>match G8 ds,Kd r with
  | some (n :: ns),some rs=>some ((n :: ns) :: rs)
  | _,_=>none
 | _ :: _=>none
def Jd(ds:List D):Option (List D):=match G8 ds with
 | some ns=>some ((C1 ns).map D.int)
 | none=>match Kd ds with
  | some rs=>some ((Gk rs).map B8)
  | none=>none
def Ch(m:ME):ME:=λe S=>(m e S).bind λd S1=>match HM d S1 with
 | some ds=>match Jd ds with
  | some es=>.ok (.ref S1.length) (S1++[.lst es])
  | none=>.bad
 | none=>.bad
section
variable{X:Cx}{E:EW}{e:Expr}{p pos:Pos}{m:ME}
def eV(x y:Int):ltL [y] [x]=decide (y < x):=by
 show(if y=x then false else decide (y < x))=_;split
 ·rename_i e;simp[e]
 ·rfl
def Qn(H:Hp):V->List Int
 | .int n=>[n]
 | .ref b=>match H b with
  | some (.tup xs)=>xs.map Qs
  | _=>[]
 | _=>[]
def Tu{K:AA}{ρ:List AK}{H:Hp}:∀{ds:List D} {rs:List (List Int)} {vs:List V},Kd ds=some rs->A0 K ρ H ds vs->vs.map (Qn H)=rs/\∀v∈vs,∃b,v=.ref b/\H b=some (.tup ((Qn H v).map V.int))/\Qn H v≠[]
 | [],_,_,h,.nil=>by cases h;exact⟨rfl,λv hv=>nomatch hv⟩
 | .tup ts :: ds,rs,_,h,.cons r t=>by
  unfold Kd at h;split at h
  ·rename_i n ns rs' h1 h2
   cases h;obtain⟨i1,i2⟩:=Tu h2 t
   cases r with
   | @tup _ b ws hb rr=>
    have:=Kq h1;subst this;have:=rr.ints;subst this
    have e:Qn H (.ref b)=n :: ns:=by
     show(match H b with | some (.tup xs)=>xs.map Qs | _=>[])=_;rw[hb];exact Nb _
    refine⟨by rw[A5,e,i1],λv hv=>?_⟩
    rcases Aw.mp hv with hv | hv
    ·subst hv
     refine⟨b,rfl,?_,?_⟩
     ·rw[e];exact hb
     ·rw[e];exact List.cons_ne_nil _ _
    ·exact i2 v hv
  ·cases h
 | .non :: _,_,_,h,_=>by cases h
 | .bl _ :: _,_,_,h,_=>by cases h
 | .int _ :: _,_,_,h,_=>by cases h
 | .str _ :: _,_,_,h,_=>by cases h
 | .fro _ :: _,_,_,h,_=>by cases h
 | .ref _ :: _,_,_,h,_=>by cases h
 | .exc _ :: _,_,_,h,_=>by cases h
def Tx{K:AA}{ρ:List AK}{H:Hp}:∀{vs:List V},(∀v∈vs,∃b,v=.ref b/\H b=some (.tup ((Qn H v).map V.int))/\Qn H v≠[])->A0 K ρ H ((vs.map (Qn H)).map B8) vs
 | [],_=>.nil
 | v :: vs,h=>by
  obtain⟨b,e,hb,_⟩:=h v A1;refine .cons ?_ (Tx λu hu=>h u (Aj _ hu));subst e;exact .tup hb (A0.of_ints _)
def ZW{K:AA}{ρ:List AK}{H:Hp}{ds es:List D}{vs:List V}(h:Jd ds=some es)(r:A0 K ρ H ds vs) :
  ∃f:V->List Int,Re H f vs/\∀out,out.Perm vs->out.Pairwise (λx y=>ltL (f y) (f x)=false)->A0 K ρ H es out:=by
 unfold Jd at h;split at h
 ·rename_i ns hz
  cases h;have:=Kq hz;subst this;have:=r.ints;subst this;refine⟨λv=>[Qs v],.inl λv hv=>?_,λout po so=>?_⟩
  ·obtain⟨n,_,rfl⟩:=Ag.mp hv
   exact⟨n,rfl,rfl⟩
  ·have e1:out=(out.map Qs).map V.int:=by
    rw[Ax]
    conv=>lhs;rw[<-Oy out]
    refine CG λv hv=>?_
    obtain⟨n,_,rfl⟩:=Ag.mp (po.mem_iff.mp hv);rfl
   have e2:out.map Qs=C1 ns:=by
    have p1:(out.map Qs).Perm (C1 ns):=by
     have:=po.map Qs;rw[Nb]at this;exact this.trans (Dc ns).symm
    refine p1.eq_of_pairwise (λa b _ _ h1 h2=>IM h1 h2) ?_ (IT ns);rw[Bv]
    refine so.imp λ{x y} hxy=>?_
    rw[eV]at hxy;simp at hxy;exact hxy
   rw[e1,e2];exact A0.of_ints _
 ·split at h
  ·rename_i rs hr
   cases h;obtain⟨i1,i2⟩:=Tu hr r;refine⟨Qn H,.inr i2,λout po so=>?_⟩
   have e2:out.map (Qn H)=Gk rs:=by
    refine RD ?_ (Bv.mpr so) (MZ rs);have:=po.map (Qn H);rw[i1]at this;exact this.trans (Du rs).symm
   rw[<-e2]
   exact Tx λv hv=>i2 v (po.mem_iff.mp hv)
  ·cases h
def P0{K:AA}{ρ:List AK}{H:Hp}:∀ks:List Key,A0 K ρ H (ks.map Vf) (ks.map kV)
 | []=>.nil
 | .inl i :: ks=>.cons (.int i) (P0 ks)
 | .inr x :: ks=>.cons (.str x) (P0 ks)
def Mu{K:AA}{ρ:List AK}{H:Hp}:∀{kvs:List (Key×D)} {kvs':List (Key×V)},KVR K ρ H kvs kvs'->A0 K ρ H (kvs.map λx=>Vf x.1) (kvs'.map λx=>kV x.1)
 | _,_,.nil=>.nil
 | (k,_) :: _,(k',_) :: _,.cons r t=>by
  have e:k=k':=r.1;subst e
  cases k with
  | inl i=>exact .cons (.int i) (Mu t)
  | inr x=>exact .cons (.str x) (Mu t)
def Pz{K:AA}{ρ:List AK}{H:Hp}:∀{kvs:List (List Key×D)} {kvs':List (List Key×V)} {bs:List AK},KVR K ρ H kvs kvs'->FZ (λ(k:List Key×V) b=>H b=some (.tup (k.1.map kV))) kvs' bs->A0 K ρ H (kvs.map λx=>.tup (x.1.map Vf)) (bs.map V.ref)
 | _,_,_,.nil,.nil=>.nil
 | (k,_) :: _,(k',_) :: _,_,.cons r t,.cons r2 t2=>by
  have e:k=k':=r.1;subst e;exact .cons (.tup r2 (P0 k)) (Pz t t2)
def En(hc:X.calm=true)(hg:Gl X "sorted") (hm:X.mg "sorted" = none) (h:GE X E e m) (he:AS [e] X.env=(false,Bw e X.env) :: AS [] X.env:=by rfl):GE X E (.Call (.Name "sorted" p) [e] [] pos) (Ch m):=
 (Kf (YZ hc) hg hm nK (FS h Hq he) (by decide) (by decide) he rfl).imp λσ H Q ⟨ρ,l,S,hl,hs,hm⟩=>by
 refine⟨ρ,l,S,hl,hs,hm.seq λd S1 hm ρ1 H1 x l1 s1 r1=>?_⟩
 cases hq:HM d S1 with
 | none=>rw[hq]at hm;exact hm.elim
 | some ds=>
  rw[hq]at hm;dsimp only at hm
  cases hi:Jd ds with
  | none=>rw[hi]at hm;exact hm.elim
  | some es=>
   rw[hi]at hm
   have fin:∀vs:List V,A0 X.K ρ1 H1 es vs->∀q,H1 q=none->Q (.ref q) (upd H1 q (.lst vs)):=λvs rr q hq=>by
    have le:Le X.K ρ1 H1 (ρ1++[q]) (upd H1 q (.lst vs)):=Le.alloc hq;obtain⟨s4,l4,at4⟩:=s1.alloc (ho:=.lst vs) (o:=.lst es) hq ⟨_,Bm,rr.mono le⟩;exact hm _ _ _ (l1.trans l4) s4 (.ref at4)
   have out:∀vs,A0 X.K ρ1 H1 ds vs->∃f:V->List Int,Re H1 f vs/\∀out,out.Perm vs->out.Pairwise (λx y=>ltL (f y) (f x)=false)->∀l,H1 l=none->Q (.ref l) (upd H1 l (.lst out)):=λvs rr=>by
    obtain⟨f,k1,k2⟩:=ZW hi rr;exact⟨f,k1,λout po so=>fin out (k2 out po so)⟩
   cases r1 with
   | fro h1 h2=>cases hq;exact⟨_,rfl,.inl ⟨_,.inl h1.sq,out _ h2⟩⟩
   | tup h1 h2=>cases hq;exact⟨_,rfl,.inl ⟨_,.inr (.inl (.inl h1)),out _ h2⟩⟩
   | @ref n a hn=>
    obtain⟨o,ho,ro⟩:=s1.there hn;unfold HM at hq;simp only[ho]at hq
    cases o with
    | lst ys=>cases hq;obtain⟨vs,e,rr⟩:=ro;exact⟨_,rfl,.inl ⟨vs,.inl (.inl (.inl e)),out _ rr⟩⟩
    | dK kvs=>cases hq;obtain⟨vs,e,rr⟩:=ro;exact⟨_,rfl,.inr (.inl ⟨vs,e,out _ (Mu rr)⟩)⟩
    | dT kvs=>cases hq;obtain⟨vs,e,rr⟩:=ro;exact⟨_,rfl,.inr (.inr ⟨vs,e,λbs hb=>out _ (Pz rr hb)⟩)⟩
    | ins C fs=>cases hq
    | fK _=>cases hq
    | fT _=>cases hq
   | _=>cases hq
end
end L2
namespace L2
open PySem PySem.Spec PyProof.Rows
def SX{K:AA}{t:String}(h:∀A∈["NoneType", "bool", "int", "str", "tuple", "list", "dict"],Db K (.type A) (.type t)=gg t A):∀A b,isB t A=some b->Db K (.type A) (.type t)=some b:=λA b e=>by
 unfold isB at e;split at e
 ·rename_i hA
  rw[h A (by simpa using hA)];exact e
 ·cases e
def RS{K:AA}:∀A b,isB "tuple" A=some b->Db K (.type A) (.type "tuple")=some b:=SX λA h=>by
 simp only[Aw,Bl,or_false]at h
 rcases h with rfl | rfl | rfl | rfl | rfl | rfl | rfl <;> kernel_rfl
def ab{K:AA}:∀A b,isB "list" A=some b->Db K (.type A) (.type "list")=some b:=SX λA h=>by
 simp only[Aw,Bl,or_false]at h
 rcases h with rfl | rfl | rfl | rfl | rfl | rfl | rfl <;> kernel_rfl
def ef{K:AA}:∀A b,isB "int" A=some b->Db K (.type A) (.type "int")=some b:=SX λA h=>by
 simp only[Aw,Bl,or_false]at h
 rcases h with rfl | rfl | rfl | rfl | rfl | rfl | rfl <;> kernel_rfl
def ae{K:AA}:∀A b,isB "bool" A=some b->Db K (.type A) (.type "bool")=some b:=SX λA h=>by
 simp only[Aw,Bl,or_false]at h
 rcases h with rfl | rfl | rfl | rfl | rfl | rfl | rfl <;> kernel_rfl
def ZV(K:AA):Sp:=λvs H Q _=>∃(a:AK) (ns:List Int),vs=[.ref a]/\Q0 K H a (ns.map V.int)/\ns.length<=63/\∀H',Q (.bl true) H'
def aT{P:Al}{w:BE}{K:AA}{mg:Str->Option AE}{base:B7}{k:Nat}{fa:AK}{fd:Dg}{f:List D->Sto->Res D}(F:Dh P w K mg base (CXG P w) k fa fd ["script"] (spM K 1 f))
  (h:∀ns:List Int,ns.length<=63->∃S',f [.fro (ns.map D.int)] []=.ok (.bl true) S'):Dh P w K mg base (CXG P w) k fa fd ["script"] (ZV K):=F.imp λvs H Q E ⟨a,ns,e,hS,hl,q⟩=>by
 subst e;obtain⟨S',e⟩:=h ns hl;refine⟨[],[.fro (ns.map D.int)],[],rfl,.cons (.fro hS (A0.of_ints ns)) .nil,⟨rfl,λi j a hi=>by simp at hi,λn o a hn=>by simp at hn⟩,?_⟩;rw[e]
 exact λρ' H' x _ _ r=>by cases r;exact q H'
def j8{K:AA}{H:Hp}{a:AK}{ns:List Int}(hO:fx H)(hS:SqL K H a (ns.map V.int)):Q0 K H a (ns.map V.int):=by
 rcases hS with(h | h) | h
 ·rcases hO a with z | ⟨o,xs,z⟩ <;> rw[z]at h <;> cases h
 ·exact .inl h
 ·exact .inr h
def kF{P:Al}{w:BE}{H:Hp}{s:AG}{e:AE}{s':AG}(h:CXG P w [] H s (λ_ _ _=>False) e s'):False:=by
 obtain⟨_,_,_,_,_,_,_,_,_,z⟩:=h;exact z
end L2
namespace L2
open PySem
def gn(I:Lo->Sto->Prop)(R:Fl->Sto->Prop)(f:Fl)(S:Sto):Prop:=match f with
 | .nx e=>I e S
 | .ct e=>I e S
 | .bk e=>R (.nx e) S
 | .rt d=>R (.rt d) S
 | .ex c e=>R (.ex c e) S
def fD{v:IF}{g:MG}{b:MS}{xs:List D}(I:Nat->Lo->Sto->Prop)(R:Fl->Sto->Prop)(hv:∀i e S,I i e S->v S=some xs)
  (step:∀i d e S,xs[i]?=some d->I i e S->∃e1 S1,g d e S=.ok e1 S1/\∃f S2,b e1 S1=.ok f S2/\gn (I (i+1)) R f S2)
  (fin:∀e S,I xs.length e S->R (.nx e) S):∀(k i:Nat) (e:Lo) (S:Sto),I i e S->i<=xs.length->xs.length<=i+k->∃f S',Jl v g b k i e S=.ok f S'/\R f S':=by
 intro k
 induction k with
 | zero=>
  intro i e S h h1 h2
  have:i=xs.length:=by lia
  subst this;refine⟨.nx e,S,?_,fin e S h⟩;unfold Jl;rw[hv _ e S h];simp
 | succ k ih=>
  intro i e S h h1 h2;unfold Jl;rw[hv _ e S h];dsimp only
  by_cases hi:i < xs.length
  ·have hd:xs[i]?=some xs[i]:=by simp[hi]
   rw[hd];dsimp only;obtain⟨e1,S1,q1,f,S2,q2,t⟩:=step i _ e S hd h;rw[q1];dsimp only[Res.bind];rw[q2];dsimp only[Res.bind]
   cases f with
   | nx e2=>exact ih (i+1) e2 S2 t (by lia) (by lia)
   | ct e2=>exact ih (i+1) e2 S2 t (by lia) (by lia)
   | bk e2=>exact⟨_,_,rfl,t⟩
   | rt d=>exact⟨_,_,rfl,t⟩
   | ex c e2=>exact⟨_,_,rfl,t⟩
  ·have:i=xs.length:=by lia
   subst this;rw[show xs[xs.length]?=none by simp];exact⟨.nx e,S,rfl,fin e S h⟩
def GP{v:IF}{g:MG}{b:MS}{xs:List D}{e:Lo}{S:Sto}(I:Nat->Lo->Sto->Prop)(R:Fl->Sto->Prop)(h0:I 0 e S)(hv:∀i e S,I i e S->v S=some xs)
  (step:∀i d e S,xs[i]?=some d->I i e S->∃e1 S1,g d e S=.ok e1 S1/\∃f S2,b e1 S1=.ok f S2/\gn (I (i+1)) R f S2)
  (fin:∀e S,I xs.length e S->R (.nx e) S):∃f S',Jl v g b (Cp v S) 0 e S=.ok f S'/\R f S':=by
 have hl:Cp v S=xs.length:=by unfold Cp;rw[hv 0 e S h0]
 rw[hl];exact fD I R hv step fin _ _ _ _ h0 (Cr _) (by lia)
def bO{v:IF}{g:MG}{c:MT}{m:ME}{xs:List D}(I:Nat->Lo->Sto->List D->Prop)(hv:∀i e S acc,I i e S acc->v S=some xs)
  (step:∀i d e S acc,xs[i]?=some d->I i e S acc->acc.length < sizeLine/\∃e1 S1,g d e S=.ok e1 S1/\∃b S2,c e1 S1=.ok b S2/\((b=true/\∃y S3,m e1 S2=.ok y S3/\I (i+1) e1 S3 (acc++[y]))∨(b=false/\I (i+1) e1 S2 acc))) :
  ∀(k i:Nat) (e:Lo) (S:Sto) (acc:List D),I i e S acc->i<=xs.length->xs.length<=i+k->∃r S',FY v g c m k i e S acc=.ok r S'/\∃e',I xs.length e' S' r:=by
 intro k
 induction k with
 | zero=>
  intro i e S acc h h1 h2
  have:i=xs.length:=by lia
  subst this;refine⟨acc,S,?_,e,h⟩;unfold FY;rw[hv _ e S acc h];simp
 | succ k ih=>
  intro i e S acc h h1 h2;unfold FY;rw[hv _ e S acc h];dsimp only
  by_cases hi:i < xs.length
  ·have hd:xs[i]?=some xs[i]:=by simp[hi]
   rw[hd];dsimp only;obtain⟨hz,e1,S1,q1,b,S2,q2,t⟩:=step i _ e S acc hd h;rw[qX hz,q1];dsimp only[okR,Res.bind];rw[q2];dsimp only[okR,Res.bind]
   rcases t with⟨rfl,y,S3,q3,t⟩ | ⟨rfl,t⟩
   ·rw[qX rfl,q3]
    exact ih (i+1) e1 S3 _ t (by lia) (by lia)
   ·rw[qY AZ]
    exact ih (i+1) e1 S2 acc t (by lia) (by lia)
  ·have:i=xs.length:=by lia
   subst this;rw[show xs[xs.length]?=none by simp];exact⟨acc,S,rfl,e,h⟩
def M4{v:IF}{g:MG}{c:MT}{m:ME}{xs:List D}{e:Lo}{S:Sto}(I:Nat->Lo->Sto->List D->Prop)(h0:I 0 e S [])(hv:∀i e S acc,I i e S acc->v S=some xs)
  (step:∀i d e S acc,xs[i]?=some d->I i e S acc->acc.length < sizeLine/\∃e1 S1,g d e S=.ok e1 S1/\∃b S2,c e1 S1=.ok b S2/\((b=true/\∃y S3,m e1 S2=.ok y S3/\I (i+1) e1 S3 (acc++[y]))∨(b=false/\I (i+1) e1 S2 acc))) :
  ∃r S',FY v g c m (Cp v S) 0 e S []=.ok r S'/\∃e',I xs.length e' S' r:=by
 have hl:Cp v S=xs.length:=by unfold Cp;rw[hv 0 e S [] h0]
 rw[hl];exact bO I hv step _ _ _ _ _ h0 (Cr _) (by lia)
def aP{j:Int}(h:-1000000<=j):-(2 ^ 62)<=j:=Int.le_trans (by decide) h
def am{j:Int}(h:j<=1000000):j < 2 ^ 62:=Y2 h (by decide)
def Lx{ml:ML}{e:Lo}{S S1:Sto}{j:Int}(h:ml e S=.ok [.int j] S1)(h0:-1000000<=j)(h1:j<=1000000):iR1 ml e S=.ok (D0 (C2 0 j.toNat)) S1:=by
 unfold iR1;rw[h];dsimp only[Res.bind];rw[qX ⟨aP h0,am h1⟩]
def jt{ml:ML}{e:Lo}{S S1:Sto}{i j:Int}(h:ml e S=.ok [.int i,.int j] S1)(h0:-1000000<=i)(h1:i<=1000000)(h2:-1000000<=j)(h3:j<=1000000):iR2 ml e S=.ok (D0 (C2 i (j - i).toNat)) S1:=by
 unfold iR2;rw[h];dsimp only[Res.bind];rw[qX ⟨aP h0,am h1,aP h2,am h3⟩]
def IJ(lo:Int)(n:Nat):(C2 lo n).length=n:=by simp[C2]
def Jf{lo:Int}{n i:Nat}{d:D}(h:(C2 lo n)[i]?=some d):i < n/\d=.int (lo+i):=by
 rw[NW]at h;split at h
 ·rename_i hi
  cases h;exact⟨hi,rfl⟩
 ·cases h
def QB{i j:Int}{S:Sto}(h:0 < j)(h1:j<=1000000):M2 (.int i) (.int j) S=.ok (.int (i / j)) S:=by
 show(if gB i j then _ else _)=_;rw[qX ⟨h,by lia⟩]
def D8{i j:Int}{S:Sto}(h:0 < j):D6 (.int i) (.int j) S=.ok (.int (i % j)) S:=by
 show(if 0 < j then _ else _)=_;rw[qX h]
def BO{f:D->D->Sto->Res D}{ma mb:ME}{e:Lo}{S S1 S2 S3:Sto}{x y d:D}(ha:ma e S=.ok x S1)(hb:mb e S1=.ok y S2)(hf:f x y S2=.ok d S3):m2 f ma mb e S=.ok d S3:=by
 unfold m2;rw[ha];dsimp only[Res.bind];rw[hb];dsimp only[Res.bind];rw[hf];rfl
def DG{m:ME}{e:Lo}{S S1:Sto}{d:D}{i:Nat}(h:m e S=.ok d S1):Bj i m e S=.ok (.nx (e.set i (some d))) S1:=by
 unfold Bj Ts;rw[h];rfl
def Gn{m:ME}{e:Lo}{S S1:Sto}{d:D}(h:m e S=.ok d S1):DH m e S=.ok (.rt d) S1:=by
 unfold DH;rw[h];rfl
def DV{m:ME}{e:Lo}{S S1:Sto}{d:D}(h:m e S=.ok d S1):CH m e S=.ok (.nx e) S1:=by
 unfold CH;rw[h];rfl
def EU{t:MT}{a b:MS}{e:Lo}{S S1:Sto}{c:Bool}(h:t e S=.ok c S1):sIf t a b e S=if c=true then a e S1 else b e S1:=by
 unfold sIf;rw[h];rfl
def Et{m:MI}{g:MG}{b:MS}{e:Lo}{S S1:Sto}{v:IF}(h:m e S=.ok v S1):GK m g b e S=Jl v g b (Cp v S1) 0 e S1:=by
 unfold GK;rw[h];rfl
def B6{n:Nat}{f:List D->Sto->Res D}{m:ML}{e:Lo}{S S1:Sto}{ds:List D}(h:m e S=.ok ds S1)(hn:ds.length=n):BI n f m e S=f ds S1:=by
 unfold BI;rw[h];dsimp only[Res.bind];rw[qX hn]
def A9{a b:MS}{e e1:Lo}{S S1:Sto}(h:a e S=.ok (.nx e1) S1):BF a b e S=b e1 S1:=by unfold BF;rw[h];rfl
def NU{a b:MS}{e:Lo}{S S1:Sto}{d:D}(h:a e S=.ok (.rt d) S1):BF a b e S=.ok (.rt d) S1:=by unfold BF;rw[h];rfl
def Keeps(S S':Sto):Prop:=S.length<=S'.length/\∀j,j < S.length->S'[j]?=S[j]?
def Keeps.refl(S:Sto):Keeps S S:=⟨AQ _,λ_ _=>rfl⟩
def Keeps.trans{S S1 S2:Sto}(a:Keeps S S1)(b:Keeps S1 S2):Keeps S S2:=⟨At a.1 b.1,λj h=>(b.2 j (Ab h a.1)).trans (a.2 j h)⟩
def Keeps.app(S:Sto)(G:Sto):Keeps S (S++G):=⟨by simp,λj h=>Aa h⟩
def Keeps.set{S S1:Sto}(a:Keeps S S1){m:Nat}(h:S.length<=m)(o:Ob):Keeps S (S1.set m o):=⟨by simpa using a.1,λj hj=>by rw[AW (by lia)];exact a.2 j hj⟩
def Keeps.at{S S1:Sto}(a:Keeps S S1){j:Nat}{o:Ob}(h:S[j]?=some o):S1[j]?=some o:=by
 rw[a.2 j (AF.mp h).1];exact h
def Ig{mo ma:ME}{e:Lo}{S S1 S2:Sto}{n:Nat}{xs xs2:List D}{y:D}(h1:mo e S=.ok (.ref n) S1)(h2:S1[n]?=some (.lst xs))(h3:ma e S1=.ok y S2)(h4:S2[n]?=some (.lst xs2))(h5:xs2.length < sizeLine) :
  FU mo ma e S=.ok .non (S2.set n (.lst (xs2++[y]))):=by
 unfold FU;rw[h1];dsimp only[Res.bind];rw[h2];dsimp only;rw[h3];dsimp only[Res.bind];rw[h4];dsimp only;rw[qX h5]
def YR{mo ma:ME}{e:Lo}{S S1 S2:Sto}{n k:Nat}{xs xs2 ys:List D}(h1:mo e S=.ok (.ref n) S1)(h2:S1[n]?=some (.lst xs))(h3:ma e S1=.ok (.ref k) S2)(h4:S2[n]?=some (.lst xs2))(h5:S2[k]?=some (.lst ys))(hk:k≠n)(h6:xs2.length+ys.length<=sizeLine) :
  Mr mo ma e S=.ok .non (S2.set n (.lst (xs2++ys))):=by
 unfold Mr;rw[h1];dsimp only[Res.bind]
 have a1:atL (.ref n) S1=some (n,xs):=by unfold atL;dsimp only;rw[h2]
 have a2:atL (.ref n) S2=some (n,xs2):=by unfold atL;dsimp only;rw[h4]
 have a3:atL (.ref k) S2=some (k,ys):=by unfold atL;dsimp only;rw[h5]
 rw[a1];dsimp only;rw[h3];dsimp only[Res.bind];rw[a2,a3];dsimp only;rw[qX ⟨hk,h6⟩]
def DW{n:Nat}{S:Sto}{xs:List D}(h:S[n]?=some (.lst xs)):Ea (.ref n) S=some xs:=by
 unfold Ea Ny;dsimp only;rw[h]
def Fo{m:ME}{e:Lo}{S S1:Sto}{n:Nat}{xs:List D}(h:m e S=.ok (.ref n) S1)(hx:S1[n]?=some (.lst xs)):D7 m e S=.ok (Ea (.ref n)) S1:=by
 unfold D7;rw[h];dsimp only[Res.bind];rw[DW hx]
def M0{m:ME}{e:Lo}{S S1:Sto}{xs:List D}(h:m e S=.ok (.tup xs) S1):D7 m e S=.ok (D0 xs) S1:=by
 unfold D7;rw[h];rfl
def J2{ml:ML}{e:Lo}{S S1:Sto}{ds:List D}(h:ml e S=.ok ds S1):Cq ml e S=.ok (.ref S1.length) (S1++[.lst ds]):=by
 unfold Cq;rw[h];rfl
def By(S:Sto)(o:Ob):(S++[o])[S.length]?=some o:=by simp
def CY{n:Nat}{S:Sto}{ds:List D}(h:S[n]?=some (.lst ds)):Fa (.ref n) S=some ds:=by
 unfold Fa;dsimp only;rw[h]
def HK{n:Nat}{S:Sto}{ds:List D}(h:S[n]?=some (.lst ds)):HM (.ref n) S=some ds:=by
 unfold HM;dsimp only;rw[h]
def FK{m:ME}{e:Lo}{S S1:Sto}{d:D}{ds es:List D}(h:m e S=.ok d S1)(hi:HM d S1=some ds)(hs:Jd ds=some es):Ch m e S=.ok (.ref S1.length) (S1++[.lst es]):=by
 unfold Ch;rw[h];dsimp only[Res.bind];rw[hi];dsimp only;rw[hs]
def IR{m:ME}{e:Lo}{S S1:Sto}{d:D}{ds:List D}(h:m e S=.ok d S1)(hq:Fa d S1=some ds):Fe m e S=.ok (.tup ds) S1:=by
 unfold Fe;rw[h];dsimp only[Res.bind];rw[hq]
def Ht{m:ME}{e:Lo}{S S1:Sto}{d:D}{ds:List D}(h:m e S=.ok d S1)(hq:Fa d S1=some ds):GN m e S=.ok (.int ds.length) S1:=by
 unfold GN;rw[h];dsimp only[Res.bind];rw[hq]
def SB{C:AK}{f:Str}{mo mv:ME}{e:Lo}{S S1 S2:Sto}{n:Nat}{fs:List (Str×D)}{v:D}(hv:mv e S=.ok v S1)(ho:mo e S1=.ok (.ref n) S2)(hs:S2[n]?=some (.ins C fs))(hl:fs.length < 1000) :
  RG C f mo mv e S=.ok (.nx e) (S2.set n (.ins C (OM f v fs))):=by
 unfold RG;rw[hv];dsimp only[Res.lift];rw[ho];dsimp only[Res.lift];rw[hs];dsimp only;rw[qX ⟨rfl,hl⟩]
def P9{C:AK}{f:Str}{m:ME}{e:Lo}{S S1:Sto}{n:Nat}{fs:List (Str×D)}{v:D}(h:m e S=.ok (.ref n) S1)(hs:S1[n]?=some (.ins C fs))(hl:fs.lookup f=some v):HJ C f m e S=.ok v S1:=by
 unfold HJ;rw[h];dsimp only[Res.bind];rw[hs];dsimp only;rw[qX rfl,hl]
def eR{C:AK}{n:Nat}{f:List D->Sto->Res D}{ml:ML}{e:Lo}{S S1 S2:Sto}{ds:List D}(h:ml e S=.ok ds S1)(hn:ds.length+1=n)(hf:f (.ref S1.length :: ds) (S1++[.ins C []])=.ok .non S2):Pt C n f ml e S=.ok (.ref S1.length) S2:=by
 unfold Pt;rw[h];dsimp only[Res.bind];rw[qX hn,hf]
def BX{m:ME}{r:ML}{e:Lo}{S S1 S2:Sto}{d:D}{ds:List D}(h:m e S=.ok d S1)(hr:r e S1=.ok ds S2):AI m r e S=.ok (d :: ds) S2:=by
 unfold AI;rw[h];dsimp only[Res.bind];rw[hr]
def LL{n:Nat}{mi:MI}{g:MG}{c:MT}{m:ME}{e:Lo}{S S1:Sto}{v:IF}(h:mi e S=.ok v S1):D4 n mi g c m e S=FY v g c m (Cp v S1) 0 (Be n none++e) S1 []:=by
 unfold D4;rw[h];rfl
def GR{m:ME}{e:Lo}{S S1:Sto}{b:Bool}(h:m e S=.ok (.bl b) S1):mB m e S=.ok b S1:=by
 unfold mB;rw[h];rfl
def aM{f g:D->D->Sto->Res D}{ma mb mc:ME}{e:Lo}{S S1 S2 S3 S4 S5:Sto}{x y w d:D}(ha:ma e S=.ok x S1)(hb:mb e S1=.ok y S2)(hf:f x y S2=.ok (.bl true) S3)(hc:mc e S3=.ok w S4)(hg:g y w S4=.ok d S5):m3 f g ma mb mc e S=.ok d S5:=by
 unfold m3;rw[ha];dsimp only[Res.bind];rw[hb];dsimp only[Res.bind];rw[hf];dsimp only[Res.bind,okR];rw[hc];dsimp only[Res.bind];rw[hg]
def mG{f g:D->D->Sto->Res D}{ma mb mc:ME}{e:Lo}{S S1 S2 S3:Sto}{x y:D}(ha:ma e S=.ok x S1)(hb:mb e S1=.ok y S2)(hf:f x y S2=.ok (.bl false) S3):m3 f g ma mb mc e S=.ok (.bl false) S3:=by
 unfold m3;rw[ha];dsimp only[Res.bind];rw[hb];dsimp only[Res.bind];rw[hf];rfl
def Ve{i j:Int}{S:Sto}{b:Bool}(h:decide (i<=j)=b):leD (.int i) (.int j) S=.ok (.bl b) S:=by subst h;rfl
def Px{i j:Int}{S:Sto}{b:Bool}(h:decide (i < j)=b):ltD (.int i) (.int j) S=.ok (.bl b) S:=by subst h;rfl
def j7{i j:Int}{S:Sto}{b:Bool}(h:decide (j<=i)=b):geD (.int i) (.int j) S=.ok (.bl b) S:=by subst h;rfl
def Lz{i j:Int}{S:Sto}{b:Bool}(h:decide (i=j)=b):eqD false (.int i) (.int j) S=.ok (.bl b) S:=by
 subst h;show Res.ok (D.bl (i==j)) S=_;rfl
def SQ{i j:Int}{S:Sto}{b:Bool}(h:decide (i≠j)=b):eqD true (.int i) (.int j) S=.ok (.bl b) S:=by
 subst h;show Res.ok (D.bl (!(i==j))) S=_
 by_cases e:i=j <;> simp[e]
def Kh{m:MT}{e:Lo}{S S1:Sto}{b:Bool}(h:m e S=.ok b S1):J5 m e S=.ok (!b) S1:=by
 unfold J5;rw[h];rfl
def Kc{ml:ML}{e:Lo}{S S1:Sto}{ds:List D}(h:ml e S=.ok ds S1)(hl:ds.length<=1000):Fn ml e S=.ok (.tup ds) S1:=by
 unfold Fn;rw[h];dsimp only[Res.bind];rw[qX (At hl (by decide))]
def jM{ta tb:MT}{e:Lo}{S S1:Sto}(h:ta e S=.ok true S1):mOr ta tb e S=.ok true S1:=by
 unfold mOr;rw[h];rfl
def Lr{ta tb:MT}{e:Lo}{S S1:Sto}(h:ta e S=.ok false S1):mOr ta tb e S=tb e S1:=by
 unfold mOr;rw[h];rfl
def fq{ta tb:MT}{e:Lo}{S S1:Sto}(h:ta e S=.ok true S1):Pv ta tb e S=tb e S1:=by
 unfold Pv;rw[h];rfl
def fo{ta tb:MT}{e:Lo}{S S1:Sto}(h:ta e S=.ok false S1):Pv ta tb e S=.ok false S1:=by
 unfold Pv;rw[h];rfl
def WV{m:ME}{e:Lo}{S S1:Sto}{d:D}{ds:List D}(h:m e S=.ok d S1)(hq:Fa d S1=some ds):Ip m e S=.ok ds S1:=by
 unfold Ip;rw[h];dsimp only[Res.bind];rw[hq]
def VQ{f:List D->Sto->Res D}{ml:ML}{e:Lo}{S S1 S2:Sto}{ds:List D}{d:D}(h:ml e S=.ok ds S1)(hf:f ds S1=.ok d S2):mQ f ml e S=.ok d S2:=by
 unfold mQ;rw[h];dsimp only[Res.bind];rw[hf];rfl
def W8:D->Prop
 | .tup ds=>∃ns:List Int,ds=ns.map D.int
 | _=>False
def UR(n:Nat):∀ns:List Int,eqL (eqP n) (ns.map D.int) (ns.map D.int)=some true
 | []=>rfl
 | x :: ns=>by
  rw[A5];unfold eqL;rw[UR n ns]
  have:eqP n (.int x) (.int x)=some true:=by cases n <;> simp[eqP,KF]
  rw[this];rfl
def bH(n:Nat){d:D}(h:W8 d):eqP (n+1) d d=some true:=by
 cases d with
 | tup ds=>
  obtain⟨ns,rfl⟩:=h;exact UR n ns
 | _=>cases h
def US(n:Nat):∀ds:List D,(∀d∈ds,W8 d)->eqL (eqP (n+1)) ds ds=some true
 | [],_=>rfl
 | d :: ds,h=>by
  unfold eqL;rw[US n ds λx hx=>h x (Aj _ hx),bH n (h d A1)];rfl
def Km{n:Nat}{S:Sto}{ds:List D}(h:S[n]?=some (.lst ds)):Py (.ref n) S=some ds:=by
 unfold Py;dsimp only;rw[h]
end L2
namespace L2
open PySem PySem.Spec PyProof.Rows
section
variable{X:Cx}{E:EW}{e:Expr}{tg:Expr}
end
section
variable{X:Cx}{E:EW}{e:Expr}{es:List Expr}{p pos p2:Pos}{x1:Nat}{m:ME}{c:V}{cs:List V}{Cs:List AK}{tabC:AK->Option Bool}
end
def pickG{α:Type}(xs:List α)(lo hi st:Option Int):List α:=(sliceRange (bo lo hi st xs.length).1 (bo lo hi st xs.length).2.1 (bo lo hi st xs.length).2.2).filterMap (xs[·]?)
def Xs{α β:Type}(f:α->β)(xs:List α)(lo hi st:Option Int):pickG (xs.map f) lo hi st=(pickG xs lo hi st).map f:=by
 unfold pickG;rw[AC,List.map_filterMap]
 congr 1
 funext i
 rw[AN]
def LY(its:List AE)(lo hi st:Option Int):slicePick its.toArray lo hi st=(pickG its lo hi st).toArray:=by
 unfold slicePick pickG;simp only[AU,List.getElem?_toArray]
def Bk.pickIx{xs:List V}{us:List AE}(r:Bk xs us):∀is:List Nat,Bk (is.filterMap (xs[·]?)) (is.filterMap (us[·]?))
 | []=>.nil
 | i :: is=>by
  have ih:=Bk.pickIx r is
  cases hx:xs[i]? with
  | none=>
   have hu:us[i]?=none:=by
    rw[Bq]at hx ⊢;rw[<-r.length];exact hx
   rw[GV (by simpa using hx),GV (by simpa using hu)];exact ih
  | some x=>
   obtain⟨u,hu,ru⟩:=r.get hx;rw[GU (by simpa using hx),GU (by simpa using hu)];exact .cons ru ih
def Bk.pickG{xs:List V}{us:List AE}(r:Bk xs us)(lo hi st:Option Int):Bk (L2.pickG xs lo hi st) (L2.pickG us lo hi st):=by
 unfold L2.pickG;rw[r.length];exact r.pickIx _
def A0.pickIx{K:AA}{ρ:List AK}{H:Hp}{ds:List D}{vs:List V}(r:A0 K ρ H ds vs):∀is:List Nat,A0 K ρ H (is.filterMap (ds[·]?)) (is.filterMap (vs[·]?))
 | []=>.nil
 | i :: is=>by
  have ih:=A0.pickIx r is
  cases hx:ds[i]? with
  | none=>
   have hu:vs[i]?=none:=by
    rw[Bq]at hx ⊢;rw[<-r.length];exact hx
   rw[GV (by simpa using hx),GV (by simpa using hu)];exact ih
  | some x=>
   obtain⟨u,hu,ru⟩:=r.get hx;rw[GU (by simpa using hx),GU (by simpa using hu)];exact .cons ru ih
def A0.pickG{K:AA}{ρ:List AK}{H:Hp}{ds:List D}{vs:List V}(r:A0 K ρ H ds vs)(lo hi st:Option Int):A0 K ρ H (L2.pickG ds lo hi st) (L2.pickG vs lo hi st):=by
 unfold L2.pickG;rw[r.length];exact r.pickIx _
section
variable{X:Cx}{E:EW}{e st:Expr}{te:TE}{lo hi:Option Expr}{tl th ts:TO}{pos p2:Pos}{m:ME}{ml mh ms:MO}
def tSlS(K:AA)(te:TE)(tl th ts:TO):TE:=λσ H Q=>te σ H λx H1=>tl σ H1 λl H2=>th σ H2 λu H3=>ts σ H3 λc H4=>
 ∃a xs,x=.ref a/\SqL K H4 a xs/\c≠some 0/\∀p,H4 p=none->Q (.ref p) (upd H4 p (.lst (pickG xs l u c)))
def Xv(he:PE X e te)(hl:PO X lo tl)(hu:PO X hi th)(hst:PO X (some st) ts):PE X (.Subscript e (.Slice lo hi (some st) p2) pos) (tSlS X.K te tl th ts):=by
 intro ζ s σ H Q I h;refine g7 (thn (he ζ s σ H _ I h) λv s1 ⟨x,H1,I1,r1,q1⟩=>?_);refine wpAny_Slice (thn (hl ζ s1 σ H1 _ I1 q1) λvl s2 ⟨l,H2,I2,pl,q2⟩=>thn (hu ζ s2 σ H2 _ I2 q2) λvu s3 ⟨u,H3,I3,pu,q3⟩=>?_)
 refine thn (hst ζ s3 σ H3 _ I3 q3) λvc s3 ⟨c,H3,I3,pc,q3⟩=>?_
 have I4:Inv X ζ σ H3 { s3 with heap:=s3.heap.push { cls:=.type "slice",data:=.fields #[vl,vu,vc] } }:=I3.kept (t':=s3.toks) λb ob q=>AJ _ q
 obtain⟨a,xs,rfl,hx,hc,q⟩:=q3;cases r1;obtain⟨its,r,ht,hz⟩:=I4.list hx;show Av (Af X.prog X.w) X.A (XB e (.Slice lo hi (some st) p2) (.ref a) (.ref s3.heap.objs.size)) (EP X ζ σ Q) X.xe { s3 with heap:=s3.heap.push { cls:=.type "slice",data:=.fields #[vl,vu,vc] } };refine tail_any (ops:=[.ref a,.ref s3.heap.objs.size]) ht.isList.typeIs kT.lookup ?_ (by with_unfolding_all rfl);have hlen:=r.length;refine wpAny_getItem_list_slice ht.isList (kj ..) pl pu pc hc ?_ (by rw[AU] <;> lia);rw[LY]
 have hle:(pickG xs l u c).length<=xs.length:=by
  have:=slicePick_size_le its.toArray l u c;rw[LY,AU,AU,<-(r.pickG l u c).length,<-hlen]at this;exact this
 refine⟨.ref _,_,I4.laid (t':=s3.toks) (o:=.lst (pickG xs l u c)) (λb ob q=>AJ _ q) (AQ _) ?_,rfl,q _ (I4.hok.fresh (AQ _))⟩;exact⟨At hle hz,_,0,r.pickG l u c,Ak _ rfl⟩
def Oe(m:ME)(ml mh ms:MO):ME:=λe S=>(m e S).bind λd S1=>(ml e S1).bind λlo S2=>(mh e S2).bind λhi S3=>(ms e S3).bind λst S4=>match Py d S4 with
 | some ds=>if st=some 0 then .bad else .ok (.ref S4.length) (S4++[.lst (pickG ds lo hi st)])
 | none=>.bad
def YJ(he:GE X E e m)(hl:GO X E lo ml)(hu:GO X E hi mh)(hst:GO X E (some st) ms):GE X E (.Subscript e (.Slice lo hi (some st) p2) pos) (Oe m ml mh ms):=(Xv he hl hu hst).imp λσ H Q ⟨ρ,l,S,hl,hs,hm⟩=>by
 refine⟨ρ,l,S,hl,hs,hm.seq λd S1 hm ρ1 H1 x l1 s1 r1=>⟨ρ1,l,S1,hl.mono l1,s1,(hm.later l1).seq λlo S2 hm ρ2 H2 l2 s2=>⟨ρ2,l,S2,hl.mono (l1.trans l2),s2,(hm.later l2).seq λhi S3 hm ρ3 H3 l3 s3=>⟨ρ3,l,S3,hl.mono (l1.trans (l2.trans l3)),s3,(hm.later l3).seq λst S4 hm ρ4 H4 l4 s4=>?_⟩⟩⟩⟩;have r4:=r1.mono (l2.trans (l3.trans l4))
 cases hq:Py d S4 with
 | none=>rw[hq]at hm;exact hm.elim
 | some ds=>
  rw[hq]at hm;dsimp only at hm;split at hm
  ·exact hm.elim
  ·rename_i hc
   obtain⟨p,xs,rfl,rr,sq⟩:=LH s4 r4 hq;refine⟨p,xs,rfl,sq,hc,λq hq=>?_⟩;have le:Le X.K ρ4 H4 (ρ4++[q]) (upd H4 q (.lst (pickG xs lo hi st))):=Le.alloc hq;obtain⟨s5,l5,at5⟩:=s4.alloc (ho:=.lst (pickG xs lo hi st)) (o:=.lst (pickG ds lo hi st)) hq ⟨_,Bm,(rr.pickG lo hi st).mono le⟩;exact hm _ _ _ (l1.trans (l2.trans (l3.trans (l4.trans l5)))) s5 (.ref at5)
end
section
variable{X:Cx}{E:EW}{e:Expr}{p pos:Pos}{m:ME}
end
end L2
namespace PySem
open Sem (wp)
open AutoSeq1 (wpAny_loadPart')
def Kl(l:AK)(items:Array AE)(n:Nat)(dct:Option AK)(sl:Array (Option AE)) :
  Meets (Builtin.«enumerate.__new__» ⟨[.type "enumerate",.ref l],[]⟩) (λ_ R s=>s.heap.get? l=some { cls:=.type "tuple",dict:=dct,data:=.seq items n,slots:=sl } /\
   R (.ok (.ret (.ref (s.heap.push { cls:=.type "tuple_iterator",data:=.fields #[.ref l,.int 0 0] }).objs.size)))
    { s with heap:=(s.heap.push { cls:=.type "tuple_iterator",data:=.fields #[.ref l,.int 0 0] }).push { cls:=.type "enumerate",data:=.fields #[.none,.bool false,.ref s.heap.objs.size,NI 0,.none,.none] } }):=
 .of_wp λprog w A R s h=>by
  obtain⟨hp,g,d,tk,os⟩:=s;obtain⟨hl,h⟩:=h;have hsub:=sub_enumerate;have hL:B7.IsTuple (AG.heap ⟨hp,g,d,tk,os⟩) l items:=⟨_,hl,rfl,n,rfl⟩
  wp_walk using G6 hl
  refine wpAny_stack_any λst=>AY ?_
  split
  ·rename_i c _ _ _ _ _
   cases(c==EZ "enumerate")
   ·wp_walk using G6 hl,E8 hL
    exact⟨_,rfl,h⟩
   ·wp_walk using G6 hl,E8 hL
    exact⟨_,rfl,h⟩
  ·wp_walk using G6 hl,E8 hL
   exact⟨_,rfl,h⟩
section
variable{prog:Al}{w:BE}{A:BC}{E:AE->AG->Prop}{s:AG}
def Ky{l:AK}{items:Array AE}{Q:AE->AG->Prop}(hL:s.heap.IsTuple l items)
  (h:∀h',Rt h' (s.heap.objs.size+1) s.heap.objs.size 0 .none->h'.IsTupleIter s.heap.objs.size l 0->h'.objs.size=s.heap.objs.size+2 ->
   (∀b o,s.heap.get? b=some o->h'.get? b=some o)->Q (.ref (s.heap.objs.size+1)) { s with heap:=h' }) :
  Av (Af prog w) A (call (.type "enumerate") [.ref l]) Q E s:=by
 obtain⟨⟨c,dct,dt,sl⟩,hl,hc,n,hd⟩:=hL
 replace hc:c=.type "tuple":=hc
 replace hd:dt=.seq items n:=hd
 subst hc hd
 refine callType_new F.called_enumerate (by decide) (F.typeCall_enumerate_1 _) (F.newCall_enumerate_1 _) (λobj=>F.args_object_init_2 obj _) F.entry_enumerate_new
  (Kl l items n dct sl) ⟨hl,?_⟩
 have hz:(s.heap.push { cls:=.type "tuple_iterator",data:=.fields #[.ref l,.int 0 0] }).objs.size=s.heap.objs.size+1:=C5 ..;show _/\_;rw[hz]
 have he:Rt ((s.heap.push { cls:=.type "tuple_iterator",data:=.fields #[.ref l,.int 0 0] }).push
   { cls:=.type "enumerate",data:=.fields #[.none,.bool false,.ref s.heap.objs.size,NI 0,.none,.none] }) (s.heap.objs.size+1) s.heap.objs.size 0 .none:=by
  have:=Ak (s.heap.push { cls:=.type "tuple_iterator",data:=.fields #[.ref l,.int 0 0] })
   (o:={ cls:=.type "enumerate",data:=.fields #[.none,.bool false,.ref s.heap.objs.size,NI 0,.none,.none] }) rfl
  rw[hz]at this;exact this
 refine⟨⟨_,he,rfl⟩,h _ he ⟨_,AJ _ (Ak _ rfl),rfl,rfl⟩ (by rw[C5,hz]) λb o x=>AJ _ (AJ _ x)⟩
def Mo{it t:AK}{i:Nat}{items}{x:AE}{Q:AE->AG->Prop}(hit:s.heap.IsTupleIter it t i)
  (ht:s.heap.IsTuple t items) (hx:items[i]?=some x)
  (hQ:∀h',h'.IsTupleIter it t (i+1)->Ec it s.heap h'->Q x { s with heap:=h' }) :
  Av (Af prog w) A (EX (.ref it)) Q E s:=by
 obtain⟨o,ho,hc,hd⟩:=id hit;obtain⟨ol,hol,_,nl,hdl⟩:=ht;unfold EX
 refine AH (Er (name:=KZ "__next__") hit.typeIs Fk
  (Ep Fk hit.typeIs TH ?_ (Rv _)))
 show Av _ _ (field (.ref it) 0 >>= _) _ _ s;refine AH (NH ho hd (x:=.ref t) rfl ?_);show Av _ _ (if (BB t==Ck)=true then _ else _) _ _ s;rw[qY (show ¬((BB t==Ck)=true)from AZ)];show Av _ _ (field (.ref it) 1 >>= _) _ _ s;refine AH (NH ho hd (x:=.int i 0) rfl ?_);show Av _ _ (seqItems? (.ref t) >>= _) _ _ s;refine AH (wpAny_seqItems hol hdl ?_);simp only[Bx,hx];refine AH (NF ho hd (by simp) (AY ⟨x,rfl,AY (hQ _ ?_ (HD ..))⟩))
 exact⟨_,Uz _ ho (WC (JI hd _)),(be ..).trans hc,by
  rw[JI hd];simp[NI]⟩
def Jg{it t:AK}{i:Nat}{items}{Q:AE->AG->Prop}(hh:A.handled=none)
  (hit:s.heap.IsTupleIter it t i) (ht:s.heap.IsTuple t items) (hx:items[i]?=none)
  (hE:∀h' e,WH it s.heap h'->(∃o,h'.get? e=some o/\o.cls=.type "StopIteration")->E (.ref e) { s with heap:=h' }) :
  Av (Af prog w) A (EX (.ref it)) Q E s:=by
 obtain⟨o,ho,hc,hd⟩:=id hit;obtain⟨ol,hol,_,nl,hdl⟩:=ht;unfold EX
 refine AH (Er (name:=KZ "__next__") hit.typeIs Fk
  (Ep Fk hit.typeIs TH ?_ (Rv _)))
 show Av _ _ (field (.ref it) 0 >>= _) _ _ s;refine AH (NH ho hd (x:=.ref t) rfl ?_);show Av _ _ (if (BB t==Ck)=true then _ else _) _ _ s;rw[qY (show ¬((BB t==Ck)=true)from AZ)];show Av _ _ (field (.ref it) 1 >>= _) _ _ s;refine AH (NH ho hd (x:=.int i 0) rfl ?_);show Av _ _ (seqItems? (.ref t) >>= _) _ _ s;refine AH (wpAny_seqItems hol hdl ?_);simp only[Bx,hx];refine AH (gr (AH (NF ho hd (by simp) ?_)));show Av _ _ (newExc (.type "StopIteration") [] >>= _) _ _ _;refine AH ?_;simp only[newExc,newTuple];refine AH (Fh ?_ (by size_fits));refine AH (m:=NK _ _) (wpAny_of_eq (a:=Ck) (by first | rfl | (simp only[NK];rfl)) ?_);refine Fh ?_ (by size_fits);simp only[raiseNew];refine AH (wpAny_handled ?_)
 first | rw[show A.in1.handled=none from hh] | rw[hh]
 refine AH (AY (wpAny_throw ?_));exact hE _ _ (((HD ..).extBut.push _).push _) ⟨_,Ak _ rfl,rfl⟩
def Ub{prog:Al}{w:BE}{A:BC}(hh:A.handled=none)(it l:AK)(hne:l≠it)(items:Array AE) :
  Draws prog w A it [it,l] items.size (λi v=>items[i]?=some v) (λi h=>h.IsTupleIter it l i/\h.IsTuple l items) where
 live:=λ_ _ st=>let ⟨o,ho,_⟩:=st.1;⟨o,ho⟩
 frame:=λ_ _ _ st hk=>⟨st.1.at λo e=>hk it (by simp) o e,let ⟨o,ho,r⟩:=st.2;⟨o,hk l (by simp) o ho,r⟩⟩
 item:=λi s Q E hi st hQ=>by
  refine Mo st.1 st.2 (x:=items[i]) (by simp[hi]) λh' hit' hs'=>?_
  exact hQ _ h' s.toks (by simp[hi]) ⟨hit',st.2.extBut hs'.extBut hne⟩ hs'
 done:=λs Q E st hE=>Jg hh st.1 st.2 (by simp) hE
def LQ{e it l:AK}{i:Nat}{items:Array AE}{old:AE}{Q:Option AE->AG->Prop}(hh:A.handled=none)
  (he:Rt s.heap e it i old) (hit:s.heap.IsTupleIter it l i) (hl:s.heap.IsTuple l items) (hx:items[i]?=none)
  (hQ:∀h',WH it s.heap h'->Q none { s with heap:=h' }):Av (Af prog w) A (Ri (.ref e)) Q E s:=by
 have hT:s.TypeIs (.ref e) "enumerate":=⟨_,he,rfl⟩;unfold Ri
 refine AH (OS (Er (name:=KZ "__next__") hT Yr
  (Ep Yr hT F.entry_enumerate_next ?_ (F.args_enumerate_next_1 _))))
 show Av _ _ (field (.ref e) 2 >>= _) _ _ _;refine AH (NH he rfl (x:=.ref it) rfl ?_);refine AH (Jg hh hit hl hx λh' x he' hx'=>?_);obtain⟨o,ho,hc⟩:=hx';refine AH (km (T:="StopIteration") (b:=true) ⟨o,ho,hc⟩ isSubtype_stop ?_);exact AY (hQ _ he')
end
end PySem
namespace L2
open PySem PySem.Spec PyProof.Rows
def Inv.turned2{X:Cx}{ζ:List (AK×Obj)}{σ:List (Option V)}{H:Hp}{s:AG}{h':B7}{t':Nat}{e it a:AK}{o:HO}(I:Inv X ζ σ H s)(k:∀b u,b≠e->b≠it->s.heap.get? b=some u->h'.get? b=some u)
  (fe:L9 X ζ H e) (fi:L9 X ζ H it) (ha:s.heap.objs.size<=a) (new:CU X.prog X.w (upd H a o) h' a o):Inv X ζ σ (upd H a o) { s with heap:=h',toks:=t' }:=by
 have hn:=I.hok.fresh ha
 have nit:∀b u,H b=some u->b≠e/\b≠it:=λb u q=>⟨λz=>(by rw[z,fe.1]at q;cases q),λz=>(by rw[z,fi.1]at q;cases q)⟩
 have out:∀b:AK,b∉[e,it]->b≠e/\b≠it:=λb hb=>⟨λz=>hb (by simp[z]),λz=>hb (by simp[z])⟩
 refine I.step (g':=s.gens) (d':=s.drawn) (ch:=[e,it]) (λb hb=>?_) (λb o _ _ hc q _=>k b o (out b hc).1 (out b hc).2 q) (λb o _ _ hc q _=>⟨o.slots,k b o (out b hc).1 (out b hc).2 q⟩) (λb o _ q n=>?_)
  (λb o hc q=>⟨o,k b o (out b hc).1 (out b hc).2 q⟩) (λb xs q=>by rw[Bc (CP q hn)];exact q) (λb o u q=>by rw[Bc (CP q hn)];exact q) (λb ps q=>⟨#[],by rw[Bc (CP q hn),q];simp⟩) (λm hm=>?_) (λb u q=>?_) I.bare
 ·have hb':b=e∨b=it:=by simpa using hb
  rcases hb' with z | z
  ·subst z;exact⟨fe.2.2.2.1,fe.2.1,fe.2.2.2.2.1,fe.2.2.2.2.2⟩
  ·subst z;exact⟨fi.2.2.2.1,fi.2.1,fi.2.2.2.2.1,fi.2.2.2.2.2⟩
 ·rw[Bc (Aq (Ab (Ai q) ha))];exact n
 ·obtain⟨o,es,ep,ho,r⟩:=hm
  exact⟨o,es,ep,k _ o (CB fe.2.1) (CB fi.2.1) ho,r⟩
 ·by_cases hb:b=a
  ·subst hb;rw[Bm]at q;cases q;exact new
  ·rw[Bc hb]at q
   refine(I.hok b u q).stay (λc v hc r=>?_) (λc r=>by rw[Bc (CP r hn)];exact r) λc xs r=>by rw[Bc (CP r hn)];exact r
   have:c≠e/\c≠it:=by
    rcases hc with z | z
    ·rw[z];exact nit b u q
    ·exact nit c _ z
   exact k c v this.1 this.2 r
def Ite(sq:Hp->List V->Prop):It:=
 ⟨λi H=>∃xs x,sq H xs/\xs[i]?=some x,λi H y H'=>∃p x,H p=none/\y=.ref p/\H'=upd H p (.tup [.int i,x])/\∀xs,sq H xs->xs[i]?=some x,λi H=>∃xs,sq H xs/\xs.length<=i⟩
section
variable{P:Al}{w:BE}{K:AA}{elts:List Expr}{x1:Nat}{pos:Pos}
def RU{X:Cx}{ζ:List (AK×Obj)}{σ:St}{H:Hp}{s:AG}{E:AE->AG->Prop}{sq:Hp->List V->Prop}{e it:AK}{i:Nat}{x:V}{u:AE}{tk:Nat}{h':B7}{tn:Nat->B7->Prop}
  (I:Inv X ζ σ H s) (hne:e≠it) (hf:∀b∈[e,it],L9 X ζ H b) (le:e < s.heap.objs.size) (li:it < s.heap.objs.size) (ru:RelV x u) (hx:∀xs,sq H xs->xs[i]?=some x)
  (ho:IsEnumOut h' e it ((i:Int)+1) u s.heap.objs.size) (hT:h'.get? s.heap.objs.size=some { cls:=.type "tuple",data:=.seq #[.int i tk,u] }) (hk:∀b o,b≠e->b≠it->s.heap.get? b=some o->h'.get? b=some o)
  (ht:∀h2,Ec e h' h2->(∃old,Rt h2 e it ((i+1:Nat):Int) old)->tn (i+1) h2) :
  Av (Af X.prog X.w) X.A (MC (.Tuple elts x1 pos) (.ref e) (.ref s.heap.objs.size)) (λ_ s2=>∃y H',Inv X ζ σ H' s2/\RelV y (.ref s.heap.objs.size)/\(Ite sq).yld i H y H'/\tn (i+1) s2.heap/\∀b∈[e,it],H' b=none) E { s with heap:=h',toks:=tk+1 }:=by
 have fe:=hf e (by simp);have fi:=hf it (by simp);have ne:e≠s.heap.objs.size:=Aq le;have ni:it≠s.heap.objs.size:=Aq li
 have new:CU X.prog X.w (upd H s.heap.objs.size (.tup [.int i,x])) h' s.heap.objs.size (.tup [.int i,x]):=
  ⟨⟨At (show 2<=1000 by decide) (by decide),_,hT,rfl⟩,[.int i tk,u],.cons ⟨tk,rfl⟩ (.cons ru .nil),_,hT,rfl,_,rfl⟩
 have I1:=I.turned2 (t':=tk+1) hk fe fi (AQ _) new
 refine wpAny_letOwnedTupleGo_enum (s:={ s with heap:=h',toks:=tk+1 }) ho λh2 he2 hs2=>?_
 have hs2':Ec e h' h2:=hs2;have I2:=I1.turned (t':=tk+1) (h':=h2) (it:=e) (λb o hb q=>(hs2'.2 b hb).trans q) (by rw[Bc ne];exact fe.1) fe.2.1 fe.2.2.2.1 fe.2.2.2.2.1 fe.2.2.2.2.2;refine⟨.ref s.heap.objs.size,_,I2,rfl,⟨s.heap.objs.size,x,I.hok.fresh (AQ _),rfl,rfl,hx⟩,ht h2 hs2' ⟨u,by rw[gK,Int.natCast_one];exact he2⟩,λb hb=>?_⟩
 have hb':b=e∨b=it:=by simpa using hb
 rcases hb' with z | z
 ·rw[z,Bc ne];exact fe.1
 ·rw[z,Bc ni];exact fi.1
def VD(a e it:AK)(hne:e≠it):Su P w K (.Tuple elts x1 pos) (Ite λH xs=>SqL K H a xs) [e,it] e (λi h=>(∃old,Rt h e it i old)/\h.IsListIter it a i) where
 mem:=by simp
 obj:=λi h st b hb=>by
  have hb':b=e∨b=it:=by simpa using hb
  rcases hb' with z | z
  ·subst z
   obtain⟨⟨old,he⟩,_⟩:=st
   exact⟨_,he,λv z=>by
    have z':WI _=bm v:=z
    cases z'⟩
  ·subst z
   obtain⟨_,o,e,c,d⟩:=st;exact⟨o,e,λv z=>by rw[d]at z;cases z⟩
 keep:=λi h h' st k=>⟨st.1.imp λold he=>k e (by simp) _ he,st.2.at λo q=>k it (by simp) o q⟩
 item:=by
  intro X hP hw hK hc i ζ s σ H E I hf st hg;subst hP hw hK;obtain⟨xs,x,hq,hx⟩:=hg;obtain⟨its,rv,p,hz⟩:=I.list hq;obtain⟨u,hu,ru⟩:=rv.get hx;obtain⟨⟨old,he⟩,hit⟩:=st
  have li:it < s.heap.objs.size:=by obtain⟨o,q,_⟩:=hit;exact Ai q
  refine wpAny_pyNext_enum_item he hit p.isList (x:=u) (by simpa using hu) hne λh' ho hit' hT hsz hk=>?_
  exact⟨_,rfl,RU (sq:=λH xs=>SqL X.K H a xs) (tn:=λi h=>(∃old,Rt h e it i old)/\h.IsListIter it a i) I hne hf (Ai he) li ru (λys hy=>by rw[I.list_inj hy hq];exact hx) ho hT hk λh2 hs2 he2=>⟨he2,hit'.at λo q=>(hs2.2 it (CB hne)).trans q⟩⟩
 done:=by
  intro X hP hw hK hc i ζ s σ H E I hf st hg;subst hP hw hK;obtain⟨xs,hq,hx⟩:=hg;obtain⟨its,rv,p,hz⟩:=I.list hq;obtain⟨⟨old,he⟩,hit⟩:=st;obtain⟨f0,f1,f2,f3,f4,f5⟩:=hf it (by simp);have hl:=rv.length
  exact wpAny_pyNext_enum_end (I.ok.hd hc) he hit p.isList (by simp;lia) λh' eb=>⟨rfl,I.turned (t':=s.toks) (λb o hb e=>eb b o hb e) f0 f1 f3 f4 f5⟩
 self:=λ_ _ _ _ _ st h=>by
  obtain⟨⟨old,he⟩,_⟩:=st;exact KS he h
def VC(a e it:AK)(hne:e≠it)(hae:a≠it)(hef:e≠a):Su P w K (.Tuple elts x1 pos) (Ite λH xs=>SqT K H a xs) [e,it] e (λi h=>(∃old,Rt h e it i old)/\h.IsTupleIter it a i) where
 mem:=by simp
 obj:=λi h st b hb=>by
  have hb':b=e∨b=it:=by simpa using hb
  rcases hb' with z | z
  ·subst z
   obtain⟨⟨old,he⟩,_⟩:=st
   exact⟨_,he,λv z=>by
    have z':WI _=bm v:=z
    cases z'⟩
  ·subst z
   obtain⟨_,o,e,c,d⟩:=st;exact⟨o,e,λv z=>by rw[d]at z;cases z⟩
 keep:=λi h h' st k=>⟨st.1.imp λold he=>k e (by simp) _ he,st.2.at λo q=>k it (by simp) o q⟩
 item:=by
  intro X hP hw hK hc i ζ s σ H E I hf st hg;subst hP hw hK;obtain⟨xs,x,hq,hx⟩:=hg;obtain⟨its,rv,p,hz⟩:=I.tuple hq;have p':s.heap.IsTuple a its.toArray:=p;obtain⟨u,hu,ru⟩:=rv.get hx
  have hlt:i < its.toArray.size:=by
   have:=(AF.mp hu).1;simpa using this
  obtain⟨⟨old,he⟩,hit⟩:=st
  have li:it < s.heap.objs.size:=by obtain⟨o,q,_⟩:=hit;exact Ai q
  refine wpAny_pyNext_enum_itemD (Ub (A:=X.A.in1) (I.ok.hd hc) it a hae its.toArray) he ⟨hit,p'⟩ hlt hne (by simp[hne,hef]) λu' h' tk hu' ho hst' hT hsz hk=>?_
  have:u'=u:=by
   have hu2:its[i]?=some u':=by simpa using hu'
   rw[hu]at hu2;cases hu2;rfl
  subst this;exact⟨_,rfl,RU (sq:=λH xs=>SqT X.K H a xs) (tn:=λi h=>(∃old,Rt h e it i old)/\h.IsTupleIter it a i) I hne hf (Ai he) li ru (λys hy=>by rw[I.tuple_inj hy hq];exact hx) ho hT hk λh2 hs2 he2=>⟨he2,hst'.1.at λo q=>(hs2.2 it (CB hne)).trans q⟩⟩
 done:=by
  intro X hP hw hK hc i ζ s σ H E I hf st hg;subst hP hw hK;obtain⟨xs,hq,hx⟩:=hg;obtain⟨its,rv,p,hz⟩:=I.tuple hq;obtain⟨⟨old,he⟩,hit⟩:=st;obtain⟨f0,f1,f2,f3,f4,f5⟩:=hf it (by simp);have hl:=rv.length
  exact LQ (I.ok.hd hc) he hit (show s.heap.IsTuple a its.toArray from p) (by simp;lia) λh' eb=>⟨rfl,I.turned (t':=s.toks) (λb o hb e=>eb b o hb e) f0 f1 f3 f4 f5⟩
 self:=λ_ _ _ _ _ st h=>by
  obtain⟨⟨old,he⟩,_⟩:=st;exact KS he h
end
section
variable{X:Cx}{E:EW}{e:Expr}{elts:List Expr}{x1:Nat}{p pos ptg:Pos}{m:ME}{ta:TA}
def mS(K:AA)(ta:TA):TI:=λσ H R=>ta σ H λvs H1=>∃a,vs=[.ref a]/\(((∃xs,SqL K H1 a xs)/\R (Ite λH xs=>SqL K H a xs) H1)∨((∃xs,SqT K H1 a xs)/\R (Ite λH xs=>SqT K H a xs) H1))
def dg(hg:Gl X "enumerate") (hm:X.mg "enumerate" = none) (ha:PA X [e] ta) (hs:AS [e] X.env=[(false,Bw e X.env)]:=by rfl):PI X (.Tuple elts x1 ptg) (.Call (.Name "enumerate" p) [e] [] pos) (mS X.K ta):=by
 intro ζ s σ H R I h;refine Call_ (IV I hg hm boot_enumerate (Br (thn (ha pos ζ s σ H _ I h) λus s1 ⟨vs,H1,I1,r1,q1⟩=>?_) hs rfl));obtain⟨a,rfl,q1⟩:=q1;obtain⟨u,rfl,ru⟩:=vals1 r1;cases ru
 have fp:∀{h':B7} (b:AK),b∈[s1.heap.objs.size+1,s1.heap.objs.size]->L9 X ζ H1 b:=λb hb=>by
  have hb':b=s1.heap.objs.size+1∨b=s1.heap.objs.size:=by simpa using hb
  rcases hb' with z | z
  ·rw[z];exact I1.fpOk (G2 _) (I1.hok.fresh (G2 _))
  ·rw[z];exact I1.fpOk (AQ _) (I1.hok.fresh (AQ _))
 rcases q1 with⟨⟨xs,sq⟩,q⟩ | ⟨⟨xs,sq⟩,q⟩
 ·obtain⟨its,rv,pl,hz⟩:=I1.list sq
  refine call_enumerate_list pl.isList λh' he hit hsz hk=>KS he ?_
  exact⟨_,[s1.heap.objs.size+1,s1.heap.objs.size],_,_,H1,rfl,I1.kept (t':=s1.toks) hk,VD a _ _ (bu _),⟨⟨_,he⟩,hit⟩,fp (h':=h'),q⟩
 ·obtain⟨its,rv,pl,hz⟩:=I1.tuple sq
  have pl':s1.heap.IsTuple a its.toArray:=pl
  have la:a < s1.heap.objs.size:=by obtain⟨o,q,_⟩:=pl';exact Ai q
  refine Ky pl' λh' he hit hsz hk=>KS he ?_
  exact⟨_,[s1.heap.objs.size+1,s1.heap.objs.size],_,_,H1,rfl,I1.kept (t':=s1.toks) hk,VC a _ _ (bu _) (Aq la) (OG (HC la)),⟨⟨_,he⟩,hit⟩,fp (h':=h'),q⟩
def No(ds:List D):List D:=ds.zipIdx.map λx=>.tup [.int x.2,x.1]
def WO(v:IF):IF:=λS=>(v S).map No
def Nj(m:ME):MI:=λe S=>(m e S).bind λd S1=>match Ea d S1 with
 | some _=>.ok (WO (Ea d)) S1
 | none=>.bad
def QE(ds:List D)(i:Nat):(No ds)[i]?=(ds[i]?).map λd=>.tup [.int i,d]:=by
 unfold No;rw[AN,WF]
 cases ds[i]? <;> simp
def Nx{K:AA}{ρ:List AK}{H:Hp}{J:It}{v:IF}{sq:Hp->List V->Prop}(hJ:L6 K ρ H J v)(h1:∀i H,J.go i H->∃xs x,sq H xs/\xs[i]?=some x)(h2:∀i H,J.stop i H->∃xs,sq H xs/\xs.length<=i)
  (h3:∀i H x,(∀xs,sq H xs->xs[i]?=some x)->J.yld i H x H):L6 K ρ H (Ite sq) (WO v):=by
 intro ρ2 H2 S ds i l s hv;unfold WO at hv
 cases hd:v S with
 | none=>rw[hd]at hv;cases hv
 | some ds0=>
  rw[hd]at hv;cases hv;obtain⟨a1,a2⟩:=hJ ρ2 H2 S ds0 i l s hd;refine⟨λhn=>?_,λd hd'=>?_⟩
  ·rw[QE]at hn
   refine h2 i H2 (a1 ?_)
   cases hq:ds0[i]? with
   | none=>rfl
   | some d=>rw[hq]at hn;cases hn
  ·rw[QE]at hd'
   cases hq:ds0[i]? with
   | none=>rw[hq]at hd';cases hd'
   | some d0=>
    rw[hq]at hd';cases hd';obtain⟨b1,b2⟩:=a2 d0 hq;refine⟨h1 i H2 b1,λy H' hy=>?_⟩;obtain⟨p,x,hp,rfl,rfl,hx⟩:=hy;obtain⟨ρ3,l3,s3,r3⟩:=b2 x H2 (h3 i H2 x hx);obtain⟨s4,l4⟩:=IC (ho:=.tup [.int i,x]) s3 hp;exact⟨ρ3,l3.trans l4,s4,.tup Bm (.cons (.int _) (.cons (r3.mono l4) .nil))⟩
def Sb(hg:Gl X "enumerate") (hm:X.mg "enumerate" = none) (h:GE X E e m) (he:AS [e] X.env=[(false,Bw e X.env)]:=by rfl):GI X E (.Tuple elts x1 ptg) (.Call (.Name "enumerate" p) [e] [] pos) (Nj m):=
 (dg hg hm (FS h Hq he) he).imp λσ H R ⟨ρ,l,S,hl,hs,hm⟩=>by
 refine⟨ρ,l,S,hl,hs,hm.seq λd S1 hm ρ1 H1 x l1 s1 r1=>?_⟩
 cases d with
 | tup ds=>
  have hm':=hm
  cases r1 with
  | @tup _ a vs q1 q2=>
   exact⟨a,rfl,.inr ⟨⟨vs,.inl (.inl q1)⟩,hm' ρ1 H1 _ l1 s1 (Nx (O6 q1 q2) (λi H z=>z) (λi H z=>z) λi H x z=>⟨rfl,z⟩)⟩⟩
 | _=>
  cases hv:Ea _ S1 with
  | none=>rw[hv]at hm;exact hm.elim
  | some ds=>
   rw[hv]at hm
   have:∃a,x=.ref a:=by
    cases r1 <;> first | exact⟨_,rfl⟩ | (cases hv;done)
   obtain⟨a,rfl⟩:=this;obtain⟨xs,sq,_⟩:=PB s1 r1 hv;exact⟨a,rfl,.inl ⟨⟨xs,sq⟩,hm ρ1 H1 _ l1 s1 (Nx (O8 r1) (λi H z=>z) (λi H z=>z) λi H x z=>⟨rfl,z⟩)⟩⟩
end
section
variable{X:Cx}
variable{E:EW}{e:Expr}{p pos:Pos}{m:ME}
end
end L2
namespace PySem
open Sem (wp)
open AutoSeq1 (wpAny_loadPart')
namespace F
end F
section
variable{prog:Al}{w:BE}{A:BC}{E:AE->AG->Prop}{s:AG}{I:AK}{fp wr:List AK}{G:Array Qa->Array Qa->Prop}{n:Nat}{P:Nat->AE->Prop}{St:Nat->AG->Prop}
end
end PySem
namespace L2
open PySem PySem.Spec PyProof.Rows
section
variable{X:Cx}{E:EW}{e:Expr}{p p2 pos pos2:Pos}{m:ME}{te:TE}
end
end L2
namespace L2
open PySem
def bX{α:Type}{xs:List α}{j:Int}{x:α}(h0:0<=j)(h:xs[j.toNat]?=some x):atI xs j=some x:=by
 have hlt:=(AF.mp h).1;unfold atI ixN;rw[qX (by omega),qX (by lia)];simpa using h
def Oh{d:D}{S:Sto}{ds:List D}{j:Int}{z:D}(hd:Fa d S=some ds)(h0:0<=j)(h:ds[j.toNat]?=some z):ixA d (.int j) S=.ok z S:=by
 show Gq (ixD d (.int j) S) _=_
 have:ixD d (.int j) S=.ok z S:=by
  unfold ixD;rw[hd];dsimp only;rw[bX h0 h]
 rw[this];rfl
def aY{S:Sto}{n:Nat}{ds:List D}{j:Int}{z:D}(hn:S[n]?=some (.lst ds))(h0:0<=j)(h:ds[j.toNat]?=some z):ixA (.ref n) (.int j) S=.ok z S:=Oh (CY hn) h0 h
def kA{n k:Nat}{S:Sto}{ds:List D}(neg:Bool)(h1:S[n]?=some (.lst ds))(h2:S[k]?=some (.lst [])):eqD neg (.ref n) (.ref k) S=.ok (.bl (if neg then !ds.isEmpty else ds.isEmpty)) S:=by
 unfold eqD eqB;rw[Km h1,Km h2]
 cases ds with
 | nil=>rfl
 | cons x xs=>rfl
def Nh{α:Type}:∀{l:List α},l.length=1->∃x1,l=[x1]
 | [a],_=>⟨a,rfl⟩
def Lw{α:Type}:∀{l:List α},l.length=2->∃x1 x2,l=[x1,x2]
 | y :: _,q=>by
  obtain⟨x2,rfl⟩:=Nh (Jo q);exact⟨y,x2,rfl⟩
def aR{α:Type}:∀{l:List α},l.length=3->∃x1 x2 x3,l=[x1,x2,x3]
 | y :: _,q=>by
  obtain⟨x2,x3,rfl⟩:=Lw (Jo q);exact⟨y,x2,x3,rfl⟩
def len4{α:Type}:∀{l:List α},l.length=4->∃x1 x2 x3 x4,l=[x1,x2,x3,x4]
 | y :: _,q=>by
  obtain⟨x2,x3,x4,rfl⟩:=aR (Jo q);exact⟨y,x2,x3,x4,rfl⟩
def len5{α:Type}:∀{l:List α},l.length=5->∃x1 x2 x3 x4 x5,l=[x1,x2,x3,x4,x5]
 | y :: _,q=>by
  obtain⟨x2,x3,x4,x5,rfl⟩:=len4 (Jo q);exact⟨y,x2,x3,x4,x5,rfl⟩
end L2
namespace L2
open PySem PySem.Spec PyProof.Rows
section
variable{X:Cx}{E:EW}{e:Expr}{m:ME}{pos:Pos}
end
section
variable{X:Cx}{E:EW}{tg e a b:Expr}{p p2 pos pos2:Pos}{m:ME}{ml:ML}{ta:TA}
def Ke(lo:Int)(n:Nat):List V:=(BA n).map λk:Nat=>V.int (lo+k)
def Tv{lo:Int}:∀{n:Nat} {acc:List AE},acc.length=n->(∀(k:Nat) v,acc[k]?=some v->∃t,v=.int (lo+k) t)->Bk (Ke lo n) acc
 | 0,acc,hl,_=>by
  have:acc=[]:=List.eq_nil_of_length_eq_zero hl;subst this;exact .nil
 | n+1,acc,hl,h=>by
  cases acc with
  | nil=>cases hl
  | cons v r=>
   have hl':r.length=n:=Jo hl;obtain⟨t,e⟩:=h 0 v rfl
   have ih:=Tv (lo:=lo+1) hl' λk v hv=>by
    obtain⟨t,e⟩:=h (k+1) v hv;exact⟨t,by rw[e];congr 1;lia⟩
   have e2:Ke lo (n+1)=.int lo :: Ke (lo+1) n:=by
    unfold Ke;rw[Uh,A5,Ax]
    congr 1
    ·congr 1;lia
    ·apply CG
     intro k _;show V.int (lo+((k+1:Nat):Int))=V.int (lo+1+k)
     congr 1
     lia
   rw[e2];refine .cons ⟨t,?_⟩ ih;rw[e]
   congr 1
   lia
def dN{K:AA}{ρ:List AK}{H:Hp}(lo:Int)(n:Nat):A0 K ρ H (C2 lo n) (Ke lo n):=by
 unfold C2 Ke
 induction BA n with
 | nil=>exact .nil
 | cons k r ih=>exact .cons (.int _) ih
end
end L2
namespace PySem
open Sem (wp)
open PyProof.Rows (IntsAre)
section
variable{prog:Al}{w:BE}{A:BC}{E:AE->AG->Prop}{s:AG}
end
end PySem
namespace L2
open PySem PySem.Spec PyProof.Rows
section
variable{X:Cx}{E:EW}{a b:Expr}{p p2 pos pos2:Pos}{ml:ML}{ta:TA}
def Tz{K:AA}{ρ:List AK}{H:Hp}:∀{ns:List Int} {vs:List V},A0 K ρ H (ns.map D.int) vs->vs=ns.map V.int
 | [],_,.nil=>rfl
 | n :: ns,_,.cons r t=>by
  cases r;rw[Tz t];rfl
end
end L2
namespace PySem
open Sem (wp)
open AutoSeq1 (wpAny_loadPart')
section
variable{prog:Al}{w:BE}{A:BC}{E:AE->AG->Prop}{s:AG}
end
end PySem
namespace PySem
section
variable{prog:Al}{w:BE}{A:BC}{E:AE->AG->Prop}{s:AG}
end
end PySem
namespace L2
open PySem PySem.Spec PyProof.Rows
section
variable{P:Al}{w:BE}{K:AA}{elts:List Expr}{x1:Nat}{pos:Pos}
end
section
variable{X:Cx}{E:EW}{e:Expr}{elts:List Expr}{x1:Nat}{p pos ptg kp vp:Pos}{j1:Nat}{m:ME}{ta:TA}
end
end L2
namespace PySem
open Sem (wp)
section
variable{prog:Al}{w:BE}{A:BC}{E:AE->AG->Prop}{s:AG}
def Sn{l:AK}{items:Array AE}{ns:List Int}{Q:AE->AG->Prop}(hh:A.handled=none)(hl:s.heap.IsTuple l items)(hi:nU items.toList ns)(hb:items.size+1 < Rh)
  (h:∀(h':B7) (tk:Nat),h'.SetOf (Yt prog w) s.heap.objs.size (λk'=>(EO (λi=>ns.getD i 0) items.size).any (·==k')) (EO (λi=>ns.getD i 0) items.size).length ->
   (∀b o,b < s.heap.objs.size->s.heap.get? b=some o->h'.get? b=some o)->Q (.ref s.heap.objs.size) { s with heap:=h',toks:=tk }):Av (Af prog w) A (call (.type "set") [.ref l]) Q E s:=by
 obtain⟨c,tl,hmro⟩:=GH.mro;have hmade:=GH.made;have hsub:=GH.sub;refine gs (codeAny_of_tree ?_);show Av _ _ (callAny (.type "set") _) _ _ _;refine AY ⟨Code.quiet_builtin _ (by decide +kernel),codeAny_builtin F.entry_type_call ?_⟩;rw[BC.under_plain (weight_type_call_type "set" [.ref l] []) rfl];have h1:=GH.notType;have h2:=GH.canCreate;have hct:=F.typeCall_set_1 (.ref l);(repeat(any_goals (first | assumption | wp_step)))
 refine JW (code_set_new_1 (.ref l) (E:=E) (Q₁:=λobj s₁=>∃led:Bool,obj=.ref s.heap.objs.size/\s₁={ s with heap:=s.heap.push { cls:=.type "set",dict:=none,data:=.set #[] 0 (.fresh 0 0 led) } }) λled=>⟨led,rfl,rfl⟩) λr s₁ hr=>?_
 cases r with
 | error e=>exact hr
 | ok fl=>
  cases fl with
  | ret obj=>
   obtain⟨led,rfl,rfl⟩:=hr;have hS:(s.heap.push { cls:=.type "set",dict:=none,data:=.set #[] 0 (.fresh 0 0 led) }).get? s.heap.objs.size=some { cls:=.type "set",dict:=none,data:=.set #[] 0 (.fresh 0 0 led) }:=Ak _ rfl;have hT:AG.TypeIs { s with heap:=s.heap.push { cls:=.type "set",dict:=none,data:=.set #[] 0 (.fresh 0 0 led) } } (.ref s.heap.objs.size) "set":=⟨_,hS,rfl⟩;have hli:=GH.init.lookup;have hbi:=GH.init.bind (.ref s.heap.objs.size);(repeat(any_goals (first | assumption | wp_step)))
   refine JW (codeAny_call_builtin (R:=wants (λr s₂=>r=.none/\∃h' tk,s₂={ s with heap:=h',toks:=tk } /\
     h'.SetOf (Yt prog w) s.heap.objs.size (λk'=>(EO (λi=>ns.getD i 0) items.size).any (·==k')) (EO (λi=>ns.getD i 0) items.size).length /\
     (∀b o,b < s.heap.objs.size->s.heap.get? b=some o->h'.get? b=some o)) E) GH.init.plain F.entry_set_init (check_set_init_1 hT ?_)) λr₂ s₂ hr₂=>?_
   ·obtain⟨ol,hol,hcl,nl,hdl⟩:=hl
    obtain⟨ocls,odict,odata,oslots⟩:=ol;simp only at hcl hdl;subst hcl;subst hdl;have hol':(s.heap.push { cls:=.type "set",dict:=none,data:=.set #[] 0 (.fresh 0 0 led) }).get? l=some { cls:=.type "tuple",dict:=odict,data:=.seq items nl,slots:=oslots }:=AJ _ hol
    have hsls:isSubtype (.type "tuple") (.type "set")=pure false:=by rw[isSubtype_type];kernel_rfl
    have hslf:isSubtype (.type "tuple") (.type "frozenset")=pure false:=by rw[isSubtype_type];kernel_rfl
    have hne:(EZ "tuple"==EZ "dict")=false:=by decide
    have hl1:(s.heap.push { cls:=.type "set",dict:=none,data:=.set #[] 0 (.fresh 0 0 led) }).IsTuple l items:=⟨_,hol',rfl,nl,rfl⟩;unfold Builtin.«set.__init__» noKeywords b0;generalize hPI:Uo=PI
    wp_walk
    subst hPI;refine E8 hl1 (AH (wpAny_runValue ?_));have hlS:l < s.heap.objs.size:=Ai hol
    have hh3:A.in1.in1.in1.handled=none:=by simp[hh]
    have hneI:l≠(s.heap.push { cls:=.type "set",dict:=none,data:=.set #[] 0 (.fresh 0 0 led) }).objs.size:=by
     rw[C5];exact Aq (HC hlS)
    have hSf:s.heap.objs.size∉[(s.heap.push { cls:=.type "set",dict:=none,data:=.set #[] 0 (.fresh 0 0 led) }).objs.size,l]:=by
     rw[C5];simp only[Aw,AO,Bl,or_false,not_or];exact⟨Aq (Df _),OG hlS⟩
    have hval:∀(i:Nat) (v:AE),items[i]?=some v->∃t,v=.int ((λi=>ns.getD i 0) i) t:=λi v hv=>
     Yn hi i v (by rw[E3];exact hv)
    refine nI ((kY hh3 _ l hneI items).toS) s.heap.objs.size hSf (λi=>ns.getD i 0) hval hb (items.size - 0) 0 _ (by lia) (Cr _)
     ⟨⟨_,Ak _ rfl,rfl,rfl⟩,(hl1.push _)⟩ ?hS0 ?hR
    case hS0=>
     have hget:((s.heap.push { cls:=.type "set",dict:=none,data:=.set #[] 0 (.fresh 0 0 led) }).push { cls:=.type "tuple_iterator",data:=.fields #[.ref l,.int 0 0] }).get? s.heap.objs.size
       = some { cls:=.type "set",dict:=none,data:=.set #[] 0 (.fresh 0 0 led) }:=AJ _ hS
     exact nT ((nG (knd:=Yt prog w) led).setOf hget (by unfold Rh;lia)) (λ_=>rfl) rfl
    case hR=>
     intro s' hm hS';obtain⟨h',g',d',tk',os'⟩:=s';have eg:g'=s.gens:=hm.gens;have ed:d'=s.drawn:=hm.drawn;have eo:os'=s.os:=hm.os;subst eg;subst ed;subst eo;show Av _ _ _ _ _ _;refine AY ?_;show Av _ _ (ret Ck) _ _ _;refine AY ⟨rfl,h',tk',rfl,hS',λb o hb e=>?_⟩;have hb1:b≠s.heap.objs.size:=Aq hb
     have hb2:b≠(s.heap.push { cls:=.type "set",dict:=none,data:=.set #[] 0 (.fresh 0 0 led) }).objs.size:=by
      rw[C5];exact Aq (HC hb)
     exact hm.heap b o (by simp only[Aw,AO,Bl,or_false,not_or];exact⟨hb1,hb2⟩) (AJ _ (AJ _ e))
   ·cases r₂ with
    | error e=>exact hr₂
    | ok fl₂=>
     cases fl₂ with
     | ret r=>
      obtain⟨rfl,h',tk,rfl,hS',hk'⟩:=hr₂;(repeat(any_goals (first | assumption | wp_step)));exact h _ _ hS' hk'
     | _=>exact hr₂.elim
  | _=>exact hr.elim
end
end PySem
namespace L2
open PySem PySem.Spec PyProof.Rows
def Ll(ns:List Int):Nat:=(firstMet (λi=>ns.getD i 0) ns.length).length
section
variable{X:Cx}{E:EW}{e a b c:Expr}{p p2 pos pos2:Pos}{m:ME}{te:TE}{ml:ML}{ta:TA}{tg:Expr}
def c7(K:AA)(te:TE):TE:=λσ H Q=>te σ H λx H1=>∃q ns,x=.ref q/\(SqT K H1 q (Ir V.int ns)∨SqL K H1 q (ns.map V.int))/\ns.length<=4000/\Q (.int (Ll ns)) H1
def Xx(hc:X.calm=true)(hg:Gl X "len") (hm:X.mg "len" = none) (hg2:Gl X "set") (hm2:X.mg "set" = none) (h:PE X e te)
  (he:AS [e] X.env=(false,Bw e X.env) :: AS [] X.env:=by rfl) (he2:AS [.Call (.Name "set" p2) [e] [] pos2] X.env=(false,Bw (.Call (.Name "set" p2) [e] [] pos2) X.env) :: AS [] X.env:=by rfl) :
  PE X (.Call (.Name "len" p) [.Call (.Name "set" p2) [e] [] pos2] [] pos) (c7 X.K te):=by
 intro ζ s σ H Q I hq;refine DC (IV I hg hm boot_len ?_ (by decide) (by decide));refine LW ?_ he2 rfl;rw[he2];show Av _ _ (Ud ((false,Bw (.Call (.Name "set" p2) [e] [] pos2) X.env) :: Da pos (AS [] X.env))) _ _ s;refine Gc ?_;refine DC (IV I hg2 hm2 nL ?_ (by decide) (by decide));refine Br (thn (FS h Hq he pos2 ζ s σ H (λvs H1=>match vs with | [x]=>∃q ns,x=.ref q/\(SqT X.K H1 q (Ir V.int ns)∨SqL X.K H1 q (ns.map V.int))/\ns.length<=4000/\Q (.int (Ll ns)) H1 | _=>False) I hq) λus s1 ⟨vs,H1,I1,r1,q1⟩=>?_) he rfl
 match vs,r1,q1 with
 | [x],r1,q1=>
  obtain⟨q,ns,rfl,sq,hl,k⟩:=q1;obtain⟨u,rfl,ru⟩:=vals1 r1;cases ru
  have fin:∀(n:Nat),n=ns.length->∀(h':B7) (tk:Nat),h'.SetOf (Yt X.prog X.w) s1.heap.objs.size (λk'=>(firstMet (λi=>ns.getD i 0) n).any (·==k')) (firstMet (λi=>ns.getD i 0) n).length ->
    (∀b o,b < s1.heap.objs.size->s1.heap.get? b=some o->h'.get? b=some o)->Av (Af X.prog X.w) X.A (Ud (Da pos (AS [] X.env))) (λvs s₁=>Av (Af X.prog X.w) X.A (call (.builtin "len") (.ref s1.heap.objs.size :: vs)) (EP X ζ σ Q) X.xe s₁) X.xe { s1 with heap:=h',toks:=tk }:=λn hn h' tk hS hk=>by
   refine G4 ?_;obtain⟨o,es,ep,t,ho,hex,hd,_,_,hsc,hf,hsz⟩:=hS;have hz:(es.size:Int) < 2 ^ 63:=Y1 (show(es.size:Int) < 4096 by unfold Rh at hsc;lia) (by decide);refine call_len_set (s:={ s1 with heap:=h',toks:=tk }) ho hex hd hf hz ?_
   have I2:Inv X ζ σ H1 { s1 with heap:=h',toks:=tk+1+1 }:=I1.kept λb o e=>hk b o (Ai e) e
   refine⟨.int (Ll ns),H1,I2,⟨tk+1,?_⟩,k⟩;rw[hsz,hn];rfl
  rcases sq with sq | sq
  ·obtain⟨its,rv,pl,hz⟩:=I1.tuple sq
   have hlen:=rv.length;rw[AC]at hlen;exact Sn (I.ok.hd hc) (show s1.heap.IsTuple q its.toArray from pl) (by simpa using intsAre_of rv) (by rw[AU];unfold Rh;lia) (fin its.toArray.size (by rw[AU];lia))
  ·obtain⟨its,rv,pl,hz⟩:=I1.list sq
   have hlen:=rv.length;rw[AC]at hlen;exact PySem.call_set_list (I.ok.hd hc) pl.isList (by simpa using intsAre_of rv) (by rw[AU];unfold Rh;lia) (fin its.toArray.size (by rw[AU];lia))
def Og(m:ME):ME:=λe S=>(m e S).bind λd S1=>match Fa d S1 with
 | some ds=>match G8 ds with
  | some ns=>if ns.length<=4000 then .ok (.int (Ll ns)) S1 else .bad
  | none=>.bad
 | none=>.bad
def YK(hc:X.calm=true)(hg:Gl X "len") (hm:X.mg "len" = none) (hg2:Gl X "set") (hm2:X.mg "set" = none) (h:GE X E e m)
  (he:AS [e] X.env=(false,Bw e X.env) :: AS [] X.env:=by rfl) (he2:AS [.Call (.Name "set" p2) [e] [] pos2] X.env=(false,Bw (.Call (.Name "set" p2) [e] [] pos2) X.env) :: AS [] X.env:=by rfl) :
  GE X E (.Call (.Name "len" p) [.Call (.Name "set" p2) [e] [] pos2] [] pos) (Og m):=(Xx hc hg hm hg2 hm2 h he he2).imp λσ H Q ⟨ρ,l,S,hl,hs,hm⟩=>by
 refine⟨ρ,l,S,hl,hs,hm.seq λd S1 hm ρ1 H1 x l1 s1 r1=>?_⟩
 cases hq:Fa d S1 with
 | none=>rw[hq]at hm;exact hm.elim
 | some ds=>
  rw[hq]at hm;dsimp only at hm
  cases hi:G8 ds with
  | none=>rw[hi]at hm;exact hm.elim
  | some ns=>
   rw[hi]at hm;dsimp only at hm;split at hm
   ·rename_i hn
    obtain⟨q,xs,rfl,rr,sq⟩:=Mb s1 r1 hq;rw[Kq hi]at rr;rw[Tz rr]at sq;exact⟨q,ns,rfl,sq.symm,hn,hm ρ1 H1 _ l1 s1 (.int _)⟩
   ·exact hm.elim
end
section
variable{X:Cx}{E:EW}{a b c:Expr}{p pos:Pos}{ml:ML}{ta:TA}{tg:Expr}
end
section
variable{X:Cx}{E:EW}{e a b c:Expr}{p p2 pos pos2:Pos}{m:ME}{te:TE}{ml:ML}{ta:TA}{tg:Expr}
def cz(ta:TA):TE:=λσ H Q=>ta σ H λvs H1=>∃j:Int,vs=[.int j]/\(-1000000<=j/\j<=1000000)/\∀q,H1 q=none->Q (.ref q) (upd H1 q (.lst (Ke 0 (j - 0).toNat)))
def Xw(hc:X.calm=true)(hg:Gl X "list") (hm:X.mg "list" = none) (hg2:Gl X "range") (hm2:X.mg "range" = none) (ha:PA X [a] ta)
  (hs:AS [a] X.env=[(false,Bw a X.env)]:=by rfl)
  (he2:AS [.Call (.Name "range" p2) [a] [] pos2] X.env=(false,Bw (.Call (.Name "range" p2) [a] [] pos2) X.env) :: AS [] X.env:=by rfl) :
  PE X (.Call (.Name "list" p) [.Call (.Name "range" p2) [a] [] pos2] [] pos) (cz ta):=by
 intro ζ s σ H Q I hq;refine DC (IV I hg hm Fy ?_ (by decide) (by decide));refine Br ?_ he2 rfl;rw[he2];show Av _ _ (Ud ((false,Bw (.Call (.Name "range" p2) [a] [] pos2) X.env) :: Da pos (AS [] X.env))) _ _ s;refine Gc ?_;refine Call_ (IV I hg2 hm2 g0 (Br (thn (ha pos2 ζ s σ H _ I hq) λus s1 ⟨vs,H1,I1,r1,q1⟩=>?_) hs rfl));obtain⟨j,e,⟨b3,b4⟩,q⟩:=q1;subst e
 cases r1 with
 | cons r rr=>
  cases rr;obtain⟨t,rfl⟩:=r;refine call_range_1 ?_;refine G4 ?_
  have hn:Nv 0 j 1=((j - 0).toNat:Nat):=by rw[rangeSize_one];split <;> lia
  refine call_list_range (I.ok.hd hc) (gJ ..) (small_one (aP (by lia)) (am (by lia)) (aP b3) (am b4)) hn (At (show(j - 0).toNat<=2000000 by lia) (by decide)) λh' tk acc c' hk hS hacc=>?_
  have k:∀b o,s1.heap.get? b=some o->h'.get? b=some o:=λb o e=>hk b o (AJ _ e)
  have hr:Bk (Ke 0 (j - 0).toNat) acc.toList:=Tv (by have:=hacc.1;simpa using this) λk v hv=>by
   obtain⟨t,e⟩:=hacc.2 k v (by simpa using hv);exact⟨t,by rw[e];congr 1;lia⟩
  have hl:(Ke 0 (j - 0).toNat).length<=sizeLine:=by
   rw[hr.length,show acc.toList.length=(j - 0).toNat by have:=hacc.1;simpa using this];exact At (show(j - 0).toNat<=2000000 by lia) (by decide)
  have hz:∀o,s1.heap.objs.size<=(s1.heap.push o).objs.size:=λo=>by rw[C5];exact G2 _
  refine⟨.ref _,upd H1 _ (.lst (Ke 0 (j - 0).toNat)),I1.laid (t':=tk) k (hz _) ?_,rfl,q _ (I1.hok.fresh (hz _))⟩;exact⟨hl,acc.toList,c',hr,by simpa using hS⟩
def Of(ml:ML):ML:=λe S=>(ml e S).bind λds S1=>match ds with
 | [.int j]=>if -1000000<=j/\j<=1000000 then .ok (C2 0 (j - 0).toNat) S1 else .bad
 | _=>.bad
def YH(hc:X.calm=true)(hg:Gl X "list") (hm:X.mg "list" = none) (hg2:Gl X "range") (hm2:X.mg "range" = none) (ha:GA X E [a] ml)
  (hs:AS [a] X.env=[(false,Bw a X.env)]:=by rfl)
  (he2:AS [.Call (.Name "range" p2) [a] [] pos2] X.env=(false,Bw (.Call (.Name "range" p2) [a] [] pos2) X.env) :: AS [] X.env:=by rfl) :
  GL X E (.Call (.Name "list" p) [.Call (.Name "range" p2) [a] [] pos2] [] pos) (Of ml):=(Xw hc hg hm hg2 hm2 ha hs he2).imp λσ H Q ⟨ρ,l,S,hl,hs,hm⟩=>by
 refine⟨ρ,l,S,hl,hs,hm.seq λds S1 hm ρ1 H1 xs l1 s1 r1=>?_⟩;split at hm
 ·rename_i j
  split at hm
  ·rename_i hb
   cases r1 with
   | cons r rr=>
    cases rr;cases r;refine⟨j,rfl,hb,λq hq=>?_⟩;obtain⟨s4,l4⟩:=IC (ho:=.lst (Ke 0 (j - 0).toNat)) s1 hq;exact hm _ _ q _ (l1.trans l4) s4 (dN _ _) Bm (λn z=>s1.notIn hq z) (l1.back hs s1 hq)
  ·exact hm.elim
 ·exact hm.elim
end
def j9{P:Al}{w:BE}{K:AA}{mg:Str->Option AE}{base:B7}{CX:CXT}{k n:Nat}{f:AK}{fd:Dg}{ps:List Str}:Dh P w K mg base CX k f fd ps (spM K n λ_ _=>.bad):=
 ⟨λ_ _ _ _ ⟨_,_,_,_,_,_,h⟩=>h.elim,λ_ _ _ _ _ _ _ _ _ _ _ _ _ ⟨_,_,_,_,_,_,h⟩=>h.elim⟩
def Pu(mk mv:ME):ME:=λe S=>(mk e (S++[.dK []])).bind λx S1=>(mv e S1).bind λy S2=>match S2[S.length]?,X6 x with
 | some (.dK []),some k=>.ok (.ref S.length) (S2.set S.length (.dK (CF [] k y)))
 | _,_=>.bad
section
variable{X:Cx}{E:EW}{k v:Expr}{pos:Pos}{mk mv:ME}
def az(hk:GE X E k mk)(hv:GE X E v mv):GE X E (.Dict [some k] [v] pos) (Pu mk mv):=
 (dr (Zo hk hv da) rfl rfl (by simp) (by simp)).imp λσ H Q ⟨ρ,l,S,hl,hs,hm⟩ p hp=>by
 obtain⟨s0,l0,at0⟩:=hs.alloc (ho:=.dK []) (o:=.dK []) hp ⟨[],Bm,.nil⟩;refine⟨ρ++[p],l,S++[.dK []],hl.mono l0,s0,(hm.later l0).seq λx S1 hm ρ1 H1 u l1 s1 r1=>⟨ρ1,l,S1,hl.mono (l0.trans l1),s1,(hm.later l1).seq λy S2 hm ρ2 H2 w l2 s2 r2=>?_⟩⟩;have r0:Bu X.K (ρ++[p]) (upd H p (.dK [])) (.ref S.length) (.ref p):=.ref at0;have r0':=r0.mono (l1.trans l2)
 show H2 p=some (.dK [])/\∃kvs:List (Key×V),[(u,w)]=kvs.map (λkv=>(kV kv.1,kv.2))/\kvs.length<=15/\Q (.ref p) (upd H2 p (.dK (JL [] kvs)))
 split at hm
 ·rename_i ky h4 hk'
  cases r0' with
  | @ref _ a hn=>
   obtain⟨kvs',e,r⟩:=s2.ob S.length _ _ h4 hn;cases r;rw[Mx (r1.mono l2) hk'];have le:Le X.K ρ2 H2 ρ2 (upd H2 p (.dK (Ho [] ky w))):=Le.write hn (by rw[e];trivial);obtain⟨s5,l5⟩:=s2.write (ho:=.dK (Ho [] ky w)) (o:=.dK (CF [] ky y)) hn ⟨_,Bm,(KVR.put ky r2 .nil).mono le⟩ le;exact⟨e,[(ky,w)],rfl,by simp,hm ρ2 _ _ (l0.trans (l1.trans (l2.trans l5))) s5 ((r0.mono (l1.trans l2)).mono l5)⟩
 ·exact hm.elim
end
end L2
namespace PySem
open AutoSeq1 in
def Lv(l:AK)(items:Array AE)(n:Nat)(b:AK)(items2:Array AE)(n2:Nat)(dct:Option AK)(sl:Array (Option AE))(hs0:¬(!items.isEmpty&&Di (items.size+items2.size))=true)(hs1:items.size<=sizeLine)(hs2:items.size+items2.size<=sizeLine+1) :
  Meets (Builtin.«list.extend» ⟨[.ref l,.ref b],[]⟩) (λ_ R s=>s.heap.get? l=some { cls:=.type "list",dict:=none,data:=.seq items n,slots:=#[] }/\s.heap.get? b=some { cls:=.type "tuple",dict:=dct,data:=.seq items2 n2,slots:=sl }/\R (.ok (.ret Ck)) { s with heap:=s.heap.update l (Hl λx=>x++items2),toks:=s.toks }):=
 .of_wp λprog w A R s h=>by
  obtain⟨hp,g,d,tk,os⟩:=s;obtain⟨hl,hb,h⟩:=h;have f1:=idx_int;have f2:=sub_tuple_tuple;have f3:=sub_list_list;have f4:=sub_tuple_list;have f5:=sub_list_tuple;
  have hz':(items++items2).size<=sizeLine+1:=by rw[Array.size_append];exact hs2
  wp_walk using(wpAny_updateSeq hl rfl (hz:=hs1) (_hz':=hz')),G6 hl,G6 hb;exact⟨_,rfl,h⟩
end PySem
namespace L2
open PySem PySem.Spec PyProof.Rows
def lW(K:AA):V->List V->Hp->VK->Prop:=λx vs H Q=>∃l b xs zs,x=.ref l/\vs=[.ref b]/\H l=some (.lst xs)/\SqT K H b zs/\xs.length+zs.length<=sizeLine/\Q .non (upd H l (.lst (xs++zs)))
def eQ{X:Cx}:MtM X "list.extend" (lW X.K):=by
 intro ζ s σ H x vs v us Q I rx rv h;obtain⟨l,b,xs,zs,rfl,rfl,hH,hB,hz,q⟩:=h;cases rx;obtain⟨u,rfl,ru⟩:=rv.one;cases ru;obtain⟨z,its,n,r,hl,e⟩:=I.lstM hH;obtain⟨its2,r2,⟨⟨c,dct,dt,sl⟩,e2,hc,n2,hd⟩,z2⟩:=I.tuple hB
 replace hc:c=.type "tuple":=hc
 replace hd:dt=.seq its2.toArray n2:=hd
 subst hc hd;have hl2:=r2.length
 have hsz:its.toArray.size+its2.toArray.size<=sizeLine:=by rw[AU,AU];lia
 have hlong:¬(!its.toArray.isEmpty&&Di (its.toArray.size+its2.toArray.size))=true:=by
  rw[UA hsz,gP];exact AZ
 refine Os bz ⟨_,e,rfl⟩ bj (Y3 _ _)
  (Lv l its.toArray n b its2.toArray n2 dct sl hlong (by rw[AU];lia) (by lia)) ⟨e,e2,?_⟩
 refine⟨.non,_,I.lset (its':=its++its2) hH e (by simp) (r.append r2) ?_,rfl,q⟩;rw[Ad];omega
def UF(mo ma:ME):ME:=λe S=>(mo e S).bind λd S1=>match atL d S1 with
 | some (n,_)=>(ma e S1).bind λy S2=>match atL d S2,y with
  | some (_,xs),.tup ys=>if xs.length+ys.length<=sizeLine then .ok .non (S2.set n (.lst (xs++ys)))else .bad
  | _,_=>.bad
 | none=>.bad
section
variable{X:Cx}{E:EW}{o e:Expr}{apos cpos:Pos}{mo ma:ME}
def fA(ho:GE X E o mo)(ha:GE X E e ma)(hbase:Cb o "extend" X.env (Bw o X.env)=Bw o X.env:=by rfl)
  (hfew:((Da cpos (AS [e] X.env)).all (λx=>!x.1)&&(Us cpos (NJ [] X.env)).all (λx=>x.1.isSome)
    &&decide ([e].length+([]:List JZ).length+(if ([]:List JZ).isEmpty then 0 else 1) < 30))=true:=by rfl)
  (hline:(apos.endLine==cpos.line)=true:=by rfl) (hs:AS [e] X.env=(false,Bw e X.env) :: AS [] X.env:=by rfl) (hplain:(Da cpos (AS [] X.env)).any (·.1)=false:=by rfl) :
  GE X E (.Call (.Attribute o "extend" apos) [e] [] cpos) (UF mo ma):=(Zx EB QU QT eQ ho (FS ha Hq hs) hbase hfew hline hs hplain).imp λσ H Q ⟨ρ,l,S,hl,hs,hm⟩=>by
 refine⟨ρ,l,S,hl,hs,hm.seq λd S1 hm ρ1 H1 v l1 s1 r1=>?_⟩
 cases hq:atL d S1 with
 | none=>rw[hq]at hm;exact hm.elim
 | some z=>
  obtain⟨n,xs0⟩:=z;rw[hq]at hm;dsimp only at hm;obtain⟨rfl,h0,a,vs0,rfl,hn,e0,_⟩:=L5 s1 r1 hq;refine⟨.inl ⟨rfl,vs0,.inl (.inl e0)⟩,ρ1,l,S1,hl.mono l1,s1,(hm.later l1).seq λy S2 hm ρ2 H2 u l2 s2 r2=>?_⟩;split at hm
  ·rename_i n' xs ys h2
   split at hm
   ·rename_i hz
    obtain⟨e',h4,a',vs,ea,hn2,e2,rr⟩:=L5 s2 (r1.mono l2) h2;cases e';cases ea
    cases r2 with
    | tup b1 b2=>
     obtain⟨s3,l3⟩:=Oa s2 hn2 e2 (rr.append b2);exact⟨a,_,vs,_,rfl,rfl,e2,.inl (.inl b1),by rw[<-rr.length,<-b2.length];exact hz,hm ρ2 _ _ (l1.trans (l2.trans l3)) s3 .non⟩
   ·exact hm.elim
  ·exact hm.elim
end
def lL(td ty:TE):TE:=λσ H Q=>td σ H λx H1=>∃a,x=.ref a/\IsD H1 a/\ty σ H1 λy H2=>∃b kvs more,y=.ref b/\a≠b/\H2 a=some (.dK kvs)/\H2 b=some (.dK more)/\kvs.length+more.length<=sizeLine/\Q .non (upd H2 a (.dK (JL kvs more)))
section
variable{X:Cx}{o e:Expr}{apos cpos:Pos}{td ty:TE}
def dq(ho:PE X o td)(he:PE X e ty)(m:M1 X o "update" apos e cpos):PE X (.Call (.Attribute o "update" apos) [e] [] cpos) (lL td ty):=by
 intro ζ s σ H Q I h;refine wpAny_Call_method m.base m.few m.line Q2 QW PySem.F.type_dict_update (thn (ho ζ s σ H _ I h) λu s1 ⟨x,H1,I1,rx,a,ex,d,q1⟩=>?_);subst ex;obtain rfl:u=BB a:=rx;obtain⟨t1,t2,_⟩:=aa I1 d;refine⟨t1,t2,?_⟩;rw[m.trees];refine G5 rfl (U0 (Gc (thn (he ζ s1 σ H1 _ I1 q1) λiv s2 ⟨y,H2,I2,ry,b,kvs,more,ey,hab,ea,eb,hz,q2⟩=>G4 ?_)));subst ey;cases(show iv=BB b from ry);obtain⟨za,hda,vsa,ra,dda⟩:=Wz I2.hok ea;obtain⟨zb,hdb,vsb,rb,ddb⟩:=Wz I2.hok eb;refine call_meetsIn QW dda.typeIs PySem.F.entry_dict_update (PySem.F.args_dict_update_2 _ _) (meets_dict_update (Cv X.prog X.w) a b hab hdb) ⟨vsa,vsb,dda,ddb,by rw[<-ra.length,<-rb.length];exact hz,λh' d1 _ hs=>⟨.non,_,?_,rfl,q2⟩⟩
 have he':∃q,h'.get? a=some q:=let ⟨q,_,_,hq,_⟩:=d1;⟨q,hq⟩
 exact Oo I2 (by rw[ea];exact Cy) hs he' (Vr (At (JM more kvs) hz) hda (rb.merge ra) d1)
end
def Ng{β:Type}(kvs more:List (Key×β)):List (Key×β):=more.foldl (λacc kv=>CF acc kv.1 kv.2) kvs
def KVR.merge{K:AA}{ρ:List AK}{H:Hp}:∀{more:List (Key×D)} {more':List (Key×V)} {kvs:List (Key×D)} {kvs':List (Key×V)},KVR K ρ H more more'->KVR K ρ H kvs kvs'->KVR K ρ H (Ng kvs more) (JL kvs' more')
 | _,_,_,_,.nil,q=>q
 | (g,a) :: x,(g',b) :: y,kvs,kvs',.cons r t,q=>by
  have e:g=g':=r.1;subst e;exact KVR.merge (kvs:=CF kvs g a) (kvs':=Ho kvs' g b) t (KVR.put g r.2 q)
def Lb(mo ma:ME):ME:=λe S=>(mo e S).bind λx S1=>match x with
 | .ref n=>match S1[n]? with
  | some (.dK _)=>(ma e S1).bind λy S2=>match y with
   | .ref m=>match S2[n]?,S2[m]? with
    | some (.dK kvs),some (.dK more)=>if n≠m/\kvs.length+more.length<=sizeLine then .ok .non (S2.set n (.dK (Ng kvs more)))else .bad
    | _,_=>.bad
   | _=>.bad
  | _=>.bad
 | _=>.bad
section
variable{X:Cx}{E:EW}{o e:Expr}{apos cpos:Pos}{mo ma:ME}
def Wq(ho:GE X E o mo)(ha:GE X E e ma)(m:M1 X o "update" apos e cpos:=by exact⟨rfl,rfl,rfl,rfl⟩):GE X E (.Call (.Attribute o "update" apos) [e] [] cpos) (Lb mo ma):=(dq ho ha m).imp λσ H Q ⟨ρ,l,S,hl,hs,hm⟩=>by
 refine⟨ρ,l,S,hl,hs,hm.seq λx S1 hm ρ1 H1 u l1 s1 r1=>?_⟩;split at hm
 ·rename_i n
  split at hm
  ·rename_i kv0 h1
   cases r1 with
   | @ref _ a hn=>
    obtain⟨kv0',e0,_⟩:=s1.ob n _ _ h1 hn;refine⟨a,rfl,.inl ⟨kv0',.inl e0⟩,ρ1,l,S1,hl.mono l1,s1,(hm.later l1).seq λy S2 hm ρ2 H2 v l2 s2 r2=>?_⟩;split at hm
    ·rename_i m
     split at hm
     ·rename_i kvs more h2 h3
      split at hm
      ·rename_i hc
       have r1':Bu X.K ρ2 H2 (.ref n) (.ref a):=(Bu.ref hn).mono l2
       cases r1' with
       | @ref _ _ hn2=>
        cases r2 with
        | @ref _ b hm2=>
         obtain⟨kvs',ea,ra⟩:=s2.ob n _ _ h2 hn2;obtain⟨more',eb,rb⟩:=s2.ob m _ _ h3 hm2;have le:Le X.K ρ2 H2 ρ2 (upd H2 a (.dK (JL kvs' more'))):=Le.write hn2 (by rw[ea];trivial);obtain⟨s5,l5⟩:=s2.write (ho:=.dK (JL kvs' more')) (o:=.dK (Ng kvs more)) hn2 ⟨_,Bm,(KVR.merge rb ra).mono le⟩ le;exact⟨b,kvs',more',rfl,λz=>hc.1 (s2.nd n m a hn2 (z▸hm2)),ea,eb,by rw[<-KVR.length ra,<-KVR.length rb];exact hc.2,hm ρ2 _ _ (l1.trans (l2.trans l5)) s5 .non⟩
      ·exact hm.elim
     ·exact hm.elim
    ·exact hm.elim
  ·exact hm.elim
 ·exact hm.elim
end
section
variable{X:Cx}
end
section
variable{X:Cx}{E:EW}{o e f:Expr}{apos cpos:Pos}{mo mi my:ME}
end
end L2
namespace PySem
open Sem (wp)
section
variable{prog:Al}{w:BE}{A:BC}{E:AE->AG->Prop}{s:AG}
end
end PySem
namespace L2
open PySem PySem.Spec PyProof.Rows
section
variable{P:Al}{w:BE}{K:AA}{elts:List Expr}{x1:Nat}{pos:Pos}
end
section
variable{X:Cx}{E:EW}{e1 e2:Expr}{elts:List Expr}{x1:Nat}{p pos ptg:Pos}{ml:ML}{ta:TA}
end
end L2
namespace HT
open PySem PySem.Spec PyProof.Rows
section
variable{prog:Al}{w:BE}{A:BC}{E:AE->AG->Prop}{s:AG}
end
end HT
namespace L2
open PySem PySem.Spec PyProof.Rows
section
variable{X:Cx}
variable{E:EW}{e:Expr}{lo hi:Option Expr}{pos p2:Pos}{m:ME}{ml mh:MO}
end
section
variable{X:Cx}
instance(i j:Int):Decidable ((λ_ j:Int=>0<=j) i j):=inferInstanceAs (Decidable (0<=j))
abbrev ip:=intOp bb λi j=>.int (i * 2 ^ j.toNat)
abbrev dH:=intOp (λ_ j=>0<=j) λi j=>.int (i / 2 ^ j.toNat)
abbrev fu:=intOp (λ_ _=>True) λi j=>.int (Gi i j)
def jc:OpR X (Cj .LShift) (rD X.K ip):=Na (λ_ _ _ _=>.int _) jP
def ja:OpR X (Cj .RShift) (rD X.K dH):=Na (λ_ _ _ _=>.int _) jO
def jf:OpR X (Cj .BitAnd) (rD X.K fu):=Mn (λ_ _ _ _=>.int _) jU
end
section
variable{X:Cx}{E:EW}{CX:CXT}{k n:Nat}{f C:AK}{fd:Dg}{ps:List Str}{m:Str}{pos apos:Pos}{o e:Expr}{es:List Expr}{mo:ME}{ml:ML}{g:List D->Sto->Res D}
end
section
variable{X:Cx}{E:EW}{o:Expr}{apos cpos:Pos}{mo:ME}
end
section
variable{X:Cx}
end
section
variable{X:Cx}{E:EW}{g:Str}{gp hpos pos:Pos}{G:AK}{cs:List AK}{body suite:List Ce}{b₀:Ce}{mb mh:MS}
end
end L2
namespace L2
open PySem PySem.Spec PyProof.Rows PySem.SeqAt
def repD:D->D->Sto->Res D
 | .ref l,.int k,S=>match S[l]? with
  | some (.lst xs)=>if 0<=k/\k<=1000/\xs.length * k.toNat<=1000000 then .ok (.ref S.length) (S++[.lst (Be k.toNat xs).flatten])else .bad
  | _=>.bad
 | _,_,_=>.bad
section
variable{X:Cx}{K:AA}{ρ:List AK}{H:Hp}
def eqI(S:Sto)(x y:D):Option Bool:=match x,y with
 | .ref n,.ref m=>if n=m then none else match S[n]?,S[m]? with
  | some (.lst xs),some (.lst ys)=>if xs.length=ys.length then eqL (eqP 7) xs ys else some false
  | _,_=>none
 | _,_=>none
variable{ζ:List (AK×Obj)}{σ:St}{s:AG}
def WW{f:D->D->Option Bool}{A:BC}(ih:∀(x y:D) (b:Bool) (xv yv:V) (u v:AE),f x y=some b->Bu X.K ρ H x xv->Bu X.K ρ H y yv->RelV xv u->RelV yv v->EqAt A s u v b)
  {xs ys:List D} {vs ws:List V} {us zs:List AE} {b:Bool} (h:eqL f xs ys=some b) (r1:A0 X.K ρ H xs vs) (r2:A0 X.K ρ H ys ws) (q1:Bk vs us) (q2:Bk ws zs) :
  ∃e:Nat->Bool,(∀j (h1:j < us.toArray.size) (h2:j < zs.toArray.size),EqAt A s us.toArray[j] zs.toArray[j] (e j))/\b=((BA (min us.toArray.size zs.toArray.size)).all e&&us.toArray.size==zs.toArray.size):=by
 obtain⟨i1,i2⟩:=Sf h;refine⟨λj=>match xs[j]?,ys[j]? with | some x,some y=>(f x y).getD false | _,_=>false,λj h1 h2=>?_,?_⟩
 ·obtain⟨v,e1,rv⟩:=Bk.at_ q1 h1
  obtain⟨w,e2,rw'⟩:=Bk.at_ q2 h2;obtain⟨x,e3,rx⟩:=r1.get' e1;obtain⟨y,e4,ry⟩:=r2.get' e2;obtain⟨c,hc⟩:=i1 j x y e3 e4;have:=ih x y c v w _ _ hc rx ry rv rw';simp only[e3,e4,hc,Nr];exact this
 ·rw[i2,r1.length,r2.length,q1.length,q2.length,AU,AU]
  try congr 1
def aQ{S:Sto}{A:BC}{f:D->D->Option Bool}{n m:Nat}{xs ys:List D}{b:Bool}{p p':AK}(I:Inv X ζ σ H s)(hu:A.units+1 < Dm)(hs:CA X.K ρ S H)(g1:ρ[n]?=some p)(g2:ρ[m]?=some p')(h1:S[n]?=some (.lst xs))(h2:S[m]?=some (.lst ys))
  (ih:∀(x y:D) (b:Bool) (xv yv:V) (u v:AE),f x y=some b->Bu X.K ρ H x xv->Bu X.K ρ H y yv->RelV xv u->RelV yv v->EqAt A.in1 s u v b)
  (h:(if xs.length=ys.length then eqL f xs ys else some false)=some b):RcAt A s (.ref p) (.ref p') b/\RcNeAt A s (.ref p) (.ref p') (!b):=by
 obtain⟨vs,e1,rr⟩:=hs.ob _ _ _ h1 g1;obtain⟨vs',e2,rr'⟩:=hs.ob _ _ _ h2 g2;obtain⟨its,rv,pl,_⟩:=I.list (.inl (.inl e1));obtain⟨its2,rv2,pl2,_⟩:=I.list (.inl (.inl e2));split at h
 ·rename_i hlen
  obtain⟨e,he,rfl⟩:=WW (A:=A.in1) ih h rr rr' rv rv2
  have hsz:its.toArray.size=its2.toArray.size:=by
   simp only[AU];rw[<-rv.length,<-rv2.length,<-rr.length,<-rr'.length];exact hlen
  have e1:((BA (min its.toArray.size its2.toArray.size)).all e&&its.toArray.size==its2.toArray.size)=(BA its.toArray.size).all e:=by
   rw[<-hsz,kz,beq_self_eq_true,iD]
  rw[e1];exact⟨nD pl.isList pl2.isList hsz (by lia) he,gD pl.isList pl2.isList hsz (by lia) he⟩
 ·rename_i hlen
  cases h
  have hsz:(its.toArray.size != its2.toArray.size)=true:=by
   simp only[AU];rw[<-rv.length,<-rv2.length,<-rr.length,<-rr'.length];simpa using hlen
  exact⟨Yl pl.isList pl2.isList hsz (by lia),Ue pl.isList pl2.isList hsz (by lia)⟩
end
section
variable{P:Al}{w:BE}{K:AA}{mg:Str->Option AE}{base:B7}
def Gs{N ps:List Str}{sc:Im}(h1:N.Nodup:=by decide +kernel)(h2:∀x∈ps,sc.names.lookup x=some .local∨sc.names.lookup x=some .cell:=by decide +kernel)(h3:∀y∈sc.names,y.2≠.free:=by decide +kernel)(h4:sc.kind=.function:=by rfl)(h5:sc.isCoroutine=false:=by rfl)(h6:sc.isGenerator=false:=by rfl)(h7:N.take ps.length=ps:=by rfl):Bz N ps sc:=⟨h4,h5,h6,h1,h7,h2,h3⟩
end
section
variable{X:Cx}{E:EW}{e:Expr}{m:ME}{pos:Pos}
def CC{x:Str}(i:Nat)(hN:X.N.Nodup)(hi:X.N[i]?=some x:=by rfl)(hx:Loc X.env.scope x:=by first | exact MD rfl | exact K7 rfl)(hf:X.fn x=true∨X.env.scope.names.lookup x=some .local:=by first | exact .inl rfl | exact .inr rfl | assumption):GG X (.Name x pos) (tgN i):=et (dj hN hi hx hf)
def CO{x:Str}{pos':Pos}(i:Nat)(hN:X.N.Nodup)(he:GE X E e m)(hi:X.N[i]?=some x:=by rfl)(hx:Loc X.env.scope x:=by first | exact MD rfl | exact K7 rfl)(hs:Gb e (some (.Name x pos')) pos.line X.env=pure false:=by rfl)
  (hf:X.fn x=true∨X.env.scope.names.lookup x=some .local:=by first | exact .inl rfl | exact .inr rfl | assumption):GS X E (.Assign [.Name x pos'] e pos) (Bj i m):=jw hN hi hx he hs hf
end
end L2
namespace PySem
open Sem (wp)
section
variable{prog:Al}{w:BE}{A:BC}{R:g8->AG->Prop}{z B:AK}{fp wr:List AK}{n:Nat}{P:Nat->AE->Prop}{St:Nat->B7->Prop}{bt:Nat->Nat->Bool}{J:B7->Prop}
variable{E:AE->AG->Prop}{s:AG}
end
end PySem
namespace L2
open PySem PySem.Spec PyProof.Rows
section
variable{X:Cx}{E:EW}{e:Expr}{p pos:Pos}{m:ME}
end
end L2
namespace L2
open PySem PySem.Spec PyProof.Rows Srt
section
variable{X:Cx}{E:EW}{e a b c:Expr}{p p2 pos pos2:Pos}{m:ME}{te:TE}{ml:ML}{ta:TA}{tg:Expr}
end
end L2
namespace Srt
open PySem PyProof.Rows
section
variable{prog:Al}{w:BE}{A:BC}{E:AE->AG->Prop}{s:AG}
end
end Srt
namespace L2
open PySem PySem.Spec PyProof.Rows
open Srt (ltL)
end L2
namespace PySem
open Sem (wp)
section
variable{prog:Al}{w:BE}{A:BC}{E:AE->AG->Prop}{s:AG}{I:AK}{fp wr:List AK}{G:Array Qa->Array Qa->Prop}{n:Nat}{P:Nat->AE->Prop}{St:Nat->AG->Prop}
end
end PySem
namespace L2
open PySem PySem.Spec PyProof.Rows
section
variable{X:Cx}{E:EW}{e:Expr}{p p2 pos pos2:Pos}{m:ME}{te:TE}
end
section
variable{X:Cx}{E:EW}{a b c:Expr}{p pos:Pos}{ml:ML}{ta:TA}{tg:Expr}
end
end L2
namespace L2
open PySem PySem.Spec PyProof.Rows
open AutoSeq1 (wpAny_loadPart')
open MeetsSeq
section
variable{X:Cx}
variable{o e:Expr}{es:List Expr}{to:TE}{t:TA}{name:Str}{apos cpos:Pos}{id:String}{r:V->List V->Hp->VK->Prop}
end
section
variable{X:Cx}{E:EW}{o e:Expr}{mo mi:ME}{apos cpos:Pos}
end
section
variable{X:Cx}{E:EW}{e:Expr}{m:ME}{p pos:Pos}
end
end L2
namespace L2
open PySem PySem.Spec PyProof.Rows
section
variable{X:Cx}{E:EW}{e o f:Expr}{m mo mi:ME}{p pos apos cpos:Pos}
end
section
variable{X:Cx}{E:EW}{tg e:Expr}{m:ME}{te:TE}
end
end L2
namespace PySem
open Sem (wp)
open AutoSeq1 (wpAny_loadPart')
section
variable{prog:Al}{w:BE}{A:BC}{E:AE->AG->Prop}{s:AG}
end
end PySem
namespace PySem
section
variable{prog:Al}{w:BE}{A:BC}{E:AE->AG->Prop}{s:AG}
end
end PySem
namespace L2
open PySem PySem.Spec PyProof.Rows
section
variable{P:Al}{w:BE}{K:AA}{elts:List Expr}{x1:Nat}{pos:Pos}
end
section
variable{X:Cx}{E:EW}{e:Expr}{elts:List Expr}{x1:Nat}{p pos ptg kp vp:Pos}{j1:Nat}{m:ME}{ta:TA}
end
section
variable{X:Cx}{E:EW}{tg e:Expr}{m:ME}{K:AA}{ζ:List (AK×Obj)}{σ:St}{H:Hp}{s:AG}
def Itk(a:AK)(ob:Obj)(u:HO)(xs:List V):It:=
 ⟨λi H=>H a=some (.frz ob u)/\i < xs.length,λi H x H'=>H'=H/\xs[i]?=some x,λi H=>H a=some (.frz ob u)/\xs.length<=i⟩
def Xa{P:Al}{w:BE}{a it:AK}{ob:Obj}{u:HO}{xs:List V}{es:Array IN}{ep:Nat}(hx:ob.ExactDict)(hd:ob.data=.dict es ep)(hv:Bk xs (es.toList.map (·.key))):Su P w K tg (Itk a ob u xs) [it] it (λi h=>h.IsKeyIter it a i es.size ep) where
 mem:=by simp
 obj:=λi h st b hb=>by
  have e:b=it:=by simpa using hb
  subst e;obtain⟨o,e,c,d⟩:=st;exact⟨o,e,λv z=>by rw[d]at z;cases z⟩
 keep:=λi h h' st k=>st.at λo e=>k it (by simp) o e
 item:=by
  intro X hP hw hK hc i ζ s σ H E I hf st hg;subst hP hw hK;obtain⟨ha,hi⟩:=hg;obtain⟨g,_⟩:=(show CU X.prog X.w H s.heap a (.frz ob u)from I.hok a _ ha)
  have hs:xs.length=es.size:=by have:=hv.length;rw[AC,Bd]at this;exact this
  have hi2:i < es.size:=by rw[<-hs];exact hi
  obtain⟨v,h1,h2⟩:=hv.get (BR hi);rw[AN,E3,Q5 hi2]at h1;cases h1;obtain⟨f0,f1,f2,f3,f4,f5⟩:=hf it (by simp)
  refine Srt.T0 st ⟨ob,g,hx,hd⟩ hi2 λh' st' sb=>?_
  have I1:Inv X ζ σ H { s with heap:=h' }:=I.turned (t':=s.toks) (λb o hb e=>(sb.2 b hb).trans e) f0 f1 f3 f4 f5;obtain⟨o,e,c,d⟩:=id st';exact⟨_,rfl,Wn (s:={ s with heap:=h' }) e c d (by decide) ⟨_,H,I1,h2,⟨rfl,BR hi⟩,st',λb hb=>(hf b hb).1⟩⟩
 done:=by
  intro X hP hw hK hc i ζ s σ H E I hf st hg;subst hP hw hK;obtain⟨ha,hi⟩:=hg;obtain⟨g,_⟩:=(show CU X.prog X.w H s.heap a (.frz ob u)from I.hok a _ ha)
  have hs:xs.length=es.size:=by have:=hv.length;rw[AC,Bd]at this;exact this
  obtain⟨f0,f1,f2,f3,f4,f5⟩:=hf it (by simp)
  exact Srt.WZ (I.ok.hd hc) st ⟨ob,g,hx,hd⟩ (by rw[<-hs];exact hi) λh' eb=>⟨rfl,I.turned (t':=s.toks) (λb o hb e=>eb b o hb e) f0 f1 f3 f4 f5⟩
 self:=λ_ _ _ _ _ st h=>bn st h
def fR{P:Al}{w:BE}:∀{l:List IN} {us:List (Key×AE)} {kvs:List (Key×V)},Pairs (Cv P w) l us->KV kvs us->Bk (kvs.map λx=>kV x.1) (l.map (·.key)):=by
 intro l us kvs hp
 induction hp generalizing kvs with
 | nil=>intro h;cases h;exact .nil
 | cons q1 q2 _ ih=>
  intro h
  cases h with
  | cons r t=>
   refine .cons ?_ (ih t);dsimp only;rw[r.1]
   rcases C4 q1 with⟨i,t,e1,e2⟩ | ⟨x,t,e1,e2⟩
   ·rw[e1,e2];exact⟨t,rfl⟩
   ·rw[e1,e2];exact⟨t,rfl⟩
def bL{H:Hp}:∀{kvs:List (List Key×V)} {xs:List (List Key×AK×AE)},FZ (λ(p:List Key×V) (q:List Key×AK×AE)=>p.1=q.1/\H q.2.1=some (.tup (p.1.map kV))/\RelV p.2 q.2.2) kvs xs->FZ (λ(k:List Key×V) b=>H b=some (.tup (k.1.map kV))) kvs (xs.map (·.2.1)):=by
 intro kvs xs h
 induction h with
 | nil=>exact .nil
 | cons r _ ih=>exact .cons r.2.1 ih
def Xm(l:List AK):Bk (l.map V.ref) (l.map BB):=by
 induction l with
 | nil=>exact .nil
 | cons a l ih=>exact .cons rfl ih
def iDct(tl:TE):TI:=λσ H R=>tl σ H λx H1=>∃a ob,x=.ref a/\((∃kvs,H1 a=some (.frz ob (.dK kvs))/\R (Itk a ob (.dK kvs) (kvs.map λx=>kV x.1)) H1) ∨
 ∃kvs,H1 a=some (.frz ob (.dT kvs))/\∀bs,FZ (λ(k:List Key×V) b=>H1 b=some (.tup (k.1.map kV))) kvs bs->R (Itk a ob (.dT kvs) (bs.map V.ref)) H1)
def dh{l:Expr}{tl:TE}(hl:PE X l tl):PI X tg l (iDct tl):=by
 intro ζ s σ H R I h
 refine thn (hl ζ s σ H _ I h) λv s1 ⟨x,H1,I1,r1,q1⟩=>?_
 obtain⟨a,ob,e,q⟩:=q1;subst e;cases r1
 have fin:∀{u:HO} {xs:List V} {es:Array IN} {ep:Nat},(a==DD)=false->s1.heap.get? a=some ob->ob.ExactDict->ob.data=.dict es ep->Bk xs (es.toList.map (·.key))->R (Itk a ob u xs) H1 ->
   Av (Af X.prog X.w) X.A (Uo (.ref a)) (PIE X ζ σ tg R) X.xe s1:=λsm g g2 g3 hv q=>by
  refine Srt.T1 sm ⟨ob,g,g2,g3⟩ ?_;refine⟨s1.heap.objs.size,[s1.heap.objs.size],_,_,H1,rfl,I1.kept (t':=s1.toks) λb o e=>AJ _ e,Xa g2 g3 hv,⟨_,Ak _ rfl,rfl,rfl⟩,λb hb=>?_,q⟩
  have e:b=s1.heap.objs.size:=by simpa using hb
  subst e;exact I1.fpOk (AQ _) (I1.hok.fresh (AQ _))
 rcases q with⟨kvs,ha,q⟩ | ⟨kvs,ha,q⟩
 ·obtain⟨g,hz,sm,us,kv,o,es,ep,g1,g2,g3,g5,g6,_⟩:=(show CU X.prog X.w H1 s1.heap a (.frz ob (.dK kvs))from I1.hok a _ ha)
  rw[g]at g1;cases g1;exact fin sm g g2 g3 (fR g6 kv) q
 ·obtain⟨g,hz,sm,xs,rr,o,es,ep,g1,g2,g3,g4,_⟩:=(show CU X.prog X.w H1 s1.heap a (.frz ob (.dT kvs))from I1.hok a _ ha)
  rw[g]at g1;cases g1
  have hk:es.toList.map (·.key)=(xs.map (·.2.1)).map BB:=by
   rw[g4,Ax,Ax];rfl
  exact fin sm g g2 g3 (by rw[hk];exact Xm _) (q _ (bL rr))
def UJ(d:D)(S:Sto):Option (List D):=match d with
 | .ref n=>match S[n]? with
  | some (.fK kvs)=>some (kvs.map λx=>Vf x.1)
  | some (.fT kvs)=>some (kvs.map λx=>.tup (x.1.map Vf))
  | _=>none
 | _=>none
def Wj(m:ME):MI:=λe S=>(m e S).bind λd S1=>match UJ d S1 with
 | some ds=>.ok (D0 ds) S1
 | none=>.bad
def O9{ρ:List AK}{a:AK}{ob:Obj}{u:HO}{ds:List D}{xs:List V}(ha:H a=some (.frz ob u))(h2:A0 K ρ H ds xs):L6 K ρ H (Itk a ob u xs) (D0 ds):=by
 intro ρ2 H2 S ds' i l s hv;cases hv;have rr:=h2.mono l;have ha2:=l.frz _ _ _ ha;refine⟨λhn=>⟨ha2,by rw[<-rr.length];exact Bq.mp hn⟩,λd hd=>?_⟩;obtain⟨x,hx,rx⟩:=rr.get hd;refine⟨⟨ha2,(AF.mp hx).1⟩,λy H' ⟨e,hy⟩=>?_⟩;subst e;rw[hx]at hy;cases hy;exact⟨ρ2,.refl,s,rx⟩
def en(h:GE X E e m):GI X E tg e (Wj m):=(dh h).imp λσ H R ⟨ρ,l,S,hl,hs,hm⟩=>by
 refine⟨ρ,l,S,hl,hs,hm.seq λd S1 hm ρ1 H1 x l1 s1 r1=>?_⟩
 cases hq:UJ d S1 with
 | none=>rw[hq]at hm;exact hm.elim
 | some ds=>
  rw[hq]at hm
  cases r1 with
  | @ref n a hn=>
   obtain⟨o,ho,ro⟩:=s1.there hn;unfold UJ at hq;simp only[ho]at hq
   cases o with
   | fK kvs=>
    cases hq;obtain⟨ob,vs,e,rr⟩:=ro;exact⟨a,ob,rfl,.inl ⟨vs,e,hm ρ1 H1 _ l1 s1 (O9 e (Mu rr))⟩⟩
   | fT kvs=>
    cases hq;obtain⟨ob,vs,e,rr⟩:=ro;exact⟨a,ob,rfl,.inr ⟨vs,e,λbs hb=>hm ρ1 H1 _ l1 s1 (O9 e (Pz rr hb))⟩⟩
   | _=>cases hq
  | _=>cases hq
def Inv.fz{a:AK}{ob:Obj}{u:HO}(I:Inv X ζ σ H s)(hg:s.heap.get? a=some ob)(ha:H a=some u)(mu:Mut (some u)):Inv X ζ σ (upd H a (.frz ob u)) s:=by
 have nn:∀b,H b=none->b≠a:=λb h z=>by subst z;rw[ha]at h;cases h
 have nm:∀b o,H b=some o->¬Mut (some o)->b≠a:=λb o h n z=>by subst z;rw[ha]at h;cases h;exact n mu
 have st:∀b o,CU X.prog X.w H s.heap b o->CU X.prog X.w (upd H a (.frz ob u)) s.heap b o:=λb o x=>
  x.stay (λ_ _ _ q=>q) (λc r=>by rw[Bc (nm c _ r λz=>z)];exact r) λc xs r=>by rw[Bc (nm c _ r λz=>z)];exact r
 refine⟨I.ok,I.os,I.bare,⟨I.base.keep,I.base.slot,λb o q n hx=>?_,I.base.there,λb xs q=>?_,λb o xs q=>?_,λb ps q=>?_⟩,I.loc,I.cell,?_,λx c q=>?_,λp hp=>?_,λb o q=>?_,I.len⟩
 ·have:=I.base.free b o q n hx
  rw[Bc (nn b this)];exact this
 ·have:=I.base.tups b xs q
  rw[Bc (nm b _ this λz=>z)];exact this
 ·have:=I.base.frzs b o xs q
  rw[Bc (nm b _ this λz=>z)];exact this
 ·obtain⟨more,this⟩:=I.base.tbls b ps q
  exact⟨more,by rw[Bc (nm b _ this λz=>z)];exact this⟩
 ·rw[Bc (nn _ I.free)];exact I.free
 ·rw[Bc (nn _ (I.freeC x c q))];exact I.freeC x c q
 ·obtain⟨h1,h2,h3⟩:=I.pin p hp
  exact⟨h1,by rw[Bc (nn _ h2)];exact h2,h3⟩
 ·by_cases hb:b=a
  ·subst hb
   rw[Bm]at q;cases q;exact⟨hg,st b u (I.hok b u ha)⟩
  ·rw[Bc hb]at q
   exact st b o (I.hok b o q)
def fzO:Ob->Option Ob
 | .dK kvs=>some (.fK kvs)
 | .dT kvs=>some (.fT kvs)
 | .fK kvs=>some (.fK kvs)
 | .fT kvs=>some (.fT kvs)
 | _=>none
def sFz(i:Nat):MS:=λe S=>match e[i]? with
 | some (some (.ref n))=>match S[n]? with
  | some o=>match fzO o with
   | some o'=>.ok (.nx e) (S.set n o')
   | none=>.bad
  | none=>.bad
 | _=>.bad
def To{S:Sto}{n:Nat}{o:Ob}(h:S[n]?=some o):S.set n o=S:=by
 apply DN
 intro j;rw[FB];split
 ·rename_i c
  subst c;split
  ·exact h.symm
  ·rename_i c;rw[BJ (Hm.mp c)]at h;cases h
 ·rfl
def mU{i:Nat}{st:Ce}{ms:MS}(h:GS X E st ms):GS X E st (BF (sFz i) ms):=λζ s σ H D I ⟨ρ,l,S,hl,hs,hm⟩=>by
 cases hx:l[i]? with
 | none=>unfold BF sFz at hm;rw[hx]at hm;exact hm.elim
 | some x=>
  cases x with
  | none=>unfold BF sFz at hm;rw[hx]at hm;exact hm.elim
  | some d=>
   cases d with
   | ref n=>
    cases ho:S[n]? with
    | none=>unfold BF sFz at hm;rw[hx]at hm;dsimp only at hm;rw[ho]at hm;exact hm.elim
    | some o=>
     cases hf:fzO o with
     | none=>unfold BF sFz at hm;rw[hx]at hm;dsimp only at hm;rw[ho]at hm;dsimp only at hm;rw[hf]at hm;exact hm.elim
     | some o'=>
      have hm2:CK X.K noH ρ H (ms l (S.set n o')) λfl S'=>OQ X.K E ρ H S' D fl:=by
       unfold BF sFz at hm;rw[hx]at hm;dsimp only at hm;rw[ho]at hm;dsimp only at hm;rw[hf]at hm;exact hm
      obtain⟨a,hn,ro⟩:=hs.at ho
      have fr:∀u,H a=some u->Mut (some u)->(∃ob,s.heap.get? a=some ob)->(∀ob,E2 X.K ρ (upd H a (.frz ob u)) a o')->Av (Af X.prog X.w) X.A (exec st X.env) _ _ s:=λu ha mu ⟨ob,hg⟩ ra=>by
       have le:Le X.K ρ H ρ (upd H a (.frz ob u)):=Le.write hn (by rw[ha];exact mu);obtain⟨s5,_⟩:=hs.write hn (ra ob) le;exact h ζ s σ _ D (I.fz hg ha mu) ⟨ρ,l,_,hl.mono le,s5,hm2.go le λ_ _ k=>k.later le⟩
      cases o with
      | dK kvs=>
       cases hf;obtain⟨vs,e,rr⟩:=ro
       refine fr _ e trivial ?_ λob=>⟨ob,vs,Bm,KVR.mono (Le.write hn (by rw[e];trivial)) rr⟩
       obtain⟨_,_,_,_,o,_,_,e,_⟩:=(show CU X.prog X.w H s.heap a (.dK vs)from I.hok a _ e);exact⟨o,e⟩
      | dT kvs=>
       cases hf;obtain⟨vs,e,rr⟩:=ro
       refine fr _ e trivial ?_ λob=>⟨ob,vs,Bm,KVR.mono (Le.write hn (by rw[e];trivial)) rr⟩
       obtain⟨_,_,_,_,o,_,_,e,_⟩:=(show CU X.prog X.w H s.heap a (.dT vs)from I.hok a _ e);exact⟨o,e⟩
      | fK kvs=>cases hf;rw[To ho]at hm2;exact h ζ s σ H D I ⟨ρ,l,S,hl,hs,hm2⟩
      | fT kvs=>cases hf;rw[To ho]at hm2;exact h ζ s σ H D I ⟨ρ,l,S,hl,hs,hm2⟩
      | _=>cases hf
   | _=>unfold BF sFz at hm;rw[hx]at hm;exact hm.elim
end
section
variable{X:Cx}{E:EW}{e o f:Expr}{p pos apos cpos:Pos}{m mo me mf:ME}{te:TE}
def Xd(te:TE):TE:=λσ H Q=>te σ H λx H1=>∃a kvs,x=.ref a/\H1 a=some (.dK kvs)/\∀q,H1 q=none->Q (.ref q) (upd H1 q (.lst (kvs.map (·.2))))
def Wh:∀{kvs:List (Key×V)} {us:List (Key×AE)},KV kvs us->Bk (kvs.map (·.2)) (us.map (·.2))
 | _,_,.nil=>.nil
 | _,_,.cons r t=>.cons r.2 (Wh t)
def T4(hc:X.calm=true)(hg:Gl X "list") (hm:X.mg "list" = none) (h:PE X e te)
  (hbase:Cb e "values" X.env (Bw e X.env)=Bw e X.env:=by rfl) (hline:(apos.endLine==cpos.line)=true:=by rfl)
  (he2:AS [.Call (.Attribute e "values" apos) [] [] cpos] X.env=(false,Bw (.Call (.Attribute e "values" apos) [] [] cpos) X.env) :: AS [] X.env:=by rfl) :
  PE X (.Call (.Name "list" p) [.Call (.Attribute e "values" apos) [] [] cpos] [] pos) (Xd te):=by
 intro ζ s σ H Q I hq;refine DC (IV I hg hm Fy ?_ (by decide) (by decide));refine Br ?_ he2 rfl;rw[he2];show Av _ _ (Ud ((false,Bw (.Call (.Attribute e "values" apos) [] [] cpos) X.env) :: Da pos (AS [] X.env))) _ _ s;refine Gc ?_;refine Yh hbase hline (thn (h ζ s σ H _ I hq) λv s1 ⟨x,H1,I1,r1,a,kvs,ex,ha,q⟩=>?_);subst ex;cases r1;obtain⟨t1,t2,_⟩:=aa I1 (.inl ⟨kvs,.inl ha⟩);obtain⟨hz,sm,us,kv,dd⟩:=(show CU X.prog X.w H1 s1.heap a (.dK kvs)from I1.hok a _ ha);refine⟨"dict", "dict.values",Q2,QV,PySem.F.type_dict_values,t1,t2,G5 rfl (V8 ?_)⟩;refine call_meetsIn QV t1 PySem.F.entry_dict_values (PySem.F.args_dict_values_1 _) (meets_dict_values (Cv X.prog X.w) a sm) ⟨⟨us,dd⟩,?_⟩;refine G4 ?_;obtain⟨ep,hat⟩:=dd.dictAt;have hl:kvs.length=us.length:=Dz kv
 refine PySem.W.kdl_call (PySem.W.kdl_values (knd:=Cv X.prog X.w) (kvs:=us) (ep:=ep)) (I.ok.hd hc) ⟨⟨_,Ak _ rfl,rfl,rfl⟩,hat.push _⟩ (by rw[<-hl];exact hz) λh' tk acc c hk hL hacc=>?_
 have k:∀b o,s1.heap.get? b=some o->h'.get? b=some o:=λb o e=>hk b o (AJ _ e)
 have ea:acc.toList=us.map (·.2):=PySem.W.kdl_vals_eq acc.toList (by rw[Bd];exact hacc.1) λj v e=>hacc.2 j v (by rw[<-E3];exact e)
 have hle:s1.heap.objs.size<=(s1.heap.push { cls:=.type "dict_values",data:=.fields #[.ref a] }).objs.size:=by rw[C5];exact G2 _
 refine⟨.ref (s1.heap.push { cls:=.type "dict_values",data:=.fields #[.ref a] }).objs.size,upd H1 _ (.lst (kvs.map (·.2))),I1.laid (t':=tk) k hle ⟨by rw[AC];exact hz,acc.toList,c,by rw[ea];exact Wh kv,by rw[Array.toArray_toList];exact hL⟩,rfl,q _ (I1.hok.fresh hle)⟩
def LG(m:ME):ME:=λe S=>(m e S).bind λd S1=>match d with
 | .ref n=>match S1[n]? with
  | some (.dK kvs)=>.ok (.ref S1.length) (S1++[.lst (kvs.map (·.2))])
  | _=>.bad
 | _=>.bad
def UI{K:AA}{ρ:List AK}{H:Hp}:∀{kvs:List (Key×D)} {kvs':List (Key×V)},KVR K ρ H kvs kvs'->A0 K ρ H (kvs.map (·.2)) (kvs'.map (·.2))
 | _,_,.nil=>.nil
 | _,_,.cons r t=>.cons r.2 (UI t)
def UO(hc:X.calm=true)(hg:Gl X "list") (hm:X.mg "list" = none) (h:GE X E e m)
  (hbase:Cb e "values" X.env (Bw e X.env)=Bw e X.env:=by rfl) (hline:(apos.endLine==cpos.line)=true:=by rfl)
  (he2:AS [.Call (.Attribute e "values" apos) [] [] cpos] X.env=(false,Bw (.Call (.Attribute e "values" apos) [] [] cpos) X.env) :: AS [] X.env:=by rfl) :
  GE X E (.Call (.Name "list" p) [.Call (.Attribute e "values" apos) [] [] cpos] [] pos) (LG m):=(T4 hc hg hm h hbase hline he2).imp λσ H Q ⟨ρ,l,S,hl,hs,hm⟩=>by
 refine⟨ρ,l,S,hl,hs,hm.seq λd S1 hm ρ1 H1 x l1 s1 r1=>?_⟩;split at hm
 ·rename_i n
  split at hm
  ·rename_i kvs hn
   cases r1 with
   | @ref _ a ha=>
    obtain⟨vs,e,rr⟩:=s1.ob n _ _ hn ha;refine⟨a,vs,rfl,e,λq hq=>?_⟩;have le:Le X.K ρ1 H1 (ρ1++[q]) (upd H1 q (.lst (vs.map (·.2)))):=Le.alloc hq;obtain⟨s4,l4,at4⟩:=s1.alloc (ho:=.lst (vs.map (·.2))) (o:=.lst (kvs.map (·.2))) hq ⟨_,Bm,(UI rr).mono le⟩;exact hm _ _ _ (l1.trans l4) s4 (.ref at4)
  ·exact hm.elim
 ·exact hm.elim
end
end L2
namespace L2
open PySem PySem.Spec PyProof.Rows PySem.SeqAt
def Wy(S:Sto)(x y:D):Option Bool:=match x with
 | .ref _=>eqI S x y
 | _=>eqP 6 x y
def fL(x y:D)(S:Sto):Option Bool:=match x,y with
 | .tup xs,.tup ys=>eqL (Wy S) xs ys
 | _,_=>none
def fN(neg:Bool)(x y:D)(S:Sto):Res D:=match fL x y S with
 | some b=>.ok (.bl (if neg then !b else b)) S
 | none=>.bad
section
variable{X:Cx}{ρ:List AK}{H:Hp}{ζ:List (AK×Obj)}{σ:St}{s:AG}
def kC{S:Sto}{A:BC}{x y:D}{b:Bool}{xv yv:V}{u v:AE}(I:Inv X ζ σ H s)(hu:A.units+32 < Dm)(hs:CA X.K ρ S H)(hf:eqI S x y=some b)(a1:Bu X.K ρ H x xv)(a2:Bu X.K ρ H y yv)(b1:RelV xv u)(b2:RelV yv v):EqAt A s u v b:=by
 unfold eqI at hf;split at hf
 ·rename_i n' m'
  split at hf
  ·cases hf
  ·rename_i hne
   split at hf
   ·rename_i xs' ys' h3 h4
    cases a1 with
    | @ref _ o k1=>
     cases a2 with
     | @ref _ o' k2=>
      cases b1;cases b2;exact kl (λe=>hne (hs.nd _ _ _ k1 (e▸k2))) (aQ (A:=A) I (by lia) hs k1 k2 h3 h4 (λx y b xv yv u v g1 g2 g3 g4 g5=>QD I 7 A.in1 x y b xv yv u v (by rw[El];lia) g1 g2 g3 g4 g5) hf).1
   ·cases hf
 ·cases hf
def fJ{S:Sto}{x y:D}{b:Bool}{xv yv:V}{u v:AE}(I:Inv X ζ σ H s)(hu:X.A.units+64 < Dm)(hs:CA X.K ρ S H)(r1:Bu X.K ρ H x xv)(r2:Bu X.K ρ H y yv)(q1:RelV xv u)(q2:RelV yv v)(h:fL x y S=some b) :
  RcAt X.A s u v b/\RcNeAt X.A s u v (!b):=by
 unfold fL at h;split at h
 ·rename_i xs ys
  cases r1 with
  | @tup _ a vs a1 a2=>
   cases r2 with
   | @tup _ c ws b1 b2=>
    cases q1;cases q2;obtain⟨its,rv,p,_⟩:=I.tuple (.inl (.inl a1));obtain⟨its2,rw',p2,_⟩:=I.tuple (.inl (.inl b1))
    obtain⟨e,he,rfl⟩:=WW (A:=X.A.in1) (λx y b xv yv u v g1 g2 g3 g4 g5=>by
     unfold Wy at g1;split at g1
     ·exact kC I (by rw[El];lia) hs g1 g2 g3 g4 g5
     ·exact QD I 6 X.A.in1 x y b xv yv u v (by rw[El];lia) g1 g2 g3 g4 g5) h a2 b2 rv rw'
    exact⟨V7 p p2 (by lia) he,br p p2 (by lia) he⟩
 ·cases h
def je(hu:X.A.units+64 < Dm):OpR X (Bi .Eq) (rD X.K (fN false)):=by
 intro ζ s σ H x y v u Q I rx ry h;obtain⟨ρ,S,a,b,d,S',hs,ra,rb,hm,k⟩:=h;unfold fN at hm;split at hm
 ·rename_i c hc
  cases hm;exact(fJ I hu hs ra rb rx ry hc).1 _ _ _ _ ⟨.bl c,H,I,rfl,k ρ H _ .refl hs (.bl _)⟩
 ·cases hm
end
end L2
namespace L2
open PySem PySem.Spec PyProof.Rows
abbrev Cx.q(X:Cx):Cx:={ X with xe:=λ_ _=>False }
def EY(n:Nat)(mb:MS)(ds:List D)(S:Sto):Res D:=(okR (mb (DF n ds) S)).bind λf S1=>match f with
 | .rt d=>.ok d S1
 | .nx _=>.ok .non S1
 | _=>.bad
section
variable{P:Al}{w:BE}{K:AA}{mg:Str->Option AE}{base:B7}
def fE{x qual:Str}{st:Ce}{f:AK}{fd:Dg}{N ps:List Str}{k n:Nat}(F:Fun K x qual st f fd)(Sc:Bz N ps (An st))(hn:ps.length=n){mb:MS}
  (hbody:∀(cdv:AE) (A:BC) (outer:List Env) (s:AG) (H:Hp) (E:XK),Hw k (A.deeper (Lh qual (An st) s.heap.objs.size f cdv))->GSs (Vv (CXG P w) P w K mg base N qual (An st) f cdv A outer s H E).q noE (Bt st) mb) :
  Dh P w K mg base (CXG P w) (k+1) f fd ps (spM K n (EY N.length mb)):=by
 obtain⟨oc,od,kV,doc,pm,an,cdv,ct,osl,rfl,lk,hcd⟩:=F.ex
 refine mY lk hcd Sc (λvs H Q E h=>by rw[hn];exact h.len) λA outer s H vs Q E hr h=>?_
 obtain⟨ρ,ds,S,h1,h2,h3,h4⟩:=h;have hb:=hbody cdv A outer s H E hr;refine⟨gS K noE mb,λζ s' σ H' D I q=>HA (hb ζ s' σ H' D (I.with _) q) (λfl s1 z=>?_) λe s1 z=>z.elim,ρ,_,S,VM h2,h3,?_⟩
 ·cases fl with
  | next=>obtain⟨σ',H2,J,z⟩:=z;exact⟨σ',H2,J.without,z⟩
  | brk=>obtain⟨σ',H2,J,z⟩:=z;exact⟨σ',H2,J.without,z⟩
  | cont=>obtain⟨σ',H2,J,z⟩:=z;exact⟨σ',H2,J.without,z⟩
  | ret u=>obtain⟨v,σ',H2,J,r,z⟩:=z;exact⟨v,σ',H2,J.without,r,z⟩
 ·unfold EY at h4
  cases hr:mb (DF N.length ds) S with
  | bad=>rw[hr]at h4;exact h4.elim
  | err c S'=>rw[hr]at h4;exact h4.elim
  | ok fl S'=>
   rw[hr]at h4
   cases fl with
   | nx e'=>exact λρ' H' σ' l s' r=>h4 ρ' H' .non l s' .non
   | rt d=>exact h4
   | bk e'=>exact h4.elim
   | ct e'=>exact h4.elim
   | ex c e'=>exact h4.elim
end
def rIsQ(K:AA)(c:V)(cv:AE):List V->Hp->VK->Prop:=λxs H Q=>∃x t b,xs=[x,c]/\NA K H x t/\Db K t cv=some b/\Q (.bl b) H
section
variable{X:Cx}{E:EW}{e ce:Expr}{p pos:Pos}{m:ME}{c:V}{cv:AE}{tab:String->Option Bool}
def bT(hv:∀u,RelV c u->u=cv):Ij X (.builtin "isinstance") (rIsQ X.K c cv):=by
 intro ζ s σ H xs us Q I r h;obtain⟨x,t,b,rfl,ty,e,q⟩:=h;obtain⟨v,w,rfl,r1,r2⟩:=vals2 r;rw[hv w r2]
 exact X9 I r1 ty e λtk=>⟨.bl b,H,I.tok tk,rfl,q⟩
def eS(tab:String->Option Bool)(m:ME):ME:=λe S=>(m e S).bind λd S1=>match tyD d S1 with
  | some T=>match tab T with
   | some b=>.ok (.bl b) S1
   | none=>.bad
  | none=>.bad
def P8(hv:∀u,RelV c u->u=cv)(ht:∀T b,tab T=some b->Db X.K (.type T) cv=some b)
  (hg:Gl X "isinstance") (hm:X.mg "isinstance" = none) (h:GE X E e m) (hce:PE X ce (tC c))
  (he:AS [e,ce] X.env=(false,Bw e X.env) :: AS [ce] X.env:=by rfl) (he2:AS [ce] X.env=(false,Bw ce X.env) :: AS [] X.env:=by rfl) (hpl:(Da pos (AS [ce] X.env)).any (·.1)=false:=by rfl) :
  GE X E (.Call (.Name "isinstance" p) [e,ce] [] pos) (eS tab m):=
 (Kf (bT hv) hg hm nO (FS h (FS hce Hq he2) he) (by decide) (by decide) he hpl).imp λσ H Q ⟨ρ,l,S,hl,hs,hm⟩=>by
 refine⟨ρ,l,S,hl,hs,hm.seq λd S1 hm ρ1 H1 x l1 s1 r1=>?_⟩
 cases hq:tyD d S1 with
 | none=>rw[hq]at hm;exact hm.elim
 | some T=>
  rw[hq]at hm;dsimp only at hm
  cases hb:tab T with
  | none=>rw[hb]at hm;exact hm.elim
  | some b=>
   rw[hb]at hm;exact⟨x,_,b,rfl,iU s1 r1 hq,ht T b hb,hm ρ1 H1 _ l1 s1 (.bl _)⟩
end
end L2
namespace M
open PySem L2
abbrev oN(e:L2.Lo)(S:L2.Sto):L2.Res L2.Fl:=.ok (.nx e) S
abbrev sR(n:Nat):Option L2.D:=some (.ref n)
abbrev sI(i:Int):Option L2.D:=some (.int i)
abbrev sF(l:List Int):Option L2.D:=some (.fro (l.map L2.D.int))
def DJ{n:Nat}{mb:MS}{ds:List D}{S S1:Sto}{d:D}(h:mb (DF n ds) S=.ok (.rt d) S1):EY n mb ds S=.ok d S1:=by unfold EY;rw[h];rfl
def VO{n:Nat}{mb:MS}{ds:List D}{S S1:Sto}{e:Lo}(h:mb (DF n ds) S=.ok (.nx e) S1):EY n mb ds S=.ok .non S1:=by unfold EY;rw[h];rfl
abbrev mIs(tab:String->Option Bool)(_:AK->Option Bool)(m:ME):ME:=eS tab m
def aZ{tab:String->Option Bool}{tabC:AK->Option Bool}{m:ME}{e:Lo}{S S1:Sto}{d:D}{T:String}{b:Bool}(h:m e S=.ok d S1)(ht:tyD d S1=some T)(hb:tab T=some b):mIs tab tabC m e S=.ok (.bl b) S1:=by
 show eS tab m e S=_;unfold eS;rw[h];dsimp only[Res.bind];rw[ht];dsimp only;rw[hb]
end M
namespace L4
open PySem L2
inductive Cel where
 | no | fz (o:Ob) | ow (i:Nat)
abbrev Fz:=Nat->Cel
inductive Sl where
 | u | v (d:D) | z (o:Ob) | y (o:Ob) | w (i:Nat) (o:Ob) | q (P:(Nat->Option Ob)->D->Prop)
def Sl.ok(S0:Sto)(F:Fz)(S:Sto):Sl->Option D->Prop
 | .u,_=>True
 | .v d,x=>x=some d
 | .z o,x=>∃n,x=some (.ref n)/\F n=.fz o
 | .y o,x=>∃n,x=some (.ref n)/\F n=.fz o/\S0.length<=n
 | .w i o,x=>∃n,x=some (.ref n)/\F n=.ow i/\S[n]?=some o
 | .q P,x=>∃d,x=some d/\∀L:Nat->Option Ob,(∀n o,F n=.fz o->L n=some o)->P L d
structure Vs(S0:Sto)(A:List Sl)(e:Lo)(F:Fz)(S:Sto):Prop where
 kp:Keeps S0 S
 fz:∀n o,F n=.fz o->S[n]?=some o
 ow:∀n i,F n=.ow i->S0.length<=n/\n < S.length
 hi:∀n,S.length<=n->F n=.no
 sl:∀(i:Nat) (a:Sl),A[i]?=some a->∃x,e[i]?=some x/\a.ok S0 F S x
def Fle(F F':Fz):Prop:=∀n o,F n=.fz o->F' n=.fz o
def Fle.refl(F:Fz):Fle F F:=λ_ _ h=>h
def Fle.trans{F G H:Fz}(a:Fle F G)(b:Fle G H):Fle F H:=λn o h=>b n o (a n o h)
def Nn(F:Fz)(S S':Sto):Fz:=λn=>if n < S.length then F n else match S'[n]? with
 | some o=>.fz o
 | none=>.no
section
variable{S0 S S':Sto}{A B:List Sl}{e:Lo}{F:Fz}{α β γ ρ σ τ:Type}
def Ft{n:Nat}(h:n < S.length):Nn F S S' n=F n:=qX h
def bF{n:Nat}{o:Ob}(h:S.length<=n)(ho:S'[n]?=some o):Nn F S S' n=.fz o:=by
 unfold Nn;rw[qY (Hm.mpr h),ho]
def Bo{n:Nat}{o:Ob}(h:S[n]?=some o):n < S.length:=(AF.mp h).1
def Sl.mono{S0:Sto}{F F':Fz}{S S':Sto}{a:Sl}{x:Option D}(h:a.ok S0 F S x)(h1:∀n o,F n=.fz o->F' n=.fz o)(h2:∀n i o,F n=.ow i->S[n]?=some o->F' n=.ow i/\S'[n]?=some o):a.ok S0 F' S' x:=by
 cases a with
 | u=>trivial
 | v d=>exact h
 | z o=>obtain⟨n,h3,h4⟩:=h;exact⟨n,h3,h1 _ _ h4⟩
 | y o=>obtain⟨n,h3,h4,h5⟩:=h;exact⟨n,h3,h1 _ _ h4,h5⟩
 | w i o=>obtain⟨n,h3,h4,h5⟩:=h;exact⟨n,h3,h2 _ _ _ h4 h5⟩
 | q P=>obtain⟨d,h3,h4⟩:=h;exact⟨d,h3,λL hL=>h4 L λn o q=>hL n o (h1 n o q)⟩
def Vs.fle(h:Vs S0 A e F S)(S':Sto):Fle F (Nn F S S'):=λn o q=>by rw[Ft (Bo (h.fz n o q))];exact q
def Vs.grow(h:Vs S0 A e F S)(k:Keeps S S'):Vs S0 A e (Nn F S S') S':=by
 refine⟨h.kp.trans k,λn o q=>?_,λn i q=>?_,λn hn=>?_,λi a ha=>?_⟩
 ·unfold Nn at q
  split at q
  ·rename_i hn
   rw[k.2 n hn];exact h.fz n o q
  ·cases hs:S'[n]? with
   | none=>rw[hs]at q;cases q
   | some o'=>rw[hs]at q;cases q;rfl
 ·unfold Nn at q
  split at q
  ·exact⟨(h.ow n i q).1,Ab (h.ow n i q).2 k.1⟩
  ·cases hs:S'[n]? with
   | none=>rw[hs]at q;cases q
   | some o'=>rw[hs]at q;cases q
 ·unfold Nn
  rw[qY (Hm.mpr (At k.1 hn)),BJ hn]
 ·obtain⟨x,h1,h2⟩:=h.sl i a ha
  exact⟨x,h1,Sl.mono h2 (h.fle S') λn i o q1 q2=>⟨by rw[Ft (Bo q2)];exact q1,by rw[k.2 n (Bo q2)];exact q2⟩⟩
def Vs.cons(h:Vs S0 A e F S){a:Sl}{x:Option D}(hx:a.ok S0 F S x):Vs S0 (a :: A) (x :: e) F S:=
 ⟨h.kp,h.fz,h.ow,h.hi,λi b hb=>by
  cases i with
  | zero=>cases hb;exact⟨x,rfl,hx⟩
  | succ i=>exact h.sl i b hb⟩
def Vs.set(h:Vs S0 A e F S){a:Sl}{x:Option D}(i:Nat)(hx:a.ok S0 F S x):Vs S0 (A.set i a) (e.set i x) F S:=
 ⟨h.kp,h.fz,h.ow,h.hi,λj b hb=>by
  by_cases c:i=j
  ·subst c
   rw[FB]at hb;rw[qX rfl]at hb;split at hb
   ·rename_i hl
    cases hb;obtain⟨y,hy,_⟩:=h.sl i (A[i]) (BR hl);exact⟨x,by rw[FB];rw[qX rfl,qX (AF.mp hy).1],hx⟩
   ·cases hb
  ·rw[AW c]at hb ⊢
   exact h.sl j b hb⟩
inductive Wk:List Sl->List Sl->Prop where
 | nil:Wk [] []
 | same {a:Sl} {A B:List Sl}:Wk A B->Wk (a :: A) (a :: B)
 | drop {a:Sl} {A B:List Sl}:Wk A B->Wk (a :: A) (.u :: B)
 | less {o:Ob} {A B:List Sl}:Wk A B->Wk (.y o :: A) (.z o :: B)
def Wk.at:∀{A B:List Sl},Wk A B->∀(i:Nat) (b:Sl),B[i]?=some b->∃a,A[i]?=some a/\(b=.u∨b=a∨∃o,a=.y o/\b=.z o)
 | _,_,.nil,i,b,h=>by simp at h
 | _,_,.same w,0,b,h=>by cases h;exact⟨_,rfl,.inr (.inl rfl)⟩
 | _,_,.less w,0,b,h=>by cases h;exact⟨_,rfl,.inr (.inr ⟨_,rfl,rfl⟩)⟩
 | _,_,.less w,i+1,b,h=>Wk.at w i b h
 | _,_,.drop w,0,b,h=>by cases h;exact⟨_,rfl,.inl rfl⟩
 | _,_,.same w,i+1,b,h=>Wk.at w i b h
 | _,_,.drop w,i+1,b,h=>Wk.at w i b h
def Vs.weak(h:Vs S0 A e F S)(w:Wk A B):Vs S0 B e F S:=⟨h.kp,h.fz,h.ow,h.hi,λi b hb=>by
 obtain⟨a,h1,h2⟩:=w.at i b hb;obtain⟨x,h3,h4⟩:=h.sl i a h1
 rcases h2 with rfl | rfl | ⟨o,rfl,rfl⟩
 ·exact⟨x,h3,trivial⟩
 ·exact⟨x,h3,h4⟩
 ·obtain⟨n,h5,h6,_⟩:=h4
  exact⟨x,h3,n,h5,h6⟩⟩
def Sl.oth(i:Nat):Sl->Bool
 | .w k _=>!(Nat.beq k i)
 | _=>true
def Z1{i j k:Nat}{o:Ob}(h:((A.set i .u).all (Sl.oth i))=true)(hj:j≠i)(ha:A[j]?=some (.w k o)):k≠i:=by
 have h1:(A.set i .u)[j]?=some (.w k o):=by rw[AW (CB hj)];exact ha
 have:=ES.mp h _ (BD h1);intro e;subst e;have h2:(!(Nat.beq k k))=true:=this;rw[Nat.beq_refl]at h2;cases h2
def Vs.put(h:Vs S0 A e F S){i n:Nat}{o o':Ob}(ht:((A.set i .u).all (Sl.oth i))=true)(ha:A[i]?=some (.w i o))(hx:e[i]?=some (some (.ref n)))(hn:F n=.ow i):Vs S0 (A.set i (.w i o')) e F (S.set n o'):=by
 have hl:=h.ow n i hn;refine⟨h.kp.set hl.1 o',λk q hq=>?_,λk j q=>by rw[DQ];exact h.ow k j q,λk hk=>h.hi k (by rw[DQ]at hk;exact hk),λj b hb=>?_⟩
 ·have:n≠k:=λc=>by subst c;rw[hn]at hq;cases hq
  rw[AW this];exact h.fz k q hq
 ·by_cases c:i=j
  ·subst c
   rw[FB]at hb;rw[qX rfl]at hb;split at hb
   ·cases hb
    exact⟨_,hx,n,rfl,hn,by rw[FB];rw[qX rfl,qX hl.2]⟩
   ·cases hb
  ·rw[AW c]at hb
   obtain⟨x,h1,h2⟩:=h.sl j b hb;refine⟨x,h1,?_⟩
   cases b with
   | u=>trivial
   | v d=>exact h2
   | z q=>exact h2
   | y q=>exact h2
   | q P=>exact h2
   | w k q=>
    obtain⟨m,h3,h4,h5⟩:=h2;refine⟨m,h3,h4,?_⟩
    have:n≠m:=λz=>by
     subst z;rw[hn]at h4;cases h4;exact Z1 ht (λz=>c z.symm) hb rfl
    rw[AW this];exact h5
def Vs.freeze(h:Vs S0 A e F S){i:Nat}{o:Ob}(ht:((A.set i .u).all (Sl.oth i))=true)(ha:A[i]?=some (.w i o)):∃F',Vs S0 (A.set i (.y o)) e F' S/\Fle F F':=by
 obtain⟨x,hx,n,rfl,hn,ho⟩:=h.sl i _ ha
 have g:∀k,k≠n->(if k=n then Cel.fz o else F k)=F k:=λk hk=>qY hk
 have fl:Fle F (λk=>if k=n then Cel.fz o else F k):=λk q hq=>by
  have:k≠n:=λc=>by subst c;rw[hn]at hq;cases hq
  show(if k=n then Cel.fz o else F k)=_;rw[qY this];exact hq
 refine⟨λk=>if k=n then .fz o else F k,⟨h.kp,λk q hq=>?_,λk j q=>?_,λk hk=>?_,λj b hb=>?_⟩,fl⟩
 ·split at hq
  ·rename_i c;cases hq;subst c;exact ho
  ·exact h.fz k q hq
 ·split at q
  ·cases q
  ·exact h.ow k j q
 ·have:k≠n:=λc=>by subst c;exact zX (Bo ho) (Hm.mpr hk)
  show(if k=n then Cel.fz o else F k)=_;rw[qY this];exact h.hi k hk
 ·by_cases c:i=j
  ·subst c
   rw[FB]at hb;rw[qX rfl]at hb;split at hb
   ·cases hb
    exact⟨_,hx,n,rfl,qX rfl,(h.ow n i hn).1⟩
   ·cases hb
  ·rw[AW c]at hb
   obtain⟨x,h1,h2⟩:=h.sl j b hb;refine⟨x,h1,?_⟩
   cases b with
   | u=>trivial
   | v d=>exact h2
   | z q=>obtain⟨m,h3,h4⟩:=h2;exact⟨m,h3,fl _ _ h4⟩
   | y q=>obtain⟨m,h3,h4,h5⟩:=h2;exact⟨m,h3,fl _ _ h4,h5⟩
   | q P=>obtain⟨d,h3,h4⟩:=h2;exact⟨d,h3,λL hL=>h4 L λn o q=>hL n o (fl n o q)⟩
   | w k q=>
    obtain⟨m,h3,h4,h5⟩:=h2;refine⟨m,h3,?_,h5⟩
    have:m≠n:=λz=>by
     subst z;rw[hn]at h4;cases h4;exact Z1 ht (λz=>c z.symm) hb rfl
    show(if m=n then Cel.fz o else F m)=_;rw[qY this];exact h4
def Vs.own(h:Vs S0 A e F S)(k:Keeps S S'){i n:Nat}{o:Ob}(hn:S.length<=n)(ho:S'[n]?=some o):∃F',Vs S0 (A.set i (.w i o)) (e.set i (some (.ref n))) F' S'/\Fle F F':=by
 have g:=h.grow k;have hnl:=Bo ho
 have fl:Fle F (λj=>if j=n then Cel.ow i else Nn F S S' j):=λj q hq=>by
  have:j≠n:=λc=>by subst c;exact zX (Bo (h.fz _ _ hq)) (Hm.mpr hn)
  show(if j=n then Cel.ow i else _)=_;rw[qY this];exact h.fle S' _ _ hq
 refine⟨λj=>if j=n then .ow i else Nn F S S' j,(Vs.set (a:=.w i o) (x:=some (.ref n)) ⟨g.kp,λj q hq=>?_,λj q hq=>?_,λj hj=>?_,λj b hb=>?_⟩ i ⟨n,rfl,qX rfl,ho⟩),fl⟩
 ·split at hq
  ·cases hq
  ·exact g.fz j q hq
 ·split at hq
  ·rename_i c;subst c;exact⟨At h.kp.1 hn,hnl⟩
  ·exact g.ow j q hq
 ·have:j≠n:=λc=>by subst c;exact zX hnl (Hm.mpr hj)
  show(if j=n then Cel.ow i else _)=_;rw[qY this];exact g.hi j hj
 ·obtain⟨x,h1,h2⟩:=h.sl j b hb
  refine⟨x,h1,Sl.mono h2 fl λm j q q1 q2=>?_⟩;have hm:=Bo q2
  have:m≠n:=λc=>by subst c;exact zX hm (Hm.mpr hn)
  refine⟨?_,by rw[k.2 m hm];exact q2⟩;show(if m=n then Cel.ow i else _)=_;rw[qY this,Ft hm];exact q1
abbrev Rk(α:Type):=α->Sto->D->Sto->Prop
def rV(enc:α->D):Rk α:=λv _ d _=>d=enc v
def rO(ob:α->Ob):Rk α:=λv _ d S=>∃n,d=.ref n/\S[n]?=some (ob v)
def rN(ob:α->Ob):Rk α:=λv S0 d S=>∃n,d=.ref n/\S0.length<=n/\S[n]?=some (ob v)
def VE(A:List Sl)(m:ME)(R:Rk α)(p:Option α):Prop:=∀v,p=some v->∀S0 e F S,Vs S0 A e F S->∃d S',m e S=.ok d S'/\Keeps S S'/\R v S d S'
def VB(A:List Sl)(t:MT)(p:Option Bool):Prop:=∀v,p=some v->∀S0 e F S,Vs S0 A e F S->∃S',t e S=.ok v S'/\Keeps S S'
def VL(A:List Sl)(ml:ML)(enc:α->D)(p:Option (List α)):Prop:=∀v,p=some v->∀S0 e F S,Vs S0 A e F S->∃S',ml e S=.ok (v.map enc) S'/\Keeps S S'
def VK(A:List Sl)(mi:MI)(enc:α->D)(p:Option (List α)):Prop:=∀v,p=some v->∀S0 e F S,Vs S0 A e F S->∃w S',mi e S=.ok w S'/\Keeps S S'/\∀S'',Keeps S' S''->w S''=some (v.map enc)
def VI(A:List Sl)(mi:MI)(enc:α->D)(p:Option (List α)):Prop:=∀v,p=some v->∀S0 e F S,Vs S0 A e F S->∃w S',mi e S=.ok w S'/\Keeps S S'/\∀F'' S'',Fle (Nn F S S') F''->(∀n o,F'' n=.fz o->S''[n]?=some o)->w S''=some (v.map enc)
def VI.k{mi:MI}{enc:α->D}{p:Option (List α)}(h:VI A mi enc p):VK A mi enc p:=λv hv S0 e F S hs=>by
 obtain⟨w,S',h1,h2,h3⟩:=h v hv S0 e F S hs;have g:=hs.grow h2;exact⟨w,S',h1,h2,λS'' k=>h3 _ S'' (g.fle S'') (g.grow k).fz⟩
def eT(enc:α->D)(l:List α):D:=.tup (l.map enc)
def eP(a:α->D)(b:β->D)(x:α×β):D:=.tup [a x.1,b x.2]
def eU(_:Unit):D:=.non
def eF(l:List Int):D:=.fro (l.map D.int)
def oL(enc:α->D)(l:List α):Ob:=.lst (l.map enc)
def iR{m:ME}{R R':Rk α}{p:Option α}(h:VE A m R p)(i:∀v S d S',R v S d S'->R' v S d S'):VE A m R' p:=λv hv S0 e F S hs=>by
 obtain⟨d,S',h1,h2,h3⟩:=h v hv S0 e F S hs;exact⟨d,S',h1,h2,i _ _ _ _ h3⟩
def Hy{m:ME}{ob:α->Ob}{p:Option α}(h:VE A m (rN ob) p):VE A m (rO ob) p:=iR h λv S d S' ⟨n,h1,_,h2⟩=>⟨n,h1,h2⟩
def BL{enc:α->D}{v:α}{i:Nat}(h:A[i]?=some (.v (enc v))):VE A (AB i) (rV enc) (some v):=λ_ hv S0 e F S hs=>by
 cases hv;obtain⟨x,h1,h2⟩:=hs.sl i _ h;cases h2;exact⟨_,S,by unfold AB;rw[h1],Keeps.refl S,rfl⟩
def DS{ob:α->Ob}{v:α}{i:Nat}(h:A[i]?=some (.z (ob v))):VE A (AB i) (rO ob) (some v):=λ_ hv S0 e F S hs=>by
 cases hv;obtain⟨x,h1,n,rfl,h2⟩:=hs.sl i _ h;exact⟨_,S,by unfold AB;rw[h1],Keeps.refl S,n,rfl,hs.fz _ _ h2⟩
def LD{ob:α->Ob}{v:α}{i:Nat}(h:A[i]?=some (.y (ob v))):VE A (AB i) (rO ob) (some v):=λ_ hv S0 e F S hs=>by
 cases hv;obtain⟨x,h1,n,rfl,h2,_⟩:=hs.sl i _ h;exact⟨_,S,by unfold AB;rw[h1],Keeps.refl S,n,rfl,hs.fz _ _ h2⟩
def Iw{ob:α->Ob}{v:α}{i k:Nat}(h:A[i]?=some (.w k (ob v))):VE A (AB i) (rO ob) (some v):=λ_ hv S0 e F S hs=>by
 cases hv;obtain⟨x,h1,n,rfl,h2,h3⟩:=hs.sl i _ h;exact⟨_,S,by unfold AB;rw[h1],Keeps.refl S,n,rfl,h3⟩
def KP{enc:α->D}{v:α}{d:D}(h:d=enc v):VE A (mC d) (rV enc) (some v):=λ_ hv S0 e F S hs=>by
 cases hv;exact⟨d,S,rfl,Keeps.refl S,h⟩
def BG{p:Option α}{q:α->Option β}{v:β}(h:p.bind q=some v):∃x,p=some x/\q x=some v:=Option.bind_eq_some_iff.mp h
def MU{f:D->D->Sto->Res D}{a b:ME}{ea:α->D}{eb:β->D}{ec:γ->D}{pa:Option α}{pb:Option β}{g:α->β->Option γ}(ha:VE A a (rV ea) pa)(hb:VE A b (rV eb) pb)
  (hf:∀x y z S,g x y=some z->f (ea x) (eb y) S=.ok (ec z) S):VE A (m2 f a b) (rV ec) (pa.bind λx=>pb.bind λy=>g x y):=λv hv S0 e F S hs=>by
 obtain⟨x,h1,hv⟩:=BG hv;obtain⟨y,h2,h3⟩:=BG hv;obtain⟨d1,S1,q1,k1,rfl⟩:=ha x h1 S0 e F S hs;obtain⟨d2,S2,q2,k2,rfl⟩:=hb y h2 S0 e _ S1 (hs.grow k1);exact⟨_,S2,BO q1 q2 (hf x y v S2 h3),k1.trans k2,rfl⟩
def U1{f:D->D->Sto->Res D}{a b:ME}{ea:α->D}{ob:β->Ob}{ec:γ->D}{pa:Option α}{pb:Option β}{g:α->β->Option γ}(ha:VE A a (rV ea) pa)(hb:VE A b (rO ob) pb)
  (hf:∀x y z S (n:Nat),S[n]?=some (ob y)->g x y=some z->f (ea x) (.ref n) S=.ok (ec z) S):VE A (m2 f a b) (rV ec) (pa.bind λx=>pb.bind λy=>g x y):=λv hv S0 e F S hs=>by
 obtain⟨x,h1,hv⟩:=BG hv;obtain⟨y,h2,h3⟩:=BG hv;obtain⟨d1,S1,q1,k1,rfl⟩:=ha x h1 S0 e F S hs;obtain⟨d2,S2,q2,k2,n,rfl,hn⟩:=hb y h2 S0 e _ S1 (hs.grow k1);exact⟨_,S2,BO q1 q2 (hf x y v S2 n hn h3),k1.trans k2,rfl⟩
def U2{f:D->D->Sto->Res D}{a b:ME}{ob:α->Ob}{eb:β->D}{ec:γ->D}{pa:Option α}{pb:Option β}{g:α->β->Option γ}(ha:VE A a (rO ob) pa)(hb:VE A b (rV eb) pb)
  (hf:∀x y z S (n:Nat),S[n]?=some (ob x)->g x y=some z->f (.ref n) (eb y) S=.ok (ec z) S):VE A (m2 f a b) (rV ec) (pa.bind λx=>pb.bind λy=>g x y):=λv hv S0 e F S hs=>by
 obtain⟨x,h1,hv⟩:=BG hv;obtain⟨y,h2,h3⟩:=BG hv;obtain⟨d1,S1,q1,k1,n,rfl,hn⟩:=ha x h1 S0 e F S hs;obtain⟨d2,S2,q2,k2,rfl⟩:=hb y h2 S0 e _ S1 (hs.grow k1);exact⟨_,S2,BO q1 q2 (hf x y v S2 n (k2.at hn) h3),k1.trans k2,rfl⟩
def LP{m:ME}{p:Option Bool}(h:VE A m (rV D.bl) p):VB A (mB m) p:=λv hv S0 e F S hs=>by
 obtain⟨d,S',h1,h2,rfl⟩:=h v hv S0 e F S hs;exact⟨S',GR h1,h2⟩
def MV:VB A EK (some true):=λv hv S0 e F S hs=>by cases hv;exact⟨S,rfl,Keeps.refl S⟩
def U3{t:MT}{p:Option Bool}(h:VB A t p):VB A (J5 t) (p.bind λb=>some (!b)):=λv hv S0 e F S hs=>by
 obtain⟨x,h1,h2⟩:=BG hv;cases h2;obtain⟨S',h3,h4⟩:=h x h1 S0 e F S hs;exact⟨S',Kh h3,h4⟩
def U4{t u:MT}{p q:Option Bool}(h:VB A t p)(hu:VB A u q):VB A (Pv t u) (p.bind λb=>if b=true then q else some false):=λv hv S0 e F S hs=>by
 obtain⟨x,h1,h2⟩:=BG hv;obtain⟨S1,h3,h4⟩:=h x h1 S0 e F S hs
 cases x with
 | true=>
  obtain⟨S2,h5,h6⟩:=hu v h2 S0 e _ S1 (hs.grow h4);exact⟨S2,(fq h3).trans h5,h4.trans h6⟩
 | false=>cases h2;exact⟨S1,fo h3,h4⟩
def gW{t u:MT}{p q:Option Bool}(h:VB A t p)(hu:VB A u q):VB A (mOr t u) (p.bind λb=>if b=true then some true else q):=λv hv S0 e F S hs=>by
 obtain⟨x,h1,h2⟩:=BG hv;obtain⟨S1,h3,h4⟩:=h x h1 S0 e F S hs
 cases x with
 | false=>
  obtain⟨S2,h5,h6⟩:=hu v h2 S0 e _ S1 (hs.grow h4);exact⟨S2,(Lr h3).trans h5,h4.trans h6⟩
 | true=>cases h2;exact⟨S1,jM h3,h4⟩
def Pf{enc:α->D}:∀(v:α) (S S1:Sto) (d:D) (S':Sto),S.length<=S1.length->rV enc v S1 d S'->rV enc v S d S':=λ_ _ _ _ _ _ h=>h
def Wa{ob:α->Ob}:∀(v:α) (S S1:Sto) (d:D) (S':Sto),S.length<=S1.length->rN ob v S1 d S'->rN ob v S d S':=λ_ _ _ _ _ l ⟨n,h1,h2,h3⟩=>⟨n,h1,At l h2,h3⟩
inductive Fw(ρ σ:Type) where
 | rt (r:ρ) | nx (s:σ) | bk (s:σ) | ct (s:σ)
def VG(S0:Sto)(F:Fz)(S':Sto)(R:Rk ρ)(B:σ->List Sl)(g:Fl):Fw ρ σ->Prop
 | .nx s=>∃e' F',g=.nx e'/\Vs S0 (B s) e' F' S'/\Fle F F'
 | .ct s=>∃e' F',g=.ct e'/\Vs S0 (B s) e' F' S'/\Fle F F'
 | .bk s=>∃e' F',g=.bk e'/\Vs S0 (B s) e' F' S'/\Fle F F'
 | .rt r=>∃d,g=.rt d/\R r S0 d S'/\Keeps S0 S'
def VS(A:List Sl)(b:MS)(R:Rk ρ)(p:Option (Fw ρ σ))(B:σ->List Sl):Prop:=∀f,p=some f->∀S0 e F S,Vs S0 A e F S->∃g S',b e S=.ok g S'/\VG S0 F S' R B g f
def DP(p:Option (Fw ρ σ))(q:σ->Option (Fw ρ τ)):Option (Fw ρ τ):=match p with
 | some (.nx s)=>q s
 | some (.rt r)=>some (.rt r)
 | _=>none
def VG.up{S0:Sto}{F F1:Fz}{S':Sto}{R:Rk ρ}{B:σ->List Sl}{g:Fl}{f:Fw ρ σ}(l:Fle F F1)(h:VG S0 F1 S' R B g f):VG S0 F S' R B g f:=by
 cases f with
 | rt r=>exact h
 | nx s=>obtain⟨e',F',h1,h2,h3⟩:=h;exact⟨e',F',h1,h2,l.trans h3⟩
 | bk s=>obtain⟨e',F',h1,h2,h3⟩:=h;exact⟨e',F',h1,h2,l.trans h3⟩
 | ct s=>obtain⟨e',F',h1,h2,h3⟩:=h;exact⟨e',F',h1,h2,l.trans h3⟩
def Cm{a b:MS}{R:Rk ρ}{p:Option (Fw ρ σ)}{q:σ->Option (Fw ρ τ)}{B:σ->List Sl}{C:τ->List Sl}(ha:VS A a R p B)(hb:∀s,VS (B s) b R (q s) C):VS A (BF a b) R (DP p q) C:=λf hf S0 e F S hs=>by
 cases p with
 | none=>cases hf
 | some w=>
  obtain⟨g,S1,h1,h2⟩:=ha _ rfl S0 e F S hs
  cases w with
  | nx s=>
   obtain⟨e1,F1,rfl,h2,h3⟩:=h2;obtain⟨g2,S2,h4,h5⟩:=hb s f hf S0 e1 F1 S1 h2;exact⟨g2,S2,(A9 h1).trans h4,h5.up h3⟩
  | rt r=>
   cases hf;obtain⟨d,rfl,h2,h3⟩:=h2;exact⟨_,S1,NU h1,d,rfl,h2,h3⟩
  | bk s=>cases hf
  | ct s=>cases hf
def Q7{R:Rk ρ}{B:σ->List Sl}{s:σ}(w:Wk A (B s)):VS A sNx R (some (.nx s)) B:=λf hf S0 e F S hs=>by
 cases hf;exact⟨_,S,rfl,e,F,rfl,hs.weak w,Fle.refl F⟩
def LR(g:σ->τ)(p:Option (Fw ρ σ)):Option (Fw ρ τ):=match p with
 | some (.nx s)=>some (.nx (g s))
 | some (.rt r)=>some (.rt r)
 | some (.bk s)=>some (.bk (g s))
 | some (.ct s)=>some (.ct (g s))
 | none=>none
def JJ{b:MS}{R:Rk ρ}{p:Option (Fw ρ σ)}{g:σ->τ}{B:σ->List Sl}{C:τ->List Sl}(h:VS A b R p B)(w:∀s,Wk (B s) (C (g s))):VS A b R (LR g p) C:=λf hf S0 e F S hs=>by
 cases p with
 | none=>cases hf
 | some x=>
  obtain⟨g,S1,h1,h2⟩:=h _ rfl S0 e F S hs
  cases x with
  | nx s=>cases hf;obtain⟨e1,F1,rfl,h2,h3⟩:=h2;exact⟨_,S1,h1,e1,F1,rfl,h2.weak (w s),h3⟩
  | rt r=>cases hf;exact⟨_,S1,h1,h2⟩
  | bk s=>cases hf;obtain⟨e1,F1,rfl,h2,h3⟩:=h2;exact⟨_,S1,h1,e1,F1,rfl,h2.weak (w s),h3⟩
  | ct s=>cases hf;obtain⟨e1,F1,rfl,h2,h3⟩:=h2;exact⟨_,S1,h1,e1,F1,rfl,h2.weak (w s),h3⟩
def Ry{m:ME}{enc:α->D}{R:Rk ρ}{p:Option α}{i:Nat}(h:VE A m (rV enc) p):VS A (Bj i m) R (p.bind λv=>some (.nx v)) (λv=>A.set i (.v (enc v))):=λf hf S0 e F S hs=>by
 obtain⟨v,h1,h2⟩:=BG hf;cases h2;obtain⟨d,S',h3,h4,rfl⟩:=h v h1 S0 e F S hs;exact⟨_,S',DG h3,_,_,rfl,(hs.grow h4).set i rfl,hs.fle S'⟩
def MQ{m:ME}{ob:α->Ob}{R:Rk ρ}{p:Option α}{i:Nat}(h:VE A m (rN ob) p):VS A (Bj i m) R (p.bind λv=>some (.nx v)) (λv=>A.set i (.y (ob v))):=λf hf S0 e F S hs=>by
 obtain⟨v,h1,h2⟩:=BG hf;cases h2;obtain⟨d,S',h3,h4,n,rfl,h5,h6⟩:=h v h1 S0 e F S hs;exact⟨_,S',DG h3,_,_,rfl,(hs.grow h4).set (a:=.y (ob v)) i ⟨n,rfl,bF h5 h6,At hs.kp.1 h5⟩,hs.fle S'⟩
def Jv{m:ME}{ob:α->Ob}{R:Rk ρ}{p:Option α}{i:Nat}(h:VE A m (rN ob) p):VS A (Bj i m) R (p.bind λv=>some (.nx v)) (λv=>A.set i (.w i (ob v))):=λf hf S0 e F S hs=>by
 obtain⟨v,h1,h2⟩:=BG hf;cases h2;obtain⟨d,S',h3,h4,n,rfl,h5,h6⟩:=h v h1 S0 e F S hs;obtain⟨F',h7,h8⟩:=hs.own h4 (i:=i) h5 h6;exact⟨_,S',DG h3,_,F',rfl,h7,h8⟩
def Kb{m:ME}{enc:ρ->D}{p:Option ρ}{B:σ->List Sl}(h:VE A m (rV enc) p):VS A (DH m) (rV enc) (p.bind λv=>some (.rt v)) B:=λf hf S0 e F S hs=>by
 obtain⟨v,h1,h2⟩:=BG hf;cases h2;obtain⟨d,S',h3,h4,rfl⟩:=h v h1 S0 e F S hs;exact⟨_,S',Gn h3,_,rfl,rfl,hs.kp.trans h4⟩
def cJ{m:ME}{ob:ρ->Ob}{p:Option ρ}{B:σ->List Sl}(h:VE A m (rN ob) p):VS A (DH m) (rN ob) (p.bind λv=>some (.rt v)) B:=λf hf S0 e F S hs=>by
 obtain⟨v,h1,h2⟩:=BG hf;cases h2;obtain⟨d,S',h3,h4,n,rfl,h5,h6⟩:=h v h1 S0 e F S hs;exact⟨_,S',Gn h3,_,rfl,⟨n,rfl,At hs.kp.1 h5,h6⟩,hs.kp.trans h4⟩
def WL{i:Nat}{ob:ρ->Ob}{v:ρ}{B:σ->List Sl}{k:Nat}(h:A[i]?=some (.w k (ob v))):VS A (DH (AB i)) (rN ob) (some (.rt v)) B:=λf hf S0 e F S hs=>by
 cases hf;obtain⟨x,h1,n,rfl,h2,h3⟩:=hs.sl i _ h;exact⟨_,S,Gn (d:=.ref n) (by unfold AB;rw[h1]),_,rfl,⟨n,rfl,(hs.ow _ _ h2).1,h3⟩,hs.kp⟩
def O1{t:MT}{a b:MS}{R:Rk ρ}{pt:Option Bool}{p q:Option (Fw ρ σ)}{B:σ->List Sl}(ht:VB A t pt)(ha:VS A a R p B)(hb:VS A b R q B):VS A (sIf t a b) R (pt.bind λc=>if c=true then p else q) B:=λf hf S0 e F S hs=>by
 obtain⟨c,h1,h2⟩:=BG hf;obtain⟨S1,h3,h4⟩:=ht c h1 S0 e F S hs
 cases c with
 | true=>
  obtain⟨g,S2,h5,h6⟩:=ha f h2 S0 e _ S1 (hs.grow h4);exact⟨g,S2,(EU h3).trans h5,h6.up (hs.fle S1)⟩
 | false=>
  obtain⟨g,S2,h5,h6⟩:=hb f h2 S0 e _ S1 (hs.grow h4);exact⟨g,S2,(EU h3).trans h5,h6.up (hs.fle S1)⟩
def Ye(l:List α)(x:α):Option (List α):=if l.length < 1000000 then some (l++[x])else none
def OR(l k:List α):Option (List α):=if l.length+k.length<=1000000 then some (l++k)else none
def aN{n:Nat}(h:n < 1000000):n < sizeLine:=Ab h (by decide)
def aS{n:Nat}(h:n<=1000000):n<=sizeLine:=At h (by decide)
def Y7{m:ME}{enc:α->D}{R:Rk ρ}{p:Option α}{i:Nat}{l:List α}(hi:A[i]?=some (.w i (oL enc l)))(h:VE A m (rV enc) p)(ht:((A.set i .u).all (Sl.oth i))=true) :
  VS A (CH (FU (AB i) m)) R (p.bind λv=>(Ye l v).bind λl'=>some (.nx l')) (λl'=>A.set i (.w i (oL enc l'))):=λf hf S0 e F S hs=>by
 obtain⟨v,h1,h2⟩:=BG hf;obtain⟨l',h2,h0⟩:=BG h2;cases h0;unfold Ye at h2;split at h2
 ·rename_i hl
  cases h2;obtain⟨x,g1,n,rfl,g2,g3⟩:=hs.sl i _ hi;obtain⟨d,S',h3,h4,rfl⟩:=h v h1 S0 e F S hs;have hg:=hs.grow h4;have hx:=Ig (mo:=AB i) (e:=e) (S:=S) (S1:=S) (n:=n) (by unfold AB;rw[g1]) g3 h3 (h4.at g3) (by rw[AC];exact aN hl);rw[show l.map enc++[enc v]=(l++[v]).map enc by simp]at hx;exact⟨_,_,DV hx,e,_,rfl,hg.put ht hi g1 (by rw[Ft (Bo g3)];exact g2),hs.fle S'⟩
 ·cases h2
def iH{m:ME}{enc:α->D}{R:Rk ρ}{p:Option (List α)}{i:Nat}{l:List α}(hi:A[i]?=some (.w i (oL enc l)))(h:VE A m (rN (oL enc)) p)(ht:((A.set i .u).all (Sl.oth i))=true) :
  VS A (CH (Mr (AB i) m)) R (p.bind λv=>(OR l v).bind λl'=>some (.nx l')) (λl'=>A.set i (.w i (oL enc l'))):=λf hf S0 e F S hs=>by
 obtain⟨v,h1,h2⟩:=BG hf;obtain⟨l',h2,h0⟩:=BG h2;cases h0;unfold OR at h2;split at h2
 ·rename_i hl
  cases h2;obtain⟨x,g1,n,rfl,g2,g3⟩:=hs.sl i _ hi;obtain⟨d,S',h3,h4,k,rfl,h5,h6⟩:=h v h1 S0 e F S hs;have hg:=hs.grow h4;have hx:=YR (mo:=AB i) (e:=e) (S:=S) (S1:=S) (n:=n) (by unfold AB;rw[g1]) g3 h3 (h4.at g3) h6 (λc=>by subst c;exact zX (Bo g3) (Hm.mpr h5)) (by rw[AC,AC];exact aS hl);rw[<-A2]at hx;exact⟨_,_,DV hx,e,_,rfl,hg.put ht hi g1 (by rw[Ft (Bo g3)];exact g2),hs.fle S'⟩
 ·cases h2
def cM{m:ME}{enc:α->D}{R:Rk ρ}{p:Option (List α)}{i:Nat}{l:List α}(hi:A[i]?=some (.w i (oL enc l)))(h:VE A m (rV (eT enc)) p)(ht:((A.set i .u).all (Sl.oth i))=true) :
  VS A (CH (UF (AB i) m)) R (p.bind λv=>(OR l v).bind λl'=>some (.nx l')) (λl'=>A.set i (.w i (oL enc l'))):=λf hf S0 e F S hs=>by
 obtain⟨v,h1,h2⟩:=BG hf;obtain⟨l',h2,h0⟩:=BG h2;cases h0;unfold OR at h2;split at h2
 ·rename_i hl
  cases h2;obtain⟨x,g1,n,rfl,g2,g3⟩:=hs.sl i _ hi;obtain⟨d,S',h3,h4,rfl⟩:=h v h1 S0 e F S hs;have hg:=hs.grow h4
  have hx:UF (AB i) m e S=.ok .non (S'.set n (.lst ((l++v).map enc))):=by
   unfold UF;rw[show AB i e S=.ok (.ref n) S by unfold AB;rw[g1]];dsimp only[Res.bind];rw[show atL (.ref n) S=some (n,l.map enc) by unfold atL;dsimp only;rw[g3];rfl];dsimp only;rw[h3];dsimp only;rw[show atL (.ref n) S'=some (n,l.map enc) by unfold atL;dsimp only;rw[h4.at g3];rfl];unfold eT;dsimp only;rw[qX (by rw[AC,AC];exact aS hl),A2]
  exact⟨_,_,DV hx,e,_,rfl,hg.put ht hi g1 (by rw[Ft (Bo g3)];exact g2),hs.fle S'⟩
 ·cases h2
def cN{m:ME}{Rm:Rk α}{R:Rk ρ}{p:Option α}(h:VE A m Rm p):VS A (CH m) R (p.bind λ_=>some (.nx ())) (λ_:Unit=>A):=λf hf S0 e F S hs=>by
 obtain⟨v,h1,h2⟩:=BG hf;cases h2;obtain⟨d,S',h3,h4,_⟩:=h v h1 S0 e F S hs;exact⟨_,S',DV h3,e,_,rfl,hs.grow h4,hs.fle S'⟩
def VT(g:MG)(enc:α->D)(t:α->List Sl->List Sl):Prop:=∀x S0 A e F S,Vs S0 A e F S->∃e',g (enc x) e S=.ok e' S/\Vs S0 (t x A) e' F S
def Rx{enc:α->D}{i:Nat}:VT (tgN i) enc (λx A=>A.set i (.v (enc x))):=λx S0 A e F S hs=>⟨_,rfl,hs.set (a:=.v (enc x)) i rfl⟩
def WK{a:α->D}{b:β->D}{i j:Nat}:VT (EC 2 (Ba (tgN i) (Ba (tgN j) ET))) (eP a b) (λx A=>(A.set i (.v (a x.1))).set j (.v (b x.2))):=λx S0 A e F S hs=>⟨_,rfl,(hs.set (a:=.v (a x.1)) i rfl).set (a:=.v (b x.2)) j rfl⟩
def J9:List α->σ->(σ->α->Option (Fw ρ σ))->Option (Fw ρ σ)
 | [],s,_=>some (.nx s)
 | x :: l,s,q=>match q s x with
  | some (.nx s')=>J9 l s' q
  | some (.ct s')=>J9 l s' q
  | some (.bk s')=>some (.nx s')
  | some (.rt r)=>some (.rt r)
  | none=>none
def cL{enc:α->D}{g:MG}{t:α->List Sl->List Sl}{b:MS}{R:Rk ρ}{q:σ->α->Option (Fw ρ σ)}{B:σ->List Sl}(hg:VT g enc t)(hb:∀s x,VS (t x (B s)) b R (q s x) B){w:IF}{S0:Sto}{F1:Fz}{full:List α}
  (hw:∀F'' S'',Fle F1 F''->(∀n o,F'' n=.fz o->S''[n]?=some o)->w S''=some (full.map enc)):∀(l:List α) (k:Nat),full.drop k=l->∀(s:σ) (f:Fw ρ σ),J9 l s q=some f->∀e F S,Vs S0 (B s) e F S->Fle F1 F->∃h S',Jl w g b (l.length) k e S=.ok h S'/\VG S0 F1 S' R B h f:=by
 intro l
 induction l with
 | nil=>
  intro k hk s f hf e F S hs hF;cases hf
  have:full.length<=k:=by
   have:=congrArg Gh hk;rw[Hi,IH]at this
   lia
  refine⟨_,S,?_,e,F,rfl,hs,hF⟩;unfold Jl;rw[hw F S hF hs.fz];dsimp only;rw[BJ (by rw[AC];exact this)]
 | cons x l ih=>
  intro k hk s f hf e F S hs hF
  have hx:full[k]?=some x:=by
   have:=congrArg (λz=>z[0]?) hk;rw[Gf]at this;simpa using this
  have hk':full.drop (k+1)=l:=by
   have e1:full.drop (k+1)=(full.drop k).drop 1:=by rw[Q3]
   exact e1.trans (congrArg (List.drop 1) hk)
  obtain⟨e1,g1,g2⟩:=hg x S0 _ e F S hs
  have run:∀h S',b e1 S=.ok h S'->Jl w g b ((x :: l).length) k e S=(match h with
    | .nx e2=>Jl w g b l.length (k+1) e2 S'
    | .ct e2=>Jl w g b l.length (k+1) e2 S'
    | .bk e2=>.ok (.nx e2) S'
    | .rt d=>.ok (.rt d) S'
    | .ex c e2=>.ok (.ex c e2) S'):=λh S' hb'=>by
   show Jl w g b (l.length+1) k e S=_
   conv=>lhs;unfold Jl
   rw[hw F S hF hs.fz];dsimp only;rw[AN,hx];dsimp only[kd];rw[g1];dsimp only[Res.bind];rw[hb']
   all_goals (cases h <;> rfl)
  unfold J9 at hf;split at hf
  ·rename_i s' hq
   obtain⟨h,S1,h1,e2,F2,rfl,h2,h3⟩:=hb s x _ hq S0 e1 F S g2;rw[run _ _ h1];exact ih (k+1) hk' s' f hf e2 F2 S1 h2 (hF.trans h3)
  ·rename_i s' hq
   obtain⟨h,S1,h1,e2,F2,rfl,h2,h3⟩:=hb s x _ hq S0 e1 F S g2;rw[run _ _ h1];exact ih (k+1) hk' s' f hf e2 F2 S1 h2 (hF.trans h3)
  ·rename_i s' hq
   cases hf;obtain⟨h,S1,h1,e2,F2,rfl,h2,h3⟩:=hb s x _ hq S0 e1 F S g2;rw[run _ _ h1];exact⟨_,S1,rfl,e2,F2,rfl,h2,hF.trans h3⟩
  ·rename_i r hq
   cases hf;obtain⟨h,S1,h1,d,rfl,h2,h3⟩:=hb s x _ hq S0 e1 F S g2;rw[run _ _ h1];exact⟨_,S1,rfl,d,rfl,h2,h3⟩
  ·cases hf
def O2{enc:α->D}{mi:MI}{g:MG}{t:α->List Sl->List Sl}{b:MS}{R:Rk ρ}{p:Option (List α)}{q:σ->α->Option (Fw ρ σ)}{B:σ->List Sl}{s0:σ}(hi:VI A mi enc p)(hg:VT g enc t)(w0:Wk A (B s0))(hb:∀s x,VS (t x (B s)) b R (q s x) B) :
  VS A (GK mi g b) R (p.bind λl=>J9 l s0 q) B:=λf hf S0 e F S hs=>by
 obtain⟨l,h1,h2⟩:=BG hf;obtain⟨w,S1,h3,h4,h5⟩:=hi l h1 S0 e F S hs;have hg1:=hs.grow h4
 have hl:Cp w S1=l.length:=by unfold Cp;rw[h5 _ S1 (Fle.refl _) hg1.fz];exact AC _
 obtain⟨h,S2,h6,h7⟩:=cL hg hb h5 l 0 rfl s0 f h2 e _ S1 (hg1.weak w0) (Fle.refl _);refine⟨h,S2,?_,h7.up (hs.fle S1)⟩;rw[Et h3,hl];exact h6
def QG(c:α->Option Bool)(m:α->Option β):List α->Option (List β)
 | []=>some []
 | x :: l=>(c x).bind λb=>if b=true then(m x).bind λy=>(QG c m l).bind λys=>some (y :: ys)else QG c m l
def G9(l:List α)(c:α->Option Bool)(m:α->Option β):Option (List β):=if l.length<=1000000 then QG c m l else none
def Y8{enc:α->D}{eb:β->D}{g:MG}{P:List (Option D)->Prop}{T:α->List Sl}{c:MT}{m:ME}{pc:α->Option Bool}{pm:α->Option β}
  (hg:∀x S0 e F S pre,P pre->Vs S0 A e F S->∃pre',g (enc x) (pre++e) S=.ok (pre'++e) S/\P pre'/\Vs S0 (T x) (pre'++e) F S)
  (hc:∀x,VB (T x) c (pc x)) (hm:∀x,VE (T x) m (rV eb) (pm x)) {w:IF} {S0:Sto} {e:Lo} {full:List α} {S1:Sto} (hf:full.length<=1000000) (hw:∀S'',Keeps S1 S''->w S''=some (full.map enc)) :
  ∀(l:List α) (k:Nat),full.drop k=l->∀(r:List β),QG pc pm l=some r->∀pre F S acc,P pre->Vs S0 A e F S->Keeps S1 S->acc.length<=k->∃S',FY w g c m l.length k (pre++e) S acc=.ok (acc++r.map eb) S'/\Keeps S S':=by
 intro l
 induction l with
 | nil=>
  intro k hk r hr pre F S acc hp hs hk1 ha;cases hr
  have:full.length<=k:=by
   have:=congrArg Gh hk;rw[Hi,IH]at this
   lia
  refine⟨S,?_,Keeps.refl S⟩;unfold FY;rw[hw S hk1];dsimp only;rw[BJ (by rw[AC];exact this),KW,BW]
 | cons x l ih=>
  intro k hk r hr pre F S acc hp hs hk1 ha
  have hx:full[k]?=some x:=by
   have:=congrArg (λz=>z[0]?) hk;rw[Gf]at this;simpa using this
  have hk':full.drop (k+1)=l:=by
   have e1:full.drop (k+1)=(full.drop k).drop 1:=by rw[Q3]
   exact e1.trans (congrArg (List.drop 1) hk)
  have hkl:k < full.length:=(AF.mp hx).1;obtain⟨pre',g1,g2,g3⟩:=hg x S0 e F S pre hp hs;unfold QG at hr;obtain⟨b,h1,h2⟩:=BG hr;obtain⟨S2,h3,h4⟩:=hc x b h1 S0 _ F S g3;have hs2:=hs.grow h4
  show ∃S',FY w g c m (l.length+1) k (pre++e) S acc=_/\_
  conv=>arg 1;ext S';arg 1;lhs;unfold FY
  rw[hw S hk1];dsimp only;rw[AN,hx];dsimp only[kd];rw[qX (Ay ha (aN (Ab hkl hf))),g1];dsimp only[okR,Res.bind];rw[h3];dsimp only[okR,Res.bind]
  cases b with
  | true=>
   rw[qX rfl]at h2 ⊢;obtain⟨y,h5,h6⟩:=BG h2;obtain⟨ys,h6',h7⟩:=BG h6;cases h7;obtain⟨d,S3,h8,h9,rfl⟩:=hm x y h5 S0 _ _ S2 (g3.grow h4);rw[h8];obtain⟨S4,q1,q2⟩:=ih (k+1) hk' ys h6' pre' _ S3 (acc++[eb y]) g2 (hs2.grow h9) (hk1.trans (h4.trans h9)) (by rw[Ad,Cu];lia);refine⟨S4,?_,(h4.trans h9).trans q2⟩;show FY w g c m l.length (k+1) (pre'++e) S3 (acc++[eb y])=_;rw[q1,BN];rfl
  | false=>
   rw[qY AZ]at h2 ⊢;obtain⟨S4,q1,q2⟩:=ih (k+1) hk' r h2 pre' _ S2 acc g2 hs2 (hk1.trans h4) (by lia);exact⟨S4,q1,h4.trans q2⟩
def WN{enc:α->D}{eb:β->D}{n:Nat}{mi:MI}{g:MG}{P:List (Option D)->Prop}{T:α->List Sl}{c:MT}{m:ME}{p:Option (List α)}{pc:α->Option Bool}{pm:α->Option β}(hi:VK A mi enc p)(h0:P (Be n none))
  (hg:∀x S0 e F S pre,P pre->Vs S0 A e F S->∃pre',g (enc x) (pre++e) S=.ok (pre'++e) S/\P pre'/\Vs S0 (T x) (pre'++e) F S)
  (hc:∀x,VB (T x) c (pc x)) (hm:∀x,VE (T x) m (rV eb) (pm x)):VL A (D4 n mi g c m) eb (p.bind λl=>G9 l pc pm):=λr hr S0 e F S hs=>by
 obtain⟨l,h1,h2⟩:=BG hr;obtain⟨w,S1,h3,h4,h5⟩:=hi l h1 S0 e F S hs;unfold G9 at h2;split at h2
 ·rename_i hl
  have hs1:=hs.grow h4;obtain⟨S2,h6,h7⟩:=Y8 hg hc hm hl h5 l 0 rfl r h2 _ _ S1 [] h0 hs1 (Keeps.refl _) (AQ _);refine⟨S2,?_,h4.trans h7⟩;rw[LL h3,show Cp w S1=l.length by unfold Cp;rw[h5 S1 (Keeps.refl _)];exact AC _];exact h6
 ·cases h2
def IP{enc:α->D}{eb:β->D}{mi:MI}{c:MT}{m:ME}{p:Option (List α)}{pc:α->Option Bool}{pm:α->Option β}(hi:VK A mi enc p)(hc:∀x,VB (.v (enc x) :: A) c (pc x))(hm:∀x,VE (.v (enc x) :: A) m (rV eb) (pm x)) :
  VL A (D4 1 mi (tgN 0) c m) eb (p.bind λl=>G9 l pc pm):=
 WN (P:=λpre=>∃z,pre=[z]) hi ⟨none,rfl⟩ (λx S0 e F S pre hp hs=>by
  obtain⟨z,rfl⟩:=hp
  exact⟨[some (enc x)],rfl,⟨_,rfl⟩,hs.cons (a:=.v (enc x)) rfl⟩) hc hm
def O5{a:α->D}{b:γ->D}{eb:β->D}{mi:MI}{c:MT}{m:ME}{p:Option (List (α×γ))}{pc:α×γ->Option Bool}{pm:α×γ->Option β}(hi:VK A mi (eP a b) p)(hc:∀x:α×γ,VB (.v (a x.1) :: .v (b x.2) :: A) c (pc x))(hm:∀x:α×γ,VE (.v (a x.1) :: .v (b x.2) :: A) m (rV eb) (pm x)) :
  VL A (D4 2 mi (EC 2 (Ba (tgN 0) (Ba (tgN 1) ET))) c m) eb (p.bind λl=>G9 l pc pm):=
 WN (P:=λpre=>∃z y,pre=[z,y]) hi ⟨none,none,rfl⟩ (λx S0 e F S pre hp hs=>by
  obtain⟨z,y,rfl⟩:=hp
  exact⟨[some (a x.1),some (b x.2)],rfl,⟨_,_,rfl⟩,(hs.cons (a:=.v (b x.2)) rfl).cons (a:=.v (a x.1)) rfl⟩) hc hm
def FE{ml:ML}{enc:α->D}{p:Option (List α)}(h:VL A ml enc p):VE A (Cq ml) (rN (oL enc)) p:=λv hv S0 e F S hs=>by
 obtain⟨S',h1,h2⟩:=h v hv S0 e F S hs;exact⟨_,_,J2 h1,h2.trans (Keeps.app _ _),_,rfl,h2.1,By _ _⟩
inductive Ar where
 | v (d:D) | z (o:Ob) | q (P:(Nat->Option Ob)->D->Prop)
def Ar.ok(S:Sto):Ar->D->Prop
 | .v d,x=>x=d
 | .z o,x=>∃n,x=.ref n/\S[n]?=some o
 | .q P,x=>∀L:Nat->Option Ob,(∀n o,S[n]?=some o->L n=some o)->P L x
def Ar.sl:Ar->Sl
 | .v d=>.v d
 | .z o=>.z o
 | .q P=>.q P
def Lg(S:Sto):List Ar->List D->Prop
 | [],[]=>True
 | a :: as,d :: ds=>a.ok S d/\Lg S as ds
 | _,_=>False
def Lg.len{S:Sto}:∀{as:List Ar} {ds:List D},Lg S as ds->ds.length=as.length
 | [],[],_=>rfl
 | _ :: as,_ :: ds,h=>by rw[A8,A8,Lg.len h.2]
 | [],_ :: _,h=>h.elim
 | _ :: _,[],h=>h.elim
def Lg.at{S:Sto}:∀{as:List Ar} {ds:List D},Lg S as ds->∀(i:Nat) (a:Ar),as[i]?=some a->∃d,ds[i]?=some d/\a.ok S d
 | [],[],_,i,a,h=>by simp at h
 | b :: as,d :: ds,h,0,a,q=>by cases q;exact⟨d,rfl,h.1⟩
 | b :: as,d :: ds,h,i+1,a,q=>Lg.at h.2 i a q
 | [],_ :: _,h,_,_,_=>h.elim
 | _ :: _,[],h,_,_,_=>h.elim
def VF(f:List D->Sto->Res D)(as:List Ar)(R:Rk α)(p:Option α):Prop:=∀v,p=some v->∀S ds,Lg S as ds->∃d S',f ds S=.ok d S'/\Keeps S S'/\R v S d S'
def VA(A:List Sl)(ml:ML)(p:Option γ)(ar:γ->List Ar):Prop:=∀v,p=some v->∀S0 e F S,Vs S0 A e F S->∃ds S',ml e S=.ok ds S'/\Keeps S S'/\Lg S' (ar v) ds
def IQ:VA A Au (some ()) (λ_=>[]):=λv hv S0 e F S hs=>⟨[],S,rfl,Keeps.refl S,trivial⟩
def U5{m:ME}{ml:ML}{enc:α->D}{p:Option α}{q:Option γ}{ar:γ->List Ar}(h:VE A m (rV enc) p)(hl:VA A ml q ar):VA A (AI m ml) (p.bind λx=>q.bind λy=>some (x,y)) (λz=>.v (enc z.1) :: ar z.2):=λv hv S0 e F S hs=>by
 obtain⟨x,h1,h2⟩:=BG hv;obtain⟨y,h2',h3⟩:=BG h2;cases h3;obtain⟨d,S1,h4,h5,rfl⟩:=h x h1 S0 e F S hs;obtain⟨ds,S2,h6,h7,h8⟩:=hl y h2' S0 e _ S1 (hs.grow h5);exact⟨_,S2,BX h4 h6,h5.trans h7,rfl,h8⟩
def PM{m:ME}{ml:ML}{ob:α->Ob}{p:Option α}{q:Option γ}{ar:γ->List Ar}(h:VE A m (rO ob) p)(hl:VA A ml q ar):VA A (AI m ml) (p.bind λx=>q.bind λy=>some (x,y)) (λz=>.z (ob z.1) :: ar z.2):=λv hv S0 e F S hs=>by
 obtain⟨x,h1,h2⟩:=BG hv;obtain⟨y,h2',h3⟩:=BG h2;cases h3;obtain⟨d,S1,h4,h5,n,rfl,h0⟩:=h x h1 S0 e F S hs;obtain⟨ds,S2,h6,h7,h8⟩:=hl y h2' S0 e _ S1 (hs.grow h5);exact⟨_,S2,BX h4 h6,h5.trans h7,⟨n,rfl,h7.at h0⟩,h8⟩
def Gj{f:List D->Sto->Res D}{n:Nat}{ml:ML}{p:Option γ}{ar:γ->List Ar}{R:Rk α}{q:γ->Option α}(ha:VA A ml p ar)(hf:∀z,VF f (ar z) R (q z))(hn:∀z,(ar z).length=n)(hR:∀v S S1 d S',S.length<=S1.length->R v S1 d S'->R v S d S'):VE A (BI n f ml) R (p.bind q):=λv hv S0 e F S hs=>by
 obtain⟨z,h1,h2⟩:=BG hv;obtain⟨ds,S1,h3,h4,h5⟩:=ha z h1 S0 e F S hs;obtain⟨d,S2,h6,h7,h8⟩:=hf z v h2 S1 ds h5;exact⟨d,S2,(B6 h3 (h5.len.trans (hn z))).trans h6,h4.trans h7,hR _ _ _ _ _ h4.1 h8⟩
def KN(S:Sto):Fz:=λn=>match S[n]? with
 | some o=>.fz o
 | none=>.no
def Vs.start{as:List Ar}{ds:List D}{n:Nat}(h:Lg S as ds):Vs S (as.map Ar.sl++Be (n - as.length) .u) (DF n ds) (KN S) S:=by
 refine⟨Keeps.refl S,λn o q=>?_,λn i q=>?_,λn hn=>by unfold KN;rw[BJ hn],λi a ha=>?_⟩
 ·unfold KN at q
  split at q
  ·rename_i o' ho;cases q;exact ho
  ·cases q
 ·unfold KN at q
  split at q <;> cases q
 ·unfold DF
  by_cases c:i < as.length
  ·rw[Aa (by rw[AC];exact c),AN]at ha
   rw[Aa (by rw[AC,h.len];exact c),AN]
   cases hq:as[i]? with
   | none=>rw[hq]at ha;cases ha
   | some b=>
    rw[hq]at ha;cases ha;obtain⟨d,h1,h2⟩:=h.at i b hq;refine⟨some d,by rw[h1];rfl,?_⟩
    cases b with
    | v x=>exact congrArg some h2
    | z o=>obtain⟨m,h3,h4⟩:=h2;exact⟨m,congrArg some h3,by unfold KN;rw[h4]⟩
    | q P=>exact⟨d,rfl,λL hL=>h2 L λn o q=>hL n o (by unfold KN;rw[q])⟩
  ·rw[BK (by rw[AC];lia)]at ha
   rw[AC,DM]at ha;split at ha
   ·rename_i hlt
    cases ha;refine⟨none,?_,trivial⟩;rw[BK (by rw[AC,h.len];lia),AC,h.len,DM,qX hlt]
   ·cases ha
def Pi(p:Option (Fw ρ σ)):Option ρ:=match p with
 | some (.rt r)=>some r
 | _=>none
def lj(p:Option (Fw Unit σ)):Option Unit:=match p with
 | some (.rt r)=>some ()
 | some (.nx _)=>some ()
 | _=>none
end
section
variable{S0 S S':Sto}{A B:List Sl}{e:Lo}{F:Fz}{α β γ δ ρ σ τ:Type}
section
variable{a b c:ME}{pa pb pc:Option Int}
def iM(ha:VE A a (rV D.int) pa)(hb:VE A b (rV D.int) pb):VE A (m2 ZS a b) (rV D.int) (pa.bind λx=>pb.bind λy=>some (x - y)):=MU ha hb λx y z S h=>by cases h;rfl
def ZC(ha:VE A a (rV D.int) pa):VE A (aH a) (rV D.int) (pa.bind λx=>some (-x)):=λv hv S0 e F S hs=>by
 obtain⟨x,h1,h2⟩:=BG hv;cases h2;obtain⟨d,S',h3,h4,rfl⟩:=ha x h1 S0 e F S hs;exact⟨_,S',by unfold aH;rw[h3];rfl,h4,rfl⟩
def TZ{f g:D->D->Sto->Res D}{P Q:Int->Int->Bool}(hf:∀x y S,f (.int x) (.int y) S=.ok (.bl (P x y)) S)(hg:∀x y S,g (.int x) (.int y) S=.ok (.bl (Q x y)) S)(ha:VE A a (rV D.int) pa)(hb:VE A b (rV D.int) pb)(hc:VE A c (rV D.int) pc) :
  VE A (m3 f g a b c) (rV D.bl) (pa.bind λx=>pb.bind λy=>if P x y=true then pc.bind λz=>some (Q y z)else some false):=λv hv S0 e F S hs=>by
 obtain⟨x,h1,hv⟩:=BG hv;obtain⟨y,h2,h3⟩:=BG hv;obtain⟨d1,S1,q1,k1,rfl⟩:=ha x h1 S0 e F S hs;obtain⟨d2,S2,q2,k2,rfl⟩:=hb y h2 S0 e _ S1 (hs.grow k1);have e1:=hf x y S2
 cases hp:P x y with
 | false=>
  rw[hp]at h3 e1;cases h3;exact⟨_,S2,mG q1 q2 e1,k1.trans k2,rfl⟩
 | true=>
  rw[hp]at h3 e1;rw[qX rfl]at h3;obtain⟨w,h4,h5⟩:=BG h3;cases h5;obtain⟨d3,S3,q3,k3,rfl⟩:=hc w h4 S0 e _ S2 ((hs.grow k1).grow k2);exact⟨_,S3,aM q1 q2 e1 q3 (hg y w S3),(k1.trans k2).trans k3,rfl⟩
def gj(x y:Int)(S:Sto):ltD (.int x) (.int y) S=.ok (.bl (decide (x < y))) S:=rfl
def gk(x y:Int)(S:Sto):leD (.int x) (.int y) S=.ok (.bl (decide (x<=y))) S:=rfl
def cW(ha:VE A a (rV D.int) pa)(hb:VE A b (rV D.int) pb):VE A (mQ N3 (AI a (AI b Au))) (rV D.int) (pa.bind λx=>pb.bind λy=>some (if y < x then y else x)):=λv hv S0 e F S hs=>by
 obtain⟨x,h1,hv⟩:=BG hv;obtain⟨y,h2,h3⟩:=BG hv;cases h3;obtain⟨d1,S1,q1,k1,rfl⟩:=ha x h1 S0 e F S hs;obtain⟨d2,S2,q2,k2,rfl⟩:=hb y h2 S0 e _ S1 (hs.grow k1);exact⟨_,S2,VQ (BX q1 (BX q2 rfl)) rfl,k1.trans k2,rfl⟩
def cX(ha:VE A a (rV D.int) pa)(hb:VE A b (rV D.int) pb):VE A (mQ N4 (AI a (AI b Au))) (rV D.int) (pa.bind λx=>pb.bind λy=>some (if y > x then y else x)):=λv hv S0 e F S hs=>by
 obtain⟨x,h1,hv⟩:=BG hv;obtain⟨y,h2,h3⟩:=BG hv;cases h3;obtain⟨d1,S1,q1,k1,rfl⟩:=ha x h1 S0 e F S hs;obtain⟨d2,S2,q2,k2,rfl⟩:=hb y h2 S0 e _ S1 (hs.grow k1);exact⟨_,S2,VQ (BX q1 (BX q2 rfl)) rfl,k1.trans k2,rfl⟩
def OZ{pa pb:Option Bool}(ha:VE A a (rV D.bl) pa)(hb:VE A b (rV D.bl) pb):VE A (JB a b) (rV D.bl) (pa.bind λx=>if x=true then pb else some false):=λv hv S0 e F S hs=>by
 obtain⟨x,h1,h2⟩:=BG hv;obtain⟨d,S',h3,h4,rfl⟩:=ha x h1 S0 e F S hs
 cases x with
 | true=>
  obtain⟨d,S2,h5,h6,rfl⟩:=hb v h2 S0 e _ S' (hs.grow h4);exact⟨_,S2,by unfold JB;rw[h3];exact h5,h4.trans h6,rfl⟩
 | false=>cases h2;exact⟨_,S',by unfold JB;rw[h3];rfl,h4,rfl⟩
def cU{pa:Option Bool}(ha:VE A a (rV D.bl) pa):VE A (Wf a) (rV D.bl) (pa.bind λx=>some (!x)):=λv hv S0 e F S hs=>by
 obtain⟨x,h1,h2⟩:=BG hv;cases h2;obtain⟨d,S',h3,h4,rfl⟩:=ha x h1 S0 e F S hs;exact⟨_,S',by unfold Wf;rw[h3];rfl,h4,rfl⟩
end
def EqN(n:Nat)(enc:α->D)[DecidableEq α]:Prop:=∀x y,eqP n (enc x) (enc y)=some (decide (x=y))
def NL(enc:α->D):Prop:=∀x S,Py (enc x) S=none
def Dt{n:Nat}:EqN n D.int:=λx y=>by
 have:KF (.int x) (.int y)=some (decide (x=y)):=rfl
 cases n <;> exact this
def kB{n:Nat}:EqN n D.bl:=λx y=>by
 have:KF (.bl x) (.bl y)=some (decide (x=y)):=by cases x <;> cases y <;> rfl
 cases n <;> exact this
def Wx{n:Nat}{enc:α->D}[DecidableEq α](h:EqN n enc):EqN (n+1) (eT enc):=by
 have key:∀l k:List α,eqL (eqP n) (l.map enc) (k.map enc)=some (decide (l=k)):=by
  intro l
  induction l with
  | nil=>intro k;cases k <;> rfl
  | cons x l ih=>
   intro k
   cases k with
   | nil=>rfl
   | cons y k=>
    rw[A5,A5];unfold eqL;rw[h x y,ih k]
    by_cases c:x=y <;> by_cases d:l=k <;> simp[c,d]
 exact λl k=>key l k
def Nd:NL D.int:=λ_ _=>rfl
def ls:NL D.bl:=λ_ _=>rfl
section
variable{a b:ME}{enc:α->D}[DecidableEq α]{pa pb:Option α}
def bJ(h:EqN 8 enc)(n:NL enc)(neg:Bool)(x y:α)(S:Sto):eqD neg (enc x) (enc y) S=.ok (.bl (if neg then !decide (x=y)else decide (x=y))) S:=by
 unfold eqD eqB;rw[n x S,n y S];dsimp only;rw[h x y]
def TY(h:EqN 8 enc)(n:NL enc)(ha:VE A a (rV enc) pa)(hb:VE A b (rV enc) pb):VE A (m2 (eqD false) a b) (rV D.bl) (pa.bind λx=>pb.bind λy=>some (decide (x=y))):=MU ha hb λx y z S q=>by cases q;exact bJ h n false x y S
def gR(h:EqN 8 enc)(n:NL enc)(ha:VE A a (rV enc) pa)(hb:VE A b (rV enc) pb):VE A (m2 (eqD true) a b) (rV D.bl) (pa.bind λx=>pb.bind λy=>some (!decide (x=y))):=MU ha hb λx y z S q=>by cases q;exact bJ h n true x y S
def Ua(h:EqN 8 enc)(x:α):∀l:List α,Lf (enc x) (l.map enc)=some (decide (x∈l))
 | []=>by simp[Lf]
 | y :: l=>by
  rw[A5];unfold Lf;rw[h y x,Ua h x l]
  by_cases c:y=x
  ·subst c;simp
  ·have:¬x=y:=λz=>c z.symm
   simp[c,this]
def Vj(h:EqN 8 enc)(neg:Bool)(x:α){l:List α}{d:D}{S:Sto}(hs:Fa d S=some (l.map enc)):inA neg (enc x) d S=.ok (.bl (if neg then !decide (x∈l)else decide (x∈l))) S:=by
 show Gq (inD neg (enc x) d S) _=_
 have e:inD neg (enc x) d S=.ok (.bl (if neg then !decide (x∈l)else decide (x∈l))) S:=by
  unfold inD;rw[hs];dsimp only;rw[Ua h]
 rw[e];rfl
def ZG{pl:Option (List α)}(h:EqN 8 enc)(ha:VE A a (rV enc) pa)(hb:VE A b (rV (eT enc)) pl):VE A (m2 (inA false) a b) (rV D.bl) (pa.bind λx=>pl.bind λl=>some (decide (x∈l))):=MU ha hb λx l z S q=>by cases q;exact Vj h false x rfl
def cV{pl:Option (List α)}(h:EqN 8 enc)(ha:VE A a (rV enc) pa)(hb:VE A b (rV (eT enc)) pl):VE A (m2 (inA true) a b) (rV D.bl) (pa.bind λx=>pl.bind λl=>some (!decide (x∈l))):=MU ha hb λx l z S q=>by cases q;exact Vj h true x rfl
def R5{pl:Option (List α)}(h:EqN 8 enc)(ha:VE A a (rV enc) pa)(hb:VE A b (rO (oL enc)) pl):VE A (m2 (inA true) a b) (rV D.bl) (pa.bind λx=>pl.bind λl=>some (!decide (x∈l))):=U1 ha hb λx l z S n hn q=>by cases q;exact Vj h true x (CY hn)
def bI{n:Nat}(h:EqN n enc):∀l k:List α,eqL (eqP n) (l.map enc) (k.map enc)=some (decide (l=k)):=by
 intro l
 induction l with
 | nil=>intro k;cases k <;> rfl
 | cons x l ih=>
  intro k
  cases k with
  | nil=>rfl
  | cons y k=>
   rw[A5,A5];unfold eqL;rw[h x y,ih k]
   by_cases c:x=y <;> by_cases d:l=k <;> simp[c,d]
def RT(h:EqN 8 enc){l k:List α}{n m:Nat}{S:Sto}(neg:Bool)(hn:S[n]?=some (oL enc l))(hm:S[m]?=some (oL enc k)):eqD neg (.ref n) (.ref m) S=.ok (.bl (if neg then !decide (l=k)else decide (l=k))) S:=by
 unfold eqD eqB;rw[Km hn,Km hm];dsimp only;rw[AC,AC]
 by_cases c:l.length=k.length
 ·rw[qX c,bI h]
 ·rw[qY c,wY λz=>c (by rw[z])]
def gU{f:D->D->Sto->Res D}{oa:β->Ob}{ob:γ->Ob}{ec:δ->D}{pa:Option β}{pb:Option γ}{g:β->γ->Option δ}(ha:VE A a (rO oa) pa)(hb:VE A b (rO ob) pb)
  (hf:∀x y z S (n m:Nat),S[n]?=some (oa x)->S[m]?=some (ob y)->g x y=some z->f (.ref n) (.ref m) S=.ok (ec z) S):VE A (m2 f a b) (rV ec) (pa.bind λx=>pb.bind λy=>g x y):=λv hv S0 e F S hs=>by
 obtain⟨x,h1,hv⟩:=BG hv;obtain⟨y,h2,h3⟩:=BG hv;obtain⟨d1,S1,q1,k1,n,rfl,hn⟩:=ha x h1 S0 e F S hs;obtain⟨d2,S2,q2,k2,m,rfl,hm⟩:=hb y h2 S0 e _ S1 (hs.grow k1);exact⟨_,S2,BO q1 q2 (hf x y v S2 n m (k2.at hn) hm h3),k1.trans k2,rfl⟩
def ZH{pa pb:Option (List α)}(h:EqN 8 enc)(ha:VE A a (rO (oL enc)) pa)(hb:VE A b (rO (oL enc)) pb):VE A (m2 (eqD false) a b) (rV D.bl) (pa.bind λx=>pb.bind λy=>some (decide (x=y))):=gU ha hb λx y z S n m hn hm q=>by cases q;exact RT h false hn hm
def iQ{pa pb:Option (List α)}(h:EqN 8 enc)(ha:VE A a (rO (oL enc)) pa)(hb:VE A b (rO (oL enc)) pb):VE A (m2 (eqD true) a b) (rV D.bl) (pa.bind λx=>pb.bind λy=>some (!decide (x=y))):=gU ha hb λx y z S n m hn hm q=>by cases q;exact RT h true hn hm
end
section
variable{a b m mo:ME}{enc:α->D}{ml:ML}{pl pk:Option (List α)}{pi:Option Int}
def fk(l:List α)(i:Int)(f:α->β):atI (l.map f) i=(atI l i).map f:=by
 unfold atI;rw[AC]
 cases ixN l.length i with
 | none=>rfl
 | some j=>show(l.map f)[j]?=(l[j]?).map f;rw[AN]
def Vh{l:List α}{d:D}{S:Sto}{i:Int}{x:α}(hs:Fa d S=some (l.map enc))(h:atI l i=some x):ixA d (.int i) S=.ok (enc x) S:=by
 show Gq (ixD d (.int i) S) _=_
 have:ixD d (.int i) S=.ok (enc x) S:=by
  unfold ixD;rw[hs];dsimp only;rw[fk,h];rfl
 rw[this];rfl
def ZD(ha:VE A a (rV (eT enc)) pl)(hb:VE A b (rV D.int) pi):VE A (m2 ixA a b) (rV enc) (pl.bind λl=>pi.bind λi=>atI l i):=MU ha hb λl i z S q=>Vh rfl q
def ZE(ha:VE A a (rO (oL enc)) pl)(hb:VE A b (rV D.int) pi):VE A (m2 ixA a b) (rV enc) (pl.bind λl=>pi.bind λi=>atI l i):=U2 ha hb λl i z S n hn q=>Vh (CY hn) q
def cY(ha:VE A a (rV (eT enc)) pl):VE A (GN a) (rV D.int) (pl.bind λl=>some (l.length:Int)):=λv hv S0 e F S hs=>by
 obtain⟨l,h1,h2⟩:=BG hv;cases h2;obtain⟨d,S',h3,h4,rfl⟩:=ha l h1 S0 e F S hs;exact⟨_,S',(Ht (ds:=l.map enc) h3 rfl).trans (by rw[AC]),h4,rfl⟩
def Zb(l:List Int):Option Int:=if l.length<=4000 then some (Ll l:Int)else none
def Kp:∀ns:List Int,G8 (ns.map D.int)=some ns
 | []=>rfl
 | x :: ns=>by rw[A5];unfold G8;rw[Kp ns];rfl
def XW{pl:Option (List Int)}(ha:VE A a (rV (eT D.int)) pl):VE A (Og a) (rV D.int) (pl.bind Zb):=λv hv S0 e F S hs=>by
 obtain⟨l,h1,h2⟩:=BG hv;unfold Zb at h2;split at h2
 ·rename_i hl
  cases h2;obtain⟨d,S',h3,h4,rfl⟩:=ha l h1 S0 e F S hs;refine⟨_,S',?_,h4,rfl⟩;unfold Og;rw[h3];dsimp only[Res.bind];rw[show Fa (eT D.int l) S'=some (l.map D.int)from rfl];dsimp only;rw[Kp];exact qX hl
 ·cases h2
def Q8(ha:VE A a (rO (oL enc)) pl):VE A (Fe a) (rV (eT enc)) pl:=λl hv S0 e F S hs=>by
 obtain⟨d,S',h3,h4,n,rfl,hn⟩:=ha l hv S0 e F S hs;exact⟨_,S',IR h3 (CY hn),h4,rfl⟩
def R0(ha:VE A a (rO (oL enc)) pl):VL A (Ip a) enc pl:=λl hv S0 e F S hs=>by
 obtain⟨d,S',h3,h4,n,rfl,hn⟩:=ha l hv S0 e F S hs;exact⟨S',WV h3 (CY hn),h4⟩
def Rz(ha:VE A a (rV (eT enc)) pl):VL A (Ip a) enc pl:=λl hv S0 e F S hs=>by
 obtain⟨d,S',h3,h4,rfl⟩:=ha l hv S0 e F S hs;exact⟨S',WV h3 rfl,h4⟩
def R4(h:VL A ml enc pl):VL A (mN Ms ml) enc pl:=λl hv S0 e F S hs=>by
 obtain⟨S',h3,h4⟩:=h l hv S0 e F S hs;exact⟨S',by unfold mN;rw[h3];rfl,h4⟩
def Op:∀l:List Bool,Vz (l.map D.bl)=some l
 | []=>rfl
 | x :: l=>by rw[A5];unfold Vz;rw[Op l];rfl
def ZJ{pl:Option (List Bool)}(h:VL A ml D.bl pl):VE A (mQ Ss ml) (rV D.bl) (pl.bind λl=>some (l.all id)):=λv hv S0 e F S hs=>by
 obtain⟨l,h1,h2⟩:=BG hv;cases h2;obtain⟨S',h3,h4⟩:=h l h1 S0 e F S hs;refine⟨_,S',VQ h3 ?_,h4,rfl⟩;unfold Ss Vy;rw[Op]
def iS{pl:Option (List Bool)}(h:VL A ml D.bl pl):VE A (mQ bY ml) (rV D.bl) (pl.bind λl=>some (l.any id)):=λv hv S0 e F S hs=>by
 obtain⟨l,h1,h2⟩:=BG hv;cases h2;obtain⟨S',h3,h4⟩:=h l h1 S0 e F S hs;refine⟨_,S',VQ h3 ?_,h4,rfl⟩;unfold bY Vy;rw[Op]
def R3:VL A Au enc (some []):=λv hv S0 e F S hs=>by cases hv;exact⟨S,rfl,Keeps.refl S⟩
def WM{p:Option α}(h:VE A m (rV enc) p)(hl:VL A ml enc pl):VL A (AI m ml) enc (p.bind λx=>pl.bind λl=>some (x :: l)):=λv hv S0 e F S hs=>by
 obtain⟨x,h1,h2⟩:=BG hv;obtain⟨l,h2',h3⟩:=BG h2;cases h3;obtain⟨d,S1,h4,h5,rfl⟩:=h x h1 S0 e F S hs;obtain⟨S2,h6,h7⟩:=hl l h2' S0 e _ S1 (hs.grow h5);exact⟨S2,BX h4 h6,h5.trans h7⟩
def Qw(l:List α):Option (List α):=if l.length<=1000000 then some l else none
def O4(h:VL A ml enc pl):VL A (Cn ml) enc (pl.bind Qw):=λv hv S0 e F S hs=>by
 obtain⟨l,h1,h2⟩:=BG hv;unfold Qw at h2;split at h2
 ·rename_i hl
  cases h2;obtain⟨S',h3,h4⟩:=h _ h1 S0 e F S hs;refine⟨S',?_,h4⟩;unfold Cn;rw[h3];dsimp only[Res.bind];rw[qX (by rw[AC];exact aS hl)]
 ·cases h2
def iL(h:VL A ml enc pl):VE A (Fn ml) (rV (eT enc)) (pl.bind Qw):=λv hv S0 e F S hs=>by
 obtain⟨l,h1,h2⟩:=BG hv;unfold Qw at h2;split at h2
 ·rename_i hl
  cases h2;obtain⟨S',h3,h4⟩:=h _ h1 S0 e F S hs;refine⟨_,S',?_,h4,rfl⟩;unfold Fn;rw[h3];dsimp only[Res.bind];rw[qX (by rw[AC];exact aS hl)];rfl
 ·cases h2
def cT{a':α->D}{b':β->D}{pa:Option α}{pb:Option β}(ha:VE A a (rV a') pa)(hb:VE A b (rV b') pb):VE A (Fn (AI a (AI b Au))) (rV (eP a' b')) (pa.bind λx=>pb.bind λy=>some (x,y)):=λv hv S0 e F S hs=>by
 obtain⟨x,h1,hv⟩:=BG hv;obtain⟨y,h2,h3⟩:=BG hv;cases h3;obtain⟨d1,S1,q1,k1,rfl⟩:=ha x h1 S0 e F S hs;obtain⟨d2,S2,q2,k2,rfl⟩:=hb y h2 S0 e _ S1 (hs.grow k1);exact⟨_,S2,Kc (ds:=[a' x,b' y]) (BX q1 (BX q2 rfl)) (by simp),k1.trans k2,rfl⟩
def WQ(ha:VE A a (rO (oL enc)) pl)(hb:VE A b (rO (oL enc)) pk):VE A (m2 Ff a b) (rN (oL enc)) (pl.bind λl=>pk.bind λk=>OR l k):=λv hv S0 e F S hs=>by
 obtain⟨x,h1,hv⟩:=BG hv;obtain⟨y,h2,h3⟩:=BG hv;obtain⟨d1,S1,q1,k1,n,rfl,hn⟩:=ha x h1 S0 e F S hs;obtain⟨d2,S2,q2,k2,m,rfl,hm⟩:=hb y h2 S0 e _ S1 (hs.grow k1);unfold OR at h3;split at h3
 ·rename_i hl
  cases h3;refine⟨_,_,BO q1 q2 (d:=.ref S2.length) (S3:=S2++[oL enc (x++y)]) ?_,(k1.trans k2).trans (Keeps.app _ _),_,rfl,(k1.trans k2).1,By _ _⟩;unfold Ff;dsimp only;rw[k2.at hn,hm];unfold oL;dsimp only;rw[qX (by rw[AC,AC];exact aS hl),A2]
 ·cases h3
def TW{pl:Option (List Int)}(ha:VE A a (rO (oL D.int)) pl):VE A (Ch a) (rN (oL D.int)) (pl.bind λl=>some (C1 l)):=λv hv S0 e F S hs=>by
 obtain⟨l,h1,h2⟩:=BG hv;cases h2;obtain⟨d,S',h3,h4,n,rfl,hn⟩:=ha l h1 S0 e F S hs;refine⟨_,_,FK h3 (HK hn) (es:=(C1 l).map D.int) ?_,h4.trans (Keeps.app _ _),_,rfl,h4.1,By _ _⟩;unfold Jd;rw[Kp]
def SA(l:List (List Int)):Option (List (List Int)):=if l.all (λr=>!r.isEmpty)=true then some (Gk l)else none
def Pd:∀rs:List (List Int),rs.all (λr=>!r.isEmpty)=true->Kd (rs.map B8)=some rs
 | [],_=>rfl
 | [] :: rs,h=>by simp at h
 | (x :: r) :: rs,h=>by
  rw[hX,Hj]at h;show Kd (.tup ((x :: r).map D.int) :: rs.map B8)=_;unfold Kd;rw[Kp,Pd rs h.2]
def ZA{pl:Option (List (List Int))}(ha:VE A a (rO (oL (eT D.int))) pl):VE A (Ch a) (rN (oL (eT D.int))) (pl.bind SA):=λv hv S0 e F S hs=>by
 obtain⟨l,h1,h2⟩:=BG hv;obtain⟨d,S',h3,h4,n,rfl,hn⟩:=ha l h1 S0 e F S hs;unfold SA at h2;split at h2
 ·rename_i hl
  cases h2;refine⟨_,_,FK h3 (HK hn) (es:=(Gk l).map B8) ?_,h4.trans (Keeps.app _ _),_,rfl,h4.1,By _ _⟩
  cases l with
  | nil=>show some ((C1 []).map D.int)=some ((Gk []).map B8);rw[RE];unfold Gk;rw[Yp];rfl
  | cons x l=>
   unfold Jd;rw[show G8 (Ir (eT D.int) (x :: l))=none from rfl,show Kd (Ir (eT D.int) (x :: l))=some (x :: l)from Pd _ hl]
 ·cases h2
def PD(ha:VE A a (rV (eT enc)) pl):VI A (D7 a) enc pl:=λl hv S0 e F S hs=>by
 obtain⟨d,S',h3,h4,rfl⟩:=ha l hv S0 e F S hs;exact⟨_,S',M0 (xs:=l.map enc) h3,h4,λ_ _ _ _=>rfl⟩
def Y9{i:Nat}{l:List α}(h:A[i]?=some (.z (oL enc l))):VI A (D7 (AB i)) enc (some l):=λ_ hv S0 e F S hs=>by
 cases hv;obtain⟨x,h1,n,rfl,h2⟩:=hs.sl i _ h;have hn:=hs.fz _ _ h2;exact⟨_,S,Fo (n:=n) (by unfold AB;rw[h1]) hn,Keeps.refl S,λF2 S2 hF h=>DW (h n _ (hF _ _ (by rw[Ft (Bo hn)];exact h2)))⟩
def cQ{i:Nat}{l:List α}(h:A[i]?=some (.y (oL enc l))):VI A (D7 (AB i)) enc (some l):=λ_ hv S0 e F S hs=>by
 cases hv;obtain⟨x,h1,n,rfl,h2,_⟩:=hs.sl i _ h;have hn:=hs.fz _ _ h2;exact⟨_,S,Fo (n:=n) (by unfold AB;rw[h1]) hn,Keeps.refl S,λF2 S2 hF h=>DW (h n _ (hF _ _ (by rw[Ft (Bo hn)];exact h2)))⟩
def Xk(lo:Int)(n:Nat):List Int:=(BA n).map λi:Nat=>lo+i
def Qo(j:Int):Option (List Int):=if -1000000<=j/\j<=1000000 then some (Xk 0 j.toNat)else none
def Zf(lo:Int)(n:Nat):C2 lo n=(Xk lo n).map D.int:=by
 unfold C2 Xk;rw[Ax];rfl
def NP(ha:VE A a (rV D.int) pi):VI A (iR1 (AI a Au)) D.int (pi.bind Qo):=λl hv S0 e F S hs=>by
 obtain⟨j,h1,h2⟩:=BG hv;obtain⟨d,S',h3,h4,rfl⟩:=ha j h1 S0 e F S hs;unfold Qo at h2;split at h2
 ·rename_i hj
  cases h2;exact⟨_,S',Lx (j:=j) (BX h3 rfl) hj.1 hj.2,h4,λ_ _ _ _=>congrArg some (Zf _ _)⟩
 ·cases h2
def N8(l:List α):List (Int×α):=l.zipIdx.map λx=>((x.2:Int),x.1)
def YS(l:List α):No (l.map enc)=(N8 l).map (eP D.int enc):=by
 unfold No N8;rw[List.zipIdx_map,Ax,Ax];rfl
def PF(ha:VE A a (rV (eT enc)) pl):VI A (Nj a) (eP D.int enc) (pl.bind λl=>some (N8 l)):=λv hv S0 e F S hs=>by
 obtain⟨l,h1,h2⟩:=BG hv;cases h2;obtain⟨d,S',h3,h4,rfl⟩:=ha l h1 S0 e F S hs;refine⟨WO (Ea (eT enc l)),S',?_,h4,λF2 S2 hF h=>?_⟩
 ·unfold Nj
  rw[h3];rfl
 ·show some (No (l.map enc))=_
  rw[YS]
end
end
section
variable{S0 S S':Sto}{A B:List Sl}{e:Lo}{F:Fz}{α β γ δ ρ σ τ κ κ':Type}
def oDK(enc:α->D)(l:List (Int×α)):Ob:=.dK (l.map λx=>(CL x.1,enc x.2))
def Tb[DecidableEq κ][DecidableEq κ']{kk:κ->κ'}(hk:∀x y,kk x=kk y->x=y)(f:α->β)(l:List (κ×α))(k:κ):A3 (l.map λx=>(kk x.1,f x.2)) (kk k)=(A3 l k).map f:=by
 unfold A3
 induction l with
 | nil=>rfl
 | cons x l ih=>
  rw[A5,BV,BV]
  by_cases c:x.1=k
  ·rw[wX c,wX (show kk x.1=kk k by rw[c])]
   rfl
  ·rw[wY c,wY λz=>c (hk _ _ z)]
   exact ih
def T3[DecidableEq κ][DecidableEq κ']{kk:κ->κ'}(hk:∀x y,kk x=kk y->x=y)(f:α->β)(l:List (κ×α))(k:κ)(v:α):CF (l.map λx=>(kk x.1,f x.2)) (kk k) (f v)=(CF l k v).map λx=>(kk x.1,f x.2):=by
 have any:((l.map λx=>(kk x.1,f x.2)).any λkv=>decide (kv.1=kk k))=l.any λkv=>decide (kv.1=k):=by
  rw[kh]
  congr 1
  funext x
  exact decide_eq_decide.mpr ⟨hk _ _,λz=>congrArg kk z⟩
 unfold CF;rw[any];split
 ·rw[Ax,Ax]
  refine CG λx _=>?_
  show(if kk x.1=kk k then(kk x.1,f v)else(kk x.1,f x.2))=_
  by_cases c:x.1=k
  ·show _=(λx:κ×α=>(kk x.1,f x.2)) (if x.1=k then(x.1,v)else x)
   rw[qX c,qX (show kk x.1=kk k by rw[c])]
  ·show _=(λx:κ×α=>(kk x.1,f x.2)) (if x.1=k then(x.1,v)else x)
   rw[qY c,qY λz=>c (hk _ _ z)]
 ·rw[A2]
  rfl
def Oi(x y:Int)(h:(CL x:Key)=CL y):x=y:=by cases h;rfl
def UV{enc:α->D}{l:List (Int×α)}{n:Nat}{S:Sto}(h:S[n]?=some (oDK enc l))(k:Int):LS (.ref n) (.int k) S=some ((A3 l k).map enc):=by
 unfold LS;dsimp only;rw[h];show some (A3 _ (CL k))=_;rw[Tb Oi]
def Vu{n:Nat}{y:D}{S:Sto}{o:Option D}(hq:Fa (.ref n) S=none)(h:LS (.ref n) y S=some o)(neg:Bool):inA neg y (.ref n) S=.ok (.bl (if neg then !o.isSome else o.isSome)) S:=by
 show Gq (inD neg y (.ref n) S) (Jm neg y (.ref n) S)=_;rw[show inD neg y (.ref n) S=.bad by unfold inD;rw[hq]];show Jm neg y (.ref n) S=_;unfold Jm;rw[h]
def Vt{n:Nat}{y:D}{S:Sto}{d:D}(hq:Fa (.ref n) S=none)(h:LS (.ref n) y S=some (some d)):ixA (.ref n) y S=.ok d S:=by
 show Gq (ixD (.ref n) y S) (Ld (.ref n) y S)=_;rw[show ixD (.ref n) y S=.bad by unfold ixD;rw[hq]];show Ld (.ref n) y S=_;unfold Ld;rw[h]
def Zc{enc:α->D}{l:List (Int×α)}{n:Nat}{S:Sto}(h:S[n]?=some (oDK enc l)):Fa (.ref n) S=none:=by unfold Fa;dsimp only;rw[h];rfl
section
variable{a b m:ME}{enc:α->D}
def PJ:VE A Hs (rN (oDK enc)) (some []):=λv hv S0 e F S hs=>by cases hv;exact⟨_,_,rfl,Keeps.app _ _,_,rfl,AQ _,By _ _⟩
def cZ{pk:Option Int}{pl:Option (List (Int×α))}(ha:VE A a (rV D.int) pk)(hb:VE A b (rO (oDK enc)) pl):VE A (m2 (inA false) a b) (rV D.bl) (pk.bind λx=>pl.bind λl=>some (A3 l x).isSome):=U1 ha hb λx l z S n hn q=>by cases q;rw[Vu (Zc hn) (UV hn x)];simp
def PH{pk:Option Int}{pl:Option (List (Int×α))}(ha:VE A a (rV D.int) pk)(hb:VE A b (rO (oDK enc)) pl):VE A (m2 (inA true) a b) (rV D.bl) (pk.bind λx=>pl.bind λl=>some (!(A3 l x).isSome)):=U1 ha hb λx l z S n hn q=>by cases q;rw[Vu (Zc hn) (UV hn x)];simp
def ZI{pk:Option Int}{pl:Option (List (Int×α))}(ha:VE A a (rO (oDK enc)) pl)(hb:VE A b (rV D.int) pk):VE A (m2 ixA a b) (rV enc) (pl.bind λl=>pk.bind λx=>A3 l x):=U2 ha hb λl x z S n hn q=>Vt (Zc hn) (by rw[UV hn x,q];rfl)
def Mg[DecidableEq κ](l:List (κ×α))(k:κ)(v:α):Option (List (κ×α)):=if l.length < 1000000 then some (CF l k v)else none
def cO{ek:κ->D}[DecidableEq κ]{ob:List (κ×α)->Ob}{R:Rk ρ}{p:Option α}{pk:Option κ}{i:Nat}{l:List (κ×α)}
  (hput:∀(l:List (κ×α)) (k:κ) (v:α) (S:Sto) (n:Nat),S[n]?=some (ob l)->l.length < 1000000->Qx (.ref n) (ek k) (enc v) S=some (S.set n (ob (CF l k v))))
  (hi:A[i]?=some (.w i (ob l))) (hk:VE A b (rV ek) pk) (h:VE A m (rV enc) p) (ht:((A.set i .u).all (Sl.oth i))=true) :
  VS A (DI (AB i) b m) R (p.bind λv=>pk.bind λk=>(Mg l k v).bind λl'=>some (.nx l')) (λl'=>A.set i (.w i (ob l'))):=λf hf S0 e F S hs=>by
 obtain⟨v,h1,h2⟩:=BG hf;obtain⟨k,h2',h3⟩:=BG h2;obtain⟨l',h4,h0⟩:=BG h3;cases h0;unfold Mg at h4;split at h4
 ·rename_i hl
  cases h4;obtain⟨x,g1,n,rfl,g2,g3⟩:=hs.sl i _ hi;obtain⟨d,S1,h5,h6,rfl⟩:=h v h1 S0 e F S hs;obtain⟨d,S2,h7,h8,rfl⟩:=hk k h2' S0 e _ S1 (hs.grow h6);have hg:=(hs.grow h6).grow h8;have hn:=(h6.trans h8).at g3
  have hx:DI (AB i) b m e S=.ok (.nx e) (S2.set n (ob (CF l k v))):=by
   unfold DI;rw[h5];dsimp only[Res.lift];rw[show AB i e S1=.ok (.ref n) S1 by unfold AB;rw[g1]];dsimp only;rw[h7];dsimp only;rw[hput l k v S2 n hn hl]
  have hF:Nn (Nn F S S1) S1 S2 n=.ow i:=by rw[Ft (Bo (h6.at g3)),Ft (Bo g3)];exact g2
  exact⟨_,_,hx,e,_,rfl,hg.put ht hi g1 hF,(hs.fle S1).trans ((hs.grow h6).fle S2)⟩
 ·cases h4
def O3{R:Rk ρ}{p:Option α}{pk:Option Int}{i:Nat}{l:List (Int×α)}(hi:A[i]?=some (.w i (oDK enc l)))(hk:VE A b (rV D.int) pk)(h:VE A m (rV enc) p)(ht:((A.set i .u).all (Sl.oth i))=true) :
  VS A (DI (AB i) b m) R (p.bind λv=>pk.bind λk=>(Mg l k v).bind λl'=>some (.nx l')) (λl'=>A.set i (.w i (oDK enc l'))):=
 cO (λl k v S n hn hl=>by
  unfold Qx;dsimp only;rw[hn];show(if (l.map _).length < sizeLine then some (S.set n (.dK (CF (l.map λx=>(CL x.1,enc x.2)) (CL k) (enc v))))else none)=_;rw[qX (by rw[AC];exact aN hl),T3 Oi]
  rfl) hi hk h ht
def cg{pl:Option (List α)}(h:VE A m (rO (oL enc)) pl):VB A (Io m) (pl.bind λl=>some (!l.isEmpty)):=λv hv S0 e F S hs=>by
 obtain⟨l,h1,h2⟩:=BG hv;cases h2;obtain⟨d,S',h3,h4,n,rfl,hn⟩:=h l h1 S0 e F S hs;refine⟨S',?_,h4⟩;unfold Io;rw[h3];dsimp only[Res.bind]
 have:Ps (.ref n) S'=some (!l.isEmpty):=by
  unfold Ps;dsimp only;rw[hn]
  cases l <;> rfl
 rw[this]
def iI{b:MS}{R:Rk ρ}{B:σ->List Sl}:VS A b R none B:=λf hf=>by cases hf
def iY(r:List Int):Int×Int:=(r.getD 0 0,r.getD 1 0)
def Ev(l:List (Int×Int)):List (Int×Int):=(Gk (l.map λx=>[x.1,x.2])).map iY
def dE(l:List (Int×Int)):(Gk (l.map λx=>[x.1,x.2])).map B8=(Ev l).map (eP D.int D.int):=by
 unfold Ev;rw[Ax]
 refine CG λr hr=>?_
 obtain⟨x,_,rfl⟩:=Ag.mp ((Du _).mem_iff.mp hr);rfl
def ZB{pl:Option (List (Int×Int))}(ha:VE A a (rO (oL (eP D.int D.int))) pl):VE A (Ch a) (rN (oL (eP D.int D.int))) (pl.bind λl=>some (Ev l)):=λv hv S0 e F S hs=>by
 obtain⟨l,h1,h2⟩:=BG hv;cases h2;obtain⟨d,S',h3,h4,n,rfl,hn⟩:=ha l h1 S0 e F S hs;refine⟨_,_,FK h3 (HK hn) (es:=(Ev l).map (eP D.int D.int)) ?_,h4.trans (Keeps.app _ _),_,rfl,h4.1,By _ _⟩;rw[<-dE]
 cases l with
 | nil=>show some ((C1 []).map D.int)=some ((Gk []).map B8);rw[RE];unfold Gk;rw[Yp];rfl
 | cons x l=>
  have hr:Kd (Ir (eP D.int D.int) (x :: l))=some ((x :: l).map λx=>[x.1,x.2]):=by
   have:=Pd ((x :: l).map λx=>[x.1,x.2]) (ES.mpr λr hr=>by obtain⟨y,_,rfl⟩:=Ag.mp hr;rfl);rw[Ax]at this;exact this
  unfold Jd;rw[show G8 (Ir (eP D.int D.int) (x :: l))=none from rfl,hr]
end
end
section
variable{α β γ ρ σ τ:Type}
def DO{s:σ}{q:σ->Option (Fw ρ τ)}:DP (some (.nx s)) q=q s:=rfl
def bB{l:List α}{q:σ->α->Option (Fw ρ σ)}{s0:σ}(I:List α->σ->Prop)(R:ρ->Prop)(h0:I [] s0)(h:∀pre x s,x∈l->pre++[x] <+: l->I pre s->(∃s',q s x=some (.nx s')/\I (pre++[x]) s')∨∃r,q s x=some (.rt r)/\R r):(∃s,J9 l s0 q=some (.nx s)/\I l s)∨∃r,J9 l s0 q=some (.rt r)/\R r:=by
 have key:∀(r pre:List α) (s:σ),l=pre++r->I pre s->(∃s',J9 r s q=some (.nx s')/\I l s')∨∃y,J9 r s q=some (.rt y)/\R y:=by
  intro r
  induction r with
  | nil=>intro pre s e hI;rw[BW]at e;subst e;exact .inl ⟨s,rfl,hI⟩
  | cons x r ih=>
   intro pre s e hI
   rcases h pre x s (by rw[e];simp) ⟨r,by rw[e];simp⟩ hI with⟨s',h1,h2⟩ | ⟨y,h1,h2⟩
   ·have e':J9 (x :: r) s q=J9 r s' q:=by
     conv=>lhs;unfold J9
     rw[h1]
    rw[e'];exact ih (pre++[x]) s' (by rw[e];simp) h2
   ·refine .inr ⟨y,?_,h2⟩
    unfold J9;rw[h1]
 exact key l [] s0 rfl h0
def bQ{l:List α}{c:α->Option Bool}{m:α->Option β}{P:α->Bool}{f:α->β}(hc:∀x∈l,c x=some (P x))(hm:∀x∈l,P x=true->m x=some (f x)):QG c m l=some ((l.filter P).map f):=by
 induction l with
 | nil=>rfl
 | cons x l ih=>
  have ih:=ih (λy hy=>hc y (Aj _ hy)) λy hy=>hm y (Aj _ hy)
  unfold QG;rw[hc x A1];show(if P x=true then _ else _)=_
  cases hp:P x with
  | true=>
   rw[qX rfl,hm x A1 hp,ih,List.filter_cons_of_pos hp];rfl
  | false=>
   rw[qY AZ,ih,List.filter_cons_of_neg (by rw[hp];exact AZ)]
def Kx{l:List α}{c:α->Option Bool}{m:α->Option β}{P:α->Bool}{f:α->β}(hl:l.length<=1000000)(hc:∀x∈l,c x=some (P x))(hm:∀x∈l,P x=true->m x=some (f x)):G9 l c m=some ((l.filter P).map f):=by
 unfold G9;rw[qX hl,bQ hc hm]
def Jn{l:List α}{m:α->Option β}{f:α->β}(hl:l.length<=1000000)(hm:∀x∈l,m x=some (f x)):G9 l (λ_=>some true) m=some (l.map f):=by
 rw[Kx (P:=λ_=>true) hl (λ_ _=>rfl) λx hx _=>hm x hx,XN.mpr λ_ _=>rfl]
def QH{l:List α}{c:α->Option Bool}{P:α->Bool}(hl:l.length<=1000000)(hc:∀x∈l,c x=some (P x)):G9 l c (λx=>some x)=some (l.filter P):=by
 rw[Kx (f:=λx=>x) hl hc λx hx _=>rfl,kg]
def W6{l:List α}{x:α}(h:l.length < 1000000):Ye l x=some (l++[x]):=qX h
def Om{l k:List α}(h:l.length+k.length<=1000000):OR l k=some (l++k):=qX h
def few0:Qw ([]:List α)=some []:=rfl
def mZ(a:α):Qw [a]=some [a]:=qX (by simp)
def SG{j:Int}(h0:-1000000<=j)(h1:j<=1000000):Qo j=some (Xk 0 j.toNat):=qX ⟨h0,h1⟩
def Np{l:List α}{i:Int}(h0:0<=i)(h1:i < l.length):∃x,atI l i=some x/\l[i.toNat]?=some x:=by
 have hlt:i.toNat < l.length:=by lia
 exact⟨l[i.toNat],bX h0 (BR hlt),BR hlt⟩
def fj{l:List α}{i:Int}{x:α}(h:atI l i=some x):x∈l:=by
 unfold atI at h;obtain⟨j,_,h2⟩:=BG h;exact BD h2
def J3[DecidableEq α]:∀{l k:List α},l.Nodup->(∀x∈l,x∈k)->l.length<=k.length
 | [],_,_,_=>Cr _
 | x :: l,k,nd,h=>by
  have hx:=h x A1;obtain⟨n1,n2⟩:=CW.mp nd
  have:=J3 (l:=l) (k:=k.erase x) n2 λy hy=>(List.mem_erase_of_ne (λz:y=x=>n1 (by rw[<-z];exact hy))).mpr (h y (Aj _ hy))
  rw[TD hx]at this;have:=Ui hx;rw[A8]
  lia
def Ok(p:Option α)(P:α->Prop):Prop:=∃v,p=some v/\P v
def Ok.pure{v:α}{P:α->Prop}(h:P v):Ok (some v) P:=⟨v,rfl,h⟩
def Ok.is{p:Option α}{v:α}(h:Ok p λr=>r=v):p=some v:=by
 obtain⟨_,h1,rfl⟩:=h;exact h1
def Ok.imp{p:Option α}{P Q:α->Prop}(h:Ok p P)(i:∀v,P v->Q v):Ok p Q:=by
 obtain⟨v,rfl,h⟩:=h;exact⟨v,rfl,i v h⟩
def OkF(p:Option (Fw ρ σ))(N:σ->Prop)(R:ρ->Prop):Prop:=(∃s,p=some (.nx s)/\N s)∨∃r,p=some (.rt r)/\R r
def OkF.nx{s:σ}{N:σ->Prop}{R:ρ->Prop}(h:N s):OkF (some (.nx s)) N R:=.inl ⟨s,rfl,h⟩
def OkF.rt{r:ρ}{N:σ->Prop}{R:ρ->Prop}(h:R r):OkF (some (.rt r)) N R:=.inr ⟨r,rfl,h⟩
def OkF.seq{p:Option (Fw ρ σ)}{q:σ->Option (Fw ρ τ)}{N:σ->Prop}{N':τ->Prop}{R:ρ->Prop}(h:OkF p N R)(hq:∀s,N s->OkF (q s) N' R):OkF (DP p q) N' R:=by
 rcases h with⟨s,rfl,h⟩ | ⟨r,rfl,h⟩
 ·exact hq s h
 ·exact .inr ⟨r,rfl,h⟩
def OkF.map{p:Option (Fw ρ σ)}{g:σ->τ}{N:σ->Prop}{N':τ->Prop}{R:ρ->Prop}(h:OkF p N R)(hg:∀s,N s->N' (g s)):OkF (LR g p) N' R:=by
 rcases h with⟨s,rfl,h⟩ | ⟨r,rfl,h⟩
 ·exact .inl ⟨_,rfl,hg s h⟩
 ·exact .inr ⟨r,rfl,h⟩
def OkF.of{p:Option α}{q:α->Option (Fw ρ σ)}{P:α->Prop}{N:σ->Prop}{R:ρ->Prop}(h:Ok p P)(hq:∀v,P v->OkF (q v) N R):OkF (p.bind q) N R:=by
 obtain⟨v,rfl,h⟩:=h;exact hq v h
def OkF.ite{c:Bool}{a b:Option (Fw ρ σ)}{N:σ->Prop}{R:ρ->Prop}(ha:c=true->OkF a N R)(hb:c=false->OkF b N R):OkF (if c=true then a else b) N R:=by
 cases c with
 | true=>exact ha rfl
 | false=>exact hb rfl
def OkF.for{l:List α}{q:σ->α->Option (Fw ρ σ)}{s0:σ}{R:ρ->Prop}(I:List α->σ->Prop)(h0:I [] s0)(h:∀pre x s,x∈l->pre++[x] <+: l->I pre s->OkF (q s x) (I (pre++[x])) R):OkF (J9 l s0 q) (I l) R:=bB I R h0 h
def OkF.out{p:Option (Fw ρ σ)}{R:ρ->Prop}(h:OkF p (λ_=>False) R):Ok (Pi p) R:=by
 rcases h with⟨s,rfl,h⟩ | ⟨r,rfl,h⟩
 ·exact h.elim
 ·exact⟨r,rfl,h⟩
end
section
variable{A:List Sl}{a b m:ME}{pa pb:Option Int}
def Za(x y:Int):Option Int:=if bb x y then some (x * 2 ^ y.toNat)else none
def dG(x y:Int):Option Int:=if 0<=y then some (x / 2 ^ y.toNat)else none
def iO(ha:VE A a (rV D.int) pa)(hb:VE A b (rV D.int) pb):VE A (m2 ip a b) (rV D.int) (pa.bind λx=>pb.bind λy=>Za x y):=MU ha hb λx y z S h=>by
 unfold Za at h;split at h
 ·rename_i hc;cases h;exact qX hc
 ·cases h
def iN(ha:VE A a (rV D.int) pa)(hb:VE A b (rV D.int) pb):VE A (m2 dH a b) (rV D.int) (pa.bind λx=>pb.bind λy=>dG x y):=MU ha hb λx y z S h=>by
 unfold dG at h;split at h
 ·rename_i hc;cases h;exact qX hc
 ·cases h
def cc(ha:VE A a (rV D.int) pa)(hb:VE A b (rV D.int) pb):VE A (m2 fu a b) (rV D.int) (pa.bind λx=>pb.bind λy=>some (Gi x y)):=MU ha hb λx y z S h=>by cases h;rfl
def ci(h:VE A m (rV D.int) pa):VB A (Io m) (pa.bind λx=>some (x != 0)):=λv hv S0 e F S hs=>by
 obtain⟨l,h1,h2⟩:=BG hv;cases h2;obtain⟨d,S',h3,h4,rfl⟩:=h l h1 S0 e F S hs;refine⟨S',?_,h4⟩;unfold Io;rw[h3];rfl
end
section
variable{A:List Sl}{a m:ME}{α ρ:Type}{enc:α->D}
def XU{pl:Option (List Int)}(ha:VE A a (rV (eT D.int)) pl):VE A (Ch a) (rN (oL D.int)) (pl.bind λl=>some (C1 l)):=λv hv S0 e F S hs=>by
 obtain⟨l,h1,h2⟩:=BG hv;cases h2;obtain⟨d,S',h3,h4,rfl⟩:=ha l h1 S0 e F S hs;refine⟨_,_,FK h3 (ds:=l.map D.int) rfl (es:=(C1 l).map D.int) ?_,h4.trans (Keeps.app _ _),_,rfl,h4.1,By _ _⟩;unfold Jd;rw[Kp]
end
section
variable{S0 S S':Sto}{A B:List Sl}{e:Lo}{F:Fz}{α β γ ρ σ τ:Type}{a:ME}{enc:α->D}
def MR{n:Nat}{b:MS}{as:List Ar}{R:Rk ρ}{p:Option (Fw ρ σ)}{B:σ->List Sl}(h:VS (as.map Ar.sl++Be (n - as.length) .u) b R p B):VF (EY n b) as R (Pi p):=λv hv S ds ha=>by
 cases p with
 | none=>cases hv
 | some x=>
  obtain⟨g,S',h1,h2⟩:=h _ rfl S _ _ S (Vs.start ha)
  cases x with
  | rt r=>cases hv;obtain⟨d,rfl,h2,h3⟩:=h2;exact⟨d,S',_root_.M.DJ h1,h3,h2⟩
  | nx s=>cases hv
  | bk s=>cases hv
  | ct s=>cases hv
def iK{n:Nat}{b:MS}{as:List Ar}{p:Option (Fw Unit σ)}{B:σ->List Sl}(h:VS (as.map Ar.sl++Be (n - as.length) .u) b (rV eU) p B):VF (EY n b) as (rV eU) (lj p):=λv hv S ds ha=>by
 cases p with
 | none=>cases hv
 | some x=>
  obtain⟨g,S',h1,h2⟩:=h _ rfl S _ _ S (Vs.start ha)
  cases x with
  | rt r=>obtain⟨d,rfl,h2,h3⟩:=h2;exact⟨d,S',_root_.M.DJ h1,h3,h2⟩
  | nx s=>obtain⟨e',F',rfl,h2,h3⟩:=h2;exact⟨.non,S',_root_.M.VO h1,h2.kp,rfl⟩
  | bk s=>cases hv
  | ct s=>cases hv
def ZF{t T:String}{r:Bool}{p:Option α}(ha:VE A a (rV enc) p)(ht:∀x S,tyD (enc x) S=some T)(hb:isB t T=some r):VE A (_root_.M.mIs (isB t) (λ_=>none) a) (rV D.bl) (p.bind λ_=>some r):=λv hv S0 e F S hs=>by
 obtain⟨x,h1,h2⟩:=BG hv;cases h2;obtain⟨d,S',h3,h4,rfl⟩:=ha x h1 S0 e F S hs;exact⟨_,S',_root_.M.aZ h3 (ht x S') hb,h4,rfl⟩
end
section
variable{κ α:Type}[DecidableEq κ]
def Dp(l:List (κ×α))(k:κ)(v:α)(k':κ):A3 (CF l k v) k'=if k'=k then some v else A3 l k':=by
 have key:∀l:List (κ×α),A3 (l.map λkv=>if kv.1=k then(kv.1,v)else kv) k'=if k'=k then(A3 l k').map (λ_=>v)else A3 l k':=by
  intro l
  induction l with
  | nil=>unfold A3;simp
  | cons x l ih=>
   unfold A3 at ih ⊢;rw[A5,BV,BV]
   by_cases c:x.1=k
   ·rw[qX c]
    by_cases d:x.1=k'
    ·rw[wX d,qX (show k'=k from d▸c)]
     rfl
    ·rw[wY d]
     exact ih
   ·rw[qY c]
    by_cases d:x.1=k'
    ·rw[wX d,qY (λz:k'=k=>c (d.trans z))]
    ·rw[wY d]
     exact ih
 unfold CF;split
 ·rename_i h
  rw[key]
  by_cases c:k'=k
  ·rw[qX c,qX c]
   subst c
   have:(A3 l k').isSome=true:=by
    unfold A3;rw[G1,Yz];obtain⟨x,hx,hk⟩:=ER.mp h;exact⟨x,hx,hk⟩
   obtain⟨b,hb⟩:=JT.mp this;rw[hb];rfl
  ·rw[qY c,qY c]
 ·rename_i h
  unfold A3;rw[List.find?_append]
  by_cases c:k'=k
  ·subst c
   rw[qX rfl]
   have:l.find? (λkv=>decide (kv.1=k'))=none:=by
    rw[Iu];intro x hx hk;exact h (ER.mpr ⟨x,hx,hk⟩)
   rw[this];simp
  ·rw[qY c]
   have:[(k,v)].find? (λkv=>decide (kv.1=k'))=none:=by
    rw[Iu];intro x hx;rw[AO.mp hx];simp
    exact λz=>c z.symm
   rw[this];simp
def Ko(l:List (κ×α))(k:κ)(v:α):(CF l k v).map (·.1)=if k∈l.map (·.1)then l.map (·.1)else l.map (·.1)++[k]:=by
 have h1:(l.any λkv=>decide (kv.1=k))=true↔k∈l.map (·.1):=by
  rw[ER,Ag];exact⟨λ⟨x,hx,e⟩=>⟨x,hx,of_decide_eq_true e⟩,λ⟨x,hx,e⟩=>⟨x,hx,wX e⟩⟩
 unfold CF
 by_cases c:k∈l.map (·.1)
 ·rw[qX c,qX (h1.mpr c),Ax]
  refine CG λx _=>?_
  show(if x.1=k then(x.1,v)else x).1=x.1
  split <;> rfl
 ·rw[qY c,qY λz=>c (h1.mp z),A2]
  rfl
def Hf(l:List (κ×α))(k:κ):(A3 l k).isSome=true↔k∈l.map (·.1):=by
 unfold A3;rw[G1,Yz,Ag];exact⟨λ⟨x,hx,e⟩=>⟨x,hx,of_decide_eq_true e⟩,λ⟨x,hx,e⟩=>⟨x,hx,wX e⟩⟩
end
def hb(bits x:Int):Bool:=Gi (bits / 2 ^ x.toNat) 1 != 0
abbrev HL:=List (Int×Int)
abbrev QL:=List (Int×Bool)
def Lc(st:HL->Int->QL->Option (Bool×HL×QL))(g:Int):List Int->HL->QL->Option (Bool×HL×QL)
 | [],H,Q=>some (false,H,Q)
 | x :: r,H,Q=>if (A3 Q x).isSome=true then Lc st g r H Q else(Mg Q x true).bind λQ1=>(A3 H x).bind λg2=>(st H g2 Q1).bind λz=>if z.1=true then(Mg z.2.1 x g).bind λH'=>some (true,H',z.2.2)else Lc st g r z.2.1 z.2.2
def GB(T:Int->List Int)(bits:Int):Nat->HL->Int->QL->Option (Bool×HL×QL)
 | 0,_,_,_=>none
 | n+1,H,g,Q=>match((T g).filter λx=>hb bits x&&!(A3 Q x).isSome).find? (λx=>!(A3 H x).isSome)with
  | some x=>(Mg H x g).bind λH'=>some (true,H',Q)
  | none=>Lc (GB T bits n) g ((T g).filter λx=>hb bits x&&!(A3 Q x).isSome) H Q
section
variable{T:Int->List Int}{bits:Int}{U:List Int}{Gd:Int->Prop}
abbrev w0(T:Int->List Int)(bits g:Int):List Int:=(T g).filter (hb bits)
structure KOk{α:Type}(U:List Int)(l:List (Int×α)):Prop where
 nd:(l.map (·.1)).Nodup
 sub:∀x∈l.map (·.1),x∈U
def KOk.len{α:Type}{l:List (Int×α)}(h:KOk U l):l.length<=U.length:=by
 have:=J3 h.nd h.sub;rwa [AC]at this
def KOk.put{α:Type}{l:List (Int×α)}(h:KOk U l){x:Int}(hx:x∈U)(v:α):KOk U (CF l x v):=by
 by_cases c:x∈l.map (·.1)
 ·exact⟨by rw[Ko,qX c];exact h.nd,by rw[Ko,qX c];exact h.sub⟩
 ·refine⟨?_,?_⟩
  ·rw[Ko,qY c]
   unfold ND;rw[BZ];exact⟨h.nd,by simp,λa ha b hb' z=>c (by rw[AO.mp hb']at z;rw[<-z];exact ha)⟩
  ·rw[Ko,qY c]
   intro y hy
   rcases Ae.mp hy with hy | hy
   ·exact h.sub y hy
   ·rw[AO.mp hy];exact hx
def KOk.more{α:Type}{l:List (Int×α)}{x:Int}(c:(A3 l x).isSome=false)(v:α):(CF l x v).length=l.length+1:=by
 have h1:x∉l.map (·.1):=λz=>by rw[(Hf l x).mpr z]at c;cases c
 have:=congrArg Gh (Ko l x v);rw[qY h1,AC,Ad,AC]at this;exact this
def MOn(T:Int->List Int)(bits:Int)(P:Int->Prop)(H:HL):Prop:=(∀x,P x->∀a,A3 H x=some a->x∈w0 T bits a)/\∀x y a,P x->P y->A3 H x=some a->A3 H y=some a->x=y
abbrev sn(Q:QL)(x:Int):Prop:=(A3 Q x).isSome=true
def Good(T:Int->List Int)(bits:Int)(H:HL)(g:Int)(Q:QL)(H':HL):Prop:=
 (∀x,sn Q x->A3 H' x=A3 H x)/\(MOn T bits (λx=>¬sn Q x) H->(∀x,¬sn Q x->A3 H x≠some g)->MOn T bits (λx=>¬sn Q x) H'/\∀a,(∃x,¬sn Q x/\A3 H' x=some a)↔a=g∨∃x,¬sn Q x/\A3 H x=some a)
def Clo(T:Int->List Int)(bits:Int)(H:HL)(Q Q':QL):Prop:=∀x,sn Q' x->sn Q x∨∃a,A3 H x=some a/\∀y∈w0 T bits a,sn Q' y
structure nB(T:Int->List Int)(bits:Int)(U:List Int)(Gd:Int->Prop)(H:HL)(g:Int)(Q:QL)(z:Bool×HL×QL):Prop where
 h1:KOk U z.2.1
 h2:KOk U z.2.2
 h3:∀x a,A3 z.2.1 x=some a->Gd a
 h4:∀x,sn Q x->sn z.2.2 x
 h5:z.1=false->z.2.1=H/\(∀x∈w0 T bits g,sn z.2.2 x)/\Clo T bits H Q z.2.2
 h6:z.1=true->Good T bits H g Q z.2.1
def NX{α:Type}{l:List (Int×α)}(h:KOk U l)(hU:U.length < 1000000)(x:Int)(v:α):Mg l x v=some (CF l x v):=qX (Ay h.len hU)
def Es{Q:QL}{x y:Int}:sn (CF Q x true) y↔y=x∨sn Q y:=by
 unfold sn;rw[Dp]
 by_cases c:y=x
 ·rw[qX c];simp[c]
 ·rw[qY c];simp[c]
def Tl(hT:∀g,Gd g->∀x∈T g,x∈U)(hU:U.length < 1000000):∀(n:Nat) (H:HL) (g:Int) (Q:QL),KOk U H->KOk U Q->(∀x a,A3 H x=some a->Gd a)->Gd g->U.length < n+Q.length->Ok (GB T bits n H g Q) (nB T bits U Gd H g Q):=by
 intro n
 induction n with
 | zero=>intro H g Q hH hQ hG hg hn;exact zX hQ.len (by lia)
 | succ n ih=>
  intro H g Q hH hQ hG hg hn;unfold GB
  have wm:∀x,x∈(T g).filter (λx=>hb bits x&&!(A3 Q x).isSome)↔x∈w0 T bits g/\¬sn Q x:=by
   intro x;unfold w0 sn;rw[BH,BH]
   cases A3 Q x <;> simp
  generalize (T g).filter (λx=>hb bits x&&!(A3 Q x).isSome)=w at wm
  have wU:∀x∈w,x∈U:=λx hx=>hT g hg x (BH.mp ((wm x).mp hx).1).1
  cases hf:w.find? (λx=>!(A3 H x).isSome)with
  | some x=>
   have hx:=Rs hf
   have hfree:A3 H x=none:=by
    have:=List.find?_some hf
    cases q:A3 H x with
    | none=>rfl
    | some a=>rw[q]at this;cases this
   obtain⟨x1,x2⟩:=(wm x).mp hx;show Ok ((Mg H x g).bind _) _;rw[NX hH hU];refine .pure ⟨hH.put (wU x hx) g,hQ,λy a hy=>?_,λ_ h=>h,λz=>(by cases z),λ_=>⟨λy hy=>?_,λm ng=>⟨⟨λy hy a e=>?_,λy z a hy hz e1 e2=>?_⟩,λa=>⟨?_,?_⟩⟩⟩⟩
   ·rw[show A3 (true,CF H x g,Q).2.1 y=if y=x then some g else A3 H y from Dp _ _ _ _]at hy
    split at hy
    ·cases hy;exact hg
    ·exact hG y a hy
   ·show A3 (CF H x g) y=_
    rw[Dp,qY λc:y=x=>x2 (by rw[<-c];exact hy)]
   ·rw[show A3 (true,CF H x g,Q).2.1 y=if y=x then some g else A3 H y from Dp _ _ _ _]at e
    split at e
    ·rename_i c;cases e;rw[c];exact x1
    ·exact m.1 y hy a e
   ·rw[show A3 (true,CF H x g,Q).2.1 y=if y=x then some g else A3 H y from Dp _ _ _ _]at e1
    rw[show A3 (true,CF H x g,Q).2.1 z=if z=x then some g else A3 H z from Dp _ _ _ _]at e2;split at e1
    ·rename_i c
     cases e1;split at e2
     ·rename_i d;rw[c,d]
     ·exact zX e2 (ng z hz)
    ·split at e2
     ·cases e2;exact zX e1 (ng y hy)
     ·exact m.2 y z a hy hz e1 e2
   ·rintro⟨y,hy,e⟩
    rw[show A3 (true,CF H x g,Q).2.1 y=if y=x then some g else A3 H y from Dp _ _ _ _]at e;split at e
    ·cases e;exact .inl rfl
    ·exact .inr ⟨y,hy,e⟩
   ·rintro(rfl | ⟨y,hy,e⟩)
    ·exact⟨x,x2,by show A3 (CF H x a) x=_;rw[Dp,qX rfl]⟩
    ·refine⟨y,hy,?_⟩
     show A3 (CF H x g) y=_;rw[Dp,qY λc=>by rw[c,hfree]at e;cases e];exact e
  | none=>
   have held:∀x∈w,∃a,A3 H x=some a:=by
    intro x hx;have:=Iu.mp hf x hx
    cases q:A3 H x with
    | none=>rw[q]at this;exact zX rfl this
    | some a=>exact⟨a,rfl⟩
   have key:∀(r:List Int) (Qc:QL),(∀x∈r,x∈w)->KOk U Qc->(∀x,sn Q x->sn Qc x)->Q.length<=Qc.length->Clo T bits H Q Qc->(∀x∈w,x∈r∨sn Qc x)->Ok (Lc (GB T bits n) g r H Qc) (nB T bits U Gd H g Q):=by
    intro r
    induction r with
    | nil=>
     intro Qc _ hQc hs hl hc hw;refine .pure ⟨hH,hQc,hG,hs,λ_=>⟨rfl,λx hx=>?_,hc⟩,λz=>(by cases z)⟩
     by_cases c:sn Q x
     ·exact hs x c
     ·rcases hw x ((wm x).mpr ⟨hx,c⟩)with h | h
      ·cases h
      ·exact h
    | cons x r ih2=>
     intro Qc hr hQc hs hl hc hw;unfold Lc
     by_cases c:(A3 Qc x).isSome=true
     ·rw[qX c]
      refine ih2 Qc (λy hy=>hr y (Aj _ hy)) hQc hs hl hc λy hy=>?_
      rcases hw y hy with h | h
      ·rcases Aw.mp h with rfl | h
       ·exact .inr c
       ·exact .inl h
      ·exact .inr h
     ·rw[qY c,NX hQc hU]
      have hxw:=hr x A1;obtain⟨x1,x2⟩:=(wm x).mp hxw;obtain⟨a,ha⟩:=held x hxw;have hQ1:=hQc.put (wU x hxw) true;have Nh:=KOk.more (l:=Qc) (x:=x) (by cases q:(A3 Qc x).isSome;rfl;exact zX q c) true;obtain⟨z,ez,hz⟩:=ih H a (CF Qc x true) hH hQ1 hG (hG x a ha) (by lia);show Ok ((A3 H x).bind _) _;rw[ha];show Ok ((GB T bits n H a (CF Qc x true)).bind _) _;rw[ez];show Ok (if z.1=true then _ else _) _
      cases hb':z.1 with
      | true=>
       rw[qX rfl,NX hz.h1 hU];obtain⟨g1,g2⟩:=hz.h6 hb';refine .pure ⟨hz.h1.put (wU x hxw) g,hz.h2,λy b hy=>?_,λy hy=>hz.h4 y (Es.mpr (.inr (hs y hy))),λq=>(by cases q),λ_=>⟨λy hy=>?_,λm ng=>?_⟩⟩
       ·rw[show A3 (true,CF z.2.1 x g,z.2.2).2.1 y=if y=x then some g else A3 z.2.1 y from Dp _ _ _ _]at hy
        split at hy
        ·cases hy;exact hg
        ·exact hz.h3 y b hy
       ·show A3 (CF z.2.1 x g) y=_
        rw[Dp,qY λq:y=x=>x2 (by rw[<-q];exact hy)];exact g1 y (Es.mpr (.inr (hs y hy)))
       ·have R1:∀y,¬sn (CF Qc x true) y->¬sn Q y/\y≠x/\¬sn Qc y:=λy hy=>⟨λq=>hy (Es.mpr (.inr (hs y q))),λq=>hy (Es.mpr (.inl q)),λq=>hy (Es.mpr (.inr q))⟩
        obtain⟨m1,m2⟩:=g2 ⟨λy hy b e=>m.1 y (R1 y hy).1 b e,λy y' b hy hy' e e'=>m.2 y y' b (R1 y hy).1 (R1 y' hy').1 e e'⟩ λy hy e=>(R1 y hy).2.1 (m.2 y x a (R1 y hy).1 x2 e ha)
        have three:∀y,y=x∨(y≠x/\A3 z.2.1 y=A3 H y/\sn Qc y)∨¬sn (CF Qc x true) y:=λy=>by
         by_cases q:y=x
         ·exact .inl q
         ·by_cases q2:sn Qc y
          ·exact .inr (.inl ⟨q,g1 y (Es.mpr (.inr q2)),q2⟩)
          ·exact .inr (.inr λq3=>(Es.mp q3).elim q q2)
        have hv:∀y,y≠x->A3 (CF z.2.1 x g) y=A3 z.2.1 y:=λy q=>by rw[Dp,qY q]
        have hvx:A3 (CF z.2.1 x g) x=some g:=by rw[Dp,qX rfl]
        show MOn T bits _ (CF z.2.1 x g)/\∀b,(∃y,_/\A3 (CF z.2.1 x g) y=some b)↔_
        refine⟨⟨λy hy b e=>?_,λy y' b hy hy' e e'=>?_⟩,λb=>⟨?_,?_⟩⟩
        ·rcases three y with rfl | ⟨q,q1,q2⟩ | q
         ·rw[hvx]at e;cases e;exact x1
         ·rw[hv y q,q1]at e;exact m.1 y hy b e
         ·rw[hv y (R1 y q).2.1]at e;exact m1.1 y q b e
        ·rcases three y with rfl | ⟨q,q1,q2⟩ | q
         ·rw[hvx]at e
          cases e
          rcases three y' with rfl | ⟨p,p1,p2⟩ | p
          ·rfl
          ·rw[hv y' p,p1]at e';exact zX e' (ng y' hy')
          ·rw[hv y' (R1 y' p).2.1]at e'
           rcases(m2 g).mp ⟨y',p,e'⟩with rfl | ⟨y2,p2,e2⟩
           ·exact zX ha (ng y hy)
           ·exact zX e2 (ng y2 (R1 y2 p2).1)
         ·rw[hv y q,q1]at e
          rcases three y' with rfl | ⟨p,p1,p2⟩ | p
          ·rw[hvx]at e';cases e';exact zX e (ng y hy)
          ·rw[hv y' p,p1]at e';exact m.2 y y' b hy hy' e e'
          ·rw[hv y' (R1 y' p).2.1]at e'
           rcases(m2 b).mp ⟨y',p,e'⟩with rfl | ⟨y2,p2,e2⟩
           ·exact zX (m.2 y x b hy x2 e ha) q
           ·have:=m.2 y y2 b hy (R1 y2 p2).1 e e2
            rw[<-this]at p2;exact zX q2 (R1 y p2).2.2
         ·rw[hv y (R1 y q).2.1]at e
          rcases three y' with rfl | ⟨p,p1,p2⟩ | p
          ·rw[hvx]at e'
           cases e'
           rcases(m2 g).mp ⟨y,q,e⟩with rfl | ⟨y2,p2,e2⟩
           ·exact zX ha (ng y' hy')
           ·exact zX e2 (ng y2 (R1 y2 p2).1)
          ·rw[hv y' p,p1]at e'
           rcases(m2 b).mp ⟨y,q,e⟩with rfl | ⟨y2,p3,e2⟩
           ·exact zX (m.2 y' x b hy' x2 e' ha) p
           ·have:=m.2 y' y2 b hy' (R1 y2 p3).1 e' e2
            rw[<-this]at p3;exact zX p2 (R1 y' p3).2.2
          ·rw[hv y' (R1 y' p).2.1]at e'
           exact m1.2 y y' b q p e e'
        ·rintro⟨y,hy,e⟩
         rcases three y with rfl | ⟨q,q1,q2⟩ | q
         ·rw[hvx]at e;cases e;exact .inl rfl
         ·rw[hv y q,q1]at e;exact .inr ⟨y,hy,e⟩
         ·rw[hv y (R1 y q).2.1]at e
          rcases(m2 b).mp ⟨y,q,e⟩with rfl | ⟨y2,p2,e2⟩
          ·exact .inr ⟨x,x2,ha⟩
          ·exact .inr ⟨y2,(R1 y2 p2).1,e2⟩
        ·rintro(rfl | ⟨y,hy,e⟩)
         ·exact⟨x,x2,hvx⟩
         ·rcases three y with rfl | ⟨q,q1,q2⟩ | q
          ·rw[ha]at e
           cases e;obtain⟨y',p,e'⟩:=(m2 a).mpr (.inl rfl);exact⟨y',(R1 y' p).1,by rw[hv y' (R1 y' p).2.1];exact e'⟩
          ·exact⟨y,hy,by rw[hv y q,q1];exact e⟩
          ·obtain⟨y',p,e'⟩:=(m2 b).mpr (.inr ⟨y,q,e⟩)
           exact⟨y',(R1 y' p).1,by rw[hv y' (R1 y' p).2.1];exact e'⟩
      | false=>
       rw[qY AZ];obtain⟨f1,f2,f3⟩:=hz.h5 hb';rw[f1]
       have up:∀y,sn Qc y->sn z.2.2 y:=λy hy=>hz.h4 y (Es.mpr (.inr hy))
       refine ih2 z.2.2 (λy hy=>hr y (Aj _ hy)) hz.h2 (λy hy=>up y (hs y hy)) ?_ (λy hy=>?_) λy hy=>?_
       ·have h1:∀k∈Qc.map (·.1),k∈z.2.2.map (·.1):=λk hk=>(Hf _ _).mp (up k ((Hf _ _).mpr hk))
        have:=J3 hQc.nd h1;rw[AC,AC]at this
        lia
       ·rcases f3 y hy with h | h
        ·rcases Es.mp h with rfl | h
         ·exact .inr ⟨a,ha,f2⟩
         ·rcases hc y h with h | ⟨b,e,k⟩
          ·exact .inl h
          ·exact .inr ⟨b,e,λy' hy'=>up y' (k y' hy')⟩
        ·exact .inr h
       ·rcases hw y hy with h | h
        ·rcases Aw.mp h with rfl | h
         ·exact .inr (hz.h4 _ (Es.mpr (.inl rfl)))
         ·exact .inl h
        ·exact .inr (up y h)
   exact key w Q (λ_ h=>h) hQ (λ_ h=>h) (AQ _) (λx hx=>.inl hx) λx hx=>.inl hx
end
section
variable{T:Int->List Int}{bits:Int}{U:List Int}{Gd:Int->Prop}
def SO{α:Type}:KOk U ([]:List (Int×α)):=⟨FX,λ_ h=>(nomatch h)⟩
end
section
variable{α β ρ σ:Type}{A:List Sl}{enc:α->D}{ob:β->Ob}
def NQ{e:Lo}{S:Sto}{i:Nat}{d:D}(h:e[i]?=some (some d)):AB i e S=.ok d S:=by unfold AB;rw[h]
end
def rP{α β:Type}(enc:α->D)(ob:β->Ob):Rk (α×β):=λv S0 d S=>∃n,d=.tup [enc v.1,.ref n]/\S0.length<=n/\S[n]?=some (ob v.2)
section
variable{α β ρ σ:Type}{A:List Sl}{enc:α->D}{ob:β->Ob}
def cI{B:σ->List Sl}{ma mb:ME}{p:Option α}{q:Option β}(ha:VE A ma (rV enc) p)(hb:VE A mb (rN ob) q):VS A (DH (Fn (AI ma (AI mb Au)))) (rP enc ob) (p.bind λx=>q.bind λy=>some (.rt (x,y))) B:=λf hf S0 e F S hs=>by
 obtain⟨x,h1,h2⟩:=BG hf;obtain⟨y,h3,h4⟩:=BG h2;cases h4;obtain⟨d1,S1,c1,k1,rfl⟩:=ha x h1 S0 e F S hs;obtain⟨d2,S2,c2,k2,n,rfl,h5,h6⟩:=hb y h3 S0 e _ S1 (hs.grow k1);exact⟨_,S2,Gn (Kc (BX c1 (BX c2 rfl)) (by simp)),_,rfl,⟨n,rfl,At (At hs.kp.1 k1.1) h5,h6⟩,(hs.kp.trans k1).trans k2⟩
def XT{a:ME}{pa:Option Int}(h:VE A a (rV D.int) pa):VL A (Of (AI a Au)) D.int (pa.bind Qo):=λv hv S0 e F S hs=>by
 obtain⟨j,h1,h2⟩:=BG hv;obtain⟨d,S',c1,k1,rfl⟩:=h j h1 S0 e F S hs;unfold Qo at h2;split at h2
 ·rename_i hj
  cases h2;refine⟨S',?_,k1⟩;unfold Of;rw[BX c1 rfl];dsimp only[Res.bind];rw[qX hj,Int.sub_zero,Zf]
 ·cases h2
end
section
variable{S0 S S':Sto}{A B:List Sl}{e:Lo}{F:Fz}{α β γ ρ σ τ:Type}{enc:α->D}{xss:List (List α)}{i:Nat}
def Nst(enc:α->D)(xss:List (List α))(L:Nat->Option Ob)(d:D):Prop:=∃n ms,d=.ref n/\L n=some (oL D.ref ms)/\ms.length=xss.length/\∀(k:Nat) (xs:List α),xss[k]?=some xs->∃m,ms[k]?=some m/\L m=some (oL enc xs)
def loF(F:Fz):Nat->Option Ob:=λn=>match F n with
 | .fz o=>some o
 | _=>none
def jl{n:Nat}{o:Ob}(h:F n=.fz o):loF F n=some o:=by unfold loF;rw[h]
def aO{n:Nat}{o:Ob}(h:loF F n=some o):F n=.fz o:=by
 unfold loF at h;split at h
 ·rename_i o' ho;cases h;exact ho
 ·cases h
def Vs.nst(hs:Vs S0 A e F S)(h:A[i]?=some (.q (Nst enc xss))):∃n ms,e[i]?=some (some (.ref n))/\F n=.fz (oL D.ref ms)/\ms.length=xss.length/\∀(k:Nat) (xs:List α),xss[k]?=some xs->∃m,ms[k]?=some m/\F m=.fz (oL enc xs):=by
 obtain⟨x,h1,d,rfl,h2⟩:=hs.sl i _ h
 obtain⟨n,ms,rfl,h3,h4,h5⟩:=h2 (loF F) λn o q=>jl q
 exact⟨n,ms,h1,aO h3,h4,λk xs hk=>let ⟨m,h6,h7⟩:=h5 k xs hk;⟨m,h6,aO h7⟩⟩
def fh{ms:List Nat}(hl:ms.length=xss.length){k:Int}{xs:List α}(h:atI xss k=some xs):∃j:Nat,xss[j]?=some xs/\∀m,ms[j]?=some m->atI ms k=some m:=by
 unfold atI at h ⊢;rw[hl]
 cases hx:ixN xss.length k with
 | none=>rw[hx]at h;cases h
 | some j=>rw[hx]at h;exact⟨j,h,λm hm=>hm⟩
def iP{b:ME}{pi:Option Int}(h:A[i]?=some (.q (Nst enc xss)))(hb:VE A b (rV D.int) pi):VE A (m2 ixA (AB i) b) (rO (oL enc)) (pi.bind λk=>atI xss k):=λv hv S0 e F S hs=>by
 obtain⟨k,h1,h2⟩:=BG hv;obtain⟨n,ms,h3,h4,h5,h6⟩:=hs.nst h;obtain⟨d,S1,q1,k1,rfl⟩:=hb k h1 S0 e F S hs;obtain⟨j,h7,h8⟩:=fh h5 h2;obtain⟨m,h9,h10⟩:=h6 j v h7
 have c1:AB i e S=.ok (.ref n) S:=by unfold AB;rw[h3]
 exact⟨.ref m,S1,BO c1 q1 (Vh (enc:=D.ref) (l:=ms) (CY (k1.at (hs.fz _ _ h4))) (h8 m h9)),k1,m,rfl,k1.at (hs.fz _ _ h10)⟩
def cS(h:A[i]?=some (.q (Nst enc xss))):VE A (GN (AB i)) (rV D.int) (some (xss.length:Int)):=λv hv S0 e F S hs=>by
 cases hv;obtain⟨n,ms,h3,h4,h5,h6⟩:=hs.nst h;exact⟨_,S,(Ht (ds:=ms.map D.ref) (show AB i e S=.ok (.ref n) S by unfold AB;rw[h3]) (CY (hs.fz _ _ h4))).trans (by rw[AC,h5]),Keeps.refl S,rfl⟩
end
section
variable{S0 S S':Sto}{A:List Sl}{ρ σ:Type}
def whF(c:σ->Option Bool)(q:σ->Option (Fw ρ σ)):Nat->σ->Option (Fw ρ σ)
 | 0,_=>none
 | n+1,s=>(c s).bind λt=>if t=true then match q s with
   | some (.nx s')=>whF c q n s'
   | some (.ct s')=>whF c q n s'
   | some (.bk s')=>some (.nx s')
   | some (.rt r)=>some (.rt r)
   | none=>none
  else some (.nx s)
def XR{t:MT}{b:MS}{R:Rk ρ}{c:σ->Option Bool}{q:σ->Option (Fw ρ σ)}{B:σ->List Sl}(hc:∀s,VB (B s) t (c s))(hb:∀s,VS (B s) b R (q s) B):∀(n:Nat) (s:σ),VS (B s) (GJ t b n) R (whF c q n s) B:=by
 intro n
 induction n with
 | zero=>intro s f hf;cases hf
 | succ n ih=>
  intro s f hf S0 e F S hs;unfold whF at hf;obtain⟨v,h1,h2⟩:=BG hf;obtain⟨S1,h3,h4⟩:=hc s v h1 S0 e F S hs;have hs1:=hs.grow h4
  have run:GJ t b (n+1) e S=if v=true then(b e S1).bind λf S2=>match f with
   | .nx e2=>GJ t b n e2 S2
   | .ct e2=>GJ t b n e2 S2
   | .bk e2=>.ok (.nx e2) S2
   | .rt d=>.ok (.rt d) S2
   | .ex c e2=>.ok (.ex c e2) S2
  else .ok (.nx e) S1:=by
   show(t e S).lift e _=_;rw[h3];rfl
  cases v with
  | false=>
   rw[qY AZ]at h2;cases h2;exact⟨_,S1,run.trans (qY AZ),e,_,rfl,hs1,hs.fle S1⟩
  | true=>
   rw[qX rfl]at h2;rw[run,qX rfl];split at h2
   ·rename_i s' hq
    obtain⟨h,S2,g1,e2,F2,rfl,g2,g3⟩:=hb s _ hq S0 e _ S1 hs1;rw[g1];obtain⟨h',S3,g4,g5⟩:=ih s' f h2 S0 e2 F2 S2 g2;exact⟨h',S3,g4,g5.up ((hs.fle S1).trans g3)⟩
   ·rename_i s' hq
    obtain⟨h,S2,g1,e2,F2,rfl,g2,g3⟩:=hb s _ hq S0 e _ S1 hs1;rw[g1];obtain⟨h',S3,g4,g5⟩:=ih s' f h2 S0 e2 F2 S2 g2;exact⟨h',S3,g4,g5.up ((hs.fle S1).trans g3)⟩
   ·rename_i s' hq
    cases h2;obtain⟨h,S2,g1,e2,F2,rfl,g2,g3⟩:=hb s _ hq S0 e _ S1 hs1;rw[g1];exact⟨_,S2,rfl,e2,F2,rfl,g2,(hs.fle S1).trans g3⟩
   ·rename_i r hq
    cases h2;obtain⟨h,S2,g1,d,rfl,g2,g3⟩:=hb s _ hq S0 e _ S1 hs1;rw[g1];exact⟨_,S2,rfl,d,rfl,g2,g3⟩
   ·cases h2
def Y6{t:MT}{b:MS}{R:Rk ρ}{c:σ->Option Bool}{q:σ->Option (Fw ρ σ)}{B:σ->List Sl}{n:Nat}{s0:σ}(w0:Wk A (B s0))(hc:∀s,VB (B s) t (c s))(hb:∀s,VS (B s) b R (q s) B):VS A (GJ t b n) R (whF c q n s0) B:=λf hf S0 e F S hs=>
 XR hc hb n s0 f hf S0 e F S (hs.weak w0)
end
section
variable{A:List Sl}{α:Type}{enc:α->D}{a:ME}
end
section
variable{A:List Sl}{a b c:ME}{ml:ML}
end
section
variable{A:List Sl}{β σ:Type}{ob:β->Ob}
end
section
variable{α β ρ σ:Type}{A:List Sl}{enc:α->D}
end
section
variable{α β ρ σ:Type}{A:List Sl}{enc:α->D}{ob:β->Ob}
end
section
variable{α β ρ σ:Type}{A:List Sl}{enc:α->D}{a b m:ME}
end
section
variable{S0 S S':Sto}{A B:List Sl}{e:Lo}{F:Fz}{α β γ δ ρ σ τ κ κ':Type}{a b m:ME}{enc:α->D}
def oFK(enc:α->D)(l:List (Int×α)):Ob:=.fK (l.map λx=>(CL x.1,enc x.2))
def kE{l:List (Int×α)}{n:Nat}{S:Sto}(h:S[n]?=some (oFK enc l))(k:Int):LS (.ref n) (.int k) S=some ((A3 l k).map enc):=by
 unfold LS;dsimp only;rw[h];show some (A3 _ (CL k))=_;rw[Tb Oi]
def lS{l:List (Int×α)}{n:Nat}{S:Sto}(h:S[n]?=some (oFK enc l)):Fa (.ref n) S=none:=by unfold Fa;dsimp only;rw[h];rfl
def Q9{pk:Option Int}{pl:Option (List (Int×α))}(ha:VE A a (rO (oFK enc)) pl)(hb:VE A b (rV D.int) pk):VE A (m2 ixA a b) (rV enc) (pl.bind λl=>pk.bind λx=>A3 l x):=U2 ha hb λl x z S n hn q=>Vt (lS hn) (by rw[kE hn x,q];rfl)
def eX{l:List (Int×α)}{n:Nat}{S:Sto}(h:S[n]?=some (oFK enc l)):UJ (.ref n) S=some ((l.map (·.1)).map D.int):=by
 unfold UJ;dsimp only;rw[h];show some _=_;rw[Ax,Ax];rfl
def iJ{l:List (Int×α)}{i:Nat}(h:A[i]?=some (.y (oFK enc l))):VI A (Wj (AB i)) D.int (some (l.map (·.1))):=λ_ hv S0 e F S hs=>by
 cases hv;obtain⟨x,h1,n,rfl,h2,_⟩:=hs.sl i _ h;refine⟨D0 ((l.map (·.1)).map D.int),S,?_,Keeps.refl S,λ_ _ _ _=>rfl⟩;unfold Wj;rw[NQ h1];dsimp only[Res.bind];rw[eX (hs.fz _ _ h2)]
def lE{b:MS}{R:Rk ρ}{p:Option (Fw ρ σ)}{B:σ->List Sl}{l:List (Int×α)}(i:Nat)(ha:A[i]?=some (.w i (oDK enc l)))(ht:((A.set i .u).all (Sl.oth i))=true)(h:VS (A.set i (.y (oFK enc l))) b R p B):VS A (BF (sFz i) b) R p B:=λf hf S0 e F S hs=>by
 obtain⟨x,h1,n,rfl,h2,h3⟩:=hs.sl i _ ha;have hp:=hs.put (o':=oFK enc l) ht ha h1 h2;have ha':(A.set i (.w i (oFK enc l)))[i]?=some (.w i (oFK enc l)):=Ao (AF.mp ha).1;obtain⟨F',h4,h5⟩:=hp.freeze (by rw[kf];exact ht) ha';rw[kf]at h4;obtain⟨g,S',h6,h7⟩:=h f hf S0 e F' _ h4;refine⟨g,S',?_,h7.up h5⟩
 have:sFz i e S=.ok (.nx e) (S.set n (oFK enc l)):=by
  unfold sFz;rw[h1];dsimp only;rw[h3];rfl
 exact(A9 this).trans h6
def TX{pl:Option (List (Int×α))}(ha:VE A a (rO (oDK enc)) pl):VE A (LG a) (rN (oL enc)) (pl.bind λl=>some (l.map (·.2))):=λv hv S0 e F S hs=>by
 obtain⟨l,h1,h2⟩:=BG hv;cases h2;obtain⟨d,S',h3,h4,n,rfl,hn⟩:=ha l h1 S0 e F S hs;refine⟨.ref S'.length,S'++[oL enc (l.map (·.2))],?_,h4.trans (Keeps.app _ _),S'.length,rfl,h4.1,By _ _⟩;unfold LG;rw[h3];dsimp only[Res.bind];rw[hn];show Res.ok _ (S'++[Ob.lst _])=.ok _ (S'++[oL enc _]);unfold oL;rw[Ax,Ax];rfl
def Xq(l:List α):Option (α×List α):=match l.getLast? with
 | some x=>some (x,l.dropLast)
 | none=>none
def cK{R:Rk ρ}{i j:Nat}{l:List α}(hi:A[i]?=some (.w i (oL enc l)))(hij:i≠j)(ht:((A.set i .u).all (Sl.oth i))=true) :
  VS A (Bj j (aG (AB i))) R ((Xq l).bind λz=>some (.nx z)) (λz=>(A.set i (.w i (oL enc z.2))).set j (.v (enc z.1))):=λf hf S0 e F S hs=>by
 obtain⟨z,h1,h2⟩:=BG hf;cases h2;unfold Xq at h1;split at h1
 ·rename_i x hx
  cases h1;obtain⟨y,g1,n,rfl,g2,g3⟩:=hs.sl i _ hi;have hp:=hs.put (o':=oL enc l.dropLast) ht hi g1 g2
  have hm:aG (AB i) e S=.ok (enc x) (S.set n (oL enc l.dropLast)):=by
   unfold aG;rw[NQ g1];dsimp only[Res.bind];rw[show atL (.ref n) S=some (n,l.map enc) by unfold atL;dsimp only;rw[g3];rfl];dsimp only;rw[<-List.getLast?_eq_getElem?,List.getLast?_map,hx];show Res.ok _ (S.set n (.lst (l.map enc).dropLast))=_;rw[<-List.map_dropLast];rfl
  exact⟨_,_,DG hm,_,F,rfl,hp.set j rfl,Fle.refl F⟩
 ·cases h1
end
section
variable{A:List Sl}{a b m:ME}
def Fm(x:Int×Int):List Int:=[x.1,x.2]
def XV{p:Option (List (Int×Int))}(ha:VE A a (rO (oL (eP D.int D.int))) p):VE A a (rO (oL (eT D.int))) (p.bind λl=>some (l.map Fm)):=λv hv S0 e F S hs=>by
 obtain⟨l,h1,h2⟩:=BG hv;cases h2;obtain⟨d,S',h3,h4,n,rfl,hn⟩:=ha l h1 S0 e F S hs;refine⟨_,S',h3,h4,n,rfl,hn.trans ?_⟩;unfold oL;rw[Ax];rfl
end
end L4
namespace L2
open PySem PySem.Spec PyProof.Rows
section
variable{P:Al}{w:BE}{K:AA}{mg:Str->Option AE}{base:B7}
def Bs{x qual:Str}{st:Ce}{f:AK}{fd:Dg}{N ps:List Str}{k n:Nat}(F:Fun K x qual st f fd)(Sc:Bz N ps (An st))(hn:ps.length=n){mb:MS}
  (hbody:∀(cdv:AE) (A:BC) (outer:List Env) (s:AG) (H:Hp) (E:XK),Hw k (A.deeper (Lh qual (An st) s.heap.objs.size f cdv))->(A.deeper (Lh qual (An st) s.heap.objs.size f cdv)).units+64 < Dm->N.Nodup ->
   GSs (Vv (CXG P w) P w K mg base N qual (An st) f cdv A outer s H E).q noE (Bt st) mb) :
  Dh P w K mg base (CXG P w) (k+1) f fd ps (spM K n (EY N.length mb)):=fE F Sc hn λcdv A outer s H E hr=>hbody cdv A outer s H E hr hr.units Sc.nd
end
end L2
namespace M
open PySem PySem.Spec PyProof.Rows L2
def top(i:Nat):Ce:=g9.main.body.getD i (.Pass ⟨0,0,0,0⟩)
structure Wd where
 Web:AK
def Wd.excs(W:Wd):List AK:=[]
abbrev EE:Ce:=top 9
abbrev ED:Ce:=top 10
abbrev HG:Ce:=eh (top 8) 0
abbrev C6:Ce:=top 11
abbrev NV:Ce:=top 12
abbrev FL:Ce:=top 13
abbrev HE:Ce:=top 14
abbrev DX:Ce:=top 16
abbrev Ef:Ce:=top 17
abbrev Ed:Ce:=top 18
abbrev Je:Ce:=top 20
abbrev CZ:Ce:=top 22
abbrev HF:Ce:=top 23
abbrev FM:Ce:=top 24
abbrev DY:Ce:=top 25
abbrev Ee:Ce:=top 26
abbrev C7:Ce:=top 27
abbrev EF:Ce:=top 29
abbrev FQ:Ce:=top 30
abbrev FN:Ce:=top 31
abbrev GY:Ce:=top 32
abbrev GX:Ce:=top 33
abbrev Eg:Ce:=top 34
abbrev FP:Ce:=top 35
abbrev C8:Ce:=top 36
abbrev Ei:Ce:=top 37
abbrev Eh:Ce:=top 38
abbrev FO:Ce:=top 39
abbrev RF:Ce:=top 40
def QK(W:Wd):MS:=
  (BF (Bj 2 aK)
  (BF (GK (D7 (AB 1)) (EC 2 (Ba (tgN 3) (Ba (tgN 4) ET)))
  (BF (Bj 5 (Fn (AI (mQ N3 (AI (AB 3) (AI (AB 4) Au))) (AI (mQ N4 (AI (AB 3) (AI (AB 4) Au))) Au))))
  (BF (sIf (mB (m2 (eqD false) (m2 ixA (AB 5) (mC (.int 0))) (m2 ixA (AB 5) (mC (.int 1))))) Qm sNx)
  (BF (sIf (mOr (mB (m2 ltD (m2 ixA (AB 5) (mC (.int 0))) (mC (.int 0)))) (mB (m2 geD (m2 ixA (AB 5) (mC (.int 1))) (AB 0)))) Qm sNx)
  (BF (sIf (mB (m2 (inA false) (AB 5) (AB 2))) Qm sNx)
  (DI (AB 2) (AB 5) (mC (.bl true))))))))
  (DH (Fe (Ch (AB 2))))))
def Gw(W:Wd):List D->Sto->Res D:=EY 6 (QK W)
def Kz(W:Wd):MS:=
  (BF (Bj 2 (Cq (D4 1 (iR1 (AI (AB 0) Au)) (tgN 0) EK (Cq (Cn Au)))))
  (BF (GK (D7 (AB 1)) (EC 2 (Ba (tgN 3) (Ba (tgN 4) ET)))
  (BF (CH (FU (m2 ixA (AB 2) (AB 3)) (AB 4)))
  (CH (FU (m2 ixA (AB 2) (AB 4)) (AB 3)))))
  (DH (Fe (Cq (D4 1 (D7 (AB 2)) (tgN 0) EK (Fe (Ch (AB 0)))))))))
def Gu(W:Wd):List D->Sto->Res D:=EY 5 (Kz W)
def QM(W:Wd):MS:=
  (BF (sIf (J5 (mB (m3 leD leD (mC (.int 1)) (AB 1) (mC (.int 60))))) Qm sNx)
  (BF (RG W.Web "places" (AB 0) (AB 1))
  (BF (RG W.Web "ties" (AB 0) (BI 2 (Gw W) (AI (AB 1) (AI (AB 2) Au))))
  (RG W.Web "near_sets" (AB 0) (BI 2 (Gu W) (AI (AB 1) (AI (HJ W.Web "ties" (AB 0)) Au)))))))
def Ib(W:Wd):List D->Sto->Res D:=EY 3 (QM W)
def E1(W:Wd):MS:=
  (sIf (J5 (mB (m3 leD ltD (mC (.int 0)) (AB 1) (HJ W.Web "places" (AB 0))))) Qm sNx)
def Dq(W:Wd):List D->Sto->Res D:=EY 2 (E1 W)
def Sr(W:Wd):MS:=
  (BF (CH (BI 2 (Dq W) (AI (AB 0) (AI (AB 1) Au))))
  (DH (m2 ixA (HJ W.Web "near_sets" (AB 0)) (AB 1))))
def Kt(W:Wd):List D->Sto->Res D:=EY 2 (Sr W)
def KG(W:Wd):MS:=
  (BF (Bj 2 (Pu (AB 1) (mC (.int 0))))
  (BF (Bj 3 (Cq (Cn (AI (AB 1) Au))))
  (BF (GJ (Io (AB 3)) (BF (Bj 4 (Cq (Cn Au)))
  (BF (GK (D7 (AB 3)) (tgN 5)
  (GK (D7 (BI 2 (Kt W) (AI (AB 0) (AI (AB 5) Au)))) (tgN 6)
  (sIf (mB (m2 (inA true) (AB 6) (AB 2))) (BF (DI (AB 2) (AB 6) (m2 Ff (m2 ixA (AB 2) (AB 5)) (mC (.int 1))))
  (CH (FU (AB 4) (AB 6)))) sNx)))
  (Bj 3 (AB 4)))) wN)
  (DH (AB 2)))))
def DU(W:Wd):List D->Sto->Res D:=EY 7 (KG W)
def L1(W:Wd):MS:=
  (BF (Bj 1 (Cq (Cn Au)))
  (BF (Bj 2 Hs)
  (BF (GK (iR1 (AI (HJ W.Web "places" (AB 0)) Au)) (tgN 3)
  (sIf (mB (m2 (inA true) (AB 3) (AB 2))) (BF (Bj 4 (BI 2 (DU W) (AI (AB 0) (AI (AB 3) Au))))
  (BF (CH (Lb (AB 2) (AB 4)))
  (CH (FU (AB 1) (Fe (Ch (AB 4))))))) sNx))
  (DH (AB 1)))))
def Ia(W:Wd):List D->Sto->Res D:=EY 5 (L1 W)
def HQ(W:Wd):MS:=
  (BF (Bj 1 Hs)
  (BF (GK (D7 (BI 1 (Ia W) (AI (AB 0) Au))) (tgN 2)
  (CH (Lb (AB 1) (BI 2 (DU W) (AI (AB 0) (AI (m2 ixA (AB 2) (mC (.int 0))) Au))))))
  (DH (AB 1))))
def FV(W:Wd):List D->Sto->Res D:=EY 3 (HQ W)
def Fv(W:Wd):MS:=
  (BF (GK (D7 (HJ W.Web "ties" (AB 0))) (EC 2 (Ba (tgN 2) (Ba (tgN 3) ET)))
  (sIf (mB (m2 (eqD false) (m2 D6 (m2 ixA (AB 1) (AB 2)) (mC (.int 2))) (m2 D6 (m2 ixA (AB 1) (AB 3)) (mC (.int 2))))) (DH (Fn (AI (AB 2) (AI (AB 3) Au)))) sNx))
  (DH (mC .non)))
def Eo(W:Wd):List D->Sto->Res D:=EY 4 (Fv W)
def Fu(W:Wd):MS:=
  (BF (Bj 1 (BI 1 (FV W) (AI (AB 0) Au)))
  (BF (sIf (mB (m2 (YA true) (BI 2 (Eo W) (AI (AB 0) (AI (AB 1) Au))) (mC .non))) (DH (mC .non)) sNx)
  (DH (Fe (Cq (D4 1 (iR1 (AI (HJ W.Web "places" (AB 0)) Au)) (tgN 0) EK (m2 D6 (m2 ixA (AB 2) (AB 0)) (mC (.int 2)))))))))
def Ha(W:Wd):List D->Sto->Res D:=EY 2 (Fu W)
def UY(W:Wd)(fr:List D->Sto->Res D):MS:=
  (BF (Bj 5 (Cq (D4 1 (D7 (m2 ixA (AB 0) (AB 3))) (tgN 0) (Pv (Io (m2 fu (m2 dH (AB 2) (AB 0)) (mC (.int 1)))) (mB (m2 (inA true) (AB 0) (AB 5)))) (AB 0))))
  (BF (GK (D7 (AB 5)) (tgN 6)
  (sIf (mB (m2 (inA true) (AB 6) (AB 2))) (BF (DI (AB 2) (AB 6) (AB 3))
  (DH (mC (.bl true)))) sNx))
  (BF (GK (D7 (AB 5)) (tgN 6)
  (sIf (mB (m2 (inA true) (AB 6) (AB 4))) (BF (DI (AB 4) (AB 6) (mC (.bl true)))
  (sIf (Io (BI 5 fr (AI (AB 0) (AI (AB 1) (AI (AB 2) (AI (m2 ixA (AB 2) (AB 6)) (AI (AB 4) Au))))))) (BF (DI (AB 2) (AB 6) (AB 3))
  (DH (mC (.bl true)))) sNx)) sNx))
  (DH (mC (.bl false))))))
def Fq(W:Wd):Nat->List D->Sto->Res D
 | 0=>λ_ _=>.bad
 | n+1=>EY 7 (UY W (Fq W n))
def FG(W:Wd):MS:=
  (BF (Bj 1 (BI 1 (Ha W) (AI (AB 0) Au)))
  (BF (sIf (mB (m2 (YA false) (AB 1) (mC .non))) Qm sNx)
  (DH (AB 1))))
def Dr(W:Wd):List D->Sto->Res D:=EY 2 (FG W)
def L3(W:Wd):MS:=
  (BF (Bj 2 (Cq (D4 1 (iR1 (AI (HJ W.Web "places" (AB 0)) Au)) (tgN 0) EK (BI 2 (Kt W) (AI (AB 1) (AI (AB 0) Au))))))
  (BF (Bj 3 (m2 ZS (m2 ip (mC (.int 1)) (HJ W.Web "places" (AB 0))) (mC (.int 1))))
  (BF (Bj 4 Hs)
  (BF (GK (Nj (AB 1)) (EC 2 (Ba (tgN 5) (Ba (tgN 6) ET)))
  (sIf (mB (m2 (eqD false) (AB 6) (mC (.int 0)))) (CH (BI 5 (Fq W 62) (AI (AB 2) (AI (AB 3) (AI (AB 4) (AI (AB 5) (AI Hs Au))))))) sNx))
  (DH (AB 4))))))
def KA(W:Wd):List D->Sto->Res D:=EY 7 (L3 W)
def KH(W:Wd):MS:=
  (BF (Bj 1 (BI 2 (KA W) (AI (AB 0) (AI (BI 1 (Dr W) (AI (AB 0) Au)) Au))))
  (BF (sFz 1) (DH (Ch (Cq (D4 1 (Wj (AB 1)) (tgN 0) EK (Fn (AI (mQ N3 (AI (AB 0) (AI (m2 ixA (AB 2) (AB 0)) Au))) (AI (mQ N4 (AI (AB 0) (AI (m2 ixA (AB 2) (AB 0)) Au))) Au)))))))))
def Gv(W:Wd):List D->Sto->Res D:=EY 2 (KH W)
def HR(W:Wd):MS:=
  (BF (Bj 3 (LG (AB 2)))
  (BF (Bj 4 (Cq (D4 2 (Nj (AB 1)) (EC 2 (Ba (tgN 0) (Ba (tgN 1) ET))) (Pv (mB (m2 (eqD false) (AB 1) (mC (.int 0)))) (mB (m2 (inA true) (AB 0) (AB 5)))) (AB 0))))
  (BF (Bj 5 Hs)
  (BF (GJ (Io (AB 4)) (BF (Bj 6 (aG (AB 4)))
  (sIf (mB (m2 (inA true) (AB 6) (AB 5))) (BF (DI (AB 5) (AB 6) (mC (.bl true)))
  (sIf (mB (m2 (eqD false) (m2 ixA (AB 1) (AB 6)) (mC (.int 0)))) (CH (UF (AB 4) (BI 2 (Kt W) (AI (AB 0) (AI (AB 6) Au))))) (CH (FU (AB 4) (m2 ixA (AB 2) (AB 6)))))) sNx)) wN)
  (DH (AB 5))))))
def HP(W:Wd):List D->Sto->Res D:=EY 7 (HR W)
def JP(W:Wd):MS:=
  (BF (Bj 1 (BI 1 (Dr W) (AI (AB 0) Au)))
  (BF (Bj 2 (BI 3 (HP W) (AI (AB 0) (AI (AB 1) (AI (BI 2 (KA W) (AI (AB 0) (AI (AB 1) Au))) Au)))))
  (DH (Fe (Cq (D4 2 (Nj (AB 1)) (EC 2 (Ba (tgN 0) (Ba (tgN 1) ET))) (mB (m2 (eqD false) (m2 (inA false) (AB 0) (AB 4)) (m2 (eqD false) (AB 1) (mC (.int 1))))) (AB 0)))))))
def JO(W:Wd):List D->Sto->Res D:=EY 3 (JP W)
def Gy(W:Wd):MS:=
  (BF (Bj 1 (BI 1 (JO W) (AI (AB 0) Au)))
  (BF (Bj 2 (Fe (Cq (D4 1 (iR1 (AI (HJ W.Web "places" (AB 0)) Au)) (tgN 0) (mB (m2 (inA true) (AB 0) (AB 2))) (AB 0)))))
  (BF (Bj 3 (BI 1 (Gv W) (AI (AB 0) Au)))
  (BF (Bj 4 Hs)
  (BF (GK (D7 (AB 3)) (EC 2 (Ba (tgN 5) (Ba (tgN 6) ET)))
  (BF (DI (AB 4) (AB 5) (mC (.bl true)))
  (DI (AB 4) (AB 6) (mC (.bl true)))))
  (BF (Bj 7 (Cq (D4 1 (iR1 (AI (HJ W.Web "places" (AB 0)) Au)) (tgN 0) (mB (m2 (inA true) (AB 0) (AB 5))) (Fn (AI (AB 0) Au)))))
  (DH (Fn (AI (AB 2) (AI (Ch (m2 Ff (AB 3) (AB 7))) Au))))))))))
def Ds(W:Wd):List D->Sto->Res D:=EY 8 (Gy W)
def Ie(W:Wd):MS:=
  (BF (sIf (mB (m2 ltD (AB 1) (GN (AB 0)))) (DH (m2 ixA (AB 0) (AB 1))) sNx)
  (DH (mC (.int 0))))
def De(W:Wd):List D->Sto->Res D:=EY 2 (Ie W)
def M7(W:Wd):MS:=
  (BF (Bj 2 (m2 D6 (m2 Pr (m2 Ff (m2 D6 (AB 0) (mC (.int 2147483647))) (AB 1)) (mC (.int 48271))) (mC (.int 2147483647))))
  (DH (m2 D6 (m2 Pr (AB 2) (AB 2)) (mC (.int 2147483629)))))
def B5(W:Wd):List D->Sto->Res D:=EY 3 (M7 W)
def KI(W:Wd):MS:=
  (DH (JB (mIs (isB "int") (λ_=>none) (AB 0)) (Wf (mIs (isB "bool") (λ_=>none) (AB 0)))))
def KB(W:Wd):List D->Sto->Res D:=EY 1 (KI W)
def OA(W:Wd):MS:=
  (BF (Bj 2 (Cq (Cn (AI (GN (AB 0)) Au))))
  (BF (GK (iR1 (AI (mC (.int 24)) Au)) (tgN 3)
  (BF (Bj 4 (Oe (AB 0) (Pp (m2 Ff (AB 1) (AB 3))) Wc (Pp (mC (.int 24)))))
  (sIf (mB (m2 (eqD true) (AB 4) (Cq (Cn Au)))) (CH (FU (AB 2) (Vd (AB 4)))) sNx)))
  (DH (AB 2))))
def JD(W:Wd):List D->Sto->Res D:=EY 5 (OA W)
def N9(W:Wd):MS:=
  (BF (Bj 3 (Cq (Cn Au)))
  (BF (Bj 4 (mC (.int 0)))
  (BF (GK (iR2 (AI (mC (.int 1)) (AI (AB 1) Au))) (tgN 5)
  (GK (iR1 (AI (AB 5) Au)) (tgN 6)
  (BF (Bj 7 (m2 ixA (AB 0) (m2 D6 (AB 4) (GN (AB 0)))))
  (BF (Bj 4 (m2 Ff (AB 4) (mC (.int 1))))
  (sIf (mB (m2 ltD (m2 D6 (BI 2 (B5 W) (AI (AB 7) (AI (m2 Ff (m2 Pr (mC (.int 7)) (AB 6)) (m2 Pr (mC (.int 61)) (AB 5))) Au))) (mC (.int 6))) (AB 2))) (CH (FU (AB 3) (Fn (AI (AB 6) (AI (AB 5) Au))))) sNx)))))
  (DH (AB 3)))))
def Ku(W:Wd):List D->Sto->Res D:=EY 8 (N9 W)
def Hb(W:Wd):MS:=
  (BF (Bj 2 (Cq (Cn Au)))
  (BF (GK (iR1 (AI (GN (AB 0)) Au)) (tgN 3)
  (sIf (mB (m2 (eqD false) (m2 D6 (BI 2 (B5 W) (AI (AB 1) (AI (AB 3) Au))) (mC (.int 2))) (mC (.int 0)))) (CH (FU (AB 2) (m2 ixA (AB 0) (AB 3)))) (CH (FU (AB 2) (Fn (AI (m2 ixA (m2 ixA (AB 0) (AB 3)) (mC (.int 1))) (AI (m2 ixA (m2 ixA (AB 0) (AB 3)) (mC (.int 0))) Au)))))))
  (BF (sIf (mB (m2 (eqD false) (m2 D6 (AB 1) (mC (.int 2))) (mC (.int 1)))) (CH (aF (AB 2))) sNx)
  (DH (AB 2)))))
def Dw(W:Wd):List D->Sto->Res D:=EY 4 (Hb W)
def M6(W:Wd):MS:=
  (BF (Bj 2 (Cq (D4 1 (iR1 (AI (AB 1) Au)) (tgN 0) EK (Cq (Cn Au)))))
  (BF (GK (D7 (AB 0)) (EC 2 (Ba (tgN 3) (Ba (tgN 4) ET)))
  (BF (CH (FU (m2 ixA (AB 2) (AB 3)) (AB 4)))
  (CH (FU (m2 ixA (AB 2) (AB 4)) (AB 3)))))
  (DH (Cq (D4 1 (D7 (AB 2)) (tgN 0) EK (Ch (AB 0)))))))
def IE(W:Wd):List D->Sto->Res D:=EY 5 (M6 W)
def Gz(W:Wd):MS:=
  (BF (Bj 2 (Cq (Cn Au)))
  (BF (Bj 3 (Cq (Cn Au)))
  (BF (GK (D7 (AB 1)) (tgN 4)
  (BF (GK (D7 (AB 4)) (tgN 5)
  (GK (D7 (AB 4)) (tgN 6)
  (sIf (Pv (mB (m2 (eqD true) (AB 5) (AB 6))) (mB (m2 (inA true) (AB 6) (m2 ixA (AB 0) (AB 5))))) (DH (mC (.bl false))) sNx)))
  (BF (CH (Mr (AB 2) (Cq (mN Ms (Ip (AB 4))))))
  (CH (FU (AB 3) (m2 ixA (m2 Ff (Cq (mN Ms (Ip (AB 4)))) (Cq (Cn (AI (aH (mC (.int 1))) Au)))) (mC (.int 0))))))))
  (DH (JB (m2 (eqD false) (Ch (AB 2)) (Cq (Of (AI (GN (AB 0)) Au)))) (JB (m2 (eqD false) (Ch (AB 3)) (AB 3)) (m2 (inA true) (aH (mC (.int 1))) (AB 3))))))))
def E0(W:Wd):List D->Sto->Res D:=EY 7 (Gz W)
def JR(W:Wd):MS:=
  (BF (Bj 1 (BI 2 (De W) (AI (AB 0) (AI (mC (.int 0)) Au))))
  (BF (Bj 2 (m2 Ff (mC (.int 1)) (m2 D6 (AB 1) (mC (.int 14)))))
  (BF (Bj 3 (BI 2 (JD W) (AI (AB 0) (AI (mC (.int 1)) Au))))
  (BF (Bj 4 (m2 Ff (mC (.int 1)) (m2 D6 (m2 M2 (AB 1) (mC (.int 5))) (mC (.int 6)))))
  (BF (sIf (mB (m2 (eqD false) (m2 D6 (m2 M2 (AB 1) (mC (.int 14))) (mC (.int 8))) (mC (.int 3)))) (BF (Bj 2 (m2 Ff (mC (.int 15)) (m2 D6 (m2 M2 (AB 1) (mC (.int 112))) (mC (.int 46)))))
  (Bj 4 (mC (.int 1)))) sNx)
  (BF (Bj 5 (Cq (Cn Au)))
  (BF (GK (D7 (BI 3 (Ku W) (AI (AB 3) (AI (AB 2) (AI (AB 4) Au))))) (EC 2 (Ba (tgN 6) (Ba (tgN 7) ET)))
  (sIf (mB (m2 (eqD true) (m2 D6 (BI 2 (B5 W) (AI (AB 1) (AI (m2 Ff (mC (.int 501)) (AB 6)) Au))) (mC (.int 2))) (m2 D6 (BI 2 (B5 W) (AI (AB 1) (AI (m2 Ff (mC (.int 501)) (AB 7)) Au))) (mC (.int 2))))) (CH (FU (AB 5) (Fn (AI (AB 6) (AI (AB 7) Au))))) sNx))
  (DH (Fn (AI (AB 2) (AI (AB 5) Au)))))))))))
def Fs(W:Wd):List D->Sto->Res D:=EY 8 (JR W)
def JQ(W:Wd):MS:=
  (BF (sIf (mOr (J5 (mB (mIs (isB "tuple") (λ_=>none) (AB 0)))) (J5 (mB (mQ Ss (Ip (Cq (D4 1 (D7 (AB 0)) (tgN 0) EK (BI 1 (KB W) (AI (AB 0) Au))))))))) (DH (mC (.bl false))) sNx)
  (BF (sIf (mOr (mB (m2 (eqD true) (Ch (AB 0)) (Cq (mN Ms (Ip (AB 0)))))) (mB (m2 (eqD true) (Og (AB 0)) (GN (AB 0))))) (DH (mC (.bl false))) sNx)
  (DH (mQ Ss (Ip (Cq (D4 1 (D7 (AB 0)) (tgN 0) EK (m3 leD ltD (mC (.int 0)) (AB 0) (AB 2)))))))))
def Dx(W:Wd):List D->Sto->Res D:=EY 2 (JQ W)
def M5(W:Wd):MS:=
  (DH (JB (m2 (eqD false) (HJ W.Web "places" (AB 0)) (AB 1)) (m2 (eqD false) (HJ W.Web "ties" (AB 0)) (Fe (Ch (AB 2))))))
def KC(W:Wd):List D->Sto->Res D:=EY 3 (M5 W)
def bU(W:Wd):MS:=
  (BF (Ts (BI 1 (Fs W) (AI (AB 0) Au)) (EC 2 (Ba (tgN 1) (Ba (tgN 2) ET))))
  (BF (Bj 3 (Pt W.Web 3 (Ib W) (AI (AB 1) (AI (BI 2 (Dw W) (AI (AB 2) (AI (BI 2 (De W) (AI (AB 0) (AI (mC (.int 0)) Au))) Au))) Au))))
  (BF (Bj 4 (BI 2 (IE W) (AI (AB 2) (AI (AB 1) Au))))
  (BF (Bj 5 (BI 1 (Ds W) (AI (AB 3) Au)))
  (BF (sIf (mOr (J5 (mB (mIs (isB "tuple") (λ_=>none) (AB 5)))) (mOr (mB (m2 (eqD true) (GN (AB 5)) (mC (.int 2)))) (J5 (mB (mIs (isB "list") (λ_=>none) (m2 ixA (AB 5) (mC (.int 1)))))))) (DH (mC (.bl false))) sNx)
  (BF (Ts (AB 5) (EC 2 (Ba (tgN 6) (Ba (tgN 7) ET))))
  (BF (sIf (mOr (J5 (Io (BI 2 (Dx W) (AI (AB 6) (AI (AB 1) Au))))) (J5 (mB (mQ Ss (Ip (Cq (D4 1 (D7 (AB 7)) (tgN 0) EK (BI 2 (Dx W) (AI (AB 0) (AI (AB 2) Au)))))))))) (DH (mC (.bl false))) sNx)
  (BF (sIf (mOr (mB (mQ bY (Ip (Cq (D4 2 (D7 (AB 2)) (EC 2 (Ba (tgN 0) (Ba (tgN 1) ET))) EK (JB (m2 (inA false) (AB 0) (AB 8)) (m2 (inA false) (AB 1) (AB 8)))))))) (J5 (Io (BI 2 (E0 W) (AI (AB 4) (AI (AB 7) Au)))))) (DH (mC (.bl false))) sNx)
  (BF (sIf (mOr (mB (m2 (eqD true) (GN (AB 7)) (GN (AB 6)))) (mB (m2 (eqD true) (GN (AB 6)) (m2 ZS (AB 1) (GN (BI 1 (Gv W) (AI (AB 3) Au))))))) (DH (mC (.bl false))) sNx)
  (BF (Bj 8 (Cq (mN Ms (Ip (AB 7)))))
  (BF (CH (FU (AB 7) (Fn (AI (mC (.int 0)) Au))))
  (DH (JB (m2 (fN false) (BI 1 (Ds W) (AI (AB 3) Au)) (Fn (AI (AB 6) (AI (AB 8) Au)))) (BI 3 (KC W) (AI (AB 3) (AI (AB 1) (AI (AB 2) Au)))))))))))))))))
def bE(W:Wd):List D->Sto->Res D:=EY 9 (bU W)
structure Txt(K:AA)(mg:Str->Option AE)(W:Wd) where
 d_checked_ties:Dfn K mg "checked_ties" "checked_ties" EE ["places", "ties"]
 d_near_sets_of:Dfn K mg "near_sets_of" "near_sets_of" ED ["places", "ties"]
 d_Web_init:Mtd K "__init__" "Web.__init__" HG ["self", "places", "ties"]
 d_refuse_no_place:Dfn K mg "refuse_no_place" "refuse_no_place" C6 ["web", "place"]
 d_near:Dfn K mg "near" "near" NV ["web", "place"]
 d_steps_from:Dfn K mg "steps_from" "steps_from" FL ["web", "start"]
 d_parts_of:Dfn K mg "parts_of" "parts_of" HE ["web"]
 d_steps_in_parts:Dfn K mg "steps_in_parts" "steps_in_parts" DX ["web"]
 d_first_clash:Dfn K mg "first_clash" "first_clash" Ef ["web", "steps"]
 d_two_colours:Dfn K mg "two_colours" "two_colours" Ed ["web"]
 d_settle:Dfn K mg "settle" "settle" Je ["takes", "bits", "holders", "guard", "seen"]
 d_colours_or_refused:Dfn K mg "colours_or_refused" "colours_or_refused" CZ ["web"]
 d_partners:Dfn K mg "partners" "partners" HF ["web", "colours"]
 d_most_pairs:Dfn K mg "most_pairs" "most_pairs" FM ["web"]
 d_places_reached:Dfn K mg "places_reached" "places_reached" DY ["web", "colours", "found"]
 d_least_cover:Dfn K mg "least_cover" "least_cover" Ee ["web"]
 d_apart_and_clubs:Dfn K mg "apart_and_clubs" "apart_and_clubs" C7 ["web"]
 d__law_cell_at:Dfn K mg "_law_cell_at" "_law_cell_at" EF ["script", "k"]
 d__law_mixed:Dfn K mg "_law_mixed" "_law_mixed" FQ ["cell", "salt"]
 d__law_whole:Dfn K mg "_law_whole" "_law_whole" FN ["found"]
 d__law_pool:Dfn K mg "_law_pool" "_law_pool" GY ["script", "start"]
 d__law_ties:Dfn K mg "_law_ties" "_law_ties" GX ["pool", "many", "thick"]
 d__law_turned:Dfn K mg "_law_turned" "_law_turned" Eg ["ties", "cell"]
 d__law_nears:Dfn K mg "_law_nears" "_law_nears" FP ["ties", "many"]
 d__law_parts_well:Dfn K mg "_law_parts_well" "_law_parts_well" C8 ["nears", "clubs"]
 d__law_halves:Dfn K mg "_law_halves" "_law_halves" Ei ["script"]
 d__law_is_set:Dfn K mg "_law_is_set" "_law_is_set" Eh ["found", "many"]
 d__law_stays:Dfn K mg "_law_stays" "_law_stays" FO ["web", "many", "ties"]
 d_law:Dfn K mg "law" "law" RF ["script"]
 c_Web:Own K mg "Web" W.Web d_Web_init.f
 n_Web_places:Ii K W.Web "places"
 n_Web_ties:Ii K W.Web "ties"
 n_Web_near_sets:Ii K W.Web "near_sets"
 b_all:mg "all" = none
 b_any:mg "any" = none
 b_bool:mg "bool" = none
 b_enumerate:mg "enumerate" = none
 b_int:mg "int" = none
 b_isinstance:mg "isinstance" = none
 b_len:mg "len" = none
 b_list:mg "list" = none
 b_max:mg "max" = none
 b_min:mg "min" = none
 b_range:mg "range" = none
 b_set:mg "set" = none
 b_sorted:mg "sorted" = none
 b_sum:mg "sum" = none
 b_tuple:mg "tuple" = none
 g_MOST_PLACES:∃tk,mg "MOST_PLACES" = some (.int 60 tk)
section
variable{P:Al}{w:BE}{K:AA}{mg:Str->Option AE}{base:B7}{W:Wd}
def OK:Bz ["places", "ties", "found", "one", "other", "tie"] ["places", "ties"] (An EE):=Gs
def OO(T:Txt K mg W):Dh P w K mg base (CXG P w) 1 T.d_checked_ties.f T.d_checked_ties.fd ["places", "ties"] (spM K 2 (Gw W)):=by
 refine Bs (k:=0) T.d_checked_ties.F OK rfl λ_ _ _ _ _ _ hr hu nd=>?_
 exact(AT (CO 2 nd ay)
  (AT (EJ (good_none rfl).own rfl (Dv (AD (pv 1))) (Hu rfl (CI (CC 3 nd) (CI (CC 4 nd) GC)))
  (AT (CO 5 nd (IX (AR (Wo rfl rfl T.b_min (AR (AD (pv 3)) (AR (AD (pv 4)) A7))) (AR (Wp rfl rfl T.b_max (AR (AD (pv 3)) (AR (AD (pv 4)) A7))) A7))))
  (AT (Dk (DK (JA hu) (Dl hu (AD (pv 5)) ge_int) (Dl hu (AD (pv 5)) ge_int) (Cg _)) (Am Jj) CM)
  (AT (Dk (Qv (N7 (DK T9 (Dl hu (AD (pv 5)) ge_int) ge_int (Cg _)) (Ly (DK lr (Dl hu (AD (pv 5)) ge_int) (AD (pv 0)) (Cg _))))) (Am Jj) CM)
  (AT (Dk (mT hu (AD (pv 5)) (AD (pv 2))) (Am Jj) CM)
  (Am (JC (Ay (Co (by decide:1<=64) _) hu) (AD (pv 2)) (AD (pv 5)) IZ rfl)))))))
  (Am (B4 (Hh rfl T.b_tuple (En rfl rfl T.b_sorted (AD (pv 2))))))))
def OJ:Bz ["places", "ties", "rows", "one", "other"] ["places", "ties"] (An ED):=Gs
def ON(T:Txt K mg W):Dh P w K mg base (CXG P w) 1 T.d_near_sets_of.f T.d_near_sets_of.fd ["places", "ties"] (spM K 2 (Gu W)):=by
 refine Bs (k:=0) T.d_near_sets_of.F OJ rfl λ_ _ _ _ _ _ hr hu nd=>?_
 exact(AT (LJ (i:=2) (own:=["place"]) (N':=["place", "·1", "·2", "·3", "·4", "·5"]) rfl rfl nd rfl (by first | exact MD rfl | exact K7 rfl) (D9 (by kernel_rfl)) (Em rfl T.b_range (AR (AD (pv 0)) A7)) (λ_ _ _ _ _ _=>(CC 0 (by decide +kernel:(["place", "·1", "·2", "·3", "·4", "·5"]:List Str).Nodup))) (λ_ _ _ _ _ _=>FF) (λ_ _ _ _ _ _=>(DL (HN A7))))
  (AT (EJ (good_none rfl).own rfl (Dv (AD (pv 1))) (Hu rfl (CI (CC 3 nd) (CI (CC 4 nd) GC)))
  (AT (Cw (DA (Dl hu (AD (pv 2)) (AD (pv 3))) (AD (pv 4))))
  (Am (Cw (DA (Dl hu (AD (pv 2)) (AD (pv 4))) (AD (pv 3)))))))
  (Am (B4 (Hh rfl T.b_tuple (DL (HY (own:=["row"]) (N':=["row", "·1", "·2", "·3", "·4", "·5"]) rfl (D9 (by kernel_rfl)) (Dv (AD (pv 2))) (λ_ _ _ _ _ _=>(CC 0 (by decide +kernel:(["row", "·1", "·2", "·3", "·4", "·5"]:List Str).Nodup))) (λ_ _ _ _ _ _=>FF) (λ_ _ _ _ _ _=>(Hh rfl T.b_tuple (En rfl rfl T.b_sorted (AD (pv 0))))))))))))
def Tr:Bz ["self", "places", "ties"] ["self", "places", "ties"] (An HG):=Gs
def T7(T:Txt K mg W):Dh P w K mg base (CXG P w) 2 T.d_Web_init.f T.d_Web_init.fd ["self", "places", "ties"] (spM K 3 (Ib W)):=by
 refine Bs (k:=1) T.d_Web_init.F Tr rfl λ_ _ _ _ _ _ hr hu nd=>?_
 exact(AT (Dk (J8 (UM Wb Wb ge_int (AD (pv 1)) (ax rfl T.g_MOST_PLACES.choose_spec))) (Am Jj) CM)
  (AT (Vl T.c_Web.cl T.n_Web_places (AD (pv 0)) (AD (pv 1)) rfl)
  (AT (Vl T.c_Web.cl T.n_Web_ties (AD (pv 0)) (Bb (OO T) (good_none rfl).pass (hr.mono (by decide)) rfl T.d_checked_ties.m T.d_checked_ties.kp T.d_checked_ties.b (AR (AD (pv 1)) (AR (AD (pv 2)) A7))) rfl)
  (Am (Vl T.c_Web.cl T.n_Web_near_sets (AD (pv 0)) (Bb (ON T) (good_none rfl).pass (hr.mono (by decide)) rfl T.d_near_sets_of.m T.d_near_sets_of.kp T.d_near_sets_of.b (AR (AD (pv 1)) (AR (Hv T.c_Web.cl T.n_Web_ties (AD (pv 0)) rfl) A7))) rfl)))))
def Lm:Bz ["web", "place"] ["web", "place"] (An C6):=Gs
def Ls(T:Txt K mg W):Dh P w K mg base (CXG P w) 1 T.d_refuse_no_place.f T.d_refuse_no_place.fd ["web", "place"] (spM K 2 (Dq W)):=by
 refine Bs (k:=0) T.d_refuse_no_place.F Lm rfl λ_ _ _ _ _ _ hr hu nd=>?_
 exact(Am (Dk (J8 (UM Wb T9 ge_int (AD (pv 1)) (Hv T.c_Web.cl T.n_Web_places (AD (pv 0)) rfl))) (Am Jj) CM))
def dL:Bz ["web", "place"] ["web", "place"] (An NV):=Gs
def SJ(T:Txt K mg W):Dh P w K mg base (CXG P w) 2 T.d_near.f T.d_near.fd ["web", "place"] (spM K 2 (Kt W)):=by
 refine Bs (k:=1) T.d_near.F dL rfl λ_ _ _ _ _ _ hr hu nd=>?_
 exact(AT (Cw (Bb (Ls T) (good_none rfl).pass (hr.mono (by decide)) rfl T.d_refuse_no_place.m T.d_refuse_no_place.kp T.d_refuse_no_place.b (AR (AD (pv 0)) (AR (AD (pv 1)) A7))))
  (Am (B4 (Dl hu (Hv T.c_Web.cl T.n_Web_near_sets (AD (pv 0)) rfl) (AD (pv 1))))))
def Qg:Bz ["web", "start", "steps", "layer", "further", "place", "beside"] ["web", "start"] (An FL):=Gs
def LZ(T:Txt K mg W):Dh P w K mg base (CXG P w) 3 T.d_steps_from.f T.d_steps_from.fd ["web", "start"] (spM K 2 (DU W)):=by
 refine Bs (k:=2) T.d_steps_from.F Qg rfl λ_ _ _ _ _ _ hr hu nd=>?_
 exact(AT (CO 2 nd (az (AD (pv 1)) ge_int))
  (AT (CO 3 nd (DL (HN (AR (AD (pv 1)) A7))))
  (AT (UN wN (good_none rfl).own (Ji (AD (pv 3))) (AT (CO 4 nd (DL (HN A7)))
  (AT (EJ (good_none rfl).own rfl (Dv (AD (pv 3))) (CC 5 nd)
  (Am (EJ (good_none rfl).own rfl (Dv (Bb (SJ T) (good_none rfl).pass (hr.mono (by decide)) rfl T.d_near.m T.d_near.kp T.d_near.b (AR (AD (pv 0)) (AR (AD (pv 5)) A7)))) (CC 6 nd)
  (Am (Dk (Fp hu (AD (pv 6)) (AD (pv 2))) (AT (JC (Ay (Co (by decide:1<=64) _) hu) (AD (pv 2)) (AD (pv 6)) (B2 Hr (Dl hu (AD (pv 2)) (AD (pv 5))) ge_int) rfl)
  (Am (Cw (DA (AD (pv 4)) (AD (pv 6)))))) CM)))))
  (Am (CO 3 nd (AD (pv 4)))))))
  (Am (B4 (AD (pv 2)))))))
def Tp:Bz ["web", "parts", "seen", "place", "steps"] ["web"] (An HE):=Gs
def T6(T:Txt K mg W):Dh P w K mg base (CXG P w) 4 T.d_parts_of.f T.d_parts_of.fd ["web"] (spM K 1 (Ia W)):=by
 refine Bs (k:=3) T.d_parts_of.F Tp rfl λ_ _ _ _ _ _ hr hu nd=>?_
 exact(AT (CO 1 nd (DL (HN A7)))
  (AT (CO 2 nd Jk)
  (AT (EJ (good_none rfl).own rfl (Em rfl T.b_range (AR (Hv T.c_Web.cl T.n_Web_places (AD (pv 0)) rfl) A7)) (CC 3 nd)
  (Am (Dk (Fp hu (AD (pv 3)) (AD (pv 2))) (AT (CO 4 nd (Bb (LZ T) (good_none rfl).pass (hr.mono (by decide)) rfl T.d_steps_from.m T.d_steps_from.kp T.d_steps_from.b (AR (AD (pv 0)) (AR (AD (pv 3)) A7))))
  (AT (Cw (Wq (AD (pv 2)) (AD (pv 4))))
  (Am (Cw (DA (AD (pv 1)) (Hh rfl T.b_tuple (En rfl rfl T.b_sorted (AD (pv 4))))))))) CM)))
  (Am (B4 (AD (pv 1)))))))
def Mc:Bz ["web", "steps", "part"] ["web"] (An DX):=Gs
def Ml(T:Txt K mg W):Dh P w K mg base (CXG P w) 5 T.d_steps_in_parts.f T.d_steps_in_parts.fd ["web"] (spM K 1 (FV W)):=by
 refine Bs (k:=4) T.d_steps_in_parts.F Mc rfl λ_ _ _ _ _ _ hr hu nd=>?_
 exact(AT (CO 1 nd Jk)
  (AT (EJ (good_none rfl).own rfl (Dv (Bb (T6 T) (good_none rfl).pass (hr.mono (by decide)) rfl T.d_parts_of.m T.d_parts_of.kp T.d_parts_of.b (AR (AD (pv 0)) A7))) (CC 2 nd)
  (Am (Cw (Wq (AD (pv 1)) (Bb (LZ T) (good_none rfl).pass (hr.mono (by decide)) rfl T.d_steps_from.m T.d_steps_from.kp T.d_steps_from.b (AR (AD (pv 0)) (AR (Dl hu (AD (pv 2)) ge_int) A7)))))))
  (Am (B4 (AD (pv 1))))))
def PY:Bz ["web", "steps", "one", "other"] ["web", "steps"] (An Ef):=Gs
def Pl(T:Txt K mg W):Dh P w K mg base (CXG P w) 1 T.d_first_clash.f T.d_first_clash.fd ["web", "steps"] (spM K 2 (Eo W)):=by
 refine Bs (k:=0) T.d_first_clash.F PY rfl λ_ _ _ _ _ _ hr hu nd=>?_
 exact(AT (EJ (good_none rfl).own rfl (Dv (Hv T.c_Web.cl T.n_Web_ties (AD (pv 0)) rfl)) (Hu rfl (CI (CC 2 nd) (CI (CC 3 nd) GC)))
  (Am (Dk (DK (JA hu) (B2 Fc (Dl hu (AD (pv 1)) (AD (pv 2))) ge_int) (B2 Fc (Dl hu (AD (pv 1)) (AD (pv 3))) ge_int) (Cg _)) (Am (B4 (IX (AR (AD (pv 2)) (AR (AD (pv 3)) A7))))) CM)))
  (Am (B4 Se)))
def PV:Bz ["web", "steps"] ["web"] (An Ed):=Gs
def Pj(T:Txt K mg W):Dh P w K mg base (CXG P w) 6 T.d_two_colours.f T.d_two_colours.fd ["web"] (spM K 1 (Ha W)):=by
 refine Bs (k:=5) T.d_two_colours.F PV rfl λ_ _ _ _ _ _ hr hu nd=>?_
 exact(AT (CO 1 nd (Bb (Ml T) (good_none rfl).pass (hr.mono (by decide)) rfl T.d_steps_in_parts.m T.d_steps_in_parts.kp T.d_steps_in_parts.b (AR (AD (pv 0)) A7)))
  (AT (Dk (DK eJ (Bb (Pl T) (good_none rfl).pass (hr.mono (by decide)) rfl T.d_first_clash.m T.d_first_clash.kp T.d_first_clash.b (AR (AD (pv 0)) (AR (AD (pv 1)) A7))) Se (Cg _)) (Am (B4 Se)) CM)
  (Am (B4 (Hh rfl T.b_tuple (DL (HY (own:=["place"]) (N':=["place", "·1", "steps"]) rfl (D9 (by kernel_rfl)) (Em rfl T.b_range (AR (Hv T.c_Web.cl T.n_Web_places (AD (pv 0)) rfl) A7)) (λ_ _ _ _ _ _=>(CC 0 (by decide +kernel:(["place", "·1", "steps"]:List Str).Nodup))) (λ_ _ _ _ _ _=>FF) (λ_ _ _ _ _ _=>(B2 Fc (Dl hu (AD (pv 2)) (AD (pv 0))) ge_int)))))))))
def Xi:Bz ["takes", "bits", "holders", "guard", "seen", "wanted", "place"] ["takes", "bits", "holders", "guard", "seen"] (An Je):=Gs
def RL(T:Txt K mg W):∀n:Nat,Dh P w K mg base (CXG P w) (0+n) T.d_settle.f T.d_settle.fd ["takes", "bits", "holders", "guard", "seen"] (spM K 5 (Fq W n))
 | 0=>j9
 | n+1=>by
  refine Bs (k:=0+n) T.d_settle.F Xi rfl λ_ _ _ _ _ _ hr hu nd=>?_
  exact(AT (LJ (i:=5) (own:=["place"]) (N':=["place", "·1", "bits", "·3", "·4", "seen", "·6", "·7"]) rfl rfl nd rfl (by first | exact MD rfl | exact K7 rfl) (D9 (by kernel_rfl)) (Dv (Dl hu (AD (pv 0)) (AD (pv 3)))) (λ_ _ _ _ _ _=>(CC 0 (by decide +kernel:(["place", "·1", "bits", "·3", "·4", "seen", "·6", "·7"]:List Str).Nodup))) (λ_ _ _ _ _ _=>(Kr (Qv (Vk (Ji (B2 jf (B2 ja (AD (pv 2)) (AD (pv 0))) ge_int)) (Sa (Fp hu (AD (pv 0)) (AD (pv 5)))))))) (λ_ _ _ _ _ _=>(AD (pv 0))))
  (AT (EJ (good_none rfl).own rfl (Dv (AD (pv 5))) (CC 6 nd)
  (Am (Dk (Fp hu (AD (pv 6)) (AD (pv 2))) (AT (JC (Ay (Co (by decide:1<=64) _) hu) (AD (pv 2)) (AD (pv 6)) (AD (pv 3)) rfl)
  (Am (B4 IZ))) CM)))
  (AT (EJ (good_none rfl).own rfl (Dv (AD (pv 5))) (CC 6 nd)
  (Am (Dk (Fp hu (AD (pv 6)) (AD (pv 4))) (AT (JC (Ay (Co (by decide:1<=64) _) hu) (AD (pv 4)) (AD (pv 6)) IZ rfl)
  (Am (Dk (Ji (Bb (RL T n) (good_none rfl).pass (hr.mono (AQ _)) rfl T.d_settle.m T.d_settle.kp T.d_settle.b (AR (AD (pv 0)) (AR (AD (pv 1)) (AR (AD (pv 2)) (AR (Dl hu (AD (pv 2)) (AD (pv 6))) (AR (AD (pv 4)) A7))))))) (AT (JC (Ay (Co (by decide:1<=64) _) hu) (AD (pv 2)) (AD (pv 6)) (AD (pv 3)) rfl)
  (Am (B4 IZ))) CM))) CM)))
  (Am (B4 IZ)))))
def KQ:Bz ["web", "colours"] ["web"] (An CZ):=Gs
def G7(T:Txt K mg W):Dh P w K mg base (CXG P w) 7 T.d_colours_or_refused.f T.d_colours_or_refused.fd ["web"] (spM K 1 (Dr W)):=by
 refine Bs (k:=6) T.d_colours_or_refused.F KQ rfl λ_ _ _ _ _ _ hr hu nd=>?_
 exact(AT (CO 1 nd (Bb (Pj T) (good_none rfl).pass (hr.mono (by decide)) rfl T.d_two_colours.m T.d_two_colours.kp T.d_two_colours.b (AR (AD (pv 0)) A7)))
  (AT (Dk (DK jd (AD (pv 1)) Se (Cg _)) (Am Jj) CM)
  (Am (B4 (AD (pv 1))))))
def Tq:Bz ["web", "colours", "takes", "everywhere", "found", "place", "colour"] ["web", "colours"] (An HF):=Gs
def Nz(T:Txt K mg W):Dh P w K mg base (CXG P w) 64 T.d_partners.f T.d_partners.fd ["web", "colours"] (spM K 2 (KA W)):=by
 refine Bs (k:=63) T.d_partners.F Tq rfl λ_ _ _ _ _ _ hr hu nd=>?_
 exact(AT (LJ (i:=2) (own:=["place"]) (N':=["place", "web", "·2", "·3", "·4", "·5", "·6", "·7"]) rfl rfl nd rfl (by first | exact MD rfl | exact K7 rfl) (D9 (by kernel_rfl)) (Em rfl T.b_range (AR (Hv T.c_Web.cl T.n_Web_places (AD (pv 0)) rfl) A7)) (λ_ _ _ _ _ _=>(CC 0 (by decide +kernel:(["place", "web", "·2", "·3", "·4", "·5", "·6", "·7"]:List Str).Nodup))) (λ_ _ _ _ _ _=>FF) (λ_ _ _ _ _ _=>(Bb (SJ T) (good_none rfl).pass (hr.mono (by decide)) rfl T.d_near.m T.d_near.kp T.d_near.b (AR (AD (pv 1)) (AR (AD (pv 0)) A7)))))
  (AT (CO 3 nd (B2 Z3 (B2 jc ge_int (Hv T.c_Web.cl T.n_Web_places (AD (pv 0)) rfl)) ge_int))
  (AT (CO 4 nd Jk)
  (AT (EJ (good_none rfl).own rfl (Sb rfl T.b_enumerate (AD (pv 1))) (Hu rfl (CI (CC 5 nd) (CI (CC 6 nd) GC)))
  (Am (Dk (DK (JA hu) (AD (pv 6)) ge_int (Cg _)) (Am (Cw (Bb (RL T 62) (good_none rfl).pass (hr.mono (by decide)) rfl T.d_settle.m T.d_settle.kp T.d_settle.b (AR (AD (pv 2)) (AR (AD (pv 3)) (AR (AD (pv 4)) (AR (AD (pv 5)) (AR Jk A7)))))))) CM)))
  (Am (B4 (AD (pv 4))))))))
def Qh:Bz ["web", "found"] ["web"] (An FM):=Gs
def La(T:Txt K mg W):Dh P w K mg base (CXG P w) 65 T.d_most_pairs.f T.d_most_pairs.fd ["web"] (spM K 1 (Gv W)):=by
 refine Bs (k:=64) T.d_most_pairs.F Qh rfl λ_ _ _ _ _ _ hr hu nd=>?_
 exact(AT (CO 1 nd (Bb (Nz T) (good_none rfl).pass (hr.mono (by decide)) rfl T.d_partners.m T.d_partners.kp T.d_partners.b (AR (AD (pv 0)) (AR (Bb (G7 T) (good_none rfl).pass (hr.mono (by decide)) rfl T.d_colours_or_refused.m T.d_colours_or_refused.kp T.d_colours_or_refused.b (AR (AD (pv 0)) A7)) A7))))
  (Am (mU (i:=1) (B4 (En rfl rfl T.b_sorted (DL (HY (own:=["one"]) (N':=["one", "·1", "found"]) rfl (D9 (by kernel_rfl)) (en (AD (pv 1))) (λ_ _ _ _ _ _=>(CC 0 (by decide +kernel:(["one", "·1", "found"]:List Str).Nodup))) (λ_ _ _ _ _ _=>FF) (λ_ _ _ _ _ _=>(IX (AR (Wo rfl rfl T.b_min (AR (AD (pv 0)) (AR (Dl hu (AD (pv 2)) (AD (pv 0))) A7))) (AR (Wp rfl rfl T.b_max (AR (AD (pv 0)) (AR (Dl hu (AD (pv 2)) (AD (pv 0))) A7))) A7)))))))))))
def Md:Bz ["web", "colours", "found", "paired", "ahead", "reached", "place"] ["web", "colours", "found"] (An DY):=Gs
def Mm(T:Txt K mg W):Dh P w K mg base (CXG P w) 3 T.d_places_reached.f T.d_places_reached.fd ["web", "colours", "found"] (spM K 3 (HP W)):=by
 refine Bs (k:=2) T.d_places_reached.F Md rfl λ_ _ _ _ _ _ hr hu nd=>?_
 exact(AT (CO 3 nd (UO rfl rfl T.b_list (AD (pv 2))))
  (AT (LJ (i:=4) (own:=["place", "colour"]) (N':=["place", "colour", "·2", "·3", "·4", "paired", "·6", "·7", "·8"]) rfl rfl nd rfl (by first | exact MD rfl | exact K7 rfl) (D9 (by kernel_rfl)) (Sb rfl T.b_enumerate (AD (pv 1))) (λ_ _ _ _ _ _=>(Hu rfl (CI (CC 0 (by decide +kernel:(["place", "colour", "·2", "·3", "·4", "paired", "·6", "·7", "·8"]:List Str).Nodup)) (CI (CC 1 (by decide +kernel:(["place", "colour", "·2", "·3", "·4", "paired", "·6", "·7", "·8"]:List Str).Nodup)) GC)))) (λ_ _ _ _ _ _=>(Kr (Qv (Vk (DK (JA hu) (AD (pv 1)) ge_int (Cg _)) (Sa (Fp hu (AD (pv 0)) (AD (pv 5)))))))) (λ_ _ _ _ _ _=>(AD (pv 0))))
  (AT (CO 5 nd Jk)
  (AT (UN wN (good_none rfl).own (Ji (AD (pv 4))) (AT (CO 6 nd (j3 (AD (pv 4))))
  (Am (Dk (Fp hu (AD (pv 6)) (AD (pv 5))) (AT (JC (Ay (Co (by decide:1<=64) _) hu) (AD (pv 5)) (AD (pv 6)) IZ rfl)
  (Am (Dk (DK (JA hu) (Dl hu (AD (pv 1)) (AD (pv 6))) ge_int (Cg _)) (Am (Cw (fA (AD (pv 4)) (Bb (SJ T) (good_none rfl).pass (hr.mono (by decide)) rfl T.d_near.m T.d_near.kp T.d_near.b (AR (AD (pv 0)) (AR (AD (pv 6)) A7)))))) (Am (Cw (DA (AD (pv 4)) (Dl hu (AD (pv 2)) (AD (pv 6))))))))) CM))))
  (Am (B4 (AD (pv 5))))))))
def PX:Bz ["web", "colours", "reached"] ["web"] (An Ee):=Gs
def Pk(T:Txt K mg W):Dh P w K mg base (CXG P w) 65 T.d_least_cover.f T.d_least_cover.fd ["web"] (spM K 1 (JO W)):=by
 refine Bs (k:=64) T.d_least_cover.F PX rfl λ_ _ _ _ _ _ hr hu nd=>?_
 exact(AT (CO 1 nd (Bb (G7 T) (good_none rfl).pass (hr.mono (by decide)) rfl T.d_colours_or_refused.m T.d_colours_or_refused.kp T.d_colours_or_refused.b (AR (AD (pv 0)) A7)))
  (AT (CO 2 nd (Bb (Mm T) (good_none rfl).pass (hr.mono (by decide)) rfl T.d_places_reached.m T.d_places_reached.kp T.d_places_reached.b (AR (AD (pv 0)) (AR (AD (pv 1)) (AR (Bb (Nz T) (good_none rfl).pass (hr.mono (by decide)) rfl T.d_partners.m T.d_partners.kp T.d_partners.b (AR (AD (pv 0)) (AR (AD (pv 1)) A7))) A7)))))
  (Am (B4 (Hh rfl T.b_tuple (DL (HY (own:=["place", "colour"]) (N':=["place", "colour", "·2", "·3", "reached"]) rfl (D9 (by kernel_rfl)) (Sb rfl T.b_enumerate (AD (pv 1))) (λ_ _ _ _ _ _=>(Hu rfl (CI (CC 0 (by decide +kernel:(["place", "colour", "·2", "·3", "reached"]:List Str).Nodup)) (CI (CC 1 (by decide +kernel:(["place", "colour", "·2", "·3", "reached"]:List Str).Nodup)) GC)))) (λ_ _ _ _ _ _=>(Kr (DK (JA hu) (aw hu (AD (pv 0)) (AD (pv 4))) (Ks (JA hu) (AD (pv 1)) ge_int (Cg _)) (Cg _)))) (λ_ _ _ _ _ _=>(AD (pv 0))))))))))
def Ln:Bz ["web", "cover", "apart", "clubs", "paired", "one", "other", "singles"] ["web"] (An C7):=Gs
def IU(T:Txt K mg W):Dh P w K mg base (CXG P w) 66 T.d_apart_and_clubs.f T.d_apart_and_clubs.fd ["web"] (spM K 1 (Ds W)):=by
 refine Bs (k:=65) T.d_apart_and_clubs.F Ln rfl λ_ _ _ _ _ _ hr hu nd=>?_
 exact(AT (CO 1 nd (Bb (Pk T) (good_none rfl).pass (hr.mono (by decide)) rfl T.d_least_cover.m T.d_least_cover.kp T.d_least_cover.b (AR (AD (pv 0)) A7)))
  (AT (CO 2 nd (Hh rfl T.b_tuple (DL (HY (own:=["place"]) (N':=["place", "·1", "cover", "·3", "·4", "·5", "·6", "·7", "·8"]) rfl (D9 (by kernel_rfl)) (Em rfl T.b_range (AR (Hv T.c_Web.cl T.n_Web_places (AD (pv 0)) rfl) A7)) (λ_ _ _ _ _ _=>(CC 0 (by decide +kernel:(["place", "·1", "cover", "·3", "·4", "·5", "·6", "·7", "·8"]:List Str).Nodup))) (λ_ _ _ _ _ _=>(Kr (Fp hu (AD (pv 0)) (AD (pv 2))))) (λ_ _ _ _ _ _=>(AD (pv 0)))))))
  (AT (CO 3 nd (Bb (La T) (good_none rfl).pass (hr.mono (by decide)) rfl T.d_most_pairs.m T.d_most_pairs.kp T.d_most_pairs.b (AR (AD (pv 0)) A7)))
  (AT (CO 4 nd Jk)
  (AT (EJ (good_none rfl).own rfl (Dv (AD (pv 3))) (Hu rfl (CI (CC 5 nd) (CI (CC 6 nd) GC)))
  (AT (JC (Ay (Co (by decide:1<=64) _) hu) (AD (pv 4)) (AD (pv 5)) IZ rfl)
  (Am (JC (Ay (Co (by decide:1<=64) _) hu) (AD (pv 4)) (AD (pv 6)) IZ rfl))))
  (AT (LJ (i:=7) (own:=["place"]) (N':=["place", "·1", "·2", "·3", "·4", "paired", "·6", "·7", "·8"]) rfl rfl nd rfl (by first | exact MD rfl | exact K7 rfl) (D9 (by kernel_rfl)) (Em rfl T.b_range (AR (Hv T.c_Web.cl T.n_Web_places (AD (pv 0)) rfl) A7)) (λ_ _ _ _ _ _=>(CC 0 (by decide +kernel:(["place", "·1", "·2", "·3", "·4", "paired", "·6", "·7", "·8"]:List Str).Nodup))) (λ_ _ _ _ _ _=>(Kr (Fp hu (AD (pv 0)) (AD (pv 5))))) (λ_ _ _ _ _ _=>(IX (AR (AD (pv 0)) A7))))
  (Am (B4 (IX (AR (AD (pv 2)) (AR (En rfl rfl T.b_sorted (B2 Hr (AD (pv 3)) (AD (pv 7)))) A7)))))))))))
def OL:Bz ["script", "k"] ["script", "k"] (An EF):=Gs
def KM(T:Txt K mg W):Dh P w K mg base (CXG P w) 1 T.d__law_cell_at.f T.d__law_cell_at.fd ["script", "k"] (spM K 2 (De W)):=by
 refine Bs (k:=0) T.d__law_cell_at.F OL rfl λ_ _ _ _ _ _ hr hu nd=>?_
 exact(AT (Dk (DK T9 (AD (pv 1)) (IY rfl T.b_len (AD (pv 0))) (Cg _)) (Am (B4 (Dl hu (AD (pv 0)) (AD (pv 1))))) CM)
  (Am (B4 ge_int)))
def Ql:Bz ["cell", "salt", "mixed"] ["cell", "salt"] (An FQ):=Gs
def HX(T:Txt K mg W):Dh P w K mg base (CXG P w) 1 T.d__law_mixed.f T.d__law_mixed.fd ["cell", "salt"] (spM K 2 (B5 W)):=by
 refine Bs (k:=0) T.d__law_mixed.F Ql rfl λ_ _ _ _ _ _ hr hu nd=>?_
 exact(AT (CO 2 nd (B2 Fc (B2 SM (B2 Hr (B2 Fc (AD (pv 0)) ge_int) (AD (pv 1))) ge_int) ge_int))
  (Am (B4 (B2 Fc (B2 SM (AD (pv 2)) (AD (pv 2))) ge_int))))
def Qi:Bz ["found"] ["found"] (An FN):=Gs
def Qp(T:Txt K mg W):Dh P w K mg base (CXG P w) 1 T.d__law_whole.f T.d__law_whole.fd ["found"] (spM K 1 (KB W)):=by
 refine Bs (k:=0) T.d__law_whole.F Qi rfl λ_ _ _ _ _ _ hr hu nd=>?_
 exact(Am (B4 (L2.Nl (P8 (c:=.ty "int") (cv:=.type "int") (λ_ r=>r) ef rfl T.b_isinstance (AD (pv 0)) (Mi rfl T.b_int nP rfl)) (P7 (j4 (P8 (c:=.ty "bool") (cv:=.type "bool") (λ_ r=>r) ae rfl T.b_isinstance (AD (pv 0)) (Mi rfl T.b_bool nQ rfl)))))))
def SF:Bz ["script", "start", "pool", "k", "more"] ["script", "start"] (An GY):=Gs
def SL(T:Txt K mg W):Dh P w K mg base (CXG P w) 1 T.d__law_pool.f T.d__law_pool.fd ["script", "start"] (spM K 2 (JD W)):=by
 refine Bs (k:=0) T.d__law_pool.F SF rfl λ_ _ _ _ _ _ hr hu nd=>?_
 exact(AT (CO 2 nd (DL (HN (AR (IY rfl T.b_len (AD (pv 0))) A7))))
  (AT (EJ (good_none rfl).own rfl (Em rfl T.b_range (AR ge_int A7)) (CC 3 nd)
  (AT (CO 4 nd (YJ (AD (pv 0)) (Wm (B2 Hr (AD (pv 1)) (AD (pv 3)))) ej (Wm ge_int)))
  (Am (Dk (DK (N0 hu) (AD (pv 4)) (DL (HN A7)) (Cg _)) (Am (Cw (DA (AD (pv 2)) (j0 rfl rfl T.b_sum (AD (pv 4)))))) CM))))
  (Am (B4 (AD (pv 2))))))
def SE:Bz ["pool", "many", "thick", "ties", "at", "other", "one", "cell"] ["pool", "many", "thick"] (An GX):=Gs
def SK(T:Txt K mg W):Dh P w K mg base (CXG P w) 2 T.d__law_ties.f T.d__law_ties.fd ["pool", "many", "thick"] (spM K 3 (Ku W)):=by
 refine Bs (k:=1) T.d__law_ties.F SE rfl λ_ _ _ _ _ _ hr hu nd=>?_
 exact(AT (CO 3 nd (DL (HN A7)))
  (AT (CO 4 nd ge_int)
  (AT (EJ (good_none rfl).own rfl (YI rfl T.b_range (AR ge_int (AR (AD (pv 1)) A7))) (CC 5 nd)
  (Am (EJ (good_none rfl).own rfl (Em rfl T.b_range (AR (AD (pv 5)) A7)) (CC 6 nd)
  (AT (CO 7 nd (Dl hu (AD (pv 0)) (B2 Fc (AD (pv 4)) (IY rfl T.b_len (AD (pv 0))))))
  (AT (CO 4 nd (B2 Hr (AD (pv 4)) ge_int))
  (Am (Dk (DK T9 (B2 Fc (Bb (HX T) (good_none rfl).pass (hr.mono (by decide)) rfl T.d__law_mixed.m T.d__law_mixed.kp T.d__law_mixed.b (AR (AD (pv 7)) (AR (B2 Hr (B2 SM ge_int (AD (pv 6))) (B2 SM ge_int (AD (pv 5)))) A7))) ge_int) (AD (pv 2)) (Cg _)) (Am (Cw (DA (AD (pv 3)) (IX (AR (AD (pv 6)) (AR (AD (pv 5)) A7)))))) CM)))))))
  (Am (B4 (AD (pv 3)))))))
def PZ:Bz ["ties", "cell", "told", "k"] ["ties", "cell"] (An Eg):=Gs
def Pm(T:Txt K mg W):Dh P w K mg base (CXG P w) 2 T.d__law_turned.f T.d__law_turned.fd ["ties", "cell"] (spM K 2 (Dw W)):=by
 refine Bs (k:=1) T.d__law_turned.F PZ rfl λ_ _ _ _ _ _ hr hu nd=>?_
 exact(AT (CO 2 nd (DL (HN A7)))
  (AT (EJ (good_none rfl).own rfl (Em rfl T.b_range (AR (IY rfl T.b_len (AD (pv 0))) A7)) (CC 3 nd)
  (Am (Dk (DK (JA hu) (B2 Fc (Bb (HX T) (good_none rfl).pass (hr.mono (by decide)) rfl T.d__law_mixed.m T.d__law_mixed.kp T.d__law_mixed.b (AR (AD (pv 1)) (AR (AD (pv 3)) A7))) ge_int) ge_int (Cg _)) (Am (Cw (DA (AD (pv 2)) (Dl hu (AD (pv 0)) (AD (pv 3)))))) (Am (Cw (DA (AD (pv 2)) (IX (AR (Dl hu (Dl hu (AD (pv 0)) (AD (pv 3))) ge_int) (AR (Dl hu (Dl hu (AD (pv 0)) (AD (pv 3))) ge_int) A7)))))))))
  (AT (Dk (DK (JA hu) (B2 Fc (AD (pv 1)) ge_int) ge_int (Cg _)) (Am (Cw (Vn (AD (pv 2))))) CM)
  (Am (B4 (AD (pv 2)))))))
def Qk:Bz ["ties", "many", "nears", "one", "other"] ["ties", "many"] (An FP):=Gs
def Qr(T:Txt K mg W):Dh P w K mg base (CXG P w) 1 T.d__law_nears.f T.d__law_nears.fd ["ties", "many"] (spM K 2 (IE W)):=by
 refine Bs (k:=0) T.d__law_nears.F Qk rfl λ_ _ _ _ _ _ hr hu nd=>?_
 exact(AT (LJ (i:=2) (own:=["place"]) (N':=["place", "·1", "·2", "·3", "·4", "·5"]) rfl rfl nd rfl (by first | exact MD rfl | exact K7 rfl) (D9 (by kernel_rfl)) (Em rfl T.b_range (AR (AD (pv 1)) A7)) (λ_ _ _ _ _ _=>(CC 0 (by decide +kernel:(["place", "·1", "·2", "·3", "·4", "·5"]:List Str).Nodup))) (λ_ _ _ _ _ _=>FF) (λ_ _ _ _ _ _=>(DL (HN A7))))
  (AT (EJ (good_none rfl).own rfl (Dv (AD (pv 0))) (Hu rfl (CI (CC 3 nd) (CI (CC 4 nd) GC)))
  (AT (Cw (DA (Dl hu (AD (pv 2)) (AD (pv 3))) (AD (pv 4))))
  (Am (Cw (DA (Dl hu (AD (pv 2)) (AD (pv 4))) (AD (pv 3)))))))
  (Am (B4 (DL (HY (own:=["some"]) (N':=["some", "·1", "·2", "·3", "·4", "·5"]) rfl (D9 (by kernel_rfl)) (Dv (AD (pv 2))) (λ_ _ _ _ _ _=>(CC 0 (by decide +kernel:(["some", "·1", "·2", "·3", "·4", "·5"]:List Str).Nodup))) (λ_ _ _ _ _ _=>FF) (λ_ _ _ _ _ _=>(En rfl rfl T.b_sorted (AD (pv 0))))))))))
def Lp:Bz ["nears", "clubs", "met", "least", "club", "one", "other"] ["nears", "clubs"] (An C8):=Gs
def Lu(T:Txt K mg W):Dh P w K mg base (CXG P w) 1 T.d__law_parts_well.f T.d__law_parts_well.fd ["nears", "clubs"] (spM K 2 (E0 W)):=by
 refine Bs (k:=0) T.d__law_parts_well.F Lp rfl λ_ _ _ _ _ _ hr hu nd=>?_
 exact(AT (CO 2 nd (DL (HN A7)))
  (AT (CO 3 nd (DL (HN A7)))
  (AT (EJ (good_none rfl).own rfl (Dv (AD (pv 1))) (CC 4 nd)
  (AT (EJ (good_none rfl).own rfl (Dv (AD (pv 4))) (CC 5 nd)
  (Am (EJ (good_none rfl).own rfl (Dv (AD (pv 4))) (CC 6 nd)
  (Am (Dk (Qv (Vk (DK (N0 hu) (AD (pv 5)) (AD (pv 6)) (Cg _)) (Sa (Fp hu (AD (pv 6)) (Dl hu (AD (pv 0)) (AD (pv 5))))))) (Am (B4 IZ)) CM)))))
  (AT (Cw (YL (AD (pv 2)) (Ol rfl T.b_list (AD (pv 4)))))
  (Am (Cw (DA (AD (pv 3)) (Dl hu (B2 Hr (Ol rfl T.b_list (AD (pv 4))) (DL (HN (AR (av ge_int) A7)))) ge_int)))))))
  (Am (B4 (L2.Nl (Ks (JA hu) (En rfl rfl T.b_sorted (AD (pv 2))) (DL (YH rfl rfl T.b_list rfl T.b_range (AR (IY rfl T.b_len (AD (pv 0))) A7))) (Cg _)) (L2.Nl (Ks (JA hu) (En rfl rfl T.b_sorted (AD (pv 3))) (AD (pv 3)) (Cg _)) (P7 (au hu (av ge_int) (AD (pv 3)))))))))))
def Pb:Bz ["script", "first", "many", "pool", "thick", "ties", "one", "other"] ["script"] (An Ei):=Gs
def Pn(T:Txt K mg W):Dh P w K mg base (CXG P w) 3 T.d__law_halves.f T.d__law_halves.fd ["script"] (spM K 1 (Fs W)):=by
 refine Bs (k:=2) T.d__law_halves.F Pb rfl λ_ _ _ _ _ _ hr hu nd=>?_
 exact(AT (CO 1 nd (Bb (KM T) (good_none rfl).pass (hr.mono (by decide)) rfl T.d__law_cell_at.m T.d__law_cell_at.kp T.d__law_cell_at.b (AR (AD (pv 0)) (AR ge_int A7))))
  (AT (CO 2 nd (B2 Hr ge_int (B2 Fc (AD (pv 1)) ge_int)))
  (AT (CO 3 nd (Bb (SL T) (good_none rfl).pass (hr.mono (by decide)) rfl T.d__law_pool.m T.d__law_pool.kp T.d__law_pool.b (AR (AD (pv 0)) (AR ge_int A7))))
  (AT (CO 4 nd (B2 Hr ge_int (B2 Fc (B2 SN (AD (pv 1)) ge_int) ge_int)))
  (AT (Dk (DK (JA hu) (B2 Fc (B2 SN (AD (pv 1)) ge_int) ge_int) ge_int (Cg _)) (AT (CO 2 nd (B2 Hr ge_int (B2 Fc (B2 SN (AD (pv 1)) ge_int) ge_int)))
  (Am (CO 4 nd ge_int))) CM)
  (AT (CO 5 nd (DL (HN A7)))
  (AT (EJ (good_none rfl).own rfl (Dv (Bb (SK T) (good_none rfl).pass (hr.mono (by decide)) rfl T.d__law_ties.m T.d__law_ties.kp T.d__law_ties.b (AR (AD (pv 3)) (AR (AD (pv 2)) (AR (AD (pv 4)) A7))))) (Hu rfl (CI (CC 6 nd) (CI (CC 7 nd) GC)))
  (Am (Dk (DK (N0 hu) (B2 Fc (Bb (HX T) (good_none rfl).pass (hr.mono (by decide)) rfl T.d__law_mixed.m T.d__law_mixed.kp T.d__law_mixed.b (AR (AD (pv 1)) (AR (B2 Hr ge_int (AD (pv 6))) A7))) ge_int) (B2 Fc (Bb (HX T) (good_none rfl).pass (hr.mono (by decide)) rfl T.d__law_mixed.m T.d__law_mixed.kp T.d__law_mixed.b (AR (AD (pv 1)) (AR (B2 Hr ge_int (AD (pv 7))) A7))) ge_int) (Cg _)) (Am (Cw (DA (AD (pv 5)) (IX (AR (AD (pv 6)) (AR (AD (pv 7)) A7)))))) CM)))
  (Am (B4 (IX (AR (AD (pv 2)) (AR (AD (pv 5)) A7))))))))))))
def Pa:Bz ["found", "many"] ["found", "many"] (An Eh):=Gs
def Kg(T:Txt K mg W):Dh P w K mg base (CXG P w) 2 T.d__law_is_set.f T.d__law_is_set.fd ["found", "many"] (spM K 2 (Dx W)):=by
 refine Bs (k:=1) T.d__law_is_set.F Pa rfl λ_ _ _ _ _ _ hr hu nd=>?_
 exact(AT (Dk (Qv (N7 (J8 (Nk (P8 (c:=.ty "tuple") (cv:=.type "tuple") (λ_ r=>r) RS rfl T.b_isinstance (AD (pv 0)) (Mi rfl T.b_tuple Ik rfl)))) (Ly (J8 (Nk (Vp rfl rfl T.b_all (DL (HY (own:=["place"]) (N':=["place", "·1", "·2"]) rfl (D9 (by kernel_rfl)) (Dv (AD (pv 0))) (λ_ _ _ _ _ _=>(CC 0 (by decide +kernel:(["place", "·1", "·2"]:List Str).Nodup))) (λ_ _ _ _ _ _=>FF) (λ_ _ _ _ _ _=>(Bb (Qp T) (good_none rfl).pass (hr.mono (by decide)) rfl T.d__law_whole.m T.d__law_whole.kp T.d__law_whole.b (AR (AD (pv 0)) A7))))))))))) (Am (B4 IZ)) CM)
  (AT (Dk (Qv (N7 (DK (N0 hu) (En rfl rfl T.b_sorted (AD (pv 0))) (Ol rfl T.b_list (AD (pv 0))) (Cg _)) (Ly (DK (N0 hu) (YK rfl rfl T.b_len rfl T.b_set (AD (pv 0))) (IY rfl T.b_len (AD (pv 0))) (Cg _))))) (Am (B4 IZ)) CM)
  (Am (B4 (Vp rfl rfl T.b_all (DL (HY (own:=["place"]) (N':=["place", "·1", "many"]) rfl (D9 (by kernel_rfl)) (Dv (AD (pv 0))) (λ_ _ _ _ _ _=>(CC 0 (by decide +kernel:(["place", "·1", "many"]:List Str).Nodup))) (λ_ _ _ _ _ _=>FF) (λ_ _ _ _ _ _=>(bA Wb T9 ge_int (AD (pv 0)) (AD (pv 2)))))))))))
def Qj:Bz ["web", "many", "ties"] ["web", "many", "ties"] (An FO):=Gs
def Qq(T:Txt K mg W):Dh P w K mg base (CXG P w) 1 T.d__law_stays.f T.d__law_stays.fd ["web", "many", "ties"] (spM K 3 (KC W)):=by
 refine Bs (k:=0) T.d__law_stays.F Qj rfl λ_ _ _ _ _ _ hr hu nd=>?_
 exact(Am (B4 (L2.Nl (Ks (JA hu) (Hv T.c_Web.cl T.n_Web_places (AD (pv 0)) rfl) (AD (pv 1)) (Cg _)) (P7 (Ks (JA hu) (Hv T.c_Web.cl T.n_Web_ties (AD (pv 0)) rfl) (Hh rfl T.b_tuple (En rfl rfl T.b_sorted (AD (pv 2)))) (Cg _))))))
def ir:Bz ["script", "many", "ties", "web", "nears", "found", "apart", "clubs", "held"] ["script"] (An RF):=Gs
def jZ(T:Txt K mg W):Dh P w K mg base (CXG P w) 67 T.d_law.f T.d_law.fd ["script"] (spM K 1 (bE W)):=by
 refine Bs (k:=66) T.d_law.F ir rfl λ_ _ _ _ _ _ hr hu nd=>?_
 exact(AT (aq (Bb (Pn T) (good_none rfl).pass (hr.mono (by decide)) rfl T.d__law_halves.m T.d__law_halves.kp T.d__law_halves.b (AR (AD (pv 0)) A7)) (Hu rfl (CI (CC 1 nd) (CI (CC 2 nd) GC))))
  (AT (CO 3 nd (e8 T.c_Web.mk' (T7 T) (good_none rfl).pass (hr.mono (by decide)) rfl T.c_Web.m T.d_Web_init.b (AR (AD (pv 1)) (AR (Bb (Pm T) (good_none rfl).pass (hr.mono (by decide)) rfl T.d__law_turned.m T.d__law_turned.kp T.d__law_turned.b (AR (AD (pv 2)) (AR (Bb (KM T) (good_none rfl).pass (hr.mono (by decide)) rfl T.d__law_cell_at.m T.d__law_cell_at.kp T.d__law_cell_at.b (AR (AD (pv 0)) (AR ge_int A7))) A7))) A7))))
  (AT (CO 4 nd (Bb (Qr T) (good_none rfl).pass (hr.mono (by decide)) rfl T.d__law_nears.m T.d__law_nears.kp T.d__law_nears.b (AR (AD (pv 2)) (AR (AD (pv 1)) A7))))
  (AT (CO 5 nd (Bb (IU T) (good_none rfl).pass (hr.mono (by decide)) rfl T.d_apart_and_clubs.m T.d_apart_and_clubs.kp T.d_apart_and_clubs.b (AR (AD (pv 3)) A7)))
  (AT (Dk (Qv (N7 (J8 (Nk (P8 (c:=.ty "tuple") (cv:=.type "tuple") (λ_ r=>r) RS rfl T.b_isinstance (AD (pv 5)) (Mi rfl T.b_tuple Ik rfl)))) (N7 (DK (N0 hu) (IY rfl T.b_len (AD (pv 5))) ge_int (Cg _)) (Ly (J8 (Nk (P8 (c:=.ty "list") (cv:=.type "list") (λ_ r=>r) ab rfl T.b_isinstance (Dl hu (AD (pv 5)) ge_int) (Mi rfl T.b_list Fy rfl)))))))) (Am (B4 IZ)) CM)
  (AT (aq (AD (pv 5)) (Hu rfl (CI (CC 6 nd) (CI (CC 7 nd) GC))))
  (AT (Dk (Qv (N7 (J8 (Ji (Bb (Kg T) (good_none rfl).pass (hr.mono (by decide)) rfl T.d__law_is_set.m T.d__law_is_set.kp T.d__law_is_set.b (AR (AD (pv 6)) (AR (AD (pv 1)) A7))))) (Ly (J8 (Nk (Vp rfl rfl T.b_all (DL (HY (own:=["club"]) (N':=["club", "·1", "many", "·3", "·4", "·5", "·6", "·7", "·8", "·9"]) rfl (D9 (by kernel_rfl)) (Dv (AD (pv 7))) (λ_ _ _ _ _ _=>(CC 0 (by decide +kernel:(["club", "·1", "many", "·3", "·4", "·5", "·6", "·7", "·8", "·9"]:List Str).Nodup))) (λ_ _ _ _ _ _=>FF) (λ_ _ _ _ _ _=>(Bb (Kg T) (good_none rfl).pass (hr.mono (by decide)) rfl T.d__law_is_set.m T.d__law_is_set.kp T.d__law_is_set.b (AR (AD (pv 0)) (AR (AD (pv 2)) A7)))))))))))) (Am (B4 IZ)) CM)
  (AT (Dk (Qv (N7 (Nk (j6 rfl rfl T.b_any (DL (HY (own:=["place", "other"]) (N':=["place", "other", "·2", "·3", "·4", "·5", "·6", "·7", "apart", "·9", "·10"]) rfl (D9 (by kernel_rfl)) (Dv (AD (pv 2))) (λ_ _ _ _ _ _=>(Hu rfl (CI (CC 0 (by decide +kernel:(["place", "other", "·2", "·3", "·4", "·5", "·6", "·7", "apart", "·9", "·10"]:List Str).Nodup)) (CI (CC 1 (by decide +kernel:(["place", "other", "·2", "·3", "·4", "·5", "·6", "·7", "apart", "·9", "·10"]:List Str).Nodup)) GC)))) (λ_ _ _ _ _ _=>FF) (λ_ _ _ _ _ _=>(L2.Nl (aw hu (AD (pv 0)) (AD (pv 8))) (P7 (aw hu (AD (pv 1)) (AD (pv 8)))))))))) (Ly (J8 (Ji (Bb (Lu T) (good_none rfl).pass (hr.mono (by decide)) rfl T.d__law_parts_well.m T.d__law_parts_well.kp T.d__law_parts_well.b (AR (AD (pv 4)) (AR (AD (pv 7)) A7)))))))) (Am (B4 IZ)) CM)
  (AT (Dk (Qv (N7 (DK (N0 hu) (IY rfl T.b_len (AD (pv 7))) (IY rfl T.b_len (AD (pv 6))) (Cg _)) (Ly (DK (N0 hu) (IY rfl T.b_len (AD (pv 6))) (B2 Z3 (AD (pv 1)) (IY rfl T.b_len (Bb (La T) (good_none rfl).pass (hr.mono (by decide)) rfl T.d_most_pairs.m T.d_most_pairs.kp T.d_most_pairs.b (AR (AD (pv 3)) A7)))) (Cg _))))) (Am (B4 IZ)) CM)
  (AT (CO 8 nd (Ol rfl T.b_list (AD (pv 7))))
  (AT (Cw (DA (AD (pv 7)) (IX (AR ge_int A7))))
  (Am (B4 (L2.Nl (Ks (je hu) (Bb (IU T) (good_none rfl).pass (hr.mono (by decide)) rfl T.d_apart_and_clubs.m T.d_apart_and_clubs.kp T.d_apart_and_clubs.b (AR (AD (pv 3)) A7)) (IX (AR (AD (pv 6)) (AR (AD (pv 8)) A7))) (Cg _)) (P7 (Bb (Qq T) (good_none rfl).pass (hr.mono (by decide)) rfl T.d__law_stays.m T.d__law_stays.kp T.d__law_stays.b (AR (AD (pv 3)) (AR (AD (pv 1)) (AR (AD (pv 2)) A7)))))))))))))))))))
end
end M
namespace M
open PySem L2
open Srt (ltL)
def pairD(x:Int×Int):D:=.tup [.int x.1,.int x.2]
def nrm(x:Int×Int):Int×Int:=(if x.2 < x.1 then x.2 else x.1,if x.2 > x.1 then x.2 else x.1)
def Me(x:Int×Int):List Int:=[x.1,x.2]
def Mw(x:Int×Int):List Key:=[.inl x.1,.inl x.2]
def UK{x y:Int×Int}(h:Mw x=Mw y):x=y:=by
 unfold Mw at h;simp at h;exact gF h.1 h.2
def J7:∀ns:List Int,G8 (ns.map D.int)=some ns
 | []=>rfl
 | n :: ns=>by
  rw[A5];unfold G8;rw[J7 ns];rfl
def Pc:∀rs:List (List Int),(∀r∈rs,r≠[])->Kd (rs.map B8)=some rs
 | [],_=>rfl
 | [] :: rs,h=>zX rfl (h [] A1)
 | (n :: ns) :: rs,h=>by
  rw[A5];unfold B8 Kd;rw[J7,show Ir (λr:List Int=>D.tup (r.map D.int)) rs=rs.map B8 from rfl,Pc rs λr hr=>h r (Aj _ hr)]
def PU(rs:List (List Int))(h:∀r∈rs,r≠[]):Jd (rs.map B8)=some ((Gk rs).map B8):=by
 unfold Jd
 cases rs with
 | nil=>simp[G8,Gk]
 | cons r rs=>
  have:G8 ((r :: rs).map B8)=none:=rfl;rw[this,Pc _ h]
def Lk(ns:List Int):Jd (ns.map D.int)=some ((C1 ns).map D.int):=by
 unfold Jd;rw[J7]
def Kk(ps:List (Int×Int)):List (List Key×D):=ps.map λx=>(Mw (nrm x),.bl true)
def aC(ps:List (Int×Int))(x:Int×Int):(A3 (Kk ps) (Mw (nrm x))).isSome=decide (nrm x∈ps.map nrm):=by
 unfold A3 Kk
 induction ps with
 | nil=>rfl
 | cons y ps ih=>
  rw[A5,BV]
  by_cases e:Mw (nrm y)=Mw (nrm x)
  ·rw[wX e]
   simp[UK e]
  ·rw[wY e]
   have e':nrm x≠nrm y:=λz=>e (by rw[z])
   simp only[A5,Aw,e',false_or];exact ih
def aB(ps:List (Int×Int))(x:Int×Int)(h:nrm x∉ps.map nrm):CF (Kk ps) (Mw (nrm x)) (.bl true)=Kk (ps++[x]):=by
 unfold CF;rw[qY]
 ·simp[Kk]
 ·intro z
  obtain⟨y,hy,e⟩:=ER.mp z;obtain⟨a,ha,rfl⟩:=Ag.mp hy;exact h (by rw[<-UK (of_decide_eq_true e)];exact XI ha)
def mL{S:Sto}{n:Nat}{kvs:List (List Key×D)}{x:Int×Int}(h:S[n]?=some (.dT kvs))(neg:Bool):inA neg (pairD x) (.ref n) S=.ok (.bl (if neg then !(A3 kvs (Mw x)).isSome else(A3 kvs (Mw x)).isSome)) S:=by
 show Gq (inD neg (pairD x) (.ref n) S) (Jm neg (pairD x) (.ref n) S)=_
 have e:inD neg (pairD x) (.ref n) S=.bad:=by
  unfold inD Fa;dsimp only;rw[h]
 have e2:LS (.ref n) (pairD x) S=some (A3 kvs (Mw x)):=by
  unfold LS pairD;dsimp only;rw[h];rfl
 rw[e];show Jm neg (pairD x) (.ref n) S=_;unfold Jm;rw[e2]
def bN{mo mi mv:ME}{e:Lo}{S:Sto}{d:Nat}{kvs:List (List Key×D)}{x:Int×Int}{v:D}(hv:mv e S=.ok v S)(ho:mo e S=.ok (.ref d) S)(hi:mi e S=.ok (pairD x) S)(h:S[d]?=some (.dT kvs))(hl:kvs.length < sizeLine) :
  DI mo mi mv e S=.ok (.nx e) (S.set d (.dT (CF kvs (Mw x) v))):=by
 unfold DI;rw[hv];dsimp only[Res.lift];rw[ho];dsimp only[Res.lift];rw[hi];dsimp only[Res.lift]
 have:Qx (.ref d) (pairD x) v S=some (S.set d (.dT (CF kvs (Mw x) v))):=by
  unfold Qx pairD;dsimp only;rw[h];show(if kvs.length < sizeLine then some (S.set d (.dT (CF kvs (Mw x) v)))else none)=_;rw[qX hl]
 rw[this]
def ix0(x:Int×Int)(S:Sto):ixA (pairD x) (.int 0) S=.ok (.int x.1) S:=rfl
def ix1(x:Int×Int)(S:Sto):ixA (pairD x) (.int 1) S=.ok (.int x.2) S:=rfl
def Fit(p:Int)(x:Int×Int):Prop:=(nrm x).1≠(nrm x).2/\0<=(nrm x).1/\(nrm x).2 < p
abbrev kI(W:Wd):MS:=BF (Bj 5 (Fn (AI (mQ N3 (AI (AB 3) (AI (AB 4) Au))) (AI (mQ N4 (AI (AB 3) (AI (AB 4) Au))) Au))))
  (BF (sIf (mB (m2 (eqD false) (m2 ixA (AB 5) (mC (.int 0))) (m2 ixA (AB 5) (mC (.int 1))))) Qm sNx)
  (BF (sIf (mOr (mB (m2 ltD (m2 ixA (AB 5) (mC (.int 0))) (mC (.int 0)))) (mB (m2 geD (m2 ixA (AB 5) (mC (.int 1))) (AB 0)))) Qm sNx)
  (BF (sIf (mB (m2 (inA false) (AB 5) (AB 2))) Qm sNx)
  (DI (AB 2) (AB 5) (mC (.bl true))))))
def Oc{t:MT}{a:MS}{e:Lo}{S:Sto}(h:t e S=.ok false S):sIf t a sNx e S=.ok (.nx e) S:=(EU (a:=a) (b:=sNx) h).trans rfl
def ZQ{W:Wd}{p:Int}{t:D}{n:Nat}{S:Sto}{x:Int×Int}{z5:Option D}{ps:List (Int×Int)}(hn:S[n]?=some (.dT (Kk ps)))(hl:ps.length<=100000)(hf:Fit p x)(f4:nrm x∉ps.map nrm) :
  kI W [sI p,some t,sR n,sI x.1,sI x.2,z5] S=oN [sI p,some t,sR n,sI x.1,sI x.2,some (pairD (nrm x))] (S.set n (.dT (Kk (ps++[x])))):=by
 have e0:Bj 5 (Fn (AI (mQ N3 (AI (AB 3) (AI (AB 4) Au))) (AI (mQ N4 (AI (AB 3) (AI (AB 4) Au))) Au))) [sI p,some t,sR n,sI x.1,sI x.2,z5] S =
   oN [sI p,some t,sR n,sI x.1,sI x.2,some (pairD (nrm x))] S:=
  DG (i:=5) (Kc (ds:=[.int (nrm x).1,.int (nrm x).2]) (BX (VQ (ds:=[.int x.1,.int x.2]) (S1:=S) rfl rfl) (BX (VQ (ds:=[.int x.1,.int x.2]) (S1:=S) rfl rfl) rfl)) (by simp))
 obtain⟨f1,f2,f3⟩:=hf;refine(A9 e0).trans ((A9 (Oc (GR (BO (BO rfl rfl (ix0 _ _)) (BO rfl rfl (ix1 _ _)) (Lz (wY f1)))))).trans ((A9 (Oc ((Lr (GR (BO (BO rfl rfl (ix0 _ _)) rfl (Px (wY (by omega)))))).trans (GR (BO (BO rfl rfl (ix1 _ _)) rfl (j7 (wY (by omega)))))))).trans ((A9 (Oc (GR (BO rfl rfl ?_)))).trans ?_)))
 ·rw[mL hn,aC,wY f4]
  rfl
 ·rw[bN (x:=nrm x) rfl rfl rfl hn (by unfold Kk;rw[AC];exact Ay hl (by decide)),aB _ _ f4]
def YC{m:ME}{e:Lo}{S S1:Sto}{d:D}{xs:List D}(h:m e S=.ok d S1)(hx:Ea d S1=some xs):D7 m e S=.ok (Ea d) S1:=by
 unfold D7;rw[h];dsimp only[Res.bind];rw[hx]
def Fg(p:Int)(ps:List (Int×Int)):Prop:=(∀x∈ps,Fit p x)/\(ps.map nrm).Nodup
def Fg.snoc{p:Int}{ps:List (Int×Int)}{x:Int×Int}:Fg p (ps++[x])↔Fg p ps/\Fit p x/\nrm x∉ps.map nrm:=by
 unfold Fg;rw[A2,B3]
 constructor
 ·rintro⟨h1,h2,h3,h4⟩
  exact⟨⟨λy hy=>h1 y (by simp[hy]),h2⟩,h1 x (by simp),λz=>h4 _ z _ (by simp) rfl⟩
 ·rintro⟨⟨h1,h2⟩,h3,h4⟩
  refine⟨λy hy=>?_,h2,by simp,λa ha b hb e=>?_⟩
  ·rcases Ae.mp hy with hy | hy
   ·exact h1 y hy
   ·rw[AO.mp hy];exact h3
  ·simp at hb
   subst hb;subst e;exact h4 ha
def Fg.take{p:Int}{ps:List (Int×Int)}(h:Fg p ps)(i:Nat):Fg p (ps.take i):=by
 refine⟨λx hx=>h.1 x (WD hx),?_⟩;rw[List.map_take];exact h.2.sublist (Yw _ _)
def take_snoc{α:Type}{l:List α}{i:Nat}{x:α}(h:l[i]?=some x):l.take (i+1)=l.take i++[x]:=by
 rw[Nt,h];rfl
def Sk(W:Wd){p:Int}{d:D}{S:Sto}{ps:List (Int×Int)}(hv:∀S',Keeps S S'->Ea d S'=some (ps.map pairD))(hl:ps.length<=100000)(hf:Fg p ps) :
  ∃z3 z4 z5,GK (D7 (AB 1)) (EC 2 (Ba (tgN 3) (Ba (tgN 4) ET))) (kI W) [sI p,some d,sR S.length,none,none,none] (S++[.dT []])=oN [sI p,some d,sR S.length,z3,z4,z5] (S++[.dT (Kk ps)]):=by
 rw[Et (YC (m:=AB 1) (d:=d) (S1:=S++[.dT []]) rfl (hv _ (Keeps.app _ _)))]
 obtain⟨f,S',h,z3,z4,z5,rfl,rfl⟩:=GP (v:=Ea d) (g:=EC 2 (Ba (tgN 3) (Ba (tgN 4) ET))) (b:=kI W) (xs:=ps.map pairD) (e:=[sI p,some d,sR S.length,none,none,none]) (S:=S++[.dT []]) (λi e S'=>(∃z3 z4 z5,e=[sI p,some d,sR S.length,z3,z4,z5])/\S'=S++[.dT (Kk (ps.take i))]) (λf S'=>∃z3 z4 z5,f=.nx [sI p,some d,sR S.length,z3,z4,z5]/\S'=S++[.dT (Kk ps)]) ⟨⟨none,none,none,rfl⟩,by simp[Kk]⟩ (by rintro i e S' ⟨_,rfl⟩;exact hv _ (Keeps.app _ _))
  (by
   rintro i y e S' hy ⟨⟨z3,z4,z5,rfl⟩,rfl⟩;rw[AN]at hy
   cases hx:ps[i]? with
   | none=>rw[hx]at hy;cases hy
   | some x=>
    rw[hx]at hy;cases hy;have hlt:=(AF.mp hx).1;have af:=hf.take (i+1);rw[take_snoc hx]at af;obtain⟨_,c1,c2⟩:=Fg.snoc.mp af;refine⟨[sI p,some d,sR S.length,sI x.1,sI x.2,z5],_,rfl,_,_,ZQ (W:=W) (p:=p) (t:=d) (z5:=z5) (x:=x) (By S (.dT (Kk (ps.take i)))) (by rw[Cz];omega) c1 c2,⟨_,_,_,rfl⟩,?_⟩;rw[take_snoc hx]
    simp)
  (by
   rintro e S' ⟨⟨z3,z4,z5,rfl⟩,rfl⟩;rw[AC,Cc]
   exact⟨_,_,_,rfl,rfl⟩)
 exact⟨z3,z4,z5,h⟩
def JK(ps:List (Int×Int)):List (List Int):=Gk (ps.map λx=>Me (nrm x))
def Sm(W:Wd){p:Int}{d:D}{S:Sto}{ps:List (Int×Int)}(hv:∀S',Keeps S S'->Ea d S'=some (ps.map pairD))(hl:ps.length<=100000)(hf:Fg p ps) :
  ∃S',Gw W [.int p,d] S=.ok (.tup ((JK ps).map B8)) S'/\Keeps S S':=by
 obtain⟨z3,z4,z5,h1⟩:=Sk W hv hl hf
 ·have hi:HM (.ref S.length) (S++[.dT (Kk ps)])=some ((ps.map λx=>Me (nrm x)).map B8):=by
   unfold HM;dsimp only;rw[By];dsimp only;unfold Kk;rw[Ax,Ax];rfl
  have hs:=FK (m:=AB 2) (e:=[sI p,some d,sR S.length,z3,z4,z5]) (S:=S++[.dT (Kk ps)]) rfl hi (PU _ (by intro r hr;obtain⟨x,_,rfl⟩:=Ag.mp hr;simp[Me]));refine⟨S++[.dT (Kk ps)]++[.lst ((JK ps).map B8)],DJ ?_,(Keeps.app S _).trans (Keeps.app _ _)⟩;refine C0 (A9 (e:=[sI p,some d,none,none,none,none]) (e1:=[sI p,some d,sR S.length,none,none,none]) (S:=S) (S1:=S++[.dT []]) rfl) ?_;refine C0 (A9 h1) ?_;exact Gn (IR hs (CY (By _ _)))
end M
namespace M
open PySem L2
def Bp(ts:List (Int×Int))(x:Nat):List Int:=ts.flatMap λt=>(if t.1=(x:Int)then[t.2]else[])++(if t.2=(x:Int)then[t.1]else[])
def N1(ts:List (Int×Int))(t:Int×Int)(x:Nat):Bp (ts++[t]) x=Bp ts x++((if t.1=(x:Int)then[t.2]else[])++(if t.2=(x:Int)then[t.1]else[])):=by
 unfold Bp;rw[XM];simp
def Fb(p:Nat)(F:Nat->List Int):Sto:=(BA p).map λx=>Ob.lst ((F x).map D.int)
def Dd(k p:Nat):List D:=(BA p).map λx=>D.ref (k+x)
def stN(S:Sto)(p:Nat)(F:Nat->List Int):Sto:=S++Fb p F++[.lst (Dd S.length p)]
def HH(p:Nat)(F:Nat->List Int):(Fb p F).length=p:=by simp[Fb]
def R9(S:Sto)(p:Nat)(F:Nat->List Int):(stN S p F).length=S.length+p+1:=by simp[stN,HH];lia
def II(S:Sto)(p:Nat)(F:Nat->List Int):Keeps S (stN S p F):=(Keeps.app S _).trans (Keeps.app _ _)
def IS(S:Sto)(p:Nat)(F:Nat->List Int):(stN S p F)[S.length+p]?=some (.lst (Dd S.length p)):=by
 have:S.length+p=(S++Fb p F).length:=by simp[HH]
 unfold stN;rw[this];exact By _ _
def Iy(S:Sto){p a:Nat}(F:Nat->List Int)(h:a < p):(stN S p F)[S.length+a]?=some (.lst ((F a).map D.int)):=by
 unfold stN;rw[BN,BK (by lia),Aa (by rw[HH];lia),show S.length+a - S.length=a by lia];unfold Fb;rw[AN,BU h];rfl
def WU(S:Sto){p a:Nat}(F:Nat->List Int)(ys:List Int)(h:a < p):(stN S p F).set (S.length+a) (.lst (ys.map D.int))=stN S p (λx=>if x=a then ys else F x):=by
 apply DN
 intro j
 by_cases e:S.length+a=j
 ·subst e
  rw[Ao (by rw[R9];lia),Iy _ _ h,qX rfl]
 ·rw[AW e]
  by_cases h1:j < S.length
  ·rw[(II S p F).2 j h1,(II S p _).2 j h1]
  by_cases h2:j - S.length < p
  ·have e2:j=S.length+(j - S.length):=by lia
   rw[e2,Iy S F h2,Iy S _ h2,qY (by lia)]
  by_cases h3:j=S.length+p
  ·subst h3
   rw[IS,IS]
  ·rw[BJ (by rw[R9];lia),BJ (by rw[R9];lia)]
def Wi{S:Sto}{p a:Nat}(F:Nat->List Int)(h:a < p):ixA (.ref (S.length+p)) (.int a) (stN S p F)=.ok (.ref (S.length+a)) (stN S p F):=by
 show Gq (ixD _ _ _) _=_;have e1:Fa (.ref (S.length+p)) (stN S p F)=some (Dd S.length p):=CY (IS S p F)
 have e2:atI (Dd S.length p) (a:Int)=some (.ref (S.length+a)):=by
  unfold atI ixN;rw[show(Dd S.length p).length=p by simp[Dd],qX (by lia),qX (by lia)];simp only[Ac,Bx];unfold Dd;rw[AN,BU h];rfl
 have:ixD (.ref (S.length+p)) (.int a) (stN S p F)=.ok (.ref (S.length+a)) (stN S p F):=by
  unfold ixD;rw[e1];dsimp only;rw[e2]
 rw[this];rfl
def ZU(S:Sto):∀p:Nat,S++Fb (p+1) (λ_=>[])=S++Fb p (λ_=>[])++[.lst []]:=λp=>by
 unfold Fb;rw[Ka,A2,BN];rfl
def RI{p:Nat}(hp:p<=60){mp:ME}{e:Lo}{S:Sto}(h0:mp e S=.ok (.int p) S) :
  D4 1 (iR1 (AI mp Au)) (tgN 0) EK (Cq (Cn Au)) e S=.ok (Dd S.length p) (S++Fb p λ_=>[]):=by
 have hi:iR1 (AI mp Au) e S=.ok (D0 (C2 0 p)) S:=by
  have:=Lx (ml:=AI mp Au) (e:=e) (S:=S) (S1:=S) (j:=p) (BX h0 rfl) (by lia) (by lia);simpa using this
 obtain⟨r,S1,q1,e',⟨z,_⟩,rfl,rfl⟩:=M4 (v:=D0 (C2 0 p)) (g:=tgN 0) (c:=EK) (m:=Cq (Cn Au)) (xs:=C2 0 p) (e:=none :: e) (S:=S)
  (λi e' S' acc=>(∃z,e'=z :: e)/\S'=S++Fb i (λ_=>[])/\acc=Dd S.length i)
  ⟨⟨none,rfl⟩,by simp[Fb],rfl⟩ (λ_ _ _ _ _=>rfl)
  (by
   rintro i d e' S' acc hd ⟨⟨z,rfl⟩,rfl,rfl⟩;obtain⟨hi,rfl⟩:=Jf hd;refine⟨by simp[Dd];exact Ay (m:=60) (by lia) (by decide),some (.int (0+i)) :: e,_,rfl,true,_,rfl,.inl ⟨rfl,.ref (S++Fb i λ_=>[]).length,_,rfl,⟨_,rfl⟩,(ZU S i).symm,?_⟩⟩;unfold Dd;rw[Ka,A2,Ad,HH]
   rfl)
 rw[IJ]at q1;exact(LL hi).trans q1
abbrev Rc:MS:=BF (CH (FU (m2 ixA (AB 2) (AB 3)) (AB 4))) (CH (FU (m2 ixA (AB 2) (AB 4)) (AB 3)))
def In(p:Nat)(t:Int×Int):Prop:=0<=t.1/\t.1 < p/\0<=t.2/\t.2 < p/\t.1≠t.2
def RH{p:Nat}{S:Sto}{F:Nat->List Int}{t:Int×Int}{d0 d1:D}(ht:In p t)(hF:∀x,(F x).length < 200000) :
  Rc [some d0,some d1,sR (S.length+p),sI t.1,sI t.2] (stN S p F)=.ok (.nx [some d0,some d1,sR (S.length+p),sI t.1,sI t.2])
   (stN S p λx=>F x++((if t.1=(x:Int)then[t.2]else[])++(if t.2=(x:Int)then[t.1]else[]))):=by
 obtain⟨a,ha⟩:∃a:Nat,t.1=a:=⟨t.1.toNat,by have:=ht.1;lia⟩
 obtain⟨b,hb⟩:∃b:Nat,t.2=b:=⟨t.2.toNat,by have:=ht.2.2.1;lia⟩
 obtain⟨_,h2,_,h4,h5⟩:=ht
 have hab:a≠b:=λe=>h5 (by rw[ha,hb,e])
 rw[ha,hb]
 have hz:∀x,((F x).map D.int).length < sizeLine:=λx=>by rw[AC];exact lA (hF x) (by decide)
 have s1:=Ig (mo:=m2 ixA (AB 2) (AB 3)) (ma:=AB 4) (e:=[some d0,some d1,sR (S.length+p),sI a,sI b]) (S:=stN S p F) (S1:=stN S p F) (S2:=stN S p F) (n:=S.length+a) (y:=.int b) (BO rfl rfl (Wi F (by lia))) (Iy S F (by lia)) rfl (Iy S F (by lia)) (hz a);rw[show(F a).map D.int++[D.int b]=(F a++[(b:Int)]).map D.int by simp,WU S F _ (by lia)]at s1
 have hrow:(stN S p λx=>if x=a then F a++[(b:Int)]else F x)[S.length+b]?=some (.lst ((F b).map D.int)):=by
  rw[Iy S _ (by lia),qY (CB hab)]
 have s2:=Ig (mo:=m2 ixA (AB 2) (AB 4)) (ma:=AB 3) (e:=[some d0,some d1,sR (S.length+p),sI a,sI b]) (S:=stN S p λx=>if x=a then F a++[(b:Int)]else F x) (S1:=stN S p λx=>if x=a then F a++[(b:Int)]else F x) (S2:=stN S p λx=>if x=a then F a++[(b:Int)]else F x) (n:=S.length+b) (y:=.int a) (BO rfl rfl (Wi _ (by lia))) hrow rfl hrow (hz b);rw[show(F b).map D.int++[D.int a]=(F b++[(a:Int)]).map D.int by simp,WU S _ _ (by lia)]at s2;unfold Rc;rw[A9 (DV s1),DV s2]
 congr 2
 funext x
 by_cases e1:x=b
 ·subst e1
  have:¬((a:Int)=(x:Int)):=by lia
  simp[this]
 ·by_cases e2:x=a
  ·subst e2
   have:¬((b:Int)=(x:Int)):=by lia
   simp[e1,this]
  ·have h1:¬((a:Int)=(x:Int)):=by lia
   have h2:¬((b:Int)=(x:Int)):=by lia
   simp[e1,e2,h1,h2]
def Pq(ts:List (Int×Int))(x:Nat):(Bp ts x).length<=2 * ts.length:=by
 unfold Bp
 induction ts with
 | nil=>simp
 | cons t ts ih=>
  rw[Yy,Ad,A8]
  have:((if t.1=(x:Int)then[t.2]else[])++(if t.2=(x:Int)then[t.1]else[])).length<=2:=by split <;> split <;> simp
  lia
def Gm(p:Nat)(ts:List (Int×Int)):List D:=(BA p).map λx=>.tup ((C1 (Bp ts x)).map D.int)
def eN(W:Wd){p:Nat}(hp:p<=60){ts:List (Int×Int)}(ht:∀t∈ts,In p t)(hl:ts.length<=90000)(S:Sto) :
  ∃S',Gu W [.int p,.tup (ts.map pairD)] S=.ok (.tup (Gm p ts)) S'/\Keeps S S':=by
 have a1:=DG (i:=2) (J2 (RI hp (mp:=AB 0) (e:=[sI p,some (.tup (ts.map pairD)),none,none,none]) (S:=S) rfl));have e1:(S++Fb p λ_=>[])++[.lst (Dd S.length p)]=stN S p (Bp []):=rfl
 have e2:(S++Fb p λ_=>[]).length=S.length+p:=by simp[HH]
 rw[e1,e2]at a1
 obtain⟨f,S1,h1,⟨z3,z4,rfl⟩,rfl⟩:=GP (v:=D0 (ts.map pairD)) (g:=EC 2 (Ba (tgN 3) (Ba (tgN 4) ET))) (b:=Rc) (xs:=ts.map pairD) (e:=[sI p,some (.tup (ts.map pairD)),sR (S.length+p),none,none]) (S:=stN S p (Bp []))
  (λi e S'=>(∃z3 z4,e=[sI p,some (.tup (ts.map pairD)),sR (S.length+p),z3,z4])/\S'=stN S p (Bp (ts.take i)))
  (λf S'=>(∃z3 z4,f=.nx [sI p,some (.tup (ts.map pairD)),sR (S.length+p),z3,z4])/\S'=stN S p (Bp ts))
  ⟨⟨none,none,rfl⟩,rfl⟩ (λ_ _ _ _=>rfl)
  (by
   rintro i y e S' hy ⟨⟨z3,z4,rfl⟩,rfl⟩;rw[AN]at hy
   cases hx:ts[i]? with
   | none=>rw[hx]at hy;cases hy
   | some t=>
    rw[hx]at hy;cases hy;refine⟨[sI p,some (.tup (ts.map pairD)),sR (S.length+p),sI t.1,sI t.2],_,rfl,_,_,RH (ht t (BD hx)) (λx=>?_),⟨_,_,rfl⟩,?_⟩
    ·have:=Pq (ts.take i) x
     rw[Cz]at this;exact Ay (At this (Nat.mul_le_mul_left 2 (At (Ow _ _) hl))) (by decide)
    ·rw[take_snoc hx,show Bp (ts.take i++[t])=_ from funext λx=>N1 _ _ x])
  (by
   rintro e S' ⟨⟨z3,z4,rfl⟩,rfl⟩;rw[AC,Cc]
   exact⟨⟨_,_,rfl⟩,rfl⟩)
 have a2:=(Et (g:=EC 2 (Ba (tgN 3) (Ba (tgN 4) ET))) (b:=Rc) (M0 (m:=AB 1) (e:=[sI p,some (.tup (ts.map pairD)),sR (S.length+p),none,none]) (S:=stN S p (Bp [])) (S1:=stN S p (Bp [])) (xs:=ts.map pairD) rfl)).trans h1
 obtain⟨r,S2,q1,e',⟨z,_⟩,K,rfl⟩:=M4 (v:=Ea (.ref (S.length+p))) (g:=tgN 0) (c:=EK) (m:=Fe (Ch (AB 0))) (xs:=Dd S.length p) (e:=[none,sI p,some (.tup (ts.map pairD)),sR (S.length+p),z3,z4]) (S:=stN S p (Bp ts))
  (λi e' S' acc=>(∃z,e'=[z,sI p,some (.tup (ts.map pairD)),sR (S.length+p),z3,z4])/\Keeps (stN S p (Bp ts)) S'/\acc=(BA i).map λx=>.tup ((C1 (Bp ts x)).map D.int))
  ⟨⟨none,rfl⟩,.refl _,rfl⟩ (λi e' S' acc h=>DW (h.2.1.at (IS S p _)))
  (by
   rintro i d e' S' acc hd ⟨⟨z,rfl⟩,K,rfl⟩
   have hi:i < p:=by
    have:=(AF.mp hd).1;simpa[Dd]using this
   unfold Dd at hd;rw[AN,BU hi]at hd;cases hd;have hit:HM (.ref (S.length+i)) S'=some ((Bp ts i).map D.int):=HK (K.at (Iy S _ hi));have hs:=FK (m:=AB 0) (e:=[sR (S.length+i),sI p,some (.tup (ts.map pairD)),sR (S.length+p),z3,z4]) (S:=S') (S1:=S') rfl hit (Lk _);refine⟨by simp;exact Ay (m:=60) (by lia) (by decide),[sR (S.length+i),sI p,some (.tup (ts.map pairD)),sR (S.length+p),z3,z4],_,rfl,true,_,rfl,.inl ⟨rfl,_,_,IR hs (CY (By _ _)),⟨_,rfl⟩,K.trans (Keeps.app _ _),?_⟩⟩;rw[Ka,A2]
   rfl)
 have a3:=(LL (n:=1) (g:=tgN 0) (c:=EK) (m:=Fe (Ch (AB 0))) (Fo (m:=AB 2) (e:=[sI p,some (.tup (ts.map pairD)),sR (S.length+p),z3,z4]) (S:=stN S p (Bp ts)) (S1:=stN S p (Bp ts)) rfl (IS S p _))).trans q1;rw[show(Dd S.length p).length=p by simp[Dd]]at a3;refine⟨S2++[.lst (Gm p ts)],DJ ?_,((II S p _).trans K).trans (Keeps.app _ _)⟩;unfold Kz;refine C0 (A9 a1) ?_;refine C0 (A9 a2) ?_;exact Gn (IR (J2 a3) (CY (By _ _)))
end M
namespace M
open PySem L2
open Srt (ltL)
def toP(r:List Int):Int×Int:=(r.getD 0 0,r.getD 1 0)
def CS(ps:List (Int×Int)):List (Int×Int):=(JK ps).map toP
def PQ{ps:List (Int×Int)}{r:List Int}(h:r∈JK ps):∃x∈ps,r=Me (nrm x):=by
 have:=(Du _).mem_iff.mp h;obtain⟨x,hx,rfl⟩:=Ag.mp this;exact⟨x,hx,rfl⟩
def Xb(ps:List (Int×Int)):(CS ps).map Me=JK ps:=by
 unfold CS;rw[Ax]
 conv=>rhs;rw[<-Oy (JK ps)]
 refine CG λr hr=>?_
 obtain⟨x,_,rfl⟩:=PQ hr;rfl
def PP(ps:List (Int×Int)):(JK ps).map B8=(CS ps).map pairD:=by
 rw[<-Xb,Ax];rfl
def ZN{ps:List (Int×Int)}{t:Int×Int}(h:t∈CS ps):∃x∈ps,t=nrm x:=by
 obtain⟨r,hr,rfl⟩:=Ag.mp h;obtain⟨x,hx,rfl⟩:=PQ hr;exact⟨x,hx,rfl⟩
def NT(ps:List (Int×Int)):(CS ps).Perm (ps.map nrm):=by
 unfold CS JK;have:=(Du (ps.map λx=>Me (nrm x))).map toP;refine this.trans ?_;rw[Ax];exact WG rfl
def jh(x:Int×Int):(nrm x).1<=(nrm x).2:=by
 unfold nrm;dsimp only
 split <;> split <;> lia
def Fit.in{p:Nat}{x:Int×Int}(h:Fit p x):In p (nrm x):=by
 obtain⟨h1,h2,h3⟩:=h;have:=jh x;exact⟨h2,by lia,by lia,h3,h1⟩
structure G0(W:Wd)(S:Sto)(q p:Nat)(ts:List (Int×Int)):Prop where
 at_:∃fs:List (Str×D),S[q]?=some (.ins W.Web fs)/\fs.lookup ("places" : Str)=some (.int p)/\fs.lookup ("ties" : Str)=some (.tup (ts.map pairD))/\fs.lookup ("near_sets" : Str)=some (.tup (Gm p ts))
def G0.keeps{W:Wd}{S S':Sto}{q p:Nat}{ts:List (Int×Int)}(h:G0 W S q p ts)(k:Keeps S S'):G0 W S' q p ts:=by
 obtain⟨fs,h1,h2⟩:=h.at_;exact⟨fs,k.at h1,h2⟩
def G0.places{W:Wd}{S:Sto}{q p:Nat}{ts:List (Int×Int)}(h:G0 W S q p ts){m:ME}{e:Lo}{S0:Sto}(hm:m e S0=.ok (.ref q) S):HJ W.Web "places" m e S0=.ok (.int p) S:=by
 obtain⟨fs,h1,h2,_⟩:=h.at_;exact P9 hm h1 h2
def G0.ties{W:Wd}{S:Sto}{q p:Nat}{ts:List (Int×Int)}(h:G0 W S q p ts){m:ME}{e:Lo}{S0:Sto}(hm:m e S0=.ok (.ref q) S):HJ W.Web "ties" m e S0=.ok (.tup (ts.map pairD)) S:=by
 obtain⟨fs,h1,_,h2,_⟩:=h.at_;exact P9 hm h1 h2
def G0.sets{W:Wd}{S:Sto}{q p:Nat}{ts:List (Int×Int)}(h:G0 W S q p ts){m:ME}{e:Lo}{S0:Sto}(hm:m e S0=.ok (.ref q) S):HJ W.Web "near_sets" m e S0=.ok (.tup (Gm p ts)) S:=by
 obtain⟨fs,h1,_,_,h2⟩:=h.at_;exact P9 hm h1 h2
def lv:¬(("places" : Str) = "ties"):=by decide +kernel
def lw:¬(("places" : Str) = "near_sets"):=by decide +kernel
def lu:¬(("ties" : Str) = "near_sets"):=by decide +kernel
def put2(a b:D):OM "ties" b [(("places" : Str),a)]=([("places",a),("ties",b)]:List (Str×D)):=by
 show(if ("places" : Str) = "ties" then _ else _)=_;rw[qY lv];rfl
def put3(a b c:D):OM "near_sets" c [(("places" : Str),a),("ties",b)]=([("places",a),("ties",b),("near_sets",c)]:List (Str×D)):=by
 show(if ("places" : Str) = "near_sets" then _ else _)=_;rw[qY lw]
 have:OM "near_sets" c [(("ties" : Str),b)]=([("ties",b),("near_sets",c)]:List (Str×D)):=by
  show(if ("ties" : Str) = "near_sets" then _ else _)=_;rw[qY lu];rfl
 rw[this]
def mI(a b c:D):([("places",a),("ties",b),("near_sets",c)]:List (Str×D)).lookup ("places" : Str)=some a:=by
 rw[Cd,show(("places" : Str)=="places")=true by decide +kernel]
def mH(a b c:D):([("places",a),("ties",b),("near_sets",c)]:List (Str×D)).lookup ("near_sets" : Str)=some c:=by
 rw[Cd,show(("near_sets" : Str)=="places")=false by decide +kernel];dsimp only;rw[Cd,show(("near_sets" : Str)=="ties")=false by decide +kernel];dsimp only;rw[Cd,show(("near_sets" : Str)=="near_sets")=true by decide +kernel]
def jk(a b:D):([("places",a),("ties",b)]:List (Str×D)).lookup ("ties" : Str)=some b:=by
 rw[Cd,show(("ties" : Str)=="places")=false by decide +kernel];dsimp only;rw[Cd,show(("ties" : Str)=="ties")=true by decide +kernel]
end M
namespace M
open PySem L2
def Z6{W:Wd}{S:Sto}{q p:Nat}{ts:List (Int×Int)}(hw:G0 W S q p ts){x:Int}(h:0<=x/\x < p):Dq W [.ref q,.int x] S=.ok .non S:=
 VO (n:=2) (mb:=E1 W) (Oc (Kh (b:=true) (GR (aM rfl rfl (Ve (wX h.1)) (hw.places rfl) (Px (wX h.2))))))
def eO{W:Wd}{S:Sto}{q p:Nat}{ts:List (Int×Int)}(hw:G0 W S q p ts){x:Nat}(hx:x < p):Kt W [.ref q,.int x] S=.ok (.tup ((C1 (Bp ts x)).map D.int)) S:=by
 refine DJ ?_;unfold Sr
 have c:BI 2 (Dq W) (AI (AB 0) (AI (AB 1) Au)) [sR q,sI x] S=.ok .non S:=by
  refine(B6 (ds:=[.ref q,.int x]) (S1:=S) rfl rfl).trans ?_;exact Z6 hw ⟨by omega,by omega⟩
 refine C0 (A9 (e:=[sR q,sI x]) (DV c)) ?_;refine Gn (BO (hw.sets rfl) rfl ?_);show Gq (ixD _ _ _) _=_
 have e2:atI (Gm p ts) (x:Int)=some (.tup ((C1 (Bp ts x)).map D.int)):=by
  unfold atI ixN;rw[show(Gm p ts).length=p by simp[Gm],qX (by omega),qX (by omega)];simp only[Ac,Bx];unfold Gm;rw[AN,BU hx];rfl
 have:ixD (.tup (Gm p ts)) (.int x) S=.ok (.tup ((C1 (Bp ts x)).map D.int)) S:=by
  show(match atI (Gm p ts) (x:Int)with | some d=>Res.ok d S | none=>.bad)=_;rw[e2]
 rw[this];rfl
end M
namespace M
open PySem L2
open Srt (ltL)
def W2(W:Wd)(ns:List Int)(k:Nat)(S:Sto):∃h:Int,De W [.fro (ns.map D.int),.int k] S=.ok (.int h) S:=by
 by_cases hk:k < ns.length
 ·refine⟨ns[k],DJ ?_⟩
  unfold Ie;have t:mB (m2 ltD (AB 1) (GN (AB 0))) (DF 2 [.fro (ns.map D.int),.int k]) S=.ok true S:=GR (BO rfl (Ht (d:=.fro (ns.map D.int)) rfl rfl) (Px (wX (by simp;omega))));refine NU (C0 (EU t) ?_);rw[qX rfl];refine Gn (BO rfl rfl (Oh (ds:=ns.map D.int) rfl (by lia) ?_));simp[hk]
 ·refine⟨0,DJ ?_⟩
  unfold Ie;have t:mB (m2 ltD (AB 1) (GN (AB 0))) (DF 2 [.fro (ns.map D.int),.int k]) S=.ok false S:=GR (BO rfl (Ht (d:=.fro (ns.map D.int)) rfl rfl) (Px (wY (by simp;lia))));refine C0 (A9 (C0 (EU t) rfl)) ?_;rfl
def SR{i j:Int}{S:Sto}(h:-1000000000000<=j)(h1:j<=1000000000000):Pr (.int i) (.int j) S=.ok (.int (i * j)) S:=by
 show(if Yg i j then _ else _)=_;rw[qX (.inr ⟨Y1 (by decide) h,Y2 h1 (by decide)⟩)]
def Mq(W:Wd)(c s:Int):∃v:Int,0<=v/\v < 2147483629/\∀S,B5 W [.int c,.int s] S=.ok (.int v) S:=by
 have h0:=QZ ((c % 2147483647+s) * 48271) (show(2147483647:Int)≠0 by decide);have h1:=NN ((c % 2147483647+s) * 48271) (show(0:Int) < 2147483647 by decide);refine⟨(c % 2147483647+s) * 48271 % 2147483647 * ((c % 2147483647+s) * 48271 % 2147483647) % 2147483629,QZ _ (by decide),NN _ (by decide),λS=>DJ ?_⟩;unfold M7
 have s1:Bj 2 (m2 D6 (m2 Pr (m2 Ff (m2 D6 (AB 0) (mC (.int 2147483647))) (AB 1)) (mC (.int 48271))) (mC (.int 2147483647))) (DF 3 [.int c,.int s]) S=oN [sI c,sI s,sI ((c % 2147483647+s) * 48271 % 2147483647)] S:=
  DG (i:=2) (BO (BO (BO (BO rfl rfl (D8 (by decide))) rfl rfl) rfl (SR (by decide) (by decide))) rfl (D8 (by decide)))
 rw[A9 s1]
 generalize (c % 2147483647+s) * 48271 % 2147483647=m at *
 exact Gn (BO (BO rfl rfl (SR (by lia) (by lia))) rfl (D8 (by decide)))
abbrev gl:MS:=BF (Bj 4 (Oe (AB 0) (Pp (m2 Ff (AB 1) (AB 3))) Wc (Pp (mC (.int 24)))))
  (sIf (mB (m2 (eqD true) (AB 4) (Cq (Cn Au)))) (CH (FU (AB 2) (Vd (AB 4)))) sNx)
def im{m:ME}{e:Lo}{S S1:Sto}{n:Nat}{ns:List Int}(h:m e S=.ok (.ref n) S1)(hn:S1[n]?=some (.lst (ns.map D.int))):Vd m e S=.ok (.int (dB ns)) S1:=by
 unfold Vd;rw[h];dsimp only[Res.bind];rw[Km hn];dsimp only;rw[J7]
def Xr{S:Sto}{ns ps:List Int}{n:Nat}{s k:Int}{z4:Option D}(hn:S[n]?=some (.lst (ps.map D.int)))(hl:ps.length<=1000) :
  ∃(S':Sto) (z:Option D) (qs:List Int),gl [sF ns,sI s,sR n,sI k,z4] S=oN [sF ns,sI s,sR n,sI k,z] S'/\S'[n]?=some (.lst (qs.map D.int))/\ps.length<=qs.length/\qs.length<=ps.length+1/\S.length<=S'.length/\∀j,j < S.length->j≠n->S'[j]?=S[j]?:=by
 have hlt:n < S.length:=(AF.mp hn).1
 have s1:Bj 4 (Oe (AB 0) (Pp (m2 Ff (AB 1) (AB 3))) Wc (Pp (mC (.int 24)))) [sF ns,sI s,sR n,sI k,z4] S=oN [sF ns,sI s,sR n,sI k,sR S.length] (S++[.lst ((pickG ns (some (s+k)) none (some 24)).map D.int)]):=by
  refine DG (i:=4) ?_;rw[<-Xs];rfl
 generalize pickG ns (some (s+k)) none (some 24)=cs at s1;have hc:=By S (.lst (cs.map D.int));have K1:Keeps S (S++[.lst (cs.map D.int)]):=Keeps.app _ _
 have e1:(S++[Ob.lst (cs.map D.int)]).length=S.length+1:=by simp
 generalize S++[Ob.lst (cs.map D.int)]=S1 at s1 hc K1 e1
 have t:mB (m2 (eqD true) (AB 4) (Cq (Cn Au))) [sF ns,sI s,sR n,sI k,sR S.length] S1=.ok (!cs.isEmpty) (S1++[.lst []]):=by
  refine GR (BO (S2:=S1++[.lst []]) rfl rfl ?_);rw[kA true ((Keeps.app S1 _).at hc) (By _ _)];simp
 have K2:Keeps S (S1++[.lst []]):=K1.trans (Keeps.app _ _);have hc2:=(Keeps.app S1 [.lst []]).at hc;generalize S1++[Ob.lst []]=S2 at t K2 hc2;have hn2:=K2.at hn;have i1:=EU (a:=CH (FU (AB 2) (Vd (AB 4)))) (b:=sNx) t
 cases hq:cs.isEmpty with
 | true=>
  rw[hq]at i1;refine⟨S2,_,ps,(A9 s1).trans (i1.trans rfl),hn2,AQ _,G2 _,K2.1,λj h1 _=>K2.2 j h1⟩
 | false=>
  rw[hq]at i1;have a1:=Ig (mo:=AB 2) (ma:=Vd (AB 4)) (e:=[sF ns,sI s,sR n,sI k,sR S.length]) (S:=S2) (n:=n) (S1:=S2) (S2:=S2) rfl hn2 (im rfl hc2) hn2 (by rw[AC];exact Ay hl (by decide));refine⟨_,_,ps++[dB cs],(A9 s1).trans (i1.trans (DV a1)),?_,by simp,by simp,by simpa using K2.1,λj h1 h2=>?_⟩
  ·rw[Ao (Ab hlt K2.1),A2]
   rfl
  ·rw[AW (CB h2)]
   exact K2.2 j h1
def db(W:Wd)(ns:List Int)(S:Sto):∃(S':Sto) (ps:List Int),JD W [.fro (ns.map D.int),.int 1] S=.ok (.ref S.length) S'/\Keeps S S'/\S'[S.length]?=some (.lst (ps.map D.int))/\1<=ps.length/\ps.length<=25:=by
 have s1:Bj 2 (Cq (Cn (AI (GN (AB 0)) Au))) (DF 5 [.fro (ns.map D.int),.int 1]) S=oN [sF ns,sI 1,sR S.length,none,none] (S++[.lst ([(ns.length:Int)].map D.int)]):=by
  refine DG (i:=2) (J2 ?_);unfold Cn;rw[BX (r:=Au) (Ht (d:=.fro (ns.map D.int)) (S1:=S) rfl rfl) rfl,AC];rfl
 obtain⟨f,S1,h1,⟨z3,z4,rfl⟩,K,ps,hn,hl1,hl2⟩:=GP (v:=D0 (C2 0 24)) (g:=tgN 3) (b:=gl) (xs:=C2 0 24) (e:=[sF ns,sI 1,sR S.length,none,none]) (S:=S++[.lst ([(ns.length:Int)].map D.int)])
  (λi e S'=>(∃z3 z4,e=[sF ns,sI 1,sR S.length,z3,z4])/\Keeps S S'/\∃ps:List Int,S'[S.length]?=some (.lst (ps.map D.int))/\1<=ps.length/\ps.length<=i+1)
  (λf S'=>(∃z3 z4,f=.nx [sF ns,sI 1,sR S.length,z3,z4])/\Keeps S S'/\∃ps:List Int,S'[S.length]?=some (.lst (ps.map D.int))/\1<=ps.length/\ps.length<=25)
  ⟨⟨none,none,rfl⟩,Keeps.app _ _,[(ns.length:Int)],By _ _,by simp,by simp⟩ (λ_ _ _ _=>rfl)
  (by
   rintro i d e S' hd ⟨⟨z3,z4,rfl⟩,K,ps,hn,h1,h2⟩;obtain⟨hi,rfl⟩:=Jf hd;obtain⟨S2,z,qs,q1,q2,q3,q4,q5,q6⟩:=Xr (S:=S') (ns:=ns) (s:=1) (k:=0+i) (z4:=z4) hn (by lia)
   exact⟨_,_,rfl,_,_,q1,⟨_,_,rfl⟩,⟨At K.1 q5,λj hj=>(q6 j (Ab hj K.1) (by lia)).trans (K.2 j hj)⟩,qs,q2,by lia,by lia⟩)
  (by
   rintro e S' ⟨⟨z3,z4,rfl⟩,K,ps,hn,h1,h2⟩;rw[IJ]at h2
   exact⟨⟨_,_,rfl⟩,K,ps,hn,h1,by omega⟩)
 refine⟨S1,ps,DJ ?_,K,hn,hl1,hl2⟩;unfold OA;rw[A9 s1];refine C0 (A9 ((Et (Lx (j:=24) rfl (by lia) (by lia))).trans h1)) ?_;rfl
end M
namespace M
open PySem L2
def Eu(o j:Nat)(ts:List (Int×Int)):Prop:=(∀x∈ts,0<=x.1/\x.1 < x.2/\(x.2 < o∨x.2=o/\x.1 < j))/\ts.Nodup
def Eu.nil(o j:Nat):Eu o j []:=⟨λ_ h=>zX h Bl,FX⟩
def Eu.skip{o j:Nat}{ts:List (Int×Int)}(h:Eu o j ts):Eu o (j+1) ts:=⟨λx hx=>by
 obtain⟨h1,h2,h3⟩:=h.1 x hx;refine⟨h1,h2,?_⟩
 lia,h.2⟩
def Eu.add{o j:Nat}{ts:List (Int×Int)}(h:Eu o j ts)(hj:j < o):Eu o (j+1) (ts++[((j:Int),(o:Int))]):=by
 refine⟨λx hx=>?_,?_⟩
 ·rcases Ae.mp hx with hx | hx
  ·exact h.skip.1 x hx
  ·rw[AO.mp hx]
   dsimp only
   lia
 ·rw[B3]
  refine⟨h.2,by simp,λx hx y hy e=>?_⟩;rw[AO.mp hy]at e;subst e;have:=(h.1 _ hx).2.2;dsimp only at this
  lia
def Eu.next{o:Nat}{ts:List (Int×Int)}(h:Eu o o ts):Eu (o+1) 0 ts:=⟨λx hx=>by
 obtain⟨h1,h2,h3⟩:=h.1 x hx;refine⟨h1,h2,?_⟩
 lia,h.2⟩
def Z4{x:Int×Int}(h:x.1 < x.2):nrm x=x:=by
 unfold nrm;rw[qY (by lia),qX (by omega)]
def Eu.nrm{o j:Nat}{ts:List (Int×Int)}(h:Eu o j ts):ts.map M.nrm=ts:=by
 conv=>rhs;rw[<-Oy ts]
 exact CG λx hx=>Z4 (h.1 x hx).2.1
def Eu.fit{p:Nat}{ts:List (Int×Int)}(h:Eu p 0 ts):Fg p ts:=by
 refine⟨λx hx=>?_,by rw[h.nrm];exact h.2⟩;obtain⟨h1,h2,h3⟩:=h.1 x hx;unfold Fit;rw[Z4 h2]
 lia
def Oq(S:Sto)(o o':Ob):(S++[o]).set S.length o'=S++[o']:=by simp
abbrev W4(W:Wd):MS:=BF (Bj 7 (m2 ixA (AB 0) (m2 D6 (AB 4) (GN (AB 0)))))
  (BF (Bj 4 (m2 Ff (AB 4) (mC (.int 1))))
  (sIf (mB (m2 ltD (m2 D6 (BI 2 (B5 W) (AI (AB 7) (AI (m2 Ff (m2 Pr (mC (.int 7)) (AB 6)) (m2 Pr (mC (.int 61)) (AB 5))) Au))) (mC (.int 6))) (AB 2))) (CH (FU (AB 3) (Fn (AI (AB 6) (AI (AB 5) Au))))) sNx))
def Xc(W:Wd){S:Sto}{a:Nat}{pool:List Int}{d1:D}{th at_:Int}{o j:Nat}{z7:Option D}{ts:List (Int×Int)}(ha:S[a]?=some (.lst (pool.map D.int)))(hp:1<=pool.length)(ho:o<=1000)(hj:j < o)(hu:Eu o j ts)(hl:ts.length<=90000) :
  ∃(c:Int) (qs:List (Int×Int)),W4 W [sR a,some d1,sI th,sR S.length,sI at_,sI o,sI j,z7] (S++[.lst (ts.map pairD)])=oN [sR a,some d1,sI th,sR S.length,sI (at_+1),sI o,sI j,sI c] (S++[.lst (qs.map pairD)])/\Eu o (j+1) qs/\qs.length<=ts.length+1:=by
 have ha':=(Keeps.app S [.lst (ts.map pairD)]).at ha;have h0:=QZ at_ (show(pool.length:Int)≠0 by lia);have h1:=NN at_ (show(0:Int) < pool.length by lia)
 have hlt:(at_ % pool.length).toNat < pool.length:=by lia
 have s1:Bj 7 (m2 ixA (AB 0) (m2 D6 (AB 4) (GN (AB 0)))) [sR a,some d1,sI th,sR S.length,sI at_,sI o,sI j,z7] (S++[.lst (ts.map pairD)])=.ok (.nx [sR a,some d1,sI th,sR S.length,sI at_,sI o,sI j,some (.int pool[(at_ % pool.length).toNat])]) (S++[.lst (ts.map pairD)]):=by
  refine DG (i:=7) (BO rfl (BO rfl (Ht (d:=.ref a) rfl (CY ha')) (D8 (by rw[AC];lia))) (aY ha' (by rw[AC];exact h0) ?_));rw[AC,AN,BR hlt];rfl
 generalize pool[(at_ % pool.length).toNat]=c at s1;have s2:Bj 4 (m2 Ff (AB 4) (mC (.int 1))) [sR a,some d1,sI th,sR S.length,sI at_,sI o,sI j,sI c] (S++[.lst (ts.map pairD)])=oN [sR a,some d1,sI th,sR S.length,sI (at_+1),sI o,sI j,sI c] (S++[.lst (ts.map pairD)]):=rfl;obtain⟨v,_,_,hv⟩:=Mq W c (7 * j+61 * o)
 have t:mB (m2 ltD (m2 D6 (BI 2 (B5 W) (AI (AB 7) (AI (m2 Ff (m2 Pr (mC (.int 7)) (AB 6)) (m2 Pr (mC (.int 61)) (AB 5))) Au))) (mC (.int 6))) (AB 2)) [sR a,some d1,sI th,sR S.length,sI (at_+1),sI o,sI j,sI c] (S++[.lst (ts.map pairD)])=.ok (decide (v % 6 < th)) (S++[.lst (ts.map pairD)]):=
  GR (BO (BO ((B6 (ds:=[.int c,.int (7 * j+61 * o)]) (S1:=S++[.lst (ts.map pairD)]) (BX rfl (BX (BO (BO rfl rfl (SR (by lia) (by lia))) (BO rfl rfl (SR (by lia) (by lia))) rfl) rfl)) rfl).trans (hv _)) rfl (D8 (by decide))) rfl (Px rfl))
 have i1:=EU (a:=CH (FU (AB 3) (Fn (AI (AB 6) (AI (AB 5) Au))))) (b:=sNx) t
 by_cases c0:v % 6 < th
 ·rw[wX c0,qX rfl]at i1
  have a1:=Ig (mo:=AB 3) (ma:=Fn (AI (AB 6) (AI (AB 5) Au))) (e:=[sR a,some d1,sI th,sR S.length,sI (at_+1),sI o,sI j,sI c]) (S:=S++[.lst (ts.map pairD)]) (n:=S.length) (S1:=S++[.lst (ts.map pairD)]) (S2:=S++[.lst (ts.map pairD)]) (y:=pairD ((j:Int),(o:Int))) rfl (By _ _) (Kc (ds:=[.int j,.int o]) rfl (by simp)) (By _ _) (by rw[AC];exact Ay hl (by decide));rw[Oq,show ts.map pairD++[pairD ((j:Int),(o:Int))]=(ts++[((j:Int),(o:Int))]).map pairD by simp]at a1;exact⟨c,_,((A9 s1).trans (A9 s2)).trans (i1.trans (DV a1)),hu.add hj,by simp⟩
 ·rw[wY c0,qY AZ]at i1
  exact⟨c,ts,((A9 s1).trans (A9 s2)).trans (i1.trans rfl),hu.skip,by lia⟩
def ZP(W:Wd){S:Sto}{a:Nat}{pool:List Int}{d1:D}{th at_:Int}{o:Nat}{z6 z7:Option D}{ts:List (Int×Int)}(ha:S[a]?=some (.lst (pool.map D.int)))(hp:1<=pool.length)(ho:o<=1000)(hu:Eu o 0 ts)(hl:ts.length<=80000) :
  ∃(at':Int) (y6 y7:Option D) (qs:List (Int×Int)),GK (iR1 (AI (AB 5) Au)) (tgN 6) (W4 W) [sR a,some d1,sI th,sR S.length,sI at_,sI o,z6,z7] (S++[.lst (ts.map pairD)])=oN [sR a,some d1,sI th,sR S.length,sI at',sI o,y6,y7] (S++[.lst (qs.map pairD)])/\Eu (o+1) 0 qs/\qs.length<=ts.length+o:=by
 obtain⟨f,S1,h1,at',y6,y7,qs,rfl,rfl,q1,q2⟩:=GP (v:=D0 (C2 0 o)) (g:=tgN 6) (b:=W4 W) (xs:=C2 0 o) (e:=[sR a,some d1,sI th,sR S.length,sI at_,sI o,z6,z7]) (S:=S++[.lst (ts.map pairD)])
  (λi e S'=>∃(at':Int) (y6 y7:Option D) (qs:List (Int×Int)),e=[sR a,some d1,sI th,sR S.length,sI at',sI o,y6,y7]/\S'=S++[.lst (qs.map pairD)]/\Eu o i qs/\qs.length<=ts.length+i)
  (λf S'=>∃(at':Int) (y6 y7:Option D) (qs:List (Int×Int)),f=.nx [sR a,some d1,sI th,sR S.length,sI at',sI o,y6,y7]/\S'=S++[.lst (qs.map pairD)]/\Eu o o qs/\qs.length<=ts.length+o)
  ⟨at_,z6,z7,ts,rfl,rfl,hu,AQ _⟩ (λ_ _ _ _=>rfl)
  (by
   rintro i d e S' hd ⟨at',y6,y7,qs,rfl,rfl,q1,q2⟩;obtain⟨hi,rfl⟩:=Jf hd;obtain⟨c,rs,k1,k2,k3⟩:=Xc W (d1:=d1) (th:=th) (at_:=at') (z7:=y7) ha hp ho hi q1 (by lia);refine⟨[sR a,some d1,sI th,sR S.length,sI at',sI o,sI i,y7],_,?_,_,_,k1,_,_,_,rs,rfl,rfl,k2,by lia⟩;show Res.ok [sR a,some d1,sI th,sR S.length,sI at',sI o,sI (0+(i:Int)),y7] _=_
   rw[OI])
  (by
   rintro e S' ⟨at',y6,y7,qs,rfl,rfl,q1,q2⟩;rw[IJ]at q1 q2
   exact⟨_,_,_,qs,rfl,rfl,q1,q2⟩)
 have hi:iR1 (AI (AB 5) Au) [sR a,some d1,sI th,sR S.length,sI at_,sI o,z6,z7] (S++[.lst (ts.map pairD)])=.ok (D0 (C2 0 o)) (S++[.lst (ts.map pairD)]):=by
  have:=Lx (ml:=AI (AB 5) Au) (e:=[sR a,some d1,sI th,sR S.length,sI at_,sI o,z6,z7]) (S:=S++[.lst (ts.map pairD)]) (S1:=S++[.lst (ts.map pairD)]) (j:=o) rfl (by lia) (by lia);simpa using this
 exact⟨at',y6,y7,qs,(Et hi).trans h1,q1.next,q2⟩
def UH(W:Wd){S:Sto}{a m:Nat}{pool:List Int}(th:Int)(ha:S[a]?=some (.lst (pool.map D.int)))(hp:1<=pool.length)(hm1:1<=m)(hm:m<=60) :
  ∃ts:List (Int×Int),Ku W [.ref a,.int m,.int th] S=.ok (.ref S.length) (S++[.lst (ts.map pairD)])/\Eu m 0 ts/\ts.length<=3600:=by
 obtain⟨f,S1,h1,at',y5,y6,y7,qs,rfl,rfl,q1,q2⟩:=GP (v:=D0 (C2 1 (m - 1))) (g:=tgN 5) (b:=GK (iR1 (AI (AB 5) Au)) (tgN 6) (W4 W)) (xs:=C2 1 (m - 1)) (e:=[sR a,sI m,sI th,sR S.length,sI 0,none,none,none]) (S:=S++[.lst []])
  (λi e S'=>∃(at':Int) (y5 y6 y7:Option D) (qs:List (Int×Int)),e=[sR a,sI m,sI th,sR S.length,sI at',y5,y6,y7]/\S'=S++[.lst (qs.map pairD)]/\Eu (1+i) 0 qs/\qs.length<=60 * i)
  (λf S'=>∃(at':Int) (y5 y6 y7:Option D) (qs:List (Int×Int)),f=.nx [sR a,sI m,sI th,sR S.length,sI at',y5,y6,y7]/\S'=S++[.lst (qs.map pairD)]/\Eu m 0 qs/\qs.length<=3600)
  ⟨0,none,none,none,[],rfl,rfl,Eu.nil _ _,by simp⟩ (λ_ _ _ _=>rfl)
  (by
   rintro i d e S' hd ⟨at',y5,y6,y7,qs,rfl,rfl,q1,q2⟩;obtain⟨hi,rfl⟩:=Jf hd;obtain⟨at2,w6,w7,rs,k1,k2,k3⟩:=ZP W (d1:=.int m) (th:=th) (at_:=at') (o:=1+i) (z6:=y6) (z7:=y7) ha hp (by lia) q1 (by lia);refine⟨[sR a,sI m,sI th,sR S.length,sI at',sI ((1+i:Nat):Int),y6,y7],_,?_,_,_,k1,_,_,_,_,rs,rfl,rfl,k2,by lia⟩;show Res.ok [sR a,sI m,sI th,sR S.length,sI at',sI (1+(i:Int)),y6,y7] _=_;rw[gK]
   rfl)
  (by
   rintro e S' ⟨at',y5,y6,y7,qs,rfl,rfl,q1,q2⟩;rw[IJ]at q1 q2;rw[show 1+(m - 1)=m by lia]at q1
   exact⟨_,_,_,_,qs,rfl,rfl,q1,by lia⟩)
 have hi:iR2 (AI (mC (.int 1)) (AI (AB 1) Au)) [sR a,sI m,sI th,sR S.length,sI 0,none,none,none] (S++[.lst []])=.ok (D0 (C2 1 (m - 1))) (S++[.lst []]):=by
  have:=jt (ml:=AI (mC (.int 1)) (AI (AB 1) Au)) (e:=[sR a,sI m,sI th,sR S.length,sI 0,none,none,none]) (S:=S++[.lst []]) (S1:=S++[.lst []]) (i:=1) (j:=m) rfl (by lia) (by lia) (by lia) (by lia);rw[this,show((m:Int) - 1).toNat=m - 1 by lia]
 refine⟨qs,DJ ?_,q1,q2⟩;unfold N9;refine C0 (A9 (e:=DF 8 [.ref a,.int m,.int th]) (e1:=[sR a,sI m,sI th,sR S.length,none,none,none,none]) (S1:=S++[.lst []]) rfl) ?_;refine C0 (A9 (e1:=[sR a,sI m,sI th,sR S.length,sI 0,none,none,none]) (S1:=S++[.lst []]) rfl) ?_;refine C0 (A9 ((Et hi).trans h1)) ?_;rfl
end M
namespace M
open PySem L2
open Srt (ltL)
def Z5(x:Int×Int):nrm (x.2,x.1)=nrm x:=by
 unfold nrm;dsimp only
 congr 1
 ·split <;> split <;> lia
 ·split <;> split <;> lia
def iw{mo:ME}{e:Lo}{S S1:Sto}{n:Nat}{xs:List D}(h:mo e S=.ok (.ref n) S1)(hn:S1[n]?=some (.lst xs)):aF mo e S=.ok .non (S1.set n (.lst xs.reverse)):=by
 unfold aF;rw[h];dsimp only[Res.bind]
 have:atL (.ref n) S1=some (n,xs):=by unfold atL;dsimp only;rw[hn]
 rw[this]
abbrev bV(W:Wd):MS:=sIf (mB (m2 (eqD false) (m2 D6 (BI 2 (B5 W) (AI (AB 1) (AI (AB 3) Au))) (mC (.int 2))) (mC (.int 0)))) (CH (FU (AB 2) (m2 ixA (AB 0) (AB 3)))) (CH (FU (AB 2) (Fn (AI (m2 ixA (m2 ixA (AB 0) (AB 3)) (mC (.int 1))) (AI (m2 ixA (m2 ixA (AB 0) (AB 3)) (mC (.int 0))) Au)))))
def XY(W:Wd){S:Sto}{t i:Nat}{c:Int}{ts us:List (Int×Int)}{x:Int×Int}(ht:S[t]?=some (.lst (ts.map pairD)))(hx:ts[i]?=some x)(hl:us.length<=90000) :
  ∃y:Int×Int,nrm y=nrm x/\bV W [sR t,sI c,sR S.length,sI i] (S++[.lst (us.map pairD)])=oN [sR t,sI c,sR S.length,sI i] (S++[.lst ((us++[y]).map pairD)]):=by
 have ht':=(Keeps.app S [.lst (us.map pairD)]).at ht;obtain⟨v,_,_,hv⟩:=Mq W c i
 have tt:mB (m2 (eqD false) (m2 D6 (BI 2 (B5 W) (AI (AB 1) (AI (AB 3) Au))) (mC (.int 2))) (mC (.int 0))) [sR t,sI c,sR S.length,sI i] (S++[.lst (us.map pairD)])=.ok (decide (v % 2=0)) (S++[.lst (us.map pairD)]):=
  GR (BO (BO ((B6 (ds:=[.int c,.int i]) (S1:=S++[.lst (us.map pairD)]) rfl rfl).trans (hv _)) rfl (D8 (by decide))) rfl (Lz rfl))
 have gx:m2 ixA (AB 0) (AB 3) [sR t,sI c,sR S.length,sI i] (S++[.lst (us.map pairD)])=.ok (pairD x) (S++[.lst (us.map pairD)]):=BO rfl rfl (aY ht' (by lia) (by rw[AN,Bx,hx];rfl));have i1:=EU (a:=CH (FU (AB 2) (m2 ixA (AB 0) (AB 3)))) (b:=CH (FU (AB 2) (Fn (AI (m2 ixA (m2 ixA (AB 0) (AB 3)) (mC (.int 1))) (AI (m2 ixA (m2 ixA (AB 0) (AB 3)) (mC (.int 0))) Au))))) tt
 have hz:(us.map pairD).length < sizeLine:=by rw[AC];exact Ay hl (by decide)
 by_cases c0:v % 2=0
 ·rw[wX c0,qX rfl]at i1
  have a1:=Ig (mo:=AB 2) (ma:=m2 ixA (AB 0) (AB 3)) (e:=[sR t,sI c,sR S.length,sI i]) (S:=S++[.lst (us.map pairD)]) (n:=S.length) (S1:=S++[.lst (us.map pairD)]) (S2:=S++[.lst (us.map pairD)]) rfl (By _ _) gx (By _ _) hz;rw[Oq,show us.map pairD++[pairD x]=(us++[x]).map pairD by simp]at a1;exact⟨x,rfl,i1.trans (DV a1)⟩
 ·rw[wY c0,qY AZ]at i1
  have a1:=Ig (mo:=AB 2) (ma:=Fn (AI (m2 ixA (m2 ixA (AB 0) (AB 3)) (mC (.int 1))) (AI (m2 ixA (m2 ixA (AB 0) (AB 3)) (mC (.int 0))) Au))) (e:=[sR t,sI c,sR S.length,sI i]) (S:=S++[.lst (us.map pairD)]) (n:=S.length) (S1:=S++[.lst (us.map pairD)]) (S2:=S++[.lst (us.map pairD)]) (y:=pairD (x.2,x.1)) rfl (By _ _) (Kc (ds:=[.int x.2,.int x.1]) (BX (BO gx rfl (ix1 _ _)) (BX (BO gx rfl (ix0 _ _)) rfl)) (by simp)) (By _ _) hz;rw[Oq,show us.map pairD++[pairD (x.2,x.1)]=(us++[(x.2,x.1)]).map pairD by simp]at a1;exact⟨(x.2,x.1),Z5 x,i1.trans (DV a1)⟩
def XX(W:Wd){S:Sto}{t:Nat}{ts:List (Int×Int)}(c:Int)(ht:S[t]?=some (.lst (ts.map pairD)))(hl:ts.length<=80000) :
  ∃us:List (Int×Int),Dw W [.ref t,.int c] S=.ok (.ref S.length) (S++[.lst (us.map pairD)])/\(us.map nrm).Perm (ts.map nrm)/\us.length=ts.length:=by
 obtain⟨f,S1,h1,z3,us,rfl,rfl,q1,q2⟩:=GP (v:=D0 (C2 0 ts.length)) (g:=tgN 3) (b:=bV W) (xs:=C2 0 ts.length) (e:=[sR t,sI c,sR S.length,none]) (S:=S++[.lst []])
  (λi e S'=>∃(z3:Option D) (us:List (Int×Int)),e=[sR t,sI c,sR S.length,z3]/\S'=S++[.lst (us.map pairD)]/\us.map nrm=(ts.take i).map nrm/\us.length=i)
  (λf S'=>∃(z3:Option D) (us:List (Int×Int)),f=.nx [sR t,sI c,sR S.length,z3]/\S'=S++[.lst (us.map pairD)]/\us.map nrm=ts.map nrm/\us.length=ts.length)
  ⟨none,[],rfl,rfl,rfl,rfl⟩ (λ_ _ _ _=>rfl)
  (by
   rintro i d e S' hd ⟨z3,us,rfl,rfl,q1,q2⟩;obtain⟨hi,rfl⟩:=Jf hd;have hx:ts[i]?=some ts[i]:=BR hi;obtain⟨y,k1,k2⟩:=XY W (c:=c) (us:=us) ht hx (by lia);refine⟨[sR t,sI c,sR S.length,sI i],_,?_,_,_,k2,_,us++[y],rfl,rfl,?_,by simp[q2]⟩
   ·show Res.ok ([sR t,sI c,sR S.length,sI (0+(i:Int))]:Lo) _=_
    rw[OI]
   ·rw[take_snoc hx,A2,A2,q1]
    simp[k1])
  (by
   rintro e S' ⟨z3,us,rfl,rfl,q1,q2⟩;rw[IJ]at q1 q2;rw[Cc]at q1
   exact⟨_,us,rfl,rfl,q1,q2⟩)
 have hi:iR1 (AI (GN (AB 0)) Au) [sR t,sI c,sR S.length,none] (S++[.lst []])=.ok (D0 (C2 0 ts.length)) (S++[.lst []]):=by
  have:=Lx (ml:=AI (GN (AB 0)) Au) (e:=[sR t,sI c,sR S.length,none]) (S:=S++[.lst []]) (S1:=S++[.lst []]) (j:=((ts.map pairD).length:Nat)) (BX (Ht (d:=.ref t) rfl (CY ((Keeps.app S _).at ht))) rfl) (by lia) (by rw[AC];lia);rw[AC]at this;simpa using this
 have e0:Dw W [.ref t,.int c] S=EY 4 (Hb W) [.ref t,.int c] S:=rfl
 have b2:∀(b:MS),BF (Bj 2 (Cq (Cn Au))) (BF (GK (iR1 (AI (GN (AB 0)) Au)) (tgN 3) (bV W)) b) (DF 4 [.ref t,.int c]) S=b [sR t,sI c,sR S.length,z3] (S++[.lst (us.map pairD)]):=λb=>by
  refine C0 (A9 (e1:=[sR t,sI c,sR S.length,none]) (S1:=S++[.lst []]) rfl) ?_;exact A9 ((Et hi).trans h1)
 have tt:mB (m2 (eqD false) (m2 D6 (AB 1) (mC (.int 2))) (mC (.int 1))) [sR t,sI c,sR S.length,z3] (S++[.lst (us.map pairD)])=.ok (decide (c % 2=1)) (S++[.lst (us.map pairD)]):=GR (BO (BO rfl rfl (D8 (by decide))) rfl (Lz rfl));have i1:=EU (a:=CH (aF (AB 2))) (b:=sNx) tt
 by_cases c0:c % 2=1
 ·rw[wX c0,qX rfl]at i1
  have r1:=iw (mo:=AB 2) (e:=[sR t,sI c,sR S.length,z3]) (S:=S++[.lst (us.map pairD)]) rfl (By _ _);rw[Oq,<-bh]at r1;refine⟨us.reverse,DJ ?_,?_,by rw[XJ];exact q2⟩
  ·unfold Hb
   rw[b2];refine C0 (A9 (i1.trans (DV r1))) ?_;rfl
  ·rw[bh,q1]
   exact List.reverse_perm _
 ·rw[wY c0,qY AZ]at i1
  refine⟨us,DJ ?_,by rw[q1],q2⟩;unfold Hb;rw[b2];refine C0 (A9 (i1.trans rfl)) ?_;rfl
def ZZ{l l':List (List Int)}(h:l.Perm l'):Gk l=Gk l':=RD ((Du l).trans (h.trans (Du l').symm)) (MZ l) (MZ l')
def ck{ps qs:List (Int×Int)}(h:(ps.map nrm).Perm (qs.map nrm)):CS ps=CS qs:=by
 unfold CS JK;have:=h.map Me;rw[Ax,Ax]at this;rw[show(λx=>Me (nrm x))=Me∘nrm from rfl,ZZ this]
def Fg.of{p:Int}{ps qs:List (Int×Int)}(h:(ps.map nrm).Perm (qs.map nrm))(f:Fg p qs):Fg p ps:=by
 refine⟨λx hx=>?_,h.nodup_iff.mpr f.2⟩;obtain⟨y,hy,e⟩:=Ag.mp (h.mem_iff.mp (XI hx));have:=f.1 y hy;unfold Fit at this ⊢;rw[<-e];exact this
def fH{ds:List D}(hf:∀d∈ds,W8 d)(neg:Bool)(S:Sto):eqD neg (.tup ds) (.tup ds) S=.ok (.bl (!neg)) S:=by
 unfold eqD
 have:eqB (.tup ds) (.tup ds) S=some true:=by
  show eqL (eqP 7) ds ds=some true;exact US 6 ds hf
 rw[this]
 cases neg <;> rfl
def VW(ts:List (Int×Int)):∀d∈ts.map pairD,W8 d:=λd hd=>by
 obtain⟨x,_,rfl⟩:=Ag.mp hd;exact⟨[x.1,x.2],rfl⟩
def ZT(W:Wd){S:Sto}{q m t:Nat}{ts:List (Int×Int)}(hw:G0 W S q m (CS ts))(ht:S[t]?=some (.lst (ts.map pairD)))(hn:ts.map nrm=ts):∃S',KC W [.ref q,.int m,.ref t] S=.ok (.bl true) S'/\Keeps S S':=by
 have hi:HM (.ref t) S=some ((ts.map Me).map B8):=by
  rw[HK ht,Ax];rfl
 have hs:=FK (m:=AB 2) (e:=[sR q,sI m,sR t]) (S:=S) rfl hi (PU _ (by intro r hr;obtain⟨x,_,rfl⟩:=Ag.mp hr;simp[Me]))
 have e1:(Gk (ts.map Me)).map B8=(CS ts).map pairD:=by
  rw[<-PP];unfold JK;rw[show(λx=>Me (nrm x))=Me∘nrm from rfl,<-Ax,hn]
 rw[e1]at hs;have tt:=IR hs (CY (By _ _));refine⟨S++[.lst ((CS ts).map pairD)],DJ ?_,Keeps.app _ _⟩;unfold M5;refine Gn ?_;unfold JB;rw[BO (hw.places rfl) rfl (Lz (wX rfl))];dsimp only[Res.bind];exact BO (hw.ties rfl) tt (fH (VW _) false _)
end M
namespace M
open PySem L2
def ZY{l l':List Int}(h:l.Perm l'):C1 l=C1 l':=
 (((Dc l).trans h).trans (Dc l').symm).eq_of_pairwise (λa b _ _ h1 h2=>IM h1 h2) (IT l) (IT l')
def YO{l l':List (Int×Int)}(h:l.Perm l')(x:Nat):(Bp l x).Perm (Bp l' x):=QO _ h
def nr(ts:List (Int×Int))(x:Nat):List Int:=C1 (Bp ts x)
def eK{o:Nat}{ts:List (Int×Int)}(hu:Eu o 0 ts)(x:Nat):nr (CS ts) x=nr ts x:=by
 have:=NT ts;rw[hu.nrm]at this;exact ZY (YO this x)
def Nc{ts:List (Int×Int)}{x:Nat}{z:Int}:z∈nr ts x↔((x:Int),z)∈ts∨(z,(x:Int))∈ts:=by
 unfold nr;rw[(Dc _).mem_iff];unfold Bp;rw[OV]
 constructor
 ·rintro⟨t,ht,h⟩
  rcases Ae.mp h with h | h
  ·split at h
   ·rename_i e
    rw[AO.mp h,<-e];exact .inl ht
   ·cases h
  ·split at h
   ·rename_i e
    rw[AO.mp h,<-e];exact .inr ht
   ·cases h
 ·rintro(h | h)
  ·exact⟨_,h,Az _ (by simp)⟩
  ·exact⟨_,h,A4 _ (by simp)⟩
def eM{ts:List (Int×Int)}{x y:Nat}:(y:Int)∈nr ts x↔(x:Int)∈nr ts y:=by
 rw[Nc,Nc];exact Or.comm
def gb{o x:Nat}{ts:List (Int×Int)}(hu:Eu o 0 ts){z:Int}(h:z∈nr ts x):0<=z/\z < o:=by
 rcases Nc.mp h with h | h
 ·obtain⟨h1,h2,h3⟩:=hu.1 _ h
  dsimp only at h1 h2 h3
  lia
 ·obtain⟨h1,h2,h3⟩:=hu.1 _ h
  dsimp only at h1 h2 h3
  lia
def NB(S:Sto)(n o:Nat)(ts:List (Int×Int)):Prop:=∃rs:List Nat,S[n]?=some (.lst (rs.map D.ref))/\rs.length=o/\∀x,x < o->∃r,rs[x]?=some r/\S[r]?=some (.lst ((nr ts x).map D.int))
def NB.keeps{S S':Sto}{n o:Nat}{ts:List (Int×Int)}(h:NB S n o ts)(k:Keeps S S'):NB S' n o ts:=by
 obtain⟨rs,h1,h2,h3⟩:=h
 exact⟨rs,k.at h1,h2,λx hx=>by
  obtain⟨r,q1,q2⟩:=h3 x hx
  exact⟨r,q1,k.at q2⟩⟩
def Z7(W:Wd){S:Sto}{t o:Nat}{ts:List (Int×Int)}(ht:S[t]?=some (.lst (ts.map pairD)))(hu:Eu o 0 ts)(ho:o<=60)(hl:ts.length<=40000) :
  ∃n S',IE W [.ref t,.int o] S=.ok (.ref n) S'/\Keeps S S'/\NB S' n o ts:=by
 have a1:=DG (i:=2) (J2 (RI ho (mp:=AB 1) (e:=[sR t,sI o,none,none,none]) (S:=S) rfl));have e1:(S++Fb o λ_=>[])++[.lst (Dd S.length o)]=stN S o (Bp []):=rfl
 have e2:(S++Fb o λ_=>[]).length=S.length+o:=by simp[HH]
 rw[e1,e2]at a1
 obtain⟨f,S1,h1,⟨z3,z4,rfl⟩,rfl⟩:=GP (v:=Ea (.ref t)) (g:=EC 2 (Ba (tgN 3) (Ba (tgN 4) ET))) (b:=Rc) (xs:=ts.map pairD) (e:=[sR t,sI o,sR (S.length+o),none,none]) (S:=stN S o (Bp []))
  (λi e S'=>(∃z3 z4,e=[sR t,sI o,sR (S.length+o),z3,z4])/\S'=stN S o (Bp (ts.take i)))
  (λf S'=>(∃z3 z4,f=.nx [sR t,sI o,sR (S.length+o),z3,z4])/\S'=stN S o (Bp ts))
  ⟨⟨none,none,rfl⟩,rfl⟩ (by rintro i e S' ⟨_,rfl⟩;exact DW ((II S o _).at ht))
  (by
   rintro i y e S' hy ⟨⟨z3,z4,rfl⟩,rfl⟩;rw[AN]at hy
   cases hx:ts[i]? with
   | none=>rw[hx]at hy;cases hy
   | some x=>
    rw[hx]at hy;cases hy
    have hin:In o x:=by
     obtain⟨g1,g2,g3⟩:=hu.1 x (BD hx);exact⟨by omega,by lia,by lia,by lia,by lia⟩
    refine⟨[sR t,sI o,sR (S.length+o),sI x.1,sI x.2],_,rfl,_,_,RH hin (λz=>?_),⟨_,_,rfl⟩,?_⟩
    ·have:=Pq (ts.take i) z
     rw[Cz]at this
     lia
    ·rw[take_snoc hx,show Bp (ts.take i++[x])=_ from funext λz=>N1 _ _ z])
  (by
   rintro e S' ⟨⟨z3,z4,rfl⟩,rfl⟩;rw[AC,Cc]
   exact⟨⟨_,_,rfl⟩,rfl⟩)
 have a2:=(Et (g:=EC 2 (Ba (tgN 3) (Ba (tgN 4) ET))) (b:=Rc) (Fo (m:=AB 0) (e:=[sR t,sI o,sR (S.length+o),none,none]) (S:=stN S o (Bp [])) (S1:=stN S o (Bp [])) rfl ((II S o _).at ht))).trans h1
 obtain⟨r,S2,q1,e',⟨z,_⟩,K,rs,rfl,q2,q3⟩:=M4 (v:=Ea (.ref (S.length+o))) (g:=tgN 0) (c:=EK) (m:=Ch (AB 0)) (xs:=Dd S.length o) (e:=[none,sR t,sI o,sR (S.length+o),z3,z4]) (S:=stN S o (Bp ts))
  (λi e' S' acc=>(∃z,e'=[z,sR t,sI o,sR (S.length+o),z3,z4])/\Keeps (stN S o (Bp ts)) S'/\∃rs:List Nat,acc=rs.map D.ref/\rs.length=i/\∀x,x < i->∃r,rs[x]?=some r/\S'[r]?=some (.lst ((nr ts x).map D.int)))
  ⟨⟨none,rfl⟩,.refl _,[],rfl,rfl,λx hx=>zX hx (Ge _)⟩ (λi e' S' acc h=>DW (h.2.1.at (IS S o _)))
  (by
   rintro i d e' S' acc hd ⟨⟨z,rfl⟩,K,rs,rfl,k2,k3⟩
   have hi:i < o:=by
    have:=(AF.mp hd).1;simpa[Dd]using this
   unfold Dd at hd;rw[AN,BU hi]at hd;cases hd;have hit:HM (.ref (S.length+i)) S'=some ((Bp ts i).map D.int):=HK (K.at (Iy S _ hi));have hs:=FK (m:=AB 0) (e:=[sR (S.length+i),sR t,sI o,sR (S.length+o),z3,z4]) (S:=S') (S1:=S') rfl hit (Lk _);have K2:=Keeps.app S' [.lst ((C1 (Bp ts i)).map D.int)];refine⟨by rw[AC];exact Ay (show rs.length<=1000 by lia) (by decide),[sR (S.length+i),sR t,sI o,sR (S.length+o),z3,z4],_,rfl,true,_,rfl,.inl ⟨rfl,_,_,hs,⟨_,rfl⟩,K.trans K2,rs++[S'.length],by simp,by simp[k2],λx hx=>?_⟩⟩
   by_cases c:x < i
   ·obtain⟨r,g1,g2⟩:=k3 x c
    exact⟨r,by rw[Aa (by lia)];exact g1,K2.at g2⟩
   ·have:x=rs.length:=by lia
    subst this
    exact⟨S'.length,by simp,by rw[k2];exact By _ _⟩)
 rw[show(Dd S.length o).length=o by simp[Dd]]at q2 q3;have a3:=J2 ((LL (n:=1) (g:=tgN 0) (c:=EK) (m:=Ch (AB 0)) (Fo (m:=AB 2) (e:=[sR t,sI o,sR (S.length+o),z3,z4]) (S:=stN S o (Bp ts)) (S1:=stN S o (Bp ts)) rfl (IS S o _))).trans q1);have K3:=Keeps.app S2 [.lst (rs.map D.ref)];refine⟨_,_,DJ ?_,((II S o _).trans K).trans K3,rs,By _ _,q2,λx hx=>?_⟩
 ·unfold M6
  refine C0 (A9 a1) ?_;refine C0 (A9 a2) ?_;exact Gn a3
 ·obtain⟨r,g1,g2⟩:=q3 x hx
  exact⟨r,g1,K3.at g2⟩
def aD{α:Type}{f g:α->D}{l:List α}{v:IF}{m:ME}{e:Lo}{S:Sto}(hv:v S=some (l.map f))(hl:l.length<=1000000)(hm:∀x∈l,m (some (f x) :: e) S=.ok (g x) S) :
  FY v (tgN 0) EK m (Cp v S) 0 (none :: e) S []=.ok (l.map g) S:=by
 obtain⟨r,S1,q1,e',_,rfl,rfl⟩:=M4 (v:=v) (g:=tgN 0) (c:=EK) (m:=m) (xs:=l.map f) (e:=none :: e) (S:=S)
  (λi e' S' acc=>(∃z,e'=z :: e)/\S'=S/\acc=(l.take i).map g) ⟨⟨none,rfl⟩,rfl,rfl⟩ (by rintro i e' S' acc ⟨_,rfl,_⟩;exact hv)
  (by
   rintro i d e' S' acc hd ⟨⟨z,rfl⟩,rfl,rfl⟩;rw[AN]at hd
   cases hx:l[i]? with
   | none=>rw[hx]at hd;cases hd
   | some x=>
    rw[hx]at hd;cases hd;refine⟨?_,some (f x) :: e,S',rfl,true,S',rfl,.inl ⟨rfl,g x,S',hm x (BD hx),⟨_,rfl⟩,rfl,?_⟩⟩
    ·rw[AC,Cz]
     exact Ay (At (Ow _ _) hl) (by decide)
    ·rw[take_snoc hx,A2]
     rfl)
 rw[AC,Cc]at q1;exact q1
def fO{α:Type}{f:α->D}{l:List α}{v:IF}{g:MG}{b:MS}{e:Lo}{S:Sto}(I:List α->Lo->Sto->Prop)(h0:I [] e S)(hv:∀t e S,I t e S->v S=some (l.map f))
  (step:∀t x e S,x∈l->t.length < l.length->I t e S->∃e1 S1,g (f x) e S=.ok e1 S1/\∃e2 S2,b e1 S1=.ok (.nx e2) S2/\I (t++[x]) e2 S2) :
  ∃e' S',Jl v g b (Cp v S) 0 e S=.ok (.nx e') S'/\I l e' S':=by
 obtain⟨f',S',h1,e',rfl,h2⟩:=GP (v:=v) (g:=g) (b:=b) (xs:=l.map f) (e:=e) (S:=S) (λi e S=>I (l.take i) e S) (λf' S'=>∃e',f'=.nx e'/\I l e' S') h0 (λi e S h=>hv _ e S h)
  (by
   intro i d e S hd hI;rw[AN]at hd
   cases hx:l[i]? with
   | none=>rw[hx]at hd;cases hd
   | some x=>
    rw[hx]at hd;cases hd;have hlt:=(AF.mp hx).1;obtain⟨e1,S1,q1,e2,S2,q2,q3⟩:=step (l.take i) x e S (BD hx) (by rw[Cz];omega) hI;refine⟨e1,S1,q1,.nx e2,S2,q2,?_⟩;show I (l.take (i+1)) e2 S2;rw[take_snoc hx]
    exact q3)
  (by
   intro e S hI;rw[AC,Cc]at hI
   exact⟨e,rfl,hI⟩)
 exact⟨e',S',h1,h2⟩
def YT{α:Type}{f g:α->D}{l:List α}{v:IF}{m:ME}{e:Lo}{S:Sto}(hv:∀S',Keeps S S'->v S'=some (l.map f))(hl:l.length<=1000000)(hm:∀x∈l,∀S',Keeps S S'->∃S'',m (some (f x) :: e) S'=.ok (g x) S''/\Keeps S' S'') :
  ∃S',FY v (tgN 0) EK m (Cp v S) 0 (none :: e) S []=.ok (l.map g) S'/\Keeps S S':=by
 obtain⟨r,S1,q1,e',_,k1,rfl⟩:=M4 (v:=v) (g:=tgN 0) (c:=EK) (m:=m) (xs:=l.map f) (e:=none :: e) (S:=S)
  (λi e' S' acc=>(∃z,e'=z :: e)/\Keeps S S'/\acc=(l.take i).map g) ⟨⟨none,rfl⟩,Keeps.refl _,rfl⟩ (by rintro i e' S' acc ⟨_,k,_⟩;exact hv _ k)
  (by
   rintro i d e' S' acc hd ⟨⟨z,rfl⟩,k,rfl⟩;rw[AN]at hd
   cases hx:l[i]? with
   | none=>rw[hx]at hd;cases hd
   | some x=>
    rw[hx]at hd;cases hd;obtain⟨S2,q2,k2⟩:=hm x (BD hx) S' k;refine⟨?_,some (f x) :: e,S',rfl,true,S',rfl,.inl ⟨rfl,g x,S2,q2,⟨_,rfl⟩,k.trans k2,?_⟩⟩
    ·rw[AC,Cz]
     exact Ay (At (Ow _ _) hl) (by decide)
    ·rw[take_snoc hx,A2]
     rfl)
 rw[AC,Cc]at q1;exact⟨S1,q1,k1⟩
def jr{t:MT}{a b:MS}{e:Lo}{S S0 S1:Sto}{d:D}(h:t e S=.ok true S0)(ha:a e S0=.ok (.rt d) S1):BF (sIf t a sNx) b e S=.ok (.rt d) S1:=NU ((EU h).trans ((qX rfl).trans ha))
def Mz{t:MT}{a b:MS}{e:Lo}{S S0:Sto}(h:t e S=.ok false S0):BF (sIf t a sNx) b e S=b e S0:=A9 (e1:=e) ((EU h).trans ((qY AZ).trans rfl))
abbrev Met:=List (Int×Int)
def mD(L:Met):List (Key×D):=L.map λa=>(CL a.1,D.int a.2)
def A6(L:Met):List Int:=L.map (·.1)
def stp(L:Met)(z:Int):Int:=((L.find? λa=>decide (a.1=z)).map (·.2)).getD 0
def C9(L N:Met):A6 (L++N)=A6 L++A6 N:=A2
def CQ{L:Met}{z:Int}:z∈A6 L↔∃d,(z,d)∈L:=by
 unfold A6
 constructor
 ·intro h
  obtain⟨a,ha,rfl⟩:=Ag.mp h;exact⟨a.2,ha⟩
 ·rintro⟨d,h⟩
  exact Ag.mpr ⟨_,h,rfl⟩
def aJ(L:Met)(z:Int):A3 (mD L) (CL z)=(L.find? λa=>decide (a.1=z)).map λa=>D.int a.2:=by
 unfold A3 mD
 induction L with
 | nil=>rfl
 | cons a L ih=>
  rw[A5,BV,BV]
  by_cases e:a.1=z
  ·have:decide ((CL a.1:Key)=CL z)=true:=wX (by rw[e])
   rw[this,wX e];rfl
  ·have:decide ((CL a.1:Key)=CL z)=false:=wY λq=>e (TL q)
   rw[this,wY e];exact ih
def UQ{L:Met}(nd:(A6 L).Nodup){z d:Int}(h:(z,d)∈L):(L.find? λa=>decide (a.1=z))=some (z,d):=by
 induction L with
 | nil=>cases h
 | cons a L ih=>
  rw[BV];obtain⟨n1,n2⟩:=CW.mp (show(a.1 :: A6 L).Nodup from nd)
  rcases Aw.mp h with e | h'
  ·subst e
   rw[wX rfl]
  ·have:¬a.1=z:=λe=>n1 (by rw[e];exact CQ.mpr ⟨d,h'⟩)
   rw[wY this];exact ih n2 h'
def R8{L:Met}(nd:(A6 L).Nodup){z d:Int}(h:(z,d)∈L):stp L z=d:=by
 unfold stp;rw[UQ nd h];rfl
def dD{L:Met}(nd:(A6 L).Nodup){z:Int}(h:z∈A6 L):(z,stp L z)∈L:=by
 obtain⟨d,hd⟩:=CQ.mp h;rw[R8 nd hd];exact hd
def jj(L:Met)(z:Int):(A3 (mD L) (CL z)).isSome=decide (z∈A6 L):=by
 rw[aJ]
 induction L with
 | nil=>rfl
 | cons a L ih=>
  rw[BV]
  by_cases e:a.1=z
  ·rw[wX e]
   exact(wX (show z∈a.1 :: A6 L by rw[e];exact A1)).symm
  ·rw[wY e]
   refine ih.trans (decide_eq_decide.mpr ?_);show z∈A6 L↔z∈a.1 :: A6 L;rw[Aw];exact⟨.inr,λh=>h.resolve_left λq=>e q.symm⟩
def aI{L:Met}{z:Int}(h:z∉A6 L)(v:Int):CF (mD L) (CL z) (.int v)=mD (L++[(z,v)]):=by
 unfold CF;rw[qY]
 ·unfold mD
  rw[A2];rfl
 ·intro q
  obtain⟨y,hy,e⟩:=ER.mp q;obtain⟨a,ha,rfl⟩:=Ag.mp hy;have e:=TL (of_decide_eq_true e);exact h (CQ.mpr ⟨a.2,by rw[<-e];exact ha⟩)
def ai{S:Sto}{n:Nat}{L:Met}(h:S[n]?=some (.dK (mD L)))(neg:Bool)(z:Int):inA neg (.int z) (.ref n) S=.ok (.bl (if neg then !decide (z∈A6 L)else decide (z∈A6 L))) S:=by
 show Gq (inD neg (.int z) (.ref n) S) (Jm neg (.int z) (.ref n) S)=_
 have e:inD neg (.int z) (.ref n) S=.bad:=by
  unfold inD Fa;dsimp only;rw[h]
 have e2:LS (.ref n) (.int z) S=some (A3 (mD L) (CL z)):=by
  unfold LS;dsimp only;rw[h];rfl
 rw[e];show Jm neg (.int z) (.ref n) S=_;unfold Jm;rw[e2];dsimp only;rw[jj]
def Oj{S:Sto}{n:Nat}{L:Met}(h:S[n]?=some (.dK (mD L)))(nd:(A6 L).Nodup){z:Int}(hz:z∈A6 L):ixA (.ref n) (.int z) S=.ok (.int (stp L z)) S:=by
 show Gq (ixD (.ref n) (.int z) S) (Ld (.ref n) (.int z) S)=_
 have e:ixD (.ref n) (.int z) S=.bad:=by
  unfold ixD Fa;dsimp only;rw[h]
 have e2:LS (.ref n) (.int z) S=some (some (.int (stp L z))):=by
  unfold LS;dsimp only;rw[h];show some (A3 (mD L) (CL z))=_;rw[aJ,UQ nd (dD nd hz)];rfl
 rw[e];show Ld (.ref n) (.int z) S=_;unfold Ld;rw[e2]
def dR{mo mi mv:ME}{e:Lo}{S:Sto}{d:Nat}{L:Met}{z v:Int}(hv:mv e S=.ok (.int v) S)(ho:mo e S=.ok (.ref d) S)(hi:mi e S=.ok (.int z) S)(h:S[d]?=some (.dK (mD L)))(hz:z∉A6 L)(hl:L.length<=100000) :
  DI mo mi mv e S=.ok (.nx e) (S.set d (.dK (mD (L++[(z,v)])))):=by
 unfold DI;rw[hv];dsimp only[Res.lift];rw[ho];dsimp only[Res.lift];rw[hi];dsimp only[Res.lift]
 have:Qx (.ref d) (.int z) (.int v) S=some (S.set d (.dK (mD (L++[(z,v)])))):=by
  unfold Qx;dsimp only;rw[h];show(if (mD L).length < sizeLine then some (S.set d (.dK (CF (mD L) (CL z) (.int v))))else none)=_;rw[qX (by unfold mD;rw[AC];exact Ay hl (by decide)),aI hz]
 rw[this]
def fS{mk mv:ME}{e:Lo}{S:Sto}{z v:Int}(hk:mk e (S++[.dK []])=.ok (.int z) (S++[.dK []]))(hv:mv e (S++[.dK []])=.ok (.int v) (S++[.dK []])):Pu mk mv e S=.ok (.ref S.length) (S++[.dK (mD [(z,v)])]):=by
 unfold Pu;rw[hk];dsimp only[Res.bind];rw[hv];dsimp only[Res.bind];rw[By];show Res.ok (D.ref S.length) ((S++[Ob.dK []]).set S.length (.dK (CF [] (CL z) (.int v))))=_;have e1:CF ([]:List (Key×D)) (CL z) (.int v)=mD [(z,v)]:=rfl;rw[e1];simp
def TR{t:MT}{b:MS}(I:Nat->Lo->Sto->Prop)(R:Lo->Sto->Prop)
  (step:∀k e S,I k e S->(∃S1,t e S=.ok false S1/\R e S1)∨∃S1 e2 S2 k',t e S=.ok true S1/\b e S1=.ok (.nx e2) S2/\k' < k/\I k' e2 S2) :
  ∀n k e S,I k e S->k < n->∃e' S',GJ t b n e S=.ok (.nx e') S'/\R e' S'
 | 0,_,_,_,_,h=>zX h (Ge _)
 | n+1,k,e,S,hI,hk=>by
  rcases step k e S hI with⟨S1,h1,hR⟩ | ⟨S1,e2,S2,k',h1,h2,h3,h4⟩
  ·refine⟨e,S1,?_,hR⟩
   unfold GJ;rw[h1];rfl
  ·obtain⟨e',S',h5,h6⟩:=TR I R step n k' e2 S2 h4 (Ab h3 (Nat.le_of_lt_succ hk))
   refine⟨e',S',?_,h6⟩;unfold GJ;rw[h1];dsimp only[Res.lift];rw[qX rfl,h2];exact h5
def bZ(d:Int)(L:Met)(y:Int):Met:=if y∈A6 L then L else L++[(y,d+1)]
def Ih(d:Int)(ys:List Int)(L:Met):Met:=ys.foldl (bZ d) L
def OB(d:Int)(ys:List Int)(y:Int)(L:Met):Ih d (ys++[y]) L=bZ d (Ih d ys L) y:=by
 unfold Ih;rw[List.foldl_append];rfl
def JE(d:Int):∀(ys:List Int) (L:Met),∃N,Ih d ys L=L++N/\(∀a∈N,a.2=d+1/\a.1∈ys/\a.1∉A6 L)/\(∀y∈ys,y∈A6 (L++N))/\(A6 N).Nodup
 | [],L=>⟨[],(BW L).symm,λ_ h=>zX h Bl,λ_ h=>zX h Bl,FX⟩
 | y :: ys,L=>by
  have e:Ih d (y :: ys) L=Ih d ys (bZ d L y):=rfl
  by_cases c:y∈A6 L
  ·have e1:bZ d L y=L:=qX c
   obtain⟨N,h1,h2,h3,h4⟩:=JE d ys L;refine⟨N,by rw[e,e1,h1],λa ha=>⟨(h2 a ha).1,Aj _ (h2 a ha).2.1,(h2 a ha).2.2⟩,λz hz=>?_,h4⟩
   rcases Aw.mp hz with rfl | hz
   ·rw[C9];exact Az _ c
   ·exact h3 z hz
  ·have e1:bZ d L y=L++[(y,d+1)]:=qY c
   obtain⟨N,h1,h2,h3,h4⟩:=JE d ys (L++[(y,d+1)]);refine⟨(y,d+1) :: N,by rw[e,e1,h1,BN];rfl,λa ha=>?_,λz hz=>?_,?_⟩
   ·rcases Aw.mp ha with rfl | ha
    ·exact⟨rfl,A1,c⟩
    ·refine⟨(h2 a ha).1,Aj _ (h2 a ha).2.1,λz=>(h2 a ha).2.2 ?_⟩
     rw[C9];exact Az _ z
   ·have e2:L++(y,d+1) :: N=L++[(y,d+1)]++N:=by simp
    rw[e2]
    rcases Aw.mp hz with rfl | hz
    ·rw[C9,C9]
     exact Az _ (A4 _ (by simp[A6]))
    ·exact h3 z hz
   ·refine CW.mpr ⟨λz=>?_,h4⟩
    obtain⟨a,ha,e3⟩:=Ag.mp z;refine(h2 a ha).2.2 ?_;rw[C9];exact A4 _ (by rw[e3];simp[A6])
section
variable(nb:Int->List Int)(s:Int)
def NZ(L:Met)(i:Nat):Met:=match L[i]? with
 | some a=>Ih a.2 (nb a.1) L
 | none=>L
def Rn:Nat->Met
 | 0=>[(s,0)]
 | i+1=>NZ nb (Rn i) i
end
section
variable{nb:Int->List Int}{s:Int}{p:Nat}
def NY{L:Met}{i:Nat}{a:Int×Int}(h:L[i]?=some a):NZ nb L i=Ih a.2 (nb a.1) L:=by unfold NZ;rw[h]
def Zn(L:Met)(i:Nat):∃N,NZ nb L i=L++N:=by
 unfold NZ;split
 ·obtain⟨N,h,_⟩:=JE _ (nb _) L
  exact⟨N,h⟩
 ·exact⟨[],(BW L).symm⟩
def Sx(i:Nat):∀k:Nat,∃N,Rn nb s (i+k)=Rn nb s i++N
 | 0=>⟨[],(BW _).symm⟩
 | k+1=>by
  obtain⟨N,h⟩:=Sx i k;obtain⟨N',h'⟩:=Zn (nb:=nb) (Rn nb s (i+k)) (i+k);refine⟨N++N',?_⟩;show NZ nb (Rn nb s (i+k)) (i+k)=_;rw[h',h,BN]
def kM{i j k:Nat}(h:i<=k){a:Int×Int}(ha:(Rn nb s i)[j]?=some a):(Rn nb s k)[j]?=some a:=by
 obtain⟨N,e⟩:=Sx (nb:=nb) (s:=s) i (k - i);rw[show i+(k - i)=k by lia]at e;rw[e,Aa (AF.mp ha).1];exact ha
def Sw{i:Nat}(h:(Rn nb s i).length<=i):∀k,Rn nb s (i+k)=Rn nb s i
 | 0=>rfl
 | k+1=>by
  show NZ nb (Rn nb s (i+k)) (i+k)=_;rw[Sw h k];unfold NZ;rw[BJ (by lia)]
def ba{i j:Nat}(hi:(Rn nb s i).length<=i)(hj:(Rn nb s j).length<=j):Rn nb s i=Rn nb s j:=by
 rcases Nat.le_total i j with h | h
 ·have:=Sw hi (j - i)
  rw[show i+(j - i)=j by lia]at this;exact this.symm
 ·have:=Sw hj (i - j)
  rw[show j+(i - j)=i by lia]at this;exact this
structure Bf(nb:Int->List Int)(p:Nat)(s:Int)(i:Nat)(L:Met):Prop where
 nd:(A6 L).Nodup
 rng:∀a∈L,0<=a.1/\a.1 < p
 nn:∀a∈L,0<=a.2
 up:(L.map (·.2)).Pairwise (·<=·)
 src:(s,0)∈L
 zero:∀a∈L,a.2=0->a.1=s
 cl:∀j,j < i->∀a,L[j]?=some a->∀y∈nb a.1,∃d,(y,d)∈L/\d<=a.2+1
 par:∀a∈L,0 < a.2->∃b∈L,b.2+1=a.2/\a.1∈nb b.1
 top:∀a,L[i]?=some a->∀b∈L,b.2<=a.2+1
 low:∀(j:Nat) a,L[j]?=some a->a.2<=j
def Bf.step(hnb:∀x:Int,0<=x->x < p->∀y∈nb x,0<=y/\y < p){i:Nat}{L:Met}(h:Bf nb p s i L):Bf nb p s (i+1) (NZ nb L i):=by
 cases hq:L[i]? with
 | none=>
  have e:NZ nb L i=L:=by unfold NZ;rw[hq]
  rw[e];have hl:=Bq.mp hq;refine⟨h.nd,h.rng,h.nn,h.up,h.src,h.zero,λj hj a ha=>h.cl j ?_ a ha,h.par,λa ha=>?_,h.low⟩
  ·have:=(AF.mp ha).1;lia
  ·have:=(AF.mp ha).1;omega
 | some x=>
  rw[NY hq];have hx:=BD hq;obtain⟨N,h1,h2,h3,h4⟩:=JE x.2 (nb x.1) L;rw[h1];have hxr:=h.rng x hx;refine⟨?_,λa ha=>?_,λa ha=>?_,?_,Az _ h.src,λa ha h0=>?_,λj hj a ha y hy=>?_,λa ha h0=>?_,λa ha b hb=>?_,λj a ha=>?_⟩
  ·rw[C9]
   refine B3.mpr ⟨h.nd,h4,λa ha b hb e=>?_⟩;obtain⟨c,hc,rfl⟩:=Ag.mp hb;exact(h2 c hc).2.2 (e▸ha)
  ·rcases Ae.mp ha with ha | ha
   ·exact h.rng a ha
   ·exact hnb x.1 hxr.1 hxr.2 a.1 (h2 a ha).2.1
  ·rcases Ae.mp ha with ha | ha
   ·exact h.nn a ha
   ·have:=(h2 a ha).1;have:=h.nn x hx;lia
  ·rw[A2]
   refine BZ.mpr ⟨h.up,?_,λa ha b hb=>?_⟩
   ·refine Bv.mpr (FC (R:=λ_ _=>True) (λ{a b} ha hb _=>?_) (List.pairwise_of_forall λ_ _=>Cy))
    have:=(h2 a ha).1;have:=(h2 b hb).1;lia
   ·obtain⟨c,hc,rfl⟩:=Ag.mp ha
    obtain⟨d,hd,rfl⟩:=Ag.mp hb;have:=h.top x hq c hc;have:=(h2 d hd).1;lia
  ·rcases Ae.mp ha with ha | ha
   ·exact h.zero a ha h0
   ·have:=(h2 a ha).1;have:=h.nn x hx;lia
  ·by_cases hji:j=i
   ·subst hji
    rw[Aa (AF.mp hq).1,hq]at ha;cases ha;obtain⟨d,hd⟩:=CQ.mp (h3 y hy);refine⟨d,hd,?_⟩
    rcases Ae.mp hd with hd | hd
    ·exact h.top x hq _ hd
    ·exact Int.le_of_eq (h2 _ hd).1
   ·have hlt:j < L.length:=by have:=(AF.mp hq).1;lia
    rw[Aa hlt]at ha;obtain⟨d,hd,hle⟩:=h.cl j (by lia) a ha y hy;exact⟨d,Az _ hd,hle⟩
  ·rcases Ae.mp ha with ha | ha
   ·obtain⟨b,hb,h5⟩:=h.par a ha h0
    exact⟨b,Az _ hb,h5⟩
   ·exact⟨x,Az _ hx,(h2 a ha).1.symm,(h2 a ha).2.1⟩
  ·have hax:x.2<=a.2:=by
    by_cases hlt:i+1 < L.length
    ·rw[Aa hlt]at ha
     have h5:(L.map (·.2))[i]?=some x.2:=by rw[AN,hq];rfl
     have h6:(L.map (·.2))[i+1]?=some a.2:=by rw[AN,ha];rfl
     obtain⟨l5,e5⟩:=AF.mp h5;obtain⟨l6,e6⟩:=AF.mp h6;have:=Rr.mp h.up i (i+1) l5 l6 (by lia);rwa [e5,e6]at this
    ·have hlt':=(AF.mp hq).1
     rw[BK (by lia)]at ha;have:=(h2 a (BD ha)).1
     lia
   rcases Ae.mp hb with hb | hb
   ·have:=h.top x hq b hb;lia
   ·have:=(h2 b hb).1;lia
  ·by_cases hlt:j < L.length
   ·rw[Aa hlt]at ha
    exact h.low j a ha
   ·have hlt':=(AF.mp hq).1
    rw[BK (by lia)]at ha;have:=(h2 a (BD ha)).1;have:=h.low i x hq
    lia
def Rf(hnb:∀x:Int,0<=x->x < p->∀y∈nb x,0<=y/\y < p)(hs:0<=s/\s < p):∀i,Bf nb p s i (Rn nb s i)
 | 0=>by
  refine⟨by show[s].Nodup;simp,λa ha=>?_,λa ha=>?_,KJ _ _,AO.mpr rfl,λa ha _=>?_,λj hj=>zX hj (Ge _),λa ha h0=>?_,λa ha b hb=>?_,λj a ha=>?_⟩
  ·rw[AO.mp ha];exact hs
  ·rw[AO.mp ha];exact nX _
  ·rw[AO.mp ha]
  ·rw[AO.mp ha]at h0;exact zX h0 (Int.lt_irrefl _)
  ·cases ha;rw[AO.mp hb];exact Int.le_add_one (nX _)
  ·rw[AO.mp (BD ha)];exact Y0 j
 | i+1=>(Rf hnb hs i).step hnb
def N2:∀(p:Nat) (l:List Int),l.Nodup->(∀z∈l,0<=z/\z < p)->l.length<=p
 | 0,l,_,h=>by
  cases l with
  | nil=>exact AQ _
  | cons a l=>have:=h a (by simp);lia
 | p+1,l,nd,h=>by
  by_cases c:(p:Int)∈l
  ·have h1:=TD c
   have hpos:0 < l.length:=Ui c
   have i1:=N2 p (l.erase (p:Int)) (nd.erase _) λz hz=>by
    obtain⟨hz1,hz2⟩:=nd.mem_erase_iff.mp hz;have:=h z hz2
    lia
   lia
  ·have i1:=N2 p l nd λz hz=>by
    have:=h z hz
    have:z≠p:=λe=>c (e▸hz)
    lia
   lia
def Bf.len{i:Nat}{L:Met}(h:Bf nb p s i L):L.length<=p:=by
 have:=N2 p (A6 L) h.nd λz hz=>by
  obtain⟨a,ha,rfl⟩:=Ag.mp hz;exact h.rng a ha
 unfold A6 at this;rwa [AC]at this
structure Fd(nb:Int->List Int)(p:Nat)(s:Int)(L:Met):Prop where
 nd:(A6 L).Nodup
 rng:∀a∈L,0<=a.1/\a.1 < p
 nn:∀a∈L,0<=a.2
 src:(s,0)∈L
 zero:∀a∈L,a.2=0->a.1=s
 cl:∀a∈L,∀y∈nb a.1,∃d,(y,d)∈L/\d<=a.2+1
 par:∀a∈L,0 < a.2->∃b∈L,b.2+1=a.2/\a.1∈nb b.1
 len:L.length<=p
 far:∀a∈L,a.2 < p
def Bf.fd{i:Nat}{L:Met}(h:Bf nb p s i L)(hl:L.length<=i):Fd nb p s L:=⟨h.nd,h.rng,h.nn,h.src,h.zero,λa ha y hy=>by
 obtain⟨j,hj,e⟩:=MF ha
 exact h.cl j (by lia) a (by rw[BR hj,e]) y hy,h.par,h.len,λa ha=>by
 obtain⟨j,hj,e⟩:=MF ha;have:=h.low j a (by rw[BR hj,e]);have:=h.len
 lia⟩
def nears(nb:Int->List Int)(L:Met)(x:Int):List Int:=(nb x).filter λy=>decide (stp L y < stp L x)
end
def ZX{l:List Int}(h:l.Nodup):(C1 l).Pairwise (· < ·):=by
 have h1:(C1 l).Nodup:=(Dc l).nodup_iff.mpr h
 exact((IT l).and h1).imp λ{a b} ⟨q1,q2⟩=>by omega
abbrev bIn(g v a:Nat)(mval:ME):MS:=sIf (mB (m2 (inA true) (AB v) (AB g))) (BF (DI (AB g) (AB v) mval) (CH (FU (AB a) (AB v)))) sNx
def VY{L:Met}{y d:Int}(h:(A6 L).Nodup)(c:y∉A6 L):(A6 (L++[(y,d)])).Nodup:=by
 rw[C9];refine B3.mpr ⟨h,by simp[A6],λa ha b hb e=>c ?_⟩
 have:b=y:=by simpa[A6]using hb
 rw[<-this,<-e];exact ha
def ah{g v a:Nat}{mval:ME}{E:Option D->Lo}{dI fI:Nat}{d:Int}{L:Met}{fs:List Int}{S:Sto}{ys:List Int}{z:Option D}{vw:IF}
  (hvw:∀S',(∀j,j≠dI->j≠fI->S'[j]?=S[j]?)->vw S'=some (ys.map D.int))
  (hv:∀x S,AB v (E (some x)) S=.ok x S) (h2:∀z S,AB g (E z) S=.ok (.ref dI) S) (ha:∀z S,AB a (E z) S=.ok (.ref fI) S) (hg:∀x z S,tgN v x (E z) S=.ok (E (some x)) S)
  (hval:∀x S' N,S'[dI]?=some (.dK (mD (L++N)))->S'[fI]?=some (.lst ((fs++A6 N).map D.int))->(A6 (L++N)).Nodup->mval (E (some x)) S'=.ok (.int (d+1)) S')
  (hD:S[dI]?=some (.dK (mD L))) (hF:S[fI]?=some (.lst (fs.map D.int))) (hne:dI≠fI) (nd:(A6 L).Nodup) (hl:L.length<=1000) (hf:fs.length<=1000) (hy:ys.length<=1000) :
  ∃z' S' N,Jl vw (tgN v) (bIn g v a mval) (Cp vw S) 0 (E z) S=.ok (.nx (E z')) S'/\Ih d ys L=L++N/\S'[dI]?=some (.dK (mD (L++N)))/\S'[fI]?=some (.lst ((fs++A6 N).map D.int))/\S'.length=S.length/\∀j,j≠dI->j≠fI->S'[j]?=S[j]?:=by
 obtain⟨e',S',h1,z',N,rfl,q1,_,_,q4,q5,q6,q7⟩:=fO (f:=D.int) (l:=ys) (v:=vw) (g:=tgN v) (b:=bIn g v a mval) (e:=E z) (S:=S)
  (λt e S'=>∃z N,e=E z/\Ih d t L=L++N/\(A6 (L++N)).Nodup/\N.length<=t.length/\S'[dI]?=some (.dK (mD (L++N)))/\S'[fI]?=some (.lst ((fs++A6 N).map D.int))/\S'.length=S.length/\∀j,j≠dI->j≠fI->S'[j]?=S[j]?)
  ⟨z,[],rfl,(BW L).symm,by rw[BW];exact nd,AQ _,by rw[BW];exact hD,by show _=some (Ob.lst ((fs++[]).map D.int));rw[BW];exact hF,rfl,λ_ _ _=>rfl⟩ (by rintro t e S' ⟨_,_,_,_,_,_,_,_,_,h⟩;exact hvw S' h)
  (by
   rintro t y e S' hyy ht ⟨z,N,rfl,q1,q2,q3,q4,q5,q6,q7⟩;refine⟨E (some (.int y)),S',hg _ _ _,?_⟩;have t1:mB (m2 (inA true) (AB v) (AB g)) (E (some (.int y))) S'=.ok (!decide (y∈A6 (L++N))) S':=GR (BO (hv _ _) (h2 _ _) (ai q4 true y));have ic:=EU (a:=BF (DI (AB g) (AB v) mval) (CH (FU (AB a) (AB v)))) (b:=sNx) t1
   by_cases c:y∈A6 (L++N)
   ·rw[wX c]at ic
    refine⟨E (some (.int y)),S',ic.trans rfl,_,N,rfl,?_,q2,by rw[Ad];lia,q4,q5,q6,q7⟩;rw[OB,q1];exact qX c
   ·rw[wY c]at ic
    have p1:=dR (mo:=AB g) (mi:=AB v) (mv:=mval) (hval (.int y) S' N q4 q5 q2) (h2 _ _) (hv _ _) q4 c (by rw[Ad];lia);have hdl:dI < S'.length:=(AF.mp q4).1;have hfl:fI < S'.length:=(AF.mp q5).1
    have f1:(S'.set dI (.dK (mD (L++N++[(y,d+1)]))))[fI]?=some (.lst ((fs++A6 N).map D.int)):=by rw[AW hne];exact q5
    have a1:=Ig (mo:=AB a) (ma:=AB v) (e:=E (some (.int y))) (S:=S'.set dI (.dK (mD (L++N++[(y,d+1)])))) (ha _ _) f1 (hv _ _) f1 (by
     rw[AC,Ad,show(A6 N).length=N.length from AC _]
     exact Ay (show fs.length+N.length<=2000 by lia) (by decide))
    refine⟨E (some (.int y)),_,ic.trans ((qX rfl).trans ((A9 p1).trans (DV a1))),_,N++[(y,d+1)],rfl,?_,?_,?_,?_,?_,?_,?_⟩
    ·rw[OB,q1]
     exact(qY c).trans (BN _ _ _)
    ·rw[<-BN]
     exact VY q2 c
    ·rw[Ad,Ad,Cu,Cu];lia
    ·rw[AW (CB hne),Ao hdl,BN]
    ·rw[Ao (by rw[DQ];exact hfl),C9]
     simp[A6]
    ·rw[DQ,DQ];exact q6
    ·intro j h1 h2
     rw[AW (CB h2),AW (CB h1)]
     exact q7 j h1 h2)
 exact⟨z',S',N,h1,q1,q4,q5,q6,q7⟩
def UL{B S S':Sto}(k:Keeps B S){dI fI:Nat}(h1:B.length<=dI)(h2:B.length<=fI)(hl:S'.length=S.length)(h:∀j,j≠dI->j≠fI->S'[j]?=S[j]?):Keeps B S':=
 ⟨by rw[hl];exact k.1,λj hj=>(h j (by lia) (by lia)).trans (k.2 j hj)⟩
def cm{m:ME}{e:Lo}{S:Sto}{n:Nat}{ds:List D}(h:m e S=.ok (.ref n) S)(hn:S[n]?=some (.lst ds)):Io m e S=.ok (!ds.isEmpty) S:=by
 unfold Io;rw[h];dsimp only[Res.bind];unfold Ps;dsimp only;rw[hn]
def nbW(ts:List (Int×Int))(x:Int):List Int:=C1 (Bp ts x.toNat)
abbrev gm(W:Wd):MS:=GK (D7 (BI 2 (Kt W) (AI (AB 0) (AI (AB 5) Au)))) (tgN 6) (bIn 2 6 4 (m2 Ff (m2 ixA (AB 2) (AB 5)) (mC (.int 1))))
abbrev bW(W:Wd):MS:=BF (Bj 4 (Cq (Cn Au))) (BF (GK (D7 (AB 3)) (tgN 5) (gm W)) (Bj 3 (AB 4)))
section
variable{W:Wd}{q p:Nat}{ts:List (Int×Int)}{s:Int}
def Ze{B S:Sto}(hw:G0 W B q p ts)(hp:p<=60)(hnb:∀x:Int,0<=x->x < p->∀y∈nbW ts x,0<=y/\y < p)(hlen:∀x,(nbW ts x).length<=1000)(hs:0<=s/\s < p){i dI ly:Nat}{d1:D}{z4 z5 z6:Option D}(K:Keeps B S)(hdI:B.length<=dI)(hly:B.length<=ly)(hdl:dI≠ly)
  (hD:S[dI]?=some (.dK (mD (Rn (nbW ts) s i)))) (hL:S[ly]?=some (.lst ((A6 ((Rn (nbW ts) s i).drop i)).map D.int))) (hi:i<=(Rn (nbW ts) s i).length) :
  ∃y5 y6 S',bW W [sR q,some d1,sR dI,sR ly,z4,z5,z6] S=oN [sR q,some d1,sR dI,sR S.length,sR S.length,y5,y6] S'/\Keeps B S'/\S'[dI]?=some (.dK (mD (Rn (nbW ts) s (Rn (nbW ts) s i).length)))/\S'[S.length]?=some (.lst ((A6 ((Rn (nbW ts) s (Rn (nbW ts) s i).length).drop (Rn (nbW ts) s i).length)).map D.int)):=by
 have hdS:dI < S.length:=(AF.mp hD).1;have hlS:ly < S.length:=(AF.mp hL).1;have hBf:=Rf hnb hs i;have hnl:=hBf.len;generalize hn0:(Rn (nbW ts) s i).length=n0 at hnl hi ⊢;have s4:Bj 4 (Cq (Cn Au)) [sR q,some d1,sR dI,sR ly,z4,z5,z6] S=oN [sR q,some d1,sR dI,sR ly,sR S.length,z5,z6] (S++[.lst []]):=rfl;have k0:=Keeps.app S [.lst []]
 obtain⟨f,S1,h1,y5,y6,rfl,K1,D1,F1⟩:=GP (v:=Ea (.ref ly)) (g:=tgN 5) (b:=gm W) (xs:=(A6 ((Rn (nbW ts) s i).drop i)).map D.int) (e:=[sR q,some d1,sR dI,sR ly,sR S.length,z5,z6]) (S:=S++[.lst []])
  (λj e S'=>∃y5 y6,e=[sR q,some d1,sR dI,sR ly,sR S.length,y5,y6]/\Keeps B S'/\S'[dI]?=some (.dK (mD (Rn (nbW ts) s (i+j))))/\S'[S.length]?=some (.lst ((A6 ((Rn (nbW ts) s (i+j)).drop n0)).map D.int))/\S'[ly]?=some (.lst ((A6 ((Rn (nbW ts) s i).drop i)).map D.int)))
  (λf S'=>∃y5 y6,f=.nx [sR q,some d1,sR dI,sR ly,sR S.length,y5,y6]/\Keeps B S'/\S'[dI]?=some (.dK (mD (Rn (nbW ts) s n0)))/\S'[S.length]?=some (.lst ((A6 ((Rn (nbW ts) s n0).drop n0)).map D.int)))
  ⟨z5,z6,rfl,K.trans k0,k0.at hD,by
   rw[Uw,Uj (by lia)]
   exact By _ _,k0.at hL⟩ (by rintro j e S' ⟨_,_,_,_,_,_,h⟩;exact DW h)
  (by
   rintro j x e S' hx ⟨y5,y6,rfl,K',D',F',L'⟩;unfold A6 at hx;rw[AN,AN,Gf]at hx
   cases hq:(Rn (nbW ts) s i)[i+j]? with
   | none=>rw[hq]at hx;cases hx
   | some a=>
    rw[hq]at hx;cases hx;have hat:(Rn (nbW ts) s (i+j))[i+j]?=some a:=kM (by lia) hq;have hbf:=Rf hnb hs (i+j);have har:=hbf.rng a (BD hat);have hll:=hbf.len
    obtain⟨x,hx⟩:∃x:Nat,a.1=x:=⟨a.1.toNat,by lia⟩
    refine⟨[sR q,some d1,sR dI,sR ly,sR S.length,sI a.1,y6],S',rfl,?_⟩
    have c1:BI 2 (Kt W) (AI (AB 0) (AI (AB 5) Au)) [sR q,some d1,sR dI,sR ly,sR S.length,sI a.1,y6] S'=.ok (.tup ((nbW ts a.1).map D.int)) S':=by
     refine(B6 (ds:=[.ref q,.int a.1]) (S1:=S') rfl rfl).trans ?_;unfold nbW;rw[hx,Bx];exact eO (hw.keeps K') (by lia)
    have hfl:(A6 ((Rn (nbW ts) s (i+j)).drop n0)).length<=1000:=by unfold A6;rw[AC,Hi];lia
    obtain⟨z',S2,N,h2,g1,g2,g3,g4,g5⟩:=ah (g:=2) (v:=6) (a:=4) (mval:=m2 Ff (m2 ixA (AB 2) (AB 5)) (mC (.int 1))) (E:=λz=>[sR q,some d1,sR dI,sR ly,sR S.length,sI a.1,z]) (dI:=dI) (fI:=S.length) (d:=a.2) (L:=Rn (nbW ts) s (i+j)) (ys:=nbW ts a.1) (z:=y6) (S:=S') (vw:=D0 ((nbW ts a.1).map D.int)) (λ_ _=>rfl)
     (λ_ _=>rfl) (λ_ _=>rfl) (λ_ _=>rfl) (λ_ _ _=>rfl)
     (λy S2 N hd hf nd=>by
      refine BO (BO rfl rfl (Oj hd nd (CQ.mpr ⟨a.2,Az _ (BD hat)⟩))) rfl ?_;rw[R8 nd (show(a.1,a.2)∈Rn (nbW ts) s (i+j)++N from Az _ (BD hat))]
      rfl)
     D' F' (Aq hdS) hbf.nd (by lia) hfl (hlen _)
    refine⟨.nx [sR q,some d1,sR dI,sR ly,sR S.length,sI a.1,z'],S2,(Et (M0 c1)).trans h2,_,z',rfl,UL K' hdI (by have:=K.1;omega) g4 g5,?_,?_,?_⟩
    ·rw[g2,<-g1]
     show some (Ob.dK (mD (Ih a.2 (nbW ts a.1) (Rn (nbW ts) s (i+j)))))=some (Ob.dK (mD (NZ (nbW ts) (Rn (nbW ts) s (i+j)) (i+j))));rw[NY hat]
    ·have e1:Rn (nbW ts) s (i+(j+1))=Rn (nbW ts) s (i+j)++N:=by
      show NZ (nbW ts) (Rn (nbW ts) s (i+j)) (i+j)=_;rw[NY hat,g1]
     have hle:n0<=(Rn (nbW ts) s (i+j)).length:=by
      obtain⟨N',e2⟩:=Sx (nb:=nbW ts) (s:=s) i j;rw[e2,Ad]
      lia
     rw[g3,e1,List.drop_append_of_le_length hle,C9]
    ·rw[g5 ly (CB hdl) (Aq hlS)]
     exact L')
  (by
   rintro e S' ⟨y5,y6,rfl,K',D',F',L'⟩
   have e1:i+((A6 ((Rn (nbW ts) s i).drop i)).map D.int).length=n0:=by
    unfold A6;rw[AC,AC,Hi]
    lia
   rw[e1]at D' F'
   exact⟨_,_,rfl,K',D',F'⟩)
 exact⟨y5,y6,S1,(A9 s4).trans ((A9 ((Et (Fo (m:=AB 3) (n:=ly) rfl (k0.at hL))).trans h1)).trans rfl),K1,D1,F1⟩
def Tg{S:Sto}(hw:G0 W S q p ts)(hp:p<=60)(hnb:∀x:Int,0<=x->x < p->∀y∈nbW ts x,0<=y/\y < p)(hlen:∀x,(nbW ts x).length<=1000)(hs:0<=s/\s < p) :
  ∃S' i,DU W [.ref q,.int s] S=.ok (.ref S.length) S'/\Keeps S S'/\S'[S.length]?=some (.dK (mD (Rn (nbW ts) s i)))/\(Rn (nbW ts) s i).length<=i:=by
 have s2:Bj 2 (Pu (AB 1) (mC (.int 0))) (DF 7 [.ref q,.int s]) S=oN [sR q,sI s,sR S.length,none,none,none,none] (S++[.dK (mD [(s,0)])]):=DG (i:=2) (fS rfl rfl);have s3:Bj 3 (Cq (Cn (AI (AB 1) Au))) [sR q,sI s,sR S.length,none,none,none,none] (S++[.dK (mD [(s,0)])])=.ok (.nx [sR q,sI s,sR S.length,some (.ref (S++[Ob.dK (mD [(s,0)])]).length),none,none,none]) (S++[.dK (mD [(s,0)])]++[.lst [.int s]]):=rfl
 obtain⟨e',S',h,i,z3,z4,z5,z6,rfl,K,D1,hl⟩:=TR (t:=Io (AB 3)) (b:=bW W)
  (λk e S'=>∃(i ly:Nat) (z4 z5 z6:Option D),e=[sR q,sI s,sR S.length,sR ly,z4,z5,z6]/\Keeps S S'/\S.length < ly/\S'[S.length]?=some (.dK (mD (Rn (nbW ts) s i)))/\S'[ly]?=some (.lst ((A6 ((Rn (nbW ts) s i).drop i)).map D.int))/\i<=(Rn (nbW ts) s i).length/\k+i=p)
  (λe S'=>∃(i:Nat) (z3 z4 z5 z6:Option D),e=[sR q,sI s,sR S.length,z3,z4,z5,z6]/\Keeps S S'/\S'[S.length]?=some (.dK (mD (Rn (nbW ts) s i)))/\(Rn (nbW ts) s i).length<=i)
  (by
   rintro k e S' ⟨i,ly,z4,z5,z6,rfl,K,hly,hD,hL,hi,hk⟩;have t:=cm (m:=AB 3) (e:=[sR q,sI s,sR S.length,sR ly,z4,z5,z6]) rfl hL
   by_cases c:i < (Rn (nbW ts) s i).length
   ·refine .inr ?_
    have hne:((A6 ((Rn (nbW ts) s i).drop i)).map D.int).isEmpty=false:=by
     cases hq:(A6 ((Rn (nbW ts) s i).drop i)).map D.int with
     | nil=>
      have:=congrArg Gh hq;unfold A6 at this;rw[AC,AC,Hi]at this;simp at this
      lia
     | cons _ _=>rfl
    rw[hne]at t;obtain⟨y5,y6,S2,g1,g2,g3,g4⟩:=Ze (d1:=.int s) (z4:=z4) (z5:=z5) (z6:=z6) hw hp hnb hlen hs K (AQ _) (OH hly) (Aq hly) hD hL hi;have hb:=(Rf hnb hs i).len;have hlS:ly < S'.length:=(AF.mp hL).1;refine⟨S',_,S2,p - (Rn (nbW ts) s i).length,t,g1,by lia,(Rn (nbW ts) s i).length,S'.length,_,_,_,rfl,g2,by lia,g3,g4,?_,by lia⟩;obtain⟨N,e2⟩:=Sx (nb:=nbW ts) (s:=s) i ((Rn (nbW ts) s i).length - i);rw[show i+((Rn (nbW ts) s i).length - i)=(Rn (nbW ts) s i).length by lia]at e2;rw[e2,Ad]
    lia
   ·refine .inl ⟨S',?_,i,_,_,_,_,rfl,K,hD,by lia⟩
    rw[t,Uj (by lia)]
    rfl)
  wN p [sR q,sI s,sR S.length,some (.ref (S++[Ob.dK (mD [(s,0)])]).length),none,none,none] (S++[.dK (mD [(s,0)])]++[.lst [.int s]])
  ⟨0,_,none,none,none,rfl,(Keeps.app _ _).trans (Keeps.app _ _),by simp,(Keeps.app _ _).at (By _ _),By _ _,Cr _,rfl⟩ (show p < 1000000 by lia)
 refine⟨S',i,DJ (n:=7) (mb:=KG W) ?_,K,D1,hl⟩;unfold KG;exact(A9 s2).trans ((A9 s3).trans ((A9 h).trans rfl))
end
def mF(x:Nat):D:=.int x
def eW{m:ME}{e:Lo}{S S1:Sto}{d:D}{ds:List D}(h:m e S=.ok d S1)(hs:Fa d S1=some ds)(hl:ds.length<=1000000):Cq (mN Ms (Ip m)) e S=.ok (.ref S1.length) (S1++[.lst ds]):=by
 refine J2 ?_;unfold mN;rw[WV h hs];rfl
def Xl(n:Nat):C2 0 n=(BA n).map mF:=by
 refine DN λi=>?_
 rw[NW,AN]
 by_cases h:i < n
 ·rw[qX h,BU h,OI];rfl
 ·rw[qY h,BJ (by simpa using h)];rfl
def ft{ma mb:ME}{e:Lo}{S S1 S2:Sto}{d:D}(h1:ma e S=.ok (.bl true) S1)(h2:mb e S1=.ok d S2):JB ma mb e S=.ok d S2:=by
 unfold JB;rw[h1];exact h2
section
variable{nb:Int->List Int}{p:Nat}
def Fd.back{s:Int}{L:Met}(h:Fd nb p s L)(hsym:∀x y:Int,0<=x->0<=y->y∈nb x->x∈nb y){C:List Int}(hC:∀x∈C,∀y∈nb x,y∈C):∀(d:Nat) (z:Int),(z,(d:Int))∈L->z∈C->s∈C
 | 0,z,hz,hc=>by
  have:z=s:=h.zero _ hz rfl;rw[<-this];exact hc
 | d+1,z,hz,hc=>by
  obtain⟨b,hb,e1,e2⟩:=h.par _ hz (by dsimp only;lia);have hbz:b.1∈nb z:=hsym b.1 z (h.rng _ hb).1 (h.rng _ hz).1 e2
  have e3:b.2=d:=by dsimp only at e1;lia
  exact Fd.back h hsym hC d b.1 (by rw[<-e3];exact hb) (hC z hc b.1 hbz)
def Fd.meets{s:Int}{L:Met}(h:Fd nb p s L)(hsym:∀x y:Int,0<=x->0<=y->y∈nb x->x∈nb y){C:List Int}(hC:∀x∈C,∀y∈nb x,y∈C){z:Int}(hz:z∈A6 L)(hc:z∈C):s∈C:=by
 obtain⟨d,hd⟩:=CQ.mp hz;have:=h.nn _ hd;exact h.back hsym hC d.toNat z (by dsimp only at this;rw[Bg this];exact hd) hc
def Fd.closed{s:Int}{L:Met}(h:Fd nb p s L):∀x∈A6 L,∀y∈nb x,y∈A6 L:=λx hx y hy=>by
 obtain⟨d,hd⟩:=CQ.mp hx;obtain⟨d',hd',_⟩:=h.cl _ hd y hy;exact CQ.mpr ⟨d',hd'⟩
end
def cov(nb:Int->List Int)(p:Nat)(R:List Nat):Met:=(R.map λs:Nat=>Rn nb s p).flatten
def Kw(nb:Int->List Int)(p:Nat)(R:List Nat)(x:Nat):cov nb p (R++[x])=cov nb p R++Rn nb x p:=by
 unfold cov;rw[A2,IL];simp
def M3{nb:Int->List Int}{p:Nat}{R:List Nat}{z:Int}:z∈A6 (cov nb p R)↔∃s∈R,z∈A6 (Rn nb s p):=by
 constructor
 ·intro h
  obtain⟨d,hd⟩:=CQ.mp h;obtain⟨l,hl,hz⟩:=OU.mp hd;obtain⟨s,hs,rfl⟩:=Ag.mp hl;exact⟨s,hs,CQ.mpr ⟨d,hz⟩⟩
 ·rintro⟨s,hs,h⟩
  obtain⟨d,hd⟩:=CQ.mp h;exact CQ.mpr ⟨d,OU.mpr ⟨_,Ag.mpr ⟨s,hs,rfl⟩,hd⟩⟩
def wk(nb:Int->List Int)(p:Nat):Nat->List Nat
 | 0=>[]
 | x+1=>if (x:Int)∈A6 (cov nb p (wk nb p x))then wk nb p x else wk nb p x++[x]
structure Wk(nb:Int->List Int)(p x:Nat)(R:List Nat):Prop where
 of:∀s∈R,s < x/\∀a∈A6 (Rn nb s p),(s:Int)<=a
 nd:(A6 (cov nb p R)).Nodup
 all:∀y:Nat,y < x->(y:Int)∈A6 (cov nb p R)
 up:R.Pairwise (· < ·)
section
variable{nb:Int->List Int}{p:Nat}(hnb:∀x:Int,0<=x->x < p->∀y∈nb x,0<=y/\y < p)(hsym:∀x y:Int,0<=x->0<=y->y∈nb x->x∈nb y)
include hnb in
theorem JN{s:Nat}(h:s < p):Fd nb p s (Rn nb s p):=(Rf hnb ⟨by lia,by lia⟩ p).fd (Rf hnb ⟨by lia,by lia⟩ p).len
include hnb hsym in
theorem Wk.step{x:Nat}(hx:x < p){R:List Nat}(h:Wk nb p x R):Wk nb p (x+1) (if (x:Int)∈A6 (cov nb p R)then R else R++[x])/\((x:Int)∉A6 (cov nb p R)->∀z∈A6 (Rn nb x p),z∉A6 (cov nb p R)):=by
 have hF:=JN hnb hx
 have hC:∀a∈A6 (cov nb p R),∀y∈nb a,y∈A6 (cov nb p R):=λa ha y hy=>by
  obtain⟨s,hs,ha⟩:=M3.mp ha;exact M3.mpr ⟨s,hs,(JN hnb (show s < p by have:=(h.of s hs).1;lia)).closed a ha y hy⟩
 have hdis:(x:Int)∉A6 (cov nb p R)->∀z∈A6 (Rn nb x p),z∉A6 (cov nb p R):=λc z hz hc=>c (hF.meets hsym hC hz hc)
 refine⟨?_,hdis⟩
 by_cases c:(x:Int)∈A6 (cov nb p R)
 ·rw[qX c]
  refine⟨λs hs=>⟨by have:=(h.of s hs).1;lia,(h.of s hs).2⟩,h.nd,λy hy=>?_,h.up⟩
  by_cases e:y=x
  ·rw[e];exact c
  ·exact h.all y (by lia)
 ·rw[qY c]
  have hdis:=hdis c
  have hle:∀a∈A6 (Rn nb x p),(x:Int)<=a:=λa ha=>by
   by_cases e:(x:Int)<=a
   ·exact e
   ·obtain⟨d,hd⟩:=CQ.mp ha
    have h0:=(hF.rng _ hd).1;dsimp only at h0;have:=h.all a.toNat (by lia);rw[Bg h0]at this;exact zX this (hdis a ha)
  have hself:(x:Int)∈A6 (Rn nb x p):=CQ.mpr ⟨0,hF.src⟩;refine⟨λs hs=>?_,?_,λy hy=>?_,?_⟩
  ·rcases Ae.mp hs with hs | hs
   ·exact⟨by have:=(h.of s hs).1;lia,(h.of s hs).2⟩
   ·rw[AO.mp hs]
    exact⟨by lia,hle⟩
  ·rw[Kw,C9]
   exact B3.mpr ⟨h.nd,hF.nd,λa ha b hb e=>hdis b hb (e▸ha)⟩
  ·rw[Kw,C9]
   by_cases e:y=x
   ·rw[e];exact A4 _ hself
   ·exact Az _ (h.all y (by lia))
  ·refine BZ.mpr ⟨h.up,KJ _ _,λs hs t ht=>?_⟩
   rw[AO.mp ht];exact(h.of s hs).1
include hnb hsym in
theorem Q6:∀x:Nat,x<=p->Wk nb p x (wk nb p x)
 | 0,_=>⟨λ_ h=>zX h Bl,FX,λy h=>zX h (Ge _),Q4⟩
 | x+1,h=>((Q6 x (by lia)).step hnb hsym (by lia)).1
def Iz(nb:Int->List Int)(p s:Nat):List Int:=C1 (A6 (Rn nb s p))
include hnb in
theorem Z0{s:Nat}(h:s < p):(Iz nb p s).Pairwise (· < ·):=ZX (JN hnb h).nd
include hnb in
include hnb in
theorem VU{s:Nat}(h:s < p)(hle:∀a∈A6 (Rn nb s p),(s:Int)<=a):∃l,Iz nb p s=(s:Int) :: l:=by
 have hm:(s:Int)∈Iz nb p s:=(Dc _).mem_iff.mpr (CQ.mpr ⟨0,(JN hnb h).src⟩);have hup:=Z0 hnb h
 cases hq:Iz nb p s with
 | nil=>rw[hq]at hm;cases hm
 | cons a l=>
  refine⟨l,?_⟩;rw[hq]at hm hup;have h1:=hle a ((Dc _).mem_iff.mp (show a∈Iz nb p s by rw[hq];exact A1))
  rcases Aw.mp hm with e | e
  ·rw[e]
  ·have:=(Yo.mp hup).1 _ e
   lia
end
def Nf:∀(L C:Met),(A6 L).Nodup->(∀z∈A6 L,z∉A6 C)->Ng (mD C) (mD L)=mD (C++L)
 | [],C,_,_=>by rw[BW];rfl
 | a :: L,C,nd,hd=>by
  obtain⟨n1,n2⟩:=CW.mp (show(a.1 :: A6 L).Nodup from nd);have e:Ng (mD C) (mD (a :: L))=Ng (CF (mD C) (CL a.1) (.int a.2)) (mD L):=rfl;rw[e,aI (hd a.1 A1),Nf L (C++[(a.1,a.2)]) n2 (λz hz hc=>?_),BN]
  ·rfl
  ·rw[C9]at hc
   rcases Ae.mp hc with hc | hc
   ·exact hd z (Aj _ hz) hc
   ·have:z=a.1:=by simpa[A6]using hc
    exact n1 (this▸hz)
def fP{mo ma:ME}{e:Lo}{S:Sto}{n m:Nat}{C L:Met}(ho:mo e S=.ok (.ref n) S)(ha:ma e S=.ok (.ref m) S)(hn:S[n]?=some (.dK (mD C)))(hm:S[m]?=some (.dK (mD L)))(hne:n≠m)(nd:(A6 L).Nodup)(hd:∀z∈A6 L,z∉A6 C)(hl:C.length+L.length<=1000) :
  Lb mo ma e S=.ok .non (S.set n (.dK (mD (C++L)))):=by
 unfold Lb;rw[ho];dsimp only[Res.bind];rw[hn];dsimp only;rw[ha];dsimp only;rw[hn,hm];dsimp only;rw[qX ⟨hne,by unfold mD;rw[AC,AC];exact At hl (by decide)⟩,Nf L C nd hd]
def X8{S:Sto}{n:Nat}{L:Met}(h:S[n]?=some (.dK (mD L))):HM (.ref n) S=some ((A6 L).map D.int):=by
 unfold HM;dsimp only;rw[h];dsimp only;unfold mD A6;rw[Ax,Ax];rfl
abbrev mw(W:Wd):MS:=sIf (mB (m2 (inA true) (AB 3) (AB 2))) (BF (Bj 4 (BI 2 (DU W) (AI (AB 0) (AI (AB 3) Au))))
  (BF (CH (Lb (AB 2) (AB 4)))
  (CH (FU (AB 1) (Fe (Ch (AB 4))))))) sNx
section
variable{W:Wd}{q p:Nat}{ts:List (Int×Int)}
def Zz{S:Sto}(hw:G0 W S q p ts)(hp:p<=60)(hnb:∀x:Int,0<=x->x < p->∀y∈nbW ts x,0<=y/\y < p)(hlen:∀x,(nbW ts x).length<=1000)(hsym:∀x y:Int,0<=x->0<=y->y∈nbW ts x->x∈nbW ts y) :
  ∃S',Ia W [.ref q] S=.ok (.ref S.length) S'/\Keeps S S'/\S'[S.length]?=some (.lst (((wk (nbW ts) p p).map (Iz (nbW ts) p)).map B8)):=by
 have s1:Bj 1 (Cq (Cn Au)) (DF 5 [.ref q]) S=oN [sR q,sR S.length,none,none,none] (S++[.lst []]):=rfl
 have s2:Bj 2 Hs [sR q,sR S.length,none,none,none] (S++[.lst []])=oN [sR q,sR S.length,sR (S.length+1),none,none] (S++[.lst []]++[.dK []]):=by
  show Res.ok (Fl.nx [sR q,sR S.length,some (.ref (S++[Ob.lst []]).length),none,none]) (S++[.lst []]++[.dK []])=_;rw[Ad];rfl
 have K0:Keeps S (S++[.lst []]++[.dK []]):=(Keeps.app _ _).trans (Keeps.app _ _)
 have hi:iR1 (AI (HJ W.Web "places" (AB 0)) Au) [sR q,sR S.length,sR (S.length+1),none,none] (S++[.lst []]++[.dK []])=.ok (D0 (C2 0 p)) (S++[.lst []]++[.dK []]):=by
  have:=Lx (ml:=AI (HJ W.Web "places" (AB 0)) Au) (e:=[sR q,sR S.length,sR (S.length+1),none,none]) (S:=S++[.lst []]++[.dK []]) (S1:=S++[.lst []]++[.dK []]) (j:=p) (BX ((hw.keeps K0).places rfl) rfl) (by lia) (by lia);simpa using this
 obtain⟨f,S1,h1,z3,z4,rfl,K1,P1⟩:=GP (v:=D0 (C2 0 p)) (g:=tgN 3) (b:=mw W) (xs:=C2 0 p) (e:=[sR q,sR S.length,sR (S.length+1),none,none]) (S:=S++[.lst []]++[.dK []])
  (λx e S'=>∃z3 z4,e=[sR q,sR S.length,sR (S.length+1),z3,z4]/\Keeps S S'/\S'[S.length]?=some (.lst (((wk (nbW ts) p x).map (Iz (nbW ts) p)).map B8))/\S'[S.length+1]?=some (.dK (mD (cov (nbW ts) p (wk (nbW ts) p x)))))
  (λf S'=>∃z3 z4,f=.nx [sR q,sR S.length,sR (S.length+1),z3,z4]/\Keeps S S'/\S'[S.length]?=some (.lst (((wk (nbW ts) p p).map (Iz (nbW ts) p)).map B8)))
  ⟨none,none,rfl,K0,(Keeps.app _ _).at (By _ _),by
   have:=By (S++[Ob.lst []]) (.dK []);rw[Ad]at this
   exact this⟩ (λ_ _ _ _=>rfl)
  (by
   rintro x d e S' hd ⟨z3,z4,rfl,K,hP,hC⟩;obtain⟨hx,rfl⟩:=Jf hd;rw[OI];have hW:=Q6 hnb hsym x (by lia);obtain⟨hW',hdis⟩:=hW.step hnb hsym hx;refine⟨[sR q,sR S.length,sR (S.length+1),sI x,z4],S',rfl,?_⟩;have t1:mB (m2 (inA true) (AB 3) (AB 2)) [sR q,sR S.length,sR (S.length+1),sI x,z4] S'=.ok (!decide ((x:Int)∈A6 (cov (nbW ts) p (wk (nbW ts) p x)))) S':=GR (BO rfl rfl (ai hC true x));have ic:=EU (a:=BF (Bj 4 (BI 2 (DU W) (AI (AB 0) (AI (AB 3) Au)))) (BF (CH (Lb (AB 2) (AB 4))) (CH (FU (AB 1) (Fe (Ch (AB 4))))))) (b:=sNx) t1
   by_cases c:(x:Int)∈A6 (cov (nbW ts) p (wk (nbW ts) p x))
   ·rw[wX c]at ic
    have e1:wk (nbW ts) p (x+1)=wk (nbW ts) p x:=qX c;refine⟨_,S',ic.trans rfl,_,_,rfl,K,?_,?_⟩
    ·rw[e1];exact hP
    ·rw[e1];exact hC
   ·rw[wY c]at ic
    have e1:wk (nbW ts) p (x+1)=wk (nbW ts) p x++[x]:=qY c;obtain⟨S2,i,c2,K2,D2,hi⟩:=Tg (s:=(x:Int)) (hw.keeps K) hp hnb hlen ⟨by lia,by lia⟩;have hF:=JN hnb hx;rw[ba hi hF.len]at D2;have s4:Bj 4 (BI 2 (DU W) (AI (AB 0) (AI (AB 3) Au))) [sR q,sR S.length,sR (S.length+1),sI x,z4] S'=oN [sR q,sR S.length,sR (S.length+1),sI x,sR S'.length] S2:=DG (i:=4) ((B6 (ds:=[.ref q,.int x]) (S1:=S') rfl rfl).trans c2);have hCl:S.length+1 < S'.length:=(AF.mp hC).1
    have hcov:(cov (nbW ts) p (wk (nbW ts) p x)).length<=p:=by
     have:=N2 p _ hW.nd λz hz=>by
      obtain⟨s,hs,hz⟩:=M3.mp hz;obtain⟨d,hd⟩:=CQ.mp hz;exact(JN hnb (show s < p by have:=(hW.of s hs).1;lia)).rng _ hd
     unfold A6 at this;rwa [AC]at this
    have u1:=fP (mo:=AB 2) (ma:=AB 4) (e:=[sR q,sR S.length,sR (S.length+1),sI x,sR S'.length]) rfl rfl (K2.at hC) D2 (by lia) hF.nd (hdis c) (by have:=hF.len;lia);rw[<-Kw,<-e1]at u1;have hC2:=(AF.mp (K2.at hC)).1
    have P3:(S2.set (S.length+1) (.dK (mD (cov (nbW ts) p (wk (nbW ts) p (x+1))))))[S.length]?=some (.lst (((wk (nbW ts) p x).map (Iz (nbW ts) p)).map B8)):=by
     rw[AW (by lia)];exact K2.at hP
    have D3:(S2.set (S.length+1) (.dK (mD (cov (nbW ts) p (wk (nbW ts) p (x+1))))))[S'.length]?=some (.dK (mD (Rn (nbW ts) x p))):=by
     rw[AW (by lia)];exact D2
    have C3:(S2.set (S.length+1) (.dK (mD (cov (nbW ts) p (wk (nbW ts) p (x+1))))))[S.length+1]?=some (.dK (mD (cov (nbW ts) p (wk (nbW ts) p (x+1))))):=Ao hC2;have K3:Keeps S (S2.set (S.length+1) (.dK (mD (cov (nbW ts) p (wk (nbW ts) p (x+1)))))):=(K.trans K2).set (G2 _) _;generalize S2.set (S.length+1) (Ob.dK (mD (cov (nbW ts) p (wk (nbW ts) p (x+1)))))=S3 at u1 P3 D3 C3 K3;have so:=FK (m:=AB 4) (e:=[sR q,sR S.length,sR (S.length+1),sI x,sR S'.length]) (S:=S3) rfl (X8 D3) (Lk (A6 (Rn (nbW ts) x p)));have tu:=IR so (CY (By _ _));have K4:=Keeps.app S3 [.lst ((C1 (A6 (Rn (nbW ts) x p))).map D.int)];have P4:=K4.at P3
    have hwl:(wk (nbW ts) p x).length<=x:=by
     have h1:=N2 x ((wk (nbW ts) p x).map λs:Nat=>(s:Int)) (Bv.mpr (hW.up.imp λ{a b} h e=>by lia)) λz hz=>by
      obtain⟨s,hs,rfl⟩:=Ag.mp hz;have:=(hW.of s hs).1
      lia
     rwa [AC]at h1
    have a1:=Ig (mo:=AB 1) (e:=[sR q,sR S.length,sR (S.length+1),sI x,sR S'.length]) rfl P3 tu P4 (by rw[AC,AC];exact Ay (show(wk (nbW ts) p x).length<=100 by lia) (by decide));refine⟨_,_,ic.trans ((qX rfl).trans ((A9 s4).trans ((A9 (DV u1)).trans (DV a1)))),_,_,rfl,(K3.trans K4).set (AQ _) _,?_,?_⟩
    ·rw[Ao (AF.mp P4).1,e1,A2,A2]
     rfl
    ·rw[AW (by lia)]
     exact K4.at C3)
  (by
   rintro e S' ⟨z3,z4,rfl,K,hP,_⟩;rw[IJ]at hP
   exact⟨_,_,rfl,K,hP⟩)
 refine⟨S1,DJ (n:=5) (mb:=L1 W) ?_,K1,P1⟩;unfold L1;exact(A9 s1).trans ((A9 s2).trans ((A9 ((Et hi).trans h1)).trans rfl))
end
section
variable{nb:Int->List Int}{p:Nat}
abbrev V1(nb:Int->List Int)(p:Nat):Met:=cov nb p (wk nb p p)
abbrev col(nb:Int->List Int)(p:Nat)(x:Int):Int:=stp (V1 nb p) x % 2
variable(hnb:∀x:Int,0<=x->x < p->∀y∈nb x,0<=y/\y < p)(hsym:∀x y:Int,0<=x->0<=y->y∈nb x->x∈nb y)
include hnb hsym in
theorem M9{x:Int}(h0:0<=x)(h1:x < p):x∈A6 (V1 nb p):=by
 have:=(Q6 hnb hsym p (AQ _)).all x.toNat (by lia);rwa [Bg h0]at this
include hnb hsym in
theorem W7{s:Nat}(hs:s∈wk nb p p){a:Int×Int}(ha:a∈Rn nb s p):a∈V1 nb p:=OU.mpr ⟨_,Ag.mpr ⟨s,hs,rfl⟩,ha⟩
include hnb hsym in
def JF(nb:Int->List Int)(p:Nat)(c:Int->Int):Prop:=∀a b:Int,0<=a->a < p->b∈nb a->c a≠c b
include hnb hsym in
theorem Vx{c:Int->Int}(h01:∀x:Int,0<=x->x < p->c x=0∨c x=1)(hc:JF nb p c):JF nb p (col nb p):=by
 have hW:=Q6 hnb hsym p (AQ _)
 have key:∀s∈wk nb p p,∀(d:Nat) (z:Int),(z,(d:Int))∈Rn nb s p->(c z+c s+d) % 2=0:=by
  intro s hs d;have hsp:=(hW.of s hs).1;have hF:=JN hnb hsp
  induction d with
  | zero=>
   intro z hz;have:z=s:=hF.zero _ hz rfl;subst this
   rcases h01 s (by lia) (by lia)with e | e <;> rw[e] <;> rfl
  | succ d ih=>
   intro z hz;obtain⟨b,hb,e1,e2⟩:=hF.par _ hz (by dsimp only;lia)
   have e3:b.2=d:=by dsimp only at e1;lia
   have hi:=ih b.1 (by rw[<-e3];exact hb);have hbr:=hF.rng _ hb;have hzr:=hF.rng _ hz;have hne:=hc b.1 z hbr.1 hbr.2 e2;dsimp only at hzr
   rcases h01 b.1 hbr.1 hbr.2 with e | e <;> rcases h01 z hzr.1 hzr.2 with e' | e' <;> rw[e,e']at hne <;> rw[e]at hi <;> rw[e'] <;> lia
 intro a b ha0 ha hb e;have hbr:=hnb a ha0 ha b hb;obtain⟨s,hs,hz⟩:=M3.mp (M9 hnb hsym ha0 ha);have hsp:=(hW.of s hs).1;have hF:=JN hnb hsp;obtain⟨d,hd⟩:=CQ.mp hz;obtain⟨d',hd',_⟩:=hF.cl _ hd b hb;have e1:=R8 hW.nd (W7 hnb hsym hs hd);have e2:=R8 hW.nd (W7 hnb hsym hs hd');have n1:=hF.nn _ hd;have n2:=hF.nn _ hd';dsimp only at n1 n2;have k1:=key s hs d.toNat a (by rw[Bg n1];exact hd);have k2:=key s hs d'.toNat b (by rw[Bg n2];exact hd');have e:stp (V1 nb p) a % 2=stp (V1 nb p) b % 2:=e;rw[e1,e2]at e;have hne:=hc a b ha0 ha hb
 rcases h01 a ha0 ha with f | f <;> rcases h01 b hbr.1 hbr.2 with f' | f' <;> rw[f,f']at hne <;> rw[f]at k1 <;> rw[f']at k2 <;> lia
end
def eY{S:Sto}{a:Int}{l:List Int}:ixA (B8 (a :: l)) (.int 0) S=.ok (.int a) S:=Oh (d:=B8 (a :: l)) (ds:=(a :: l).map D.int) (j:=0) rfl (by lia) rfl
section
variable{W:Wd}{q p:Nat}{ts:List (Int×Int)}
abbrev mq(W:Wd):MS:=CH (Lb (AB 1) (BI 2 (DU W) (AI (AB 0) (AI (m2 ixA (AB 2) (mC (.int 0))) Au))))
def fQ{mo ma:ME}{e:Lo}{S S2:Sto}{n m:Nat}{C L:Met}(ho:mo e S=.ok (.ref n) S)(hn0:S[n]?=some (.dK (mD C)))(ha:ma e S=.ok (.ref m) S2)(hn:S2[n]?=some (.dK (mD C)))(hm:S2[m]?=some (.dK (mD L)))(hne:n≠m)(nd:(A6 L).Nodup)(hd:∀z∈A6 L,z∉A6 C)(hl:C.length+L.length<=1000) :
  Lb mo ma e S=.ok .non (S2.set n (.dK (mD (C++L)))):=by
 unfold Lb;rw[ho];dsimp only[Res.bind];rw[hn0];dsimp only;rw[ha];dsimp only;rw[hn,hm];dsimp only;rw[qX ⟨hne,by unfold mD;rw[AC,AC];exact At hl (by decide)⟩,Nf L C nd hd]
def io{S:Sto}(hw:G0 W S q p ts)(hp:p<=60)(hnb:∀x:Int,0<=x->x < p->∀y∈nbW ts x,0<=y/\y < p)(hlen:∀x,(nbW ts x).length<=1000)(hsym:∀x y:Int,0<=x->0<=y->y∈nbW ts x->x∈nbW ts y) :
  ∃S',FV W [.ref q] S=.ok (.ref S.length) S'/\Keeps S S'/\S'[S.length]?=some (.dK (mD (V1 (nbW ts) p))):=by
 have s1:Bj 1 Hs (DF 3 [.ref q]) S=oN [sR q,sR S.length,none] (S++[.dK []]):=rfl;have K0:=Keeps.app S [.dK []];obtain⟨S1,c1,K1,P1⟩:=Zz (hw.keeps K0) hp hnb hlen hsym;have hW:=Q6 hnb hsym p (AQ _);have hD1:=K1.at (By S (.dK []))
 have hcl:∀R:List Nat,(∀s∈R,s < p)->(A6 (cov (nbW ts) p R)).Nodup->(cov (nbW ts) p R).length<=p:=λR hR nd=>by
  have:=N2 p _ nd λz hz=>by
   obtain⟨s,hs,hz⟩:=M3.mp hz;obtain⟨d,hd⟩:=CQ.mp hz;exact(JN hnb (hR s hs)).rng _ hd
  unfold A6 at this;rwa [AC]at this
 rw[Ax]at P1
 obtain⟨f,S2,h2,z2,rfl,K2,D2⟩:=GP (v:=Ea (.ref (S++[Ob.dK []]).length)) (g:=tgN 2) (b:=mq W) (xs:=(wk (nbW ts) p p).map (B8∘Iz (nbW ts) p)) (e:=[sR q,sR S.length,none]) (S:=S1)
  (λi e S'=>∃z2,e=[sR q,sR S.length,z2]/\Keeps S S'/\S'[(S++[Ob.dK []]).length]?=some (.lst ((wk (nbW ts) p p).map (B8∘Iz (nbW ts) p)))/\S'[S.length]?=some (.dK (mD (cov (nbW ts) p ((wk (nbW ts) p p).take i)))))
  (λf S'=>∃z2,f=.nx [sR q,sR S.length,z2]/\Keeps S S'/\S'[S.length]?=some (.dK (mD (V1 (nbW ts) p))))
  ⟨none,rfl,K0.trans K1,P1,by rw[List.take_zero];exact hD1⟩ (by rintro i e S' ⟨_,_,_,h,_⟩;exact DW h)
  (by
   rintro i d e S' hd ⟨z2,rfl,K,hP,hD⟩;rw[AN]at hd
   cases hq:(wk (nbW ts) p p)[i]? with
   | none=>rw[hq]at hd;cases hd
   | some s=>
    rw[hq]at hd;cases hd;have hs:=BD hq;have hsp:=(hW.of s hs).1;obtain⟨l,e1⟩:=VU hnb hsp (hW.of s hs).2;obtain⟨S3,j,c3,K3,D3,hj⟩:=Tg (s:=(s:Int)) (hw.keeps K) hp hnb hlen ⟨by lia,by lia⟩;have hF:=JN hnb hsp;rw[ba hj hF.len]at D3;have c4:BI 2 (DU W) (AI (AB 0) (AI (m2 ixA (AB 2) (mC (.int 0))) Au)) [sR q,sR S.length,some (B8 (Iz (nbW ts) p s))] S'=.ok (.ref S'.length) S3:=(B6 (ds:=[.ref q,.int s]) (S1:=S') (BX rfl (BX (BO rfl rfl (by rw[e1];exact eY)) rfl)) rfl).trans c3;have etk:(wk (nbW ts) p p).take (i+1)=(wk (nbW ts) p p).take i++[s]:=take_snoc hq
    have hnd:(A6 (cov (nbW ts) p ((wk (nbW ts) p p).take (i+1)))).Nodup:=by
     have e5:wk (nbW ts) p p=(wk (nbW ts) p p).take (i+1)++(wk (nbW ts) p p).drop (i+1):=(E6 _ _).symm;have h6:=hW.nd;rw[e5]at h6;unfold cov at h6;rw[A2,IL,C9]at h6;exact(B3.mp h6).1
    rw[etk,Kw,C9]at hnd;obtain⟨n1,n2,n3⟩:=B3.mp hnd;have hSl:S.length < S'.length:=(AF.mp hD).1;have hPl:(S++[Ob.dK []]).length < S'.length:=(AF.mp hP).1
    have u1:=fQ (mo:=AB 1) (e:=[sR q,sR S.length,some (B8 (Iz (nbW ts) p s))]) rfl hD c4 (K3.at hD) D3 (by lia) hF.nd (λz hz hc=>n3 z hc z hz rfl) (by
     have:=hcl ((wk (nbW ts) p p).take i) (λs hs=>(hW.of s (WD hs)).1) n1;have:=hF.len
     lia)
    refine⟨[sR q,sR S.length,some (B8 (Iz (nbW ts) p s))],S',rfl,_,_,DV u1,_,rfl,(K.trans K3).set (AQ _) _,?_,?_⟩
    ·rw[AW (by rw[Ad];simp)]
     exact K3.at hP
    ·rw[Ao (by have:=K3.1;lia),etk,Kw])
  (by
   rintro e S' ⟨z2,rfl,K,_,hD⟩;rw[AC,Cc]at hD
   exact⟨_,rfl,K,hD⟩)
 refine⟨S2,DJ (n:=3) (mb:=HQ W) ?_,K2,D2⟩;unfold HQ;have h0:AI (AB 0) Au [sR q,sR S.length,none] (S++[Ob.dK []])=.ok [.ref q] (S++[Ob.dK []]):=rfl;have hc0:BI 1 (Ia W) (AI (AB 0) Au) [sR q,sR S.length,none] (S++[.dK []])=.ok (.ref (S++[Ob.dK []]).length) S1:=(B6 h0 rfl).trans c1;have hv0:=Fo hc0 P1;have hfor:GK (D7 (BI 1 (Ia W) (AI (AB 0) Au))) (tgN 2) (mq W) [sR q,sR S.length,none] (S++[.dK []])=oN [sR q,sR S.length,z2] S2:=(Et hv0).trans h2;have hend:DH (AB 1) [sR q,sR S.length,z2] S2=.ok (.rt (.ref S.length)) S2:=rfl;exact(A9 s1).trans ((A9 hfor).trans hend)
end
section
variable{W:Wd}{q p:Nat}{ts:List (Int×Int)}
def bS{S:Sto}{d:Nat}{C:Met}(hw:G0 W S q p ts)(hd:S[d]?=some (.dK (mD C)))(nd:(A6 C).Nodup)(hin:∀x∈ts,x.1∈A6 C/\x.2∈A6 C) :
  ∃o,Eo W [.ref q,.ref d] S=.ok o S/\((o=.non/\∀x∈ts,stp C x.1 % 2≠stp C x.2 % 2)∨(∃x:Int×Int,o=pairD x/\x∈ts/\stp C x.1 % 2=stp C x.2 % 2)):=by
 obtain⟨f,S1,h1,rfl,hf⟩:=GP (v:=D0 (ts.map pairD)) (g:=EC 2 (Ba (tgN 2) (Ba (tgN 3) ET))) (b:=sIf (mB (m2 (eqD false) (m2 D6 (m2 ixA (AB 1) (AB 2)) (mC (.int 2))) (m2 D6 (m2 ixA (AB 1) (AB 3)) (mC (.int 2))))) (DH (Fn (AI (AB 2) (AI (AB 3) Au)))) sNx) (xs:=ts.map pairD) (e:=[sR q,sR d,none,none]) (S:=S)
  (λi e S'=>S'=S/\(∃z2 z3,e=[sR q,sR d,z2,z3])/\∀x∈ts.take i,stp C x.1 % 2≠stp C x.2 % 2)
  (λf S'=>S'=S/\(((∃e,f=.nx e)/\∀x∈ts,stp C x.1 % 2≠stp C x.2 % 2)∨∃x:Int×Int,f=.rt (pairD x)/\x∈ts/\stp C x.1 % 2=stp C x.2 % 2))
  ⟨rfl,⟨none,none,rfl⟩,λx h=>by simp at h⟩ (λ_ _ _ _=>rfl)
  (by
   rintro i y e S' hy ⟨rfl,⟨z2,z3,rfl⟩,hno⟩;rw[AN]at hy
   cases hx:ts[i]? with
   | none=>rw[hx]at hy;cases hy
   | some x=>
    rw[hx]at hy;cases hy;have hxm:=BD hx;obtain⟨i1,i2⟩:=hin x hxm;refine⟨[sR q,sR d,sI x.1,sI x.2],S',rfl,?_⟩;have t:mB (m2 (eqD false) (m2 D6 (m2 ixA (AB 1) (AB 2)) (mC (.int 2))) (m2 D6 (m2 ixA (AB 1) (AB 3)) (mC (.int 2)))) [sR q,sR d,sI x.1,sI x.2] S'=.ok (decide (stp C x.1 % 2=stp C x.2 % 2)) S':=GR (BO (BO (BO rfl rfl (Oj hd nd i1)) rfl (D8 (by decide))) (BO (BO rfl rfl (Oj hd nd i2)) rfl (D8 (by decide))) (Lz rfl));have ic:=EU (a:=DH (Fn (AI (AB 2) (AI (AB 3) Au)))) (b:=sNx) t
    by_cases c:stp C x.1 % 2=stp C x.2 % 2
    ·rw[wX c]at ic
     exact⟨.rt (pairD x),S',ic.trans rfl,rfl,.inr ⟨x,rfl,hxm,c⟩⟩
    ·rw[wY c]at ic
     refine⟨_,S',ic.trans rfl,rfl,⟨_,_,rfl⟩,λy hy=>?_⟩;rw[take_snoc hx]at hy
     rcases Ae.mp hy with hy | hy
     ·exact hno y hy
     ·rw[AO.mp hy];exact c)
  (by
   rintro e S' ⟨rfl,_,hno⟩;rw[AC,Cc]at hno
   exact⟨rfl,.inl ⟨⟨_,rfl⟩,hno⟩⟩)
 have hi:=M0 (m:=HJ W.Web "ties" (AB 0)) (e:=[sR q,sR d,none,none]) (hw.ties rfl)
 rcases hf with⟨⟨e,rfl⟩,hno⟩ | ⟨x,rfl,hx,hc⟩
 ·refine⟨.non,DJ (n:=4) (mb:=Fv W) ?_,.inl ⟨rfl,hno⟩⟩
  unfold Fv;exact(A9 ((Et hi).trans h1)).trans rfl
 ·refine⟨pairD x,DJ (n:=4) (mb:=Fv W) ?_,.inr ⟨x,rfl,hx,hc⟩⟩
  unfold Fv;exact NU ((Et hi).trans h1)
end
section
variable{W:Wd}{q p:Nat}{ts:List (Int×Int)}
def iV{S:Sto}(hw:G0 W S q p ts)(hp:p<=60)(hnb:∀x:Int,0<=x->x < p->∀y∈nbW ts x,0<=y/\y < p)(hlen:∀x,(nbW ts x).length<=1000)(hsym:∀x y:Int,0<=x->0<=y->y∈nbW ts x->x∈nbW ts y)(hts:∀x∈ts,(0<=x.1/\x.1 < p)/\x.2∈nbW ts x.1)(hall:∀a b:Int,0<=a->a < p->b∈nbW ts a->(a,b)∈ts∨(b,a)∈ts) :
  ∃o S',Ha W [.ref q] S=.ok o S'/\Keeps S S'/\((o=.non/\¬JF (nbW ts) p (col (nbW ts) p))∨(o=B8 ((BA p).map λx:Nat=>col (nbW ts) p x)/\JF (nbW ts) p (col (nbW ts) p))):=by
 obtain⟨S1,c1,K1,D1⟩:=io hw hp hnb hlen hsym;have hW:=Q6 hnb hsym p (AQ _);have s1:Bj 1 (BI 1 (FV W) (AI (AB 0) Au)) (DF 2 [.ref q]) S=oN [sR q,sR S.length] S1:=DG (i:=1) ((B6 (ds:=[.ref q]) (S1:=S) rfl rfl).trans c1);have w1:=hw.keeps K1
 obtain⟨o,c2,h2⟩:=bS w1 D1 hW.nd (λx hx=>by
  obtain⟨b1,b2⟩:=hts x hx;have b3:=hnb x.1 b1.1 b1.2 x.2 b2
  exact⟨M9 hnb hsym b1.1 b1.2,M9 hnb hsym b3.1 b3.2⟩)
 have c3:BI 2 (Eo W) (AI (AB 0) (AI (AB 1) Au)) [sR q,sR S.length] S1=.ok o S1:=(B6 (ds:=[.ref q,.ref S.length]) (S1:=S1) rfl rfl).trans c2
 rcases h2 with⟨rfl,hno⟩ | ⟨x,rfl,hx,hc⟩
 ·have hprop:JF (nbW ts) p (col (nbW ts) p):=λa b ha0 ha hb=>by
   rcases hall a b ha0 ha hb with h | h
   ·exact hno _ h
   ·exact λe=>hno _ h e.symm
  have t2:mB (m2 (YA true) (BI 2 (Eo W) (AI (AB 0) (AI (AB 1) Au))) (mC .non)) [sR q,sR S.length] S1=.ok false S1:=GR (BO c3 rfl rfl)
  have hi:iR1 (AI (HJ W.Web "places" (AB 0)) Au) [sR q,sR S.length] S1=.ok (D0 (C2 0 p)) S1:=by
   have:=Lx (ml:=AI (HJ W.Web "places" (AB 0)) Au) (e:=[sR q,sR S.length]) (S:=S1) (S1:=S1) (j:=p) (BX (w1.places rfl) rfl) (by omega) (by omega);simpa using this
  have q3:=aD (f:=mF) (g:=λx:Nat=>D.int (col (nbW ts) p x)) (l:=BA p) (v:=D0 (C2 0 p)) (m:=m2 D6 (m2 ixA (AB 2) (AB 0)) (mC (.int 2))) (e:=[sR q,sR S.length]) (S:=S1) (by rw[Xl];rfl) (by simp;omega) (λx hx=>BO (BO rfl rfl (Oj D1 hW.nd (M9 hnb hsym (by omega) (by have:=EQ.mp hx;omega)))) rfl (D8 (by decide)));have n3:=J2 ((LL (n:=1) (g:=tgN 0) (c:=EK) (m:=m2 D6 (m2 ixA (AB 2) (AB 0)) (mC (.int 2))) hi).trans q3);have tu:=IR n3 (CY (By _ _))
  have e4:D.tup ((BA p).map λx:Nat=>D.int (col (nbW ts) p x))=B8 ((BA p).map λx:Nat=>col (nbW ts) p x):=by unfold B8;rw[Ax];rfl
  rw[e4]at tu;refine⟨_,_,DJ (n:=2) (mb:=Fu W) ?_,K1.trans (Keeps.app S1 [.lst ((BA p).map λx:Nat=>D.int (col (nbW ts) p x))]),.inr ⟨rfl,hprop⟩⟩;unfold Fu;exact(A9 s1).trans ((Mz t2).trans (Gn tu))
 ·obtain⟨b1,b2⟩:=hts x hx
  have t2:mB (m2 (YA true) (BI 2 (Eo W) (AI (AB 0) (AI (AB 1) Au))) (mC .non)) [sR q,sR S.length] S1=.ok true S1:=GR (BO c3 rfl rfl);refine⟨.non,S1,DJ (n:=2) (mb:=Fu W) ?_,K1,.inl ⟨rfl,λh=>h x.1 x.2 b1.1 b1.2 b2 hc⟩⟩;unfold Fu;exact(A9 s1).trans (jr t2 rfl)
end
def Kj{p:Nat}{ts:List (Int×Int)}(hu:Eu p 0 ts)(x:Int):nbW (CS ts) x=nr ts x.toNat:=eK hu x.toNat
def aA{p:Nat}{ts:List (Int×Int)}(hu:Eu p 0 ts):∀x:Int,0<=x->x < p->∀y∈nbW (CS ts) x,0<=y/\y < p:=λx _ _ y hy=>by
 rw[Kj hu]at hy;exact gb hu hy
def We{ts:List (Int×Int)}{p:Nat}(hu:Eu p 0 ts)(x y:Int)(hx:0<=x)(hy:0<=y)(h:y∈nbW (CS ts) x):x∈nbW (CS ts) y:=by
 rw[Kj hu]at h ⊢
 obtain⟨a,rfl⟩:∃a:Nat,x=a:=⟨x.toNat,by lia⟩
 obtain⟨b,rfl⟩:∃b:Nat,y=b:=⟨y.toNat,by lia⟩
 rw[Bx]at h ⊢;exact eM.mp h
abbrev mz(W:Wd):MS:=sIf (mB (m2 (eqD true) (m2 D6 (BI 2 (B5 W) (AI (AB 1) (AI (m2 Ff (mC (.int 501)) (AB 6)) Au))) (mC (.int 2))) (m2 D6 (BI 2 (B5 W) (AI (AB 1) (AI (m2 Ff (mC (.int 501)) (AB 7)) Au))) (mC (.int 2))))) (CH (FU (AB 5) (Fn (AI (AB 6) (AI (AB 7) Au))))) sNx
def Eu.sub{p j:Nat}{ts us:List (Int×Int)}(h:Eu p j ts)(s:us.Sublist ts):Eu p j us:=⟨λx hx=>h.1 x (s.subset hx),h.2.sublist s⟩
def YF(W:Wd)(ns:List Int)(S:Sto):∃(m t:Nat) (us:List (Int×Int)) (S':Sto),Fs W [.fro (ns.map D.int)] S=.ok (.tup [.int m,.ref t]) S'/\Keeps S S'/\S'[t]?=some (.lst (us.map pairD))/\Eu m 0 us/\us.length<=3600/\1<=m/\m<=60/\∃cf:Int->Int,∀x∈us,cf x.1 % 2≠cf x.2 % 2:=by
 obtain⟨h,hc⟩:=W2 W ns 0 S
 obtain⟨cf,hcf⟩:∃cf:Int->Int,∀z S,B5 W [.int h,.int (501+z)] S=.ok (.int (cf z)) S:=⟨λz=>(Mq W h (501+z)).choose,λz=>(Mq W h (501+z)).choose_spec.2.2⟩
 have s1:Bj 1 (BI 2 (De W) (AI (AB 0) (AI (mC (.int 0)) Au))) (DF 8 [.fro (ns.map D.int)]) S=oN [sF ns,sI h,none,none,none,none,none,none] S:=DG (i:=1) ((B6 (ds:=[.fro (ns.map D.int),.int 0]) (S1:=S) rfl rfl).trans hc);have s2:Bj 2 (m2 Ff (mC (.int 1)) (m2 D6 (AB 1) (mC (.int 14)))) [sF ns,sI h,none,none,none,none,none,none] S=oN [sF ns,sI h,sI (1+h % 14),none,none,none,none,none] S:=DG (i:=2) (BO rfl (BO rfl rfl (D8 (by decide))) rfl);obtain⟨S1,pool,q1,K1,a1,p1,p2⟩:=db W ns S;have s3:Bj 3 (BI 2 (JD W) (AI (AB 0) (AI (mC (.int 1)) Au))) [sF ns,sI h,sI (1+h % 14),none,none,none,none,none] S=oN [sF ns,sI h,sI (1+h % 14),sR S.length,none,none,none,none] S1:=DG (i:=3) ((B6 (ds:=[.fro (ns.map D.int),.int 1]) (S1:=S) rfl rfl).trans q1);have s4:Bj 4 (m2 Ff (mC (.int 1)) (m2 D6 (m2 M2 (AB 1) (mC (.int 5))) (mC (.int 6)))) [sF ns,sI h,sI (1+h % 14),sR S.length,none,none,none,none] S1=oN [sF ns,sI h,sI (1+h % 14),sR S.length,sI (1+h / 5 % 6),none,none,none] S1:=DG (i:=4) (BO rfl (BO (BO rfl rfl (QB (by decide) (by decide))) rfl (D8 (by decide))) rfl);have c5:m2 D6 (m2 M2 (AB 1) (mC (.int 14))) (mC (.int 8)) [sF ns,sI h,sI (1+h % 14),sR S.length,sI (1+h / 5 % 6),none,none,none] S1=.ok (.int (h / 14 % 8)) S1:=BO (BO rfl rfl (QB (by decide) (by decide))) rfl (D8 (by decide))
 obtain⟨m,th,hm1,hm2,s5⟩:∃(m:Nat) (th:Int),1<=m/\m<=60/\sIf (mB (m2 (eqD false) (m2 D6 (m2 M2 (AB 1) (mC (.int 14))) (mC (.int 8))) (mC (.int 3)))) (BF (Bj 2 (m2 Ff (mC (.int 15)) (m2 D6 (m2 M2 (AB 1) (mC (.int 112))) (mC (.int 46))))) (Bj 4 (mC (.int 1)))) sNx [sF ns,sI h,sI (1+h % 14),sR S.length,sI (1+h / 5 % 6),none,none,none] S1=oN [sF ns,sI h,sI m,sR S.length,sI th,none,none,none] S1:=by
  by_cases c:h / 14 % 8=3
  ·refine⟨(15+h / 112 % 46).toNat,1,by lia,by lia,?_⟩
   rw[show((15+h / 112 % 46).toNat:Int)=15+h / 112 % 46 by lia];refine(EU (GR (BO c5 rfl (Lz (wX c))))).trans ((qX rfl).trans ?_);refine(A9 (e1:=[sF ns,sI h,sI (15+h / 112 % 46),sR S.length,sI (1+h / 5 % 6),none,none,none]) (S1:=S1) (DG (i:=2) (BO rfl (BO (BO rfl rfl (QB (by decide) (by decide))) rfl (D8 (by decide))) rfl))).trans rfl
  ·refine⟨(1+h % 14).toNat,1+h / 5 % 6,by lia,by lia,?_⟩
   rw[show((1+h % 14).toNat:Int)=1+h % 14 by lia];exact(EU (GR (BO c5 rfl (Lz (wY c))))).trans rfl
 have s6:Bj 5 (Cq (Cn Au)) [sF ns,sI h,sI m,sR S.length,sI th,none,none,none] S1=oN [sF ns,sI h,sI m,sR S.length,sI th,sR S1.length,none,none] (S1++[.lst []]):=rfl;obtain⟨ts,q2,u2,l2⟩:=UH W th ((Keeps.app S1 [.lst []]).at a1) p1 hm1 hm2;have t2:=By (S1++[.lst []]) (.lst (ts.map pairD));have f2:=(Keeps.app (S1++[Ob.lst []]) [.lst (ts.map pairD)]).at (By S1 (.lst []));have K2:Keeps S1 (S1++[.lst []]++[.lst (ts.map pairD)]):=(Keeps.app _ _).trans (Keeps.app _ _)
 have lt:S1.length < (S1++[Ob.lst []]).length:=by simp
 generalize S1++[Ob.lst []]++[Ob.lst (ts.map pairD)]=S2 at q2 t2 f2 K2;generalize (S1++[Ob.lst []]).length=t at q2 t2 lt
 obtain⟨f,S3,h3,⟨z6,z7,rfl⟩,K3,us,su,cu,f3⟩:=GP (v:=Ea (.ref t)) (g:=EC 2 (Ba (tgN 6) (Ba (tgN 7) ET))) (b:=mz W) (xs:=ts.map pairD) (e:=[sF ns,sI h,sI m,sR S.length,sI th,sR S1.length,none,none]) (S:=S2)
  (λi e S'=>(∃z6 z7,e=[sF ns,sI h,sI m,sR S.length,sI th,sR S1.length,z6,z7])/\(Keeps S1 S'/\S'[t]?=some (.lst (ts.map pairD)))/\∃us:List (Int×Int),us.Sublist (ts.take i)/\(∀x∈us,cf x.1 % 2≠cf x.2 % 2)/\S'[S1.length]?=some (.lst (us.map pairD)))
  (λf S'=>(∃z6 z7,f=.nx [sF ns,sI h,sI m,sR S.length,sI th,sR S1.length,z6,z7])/\Keeps S1 S'/\∃us:List (Int×Int),us.Sublist ts/\(∀x∈us,cf x.1 % 2≠cf x.2 % 2)/\S'[S1.length]?=some (.lst (us.map pairD)))
  ⟨⟨none,none,rfl⟩,⟨K2,t2⟩,[],List.nil_sublist _,λx hx=>(nomatch hx),f2⟩ (by rintro i e S' ⟨_,⟨_,h⟩,_⟩;exact DW h)
  (by
   rintro i d e S' hd ⟨⟨z6,z7,rfl⟩,⟨K,ht⟩,us,su,cu,hu⟩;rw[AN]at hd
   cases hq:ts[i]? with
   | none=>rw[hq]at hd;cases hd
   | some x=>
    rw[hq]at hd;cases hd;refine⟨[sF ns,sI h,sI m,sR S.length,sI th,sR S1.length,sI x.1,sI x.2],S',rfl,?_⟩;have m1:=hcf x.1;have m2':=hcf x.2;generalize e1:cf x.1=v1 at m1;generalize e2:cf x.2=v2 at m2'
    have tt:mB (m2 (eqD true) (m2 D6 (BI 2 (B5 W) (AI (AB 1) (AI (m2 Ff (mC (.int 501)) (AB 6)) Au))) (mC (.int 2))) (m2 D6 (BI 2 (B5 W) (AI (AB 1) (AI (m2 Ff (mC (.int 501)) (AB 7)) Au))) (mC (.int 2)))) [sF ns,sI h,sI m,sR S.length,sI th,sR S1.length,sI x.1,sI x.2] S'=.ok (decide (v1 % 2≠v2 % 2)) S':=
     GR (BO (BO ((B6 (ds:=[.int h,.int (501+x.1)]) (S1:=S') rfl rfl).trans (m1 S')) rfl (D8 (by decide))) (BO ((B6 (ds:=[.int h,.int (501+x.2)]) (S1:=S') rfl rfl).trans (m2' S')) rfl (D8 (by decide))) (SQ rfl))
    have ic:=EU (a:=CH (FU (AB 5) (Fn (AI (AB 6) (AI (AB 7) Au))))) (b:=sNx) tt;have hul:=su.length_le;rw[Cz]at hul
    by_cases c:v1 % 2≠v2 % 2
    ·rw[wX c]at ic
     have ap:=Ig (mo:=AB 5) (ma:=Fn (AI (AB 6) (AI (AB 7) Au))) (e:=[sF ns,sI h,sI m,sR S.length,sI th,sR S1.length,sI x.1,sI x.2]) (S:=S') (y:=pairD x) (S2:=S') rfl hu rfl hu (by rw[AC];exact Ay (show us.length<=3600 by lia) (by decide));refine⟨_,_,ic.trans ((qX rfl).trans (DV ap)),⟨_,_,rfl⟩,⟨K.set (AQ _) _,?_⟩,us++[x],?_,λy hy=>?_,?_⟩
     ·rw[AW (by lia)]
      exact ht
     ·rw[take_snoc hq]
      exact su.append (nV _)
     ·rcases Ae.mp hy with hy | hy
      ·exact cu y hy
      ·rw[AO.mp hy,e1,e2];exact c
     ·rw[Ao (AF.mp hu).1,A2]
      rfl
    ·rw[wY c]at ic
     refine⟨_,_,ic.trans rfl,⟨_,_,rfl⟩,⟨K,ht⟩,us,?_,cu,hu⟩;rw[take_snoc hq]
     exact su.trans (List.sublist_append_left _ _))
  (by
   rintro e S' ⟨⟨z6,z7,rfl⟩,⟨K,ht⟩,us,su,cu,hu⟩;rw[AC,Cc]at su
   exact⟨⟨_,_,rfl⟩,K,us,su,cu,hu⟩)
 refine⟨m,S1.length,us,S3,DJ (n:=8) (mb:=JR W) ?_,K1.trans K3,f3,u2.sub su,At su.length_le l2,hm1,hm2,cf,cu⟩;unfold JR;refine(A9 s1).trans ((A9 s2).trans ((A9 s3).trans ((A9 s4).trans ((A9 s5).trans ((A9 s6).trans ?_)))));have h0:AI (AB 3) (AI (AB 2) (AI (AB 4) Au)) [sF ns,sI h,sI m,sR S.length,sI th,sR S1.length,none,none] (S1++[Ob.lst []])=.ok [.ref S.length,.int m,.int th] (S1++[Ob.lst []]):=rfl;have hc0:=(B6 h0 rfl).trans q2;have hv0:=Fo hc0 t2;refine(A9 ((Et hv0).trans h3)).trans (Gn ?_);exact Kc (ds:=[.int m,.ref S1.length]) rfl (by simp)
def VZ{ts:List (Int×Int)}{x:Nat}{z:Int}:z∈Bp ts x↔∃t∈ts,(t.1=x/\z=t.2)∨(t.2=x/\z=t.1):=by
 unfold Bp;rw[OV]
 constructor
 ·rintro⟨t,ht,hz⟩
  refine⟨t,ht,?_⟩
  rcases Ae.mp hz with h | h
  ·split at h
   ·rename_i e;exact .inl ⟨e,AO.mp h⟩
   ·cases h
  ·split at h
   ·rename_i e;exact .inr ⟨e,AO.mp h⟩
   ·cases h
 ·rintro⟨t,ht,⟨h1,h2⟩ | ⟨h1,h2⟩⟩
  ·exact⟨t,ht,by rw[qX h1];simp[h2]⟩
  ·exact⟨t,ht,by rw[qX h1];simp[h2]⟩
def Mp{x:Nat}:∀{ts:List (Int×Int)},ts.Nodup->(∀t∈ts,t.1 < t.2)->(Bp ts x).Nodup
 | [],_,_=>FX
 | t :: ts,h,hlt=>by
  obtain⟨h1,h2⟩:=CW.mp h
  have ih:=Mp (x:=x) h2 λu hu=>hlt u (Aj _ hu)
  have hl:=hlt t A1;show(((if t.1=(x:Int)then[t.2]else[])++(if t.2=(x:Int)then[t.1]else[]))++Bp ts x).Nodup;rw[B3];refine⟨?_,ih,λa ha b hb e=>?_⟩
  ·by_cases c1:t.1=(x:Int)
   ·rw[qX c1,qY (by lia)];simp
   ·rw[qY c1];split <;> simp
  ·subst e
   obtain⟨u,hu,hz⟩:=VZ.mp hb;have hul:=hlt u (Aj _ hu)
   have:t=u:=by
    rcases Ae.mp ha with q | q
    ·split at q
     ·rename_i e1
      have:=AO.mp q
      rcases hz with⟨z1,z2⟩ | ⟨z1,z2⟩
      ·exact gF (by lia) (by lia)
      ·lia
     ·cases q
    ·split at q
     ·rename_i e1
      have:=AO.mp q
      rcases hz with⟨z1,z2⟩ | ⟨z1,z2⟩
      ·lia
      ·exact gF (by lia) (by lia)
     ·cases q
   exact h1 (this▸hu)
end M
namespace M
open PySem L2 L4
def Gr(W:Wd)(w:Nat×List (Int×Int)):Ob:=.ins W.Web [("places",.int w.1),("ties",.tup (w.2.map pairD)),("near_sets",.tup (Gm w.1 w.2))]
def Ki(p:Nat)(ts:List (Int×Int)):List (List Int):=(BA p).map λx=>C1 (Bp ts x)
def Z8(p:Nat)(ts:List (Int×Int)):D.tup (Gm p ts)=eT (eT D.int) (Ki p ts):=by
 unfold Gm Ki eT;rw[Ax];rfl
section
variable{W:Wd}{A:List Sl}{a b m:ME}{p:Option (Nat×List (Int×Int))}
def WP{α:Type}{f:Str}{enc:α->D}{g:Nat×List (Int×Int)->α}(h:VE A m (rO (Gr W)) p)(hl:∀w,([("places",D.int w.1),("ties",.tup (w.2.map pairD)),("near_sets",.tup (Gm w.1 w.2))]:List (Str×D)).lookup f=some (enc (g w))):VE A (HJ W.Web f m) (rV enc) (p.bind λw=>some (g w)):=λv hv S0 e F S hs=>by
 obtain⟨w,h1,h2⟩:=BG hv;cases h2;obtain⟨d,S',h3,h4,n,rfl,hn⟩:=h w h1 S0 e F S hs;exact⟨_,S',P9 h3 hn (hl w),h4,rfl⟩
def Jc(h:VE A m (rO (Gr W)) p):VE A (HJ W.Web "places" m) (rV D.int) (p.bind λw=>some (w.1:Int)):=WP h λw=>mI _ _ _
def cR(h:VE A m (rO (Gr W)) p):VE A (HJ W.Web "near_sets" m) (rV (eT (eT D.int))) (p.bind λw=>some (Ki w.1 w.2)):=WP h λw=>by rw[<-Z8];exact mH _ _ _
def iG(W:Wd){p:Nat}(h1:1<=p)(hp:p<=60){d:D}{S:Sto}{ps:List (Int×Int)}(hv:∀S',Keeps S S'->Ea d S'=some (ps.map pairD))(hl:ps.length<=90000)(hf:Fg p ps){e:Lo}{ml:ML}{S0:Sto}(ha:ml e S0=.ok [.int p,d] S) :
  ∃S',Pt W.Web 3 (Ib W) ml e S0=.ok (.ref S.length) S'/\Keeps S S'/\S'[S.length]?=some (Gr W (p,CS ps)):=by
 have t0:J5 (mB (m3 leD leD (mC (.int 1)) (AB 1) (mC (.int 60)))) [sR S.length,sI p,some d] (S++[.ins W.Web []])=.ok false (S++[.ins W.Web []]):=
  Kh (b:=true) (GR (aM (S3:=S++[.ins W.Web []]) rfl rfl (Ve (wX (by lia))) rfl (Ve (wX (by lia)))))
 have hq0:(S++[Ob.ins W.Web []])[S.length]?=some (.ins W.Web []):=By _ _;have e1:=SB (C:=W.Web) (f:="places") (mo:=AB 0) (mv:=AB 1) (e:=[sR S.length,sI p,some d]) (S:=S++[.ins W.Web []]) (v:=.int p) rfl rfl hq0 (by decide);have K1:Keeps S ((S++[Ob.ins W.Web []]).set S.length (.ins W.Web (OM "places" (.int p) []))):=(Keeps.app S _).set (AQ _) _;generalize hS1:(S++[Ob.ins W.Web []]).set S.length (.ins W.Web (OM "places" (.int p) []))=S1 at e1 K1
 have hq1:S1[S.length]?=some (.ins W.Web [("places",.int p)]):=by rw[<-hS1];exact Ao (by simp)
 obtain⟨S2,c2,K2⟩:=Sm W (p:=p) (d:=d) (S:=S1) (ps:=ps) (λS' k=>hv S' (K1.trans k)) (At hl (by decide)) hf;rw[PP]at c2;have e2:=SB (C:=W.Web) (f:="ties") (mo:=AB 0) (mv:=BI 2 (Gw W) (AI (AB 1) (AI (AB 2) Au))) (e:=[sR S.length,sI p,some d]) (S:=S1) ((B6 rfl rfl).trans c2) rfl (K2.at hq1) (by simp);have K3:Keeps S (S2.set S.length (.ins W.Web (OM "ties" (.tup ((CS ps).map pairD)) [("places",.int p)]))):=(K1.trans K2).set (AQ _) _;rw[put2]at e2 K3;have hlt2:S.length < S2.length:=(AF.mp (K2.at hq1)).1;generalize hS3:S2.set S.length (.ins W.Web [("places",.int p),("ties",.tup ((CS ps).map pairD))])=S3 at e2 K3
 have hq3:S3[S.length]?=some (.ins W.Web [("places",.int p),("ties",.tup ((CS ps).map pairD))]):=by rw[<-hS3];exact Ao hlt2
 obtain⟨S4,c4,K4⟩:=eN W hp (ts:=CS ps) (λt ht=>by
  obtain⟨x,hx,rfl⟩:=ZN ht
  exact(hf.1 x hx).in) (by rw[(NT ps).length_eq,AC];exact hl) S3
 have e3:=SB (C:=W.Web) (f:="near_sets") (mo:=AB 0) (mv:=BI 2 (Gu W) (AI (AB 1) (AI (HJ W.Web "ties" (AB 0)) Au))) (e:=[sR S.length,sI p,some d]) (S:=S3)
  ((B6 (BX (S1:=S3) rfl (BX (P9 rfl hq3 (jk _ _)) rfl)) rfl).trans c4) rfl (K4.at hq3) (by simp)
 have hlt4:S.length < S4.length:=(AF.mp (K4.at hq3)).1;rw[put3]at e3;refine⟨_,eR ha rfl (VO (e:=[sR S.length,sI p,some d]) ?_),(K3.trans K4).set (AQ _) _,Ao hlt4⟩;unfold QM;refine C0 (A9 (e:=[sR S.length,sI p,some d]) (e1:=[sR S.length,sI p,some d]) (S1:=S++[.ins W.Web []]) (C0 (EU t0) rfl)) ?_;rw[A9 e1,A9 e2];exact e3
end
def Ew(BQ:(Nat×List (Int×Int)))(DB:Int):Option (Fw Unit Unit):=
 (((some (0:Int)).bind λx2=>(some DB).bind λx3=>if decide (x2<=x3)=true then((some BQ).bind λx1=>some (x1.1:Int)).bind λx4=>some (decide (x3 < x4))else some false).bind λx5=>some (!x5)).bind λx6=>if x6=true then none else some (.nx ())
def Ez(BQ:(Nat×List (Int×Int)))(DB:Int):Option Unit:=lj (Ew BQ DB)
def MW(W:Wd)(BQ:(Nat×List (Int×Int)))(DB:Int):VF (Dq W) [.z ((Gr W) BQ),.v (D.int DB)] (rV eU) (Ez BQ DB):=by
 refine iK (n:=2) (b:=E1 W) (p:=Ew BQ DB) (B:=λ_=>[.z ((Gr W) BQ),.v (D.int DB)]) ?_;show VS [.z ((Gr W) BQ),.v (D.int DB)] _ _ _ _;unfold E1 Ew;exact(O1 (B:=(λ(_:Unit)=>[.z ((Gr W) BQ),.v (D.int DB)])) (U3 (LP (TZ gk gj (KP rfl) (BL rfl) (Jc (DS rfl))))) iI (Q7 (.same (.same .nil))))
def SH(BQ:(Nat×List (Int×Int)))(DB:Int):Option (Fw (List Int) Unit):=
 DP ((((some BQ).bind λx1=>((some DB).bind λx2=>(some ()).bind λx3=>some (x2,x3)).bind λx4=>some (x1,x4)).bind λz5=>Ez z5.1 z5.2.1).bind λ_=>some (.nx ())) λ_=>(((some BQ).bind λx6=>some (Ki x6.1 x6.2)).bind λl7=>(some DB).bind λx8=>atI l7 x8).bind λx9=>some (.rt x9)
def Lq(BQ:(Nat×List (Int×Int)))(DB:Int):Option (List Int):=Pi (SH BQ DB)
def ZK(W:Wd)(BQ:(Nat×List (Int×Int)))(DB:Int):VF (Kt W) [.z ((Gr W) BQ),.v (D.int DB)] (rV (eT D.int)) (Lq BQ DB):=by
 refine MR (n:=2) (b:=Sr W) (p:=SH BQ DB) (B:=λ_=>[]) ?_;show VS [.z ((Gr W) BQ),.v (D.int DB)] _ _ _ _;unfold Sr SH;exact(Cm (cN (Gj (PM (DS rfl) (U5 (BL rfl) IQ)) (λz5=>MW W z5.1 z5.2.1) (λ_=>rfl) Pf)) (λ_=>(Kb (ZD (cR (DS rfl)) (BL rfl)))))
def K2(h s:Nat)(S S':Sto):Prop:=S.length<=S'.length/\∀j,j < S.length->j≠h->j≠s->S'[j]?=S[j]?
def K2.trans{h s:Nat}{S S1 S2:Sto}(a:K2 h s S S1)(b:K2 h s S1 S2):K2 h s S S2:=⟨At a.1 b.1,λj q q1 q2=>(b.2 j (Ab q a.1) q1 q2).trans (a.2 j q q1 q2)⟩
def K2.of{h s:Nat}{S S1:Sto}(a:Keeps S S1):K2 h s S S1:=⟨a.1,λj q _ _=>a.2 j q⟩
def K2.seth{h s:Nat}{S S1:Sto}(a:K2 h s S S1)(o:Ob):K2 h s S (S1.set h o):=⟨by rw[DQ];exact a.1,λj q q1 q2=>by rw[AW (CB q1)];exact a.2 j q q1 q2⟩
def K2.sets{h s:Nat}{S S1:Sto}(a:K2 h s S S1)(o:Ob):K2 h s S (S1.set s o):=⟨by rw[DQ];exact a.1,λj q q1 q2=>by rw[AW (CB q2)];exact a.2 j q q1 q2⟩
def K2.at{h s j:Nat}{S S1:Sto}{o:Ob}(a:K2 h s S S1)(hj:S[j]?=some o)(h1:j≠h)(h2:j≠s):S1[j]?=some o:=by rw[a.2 j (Bo hj) h1 h2];exact hj
def Tk(ξ:List (List Int))(g:Int):List Int:=(atI ξ g).getD []
def kD{κv:Type}{enc:κv->D}{l:List (Int×κv)}{S:Sto}{n:Nat}(hn:S[n]?=some (oDK enc l))(hl:l.length < 1000000)(k:Int)(v:κv):Qx (.ref n) (.int k) (enc v) S=some (S.set n (oDK enc (CF l k v))):=by
 unfold Qx;dsimp only;rw[hn];show(if (l.map _).length < sizeLine then some (S.set n (.dK (CF (l.map λx=>(CL x.1,enc x.2)) (CL k) (enc v))))else none)=_;rw[qX (by rw[AC];exact aN hl),T3 Oi];rfl
def Sg{κv:Type}{enc:κv->D}{l:List (Int×κv)}{mo mi mv:ME}{e:Lo}{S:Sto}{n:Nat}{k:Int}{v:κv}(hv:mv e S=.ok (enc v) S)(ho:mo e S=.ok (.ref n) S)(hi:mi e S=.ok (.int k) S)(hn:S[n]?=some (oDK enc l))(hl:l.length < 1000000):DI mo mi mv e S=.ok (.nx e) (S.set n (oDK enc (CF l k v))):=by
 unfold DI;rw[hv];dsimp only[Res.lift];rw[ho];dsimp only;rw[hi];dsimp only;rw[kD hn hl]
def LF{κ α:Type}[DecidableEq κ]{l l':List (κ×α)}{k:κ}{v:α}(h:Mg l k v=some l'):l.length < 1000000/\l'=CF l k v:=by
 unfold Mg at h;split at h
 ·rename_i c;cases h;exact⟨c,rfl⟩
 ·cases h
def XS{S:Sto}{tN hN sN:Nat}{ξ:List (List Int)}{bits g:Int}{H:HL}{Q:QL}(ht:S[tN]?=some (oL (eT D.int) ξ))(hh:S[hN]?=some (oDK D.int H))(hs:S[sN]?=some (oDK D.bl Q))(hne:hN≠sN) :
  ∃F,Vs [] [.z (oL (eT D.int) ξ),.v (D.int bits),.w 2 (oDK D.int H),.v (D.int g),.w 4 (oDK D.bl Q),.u,.u] [sR tN,sI bits,sR hN,sI g,sR sN,none,none] F S:=by
 have t1:tN≠hN:=λc=>by rw[c,hh]at ht;cases ht
 have t2:tN≠sN:=λc=>by rw[c,hs]at ht;cases ht
 refine⟨λn=>if n=hN then .ow 2 else if n=sN then .ow 4 else match S[n]? with | some o=>.fz o | none=>.no,⟨Cr _,λj h=>(nomatch h)⟩,λn o q=>?_,λn i q=>?_,λn hn=>?_,λi a ha=>?_⟩
 ·split at q
  ·cases q
  ·split at q
   ·cases q
   ·cases w:S[n]? with
    | none=>rw[w]at q;cases q
    | some o'=>rw[w]at q;cases q;rfl
 ·refine⟨Cr _,?_⟩
  split at q
  ·rename_i c;rw[c];exact Bo hh
  ·split at q
   ·rename_i c;rw[c];exact Bo hs
   ·cases w:S[n]? with
    | none=>rw[w]at q;cases q
    | some o'=>rw[w]at q;cases q
 ·show(if n=hN then Cel.ow 2 else if n=sN then .ow 4 else match S[n]? with | some o=>.fz o | none=>.no)=_
  rw[qY λc=>zX (Bo hh) (by rw[<-c];omega),qY λc=>zX (Bo hs) (by rw[<-c];omega),BJ hn]
 ·match i,ha with
  | 0,ha=>cases ha;exact⟨_,rfl,tN,rfl,by show(if tN=hN then Cel.ow 2 else if tN=sN then .ow 4 else match S[tN]? with | some o=>.fz o | none=>.no)=_;rw[qY t1,qY t2,ht]⟩
  | 1,ha=>cases ha;exact⟨_,rfl,rfl⟩
  | 2,ha=>cases ha;exact⟨_,rfl,hN,rfl,qX rfl,hh⟩
  | 3,ha=>cases ha;exact⟨_,rfl,rfl⟩
  | 4,ha=>cases ha;exact⟨_,rfl,sN,rfl,by show(if sN=hN then Cel.ow 2 else if sN=sN then .ow 4 else match S[sN]? with | some o=>.fz o | none=>.no)=_;rw[qY (CB hne),qX rfl],hs⟩
  | 5,ha=>cases ha;exact⟨_,rfl,trivial⟩
  | 6,ha=>cases ha;exact⟨_,rfl,trivial⟩
  | i+7,ha=>cases ha
abbrev ge:ME:=Cq (D4 1 (D7 (m2 ixA (AB 0) (AB 3))) (tgN 0) (Pv (Io (m2 fu (m2 dH (AB 2) (AB 0)) (mC (.int 1)))) (mB (m2 (inA true) (AB 0) (AB 5)))) (AB 0))
def cF{S:Sto}{tN hN sN:Nat}{ξ:List (List Int)}{bits g:Int}{H:HL}{Q:QL}(ht:S[tN]?=some (oL (eT D.int) ξ))(hh:S[hN]?=some (oDK D.int H))(hs:S[sN]?=some (oDK D.bl Q))(hne:hN≠sN)(hg:0<=g/\g < ξ.length)(hT:∀t∈ξ,t.length<=1000/\∀x∈t,0<=x) :
  ∃n S',ge [sR tN,sI bits,sR hN,sI g,sR sN,none,none] S=.ok (.ref n) S'/\Keeps S S'/\S.length<=n/\S'[n]?=some (oL D.int ((Tk ξ g).filter λx=>hb bits x&&!(A3 Q x).isSome)):=by
 obtain⟨F,V⟩:=XS (bits:=bits) (g:=g) ht hh hs hne;obtain⟨t,e1,-⟩:=Np (l:=ξ) hg.1 hg.2;have tm:=hT t (fj e1)
 have key:=FE (IP (enc:=D.int) (eb:=D.int) (A:=[.z (oL (eT D.int) ξ),.v (D.int bits),.w 2 (oDK D.int H),.v (D.int g),.w 4 (oDK D.bl Q),.u,.u]) (VI.k (PD (ZE (DS (v:=ξ) (i:=0) rfl) (BL (v:=g) (i:=3) rfl))))
  (λx=>U4 (ci (cc (iN (BL (v:=bits) (i:=2) rfl) (BL (v:=x) (i:=0) rfl)) (KP (v:=1) rfl))) (LP (PH (BL (v:=x) (i:=0) rfl) (Iw (v:=Q) (i:=5) rfl)))) (λx=>BL (v:=x) (i:=0) rfl))
 simp only[Ac]at key;rw[e1]at key;simp only[Ac]at key
 have ec:G9 t (λx=>((dG bits x).bind λx_1=>some (Gi x_1 1)).bind (λx=>some (x != 0)) |>.bind λb=>if b=true then some (!(A3 Q x).isSome)else some false) (λx=>some x)=some (t.filter λx=>hb bits x&&!(A3 Q x).isSome):=QH (by omega) λx hx=>by
  rw[show dG bits x=some (bits / 2 ^ x.toNat)from qX (tm.2 x hx)];show(if (Gi (bits / 2 ^ x.toNat) 1 != 0)=true then _ else _)=_;show(if hb bits x=true then _ else _)=_
  cases hb bits x <;> rfl
 obtain⟨d,S',h1,h2,n,rfl,h3,h4⟩:=key _ ec [] _ F S V;refine⟨n,S',h1,h2,h3,?_⟩;unfold Tk;rw[e1];exact h4
def fG{w:List Int}{p:Int->Bool}{i:Nat}{x:Int}(h:∀j,j < i->∀y,w[j]?=some y->p y=false)(hx:w[i]?=some x)(hp:p x=true):w.find? p=some x:=by
 rw[List.find?_eq_some_iff_getElem];obtain⟨hi,e⟩:=AF.mp hx;refine⟨hp,i,hi,e,λj hj=>?_⟩;rw[h j hj _ (BR (by lia))];rfl
def fF{w:List Int}{p:Int->Bool}(h:∀j,j < w.length->∀y,w[j]?=some y->p y=false):w.find? p=none:=by
 rw[Iu];intro x hx hp;obtain⟨i,hi,e⟩:=MF hx;rw[h i hi x (by rw[BR hi,e])]at hp;cases hp
abbrev e7(tN:Nat)(bits:Int)(hN:Nat)(g:Int)(sN:Nat)(z5 z6:Option D):Lo:=[sR tN,sI bits,sR hN,sI g,sR sN,z5,z6]
abbrev bS1:MS:=sIf (mB (m2 (inA true) (AB 6) (AB 2))) (BF (DI (AB 2) (AB 6) (AB 3)) (DH (mC (.bl true)))) sNx
abbrev bS2(fr:List D->Sto->Res D):MS:=sIf (mB (m2 (inA true) (AB 6) (AB 4))) (BF (DI (AB 4) (AB 6) (mC (.bl true)))
  (sIf (Io (BI 5 fr (AI (AB 0) (AI (AB 1) (AI (AB 2) (AI (m2 ixA (AB 2) (AB 6)) (AI (AB 4) Au))))))) (BF (DI (AB 2) (AB 6) (AB 3)) (DH (mC (.bl true)))) sNx)) sNx
def gh{κv:Type}{enc:κv->D}{l:List (Int×κv)}{S:Sto}{n:Nat}(hn:S[n]?=some (oDK enc l))(x:Int):inA true (.int x) (.ref n) S=.ok (.bl (!(A3 l x).isSome)) S:=by
 rw[Vu (Zc hn) (UV hn x)];simp
def mK{κv:Type}{enc:κv->D}{l:List (Int×κv)}{S:Sto}{n:Nat}{x:Int}{v:κv}(hn:S[n]?=some (oDK enc l))(hv:A3 l x=some v):ixA (.ref n) (.int x) S=.ok (enc v) S:=Vt (Zc hn) (by rw[UV hn x,hv];rfl)
def Xg(W:Wd){ξ:List (List Int)}{bits:Int}(hT:∀t∈ξ,t.length<=1000/\∀x∈t,0<=x):∀(n:Nat) (H:HL) (g:Int) (Q:QL) (z:Bool×HL×QL),GB (Tk ξ) bits n H g Q=some z->0<=g/\g < ξ.length->(∀x a,A3 H x=some a->0<=a/\a < ξ.length)->(∀x a,A3 z.2.1 x=some a->0<=a/\a < ξ.length) /\
  ∀(S:Sto) (tN hN sN:Nat),S[tN]?=some (oL (eT D.int) ξ)->S[hN]?=some (oDK D.int H)->S[sN]?=some (oDK D.bl Q)->hN≠sN->∃S',Fq W n [.ref tN,.int bits,.ref hN,.int g,.ref sN] S=.ok (.bl z.1) S'/\S'[hN]?=some (oDK D.int z.2.1)/\S'[sN]?=some (oDK D.bl z.2.2)/\K2 hN sN S S':=by
 intro n
 induction n with
 | zero=>intro H g Q z hz;cases hz
 | succ n ih=>
  intro H g Q z hz hg hG;unfold GB at hz
  have hput:∀(H:HL) (x:Int),(∀x a,A3 H x=some a->0<=a/\a < ξ.length)->∀y a,A3 (CF H x g) y=some a->0<=a/\a < ξ.length:=λH x hG y a e=>by
   rw[Dp]at e;split at e
   ·cases e;exact hg
   ·exact hG y a e
  have lp:∀(r:List Int) (Hc:HL) (Qc:QL),(∀x a,A3 Hc x=some a->0<=a/\a < ξ.length)->Lc (GB (Tk ξ) bits n) g r Hc Qc=some z->∀x a,A3 z.2.1 x=some a->0<=a/\a < ξ.length:=by
   intro r
   induction r with
   | nil=>intro Hc Qc hc e;cases e;exact hc
   | cons x r ih2=>
    intro Hc Qc hc e;unfold Lc at e;split at e
    ·exact ih2 Hc Qc hc e
    ·obtain⟨Q1,-,e⟩:=BG e
     obtain⟨g2,e2,e⟩:=BG e;obtain⟨z2,e3,e⟩:=BG e;have:=(ih Hc g2 Q1 z2 e3 (hc x g2 e2) hc).1;split at e
     ·obtain⟨H',e4,e5⟩:=BG e
      cases e5;rw[(LF e4).2];exact hput _ x this
     ·exact ih2 _ _ this e
  refine⟨?_,λS tN hN sN ht hh hs hne=>?_⟩
  ·split at hz
   ·obtain⟨H',e4,e5⟩:=BG hz
    cases e5;rw[(LF e4).2];exact hput _ _ hG
   ·exact lp _ _ _ hG hz
  ·have t1:tN≠hN:=λc=>by rw[c,hh]at ht;cases ht
   have t2:tN≠sN:=λc=>by rw[c,hs]at ht;cases ht
   obtain⟨wN,S1,w1,w2,w3,w4⟩:=cF (bits:=bits) ht hh hs hne hg hT;generalize (Tk ξ g).filter (λx=>hb bits x&&!(A3 Q x).isSome)=w at hz w4
   have wh:wN≠hN:=λc=>zX (Bo hh) (by lia)
   have ws:wN≠sN:=λc=>zX (Bo hs) (by lia)
   have s5:Bj 5 ge (DF 7 [.ref tN,.int bits,.ref hN,.int g,.ref sN]) S=.ok (.nx (e7 tN bits hN g sN (some (.ref wN)) none)) S1:=DG (i:=5) w1;have hh1:=w2.at hh;have hs1:=w2.at hs;have ht1:=w2.at ht;have k1:K2 hN sN S S1:=K2.of w2
   have it:∀z6 S',S'[wN]?=some (oL D.int w)->D7 (AB 5) (e7 tN bits hN g sN (some (.ref wN)) z6) S'=.ok (Ea (.ref wN)) S':=λz6 S' h=>Fo (n:=wN) rfl h
   obtain⟨f,S2,q1,q2⟩:=GP (v:=Ea (.ref wN)) (g:=tgN 6) (b:=bS1) (xs:=w.map D.int) (e:=e7 tN bits hN g sN (some (.ref wN)) none) (S:=S1)
    (λi e S'=>(∃z6,e=e7 tN bits hN g sN (some (.ref wN)) z6)/\S'=S1/\∀j,j < i->∀y,w[j]?=some y->(!(A3 H y).isSome)=false)
    (λf S'=>((∃z6,f=.nx (e7 tN bits hN g sN (some (.ref wN)) z6))/\S'=S1/\w.find? (λx=>!(A3 H x).isSome)=none)∨∃x,w.find? (λx=>!(A3 H x).isSome)=some x/\f=.rt (.bl true)/\S'=S1.set hN (oDK D.int (CF H x g)))
    ⟨⟨none,rfl⟩,rfl,λj hj=>zX hj (Ge j)⟩ (by rintro i e S' ⟨_,rfl,_⟩;exact DW w4)
    (by
     rintro i d e S' hd ⟨⟨z6,rfl⟩,rfl,hb'⟩;rw[AN]at hd
     cases hx:w[i]? with
     | none=>rw[hx]at hd;cases hd
     | some x=>
      rw[hx]at hd;cases hd;refine⟨e7 tN bits hN g sN (some (.ref wN)) (some (.int x)),S',rfl,?_⟩;have tst:mB (m2 (inA true) (AB 6) (AB 2)) (e7 tN bits hN g sN (some (.ref wN)) (some (.int x))) S'=.ok (!(A3 H x).isSome) S':=GR (BO rfl rfl (gh hh1 x))
      cases c:(A3 H x).isSome with
      | true=>
       rw[c]at tst;refine⟨_,S',(EU tst).trans rfl,⟨_,rfl⟩,rfl,λj hj y hy=>?_⟩
       by_cases q:j=i
       ·subst q;rw[hx]at hy;cases hy;rw[c];rfl
       ·exact hb' j (by lia) y hy
      | false=>
       rw[c]at tst;have hf:w.find? (λx=>!(A3 H x).isSome)=some x:=fG hb' hx (by rw[c];rfl);rw[hf]at hz;obtain⟨H',e4,e5⟩:=BG hz;obtain⟨hl,-⟩:=LF e4;have dp:=Sg (mo:=AB 2) (mi:=AB 6) (mv:=AB 3) (e:=e7 tN bits hN g sN (some (.ref wN)) (some (.int x))) (k:=x) (v:=g) rfl rfl rfl hh1 hl
       exact⟨.rt (.bl true),_,(EU tst).trans ((qX rfl).trans ((A9 dp).trans rfl)),.inr ⟨x,hf,rfl,rfl⟩⟩)
    (by
     rintro e S' ⟨⟨z6,rfl⟩,rfl,hb'⟩;rw[AC]at hb'
     exact .inl ⟨⟨z6,rfl⟩,rfl,fF hb'⟩)
   have run:∀{S':Sto} {d:D},UY W (Fq W n) (DF 7 [.ref tN,.int bits,.ref hN,.int g,.ref sN]) S=.ok (.rt d) S'->Fq W (n+1) [.ref tN,.int bits,.ref hN,.int g,.ref sN] S=.ok d S':=λh=>DJ h
   rcases q2 with⟨⟨z6,rfl⟩,rfl,hf⟩ | ⟨x,hf,rfl,rfl⟩
   ·rw[hf]at hz
    dsimp only at hz
    obtain⟨f,S3,p1,p2⟩:=GP (v:=Ea (.ref wN)) (g:=tgN 6) (b:=bS2 (Fq W n)) (xs:=w.map D.int) (e:=e7 tN bits hN g sN (some (.ref wN)) z6) (S:=S2)
     (λi e S'=>(∃z6,e=e7 tN bits hN g sN (some (.ref wN)) z6)/\S'[wN]?=some (oL D.int w)/\K2 hN sN S S'/\∃Hc Qc,S'[hN]?=some (oDK D.int Hc)/\S'[sN]?=some (oDK D.bl Qc)/\(∀x a,A3 Hc x=some a->0<=a/\a < ξ.length)/\Lc (GB (Tk ξ) bits n) g (w.drop i) Hc Qc=some z)
     (λf S'=>K2 hN sN S S'/\S'[hN]?=some (oDK D.int z.2.1)/\S'[sN]?=some (oDK D.bl z.2.2)/\((f=.rt (.bl true)/\z.1=true)∨((∃z6,f=.nx (e7 tN bits hN g sN (some (.ref wN)) z6))/\z.1=false)))
     ⟨⟨z6,rfl⟩,w4,k1,H,Q,hh1,hs1,hG,hz⟩ (by rintro i e S' ⟨_,h,_⟩;exact DW h)
     (by
      rintro i d e S' hd ⟨⟨z6,rfl⟩,a1,a2,Hc,Qc,a3,a4,a5,a6⟩;rw[AN]at hd
      cases hx:w[i]? with
      | none=>rw[hx]at hd;cases hd
      | some x=>
       rw[hx]at hd;cases hd;obtain⟨hi,ex⟩:=AF.mp hx;rw[Fj hi,ex]at a6;unfold Lc at a6;refine⟨e7 tN bits hN g sN (some (.ref wN)) (some (.int x)),S',rfl,?_⟩;have tst:mB (m2 (inA true) (AB 6) (AB 4)) (e7 tN bits hN g sN (some (.ref wN)) (some (.int x))) S'=.ok (!(A3 Qc x).isSome) S':=GR (BO rfl rfl (gh a4 x))
       cases c:(A3 Qc x).isSome with
       | true=>
        rw[c]at tst;rw[qX c]at a6;exact⟨_,S',(EU tst).trans rfl,⟨_,rfl⟩,a1,a2,Hc,Qc,a3,a4,a5,a6⟩
       | false=>
        rw[c]at tst;rw[qY (by rw[c];exact AZ)]at a6;obtain⟨Q1,b1,a7⟩:=BG a6;obtain⟨g2,b2,a8⟩:=BG a7;obtain⟨z2,b3,a9⟩:=BG a8;obtain⟨hl,rfl⟩:=LF b1
        clear a6 a7 a8
        have dp:=Sg (enc:=D.bl) (mo:=AB 4) (mi:=AB 6) (mv:=mC (.bl true)) (e:=e7 tN bits hN g sN (some (.ref wN)) (some (.int x))) (k:=x) (v:=true) rfl rfl rfl a4 hl;have hsl:=Bo a4
        have c3:(S'.set sN (oDK D.bl (CF Qc x true)))[hN]?=some (oDK D.int Hc):=by rw[AW (CB hne)];exact a3
        have c4:(S'.set sN (oDK D.bl (CF Qc x true)))[sN]?=some (oDK D.bl (CF Qc x true)):=Ao hsl
        have c5:(S'.set sN (oDK D.bl (CF Qc x true)))[tN]?=some (oL (eT D.int) ξ):=by rw[AW (CB t2)];exact a2.at ht t1 t2
        have c1:(S'.set sN (oDK D.bl (CF Qc x true)))[wN]?=some (oL D.int w):=by rw[AW (CB ws)];exact a1
        have c2:=a2.sets (oDK D.bl (CF Qc x true));generalize S'.set sN (oDK D.bl (CF Qc x true))=S4 at dp c1 c2 c3 c4 c5;obtain⟨r1,r2⟩:=ih Hc g2 (CF Qc x true) z2 b3 (a5 x g2 b2) a5;obtain⟨S5,r3,r4,r5,r6⟩:=r2 S4 tN hN sN c5 c3 c4 hne;have arg:AI (AB 0) (AI (AB 1) (AI (AB 2) (AI (m2 ixA (AB 2) (AB 6)) (AI (AB 4) Au)))) (e7 tN bits hN g sN (some (.ref wN)) (some (.int x))) S4=.ok [.ref tN,.int bits,.ref hN,.int g2,.ref sN] S4:=BX rfl (BX rfl (BX rfl (BX (BO (x:=.ref hN) (y:=.int x) rfl rfl (mK c3 b2)) (BX rfl rfl))))
        have cal:Io (BI 5 (Fq W n) (AI (AB 0) (AI (AB 1) (AI (AB 2) (AI (m2 ixA (AB 2) (AB 6)) (AI (AB 4) Au)))))) (e7 tN bits hN g sN (some (.ref wN)) (some (.int x))) S4=.ok z2.1 S5:=by
         unfold Io;rw[(B6 (n:=5) arg rfl).trans r3];rfl
        have d1:=r6.at c1 wh ws;have d2:=c2.trans r6
        cases hb2:z2.1 with
        | true=>
         rw[hb2]at cal;rw[qX hb2]at a9;obtain⟨H',e4,e5⟩:=BG a9;obtain⟨hl2,rfl⟩:=LF e4;cases e5;have dp2:=Sg (mo:=AB 2) (mi:=AB 6) (mv:=AB 3) (e:=e7 tN bits hN g sN (some (.ref wN)) (some (.int x))) (k:=x) (v:=g) rfl rfl rfl r4 hl2;refine⟨.rt (.bl true),_,(EU tst).trans ((qX rfl).trans ((A9 dp).trans ((EU cal).trans ((qX rfl).trans ((A9 dp2).trans rfl))))),d2.seth _,Ao (Bo r4),?_,.inl ⟨rfl,rfl⟩⟩;rw[AW hne];exact r5
        | false=>
         rw[hb2]at cal;rw[qY (by rw[hb2];exact AZ)]at a9
         exact⟨_,S5,(EU tst).trans ((qX rfl).trans ((A9 dp).trans ((EU cal).trans rfl))),⟨_,rfl⟩,d1,d2,z2.2.1,z2.2.2,r4,r5,r1,a9⟩)
     (by
      rintro e S' ⟨⟨z6,rfl⟩,a1,a2,Hc,Qc,a3,a4,a5,a6⟩;rw[AC,List.drop_of_length_le (AQ _)]at a6;unfold Lc at a6;cases a6
      exact⟨a2,a3,a4,.inr ⟨⟨z6,rfl⟩,rfl⟩⟩)
    obtain⟨p3,p4,p5,p6⟩:=p2;have l1:=(Et (g:=tgN 6) (b:=bS1) (it none S2 w4)).trans q1;have l2:=(Et (g:=tgN 6) (b:=bS2 (Fq W n)) (it z6 S2 w4)).trans p1
    rcases p6 with⟨rfl,p6⟩ | ⟨⟨z7,rfl⟩,p6⟩
    ·rw[p6]
     exact⟨S3,run ((A9 s5).trans ((A9 l1).trans (NU l2))),p4,p5,p3⟩
    ·rw[p6]
     exact⟨S3,run ((A9 s5).trans ((A9 l1).trans ((A9 l2).trans rfl))),p4,p5,p3⟩
   ·rw[hf]at hz
    obtain⟨H',e4,e5⟩:=BG hz;obtain⟨hl,rfl⟩:=LF e4;cases e5;have l1:=(Et (g:=tgN 6) (b:=bS1) (it none S1 w4)).trans q1;refine⟨_,run ((A9 s5).trans (NU l1)),Ao (Bo hh1),?_,k1.seth _⟩;rw[AW hne];exact hs1
open Classical in
def Tn(ξ:List (List Int))(bits:Int)(n:Nat)(H:HL)(g:Int):Option (Bool×HL×QL):=if (∀t∈ξ,t.length<=1000/\∀x∈t,0<=x)/\(0<=g/\g < ξ.length)/\(∀x a,A3 H x=some a->0<=a/\a < ξ.length)then GB (Tk ξ) bits n H g []else none
def cH{W:Wd}{ρ:Type}{A:List Sl}{R:Rk ρ}{n i t b k:Nat}{H:HL}{ξ:List (List Int)}{bits g:Int}(hi:A[i]?=some (.w i (oDK D.int H)))(ht':A[t]?=some (.y (oL (eT D.int) ξ)))(hb:A[b]?=some (.v (.int bits)))(hg:A[k]?=some (.v (.int g)))(ht:((A.set i .u).all (Sl.oth i))=true) :
  VS A (CH (BI 5 (Fq W n) (AI (AB t) (AI (AB b) (AI (AB i) (AI (AB k) (AI Hs Au))))))) R ((Tn ξ bits n H g).bind λz=>some (.nx z.2.1)) (λH'=>A.set i (.w i (oDK D.int H'))):=λf hf S0 e F S hs=>by
 obtain⟨z,h1,h2⟩:=BG hf;cases h2;unfold Tn at h1;split at h1
 ·rename_i hc
  obtain⟨c1,c2,c3⟩:=hc;obtain⟨x,g1,ni,rfl,g2,g3⟩:=hs.sl i _ hi;obtain⟨x,q1,nt,rfl,q2,q4⟩:=hs.sl t _ ht';obtain⟨x,b1,rfl⟩:=hs.sl b _ hb;obtain⟨x,k1,rfl⟩:=hs.sl k _ hg;have q3:=hs.fz _ _ q2;have hl:=Bo g3;have arg:AI (AB t) (AI (AB b) (AI (AB i) (AI (AB k) (AI Hs Au)))) e S=.ok [.ref nt,.int bits,.ref ni,.int g,.ref S.length] (S++[.dK []]):=BX (NQ q1) (BX (NQ b1) (BX (NQ g1) (BX (NQ k1) (BX rfl rfl))));have kk:=Keeps.app S [.dK []];obtain⟨r1,r2⟩:=Xg W (bits:=bits) c1 n H g [] z h1 c2 c3;obtain⟨S5,r3,r4,r5,r6⟩:=r2 (S++[.dK []]) nt ni S.length (kk.at q3) (kk.at g3) (By _ _) (Aq hl);have hp:=hs.put (o':=oDK D.int z.2.1) ht hi g1 g2
  have hk:Keeps (S.set ni (oDK D.int z.2.1)) S5:=by
   refine⟨by rw[DQ];exact At kk.1 r6.1,λj hj=>?_⟩;rw[DQ]at hj
   by_cases c:j=ni
   ·subst c
    rw[r4,Ao hl]
   ·rw[AW (CB c),r6.2 j (Ab hj kk.1) c (Aq hj),kk.2 j hj]
  exact⟨_,S5,DV ((B6 (n:=5) arg rfl).trans r3),e,_,rfl,hp.grow hk,hp.fle S5⟩
 ·cases h1
def TU{W:Wd}{S:Sto}{q:Nat}{w:Nat×List (Int×Int)}(h:S[q]?=some (Gr W w)):G0 W S q w.1 w.2:=⟨⟨_,h,rfl,rfl,rfl⟩⟩
structure Wok(w:Nat×List (Int×Int)):Prop where
 hp:w.1<=60
 hnb:∀x:Int,0<=x->x < w.1->∀y∈nbW w.2 x,0<=y/\y < w.1
 hlen:∀x,(nbW w.2 x).length<=1000
 hsym:∀x y:Int,0<=x->0<=y->y∈nbW w.2 x->x∈nbW w.2 y
 hts:∀x∈w.2,(0<=x.1/\x.1 < w.1)/\x.2∈nbW w.2 x.1
 hall:∀a b:Int,0<=a->a < w.1->b∈nbW w.2 a->(a,b)∈w.2∨(b,a)∈w.2
abbrev LU(w:Nat×List (Int×Int)):List Int:=(BA w.1).map λx:Nat=>col (nbW w.2) w.1 x
open Classical in
def Ca(w:Nat×List (Int×Int)):Option (List Int):=if Wok w/\JF (nbW w.2) w.1 (col (nbW w.2) w.1)then some (LU w)else none
def Hg(W:Wd)(w:Nat×List (Int×Int)):VF (Dr W) [.z ((Gr W) w)] (rV (eT D.int)) (Ca w):=λv hv S ds ha=>by
 unfold Ca at hv;split at hv
 ·rename_i hc
  obtain⟨ok,h2⟩:=hc;cases hv
  match ds,ha with
  | [d],⟨⟨q,h1,hq⟩,_⟩=>
   subst h1;obtain⟨o,S',c1,k1,h3⟩:=iV (TU hq) ok.hp ok.hnb ok.hlen ok.hsym ok.hts ok.hall
   rcases h3 with⟨_,h3⟩ | ⟨rfl,_⟩
   ·exact zX h2 h3
   ·have s1:Bj 1 (BI 1 (Ha W) (AI (AB 0) Au)) (DF 2 [.ref q]) S=oN [sR q,some (B8 (LU w))] S':=DG (i:=1) ((B6 (ds:=[.ref q]) (S1:=S) rfl rfl).trans c1)
    refine⟨B8 (LU w),S',DJ (n:=2) (mb:=FG W) ?_,k1,rfl⟩;unfold FG;refine(A9 s1).trans ?_;refine C0 (A9 (e1:=[sR q,some (B8 (LU w))]) (S1:=S') ((EU (GR (BO (x:=B8 (LU w)) (y:=.non) (S1:=S') (S2:=S') rfl rfl rfl))).trans rfl)) rfl
 ·cases hv
def Jx(BQ:(Nat×List (Int×Int)))(B1:(List Int)):Option (Fw (List (Int×Int)) Unit):=
 DP (((((some BQ).bind λx2=>some (x2.1:Int)).bind Qo).bind λl9=>G9 l9 (λx3=>some true) (λx3=>((some BQ).bind λx4=>((some x3).bind λx5=>(some ()).bind λx6=>some (x5,x6)).bind λx7=>some (x4,x7)).bind λz8=>Lq z8.1 z8.2.1)).bind λx10=>some (.nx x10)) λv1=>DP ((((some (1:Int)).bind λx13=>((some BQ).bind λx12=>some (x12.1:Int)).bind λx14=>Za x13 x14).bind λx16=>(some (1:Int)).bind λx17=>some (x16 - x17)).bind λx18=>some (.nx x18)) λv11=>DP ((some []).bind λx20=>some (.nx x20)) λv19=>DP (((some B1).bind λx21=>some (N8 x21)).bind λl31=>J9 l31 v19 λ(s22:(List (Int×Int))) x23=>LR (λs29=>s29) (((some x23.2).bind λx24=>(some (0:Int)).bind λx25=>some (decide (x24=x25))).bind λx28=>if x28=true then LR (λv26=>v26) ((Tn v1 v11 62 s22 x23.1).bind λx27=>some (.nx x27.2.1))else some (.nx s22))) λs32=>some (.rt s32)
def GM(BQ:(Nat×List (Int×Int)))(B1:(List Int)):Option (List (Int×Int)):=Pi (Jx BQ B1)
def PN(W:Wd)(BQ:(Nat×List (Int×Int)))(B1:(List Int)):VF (KA W) [.z ((Gr W) BQ),.v ((eT D.int) B1)] (rN (oDK D.int)) (GM BQ B1):=by
 refine MR (n:=7) (b:=L3 W) (p:=Jx BQ B1) (B:=λ_=>[]) ?_;show VS [.z ((Gr W) BQ),.v ((eT D.int) B1),.u,.u,.u,.u,.u] _ _ _ _;unfold L3 Jx;exact(Cm (MQ (FE (IP (VI.k (NP (Jc (DS rfl)))) (λx3=>MV) (λx3=>(Gj (PM (DS rfl) (U5 (BL rfl) IQ)) (λz8=>ZK W z8.1 z8.2.1) (λ_=>rfl) Pf))))) (λv1=>(Cm (Ry (iM (iO (KP rfl) (Jc (DS rfl))) (KP rfl))) (λv11=>(Cm (Jv PJ) (λv19=>(Cm (O2 (s0:=v19) (B:=(λ(s33:(List (Int×Int)))=>[.z ((Gr W) BQ),.v ((eT D.int) B1),.y ((oL (eT D.int)) v1),.v (D.int v11),.w 4 ((oDK D.int) s33),.u,.u])) (PF (BL rfl)) WK (.same (.same (.same (.same (.same (.same (.same .nil))))))) (λs22 x23=>(JJ (O1 (B:=(λ(s30:(List (Int×Int)))=>[.z ((Gr W) BQ),.v ((eT D.int) B1),.y ((oL (eT D.int)) v1),.v (D.int v11),.w 4 ((oDK D.int) s30),.v (D.int x23.1),.v (D.int x23.2)])) (LP (TY Dt Nd (BL rfl) (KP rfl))) (JJ (cH (t:=2) (b:=3) (i:=4) (k:=5) rfl rfl rfl rfl rfl) (λv26=>(.same (.same (.same (.same (.same (.same (.same .nil))))))))) (Q7 (.same (.same (.same (.same (.same (.same (.same .nil))))))))) (λs29=>(.same (.same (.same (.same (.same (.drop (.drop .nil))))))))))) (λs32=>(WL rfl)))))))))
def ID(BQ:(Nat×List (Int×Int))):Option (Fw (List (Int×Int)) Unit):=
 DP ((((some BQ).bind λx5=>((((some BQ).bind λx2=>(some ()).bind λx3=>some (x2,x3)).bind λz4=>Ca z4.1).bind λx6=>(some ()).bind λx7=>some (x6,x7)).bind λx8=>some (x5,x8)).bind λz9=>GM z9.1 z9.2.1).bind λx10=>some (.nx x10)) λv1=>(((some (v1.map (·.1))).bind λl22=>G9 l22 (λx11=>some true) (λx11=>((some x11).bind λx14=>((some v1).bind λl12=>(some x11).bind λx13=>A3 l12 x13).bind λx15=>some (if x15 < x14 then x15 else x14)).bind λx20=>((some x11).bind λx18=>((some v1).bind λl16=>(some x11).bind λx17=>A3 l16 x17).bind λx19=>some (if x19 > x18 then x19 else x18)).bind λx21=>some (x20,x21))).bind λx23=>some (Ev x23)).bind λx24=>some (.rt x24)
def FT(BQ:(Nat×List (Int×Int))):Option (List (Int×Int)):=Pi (ID BQ)
def MX(W:Wd)(BQ:(Nat×List (Int×Int))):VF (Gv W) [.z ((Gr W) BQ)] (rN (oL (eP D.int D.int))) (FT BQ):=by
 refine MR (n:=2) (b:=KH W) (p:=ID BQ) (B:=λ_=>[]) ?_;show VS [.z ((Gr W) BQ),.u] _ _ _ _;unfold KH ID;exact(Cm (Jv (Gj (PM (DS rfl) (U5 (Gj (PM (DS rfl) IQ) (λz4=>Hg W z4.1) (λ_=>rfl) Pf) IQ)) (λz9=>PN W z9.1 z9.2.1) (λ_=>rfl) Wa)) (λv1=>(lE 1 rfl rfl (cJ (ZB (Hy (FE (IP (VI.k (iJ rfl)) (λx11=>MV) (λx11=>(cT (cW (BL rfl) (Q9 (LD rfl) (BL rfl))) (cX (BL rfl) (Q9 (LD rfl) (BL rfl)))))))))))))
def FR(BQ:(Nat×List (Int×Int)))(B1:(List Int))(Bh:(List (Int×Int))):Option (Fw (List (Int×Bool)) Unit):=
 DP (((some Bh).bind λx2=>some (x2.map (·.2))).bind λx3=>some (.nx x3)) λv1=>DP ((((some B1).bind λx5=>some (N8 x5)).bind λl12=>G9 l12 (λx6=>((some x6.2).bind λx7=>(some (0:Int)).bind λx8=>some (decide (x7=x8))).bind λx11=>if x11=true then(some x6.1).bind λx9=>(some v1).bind λx10=>some (!decide (x9∈x10))else some false) (λx6=>some x6.1)).bind λx13=>some (.nx x13)) λv4=>DP ((some []).bind λx15=>some (.nx x15)) λv14=>DP (whF (λ(s16:(List Int)×(List (Int×Bool)))=>(some s16.1).bind λx18=>some (!x18.isEmpty)) (λ(s16:(List Int)×(List (Int×Bool)))=>DP ((Xq s16.1).bind λx20=>some (.nx x20)) λv19=>LR (λs48=>(s48.2,s48.1)) (((some v19.1).bind λx21=>(some s16.2).bind λx22=>some (!(A3 x22 x21).isSome)).bind λx47=>if x47=true then DP ((some true).bind λx24=>(some v19.1).bind λx25=>(Mg s16.2 x25 x24).bind λl26=>some (.nx l26)) λv23=>LR (λs45=>(v23,s45)) ((((some B1).bind λl29=>(some v19.1).bind λx30=>atI l29 x30).bind λx27=>(some (0:Int)).bind λx28=>some (decide (x27=x28))).bind λx44=>if x44=true then LR (λv31=>v31) ((((some BQ).bind λx34=>((some v19.1).bind λx35=>(some ()).bind λx36=>some (x35,x36)).bind λx37=>some (x34,x37)).bind λz38=>Lq z38.1 z38.2.1).bind λx32=>(OR v19.2 x32).bind λl33=>some (.nx l33))else LR (λv39=>v39) (((some Bh).bind λl42=>(some v19.1).bind λx43=>A3 l42 x43).bind λx40=>(Ye v19.2 x40).bind λl41=>some (.nx l41)))else some (.nx (s16.2,v19.2)))) wN (v4,v14)) λs17=>some (.rt s17.2)
def EG(BQ:(Nat×List (Int×Int)))(B1:(List Int))(Bh:(List (Int×Int))):Option (List (Int×Bool)):=Pi (FR BQ B1 Bh)
def NR(W:Wd)(BQ:(Nat×List (Int×Int)))(B1:(List Int))(Bh:(List (Int×Int))):VF (HP W) [.z ((Gr W) BQ),.v ((eT D.int) B1),.z ((oDK D.int) Bh)] (rN (oDK D.bl)) (EG BQ B1 Bh):=by
 refine MR (n:=7) (b:=HR W) (p:=FR BQ B1 Bh) (B:=λ_=>[]) ?_;show VS [.z ((Gr W) BQ),.v ((eT D.int) B1),.z ((oDK D.int) Bh),.u,.u,.u,.u] _ _ _ _;unfold HR FR;exact(Cm (MQ (TX (DS rfl))) (λv1=>(Cm (Jv (FE (O5 (VI.k (PF (BL rfl))) (λx6=>(U4 (LP (TY Dt Nd (BL rfl) (KP rfl))) (LP (R5 Dt (BL rfl) (LD rfl))))) (λx6=>(BL rfl))))) (λv4=>(Cm (Jv PJ) (λv14=>(Cm (Y6 (s0:=(v4,v14)) (B:=(λ(s50:(List Int)×(List (Int×Bool)))=>[.z ((Gr W) BQ),.v ((eT D.int) B1),.z ((oDK D.int) Bh),.y ((oL D.int) v1),.w 4 ((oL D.int) s50.1),.w 5 ((oDK D.bl) s50.2),.u])) (.same (.same (.same (.same (.same (.same (.same .nil))))))) (λs16=>(cg (Iw rfl))) (λs16=>(Cm (cK (i:=4) rfl (by decide) rfl) (λv19=>(JJ (O1 (B:=(λ(s49:(List (Int×Bool))×(List Int))=>[.z ((Gr W) BQ),.v ((eT D.int) B1),.z ((oDK D.int) Bh),.y ((oL D.int) v1),.w 4 ((oL D.int) s49.2),.w 5 ((oDK D.bl) s49.1),.v (D.int v19.1)])) (LP (PH (BL rfl) (Iw rfl))) (Cm (O3 rfl (BL rfl) (KP rfl) rfl) (λv23=>(JJ (O1 (B:=(λ(s46:(List Int))=>[.z ((Gr W) BQ),.v ((eT D.int) B1),.z ((oDK D.int) Bh),.y ((oL D.int) v1),.w 4 ((oL D.int) s46),.w 5 ((oDK D.bl) v23),.v (D.int v19.1)])) (LP (TY Dt Nd (ZD (BL rfl) (BL rfl)) (KP rfl))) (JJ (cM rfl (Gj (PM (DS rfl) (U5 (BL rfl) IQ)) (λz38=>ZK W z38.1 z38.2.1) (λ_=>rfl) Pf) rfl) (λv31=>(.same (.same (.same (.same (.same (.same (.same .nil))))))))) (JJ (Y7 rfl (ZI (DS rfl) (BL rfl)) rfl) (λv39=>(.same (.same (.same (.same (.same (.same (.same .nil)))))))))) (λs45=>(.same (.same (.same (.same (.same (.same (.same .nil))))))))))) (Q7 (.same (.same (.same (.same (.same (.same (.same .nil))))))))) (λs48=>(.same (.same (.same (.same (.same (.same (.drop .nil))))))))))))) (λs17=>(WL rfl)))))))))
def HV(BQ:(Nat×List (Int×Int))):Option (Fw (List Int) Unit):=
 DP ((((some BQ).bind λx2=>(some ()).bind λx3=>some (x2,x3)).bind λz4=>Ca z4.1).bind λx5=>some (.nx x5)) λv1=>DP ((((some BQ).bind λx12=>((some v1).bind λx13=>((((some BQ).bind λx7=>((some v1).bind λx8=>(some ()).bind λx9=>some (x8,x9)).bind λx10=>some (x7,x10)).bind λz11=>GM z11.1 z11.2.1).bind λx14=>(some ()).bind λx15=>some (x14,x15)).bind λx16=>some (x13,x16)).bind λx17=>some (x12,x17)).bind λz18=>EG z18.1 z18.2.1 z18.2.2.1).bind λx19=>some (.nx x19)) λv6=>(((some v1).bind λx20=>some (N8 x20)).bind λl28=>G9 l28 (λx21=>((some x21.1).bind λx24=>(some v6).bind λx25=>some ((A3 x25 x24).isSome)).bind λx22=>((some x21.2).bind λx26=>(some (1:Int)).bind λx27=>some (decide (x26=x27))).bind λx23=>some (decide (x22=x23))) (λx21=>some x21.1)).bind λx29=>some (.rt x29)
def Ej(BQ:(Nat×List (Int×Int))):Option (List Int):=Pi (HV BQ)
def Qe(W:Wd)(BQ:(Nat×List (Int×Int))):VF (JO W) [.z ((Gr W) BQ)] (rV (eT D.int)) (Ej BQ):=by
 refine MR (n:=3) (b:=JP W) (p:=HV BQ) (B:=λ_=>[]) ?_;show VS [.z ((Gr W) BQ),.u,.u] _ _ _ _;unfold JP HV;exact(Cm (Ry (Gj (PM (DS rfl) IQ) (λz4=>Hg W z4.1) (λ_=>rfl) Pf)) (λv1=>(Cm (MQ (Gj (PM (DS rfl) (U5 (BL rfl) (PM (Hy (Gj (PM (DS rfl) (U5 (BL rfl) IQ)) (λz11=>PN W z11.1 z11.2.1) (λ_=>rfl) Wa)) IQ))) (λz18=>NR W z18.1 z18.2.1 z18.2.2.1) (λ_=>rfl) Wa)) (λv6=>(Kb (Q8 (Hy (FE (O5 (VI.k (PF (BL rfl))) (λx21=>(LP (TY kB ls (cZ (BL rfl) (LD rfl)) (TY Dt Nd (BL rfl) (KP rfl))))) (λx21=>(BL rfl)))))))))))
def Ex(BQ:(Nat×List (Int×Int))):Option (Fw ((List Int)×(List (List Int))) Unit):=
 DP ((((some BQ).bind λx2=>(some ()).bind λx3=>some (x2,x3)).bind λz4=>Ej z4.1).bind λx5=>some (.nx x5)) λv1=>DP (((((some BQ).bind λx7=>some (x7.1:Int)).bind Qo).bind λl11=>G9 l11 (λx8=>(some x8).bind λx9=>(some v1).bind λx10=>some (!decide (x9∈x10))) (λx8=>some x8)).bind λx12=>some (.nx x12)) λv6=>DP ((((some BQ).bind λx14=>(some ()).bind λx15=>some (x14,x15)).bind λz16=>FT z16.1).bind λx17=>some (.nx x17)) λv13=>DP ((some []).bind λx19=>some (.nx x19)) λv18=>DP ((some v13).bind λl30=>J9 l30 v18 λ(s20:(List (Int×Bool))) x21=>DP ((some true).bind λx23=>(some x21.1).bind λx24=>(Mg s20 x24 x23).bind λl25=>some (.nx l25)) λv22=>LR (λv26=>v26) ((some true).bind λx27=>(some x21.2).bind λx28=>(Mg v22 x28 x27).bind λl29=>some (.nx l29))) λs31=>DP (((((some BQ).bind λx34=>some (x34.1:Int)).bind Qo).bind λl40=>G9 l40 (λx35=>(some x35).bind λx36=>(some s31).bind λx37=>some (!(A3 x37 x36).isSome)) (λx35=>((some x35).bind λx38=>(some []).bind λl39=>some (x38 :: l39)).bind Qw)).bind λx41=>some (.nx x41)) λv33=>(some v6).bind λx45=>((((some v13).bind λx44=>some (x44.map Fm)).bind λx42=>(some v33).bind λx43=>OR x42 x43).bind SA).bind λx46=>some (.rt (x45,x46))
def Go(BQ:(Nat×List (Int×Int))):Option ((List Int)×(List (List Int))):=Pi (Ex BQ)
def Ix(W:Wd)(BQ:(Nat×List (Int×Int))):VF (Ds W) [.z ((Gr W) BQ)] (rP (eT D.int) (oL (eT D.int))) (Go BQ):=by
 refine MR (n:=8) (b:=Gy W) (p:=Ex BQ) (B:=λ_=>[]) ?_;show VS [.z ((Gr W) BQ),.u,.u,.u,.u,.u,.u,.u] _ _ _ _;unfold Gy Ex;exact(Cm (Ry (Gj (PM (DS rfl) IQ) (λz4=>Qe W z4.1) (λ_=>rfl) Pf)) (λv1=>(Cm (Ry (Q8 (Hy (FE (IP (VI.k (NP (Jc (DS rfl)))) (λx8=>(LP (cV Dt (BL rfl) (BL rfl)))) (λx8=>(BL rfl))))))) (λv6=>(Cm (MQ (Gj (PM (DS rfl) IQ) (λz16=>MX W z16.1) (λ_=>rfl) Wa)) (λv13=>(Cm (Jv PJ) (λv18=>(Cm (O2 (s0:=v18) (B:=(λ(s32:(List (Int×Bool)))=>[.z ((Gr W) BQ),.v ((eT D.int) v1),.v ((eT D.int) v6),.y ((oL (eP D.int D.int)) v13),.w 4 ((oDK D.bl) s32),.u,.u,.u])) (cQ rfl) WK (.same (.same (.same (.same (.same (.same (.same (.same .nil)))))))) (λs20 x21=>(Cm (O3 rfl (BL rfl) (KP rfl) rfl) (λv22=>(JJ (O3 rfl (BL rfl) (KP rfl) rfl) (λv26=>(.same (.same (.same (.same (.same (.drop (.drop (.same .nil)))))))))))))) (λs31=>(Cm (MQ (FE (IP (VI.k (NP (Jc (DS rfl)))) (λx35=>(LP (PH (BL rfl) (Iw rfl)))) (λx35=>(iL (WM (BL rfl) R3)))))) (λv33=>(cI (BL rfl) (ZA (Hy (WQ (XV (LD rfl)) (LD rfl)))))))))))))))))
def Jy(Bh:Int):Option (Fw Bool Unit):=
 (((some Bh).bind λx1=>some true).bind λx4=>if x4=true then((some Bh).bind λx2=>some false).bind λx3=>some (!x3)else some false).bind λx5=>some (.rt x5)
def Jz(Bh:Int):Option Bool:=Pi (Jy Bh)
def R7(W:Wd)(Bh:Int):VF (KB W) [.v (D.int Bh)] (rV D.bl) (Jz Bh):=by
 refine MR (n:=1) (b:=KI W) (p:=Jy Bh) (B:=λ_=>[]) ?_;show VS [.v (D.int Bh)] _ _ _ _;unfold KI Jy;exact(Kb (OZ (ZF (T:="int") (BL rfl) (λ_ _=>rfl) (by decide +kernel)) (cU (ZF (T:="int") (BL rfl) (λ_ _=>rfl) (by decide +kernel)))))
def HW(Bh:(List Int))(JS:Int):Option (Fw Bool Unit):=
 DP (((((some Bh).bind λx1=>some true).bind λx2=>some (!x2)).bind λx10=>if x10=true then some true else(((some Bh).bind λl7=>G9 l7 (λx3=>some true) (λx3=>((some x3).bind λx4=>(some ()).bind λx5=>some (x4,x5)).bind λz6=>Jz z6.1)).bind λx8=>some (x8.all id)).bind λx9=>some (!x9)).bind λx12=>if x12=true then(some false).bind λx11=>some (.rt x11)else some (.nx ())) λ_=>DP (((((some Bh).bind λx17=>some (C1 x17)).bind λx15=>(some Bh).bind λx16=>some (!decide (x15=x16))).bind λx21=>if x21=true then some true else((some Bh).bind Zb).bind λx18=>((some Bh).bind λx20=>some (x20.length:Int)).bind λx19=>some (!decide (x18=x19))).bind λx23=>if x23=true then(some false).bind λx22=>some (.rt x22)else some (.nx ())) λ_=>(((some Bh).bind λl30=>G9 l30 (λx26=>some true) (λx26=>(some (0:Int)).bind λx27=>(some x26).bind λx28=>if decide (x27<=x28)=true then(some JS).bind λx29=>some (decide (x28 < x29))else some false)).bind λx31=>some (x31.all id)).bind λx32=>some (.rt x32)
def Ek(Bh:(List Int))(JS:Int):Option Bool:=Pi (HW Bh JS)
def LX(W:Wd)(Bh:(List Int))(JS:Int):VF (Dx W) [.v ((eT D.int) Bh),.v (D.int JS)] (rV D.bl) (Ek Bh JS):=by
 refine MR (n:=2) (b:=JQ W) (p:=HW Bh JS) (B:=λ_=>[]) ?_;show VS [.v ((eT D.int) Bh),.v (D.int JS)] _ _ _ _;unfold JQ HW;exact(Cm (O1 (B:=(λ(_:Unit)=>[.v ((eT D.int) Bh),.v (D.int JS)])) (gW (U3 (LP (ZF (T:="tuple") (BL rfl) (λ_ _=>rfl) (by decide +kernel)))) (U3 (LP (ZJ (R0 (Hy (FE (IP (VI.k (PD (BL rfl))) (λx3=>MV) (λx3=>(Gj (U5 (BL rfl) IQ) (λz6=>R7 W z6.1) (λ_=>rfl) Pf)))))))))) (Kb (KP rfl)) (Q7 (.same (.same .nil)))) (λ_=>(Cm (O1 (B:=(λ(_:Unit)=>[.v ((eT D.int) Bh),.v (D.int JS)])) (gW (LP (iQ Dt (Hy (XU (BL rfl))) (Hy (FE (R4 (Rz (BL rfl))))))) (LP (gR Dt Nd (XW (BL rfl)) (cY (BL rfl))))) (Kb (KP rfl)) (Q7 (.same (.same .nil)))) (λ_=>(Kb (ZJ (R0 (Hy (FE (IP (VI.k (PD (BL rfl))) (λx26=>MV) (λx26=>(TZ gk gj (KP rfl) (BL rfl) (BL rfl)))))))))))))
def Ey(FW:(List (List Int)))(GD:(List (List Int))):Option (Fw Bool Unit):=
 DP (((some []).bind Qw).bind λx2=>some (.nx x2)) λv1=>DP (((some []).bind Qw).bind λx4=>some (.nx x4)) λv3=>DP ((some GD).bind λl40=>J9 l40 (v1,v3) λ(s5:(List Int)×(List Int)) x6=>DP ((some x6).bind λl24=>J9 l24 () λ(_:Unit) x8=>LR (λ_=>()) ((some x6).bind λl21=>J9 l21 () λ(_:Unit) x10=>LR (λ_=>()) ((((some x8).bind λx11=>(some x10).bind λx12=>some (!decide (x11=x12))).bind λx16=>if x16=true then(some x10).bind λx13=>((some x8).bind λx15=>atI FW x15).bind λx14=>some (!decide (x13∈x14))else some false).bind λx18=>if x18=true then(some false).bind λx17=>some (.rt x17)else some (.nx ())))) λ_=>DP ((some x6).bind λx28=>(OR s5.1 x28).bind λl29=>some (.nx l29)) λv27=>LR (λv30=>(v27,v30)) ((((some x6).bind λx36=>((((some (1:Int)).bind λx33=>some (-x33)).bind λx34=>(some []).bind λl35=>some (x34 :: l35)).bind Qw).bind λx37=>OR x36 x37).bind λl38=>(some (0:Int)).bind λx39=>atI l38 x39).bind λx31=>(Ye s5.2 x31).bind λl32=>some (.nx l32))) λs41=>((((some s41.1).bind λx45=>some (C1 x45)).bind λx43=>((some (FW.length:Int)).bind Qo).bind λx44=>some (decide (x43=x44))).bind λx53=>if x53=true then(((some s41.2).bind λx48=>some (C1 x48)).bind λx46=>(some s41.2).bind λx47=>some (decide (x46=x47))).bind λx52=>if x52=true then((some (1:Int)).bind λx51=>some (-x51)).bind λx49=>(some s41.2).bind λx50=>some (!decide (x49∈x50))else some false else some false).bind λx54=>some (.rt x54)
def Gp(FW:(List (List Int)))(GD:(List (List Int))):Option Bool:=Pi (Ey FW GD)
def MY(W:Wd)(FW:(List (List Int)))(GD:(List (List Int))):VF (E0 W) [.q (Nst D.int FW),.z ((oL (eT D.int)) GD)] (rV D.bl) (Gp FW GD):=by
 refine MR (n:=7) (b:=Gz W) (p:=Ey FW GD) (B:=λ_=>[]) ?_;show VS [.q (Nst D.int FW),.z ((oL (eT D.int)) GD),.u,.u,.u,.u,.u] _ _ _ _;unfold Gz Ey;exact(Cm (Jv (FE (O4 R3))) (λv1=>(Cm (Jv (FE (O4 R3))) (λv3=>(Cm (O2 (s0:=(v1,v3)) (B:=(λ(s42:(List Int)×(List Int))=>[.q (Nst D.int FW),.z ((oL (eT D.int)) GD),.w 2 ((oL D.int) s42.1),.w 3 ((oL D.int) s42.2),.u,.u,.u])) (Y9 rfl) Rx (.same (.same (.same (.same (.same (.same (.same .nil))))))) (λs5 x6=>(Cm (O2 (s0:=()) (B:=(λ(_:Unit)=>[.q (Nst D.int FW),.z ((oL (eT D.int)) GD),.w 2 ((oL D.int) s5.1),.w 3 ((oL D.int) s5.2),.v ((eT D.int) x6),.u,.u])) (PD (BL rfl)) Rx (.same (.same (.same (.same (.same (.same (.same .nil))))))) (λ_ x8=>(JJ (O2 (s0:=()) (B:=(λ(_:Unit)=>[.q (Nst D.int FW),.z ((oL (eT D.int)) GD),.w 2 ((oL D.int) s5.1),.w 3 ((oL D.int) s5.2),.v ((eT D.int) x6),.v (D.int x8),.u])) (PD (BL rfl)) Rx (.same (.same (.same (.same (.same (.same (.same .nil))))))) (λ_ x10=>(JJ (O1 (B:=(λ(_:Unit)=>[.q (Nst D.int FW),.z ((oL (eT D.int)) GD),.w 2 ((oL D.int) s5.1),.w 3 ((oL D.int) s5.2),.v ((eT D.int) x6),.v (D.int x8),.v (D.int x10)])) (U4 (LP (gR Dt Nd (BL rfl) (BL rfl))) (LP (R5 Dt (BL rfl) (iP rfl (BL rfl))))) (Kb (KP rfl)) (Q7 (.same (.same (.same (.same (.same (.same (.same .nil))))))))) (λ_=>(.same (.same (.same (.same (.same (.same (.drop .nil))))))))))) (λ_=>(.same (.same (.same (.same (.same (.drop (.same .nil))))))))))) (λ_=>(Cm (iH rfl (FE (R4 (Rz (BL rfl)))) rfl) (λv27=>(JJ (Y7 rfl (ZE (Hy (WQ (Hy (FE (R4 (Rz (BL rfl))))) (Hy (FE (O4 (WM (ZC (KP rfl)) R3)))))) (KP rfl)) rfl) (λv30=>(.same (.same (.same (.same (.drop (.same (.same .nil))))))))))))))) (λs41=>(Kb (OZ (ZH Dt (Hy (TW (Iw rfl))) (Hy (FE (XT (cS rfl))))) (OZ (ZH Dt (Hy (TW (Iw rfl))) (Iw rfl)) (R5 Dt (ZC (KP rfl)) (Iw rfl)))))))))))
def ju:∀o:Nat,o < 61->∀x:Nat,x < o->hb (1 * 2 ^ o - 1) (x:Int)=true:=by decide +kernel
def jY{G Z:List Int}{f:Int->Int}(hG:G.Nodup)(hZ:Z.Nodup)(hl:G.length=Z.length)(hf:∀a∈G,f a∈Z)(hi:∀a∈G,∀b∈G,f a=f b->a=b):∀y∈Z,∃a∈G,f a=y:=by
 intro y hy
 by_cases c:y∈G.map f
 ·obtain⟨a,h1,h2⟩:=Ag.mp c
  exact⟨a,h1,h2⟩
 ·have nd:(y :: G.map f).Nodup:=CW.mpr ⟨c,nd_map hG hi⟩
  have:=J3 nd (k:=Z) λx hx=>by
   rcases Aw.mp hx with rfl | hx
   ·exact hy
   ·obtain⟨a,h1,rfl⟩:=Ag.mp hx
    exact hf a h1
  rw[A8,AC]at this
  lia
where
 nd_map {G:List Int} {f:Int->Int} (hG:G.Nodup) (hi:∀a∈G,∀b∈G,f a=f b->a=b):(G.map f).Nodup:=by
  unfold ND;rw[Bv];exact FC (λ{a b} ha hb h e=>h (hi a ha b hb e)) hG
section
variable{nb:Int->List Int}{p:Nat}
abbrev U(p:Nat):List Int:=(BA p).map λx:Nat=>(x:Int)
def IA{x:Int}:x∈U p↔0<=x/\x < p:=by
 rw[Ag]
 constructor
 ·rintro⟨n,h,rfl⟩
  have:=EQ.mp h
  lia
 ·rintro⟨h1,h2⟩
  exact⟨x.toNat,EQ.mpr (by lia),by lia⟩
def Hz(nb:Int->List Int)(H:HL)(Z:List Int):Prop:=Z.Nodup/\∀y∈Z,∃a,A3 H y=some a/\∀x∈nb a,x∈Z
structure Mt(nb:Int->List Int)(p:Nat)(c:Int->Int)(H:HL):Prop where
 ko:KOk (U p) H
 gd:∀x a,A3 H x=some a->(0<=a/\a < p)/\c a=0
 on:∀x a,A3 H x=some a->x∈nb a
 inj:∀x y a,A3 H x=some a->A3 H y=some a->x=y
def aj{c:Int->Int}{H H':HL}(m:Mt nb p c H)(m':Mt nb p c H')(hg:∀x a,A3 H x=some a->∃y,A3 H' y=some a){Z:List Int}(h:Hz nb H Z):Hz nb H' Z:=by
 refine⟨h.1,?_⟩
 have h1:∀y:Int,∃a:Int,y∈Z->A3 H y=some a/\∀x∈nb a,x∈Z:=λy=>by
  by_cases c:y∈Z
  ·obtain⟨a,h1⟩:=h.2 y c
   exact⟨a,λ_=>h1⟩
  ·exact⟨0,λz=>zX z c⟩
 have⟨g,hgz⟩:=QP h1
 have h2:∀a:Int,∃y:Int,(∃x,A3 H x=some a)->A3 H' y=some a:=λa=>by
  by_cases c:∃x,A3 H x=some a
  ·obtain⟨x,hx⟩:=c
   obtain⟨y,hy⟩:=hg x a hx;exact⟨y,λ_=>hy⟩
  ·exact⟨0,λz=>zX z c⟩
 have⟨f,hf⟩:=QP h2
 have hG:(Z.map g).Nodup:=jY.nd_map h.1 λa ha b hb e=>by
  have e1:=(hgz a ha).1;have e2:=(hgz b hb).1;rw[e]at e1;exact m.inj a b _ e1 e2
 have mem:∀a∈Z.map g,∃x∈Z,A3 H x=some a/\∀y∈nb a,y∈Z:=λa ha=>by
  obtain⟨x,hx,rfl⟩:=Ag.mp ha;exact⟨x,hx,hgz x hx⟩
 have key:=jY (G:=Z.map g) (Z:=Z) (f:=f) hG h.1 (AC _) (λa ha=>by
  obtain⟨x,hx,e,k⟩:=mem a ha
  exact k _ (m'.on _ _ (hf a ⟨x,e⟩))) (λa ha b hb e=>by
  obtain⟨x,hx,e1,_⟩:=mem a ha;obtain⟨y,hy,e2,_⟩:=mem b hb;have f1:=hf a ⟨x,e1⟩;have f2:=hf b ⟨y,e2⟩;rw[e,f2]at f1
  exact(CJ f1).symm)
 intro y hy;obtain⟨a,ha,e⟩:=key y hy;obtain⟨x,hx,e1,k⟩:=mem a ha;refine⟨a,?_,k⟩;rw[<-e];exact hf a ⟨x,e1⟩
def Tj{c:Int->Int}{T:Int->List Int}{bits:Int}(hp:p<=60)(hT:∀g:Int,0<=g->g < p->T g=nb g)(hb':∀x:Int,0<=x->x < p->hb bits x=true)(hnb:∀x:Int,0<=x->x < p->∀y∈nb x,0<=y/\y < p){H:HL}(m:Mt nb p c H){g:Int}(hg:(0<=g/\g < p)/\c g=0)(hn:∀x,A3 H x≠some g) :
  Ok (GB T bits 62 H g []) λz=>Mt nb p c z.2.1/\((∀a,(∃x,A3 z.2.1 x=some a)↔a=g∨∃x,A3 H x=some a)∨(z.2.1=H/\∃Z,Hz nb H Z/\∀x∈nb g,x∈Z)):=by
 have w0e:∀a:Int,0<=a->a < p->w0 T bits a=nb a:=λa h0 h1=>by
  unfold w0;rw[hT a h0 h1]
  exact XN.mpr λx hx=>hb' x (hnb a h0 h1 x hx).1 (hnb a h0 h1 x hx).2
 have sn0:∀x,¬sn ([]:QL) x:=λx h=>by cases h
 refine(Tl (T:=T) (bits:=bits) (U:=U p) (Gd:=λa=>(0<=a/\a < p)/\c a=0) (λa ha x hx=>?_) (by simp;lia) 62 H g [] m.ko SO m.gd hg (by simp;lia)).imp λz hz=>?_
 ·rw[hT a ha.1.1 ha.1.2]at hx
  exact IA.mpr (hnb a ha.1.1 ha.1.2 x hx)
 ·cases hb2:z.1 with
  | true=>
   obtain⟨_,g2⟩:=hz.h6 hb2
   obtain⟨⟨m1,m2⟩,m3⟩:=g2 ⟨λx _ a e=>by rw[w0e a (m.gd x a e).1.1 (m.gd x a e).1.2];exact m.on x a e,λx y a _ _ e1 e2=>m.inj x y a e1 e2⟩ λx _=>hn x
   refine⟨⟨hz.h1,hz.h3,λx a e=>?_,λx y a e1 e2=>m2 x y a (sn0 x) (sn0 y) e1 e2⟩,.inl λa=>?_⟩
   ·have:=m1 x (sn0 x) a e
    rwa [w0e a (hz.h3 x a e).1.1 (hz.h3 x a e).1.2]at this
   ·have:=m3 a
    exact⟨λ⟨x,e⟩=>(this.mp ⟨x,sn0 x,e⟩).imp id λ⟨x,_,e⟩=>⟨x,e⟩,λh=>by
     obtain⟨x,_,e⟩:=this.mpr (h.imp id λ⟨x,e⟩=>⟨x,sn0 x,e⟩)
     exact⟨x,e⟩⟩
  | false=>
   obtain⟨h1,h2,h3⟩:=hz.h5 hb2;refine⟨by rw[h1];exact m,.inr ⟨h1,z.2.2.map (·.1),⟨hz.h2.nd,λy hy=>?_⟩,λx hx=>?_⟩⟩
   ·rcases h3 y ((Hf _ _).mpr hy)with h | ⟨a,e,k⟩
    ·exact zX h (sn0 y)
    ·refine⟨a,e,λx hx=>(Hf _ _).mp (k x ?_)⟩
     rw[w0e a (m.gd y a e).1.1 (m.gd y a e).1.2];exact hx
   ·refine(Hf _ _).mp (h2 x ?_)
    rw[w0e g hg.1.1 hg.1.2];exact hx
end
def L0{β:Type}(p:Nat)(f:Nat->β):N8 ((BA p).map f)=(BA p).map λx:Nat=>((x:Int),f x):=by
 apply DN
 intro i;unfold N8;rw[AN,WF,AN,AN]
 by_cases h:i < p
 ·rw[BU h]
  simp
 ·rw[BJ (by simpa using h)]
  rfl
def Pe(p:Nat):Xk 0 p=U p:=by
 unfold Xk U
 refine CG λx _=>?_
 simp
section
variable{w:Nat×List (Int×Int)}
def Z9{x:Int}(h0:0<=x)(h1:x < w.1):Lq w x=some (nbW w.2 x):=by
 have r:Ez w x=some ():=by
  unfold Ez Ew;simp[h0,h1];rfl
 have hl:(Ki w.1 w.2).length=w.1:=by unfold Ki;simp
 obtain⟨y,e1,e2⟩:=Np (l:=Ki w.1 w.2) (i:=x) h0 (by rw[hl];exact h1)
 have e3:y=nbW w.2 x:=by
  unfold Ki at e2;rw[AN,BU (by lia)]at e2;exact(CJ e2).symm
 unfold Lq SH;simp only[Ac,r,DO,e1,e3];rfl
abbrev cw(w:Nat×List (Int×Int)):Int->Int:=col (nbW w.2) w.1
def cq(hp:w.1<=60):(((some w).bind λx2=>some (x2.1:Int)).bind Qo).bind (λl9=>G9 l9 (λx3=>some true) (λx3=>((some w).bind λx4=>((some x3).bind λx5=>(some ()).bind λx6=>some (x5,x6)).bind λx7=>some (x4,x7)).bind λz8=>Lq z8.1 z8.2.1))=some ((U w.1).map (nbW w.2)):=by
 simp only[Ac];rw[SG (by lia) (by lia)];simp only[Ac];rw[Bx,Pe,Jn (f:=nbW w.2) (by simp;lia) λx hx=>Z9 (IA.mp hx).1 (IA.mp hx).2]
def Tk_p{x:Int}(h0:0<=x)(h1:x < w.1):Tk ((U w.1).map (nbW w.2)) x=nbW w.2 x:=by
 have hl:((U w.1).map (nbW w.2)).length=w.1:=by simp
 obtain⟨y,e1,e2⟩:=Np (l:=(U w.1).map (nbW w.2)) (i:=x) h0 (by rw[hl];exact h1);unfold Tk;rw[e1];rw[AN,AN,BU (by lia)]at e2;have:nbW w.2 ((x.toNat:Nat):Int)=y:=CJ e2;rw[Bg h0]at this;exact this.symm
def V4(w:Nat×List (Int×Int))(H:HL)(g:Int):Prop:=(∃x,A3 H x=some g)∨∃Z,Hz (nbW w.2) H Z/\∀x∈nbW w.2 g,x∈Z
def VR(ok:Wok w):Ok (GM w (LU w)) λH=>Mt (nbW w.2) w.1 (cw w) H/\∀g:Int,0<=g->g < w.1->cw w g=0->V4 w H g:=by
 unfold GM Jx;rw[cq ok.hp];simp only[Ac,DO]
 have hsh:Za 1 (w.1:Int)=some (1 * 2 ^ w.1):=by
  have hc:bb 1 (w.1:Int):=⟨by lia,by have:=ok.hp;lia,by decide⟩;unfold Za;rw[qX hc,Bx]
 rw[hsh];simp only[Ac,DO];rw[L0]
 have hb':∀x:Int,0<=x->x < w.1->hb (1 * 2 ^ w.1 - 1) x=true:=λx h0 h1=>by
  have:=ju w.1 (by have:=ok.hp;lia) x.toNat (by lia);rwa [Bg h0]at this
 have nd1:((BA w.1).map λx:Nat=>((x:Int),col (nbW w.2) w.1 x)).map (·.1)=U w.1:=by
  rw[Ax];rfl
 have ndU:(U w.1).Nodup:=by
  unfold U ND;rw[Bv]
  exact(bf (n:=w.1)).imp λh e=>h (by lia)
 refine OkF.out (OkF.seq (OkF.for (λpre H=>Mt (nbW w.2) w.1 (cw w) H/\(∀x a,A3 H x=some a->a∈pre.map (·.1))/\∀z∈pre,z.2=0->V4 w H z.1) ?_ ?_) ?_)
 ·exact⟨⟨SO,λx a e=>(nomatch e),λx a e=>(nomatch e),λx y a e=>(nomatch e)⟩,λx a e=>(nomatch e),λz hz=>(nomatch hz)⟩
 ·intro pre z H hz hpre ⟨m,h1,h2⟩
  obtain⟨n,hn,e⟩:=Ag.mp hz;have hnp:=EQ.mp hn
  have ez:z.2=cw w z.1:=by rw[<-e]
  have hz1:0<=z.1/\z.1 < w.1:=by rw[<-e];dsimp only;lia
  have hnot:z.1∉pre.map (·.1):=λhm=>by
   have h3:((pre++[z]).map (·.1)) <+: U w.1:=by rw[<-nd1];exact hpre.map _
   have h4:=h3.sublist.nodup ndU;rw[A2,B3]at h4;exact h4.2.2 z.1 hm z.1 (by simp) rfl
  have full_mono:∀H':HL,Mt (nbW w.2) w.1 (cw w) H'->(∀x a,A3 H x=some a->∃y,A3 H' y=some a)->∀g,V4 w H g->V4 w H' g:=λH' m' hg g h=>by
   rcases h with⟨x,e⟩ | ⟨Z,hZ,k⟩
   ·exact .inl (hg x g e)
   ·exact .inr ⟨Z,aj m m' hg hZ,k⟩
  refine OkF.map (N:=λH'=>Mt (nbW w.2) w.1 (cw w) H'/\(∀x a,A3 H' x=some a->a∈(pre++[z]).map (·.1))/\∀y∈pre++[z],y.2=0->V4 w H' y.1) ?_ λ_ h=>h
  refine OkF.ite (λc=>?_) λc=>?_
  ·have c0:z.2=0:=of_decide_eq_true c
   have hsz:Tn ((U w.1).map (nbW w.2)) (1 * 2 ^ w.1 - 1) 62 H z.1=GB (Tk ((U w.1).map (nbW w.2))) (1 * 2 ^ w.1 - 1) 62 H z.1 []:=by
    unfold Tn;refine qX ⟨λt ht=>?_,⟨hz1.1,by simp;exact hz1.2⟩,λx a e=>by simp;exact(m.gd x a e).1⟩;obtain⟨x,hx,rfl⟩:=Ag.mp ht;obtain⟨x0,x1⟩:=IA.mp hx;exact⟨ok.hlen x,λy hy=>(ok.hnb x x0 x1 y hy).1⟩
   rw[hsz]
   refine OkF.map (N:=λH'=>Mt (nbW w.2) w.1 (cw w) H'/\(∀x a,A3 H' x=some a->a∈(pre++[z]).map (·.1))/\∀y∈pre++[z],y.2=0->V4 w H' y.1) ?_ λ_ h=>h
   refine OkF.of (Tj ok.hp (λg=>Tk_p) hb' ok.hnb m ⟨hz1,by rw[<-ez];exact c0⟩ λx e=>hnot (h1 x z.1 e)) λr ⟨m',hr⟩=>OkF.nx ?_
   rcases hr with hr | ⟨e1,Z,hZ,k⟩
   ·refine⟨m',λx a e=>?_,λy hy y0=>?_⟩
    ·rw[A2]
     rcases(hr a).mp ⟨x,e⟩with rfl | ⟨x',e'⟩
     ·exact A4 _ (by simp)
     ·exact Az _ (h1 x' a e')
    ·rcases Ae.mp hy with hy | hy
     ·exact full_mono _ m' (λx a e=>(hr a).mpr (.inr ⟨x,e⟩)) _ (h2 y hy y0)
     ·rw[AO.mp hy]
      exact .inl ((hr z.1).mpr (.inl rfl))
   ·rw[e1]
    refine⟨m,λx a e=>by rw[A2];exact Az _ (h1 x a e),λy hy y0=>?_⟩
    rcases Ae.mp hy with hy | hy
    ·exact h2 y hy y0
    ·rw[AO.mp hy]
     exact .inr ⟨Z,hZ,k⟩
  ·have c0:¬z.2=0:=of_decide_eq_false c
   refine OkF.nx ⟨m,λx a e=>by rw[A2];exact Az _ (h1 x a e),λy hy y0=>?_⟩
   rcases Ae.mp hy with hy | hy
   ·exact h2 y hy y0
   ·rw[AO.mp hy]at y0
    exact zX y0 c0
 ·intro H ⟨m,_,h2⟩
  refine OkF.rt ⟨m,λg h0 h1 hc=>?_⟩;exact h2 (g,cw w g) (Ag.mpr ⟨g.toNat,EQ.mpr (by lia),by rw[Bg h0]⟩) hc
end
end M
namespace L4
def Y5{ρ σ:Type}{c:σ->Option Bool}{q:σ->Option (Fw ρ σ)}(I:σ->Prop)(μ:σ->Nat)(h:∀s,I s->c s=some false∨(c s=some true/\∃s',q s=some (.nx s')/\I s'/\μ s' < μ s)) :
  ∀(n:Nat) (s:σ),I s->μ s < n->∃s',whF c q n s=some (.nx s')/\I s'/\c s'=some false
 | 0,s,_,hn=>zX hn (Ge _)
 | n+1,s,hI,hn=>by
  unfold whF
  rcases h s hI with hc | ⟨hc,s',hq,h2,h3⟩
  ·rw[hc]
   exact⟨s,rfl,hI,hc⟩
  ·rw[hc]
   simp only[Ac,if_true];rw[hq];exact Y5 I μ h n s' h2 (by lia)
end L4
namespace M
open PySem L2 L4
section
variable{w:Nat×List (Int×Int)}{H:HL}
def fX{x:Int}(h0:0<=x)(h1:x < w.1):atI (LU w) x=some (cw w x):=by
 have hl:(LU w).length=w.1:=by simp
 obtain⟨y,e1,e2⟩:=Np (l:=LU w) (i:=x) h0 (by rw[hl];exact h1);rw[e1];rw[AN,BU (by lia)]at e2;have:col (nbW w.2) w.1 ((x.toNat:Nat):Int)=y:=CJ e2;rw[Bg h0]at this;rw[<-this]
def HZ(w:Nat×List (Int×Int))(H:HL)(y:Int):Prop:=∃Z,Hz (nbW w.2) H Z/\y∈Z
def Gx(w:Nat×List (Int×Int))(H:HL)(x:Int):Prop:=(0<=x/\x < w.1)/\(cw w x=0->∀y∈nbW w.2 x,HZ w H y)/\(cw w x≠0->HZ w H x)
def HZ.at{y:Int}(h:HZ w H y):∃a,A3 H y=some a/\∀x∈nbW w.2 a,HZ w H x:=by
 obtain⟨Z,hZ,hy⟩:=h;obtain⟨a,e,k⟩:=hZ.2 y hy;exact⟨a,e,λx hx=>⟨Z,hZ,k x hx⟩⟩
def dM(w:Nat×List (Int×Int))(H:HL)(g:Int):Prop:=(0<=g/\g < w.1)/\cw w g=0/\∀x,A3 H x≠some g
structure LI(w:Nat×List (Int×Int))(H:HL)(s:List Int×QL):Prop where
 ga:∀x∈s.1,Gx w H x
 gq:∀x,sn s.2 x->Gx w H x
 ko:KOk (U w.1) s.2
 cl:∀x,sn s.2 x->(cw w x=0->∀y∈nbW w.2 x,sn s.2 y∨y∈s.1)/\(cw w x≠0->∀a,A3 H x=some a->sn s.2 a∨a∈s.1)
 ro:∀g,dM w H g->sn s.2 g∨g∈s.1
 le:s.1.length+61 * (60 - s.2.length)<=3720
structure Rch(w:Nat×List (Int×Int))(H:HL)(Q:QL):Prop where
 gq:∀x,sn Q x->Gx w H x
 cl:∀x,sn Q x->(cw w x=0->∀y∈nbW w.2 x,sn Q y)/\(cw w x≠0->∀a,A3 H x=some a->sn Q a)
 ro:∀g,dM w H g->sn Q g
def fV(x:Int):cw w x=0∨cw w x=1:=gM _
def mE(ok:Wok w)(hnd:∀x,(nbW w.2 x).Nodup){x:Int}(h0:0<=x)(h1:x < w.1):(nbW w.2 x).length<=60:=At (N2 w.1 _ (hnd x) (ok.hnb x h0 h1)) ok.hp
def Xn(ok:Wok w)(hnd:∀x,(nbW w.2 x).Nodup)(h2:JF (nbW w.2) w.1 (cw w))(m:Mt (nbW w.2) w.1 (cw w) H)(hf:∀g:Int,0<=g->g < w.1->cw w g=0->V4 w H g):Ok (EG w (LU w) H) (Rch w H):=by
 unfold EG FR;simp only[Ac,DO];rw[L0]
 have hvals:∀g:Int,g∈H.map (·.2)↔∃x,A3 H x=some g:=λg=>by
  constructor
  ·intro h
   obtain⟨⟨y,a⟩,hy,e⟩:=Ag.mp h;refine⟨y,?_⟩;dsimp only at e;subst e;unfold A3;have:=m.ko.nd
   have key:∀l:HL,(l.map (·.1)).Nodup->(y,a)∈l->(l.find? λkv=>decide (kv.1=y))=some (y,a):=by
    intro l
    induction l with
    | nil=>intro _ h;cases h
    | cons z l ih=>
     intro nd h;rw[A5,CW]at nd;rw[BV]
     rcases Aw.mp h with h | h
     ·subst h;simp
     ·have:z.1≠y:=λe=>nd.1 (Ag.mpr ⟨(y,a),h,e.symm⟩)
      rw[wY this];exact ih nd.2 h
   rw[key H this hy];rfl
  ·rintro⟨x,h⟩
   unfold A3 at h
   cases hq:H.find? (λkv=>decide (kv.1=x))with
   | none=>rw[hq]at h;cases h
   | some kv=>
    rw[hq]at h;cases h;exact Ag.mpr ⟨kv,Rs hq,rfl⟩
 rw[Kx (P:=λx6:Int×Int=>decide (x6.2=0)&&!decide (x6.1∈H.map (·.2))) (f:=λx6:Int×Int=>x6.1) (by simp;have:=ok.hp;lia) (λx _=>by
  by_cases c:x.2=0 <;> simp[c]) λx _ _=>rfl]
 simp only[Ac,DO];generalize hA:(((BA w.1).map λx:Nat=>((x:Int),col (nbW w.2) w.1 x)).filter λx6:Int×Int=>decide (x6.2=0)&&!decide (x6.1∈H.map (·.2))).map (λx6:Int×Int=>x6.1)=A
 have hAm:∀g,g∈A↔dM w H g:=λg=>by
  rw[<-hA,Ag]
  constructor
  ·rintro⟨z,hz,rfl⟩
   obtain⟨h3,h4⟩:=BH.mp hz;obtain⟨n,hn,rfl⟩:=Ag.mp h3;have hn:=EQ.mp hn;rw[Hj]at h4;refine⟨by dsimp only;lia,of_decide_eq_true h4.1,λx e=>?_⟩;have:=(hvals _).mpr ⟨x,e⟩;rw[wX this]at h4;cases h4.2
  ·rintro⟨h3,h4,h5⟩
   refine⟨(g,cw w g),BH.mpr ⟨Ag.mpr ⟨g.toNat,EQ.mpr (by lia),by rw[Bg h3.1]⟩,?_⟩,rfl⟩
   have:g∉H.map (·.2):=λz=>by
    obtain⟨x,e⟩:=(hvals g).mp z;exact h5 x e
   rw[wX h4,wY this];rfl
 have hAl:A.length<=60:=by
  rw[<-hA,AC];refine At (LC _ _) ?_;simp;exact ok.hp
 have gA:∀g,dM w H g->Gx w H g:=λg hg=>⟨hg.1,λ_ y hy=>by
  rcases hf g hg.1.1 hg.1.2 hg.2.1 with⟨x,e⟩ | ⟨Z,hZ,k⟩
  ·exact zX e (hg.2.2 x)
  ·exact⟨Z,hZ,k y hy⟩,λc=>zX hg.2.1 c⟩
 have hop:∀x:Int,0<=x->x < w.1->∀y∈nbW w.2 x,cw w x=0->cw w y≠0:=λx h0 h1 y hy c e=>h2 x y h0 h1 hy (by rw[c,e])
 obtain⟨s',e1,hI,hc⟩:=Y5 (ρ:=QL) (c:=λ(s16:(List Int)×(List (Int×Bool)))=>some (!s16.1.isEmpty)) (q:=λ(s16:(List Int)×(List (Int×Bool)))=>DP ((Xq s16.1).bind λx20=>some (.nx x20)) λv19=>LR (λs48=>(s48.2,s48.1)) (if (!(A3 s16.2 v19.1).isSome)=true then DP ((Mg s16.2 v19.1 true).bind λl26=>some (.nx l26)) λv23=>LR (λs45=>(v23,s45)) (((atI (LU w) v19.1).bind λx27=>some (decide (x27=0))).bind λx44=>if x44=true then LR (λv31=>v31) ((Lq w v19.1).bind λx32=>(OR v19.2 x32).bind λl33=>some (.nx l33))else LR (λv39=>v39) ((A3 H v19.1).bind λx40=>(Ye v19.2 x40).bind λl41=>some (.nx l41)))else some (.nx (s16.2,v19.2)))) (LI w H) (λs=>s.1.length+61 * (60 - s.2.length)) (λs hI=>by
  obtain⟨l,Q⟩:=s
  rcases List.eq_nil_or_concat l with rfl | ⟨r,x,er⟩
  ·exact .inl rfl
  ·rw[List.concat_eq_append]at er
   subst er;refine .inr ⟨by simp,?_⟩
   have hpop:Xq (r++[x])=some (x,r):=by
    unfold Xq;rw[List.getLast?_append];simp
   have hxg:=hI.ga x (by simp);have hle:=hI.le;dsimp only at hle;rw[Ad,Cu]at hle;have hQl:=hI.ko.len;dsimp only at hQl;rw[show(U w.1).length=w.1 by simp]at hQl;have hp:=ok.hp;dsimp only;rw[hpop];simp only[Ac,DO]
   by_cases c:sn Q x
   ·refine⟨(r,Q),by rw[qY (by rw[c];decide)];rfl,⟨λy hy=>hI.ga y (by simp[hy]),hI.gq,hI.ko,λy hy=>?_,λg hg=>?_,by dsimp only;lia⟩,by dsimp only;rw[Ad,Cu];lia⟩
    ·obtain⟨k1,k2⟩:=hI.cl y hy
     refine⟨λc0 z hz=>?_,λc0 a ha=>?_⟩
     ·rcases k1 c0 z hz with h | h
      ·exact .inl h
      ·rcases Ae.mp h with h | h
       ·exact .inr h
       ·rw[AO.mp h];exact .inl c
     ·rcases k2 c0 a ha with h | h
      ·exact .inl h
      ·rcases Ae.mp h with h | h
       ·exact .inr h
       ·rw[AO.mp h];exact .inl c
    ·rcases hI.ro g hg with h | h
     ·exact .inl h
     ·rcases Ae.mp h with h | h
      ·exact .inr h
      ·rw[AO.mp h];exact .inl c
   ·have cf:(A3 Q x).isSome=false:=by cases q:(A3 Q x).isSome;rfl;exact zX q c
    rw[qX (by rw[cf];rfl),NX hI.ko (by simp;lia)];simp only[Ac,DO];rw[fX hxg.1.1 hxg.1.2];simp only[Ac];have Nh:=KOk.more cf true;have ko1:KOk (U w.1) (CF Q x true):=hI.ko.put (IA.mpr hxg.1) true;have hQ1:=ko1.len;rw[show(U w.1).length=w.1 by simp]at hQ1
    have fin:∀N:List Int,N.length<=60->(∀y∈N,Gx w H y)->(cw w x=0->∀y∈nbW w.2 x,y∈N)->(cw w x≠0->∀a,A3 H x=some a->a∈N)->LI w H (r++N,CF Q x true)/\(r++N).length+61 * (60 - (CF Q x true).length) < (r++[x]).length+61 * (60 - Q.length):=λN hN gN n1 n2=>by
     refine⟨⟨λy hy=>?_,λy hy=>?_,ko1,λy hy=>?_,λg hg=>?_,?_⟩,?_⟩
     ·rcases Ae.mp hy with hy | hy
      ·exact hI.ga y (by simp[hy])
      ·exact gN y hy
     ·rcases Es.mp hy with rfl | hy
      ·exact hxg
      ·exact hI.gq y hy
     ·have up:∀z,sn Q z∨z∈(r++[x])->sn (CF Q x true) z∨z∈r++N:=λz hz=>by
       rcases hz with h | h
       ·exact .inl (Es.mpr (.inr h))
       ·rcases Ae.mp h with h | h
        ·exact .inr (Az _ h)
        ·rw[AO.mp h];exact .inl (Es.mpr (.inl rfl))
      rcases Es.mp hy with rfl | hy
      ·exact⟨λc0 z hz=>.inr (A4 _ (n1 c0 z hz)),λc0 a ha=>.inr (A4 _ (n2 c0 a ha))⟩
      ·obtain⟨k1,k2⟩:=hI.cl y hy
       exact⟨λc0 z hz=>up z (k1 c0 z hz),λc0 a ha=>up a (k2 c0 a ha)⟩
     ·rcases hI.ro g hg with h | h
      ·exact .inl (Es.mpr (.inr h))
      ·rcases Ae.mp h with h | h
       ·exact .inr (Az _ h)
       ·rw[AO.mp h];exact .inl (Es.mpr (.inl rfl))
     ·dsimp only;rw[Ad];lia
     ·rw[Ad,Ad,Cu];lia
    by_cases c0:cw w x=0
    ·rw[wX c0,qX rfl,Z9 hxg.1.1 hxg.1.2]
     have hl:=mE ok hnd hxg.1.1 hxg.1.2;simp only[Ac];rw[Om (by lia)];obtain⟨f1,f2⟩:=fin (nbW w.2 x) hl (λy hy=>⟨ok.hnb x hxg.1.1 hxg.1.2 y hy,λcy=>zX cy (hop x hxg.1.1 hxg.1.2 y hy c0),λ_=>hxg.2.1 c0 y hy⟩) (λ_ y hy=>hy) (λcn=>zX c0 cn);exact⟨(r++nbW w.2 x,CF Q x true),rfl,f1,f2⟩
    ·rw[wY c0,qY AZ]
     obtain⟨a,ea,ka⟩:=(hxg.2.2 c0).at;rw[ea];simp only[Ac];rw[W6 (by lia)];obtain⟨ga,gc⟩:=m.gd x a ea;obtain⟨f1,f2⟩:=fin [a] (by simp) (λy hy=>by rw[AO.mp hy];exact⟨ga,λ_=>ka,λcn=>zX gc cn⟩) (λcn=>zX cn c0) (λ_ b hb=>by rw[ea]at hb;cases hb;simp)
     exact⟨(r++[a],CF Q x true),rfl,f1,f2⟩) wN (A,[]) ⟨λx hx=>gA x ((hAm x).mp hx),λx h=>(nomatch h),SO,λx h=>(nomatch h),λg hg=>.inr ((hAm g).mpr hg),by dsimp only;simp;lia⟩ (by dsimp only;simp;unfold wN;lia)
 rw[e1];refine⟨s'.2,rfl,?_⟩;obtain⟨l,Q⟩:=s'
 have hl:l=[]:=by
  cases l with
  | nil=>rfl
  | cons _ _=>cases hc
 subst hl;exact⟨hI.gq,λx hx=>⟨λc0 y hy=>((hI.cl x hx).1 c0 y hy).elim id (λh=>nomatch h),λc0 a ha=>((hI.cl x hx).2 c0 a ha).elim id (λh=>nomatch h)⟩,λg hg=>(hI.ro g hg).elim id (λh=>nomatch h)⟩
end
def UP(v:Nat->Int):∀i:Nat,((BA i).map v).Nodup->EO v i=(BA i).map v
 | 0,_=>rfl
 | i+1,h=>by
  rw[Ka,A2]at h ⊢;obtain⟨h1,_,h3⟩:=B3.mp h;rw[nH,UP v i h1];unfold nF;rw[qY]
  ·rfl
  ·intro z
   obtain⟨y,hy,e⟩:=ER.mp z;exact h3 y hy (v i) (by simp) (by simpa using e)
def SC{ns:List Int}(h:ns.Nodup):Ll ns=ns.length:=by
 have e:(BA ns.length).map (λi=>ns.getD i 0)=ns:=by
  apply DN
  intro j;rw[AN]
  by_cases hj:j < ns.length
  ·rw[BU hj,BR hj]
   simp[hj]
  ·rw[BJ (by rw[List.length_range];lia),BJ (by lia)]
   rfl
 unfold Ll;rw[UP _ _ (by rw[e];exact h),e]
def Ma(l:List (Int×Int)):(Ev l).Perm l:=by
 have:=(Du (l.map λx=>[x.1,x.2])).map iY;rw[Ax]at this
 have e:l.map (iY∘λx=>[x.1,x.2])=l:=by
  conv=>rhs;rw[<-Oy l]
  exact CG λ_ _=>rfl
 rw[e]at this;exact this
def cE(x:Int):Jz x=some true:=rfl
def LM(p:Nat):(U p).Nodup:=by
 unfold U ND;rw[Bv]
 exact(bf (n:=p)).imp λh e=>h (by lia)
def m8(p:Nat):(U p).Pairwise (· < ·):=by
 unfold U;rw[Bv]
 exact(List.pairwise_lt_range (n:=p)).imp λh=>by lia
section
variable{w:Nat×List (Int×Int)}{H:HL}{Q:QL}
def pr(H:HL)(y:Int):Int×Int:=match A3 H y with
 | some a=>(if a < y then a else y,if a > y then a else y)
 | none=>(0,0)
abbrev prs(H:HL):List (Int×Int):=(H.map (·.1)).map (pr H)
abbrev cvr(w:Nat×List (Int×Int))(Q:QL):List Int:=(U w.1).filter λx=>decide ((A3 Q x).isSome=decide (cw w x=1))
def J6{y:Int}(h:y∈H.map (·.1)):∃a,A3 H y=some a:=JT.mp ((Hf H y).mpr h)
def R6{y a:Int}(h:A3 H y=some a):y∈H.map (·.1):=(Hf H y).mp (by rw[h];rfl)
def d6(ok:Wok w)(h2:JF (nbW w.2) w.1 (cw w))(e:GM w (LU w)=some H)(m:Mt (nbW w.2) w.1 (cw w) H):FT w=some (Ev (prs H)):=by
 unfold FT ID;have ec:Ca w=some (LU w):=qX ⟨ok,h2⟩;simp only[Ac,ec,e,DO];have hl:=m.ko.len;rw[show(U w.1).length=w.1 by simp]at hl
 rw[Jn (f:=pr H) (by simp;have:=ok.hp;lia) λy hy=>by
  obtain⟨a,ha⟩:=J6 hy;unfold pr;rw[ha]
  rfl]
 rfl
def fW(ok:Wok w)(h2:JF (nbW w.2) w.1 (cw w))(e:GM w (LU w)=some H)(eq:EG w (LU w) H=some Q):Ej w=some (cvr w Q):=by
 unfold Ej HV;have ec:Ca w=some (LU w):=qX ⟨ok,h2⟩;simp only[Ac,ec,e,eq,DO];rw[L0,Kx (P:=λx:Int×Int=>decide ((A3 Q x.1).isSome=decide (x.2=1))) (f:=λx:Int×Int=>x.1) (by simp;have:=ok.hp;lia) (λ_ _=>rfl) λ_ _ _=>rfl];show some _=some _;rw[bx,Ax];unfold cvr U;rw[bx];rfl
def YW(ok:Wok w)(h2:JF (nbW w.2) w.1 (cw w))(m:Mt (nbW w.2) w.1 (cw w) H)(R:Rch w H Q):(cvr w Q).length=H.length:=by
 have hop:∀x a,A3 H x=some a->cw w x≠0:=λx a e c=>by
  obtain⟨g1,g2⟩:=m.gd x a e;exact h2 a x g1.1 g1.2 (m.on x a e) (by rw[g2,c])
 have hin:∀x a,A3 H x=some a->0<=x/\x < w.1:=λx a e=>IA.mp (m.ko.sub x (R6 e))
 have hsnd:∀x,(A3 Q x).isSome=true↔sn Q x:=λx=>Iff.rfl
 have c1:∀x,cw w x≠0->cw w x=1:=λx h=>(fV x).elim (λz=>zX z h) id
 have mem:∀z,z∈cvr w Q↔(0<=z/\z < w.1)/\(sn Q z↔cw w z=1):=λz=>by
  rw[BH,IA]
  refine and_congr_right λ_=>?_
  rw[decide_eq_true_iff]
  by_cases c:sn Q z
  ·rw[show(A3 Q z).isSome=true from c]
   constructor
   ·intro h;exact⟨λ_=>of_decide_eq_true h.symm,λ_=>c⟩
   ·intro h;exact(wX (h.mp c)).symm
  ·have:(A3 Q z).isSome=false:=by cases q:(A3 Q z).isSome;rfl;exact zX q c
   rw[this]
   constructor
   ·intro h;exact⟨λz=>zX z c,λz=>zX z (of_decide_eq_false h.symm)⟩
   ·intro h;exact(wY λz=>c (h.mpr z)).symm
 have⟨f,hf⟩:∃f:Int->Int,∀y,f y=if sn Q y then y else(A3 H y).getD 0:=⟨_,λ_=>rfl⟩
 have nd:((H.map (·.1)).map f).Nodup:=jY.nd_map m.ko.nd λy hy y' hy' e=>by
  obtain⟨a,ea⟩:=J6 hy;obtain⟨a',ea'⟩:=J6 hy';rw[hf,hf,ea,ea']at e
  by_cases c:sn Q y <;> by_cases c':sn Q y'
  ·rw[qX c,qX c']at e;exact e
  ·rw[qX c,qY c']at e
   exact zX (show cw w y=0 by rw[e];exact(m.gd y' a' ea').2) (hop y a ea)
  ·rw[qY c,qX c']at e
   exact zX (show cw w y'=0 by rw[<-e];exact(m.gd y a ea).2) (hop y' a' ea')
  ·rw[qY c,qY c']at e
   have e:a=a':=e;subst e;exact m.inj y y' a ea ea'
 have ndc:(cvr w Q).Nodup:=(LM w.1).sublist F0
 have h3:∀z∈(H.map (·.1)).map f,z∈cvr w Q:=λz hz=>by
  obtain⟨y,hy,rfl⟩:=Ag.mp hz;obtain⟨a,ea⟩:=J6 hy;rw[hf,ea]
  by_cases c:sn Q y
  ·rw[qX c]
   exact(mem y).mpr ⟨hin y a ea,λ_=>c1 y (hop y a ea),λ_=>c⟩
  ·rw[qY c]
   obtain⟨g1,g2⟩:=m.gd y a ea;refine(mem a).mpr ⟨g1,λh=>zX ((R.cl a h).1 g2 y (m.on y a ea)) c,λh=>zX (g2.symm.trans h) (by decide)⟩
 have h4:∀z∈cvr w Q,z∈(H.map (·.1)).map f:=λz hz=>by
  obtain⟨h5,h6⟩:=(mem z).mp hz
  by_cases c:sn Q z
  ·have h7:=h6.mp c
   obtain⟨a,ea,_⟩:=((R.gq z c).2.2 (by rw[h7];decide)).at;exact Ag.mpr ⟨z,R6 ea,by rw[hf,qX c]⟩
  ·have h7:cw w z=0:=(fV z).elim id λh=>zX (h6.mpr h) c
   by_cases hx:∃x,A3 H x=some z
   ·obtain⟨x,ex⟩:=hx
    refine Ag.mpr ⟨x,R6 ex,?_⟩;rw[hf,qY,ex]
    ·rfl
    ·exact λcx=>c ((R.cl x cx).2 (hop x z ex) z ex)
   ·exact zX (R.ro z ⟨h5,h7,λx e=>hx ⟨x,e⟩⟩) c
 have l1:=J3 nd h3;have l2:=J3 ndc h4;rw[AC,AC]at l1 l2
 lia
def kG(ok:Wok w)(h2:JF (nbW w.2) w.1 (cw w))(R:Rch w H Q){x y:Int}(h0:0<=x)(h1:x < w.1)(hy:y∈nbW w.2 x):x∈cvr w Q∨y∈cvr w Q:=by
 have hyr:=ok.hnb x h0 h1 y hy;have hne:=h2 x y h0 h1 hy
 have key:∀a b:Int,(0<=a/\a < w.1)->(0<=b/\b < w.1)->cw w a=0->cw w b=1->b∈nbW w.2 a->a∈cvr w Q∨b∈cvr w Q:=λa b ha hb ca cb hab=>by
  by_cases c:sn Q a
  ·have:=(R.cl a c).1 ca b hab
   refine .inr (BH.mpr ⟨IA.mpr hb,?_⟩);rw[show(A3 Q b).isSome=true from this,wX cb];rfl
  ·refine .inl (BH.mpr ⟨IA.mpr ha,?_⟩)
   have:(A3 Q a).isSome=false:=by cases q:(A3 Q a).isSome;rfl;exact zX q c
   rw[this,wY (show ¬cw w a=1 by rw[ca];decide)];rfl
 rcases fV (w:=w) x with cx | cx <;> rcases fV (w:=w) y with cy | cy
 ·exact zX (cx.trans cy.symm) hne
 ·exact key x y ⟨h0,h1⟩ hyr cx cy hy
 ·exact(key y x hyr ⟨h0,h1⟩ cy cx (ok.hsym x y h0 hyr.1 hy)).symm
 ·exact zX (cx.trans cy.symm) hne
end
def P5{l:List Int}{p:Nat}(hu:l.Pairwise (· < ·))(hr:∀x∈l,0<=x/\x < p)(hl:l.length<=60):Ek l p=some true:=by
 have nd:l.Nodup:=hu.imp λh e=>by lia
 have hs:C1 l=l:=(Dc _).eq_of_pairwise (λa b _ _ h1 h2=>IM h1 h2) (IT _) (hu.imp λh=>lC h);unfold Ek HW;simp only[Ac];rw[Jn (f:=λ_=>true) (by lia) λx _=>cE x];simp only[Ac,hs];rw[show Zb l=some (l.length:Int) by unfold Zb;rw[qX (by lia),SC nd]];simp only[Ac]
 rw[Jn (f:=λ_=>true) (by lia) λx hx=>by
  obtain⟨h0,h1⟩:=hr x hx
  simp[h0,h1]]
 have ha:∀l:List Int,((l.map λ_=>true).all id)=true:=λl=>ES.mpr λb hb=>by obtain⟨_,_,rfl⟩:=Ag.mp hb;rfl
 simp only[ha,iB,Ac,if_false,Dj,decide_true,DO];rfl
def Tw{p:Nat}{C:List Int}(hn:C.Nodup)(hs:∀x∈C,x∈U p){f:Int->Bool}(hf:∀x∈U p,f x=true↔x∉C):((U p).filter f).length+C.length=p:=by
 have nd:(C++(U p).filter f).Nodup:=B3.mpr ⟨hn,(LM p).sublist F0,λa ha b hb e=>by
  obtain⟨h1,h2⟩:=BH.mp hb
  exact(hf b h1).mp h2 (e▸ha)⟩
 have l1:=J3 nd (k:=U p) λx hx=>by
  rcases Ae.mp hx with h | h
  ·exact hs x h
  ·exact(BH.mp h).1
 have l2:=J3 (LM p) (k:=C++(U p).filter f) λx hx=>by
  by_cases c:x∈C
  ·exact Az _ c
  ·exact A4 _ (BH.mpr ⟨hx,(hf x hx).mpr c⟩)
 rw[Ad]at l1 l2;rw[show(U p).length=p by simp]at l1 l2
 lia
section
variable{w:Nat×List (Int×Int)}{H:HL}{Q:QL}
abbrev fl(P:List (Int×Int)):List Int:=P.flatMap Fm
structure Prs(w:Nat×List (Int×Int))(P:List (Int×Int)):Prop where
 lt:∀t∈P,0<=t.1/\t.1 < t.2/\t.2 < w.1
 nb:∀t∈P,t.2∈nbW w.2 t.1/\t.1∈nbW w.2 t.2
 nd:(fl P).Nodup
def jA(ok:Wok w)(h2:JF (nbW w.2) w.1 (cw w))(m:Mt (nbW w.2) w.1 (cw w) H):Prs w (Ev (prs H)):=by
 have hop:∀x a,A3 H x=some a->cw w x≠0:=λx a e c=>by
  obtain⟨g1,g2⟩:=m.gd x a e;exact h2 a x g1.1 g1.2 (m.on x a e) (by rw[g2,c])
 have all:∀t∈Ev (prs H),(0<=t.1/\t.1 < t.2/\t.2 < w.1)/\t.2∈nbW w.2 t.1/\t.1∈nbW w.2 t.2:=λt ht=>by
  obtain⟨y,hy,e⟩:=Ag.mp ((Ma _).mem_iff.mp ht);obtain⟨a,ea⟩:=J6 hy;obtain⟨g1,g2⟩:=m.gd y a ea;have hyr:=IA.mp (m.ko.sub y hy);have hya:=m.on y a ea;have hay:=ok.hsym a y g1.1 hyr.1 hya
  have hne:a≠y:=λe=>hop y a ea (by rw[<-e];exact g2)
  unfold pr at e;rw[ea]at e;dsimp only at e;rw[<-e];dsimp only
  by_cases c:a < y
  ·rw[qX c,qY (by lia)]
   exact⟨⟨g1.1,c,hyr.2⟩,hya,hay⟩
  ·rw[qY c,qX (by lia)]
   exact⟨⟨hyr.1,by lia,g1.2⟩,hay,hya⟩
 refine⟨λt ht=>(all t ht).1,λt ht=>(all t ht).2,?_⟩;have pm:(fl (Ev (prs H))).Perm (fl (prs H)):=QO _ (Ma _);rw[pm.nodup_iff];unfold ND fl;rw[List.pairwise_flatMap];refine⟨λt ht=>?_,?_⟩
 ·have:=(all t ((Ma _).mem_iff.mpr ht)).1
  unfold Fm;simp
  lia
 ·unfold prs
  rw[Bv];refine FC (λ{y y'} hy hy' hne=>?_) m.ko.nd;obtain⟨a,ea⟩:=J6 hy;obtain⟨a',ea'⟩:=J6 hy'
  have els:∀y a,A3 H y=some a->∀z∈Fm (pr H y),z=y∨z=a:=λy a e z hz=>by
   unfold Fm pr at hz;rw[e]at hz;simp only[Aw,Bl,or_false]at hz
   rcases hz with rfl | rfl
   ·split <;> simp
   ·split <;> simp
  intro z hz z' hz' e;subst e
  rcases els y a ea z hz with rfl | rfl <;> rcases els y' a' ea' z hz' with h | h
  ·exact hne h
  ·exact hop z a ea (by rw[h];exact(m.gd y' a' ea').2)
  ·exact hop y' a' ea' (by rw[<-h];exact(m.gd y z ea).2)
  ·subst h;exact hne (m.inj y y' z ea ea')
variable{P:List (Int×Int)}
def Prs.sub(h:Prs w P):∀x∈fl P,x∈U w.1:=λx hx=>by
 obtain⟨t,ht,hx⟩:=OV.mp hx;have:=h.lt t ht;unfold Fm at hx;simp only[Aw,Bl,or_false]at hx;exact IA.mpr (by rcases hx with rfl | rfl <;> lia)
def bC(P:List (Int×Int)):(fl P).length=2 * P.length:=by
 induction P with
 | nil=>rfl
 | cons t P ih=>
  unfold fl at ih ⊢;rw[Yy,Ad,ih,A8];show 2+_=_
  lia
def Prs.len(h:Prs w P):2 * P.length<=w.1:=by
 have:=J3 h.nd h.sub;rw[bC]at this;simpa using this
abbrev sgl(w:Nat×List (Int×Int))(P:List (Int×Int)):List Int:=(U w.1).filter λx=>!decide (x∈fl P)
abbrev clb(w:Nat×List (Int×Int))(P:List (Int×Int)):List (List Int):=Gk (P.map Fm++(sgl w P).map λx=>[x])
abbrev apt(w:Nat×List (Int×Int))(C:List Int):List Int:=(U w.1).filter λx=>!decide (x∈C)
def fm(hp:w.1<=60){C:List Int}(e1:Ej w=some C)(e2:FT w=some P)(h:Prs w P):Go w=some (apt w C,clb w P):=by
 have hl:=h.len;have h1:(w.1:Int).toNat=w.1:=Bx _;refine Ok.is ?_;unfold Go Ex;simp only[Ac,e1,e2,DO];rw[SG (by lia) (by lia),h1,Pe];simp only[Ac];rw[QH (P:=λx=>!decide (x∈C)) (by simp;lia) λ_ _=>rfl];simp only[Ac,DO];refine OkF.out (OkF.seq (OkF.for (λpre D=>KOk (U w.1) D/\∀x,sn D x↔x∈fl pre) ⟨SO,λx=>⟨λz=>(nomatch z),λz=>(nomatch z)⟩⟩ ?_) ?_)
 ·intro pre t D ht _ ⟨k,hk⟩
  have hr:=h.lt t ht;have k1:KOk (U w.1) (CF D t.1 true):=k.put (IA.mpr (by lia)) true;rw[NX k (by simp;lia)];simp only[Ac,DO];rw[NX k1 (by simp;lia)];refine OkF.nx ⟨k1.put (IA.mpr (by lia)) true,λx=>?_⟩;rw[Es,Es,hk];unfold fl;rw[XM,Ae];show _↔_∨x∈Fm t++[];unfold Fm;simp
  constructor
  ·rintro(h | h | h) <;> simp[h]
  ·rintro(h | h | h) <;> simp[h]
 ·intro D ⟨k,hk⟩
  rw[Kx (P:=λx=>!decide (x∈fl P)) (f:=λx=>[x]) (by simp;lia) (λx _=>by
   by_cases c:x∈fl P
   ·rw[wX c,show(A3 D x).isSome=true from(hk x).mpr c]
   ·rw[wY c,show(A3 D x).isSome=false by cases q:(A3 D x).isSome;rfl;exact zX ((hk x).mp q) c]) λx _ _=>mZ x]
  simp only[Ac,DO];have hle:((U w.1).filter λx=>!decide (x∈fl P)).length<=w.1:=At (LC _ _) (by simp);rw[Om (by simp only[AC];lia)];simp only[Ac]
  rw[show SA (P.map Fm++(sgl w P).map λx=>[x])=some (clb w P)from qX (ES.mpr λr hr=>by
   rcases Ae.mp hr with h | h
   ·obtain⟨_,_,rfl⟩:=Ag.mp h;rfl
   ·obtain⟨_,_,rfl⟩:=Ag.mp h;rfl)]
  exact OkF.rt rfl
def Sj{r:List Int}:r∈clb w P↔(∃t∈P,r=Fm t)∨∃x∈sgl w P,r=[x]:=by
 rw[(Du _).mem_iff,Ae,Ag,Ag];exact⟨λh=>h.imp (λ⟨t,a,b⟩=>⟨t,a,b.symm⟩) λ⟨t,a,b⟩=>⟨t,a,b.symm⟩,λh=>h.imp (λ⟨t,a,b⟩=>⟨t,a,b.symm⟩) λ⟨t,a,b⟩=>⟨t,a,b.symm⟩⟩
def fZ(hp:w.1<=60)(h:Prs w P){r:List Int}(hr:r∈clb w P):Ek r w.1=some true:=by
 rcases Sj.mp hr with⟨t,ht,rfl⟩ | ⟨x,hx,rfl⟩
 ·have:=h.lt t ht
  refine P5 (by unfold Fm;simp;lia) (λx hx=>?_) (by unfold Fm;simp);unfold Fm at hx;simp only[Aw,Bl,or_false]at hx
  rcases hx with rfl | rfl <;> lia
 ·have:=IA.mp (BH.mp hx).1
  exact P5 (by simp) (λy hy=>by rw[AO.mp hy];exact this) (by simp)
def W1(h:Prs w P):(clb w P).length+P.length=w.1:=by
 rw[(Du _).length_eq,Ad,AC,AC]
 have:=Tw (p:=w.1) h.nd h.sub (f:=λx=>!decide (x∈fl P)) λx _=>by simp
 rw[bC]at this;show P.length+(sgl w P).length+P.length=_
 lia
def ei{a b:Int}{as bs:List Int}(h:Srt.ltL (b :: bs) (a :: as)=false):a<=b:=by
 unfold Srt.ltL at h;split at h
 ·lia
 ·have:=of_decide_eq_false h;lia
def dz(hp:w.1<=60)(h:Prs w P){nears:List (List Int)}(hnl:nears.length=w.1)(hn:∀x:Int,0<=x->x < w.1->atI nears x=some (nbW w.2 x)):Gp nears (clb w P)=some true:=by
 have hcl:=W1 h;have h1:(w.1:Int).toNat=w.1:=Bx _
 have two:∀r∈clb w P,r.length<=2/\r≠[]/\∀x∈r,0<=x/\x < w.1:=λr hr=>by
  rcases Sj.mp hr with⟨t,ht,rfl⟩ | ⟨x,hx,rfl⟩
  ·have:=h.lt t ht
   refine⟨by unfold Fm;simp,by unfold Fm;simp,λx hx=>?_⟩;unfold Fm at hx;simp only[Aw,Bl,or_false]at hx
   rcases hx with rfl | rfl <;> lia
  ·exact⟨by simp,by simp,λy hy=>by rw[AO.mp hy];exact IA.mp (BH.mp hx).1⟩
 have fl_le:∀pre:List (List Int),(∀r∈pre,r∈clb w P)->pre.flatten.length<=2 * pre.length:=by
  intro pre
  induction pre with
  | nil=>intro _;simp
  | cons r pre ih=>
   intro hr;rw[List.flatten_cons,Ad,A8];have:=(two r (hr r A1)).1
   have:=ih λx hx=>hr x (Aj _ hx)
   lia
 refine Ok.is ?_;unfold Gp Ey;simp only[Ac,few0,DO];refine OkF.out (OkF.seq (OkF.for (λpre s=>s.1=pre.flatten/\s.2=pre.map λr=>r.headD (-1)) ⟨rfl,rfl⟩ ?_) ?_)
 ·intro pre r s hr hpre ⟨i1,i2⟩
  obtain⟨r1,r2,r3⟩:=two r hr
  have hpl:pre.length<=60:=by
   have:=hpre.length_le;rw[Ad]at this
   lia
  have hfl:=fl_le pre λx hx=>hpre.subset (Az _ hx)
  have nr:∀x∈r,∀y∈r,x≠y->y∈nbW w.2 x:=λx hx y hy hne=>by
   rcases Sj.mp hr with⟨t,ht,rfl⟩ | ⟨z,hz,rfl⟩
   ·unfold Fm at hx hy
    simp only[Aw,Bl,or_false]at hx hy;obtain⟨n1,n2⟩:=h.nb t ht
    rcases hx with rfl | rfl <;> rcases hy with rfl | rfl
    ·exact zX rfl hne
    ·exact n1
    ·exact n2
    ·exact zX rfl hne
   ·rw[AO.mp hx,AO.mp hy]at hne
    exact zX rfl hne
  refine OkF.seq (N:=λ_=>True) (OkF.for (λ_ _=>True) trivial λ_ x _ hx _ _=>OkF.map (N:=λ_=>True) (OkF.for (λ_ _=>True) trivial λ_ y _ hy _ _=>OkF.map (N:=λ_=>True) ?_ λ_ _=>trivial) λ_ _=>trivial) λ_ _=>?_
  ·rw[hn x (r3 x hx).1 (r3 x hx).2]
   simp only[Ac]
   by_cases c:x=y
   ·rw[wX c]
    exact OkF.nx trivial
   ·rw[wY c,wX (nr x hx y hy c)]
    exact OkF.nx trivial
  ·rw[i1,Om (by lia)]
   simp only[Ac,DO];rw[mZ];simp only[Ac];rw[Om (by simp;lia)];simp only[Ac]
   cases r with
   | nil=>exact zX rfl r2
   | cons z r=>
    rw[show atI (z :: r++[-1]) 0=some z by
     obtain⟨x,e1,e2⟩:=Np (l:=z :: r++[-1]) (i:=0) (by decide) (by simp;lia)
     rw[e1];exact e2.symm]
    simp only[Ac];rw[W6 (by rw[i2,AC];lia)];refine OkF.nx ⟨?_,?_⟩
    ·show _=(pre++[z :: r]).flatten
     rw[IL];simp
    ·show s.2++[z]=(pre++[z :: r]).map _
     rw[A2,i2];rfl
 ·intro s ⟨i1,i2⟩
  have pmF:(clb w P).flatten.Perm (fl P++sgl w P):=by
   refine(List.Perm.flatten (Du _)).trans ?_;rw[IL]
   have e1:(P.map Fm).flatten=fl P:=by unfold fl;rw[bi]
   have e2:((sgl w P).map λx=>[x]).flatten=sgl w P:=by
    rw[<-bi];simp
   rw[e1,e2]
  have ndF:(fl P++sgl w P).Nodup:=B3.mpr ⟨h.nd,(LM w.1).sublist F0,λa ha b hb e=>by
   have:=(BH.mp hb).2;rw[<-e,wX ha]at this
   cases this⟩
  have pmU:(fl P++sgl w P).Perm (U w.1):=by
   refine(List.perm_ext_iff_of_nodup ndF (LM w.1)).mpr λx=>?_
   constructor
   ·intro hx
    rcases Ae.mp hx with hx | hx
    ·exact h.sub x hx
    ·exact(BH.mp hx).1
   ·intro hx
    by_cases c:x∈fl P
    ·exact Az _ c
    ·exact A4 _ (BH.mpr ⟨hx,by rw[wY c];rfl⟩)
  have e1:C1 s.1=U w.1:=by
   rw[i1];exact((Dc _).trans (pmF.trans pmU)).eq_of_pairwise (λa b _ _ h1 h2=>IM h1 h2) (IT _) ((m8 w.1).imp λh=>lC h)
  have up:s.2.Pairwise (·<=·):=by
   rw[i2,Bv];refine FC (λ{a b} ha hb hab=>?_) (MZ (P.map Fm++(sgl w P).map λx=>[x]));obtain⟨_,a2,_⟩:=two a ha;obtain⟨_,b2,_⟩:=two b hb
   cases a with
   | nil=>exact zX rfl a2
   | cons a as=>
    cases b with
    | nil=>exact zX rfl b2
    | cons b bs=>exact ei hab
  have e2:C1 s.2=s.2:=(Dc _).eq_of_pairwise (λa b _ _ h1 h2=>IM h1 h2) (IT _) up
  have e3:((-1:Int)∉s.2):=by
   rw[i2];intro hm;obtain⟨r,hr,e⟩:=Ag.mp hm;obtain⟨_,r2,r3⟩:=two r hr
   cases r with
   | nil=>exact zX rfl r2
   | cons z r=>
    have:=(r3 z A1).1;have e:z = -1:=e
    lia
  rw[hnl,SG (by lia) (by lia),h1,Pe,e1,e2];simp only[Ac,decide_true];rw[wY e3];exact OkF.rt rfl
end
def YN(W:Wd){S:Sto}{t m:Nat}{ts:List (Int×Int)}{c:Int}(ht:S[t]?=some (.lst (ts.map pairD)))(hm1:1<=m)(hm:m<=60)(hf:Fg m ts)(hl:ts.length<=80000){e:Lo}{mp mt:ME}{mc:ML}(h1:mp e S=.ok (.int m) S)(h2:AI mt mc e S=.ok [.ref t,.int c] S) :
  ∃(q:Nat) (S':Sto),Pt W.Web 3 (Ib W) (AI mp (AI (BI 2 (Dw W) (AI mt mc)) Au)) e S=.ok (.ref q) S'/\Keeps S S'/\S.length<=q/\S'[q]?=some (Gr W (m,CS ts)):=by
 obtain⟨us,c1,p1,l1⟩:=XX W c ht hl;obtain⟨S',c2,K,hw⟩:=iG W (p:=m) (d:=.ref S.length) (S:=S++[.lst (us.map pairD)]) (ps:=us) hm1 hm (λS' k=>DW (k.at (By _ _))) (by lia) (hf.of p1) (ml:=AI mp (AI (BI 2 (Dw W) (AI mt mc)) Au)) (e:=e) (S0:=S) (BX h1 (BX ((B6 h2 rfl).trans c1) rfl));rw[ck p1]at hw;exact⟨_,S',c2,(Keeps.app _ _).trans K,by simp,hw⟩
def iF{m:Nat}{us:List (Int×Int)}(u:Eu m 0 us)(hm:m<=60):Wok (m,CS us)/\(∀x,(nbW (CS us) x).Nodup)/\∀x:Int×Int,x∈CS us↔x∈us:=by
 have hnd:∀x,(nbW (CS us) x).Nodup:=λx=>by
  rw[Kj u];exact(Dc _).nodup_iff.mpr (Mp u.2 λt ht=>(u.1 t ht).2.1)
 have hlen:∀x,(nbW (CS us) x).length<=1000:=λx=>by
  have:=N2 m (nbW (CS us) x) (hnd x) λz hz=>by
   rw[Kj u]at hz;exact gb u hz
  lia
 have hmem:∀x:Int×Int,x∈CS us↔x∈us:=λx=>by
  have:=(NT us).mem_iff (a:=x);rwa [u.nrm]at this
 refine⟨⟨hm,aA u,hlen,We u,λx hx=>?_,λa b ha0 ha hb=>?_⟩,hnd,hmem⟩
 ·have hx:=(hmem x).mp hx
  have b:=u.1 x hx;refine⟨⟨b.1,by dsimp only;omega⟩,?_⟩;show x.2∈nbW (CS us) x.1;rw[Kj u];refine Nc.mpr (.inl ?_);rw[Bg b.1];exact hx
 ·have hb:b∈nbW (CS us) a:=hb
  rw[Kj u]at hb;have:=Nc.mp hb;rw[Bg ha0]at this
  rcases this with h | h
  ·exact .inl ((hmem _).mpr h)
  ·exact .inr ((hmem _).mpr h)
def iW{m:Nat}{us:List (Int×Int)}(u:Eu m 0 us)(hm:m<=60){cf:Int->Int}(hc:∀x∈us,cf x.1 % 2≠cf x.2 % 2):JF (nbW (CS us)) m (col (nbW (CS us)) m):=by
 refine Vx (aA u) (We u) (c:=λx=>cf x % 2) (λx _ _=>gM _) λa b ha0 ha hb=>?_
 have hb:b∈nbW (CS us) a:=hb;rw[Kj u]at hb;have:=Nc.mp hb;rw[Bg ha0]at this
 rcases this with h | h
 ·exact hc _ h
 ·exact λe=>hc _ h e.symm
def Xz{w:Nat×List (Int×Int)}(ok:Wok w)(hnd:∀x,(nbW w.2 x).Nodup)(h2:JF (nbW w.2) w.1 (cw w)):∃H Q,Mt (nbW w.2) w.1 (cw w) H/\Rch w H Q/\FT w=some (Ev (prs H))/\Ej w=some (cvr w Q):=by
 obtain⟨H,e1,m,hf⟩:=VR ok;obtain⟨Q,e2,R⟩:=Xn ok hnd h2 m hf;exact⟨H,Q,m,R,d6 ok h2 e1 m,fW ok h2 e1 e2⟩
def ZO{m:ME}{e:Lo}{S S1:Sto}{b:Bool}(h:m e S=.ok (.bl b) S1):Io m e S=.ok b S1:=by
 unfold Io;rw[h];rfl
def jg{S:Sto}{n o:Nat}{ts:List (Int×Int)}(h:NB S n o ts)(L:Nat->Option Ob)(hL:∀n o,S[n]?=some o->L n=some o):Nst D.int ((BA o).map (nr ts)) L (.ref n):=by
 obtain⟨rs,h1,h2,h3⟩:=h;refine⟨n,rs,rfl,hL _ _ h1,by simp[h2],λk xs hk=>?_⟩;rw[AN]at hk
 by_cases c:k < o
 ·rw[BU c]at hk
  cases hk;obtain⟨r,h4,h5⟩:=h3 k c;exact⟨r,h4,hL _ _ h5⟩
 ·rw[BJ (by simp;lia)]at hk
  cases hk
def good(W:Wd)(nd:W.excs.Nodup)(ns:List Int)(hns:ns.length<=63):∃S',bE W [.fro (ns.map D.int)] []=.ok (.bl true) S':=by
 obtain⟨m,t,us,S1,c1,K1,t1,u1,l1,hm1,hm,cf,hcf⟩:=YF W ns []
 have s1:Ts (BI 1 (Fs W) (AI (AB 0) Au)) (EC 2 (Ba (tgN 1) (Ba (tgN 2) ET))) (DF 9 [.fro (ns.map D.int)]) []=oN [sF ns,sI m,sR t,none,none,none,none,none,none] S1:=by
  have c1':BI 1 (Fs W) (AI (AB 0) Au) (DF 9 [.fro (ns.map D.int)]) []=.ok (.tup [.int m,.ref t]) S1:=(B6 (ds:=[.fro (ns.map D.int)]) (S1:=[]) rfl rfl).trans c1;unfold Ts;rw[c1'];rfl
 obtain⟨h,hc⟩:=W2 W ns 0 S1;obtain⟨q,S2,c2,K2,q2,w2⟩:=YN W (c:=h) t1 hm1 hm u1.fit (by lia) (e:=[sF ns,sI m,sR t,none,none,none,none,none,none]) (mp:=AB 1) (mt:=AB 2) (mc:=AI (BI 2 (De W) (AI (AB 0) (AI (mC (.int 0)) Au))) Au) rfl (BX rfl (BX ((B6 (ds:=[.fro (ns.map D.int),.int 0]) (S1:=S1) rfl rfl).trans hc) rfl));have s2:Bj 3 (Pt W.Web 3 (Ib W) (AI (AB 1) (AI (BI 2 (Dw W) (AI (AB 2) (AI (BI 2 (De W) (AI (AB 0) (AI (mC (.int 0)) Au))) Au))) Au))) [sF ns,sI m,sR t,none,none,none,none,none,none] S1=oN [sF ns,sI m,sR t,sR q,none,none,none,none,none] S2:=DG (i:=3) c2;have t2:=K2.at t1;obtain⟨nn,S3,c3,K3,n3⟩:=Z7 W t2 u1 hm (by lia);have s3:Bj 4 (BI 2 (IE W) (AI (AB 2) (AI (AB 1) Au))) [sF ns,sI m,sR t,sR q,none,none,none,none,none] S2=oN [sF ns,sI m,sR t,sR q,sR nn,none,none,none,none] S3:=DG (i:=4) ((B6 (ds:=[.ref t,.int m]) (S1:=S2) rfl rfl).trans c3);obtain⟨ok,hnd,hmem⟩:=iF u1 hm;have h2:=iW u1 hm hcf;obtain⟨H,Q,mt,R,e3,e4⟩:=Xz ok hnd h2;have hpr:=jA ok h2 mt
 have hlenC:(cvr (m,CS us) Q).length=(Ev (prs H)).length:=by
  rw[(Ma _).length_eq,YW ok h2 mt R];simp
 have hcov:∀x∈us,x.1∈cvr (m,CS us) Q∨x.2∈cvr (m,CS us) Q:=λx hx=>by
  obtain⟨b1,b2⟩:=ok.hts x ((hmem x).mpr hx);exact kG ok h2 R b1.1 b1.2 b2
 have e5:=fm hm e4 e3 hpr
 have hal:=Tw (p:=m) (C:=cvr (m,CS us) Q) ((LM m).sublist F0) (λx hx=>(BH.mp hx).1) (f:=λx=>!decide (x∈cvr (m,CS us) Q)) λx _=>by rw[Y4,decide_eq_false_iff_not]
 have hcl:=W1 hpr;have his:Ek (apt (m,CS us) (cvr (m,CS us) Q)) (m:Int)=some true:=P5 ((m8 m).sublist F0) (λx hx=>IA.mp (BH.mp hx).1) (At (LC _ _) (by simp;exact hm))
 have hcs:∀r∈clb (m,CS us) (Ev (prs H)),Ek r (m:Int)=some true:=λr hr=>fZ (w:=(m,CS us)) hm hpr hr
 have hnl:((BA m).map (nr us)).length=m:=by simp
 have hpw:=dz (w:=(m,CS us)) hm hpr (nears:=(BA m).map (nr us)) hnl λx h0 h1=>by
  obtain⟨y,e1,e2⟩:=Np (l:=(BA m).map (nr us)) (i:=x) h0 (by rw[hnl];exact h1);rw[e1,Kj u1];rw[AN,BU (by lia)]at e2;exact e2.symm▸rfl
 have hapt:∀x∈us,¬(x.1∈apt (m,CS us) (cvr (m,CS us) Q)/\x.2∈apt (m,CS us) (cvr (m,CS us) Q)):=λx hx ⟨a1,a2⟩=>by
  have a1:=(BH.mp a1).2;have a2:=(BH.mp a2).2
  rcases hcov x hx with h | h
  ·rw[wX h]at a1;cases a1
  ·rw[wX h]at a2;cases a2
 have hal2:(apt (m,CS us) (cvr (m,CS us) Q)).length=(clb (m,CS us) (Ev (prs H))).length:=by
  show((U m).filter λx=>!decide (x∈cvr (m,CS us) Q)).length=_;have hcl:(clb (m,CS us) (Ev (prs H))).length+(Ev (prs H)).length=m:=hcl
  lia
 have hal3:((apt (m,CS us) (cvr (m,CS us) Q)).length:Int)=m - ((Ev (prs H)).length:Int):=by
  have hcl:(clb (m,CS us) (Ev (prs H))).length+(Ev (prs H)).length=m:=hcl
  lia
 have hcll:(clb (m,CS us) (Ev (prs H))).length<=60:=by
  have hcl:(clb (m,CS us) (Ev (prs H))).length+(Ev (prs H)).length=m:=hcl
  lia
 generalize apt (m,CS us) (cvr (m,CS us) Q)=Ap at *
 generalize clb (m,CS us) (Ev (prs H))=Cl at *
 generalize Ev (prs H)=P at *
 have w3:=K3.at w2;have t3:=K3.at t2;obtain⟨d4,S4,c4,K4,r4⟩:=Ix W (m,CS us) _ e5 S3 [.ref q] ⟨⟨q,rfl,w3⟩,trivial⟩
 obtain⟨n4,rfl,g4,a4⟩:∃n4,d4=.tup [B8 Ap,.ref n4]/\S3.length<=n4/\S4[n4]?=some (oL (eT D.int) Cl):=r4
 have w4:=K4.at w3;have t4:=K4.at t3;have n4':=n3.keeps K4;have s4:Bj 5 (BI 1 (Ds W) (AI (AB 3) Au)) [sF ns,sI m,sR t,sR q,sR nn,none,none,none,none] S3=.ok (.nx [sF ns,sI m,sR t,sR q,sR nn,some (.tup [B8 Ap,.ref n4]),none,none,none]) S4:=DG (i:=5) ((B6 (ds:=[.ref q]) (S1:=S3) rfl rfl).trans c4);have ixl:m2 ixA (AB 5) (mC (.int 1)) [sF ns,sI m,sR t,sR q,sR nn,some (.tup [B8 Ap,.ref n4]),none,none,none] S4=.ok (.ref n4) S4:=BO (x:=.tup [B8 Ap,.ref n4]) (y:=.int 1) rfl rfl (Oh (ds:=[B8 Ap,.ref n4]) rfl (by decide) rfl)
 have tst1:mOr (J5 (mB (mIs (isB "tuple") (λ_=>none) (AB 5)))) (mOr (mB (m2 (eqD true) (GN (AB 5)) (mC (.int 2)))) (J5 (mB (mIs (isB "list") (λ_=>none) (m2 ixA (AB 5) (mC (.int 1))))))) [sF ns,sI m,sR t,sR q,sR nn,some (.tup [B8 Ap,.ref n4]),none,none,none] S4=.ok false S4:=by
  refine(Lr (S1:=S4) (Kh (b:=true) (GR (aZ (T:="tuple") (d:=.tup [B8 Ap,.ref n4]) rfl rfl (by decide +kernel))))).trans ?_;refine(Lr (S1:=S4) (GR (BO (S1:=S4) (S2:=S4) (Ht (d:=.tup [B8 Ap,.ref n4]) (ds:=[B8 Ap,.ref n4]) rfl rfl) rfl (SQ (b:=false) (by simp))))).trans ?_;exact Kh (b:=true) (GR (aZ (T:="list") ixl (by unfold tyD;dsimp only;rw[a4];rfl) (by decide +kernel)))
 have s6:Ts (AB 5) (EC 2 (Ba (tgN 6) (Ba (tgN 7) ET))) [sF ns,sI m,sR t,sR q,sR nn,some (.tup [B8 Ap,.ref n4]),none,none,none] S4=.ok (.nx [sF ns,sI m,sR t,sR q,sR nn,some (.tup [B8 Ap,.ref n4]),some (B8 Ap),sR n4,none]) S4:=rfl;obtain⟨d5,S5,c5,K5,r5⟩:=LX W Ap m _ his S4 [B8 Ap,.int m] ⟨rfl,rfl,trivial⟩;have r5:d5=.bl true:=r5;subst r5;have a5:=K5.at a4
 obtain⟨S6,c6,K6⟩:=YT (f:=eT D.int) (g:=λ_=>D.bl true) (l:=Cl) (v:=Ea (.ref n4)) (m:=BI 2 (Dx W) (AI (AB 0) (AI (AB 2) Au))) (e:=[sF ns,sI m,sR t,sR q,sR nn,some (.tup [B8 Ap,.ref n4]),some (B8 Ap),sR n4,none]) (S:=S5) (λS' k=>DW (k.at a5)) (by lia) λx hx S' k=>by
  obtain⟨d,S'',c,k',r⟩:=LX W x m _ (hcs x hx) S' [eT D.int x,.int m] ⟨rfl,rfl,trivial⟩;have r:d=.bl true:=r;subst r;exact⟨S'',(B6 (ds:=[eT D.int x,.int m]) (S1:=S') rfl rfl).trans c,k'⟩
 have allT:∀(S:Sto) {γ:Type} (l:List γ),Ss (l.map λ_=>D.bl true) S=.ok (.bl true) S:=λS _ l=>by
  unfold Ss Vy;rw[show(l.map λ_=>D.bl true)=(l.map λ_=>true).map D.bl by rw[Ax];rfl,Op]
  have:((l.map λ_=>true).all id)=true:=ES.mpr λb hb=>by obtain⟨_,_,rfl⟩:=Ag.mp hb;rfl
  show Res.ok (D.bl ((l.map λ_=>true).all id)) S=_;rw[this]
 have tst2:mOr (J5 (Io (BI 2 (Dx W) (AI (AB 6) (AI (AB 1) Au))))) (J5 (mB (mQ Ss (Ip (Cq (D4 1 (D7 (AB 7)) (tgN 0) EK (BI 2 (Dx W) (AI (AB 0) (AI (AB 2) Au))))))))) [sF ns,sI m,sR t,sR q,sR nn,some (.tup [B8 Ap,.ref n4]),some (B8 Ap),sR n4,none] S4=.ok false (S6++[.lst (Cl.map λ_=>D.bl true)]):=by
  refine(Lr (S1:=S5) (Kh (b:=true) (ZO ((B6 (ds:=[B8 Ap,.int m]) (S1:=S4) rfl rfl).trans c5)))).trans ?_;refine Kh (b:=true) (GR ?_);have:=J2 ((LL (n:=1) (mi:=D7 (AB 7)) (g:=tgN 0) (c:=EK) (Fo (n:=n4) rfl a5)).trans c6);exact VQ (WV this (CY (By _ _))) (allT _ _)
 have K46:Keeps S4 (S6++[.lst (Cl.map λ_=>D.bl true)]):=(K5.trans K6).trans (Keeps.app _ _);generalize S6++[Ob.lst (Cl.map λ_=>D.bl true)]=S7 at tst2 K46;have a7:=K46.at a4;have w7:=K46.at w4;have t7:=K46.at t4;have n7:=n4'.keeps K46
 have hV:Vs S7 [.u,.v (.int m),.z (oL (eP D.int D.int) us),.u,.u,.u,.v (eT D.int Ap),.u,.u] [sF ns,sI m,sR t,sR q,sR nn,some (.tup [B8 Ap,.ref n4]),some (B8 Ap),sR n4,none] (KN S7) S7:=by
  refine⟨Keeps.refl _,λn o q=>?_,λn i q=>?_,λn hn=>by unfold KN;rw[BJ hn],λi a ha=>?_⟩
  ·unfold KN at q
   split at q
   ·rename_i o' ho;cases q;exact ho
   ·cases q
  ·unfold KN at q
   split at q <;> cases q
  ·match i,ha with
   | 0,ha=>cases ha;exact⟨_,rfl,trivial⟩
   | 1,ha=>cases ha;exact⟨_,rfl,rfl⟩
   | 2,ha=>cases ha;exact⟨_,rfl,t,rfl,by unfold KN;rw[show S7[t]?=some (oL (eP D.int D.int) us)from t7]⟩
   | 3,ha=>cases ha;exact⟨_,rfl,trivial⟩
   | 4,ha=>cases ha;exact⟨_,rfl,trivial⟩
   | 5,ha=>cases ha;exact⟨_,rfl,trivial⟩
   | 6,ha=>cases ha;exact⟨_,rfl,rfl⟩
   | 7,ha=>cases ha;exact⟨_,rfl,trivial⟩
   | 8,ha=>cases ha;exact⟨_,rfl,trivial⟩
   | n+9,ha=>cases ha
 have vA:=iS (A:=[.u,.v (.int m),.z (oL (eP D.int D.int) us),.u,.u,.u,.v (eT D.int Ap),.u,.u]) (R0 (Hy (FE (O5 (mi:=D7 (AB 2)) (a:=D.int) (b:=D.int) (VI.k (Y9 rfl)) (λx=>MV) (λx=>OZ (ZG (enc:=D.int) Dt (BL (i:=0) (v:=x.1) rfl) (BL (i:=8) (enc:=eT D.int) (v:=Ap) rfl)) (ZG (enc:=D.int) Dt (BL (i:=1) (v:=x.2) rfl) (BL (i:=8) (enc:=eT D.int) (v:=Ap) rfl)))))))
 obtain⟨d8,S8,c8,K8,r8⟩:=vA false (by
  simp only[Ac];rw[Jn (f:=λx:Int×Int=>decide (x.1∈Ap)&&decide (x.2∈Ap)) (by lia) λx _=>by cases decide (x.1∈Ap) <;> simp];simp only[Ac]
  rw[show(us.map λx:Int×Int=>decide (x.1∈Ap)&&decide (x.2∈Ap)).any id=false from Bool.eq_false_iff.mpr λz=>by
   obtain⟨b,hb,e⟩:=ER.mp z;obtain⟨x,hx,rfl⟩:=Ag.mp hb;have e:(decide (x.1∈Ap)&&decide (x.2∈Ap))=true:=e;rw[Hj]at e
   exact hapt x hx ⟨of_decide_eq_true e.1,of_decide_eq_true e.2⟩]) S7 _ (KN S7) S7 hV
 have r8:d8=.bl false:=r8;subst r8;obtain⟨d9,S9,c9,K9,r9⟩:=MY W ((BA m).map (nr us)) Cl _ hpw S8 [.ref nn,.ref n4] ⟨jg (n7.keeps K8),⟨n4,rfl,K8.at a7⟩,trivial⟩;have r9:d9=.bl true:=r9;subst r9;have K79:=K8.trans K9;have a9:=K79.at a7;have w9:=K79.at w7;have t9:=K79.at t7
 have tst3:mOr (mB (mQ bY (Ip (Cq (D4 2 (D7 (AB 2)) (EC 2 (Ba (tgN 0) (Ba (tgN 1) ET))) EK (JB (m2 (inA false) (AB 0) (AB 8)) (m2 (inA false) (AB 1) (AB 8)))))))) (J5 (Io (BI 2 (E0 W) (AI (AB 4) (AI (AB 7) Au))))) [sF ns,sI m,sR t,sR q,sR nn,some (.tup [B8 Ap,.ref n4]),some (B8 Ap),sR n4,none] S7=.ok false S9:=
  (Lr (S1:=S8) (GR c8)).trans (Kh (b:=true) (ZO ((B6 (ds:=[.ref nn,.ref n4]) (S1:=S8) rfl rfl).trans c9)))
 obtain⟨d10,S10,c10,K10,n10,rfl,_,a10⟩:=MX W (m,CS us) _ e3 S9 [.ref q] ⟨⟨q,rfl,w9⟩,trivial⟩
 have tst4:mOr (mB (m2 (eqD true) (GN (AB 7)) (GN (AB 6)))) (mB (m2 (eqD true) (GN (AB 6)) (m2 ZS (AB 1) (GN (BI 1 (Gv W) (AI (AB 3) Au)))))) [sF ns,sI m,sR t,sR q,sR nn,some (.tup [B8 Ap,.ref n4]),some (B8 Ap),sR n4,none] S9=.ok false S10:=by
  refine(Lr (S1:=S9) (GR (BO (S1:=S9) (S2:=S9) (Ht (d:=.ref n4) (ds:=Cl.map (eT D.int)) rfl (CY a9)) (Ht (d:=B8 Ap) (ds:=Ap.map D.int) rfl rfl) (SQ (b:=false) (by rw[AC,AC,hal2];simp))))).trans ?_;refine GR (BO (S1:=S9) (S2:=S10) (Ht (d:=B8 Ap) (ds:=Ap.map D.int) rfl rfl) (BO (S1:=S9) (S2:=S10) (x:=.int m) rfl (Ht (d:=.ref n10) (ds:=P.map (eP D.int D.int)) ((B6 (ds:=[.ref q]) (S1:=S9) rfl rfl).trans c10) (CY a10)) rfl) (SQ (b:=false) ?_));rw[AC,AC,hal3];simp
 have a11:=K10.at a9;have w11:=K10.at w9;have t11:=K10.at t9;have hl8:=eW (m:=AB 7) (e:=[sF ns,sI m,sR t,sR q,sR nn,some (.tup [B8 Ap,.ref n4]),some (B8 Ap),sR n4,none]) (S:=S10) (S1:=S10) rfl (CY a11) (by rw[AC];lia);have s7:Bj 8 (Cq (mN Ms (Ip (AB 7)))) [sF ns,sI m,sR t,sR q,sR nn,some (.tup [B8 Ap,.ref n4]),some (B8 Ap),sR n4,none] S10=.ok (.nx [sF ns,sI m,sR t,sR q,sR nn,some (.tup [B8 Ap,.ref n4]),some (B8 Ap),sR n4,sR S10.length]) (S10++[.lst (Cl.map (eT D.int))]):=DG (i:=8) hl8;have a12:=(Keeps.app S10 [.lst (Cl.map (eT D.int))]).at a11;have hx:=Ig (mo:=AB 7) (ma:=Fn (AI (mC (.int 0)) Au)) (e:=[sF ns,sI m,sR t,sR q,sR nn,some (.tup [B8 Ap,.ref n4]),some (B8 Ap),sR n4,sR S10.length]) (S:=S10++[.lst (Cl.map (eT D.int))]) (S1:=S10++[.lst (Cl.map (eT D.int))]) (S2:=S10++[.lst (Cl.map (eT D.int))]) (y:=.tup [.int 0]) (n:=n4) rfl a12 (Kc (ds:=[.int 0]) rfl (by simp)) a12 (aN (by rw[AC];lia));generalize hS:(S10++[Ob.lst (Cl.map (eT D.int))]).set n4 (Ob.lst (Cl.map (eT D.int)++[D.tup [.int 0]]))=S12 at hx
 have keep:∀j ob,j≠n4->S10[j]?=some ob->S12[j]?=some ob:=λj ob hj hb=>by
  rw[<-hS,AW (CB hj)];exact(Keeps.app S10 _).at hb
 have hlt4:n4 < S10.length:=Bo a11
 have held:S12[S10.length]?=some (oL (eT D.int) Cl):=by
  rw[<-hS,AW (by lia)];exact By _ _
 have w12:=keep q _ (Aq (Ab (Bo w3) g4)) w11;have t12:=keep t _ (Aq (Ab (Bo t3) g4)) t11;obtain⟨d13,S13,c13,K13,r13⟩:=Ix W (m,CS us) _ e5 S12 [.ref q] ⟨⟨q,rfl,w12⟩,trivial⟩
 obtain⟨n13,rfl,g13,a13⟩:∃n13,d13=.tup [B8 Ap,.ref n13]/\S12.length<=n13/\S13[n13]?=some (oL (eT D.int) Cl):=r13
 obtain⟨S14,c14,K14⟩:=ZT W (TU (K13.at w12)) (K13.at t12) u1.nrm;refine⟨S14,DJ (n:=9) (mb:=bU W) ?_⟩;unfold bU;refine(A9 s1).trans ((A9 s2).trans ((A9 s3).trans ((A9 s4).trans ?_)));refine(Mz tst1).trans ((A9 s6).trans ((Mz tst2).trans ((Mz tst3).trans ((Mz tst4).trans ((A9 s7).trans ((A9 (DV hx)).trans (Gn ?_)))))))
 have hne:n13≠S10.length:=λe=>by
  have:=Bo held
  lia
 refine ft (S1:=S13) (BO (x:=.tup [B8 Ap,.ref n13]) (y:=.tup [B8 Ap,.ref S10.length]) (S1:=S13) (S2:=S13) ((B6 (ds:=[.ref q]) (S1:=S12) rfl rfl).trans c13) (Kc (ds:=[B8 Ap,.ref S10.length]) rfl (by simp)) ?_) ((B6 (ds:=[.ref q,.int m,.ref t]) (S1:=S13) rfl rfl).trans c14)
 have e1:Wy S13 (B8 Ap) (B8 Ap)=some true:=by
  have:=Wx (n:=5) (enc:=D.int) Dt Ap Ap;rw[wX rfl]at this;exact this
 have e2:Wy S13 (.ref n13) (.ref S10.length)=some true:=by
  show eqI S13 (.ref n13) (.ref S10.length)=_;unfold eqI;dsimp only;rw[qY hne,a13,K13.at held];dsimp only[oL];rw[qX rfl,bI (Wx Dt),wX rfl]
 unfold fN fL;dsimp only;unfold eqL eqL eqL;rw[e1,e2];rfl
end M
def PySem.W.Fast.tw11664130286170908382:Nat:=0
def PySem.W.Fast.tw4619926721858356000:Nat:=0
def PySem.W.Fast.tw11246666343724333161:Nat:=0
def PySem.W.Fast.tw4971328858482346597:Nat:=0
def PySem.W.Fast.tw16393278459894949819:Nat:=0
def PySem.W.Fast.tw9651263547807070391:Nat:=0
def PySem.W.Fast.tw7108537420189949141:Nat:=0
def PySem.W.Fast.tw8755514150715927641:Nat:=0
def PySem.W.Fast.tw5214964638522126013:Nat:=0
def PySem.W.Fast.tw15393362130386779978:Nat:=0
def PySem.W.Fast.tw17454754825190009603:Nat:=0
def PySem.W.Fast.tw3167597966107149644:Nat:=0
def PySem.W.Fast.tw11922409339366441667:Nat:=0
def PySem.W.Fast.tw2504923234181753494:Nat:=0
def PySem.W.Fast.tw5000771250261675618:Nat:=0
def PySem.W.Fast.tw11903400543488001176:Nat:=0
def PySem.W.Fast.tw12671887610256457084:Nat:=0
def PySem.W.Fast.tw18063258912281470036:Nat:=0
def PySem.W.Fast.tw6927421078867358438:Nat:=0
def PySem.W.Fast.tw4459471281313381527:Nat:=0
def PySem.W.Fast.tw10559200820795057763:Nat:=0
def PySem.W.Fast.tw6765816237620255556:Nat:=0
def PySem.W.Fast.tw17796262745508908948:Nat:=0
def PySem.W.Fast.tw16175501540524574090:Nat:=0
def PySem.W.Fast.tw8052147156477073594:Nat:=0
def PySem.W.Fast.tw7607912725952475212:Nat:=0
def PySem.W.Fast.tw12719491685682798883:Nat:=0
def PySem.W.Fast.tw12115625600864966669:Nat:=0
def PySem.W.Fast.tw6997199421439447837:Nat:=0
def PySem.W.Fast.tw13454968831699852718:Nat:=0
def PySem.W.Fast.tw5504980600280586091:Nat:=0
def PySem.W.Fast.tw5174556781078425189:Nat:=0
def PySem.W.Fast.tw11065087273684966896:Nat:=0
def PySem.W.Fast.tw14829469396132261916:Nat:=0
def PySem.W.Fast.tw7898631239217597565:Nat:=0
def PySem.W.Fast.tw3551448316770841217:Nat:=0
def PySem.W.Fast.tw5141600636377622197:Nat:=0
def PySem.W.Fast.tw16886155430640374189:Nat:=0
def PySem.W.Fast.tw242205235223770734:Nat:=0
def PySem.W.Fast.tw14370735905531076185:Nat:=0
def PySem.W.Fast.tw5007296253256060925:Nat:=0
namespace M
open PySem PySem.Spec PyProof.Rows L2 PySem.W
def kJ{l:OpenLaw}{w:BE}{K:Frag}{h:B7}{mg:Str->Option AE}{fa:AK}(X:K.In h)(G:h.Ns Ah mg)(hfa:mg "law" = some (.ref fa))
  {f1 f2 f3 f4 f5 f6 f7 f8 f9 f10 f11 f12 f13 f14 f15 f16 f17 f18 f19 f20 f21 f22 f23 f24 f25 f26 f27 f28 f29 cWeb:AK} {tk_MOST_PLACES:Tok}
  {od1 an1 od2 an2 od3 an3 od4 an4 od5 an5 od6 an6 od7 an7 od8 an8 od9 an9 od10 an10 od11 an11 od12 an12 od13 an13 od14 an14 od15 an15 od16 an16 od17 an17 od18 an18 od19 an19 od20 an20 od21 an21 od22 an22 od23 an23 od24 an24 od25 an25 od26 an26 od27 an27 od28 an28 od29 an29:Option AK} {sl1 sl2 sl3 sl4 sl5 sl6 sl7 sl8 sl9 sl10 sl11 sl12 sl13 sl14 sl15 sl16 sl17 sl18 sl19 sl20 sl21 sl22 sl23 sl24 sl25 sl26 sl27 sl28 sl29:Array (Option AE)} {oc1 kV1 dc1 pm1 cd1 ct1 oc2 kV2 dc2 pm2 cd2 ct2 oc3 kV3 dc3 pm3 cd3 ct3 oc4 kV4 dc4 pm4 cd4 ct4 oc5 kV5 dc5 pm5 cd5 ct5 oc6 kV6 dc6 pm6 cd6 ct6 oc7 kV7 dc7 pm7 cd7 ct7 oc8 kV8 dc8 pm8 cd8 ct8 oc9 kV9 dc9 pm9 cd9 ct9 oc10 kV10 dc10 pm10 cd10 ct10 oc11 kV11 dc11 pm11 cd11 ct11 oc12 kV12 dc12 pm12 cd12 ct12 oc13 kV13 dc13 pm13 cd13 ct13 oc14 kV14 dc14 pm14 cd14 ct14 oc15 kV15 dc15 pm15 cd15 ct15 oc16 kV16 dc16 pm16 cd16 ct16 oc17 kV17 dc17 pm17 cd17 ct17 oc18 kV18 dc18 pm18 cd18 ct18 oc19 kV19 dc19 pm19 cd19 ct19 oc20 kV20 dc20 pm20 cd20 ct20 oc21 kV21 dc21 pm21 cd21 ct21 oc22 kV22 dc22 pm22 cd22 ct22 oc23 kV23 dc23 pm23 cd23 ct23 oc24 kV24 dc24 pm24 cd24 ct24 oc25 kV25 dc25 pm25 cd25 ct25 oc26 kV26 dc26 pm26 cd26 ct26 oc27 kV27 dc27 pm27 cd27 ct27 oc28 kV28 dc28 pm28 cd28 ct28 oc29 kV29 dc29 pm29 cd29 ct29:AE}
  (a_Web:EM K Ah "Web" = some (some (.ref cWeb)))
  (a1:EM K Ah "checked_ties" = some (some (.ref f1)))
  (l1:K.lookup f1=some ⟨oc1,od1,.func (fnOf "checked_ties" "checked_ties" (B0 EE) (Bt EE) (An EE) .none kV1 dc1 pm1 an1 cd1 ct1),sl1⟩)
  (k1c:codeIn K cd1 "checked_ties" = true)
  (k1:keepIn K (.ref f1)=true)
  (a2:EM K Ah "near_sets_of" = some (some (.ref f2)))
  (l2:K.lookup f2=some ⟨oc2,od2,.func (fnOf "near_sets_of" "near_sets_of" (B0 ED) (Bt ED) (An ED) .none kV2 dc2 pm2 an2 cd2 ct2),sl2⟩)
  (k2c:codeIn K cd2 "near_sets_of" = true)
  (k2:keepIn K (.ref f2)=true)
  (a3:findIn K (.ref cWeb) "__init__" = some (some (.ref f3)))
  (i3:isFn K (.ref f3)=true)
  (l3:K.lookup f3=some ⟨oc3,od3,.func (fnOf "__init__" "Web.__init__" (B0 HG) (Bt HG) (An HG) .none kV3 dc3 pm3 an3 cd3 ct3),sl3⟩)
  (k3c:codeIn K cd3 "Web.__init__" = true)
  (k3:keepIn K (.ref f3)=true)
  (a4:EM K Ah "refuse_no_place" = some (some (.ref f4)))
  (l4:K.lookup f4=some ⟨oc4,od4,.func (fnOf "refuse_no_place" "refuse_no_place" (B0 C6) (Bt C6) (An C6) .none kV4 dc4 pm4 an4 cd4 ct4),sl4⟩)
  (k4c:codeIn K cd4 "refuse_no_place" = true)
  (k4:keepIn K (.ref f4)=true)
  (a5:EM K Ah "near" = some (some (.ref f5)))
  (l5:K.lookup f5=some ⟨oc5,od5,.func (fnOf "near" "near" (B0 NV) (Bt NV) (An NV) .none kV5 dc5 pm5 an5 cd5 ct5),sl5⟩)
  (k5c:codeIn K cd5 "near" = true)
  (k5:keepIn K (.ref f5)=true)
  (a6:EM K Ah "steps_from" = some (some (.ref f6)))
  (l6:K.lookup f6=some ⟨oc6,od6,.func (fnOf "steps_from" "steps_from" (B0 FL) (Bt FL) (An FL) .none kV6 dc6 pm6 an6 cd6 ct6),sl6⟩)
  (k6c:codeIn K cd6 "steps_from" = true)
  (k6:keepIn K (.ref f6)=true)
  (a7:EM K Ah "parts_of" = some (some (.ref f7)))
  (l7:K.lookup f7=some ⟨oc7,od7,.func (fnOf "parts_of" "parts_of" (B0 HE) (Bt HE) (An HE) .none kV7 dc7 pm7 an7 cd7 ct7),sl7⟩)
  (k7c:codeIn K cd7 "parts_of" = true)
  (k7:keepIn K (.ref f7)=true)
  (a8:EM K Ah "steps_in_parts" = some (some (.ref f8)))
  (l8:K.lookup f8=some ⟨oc8,od8,.func (fnOf "steps_in_parts" "steps_in_parts" (B0 DX) (Bt DX) (An DX) .none kV8 dc8 pm8 an8 cd8 ct8),sl8⟩)
  (k8c:codeIn K cd8 "steps_in_parts" = true)
  (k8:keepIn K (.ref f8)=true)
  (a9:EM K Ah "first_clash" = some (some (.ref f9)))
  (l9:K.lookup f9=some ⟨oc9,od9,.func (fnOf "first_clash" "first_clash" (B0 Ef) (Bt Ef) (An Ef) .none kV9 dc9 pm9 an9 cd9 ct9),sl9⟩)
  (k9c:codeIn K cd9 "first_clash" = true)
  (k9:keepIn K (.ref f9)=true)
  (a10:EM K Ah "two_colours" = some (some (.ref f10)))
  (l10:K.lookup f10=some ⟨oc10,od10,.func (fnOf "two_colours" "two_colours" (B0 Ed) (Bt Ed) (An Ed) .none kV10 dc10 pm10 an10 cd10 ct10),sl10⟩)
  (k10c:codeIn K cd10 "two_colours" = true)
  (k10:keepIn K (.ref f10)=true)
  (a11:EM K Ah "settle" = some (some (.ref f11)))
  (l11:K.lookup f11=some ⟨oc11,od11,.func (fnOf "settle" "settle" (B0 Je) (Bt Je) (An Je) .none kV11 dc11 pm11 an11 cd11 ct11),sl11⟩)
  (k11c:codeIn K cd11 "settle" = true)
  (k11:keepIn K (.ref f11)=true)
  (a12:EM K Ah "colours_or_refused" = some (some (.ref f12)))
  (l12:K.lookup f12=some ⟨oc12,od12,.func (fnOf "colours_or_refused" "colours_or_refused" (B0 CZ) (Bt CZ) (An CZ) .none kV12 dc12 pm12 an12 cd12 ct12),sl12⟩)
  (k12c:codeIn K cd12 "colours_or_refused" = true)
  (k12:keepIn K (.ref f12)=true)
  (a13:EM K Ah "partners" = some (some (.ref f13)))
  (l13:K.lookup f13=some ⟨oc13,od13,.func (fnOf "partners" "partners" (B0 HF) (Bt HF) (An HF) .none kV13 dc13 pm13 an13 cd13 ct13),sl13⟩)
  (k13c:codeIn K cd13 "partners" = true)
  (k13:keepIn K (.ref f13)=true)
  (a14:EM K Ah "most_pairs" = some (some (.ref f14)))
  (l14:K.lookup f14=some ⟨oc14,od14,.func (fnOf "most_pairs" "most_pairs" (B0 FM) (Bt FM) (An FM) .none kV14 dc14 pm14 an14 cd14 ct14),sl14⟩)
  (k14c:codeIn K cd14 "most_pairs" = true)
  (k14:keepIn K (.ref f14)=true)
  (a15:EM K Ah "places_reached" = some (some (.ref f15)))
  (l15:K.lookup f15=some ⟨oc15,od15,.func (fnOf "places_reached" "places_reached" (B0 DY) (Bt DY) (An DY) .none kV15 dc15 pm15 an15 cd15 ct15),sl15⟩)
  (k15c:codeIn K cd15 "places_reached" = true)
  (k15:keepIn K (.ref f15)=true)
  (a16:EM K Ah "least_cover" = some (some (.ref f16)))
  (l16:K.lookup f16=some ⟨oc16,od16,.func (fnOf "least_cover" "least_cover" (B0 Ee) (Bt Ee) (An Ee) .none kV16 dc16 pm16 an16 cd16 ct16),sl16⟩)
  (k16c:codeIn K cd16 "least_cover" = true)
  (k16:keepIn K (.ref f16)=true)
  (a17:EM K Ah "apart_and_clubs" = some (some (.ref f17)))
  (l17:K.lookup f17=some ⟨oc17,od17,.func (fnOf "apart_and_clubs" "apart_and_clubs" (B0 C7) (Bt C7) (An C7) .none kV17 dc17 pm17 an17 cd17 ct17),sl17⟩)
  (k17c:codeIn K cd17 "apart_and_clubs" = true)
  (k17:keepIn K (.ref f17)=true)
  (a18:EM K Ah "_law_cell_at" = some (some (.ref f18)))
  (l18:K.lookup f18=some ⟨oc18,od18,.func (fnOf "_law_cell_at" "_law_cell_at" (B0 EF) (Bt EF) (An EF) .none kV18 dc18 pm18 an18 cd18 ct18),sl18⟩)
  (k18c:codeIn K cd18 "_law_cell_at" = true)
  (k18:keepIn K (.ref f18)=true)
  (a19:EM K Ah "_law_mixed" = some (some (.ref f19)))
  (l19:K.lookup f19=some ⟨oc19,od19,.func (fnOf "_law_mixed" "_law_mixed" (B0 FQ) (Bt FQ) (An FQ) .none kV19 dc19 pm19 an19 cd19 ct19),sl19⟩)
  (k19c:codeIn K cd19 "_law_mixed" = true)
  (k19:keepIn K (.ref f19)=true)
  (a20:EM K Ah "_law_whole" = some (some (.ref f20)))
  (l20:K.lookup f20=some ⟨oc20,od20,.func (fnOf "_law_whole" "_law_whole" (B0 FN) (Bt FN) (An FN) .none kV20 dc20 pm20 an20 cd20 ct20),sl20⟩)
  (k20c:codeIn K cd20 "_law_whole" = true)
  (k20:keepIn K (.ref f20)=true)
  (a21:EM K Ah "_law_pool" = some (some (.ref f21)))
  (l21:K.lookup f21=some ⟨oc21,od21,.func (fnOf "_law_pool" "_law_pool" (B0 GY) (Bt GY) (An GY) .none kV21 dc21 pm21 an21 cd21 ct21),sl21⟩)
  (k21c:codeIn K cd21 "_law_pool" = true)
  (k21:keepIn K (.ref f21)=true)
  (a22:EM K Ah "_law_ties" = some (some (.ref f22)))
  (l22:K.lookup f22=some ⟨oc22,od22,.func (fnOf "_law_ties" "_law_ties" (B0 GX) (Bt GX) (An GX) .none kV22 dc22 pm22 an22 cd22 ct22),sl22⟩)
  (k22c:codeIn K cd22 "_law_ties" = true)
  (k22:keepIn K (.ref f22)=true)
  (a23:EM K Ah "_law_turned" = some (some (.ref f23)))
  (l23:K.lookup f23=some ⟨oc23,od23,.func (fnOf "_law_turned" "_law_turned" (B0 Eg) (Bt Eg) (An Eg) .none kV23 dc23 pm23 an23 cd23 ct23),sl23⟩)
  (k23c:codeIn K cd23 "_law_turned" = true)
  (k23:keepIn K (.ref f23)=true)
  (a24:EM K Ah "_law_nears" = some (some (.ref f24)))
  (l24:K.lookup f24=some ⟨oc24,od24,.func (fnOf "_law_nears" "_law_nears" (B0 FP) (Bt FP) (An FP) .none kV24 dc24 pm24 an24 cd24 ct24),sl24⟩)
  (k24c:codeIn K cd24 "_law_nears" = true)
  (k24:keepIn K (.ref f24)=true)
  (a25:EM K Ah "_law_parts_well" = some (some (.ref f25)))
  (l25:K.lookup f25=some ⟨oc25,od25,.func (fnOf "_law_parts_well" "_law_parts_well" (B0 C8) (Bt C8) (An C8) .none kV25 dc25 pm25 an25 cd25 ct25),sl25⟩)
  (k25c:codeIn K cd25 "_law_parts_well" = true)
  (k25:keepIn K (.ref f25)=true)
  (a26:EM K Ah "_law_halves" = some (some (.ref f26)))
  (l26:K.lookup f26=some ⟨oc26,od26,.func (fnOf "_law_halves" "_law_halves" (B0 Ei) (Bt Ei) (An Ei) .none kV26 dc26 pm26 an26 cd26 ct26),sl26⟩)
  (k26c:codeIn K cd26 "_law_halves" = true)
  (k26:keepIn K (.ref f26)=true)
  (a27:EM K Ah "_law_is_set" = some (some (.ref f27)))
  (l27:K.lookup f27=some ⟨oc27,od27,.func (fnOf "_law_is_set" "_law_is_set" (B0 Eh) (Bt Eh) (An Eh) .none kV27 dc27 pm27 an27 cd27 ct27),sl27⟩)
  (k27c:codeIn K cd27 "_law_is_set" = true)
  (k27:keepIn K (.ref f27)=true)
  (a28:EM K Ah "_law_stays" = some (some (.ref f28)))
  (l28:K.lookup f28=some ⟨oc28,od28,.func (fnOf "_law_stays" "_law_stays" (B0 FO) (Bt FO) (An FO) .none kV28 dc28 pm28 an28 cd28 ct28),sl28⟩)
  (k28c:codeIn K cd28 "_law_stays" = true)
  (k28:keepIn K (.ref f28)=true)
  (a29:EM K Ah "law" = some (some (.ref f29)))
  (l29:K.lookup f29=some ⟨oc29,od29,.func (fnOf "law" "law" (B0 RF) (Bt RF) (An RF) .none kV29 dc29 pm29 an29 cd29 ct29),sl29⟩)
  (k29c:codeIn K cd29 "law" = true)
  (k29:keepIn K (.ref f29)=true)
  (pg_Web:plainGet K cWeb Str.empty=true)
  (hd_Web:hasDictIn K cWeb=true)
  (po_Web:plainOver K cWeb=true)
  (sa_Web:findIn K (.ref cWeb) "__setattr__" = some (some (.builtin "object.__setattr__")))
  (mk_Web:makesIn K cWeb=true)
  (kc_Web:keepIn K (.ref cWeb)=true)
  (n_Web_places:findIn K (.ref cWeb) "places" = some none)
  (n_Web_ties:findIn K (.ref cWeb) "ties" = some none)
  (n_Web_near_sets:findIn K (.ref cWeb) "near_sets" = some none)
  (z_all:EM K Ah "all" = some none)
  (z_any:EM K Ah "any" = some none)
  (z_bool:EM K Ah "bool" = some none)
  (z_enumerate:EM K Ah "enumerate" = some none)
  (z_int:EM K Ah "int" = some none)
  (z_isinstance:EM K Ah "isinstance" = some none)
  (z_len:EM K Ah "len" = some none)
  (z_list:EM K Ah "list" = some none)
  (z_max:EM K Ah "max" = some none)
  (z_min:EM K Ah "min" = some none)
  (z_range:EM K Ah "range" = some none)
  (z_set:EM K Ah "set" = some none)
  (z_sorted:EM K Ah "sorted" = some none)
  (z_sum:EM K Ah "sum" = some none)
  (z_tuple:EM K Ah "tuple" = some none)
  (g_MOST_PLACES:EM K Ah "MOST_PLACES" = some (some (.int 60 tk_MOST_PLACES)))
  : ∃(W:Wd) (T:Txt K mg W),fa=T.d_law.f/\W.excs.Nodup/\∀(s:AG) (v:AE),Um s T.d_law.fd ⟨[v],[]⟩ [("script",v)]:=by
 have F1:=Ci (st:=EE) l1 k1c k1
 have b1:=F1.binds (ps:=["places", "ties"]) λ_ _ _ _ _ _ us hl=>by obtain⟨a,b,rfl⟩:=Lw hl;rfl
 have F2:=Ci (st:=ED) l2 k2c k2
 have b2:=F2.binds (ps:=["places", "ties"]) λ_ _ _ _ _ _ us hl=>by obtain⟨a,b,rfl⟩:=Lw hl;rfl
 have F3:=Ci (st:=HG) l3 k3c k3
 have b3:=F3.binds (ps:=["self", "places", "ties"]) λ_ _ _ _ _ _ us hl=>by obtain⟨a,b,c,rfl⟩:=aR hl;rfl
 have F4:=Ci (st:=C6) l4 k4c k4
 have b4:=F4.binds (ps:=["web", "place"]) λ_ _ _ _ _ _ us hl=>by obtain⟨a,b,rfl⟩:=Lw hl;rfl
 have F5:=Ci (st:=NV) l5 k5c k5
 have b5:=F5.binds (ps:=["web", "place"]) λ_ _ _ _ _ _ us hl=>by obtain⟨a,b,rfl⟩:=Lw hl;rfl
 have F6:=Ci (st:=FL) l6 k6c k6
 have b6:=F6.binds (ps:=["web", "start"]) λ_ _ _ _ _ _ us hl=>by obtain⟨a,b,rfl⟩:=Lw hl;rfl
 have F7:=Ci (st:=HE) l7 k7c k7
 have b7:=F7.binds (ps:=["web"]) λ_ _ _ _ _ _ us hl=>by obtain⟨a,rfl⟩:=Nh hl;rfl
 have F8:=Ci (st:=DX) l8 k8c k8
 have b8:=F8.binds (ps:=["web"]) λ_ _ _ _ _ _ us hl=>by obtain⟨a,rfl⟩:=Nh hl;rfl
 have F9:=Ci (st:=Ef) l9 k9c k9
 have b9:=F9.binds (ps:=["web", "steps"]) λ_ _ _ _ _ _ us hl=>by obtain⟨a,b,rfl⟩:=Lw hl;rfl
 have F10:=Ci (st:=Ed) l10 k10c k10
 have b10:=F10.binds (ps:=["web"]) λ_ _ _ _ _ _ us hl=>by obtain⟨a,rfl⟩:=Nh hl;rfl
 have F11:=Ci (st:=Je) l11 k11c k11
 have b11:=F11.binds (ps:=["takes", "bits", "holders", "guard", "seen"]) λ_ _ _ _ _ _ us hl=>by obtain⟨a,b,c,d,e,rfl⟩:=len5 hl;rfl
 have F12:=Ci (st:=CZ) l12 k12c k12
 have b12:=F12.binds (ps:=["web"]) λ_ _ _ _ _ _ us hl=>by obtain⟨a,rfl⟩:=Nh hl;rfl
 have F13:=Ci (st:=HF) l13 k13c k13
 have b13:=F13.binds (ps:=["web", "colours"]) λ_ _ _ _ _ _ us hl=>by obtain⟨a,b,rfl⟩:=Lw hl;rfl
 have F14:=Ci (st:=FM) l14 k14c k14
 have b14:=F14.binds (ps:=["web"]) λ_ _ _ _ _ _ us hl=>by obtain⟨a,rfl⟩:=Nh hl;rfl
 have F15:=Ci (st:=DY) l15 k15c k15
 have b15:=F15.binds (ps:=["web", "colours", "found"]) λ_ _ _ _ _ _ us hl=>by obtain⟨a,b,c,rfl⟩:=aR hl;rfl
 have F16:=Ci (st:=Ee) l16 k16c k16
 have b16:=F16.binds (ps:=["web"]) λ_ _ _ _ _ _ us hl=>by obtain⟨a,rfl⟩:=Nh hl;rfl
 have F17:=Ci (st:=C7) l17 k17c k17
 have b17:=F17.binds (ps:=["web"]) λ_ _ _ _ _ _ us hl=>by obtain⟨a,rfl⟩:=Nh hl;rfl
 have F18:=Ci (st:=EF) l18 k18c k18
 have b18:=F18.binds (ps:=["script", "k"]) λ_ _ _ _ _ _ us hl=>by obtain⟨a,b,rfl⟩:=Lw hl;rfl
 have F19:=Ci (st:=FQ) l19 k19c k19
 have b19:=F19.binds (ps:=["cell", "salt"]) λ_ _ _ _ _ _ us hl=>by obtain⟨a,b,rfl⟩:=Lw hl;rfl
 have F20:=Ci (st:=FN) l20 k20c k20
 have b20:=F20.binds (ps:=["found"]) λ_ _ _ _ _ _ us hl=>by obtain⟨a,rfl⟩:=Nh hl;rfl
 have F21:=Ci (st:=GY) l21 k21c k21
 have b21:=F21.binds (ps:=["script", "start"]) λ_ _ _ _ _ _ us hl=>by obtain⟨a,b,rfl⟩:=Lw hl;rfl
 have F22:=Ci (st:=GX) l22 k22c k22
 have b22:=F22.binds (ps:=["pool", "many", "thick"]) λ_ _ _ _ _ _ us hl=>by obtain⟨a,b,c,rfl⟩:=aR hl;rfl
 have F23:=Ci (st:=Eg) l23 k23c k23
 have b23:=F23.binds (ps:=["ties", "cell"]) λ_ _ _ _ _ _ us hl=>by obtain⟨a,b,rfl⟩:=Lw hl;rfl
 have F24:=Ci (st:=FP) l24 k24c k24
 have b24:=F24.binds (ps:=["ties", "many"]) λ_ _ _ _ _ _ us hl=>by obtain⟨a,b,rfl⟩:=Lw hl;rfl
 have F25:=Ci (st:=C8) l25 k25c k25
 have b25:=F25.binds (ps:=["nears", "clubs"]) λ_ _ _ _ _ _ us hl=>by obtain⟨a,b,rfl⟩:=Lw hl;rfl
 have F26:=Ci (st:=Ei) l26 k26c k26
 have b26:=F26.binds (ps:=["script"]) λ_ _ _ _ _ _ us hl=>by obtain⟨a,rfl⟩:=Nh hl;rfl
 have F27:=Ci (st:=Eh) l27 k27c k27
 have b27:=F27.binds (ps:=["found", "many"]) λ_ _ _ _ _ _ us hl=>by obtain⟨a,b,rfl⟩:=Lw hl;rfl
 have F28:=Ci (st:=FO) l28 k28c k28
 have b28:=F28.binds (ps:=["web", "many", "ties"]) λ_ _ _ _ _ _ us hl=>by obtain⟨a,b,c,rfl⟩:=aR hl;rfl
 have F29:=Ci (st:=RF) l29 k29c k29
 have b29:=F29.binds (ps:=["script"]) λ_ _ _ _ _ _ us hl=>by obtain⟨a,rfl⟩:=Nh hl;rfl
 let W:Wd:=⟨cWeb⟩
 let T:Txt K mg W:={
  d_checked_ties:=⟨f1,_,F1,b1,EN X G a1⟩
  d_near_sets_of:=⟨f2,_,F2,b2,EN X G a2⟩
  d_Web_init:=⟨f3,_,F3,b3⟩
  d_refuse_no_place:=⟨f4,_,F4,b4,EN X G a4⟩
  d_near:=⟨f5,_,F5,b5,EN X G a5⟩
  d_steps_from:=⟨f6,_,F6,b6,EN X G a6⟩
  d_parts_of:=⟨f7,_,F7,b7,EN X G a7⟩
  d_steps_in_parts:=⟨f8,_,F8,b8,EN X G a8⟩
  d_first_clash:=⟨f9,_,F9,b9,EN X G a9⟩
  d_two_colours:=⟨f10,_,F10,b10,EN X G a10⟩
  d_settle:=⟨f11,_,F11,b11,EN X G a11⟩
  d_colours_or_refused:=⟨f12,_,F12,b12,EN X G a12⟩
  d_partners:=⟨f13,_,F13,b13,EN X G a13⟩
  d_most_pairs:=⟨f14,_,F14,b14,EN X G a14⟩
  d_places_reached:=⟨f15,_,F15,b15,EN X G a15⟩
  d_least_cover:=⟨f16,_,F16,b16,EN X G a16⟩
  d_apart_and_clubs:=⟨f17,_,F17,b17,EN X G a17⟩
  d__law_cell_at:=⟨f18,_,F18,b18,EN X G a18⟩
  d__law_mixed:=⟨f19,_,F19,b19,EN X G a19⟩
  d__law_whole:=⟨f20,_,F20,b20,EN X G a20⟩
  d__law_pool:=⟨f21,_,F21,b21,EN X G a21⟩
  d__law_ties:=⟨f22,_,F22,b22,EN X G a22⟩
  d__law_turned:=⟨f23,_,F23,b23,EN X G a23⟩
  d__law_nears:=⟨f24,_,F24,b24,EN X G a24⟩
  d__law_parts_well:=⟨f25,_,F25,b25,EN X G a25⟩
  d__law_halves:=⟨f26,_,F26,b26,EN X G a26⟩
  d__law_is_set:=⟨f27,_,F27,b27,EN X G a27⟩
  d__law_stays:=⟨f28,_,F28,b28,EN X G a28⟩
  d_law:=⟨f29,_,F29,b29,EN X G a29⟩
  c_Web:=⟨⟨pg_Web,hd_Web,po_Web,sa_Web⟩,⟨mk_Web,a3,i3,kc_Web⟩,EN X G a_Web⟩
  n_Web_places:=n_Web_places
  n_Web_ties:=n_Web_ties
  n_Web_near_sets:=n_Web_near_sets
  b_all:=DE X G z_all
  b_any:=DE X G z_any
  b_bool:=DE X G z_bool
  b_enumerate:=DE X G z_enumerate
  b_int:=DE X G z_int
  b_isinstance:=DE X G z_isinstance
  b_len:=DE X G z_len
  b_list:=DE X G z_list
  b_max:=DE X G z_max
  b_min:=DE X G z_min
  b_range:=DE X G z_range
  b_set:=DE X G z_set
  b_sorted:=DE X G z_sorted
  b_sum:=DE X G z_sum
  b_tuple:=DE X G z_tuple
  g_MOST_PLACES:=⟨tk_MOST_PLACES,EN X G g_MOST_PLACES⟩ }
 refine⟨W,T,?_,FX,λs v=>.of_eq rfl⟩;have e:=hfa.symm.trans (EN X G a29);cases e;rfl
def walk{l:OpenLaw}{q:Al}{loose:List Str}{XP:(Str->Option AE)->B7->Prop}{YP:BE->B7->Prop}{d:DefRec}{K:Params->Frag}(hn:l.most=some 63)(hdf:d.params.defaults=[])
  (hY:∀(w:BE) (h:B7),YP w h->(K w.params).In h)
  (F:∀(w:BE) (mg:Str->Option AE) (fa:AK) (h:B7),(K w.params).In h->h.Ns Ah mg->mg d.name=some (.ref fa) ->
   ∃(W:Wd) (T:Txt (K w.params) mg W),fa=T.d_law.f/\W.excs.Nodup/\∀(s:AG) (v:AE),Um s T.d_law.fd ⟨[v],[]⟩ [("script",v)])
  (good:∀(W:Wd),W.excs.Nodup->∀ns:List Int,ns.length<=63->∃S',bE W [.fro (ns.map D.int)] []=.ok (.bl true) S') :
  WalkO q loose XP YP l.row.toRowW d [] (λf vs=>XF f vs):=
 L2.cG (n:=63) (k:=67) (x:="script") (CX:=λw=>CXG l.prog w) (sp:=λw=>ZV (K w.params)) hn (by decide) hdf ⟨rfl,by decide,by decide⟩ hY
  (λw mg fa h KX G hmg=>by
   obtain⟨W,T,e,nd,hb⟩:=F w mg fa h KX G hmg;subst e
   exact⟨T.d_law.fd,hb,λbase _ _=>aT (jZ T) (good W nd)⟩)
  (λ_ _ a ns hl hO hS=>⟨a,ns,rfl,j8 hO hS,hl,λ_=>rfl⟩) (λw H s e s' z=>kF z)
end M
open PySem PySem.W PyProof.Rows
set_option maxRecDepth 100000 in
set_option maxHeartbeats 0 in
theorem PySem.Challenge.cw_guardround_k43_apart_and_clubs_holds : PySem.Challenge.rw_guardround_k43_apart_and_clubs.Holds := by
 w_on;o_law;k_head;(case hw=>w_witness2)
 k_fill
 refine M.walk (l:=HU) rfl rfl (λw h Y=>by first | exact kIn_of Y | exact km_in_of Y) ?F M.good
 case F=>
  intro w mg fa h KX G hmg;refine' M.kJ (l:=HU) (w:=w) KX G hmg ?a_Web ?a1 ?l1 ?k1c ?k1 ?a2 ?l2 ?k2c ?k2 ?a3 ?i3 ?l3 ?k3c ?k3 ?a4 ?l4 ?k4c ?k4 ?a5 ?l5 ?k5c ?k5 ?a6 ?l6 ?k6c ?k6 ?a7 ?l7 ?k7c ?k7 ?a8 ?l8 ?k8c ?k8 ?a9 ?l9 ?k9c ?k9 ?a10 ?l10 ?k10c ?k10 ?a11 ?l11 ?k11c ?k11 ?a12 ?l12 ?k12c ?k12 ?a13 ?l13 ?k13c ?k13 ?a14 ?l14 ?k14c ?k14 ?a15 ?l15 ?k15c ?k15 ?a16 ?l16 ?k16c ?k16 ?a17 ?l17 ?k17c ?k17 ?a18 ?l18 ?k18c ?k18 ?a19 ?l19 ?k19c ?k19 ?a20 ?l20 ?k20c ?k20 ?a21 ?l21 ?k21c ?k21 ?a22 ?l22 ?k22c ?k22 ?a23 ?l23 ?k23c ?k23 ?a24 ?l24 ?k24c ?k24 ?a25 ?l25 ?k25c ?k25 ?a26 ?l26 ?k26c ?k26 ?a27 ?l27 ?k27c ?k27 ?a28 ?l28 ?k28c ?k28 ?a29 ?l29 ?k29c ?k29 ?pg_Web ?hd_Web ?po_Web ?sa_Web ?mk_Web ?kc_Web ?n_Web_places ?n_Web_ties ?n_Web_near_sets ?z_all ?z_any ?z_bool ?z_enumerate ?z_int ?z_isinstance ?z_len ?z_list ?z_max ?z_min ?z_range ?z_set ?z_sorted ?z_sum ?z_tuple ?g_MOST_PLACES
  (case a_Web | a1 | l1 | k1c | k1 | a2 | l2 | k2c | k2 | a3 | i3 | l3 | k3c | k3 | a4 | l4 | k4c | k4 | a5 | l5 | k5c | k5 | a6 | l6 | k6c | k6 | a7 | l7 | k7c | k7 | a8 | l8 | k8c | k8 | a9 | l9 | k9c | k9 | a10 | l10 | k10c | k10 | a11 | l11 | k11c | k11 | a12 | l12 | k12c | k12 | a13 | l13 | k13c | k13 | a14 | l14 | k14c | k14 | a15 | l15 | k15c | k15 | a16 | l16 | k16c | k16 | a17 | l17 | k17c | k17 | a18 | l18 | k18c | k18 | a19 | l19 | k19c | k19 | a20 | l20 | k20c | k20 | a21 | l21 | k21c | k21 | a22 | l22 | k22c | k22 | a23 | l23 | k23c | k23 | a24 | l24 | k24c | k24 | a25 | l25 | k25c | k25 | a26 | l26 | k26c | k26 | a27 | l27 | k27c | k27 | a28 | l28 | k28c | k28 | a29 | l29 | k29c | k29 | pg_Web | hd_Web | po_Web | sa_Web | mk_Web | kc_Web | n_Web_places | n_Web_ties | n_Web_near_sets | z_all | z_any | z_bool | z_enumerate | z_int | z_isinstance | z_len | z_list | z_max | z_min | z_range | z_set | z_sorted | z_sum | z_tuple | g_MOST_PLACES=>k_is)
#print axioms PySem.Challenge.cw_guardround_k43_apart_and_clubs_holds
