import PyProof.Rows.All
import Wide.All
import OpenK.AllK
import Wide.FinOn
import Lean
import PyProof.EqAt
import PyProof.EqKinds
import PyProof.TupleCall
import KE.KTryMore
import PyProof.ExcAttrAll.ValueError
import PyProof.NsDelKeeps
import KE.KDictOf
import KE.KPairComp
import KE.KSortKey
import KE.KLam
import KE.KRevSl
import PyProof.ListRange
import KE.KSortTup
import KE.KDictSum
import KE.KIntText
import PySem.Challenge.RW_tintroads_k21_whole_slopes
open PySem.W renaming Frag->HD,nsIn->MA,fnOf->MK,findIn->MV,keepIn->MZ,mg_none_of->M5,codeIn->M',mg_of->Nu,emptyDict->N_,isFn->OF,instObj->OV,kitAny->O8,kitOne->O9,cellsFrom_some->PQ,kla_obj->P',plainGet->Qn,callWith_K->QQ,mroIn->QR,subIn->QS,hasDictIn->Q9,specialIn->Q_,methodCall_KW->Rm,makesIn->RV,plainGet_of->RW,takesIn->RX,CodeHd->Sr,lookIn->Ss,typeIn->Su,methodObj->SK,plainOver->SL,OpenLaw->TL,isClsIn->TM,takerIn->TN,kla_fn->Uk,callWith_KW->Uz,kitx_dict->U',kitx_list->U_,handedIn->Vv,KeysLit->VE,tabObj->VL
open PySem renaming wpAny_bind->KE,wpAny_pure->Mh,Value->Mj,mainGlobals->Mo,Shared->Mp,Addr->Mz,wpAny->MB,sizeLine->MI,Program->MS,starEach->MU,model->MW,wpAny_newObj_type->M1,PyData->M4,wpAny_callSpecial?_slot->Nb,wpAny_call_entry->Nk,World->No,bootBuiltins->Np,wpAny_setState_of->Ny,Around->ND,bindArgs->NF,wpAny_setField_rec->NG,wpAny_mono->NI,wpAny_field->NM,wpAny_holding->NN,wpAny_dictEntries->NS,FuncData->NW,wpAny_Call_Name_kw->NZ,sysModules->N2,sizeLine_eq->N7,DictEntry->N9,foldedSetIterable->Oa,Stmt->Oe,compareOp->Oj,keywordEach->Ol,Heap->Os,mem_of_lookup->Ow,wpAny_truthy_bool->Oz,wpAny_seqItems->OB,wpAny_setField->OC,wpAny_typeNameOfWhole_itemiter->OG,Expr->OH,wpAny_typeNameOfWhole_keyiter->ON,wpAny_pyIter_list->OS,codeAny_builtin->OW,rawInt->OX,assignEach->O1,wpAny_standAt->O5,firstArgMember->O_,wpAny_typeNameOf_itemiter->Pb,Builtin->Pg,wpAny_passesOwn->Pr,wpAny_typeNameOf_keyiter->Ps,codeAny_mono->Py,intKind->PD,wpAny_attempt->PF,tupleKind->PM,wpAny_isInstance->PN,backToKw->PY,wpAny_pyIter_tuple->P1,wpAny_dictEpoch->Qa,NameKind->Qc,SetTable->Qg,eval->Qh,pyNext->Ql,wpAny_fieldsOf->Qm,binaryOp->Qo,wpAny_askSetting->Qp,codeAny->Qx,backTo->QC,wpAny_comprehension_free->QE,wpAny_rule->QF,Comprehension->QH,cellsFrom->QU,letOwnedTupleGo->QV,wpAny_isOneOf_itemiter->Q1,IsItemIter->Q6,builtinsNs->Rb,sliceBounds->Re,wpAny_pyIter_slot->Rf,Scope->Rn,codeAmong->Ro,wpAny_notOrdered_dict->Rp,Keyword->Rr,wpAny_loadName_local->Rv,wpAny_updateSeq_pair->Rx,attributeBase->RF,wpAny_call->RI,pickOrder->R1,wpAny_execs_nil->R5,wpAny_specialOf->R6,compEnvC->Sf,tupleKind_room_in1->Sg,isSubtype_stop->Sx,newFunctionEnv->Sy,wpAny_binaryOp_repeat_ref->Sz,Paired->SJ,swapsWith->SR,behindInMarks->S5,plainId_quiet->S6,wpAny_handled->S7,wpAny_letGo->S8,wpAny_of_eq->S',wpAny_onRaise->S_,IsPair->Tc,noFill_tuple_add->Tg,wpAny_pyNext_list_item->Tq,call_meetsIn->TV,codeAny_of_tree->TW,pushCells_keeps->TX,size_of_entries->TY,standAt->TZ,wpAny_typeOf->T1,call_meets->T2,setEntries->T3,typeIs_int->T4,wpAny_Name->T5,pyIter->Ul,wpAny_newTuple->Um,wpAny_runValue->Uo,BindsTo->Us,getItem->UB,setNext->UC,wpAny_throw->UD,IsItemIterOut->UH,TriplesOk->UR,assignInOrder->US,rangeSize_one->UT,relayAll->UU,seqItems?->UV,seq_tuple_add->UW,setField->UX,wpAny_newList->UZ,isInstance->Vd,valueAt->Vf,Within->Vp,seqSlot_of->Vw,IsPart->VA,callerA->VG,newExc->VH,IsZip->VJ,call->VO
open PySem.Heap renaming get?_push_of_some->Mg,get?_push_size->Mn,lt_size->Mr,get?_update_self->Nm,SameBut->Nv,size_push->Nw,get?_update_other->N0,ExtBut->RO,IsTuple->Tr,get?_none_of_le->T_,IsList->Uw
open Option.some renaming inj->Mi,injEq->U9
open List renaming mem_singleton->Ml,length_map->Mq,mem_cons_of_mem->Mt,getElem?_eq_some_iff->Mu,getElem?_map->Mw,mem_cons->Mx,getElem?_eq_getElem->MC,mem_append_right->MD,mem_of_getElem?->ME,replicate->MF,size_toArray->MH,length_append->ML,not_mem_nil->MM,map_cons->MN,mem_cons_self->MO,length_take->M3,getElem?_zip_eq_some->M8,mem_append->M_,mem_map->Nc,take_of_length_le->Nf,getLast?_eq_getElem?->NB,length_cons->NC,getElem_of_mem->NO,getElem?_append_right->NT,nodup_cons->N3,all_eq_true->N5,map_append->Og,pairwise_cons->Oh,mem_append_left->Om,range->On,lookup_cons->Oo,append_assoc->Ou,replicate_succ->Ov,getElem?_append_left->OA,getElem_mem->OM,mem_range->OQ,find?_cons->OT,length_drop->OZ,take_length->O0,mem_of_getLast?->Pe,of_mem_zip->Po,map_nil->Pu,mem_flatMap->PH,getElem?_take->PV,mem_filterMap->PX,map_map->P9,flatten_cons->Qb,filterMap_cons->Qs,flatMap_append->Qt,zipWith->QA,append_nil->QL,getElem?_drop->QM,getElem?_replicate->QN,length_nil->QO,zipWith_cons_cons->QY,lookup->Q7,zipWith_nil_left->Ri,getElem?_zipWith_eq_some->Rs,all_cons->RC,sum_cons->RE,length_pos_iff->RP,length_zip->RQ,range_succ->RS,getD_eq_getElem?_getD->R9,length_eraseIdx_of_lt->R',map_replicate->Sc,getElem?_eq_none_iff->Sn,nodup_nil->So,pairwise_iff_getElem->Sq,ext_getElem?->SG,foldl_append->SH,take_sublist->SI,cons_append->Td,getElem?_set_self->Tk,pairwise_lt_range->Tl,eq_replicate_iff->Tv,foldl_cons->Tw,forIn_cons->Tx,getElem?_eq_none->Tz,getElem?_toArray->TC,length_replicate->TD,length_set->TF,length_singleton->TH,sum_nil->TJ,getElem?_of_mem->Ua,getElem?_set_ne->Ub,pairwise_append->Uc,forIn_nil->Uh,length->Uy,any_cons->UI,find?_toArray->UJ,drop_sublist->U3,getElem_drop->U4,getElem_take->U5,length_range->U6,nodup_append->U7,all_nil->Vk,Nodup->VM,foldl->VN
open Nat renaming le_refl->Mm,lt_of_lt_of_le->MG,le_trans->MQ,ne_of_lt->MR,zero_add->MX,add_zero->M7,lt_irrefl->Nl,zero_le->Nq,not_lt->N1,lt_succ_self->N6,le_of_lt->Op,ne_of_gt->OD,pow_le_pow_right->Pf,add_comm->Pw,le_add_right->PJ,le_of_succ_le->Qd,lt_succ_of_lt->Qe,lt_two_pow_self->Qu,succ_mul->Rj,le_succ->RT,pow_le_pow_left->RU,lt_of_le_of_lt->Sd,add_assoc->SW,le_mul_of_pos_right->SX,eq_of_beq_eq_true->TK,add_le_add_right->Ud,mul_le_mul_right->Ue,mul_le_mul->Ui,lt_or_ge->Vl,mul_comm->Vm,pow_succ->Vn,beq->VC
open Option renaming map_eq_some_iff->MJ,isSome_iff_exists->OJ,isSome_some->UL,getD_none->Vu,map_some->VD
open PySem.Value renaming ref->MP,none->NH,type->Ox,isStrOf->O3,int->PL,bool->RH,isInt_shape->SN,str->SO,float->VF
open Rat renaming intCast_mul->MY,le_trans->M0,intCast_sub->Nt,intCast_le_intCast->NL,le_of_mul_le_mul_right->NU,mul_le_mul_of_nonneg_right->NX,div_mul_cancel->O2,intCast_add->Pq,le_of_lt->Px,div_def->PC,le_refl->P_,intCast_nonneg->QT,den_intCast->RY,mul_lt_mul_of_pos_right->RZ,num_intCast->R0,mul_nonneg->Sv,num_nonneg->Sw,intCast_neg->TQ,inv_pos->UA,mul_div_cancel->UO
open Int renaming toNat_natCast->M6,mul_ne_zero->Nz,gcd->NV,fdiv_eq_ediv_of_nonneg->Oq,emod_lt_of_pos->OI,mul_nonneg->O7,emod_nonneg->Pj,mul_fdiv_cancel_left->Pk,eq_ofNat_of_zero_le->Pz,gcd_pos_of_ne_zero_right->PU,toNat->P8,mul_comm->Qz,mul_assoc->QK,le_of_lt->R_,le_trans->Sa,zero_add->Sb,eq_of_mul_eq_mul_left->Sj,natAbs_mul->Sk,mul_left_comm->SE,ediv_nonneg->Ts,natAbs_dvd_natAbs->Tt,zero_sub->Tu,le_refl->Ux,gcd_zero_right->UG,gcd_comm->Vj,mul_neg->Vz
open PySem.Heap.SameBut renaming update->Ng,refl->Q5
open Bool renaming and_eq_true->Nh,false_ne_true->Nj,false_eq_true->NE,beq_eq_decide_eq->P3,false_and->Qi,and_true->Ry,true_and->SS,and_false->Ug
open PySem.Builtin.SmallTypes renaming nextOf->Ni,ownedTupleIsFree->N8,ownedTupleHandOut->Qk
open PySem.SetTable renaming below->Nn,grown->PP,insertAt->SM,advance->Vx
open PySem.PassesOwn renaming never->Nr
open PySem.Obj renaming data_mapFields->NA,isFreed_of_fields->OE,mapSeq->Pp,cls_mapFields->Qf,data_mapDictKeys->Uf,mapFields->UK,putSet->U8
open Array renaming length_toList->NJ,getElem_toList->NK,getElem?_toList->P2,getElem?_eq_none->Th,toArray_toList->T6,toList_append->Ur,getD->U0,toList_push->U1
open PySem.NameKind renaming cell->NP,free->NQ
open PySem.PyData renaming int->NR,bool->Qv,eqv->Q8,eqvAll->UN
open PySem.Str renaming ofString->NY
open PySem.F renaming slot_dict_itemiterator_next->N4,slot_dict_keyiterator_next->Oc,slot_list_append->Of,type_list_append->OK,plainAttrs_list->OP,slot_tuple_iterator_next->OY,called_set->P6,args_tuple_add_2->QB,slot_int_rmul->QJ,entry_tuple_add->QP,slot_tuple_add->QZ,slot_tuple_mul->Q0,args_dict_itemiterator_next_1->Q2,args_dict_keyiterator_next_1->Rg,entry_dict_itemiterator_next->Rh,slot_dict_get->Rl,entry_dict_keyiterator_next->Rq,args_tuple_iterator_next_1->RA,entry_tuple_iterator_next->RK,slot_zip_next->RL,plain_list_iadd->SD,args_dict_get_3->SY,plainAttrs_dict->SZ,slot_dict_items->S0,slot_tuple_rmul->S4,slot_dict_iter->Ta,slot_dict_items_iter->Tj,entry_dict_get->Tn,args_int_rmul_2->T9,entry_int_rmul->Uu,slot_int_index->Uv,fills_int_mul->UF
open PySem.Builtin.Dict_items renaming ownsTuple->Ob,ownedTupleFields->Qq,ownedTupleIsFree->Qr,pairFromOwner->QW,newIterator->Vh,dictOf->VI
open PyProof.Rows renaming callWith_type1->Oi,slot_tuple_getitem->OR,IntsAre->Pm,seqObj->QD,callWith_builtin1->Rk,assignInOrder_cons->Se,envOfC->Tf,subscriptTail_builtinR->To,AllBare->Uq,subscriptTail->UY,Subscript_->Vb,sortedHeap->Ve
open False renaming elim->Ot
open PySem.Around renaming under_plainId->OO,under->Vg
open Ne renaming symm->OU
open PySem.Builtin.Slice renaming slicePlaces->O6,sliceAdjust->Qj,sliceApplied->R7
open PySem.Builtin.Tuple renaming tupleExact->Ph
open PySem.Builtin.Dict renaming showsAll->P4,entriesForEmpty->Rz,updateFrom->SU,mergeDict->Ti,quietEq->T7
open PySem.Builtin.List renaming listExtendWith->P5,listTooLong->Qy,listLengthHint->RJ,listSameRef->SB
open ForInStep renaming yield->P7
open PySem.Shared renaming heap->Qw,TypeIs->UQ
open PySem.Calls renaming spliced_cons->QG,callWith_builtin->QX,Name_function_global->R8,call_function_entry->Si,spliced_nil->SC,evalArgs_plain->T8
open PyProof.Rows.F renaming plain_set_update_loop->QI,entry_set_update_loop->SV
open PySem.SetTable.below renaming go->Ra
open Sum renaming inl->Rt,inr->Vc
open List.Perm renaming refl->Sl
open PySem.Builtin.Frozenset renaming sizeOf->SA
open List.Pairwise renaming nil->SF
open PySem.SeqAt renaming shaped->TU
open Or renaming inr->Uj,inl->Vo
open PySem.Builtin.Int renaming intBits->Ut
open PySem.Code renaming quiet_builtin->UE,isFrame->Vi
open PySem.Paired renaming length->UM
open PySem.ScopeKind renaming function->UP
open PySem.Heap.IsTuple renaming push->U2
open PySem.SetTable.probe renaming go->Va
open PySem.pickOrder renaming go->Vq
open PySem.Heap.IsList renaming push->Vr
open PySem.IntMulOk renaming of_bits->Vs,of_left->Vt
open And renaming intro->Vy
open PyProof.Rows.IsTup renaming new->VB
abbrev Ms:=@decide_eq_true
abbrev MT:=@if_neg
abbrev Na:=@decide_eq_false
abbrev Nd:=@if_pos
abbrev Nx:=@of_decide_eq_true
abbrev Od:=@or_false
abbrev Oy:=@beq_eq_false_iff_ne
abbrev OL:=@beq_iff_eq
abbrev O4:=@if_false
abbrev PR:=@if_true
abbrev PZ:=@congrArg
abbrev P0:=@of_decide_eq_false
abbrev Rc:=@decide_eq_true_eq
abbrev Ru:=@beq_self_eq_true
abbrev SQ:=@bne_self_eq_false
abbrev Te:=@decide_eq_decide
set_option autoImplicit true
set_option relaxedAutoImplicit true
set_option Elab.async false
set_option linter.all false
set_option maxRecDepth 100000
namespace L2
open PySem PySem.Spec PyProof.Rows
abbrev gk:=Sum Int Str
def u7:gk->Mj->Bool
 |.inl k,v=>Value.isInt k v
 |.inr x,v=>O3 x v
def Li (w:No):gk->Int
 |.inl k=>hashInt k
 |.inr x=>hashStr w x
theorem cY:∀ {k:gk}{v:Mj},u7 k v=true->(∃ i t,k=Rt i/\v=PL i t)\/(∃ x t,k=Vc x/\v=SO x t)
 |.inl i,v,h=>by
  obtain⟨t,e⟩:=SN (k:=i) (v:=v) h;exact .inl ⟨i,t,rfl,e⟩
 |.inr x,v,h=>by
  obtain⟨t,e⟩:=Value.isStrOf_shape (x:=x) (v:=v) h;exact .inr ⟨x,t,rfl,e⟩
theorem BZ (i:Int)(t:Tok):u7 (.inl i) (.int i t)=true:=by simp[u7,Value.isInt]
theorem B3 (x:Str)(t:Tok):u7 (.inr x) (.str x t)=true:=by simp[u7,O3]
theorem Hy (a b:Int):decide ((Rt a:gk)=Rt b)=(a==b):=by
 by_cases e:a=b
 ·subst e;simp
 ·have h:¬ (Rt a:gk)=Rt b:=λq=>e (Sum.inl.inj q)
  rw[Na h];exact(Oy.mpr e).symm
theorem Ig (a b:Str):decide ((Vc a:gk)=Vc b)=decide (a=b):=by
 by_cases e:a=b
 ·subst e;simp
 ·have h:¬ (Vc a:gk)=Vc b:=λq=>e (Sum.inr.inj q)
  rw[Na h,Na e]
theorem IN (a:Int)(b:Str):decide ((Rt a:gk)=Vc b)=false:=Na (λq=>nomatch q)
theorem Ij (a:Str)(b:Int):decide ((Vc a:gk)=Rt b)=false:=Na (λq=>nomatch q)
def bK (prog:MS)(w:No):PySem.KeyKind prog w gk where
 is:=u7
 hash:=Li w
 inj:=λv a b ha hb=>by
  rcases cY ha with ⟨i,t,rfl,rfl⟩|⟨x,t,rfl,rfl⟩
  ·rcases cY hb with ⟨j,u,rfl,e⟩|⟨y,u,rfl,e⟩
   ·injection e with e1 _;rw[e1]
   ·exact nomatch e
  ·rcases cY hb with ⟨j,u,rfl,e⟩|⟨y,u,rfl,e⟩
   ·exact nomatch e
   ·injection e with e1 _;rw[e1]
 byValue:=λk v h=>by
  rcases cY h with ⟨i,t,rfl,rfl⟩|⟨x,t,rfl,rfl⟩<;>rfl
 pyHash:=λhv h=>by
  rcases cY hv with ⟨i,t,rfl,rfl⟩|⟨x,t,rfl,rfl⟩
  ·exact wpAny_pyHash_int h
  ·exact wpAny_pyHash_str h
 eqBool:=λhu hv h=>by
  rcases cY hu with ⟨i,t,rfl,rfl⟩|⟨x,t,rfl,rfl⟩
  ·rcases cY hv with ⟨j,u,rfl,rfl⟩|⟨y,u,rfl,rfl⟩
   ·rw[Hy] at h;exact wpAny_eqBool_int h
   ·rw[IN] at h;exact SeqAt.EqAt.int_str i t y u _ _ _ _ h
  ·rcases cY hv with ⟨j,u,rfl,rfl⟩|⟨y,u,rfl,rfl⟩
   ·rw[Ij] at h;exact SeqAt.EqAt.str_int x t j u _ _ _ _ h
   ·rw[Ig] at h;exact wpAny_eqBool_str h
 «strs»:=λk x t v h=>by
  rcases cY h with ⟨i,u,rfl,e⟩|⟨y,u,rfl,e⟩
  ·exact nomatch e
  ·injection e with e1 _
   subst e1;cases v<;>rfl
theorem yn (prog:MS)(w:No)(i:Int)(t:Tok):(bK prog w).is (.inl i) (.int i t)=true:=BZ i t
theorem xL (prog:MS)(w:No)(x:Str)(t:Tok):(bK prog w).is (.inr x) (.str x t)=true:=B3 x t
inductive V where
 |non|bl (b:Bool)|int (i:Int)|str (x:Str)|byt (b:Array UInt8)|flt (b:UInt64)|ref (a:Mz)|ty (n:String)
 deriving DecidableEq
def bv:V->Mj->Prop
 |.non,u=>u=NH
 |.bl b,u=>u=RH b
 |.int i,u=>∃ t,u=PL i t
 |.str x,u=>∃ t,u=SO x t
 |.byt b,u=>∃ t,u=Value.bytes b t
 |.flt b,u=>∃ t,u=VF b t
 |.ref a,u=>u=MP a
 |.ty n,u=>u=Ox n
abbrev aM:List V->List Mj->Prop:=SJ bv
theorem aM.length (r:aM xs us):xs.length=us.length:=UM r
theorem aM.get:∀ {xs:List V}{us:List Mj}{i:Nat}{x:V},aM xs us->xs[i]?=some x->∃ u,us[i]?=some u/\bv x u
 |_,_,_,_,.nil,e=>by simp at e
 |_,_,0,_,.cons r _,e=>by simp at e;subst e;exact⟨_,rfl,r⟩
 |_,_,i+1,x,.cons _ t,e=>by
  obtain⟨u,h1,h2⟩:=aM.get (i:=i) (x:=x) t (by simpa using e);exact⟨u,by simpa using h1,h2⟩
theorem aM.set (r:bv x u):∀ {xs:List V}{us:List Mj} (i:Nat),aM xs us->aM (xs.set i x) (us.set i u)
 |_,_,_,.nil=>.nil
 |_,_,0,.cons _ t=>.cons r t
 |_,_,i+1,.cons q t=>.cons q (aM.set r i t)
theorem aM.append:∀ {xs ys:List V}{us ws:List Mj},aM xs us->aM ys ws->aM (xs++ys) (us++ws)
 |_,_,_,_,.nil,s=>s
 |_,_,_,_,.cons r t,s=>.cons r (aM.append t s)
theorem aM.take:∀ {xs:List V}{us:List Mj} (n:Nat),aM xs us->aM (xs.take n) (us.take n)
 |_,_,0,_=>.nil
 |_,_,_+1,.nil=>.nil
 |_,_,n+1,.cons r t=>.cons r (aM.take n t)
theorem aM.drop:∀ {xs:List V}{us:List Mj} (n:Nat),aM xs us->aM (xs.drop n) (us.drop n)
 |_,_,0,r=>r
 |_,_,_+1,.nil=>.nil
 |_,_,n+1,.cons _ t=>aM.drop n t
def ku:Option V->Option Mj->Prop
 |some v,some u=>bv v u
 |none,none=>True
 |_,_=>False
def KV {κ:Type}:List (κ×V)->List (κ×Mj)->Prop:=SJ λ(p:κ×V) (q:κ×Mj)=>p.1=q.1/\bv p.2 q.2
def kV:gk->V
 |.inl i=>.int i
 |.inr x=>.str x
inductive HO where
  |lst (xs:List V)
  |tup (xs:List V)
  |dK (kvs:List (gk×V))|dT (kvs:List (List gk×V))
  |set (S:Int->Bool) (n:Nat)
  |ins (C dx:Mz) (fs:List (Str×V))
  |own (x:Mz)
  |xd (fs:List (Str×V))
  |met (f x:Mz)
  |rng (lo hi:Int)
  |frz (o:Obj) (u:HO)
  |tbl (ps:Array Mj)
  |ext (φ:Os->Prop)
abbrev Hp:=Mz->Option HO
def upd (H:Hp)(a:Mz)(o:HO):Hp:=λb=>if b=a then some o else H b
theorem ae:upd H a o a=some o:=by unfold upd;rw[Nd rfl]
theorem aq (h:b≠a):upd H a o b=H b:=by unfold upd;rw[MT h]
theorem Fz:upd (upd H a o) a u=upd H a u:=by
 funext b;unfold upd;split<;>rfl
theorem GZ {H:Hp}{a b:Mz}{o u:HO}(h:H a=some o)(h':H b=some u)(d:o≠u):a≠b:=by
 intro e;subst e;rw[h] at h';exact d (Mi h')
theorem aL {H:Hp}{a b:Mz}{o:HO}(h:H a=some o)(h':H b=none):a≠b:=by
 intro e;subst e;rw[h] at h';cases h'
section
variable (P:MS)(w:No)
def bT (H:Hp)(h:Os)(a:Mz):HO->Prop
 |.lst xs=>xs.length<=MI/\∃ (its:List Mj) (n:Nat),aM xs its/\h.get? a=some { cls:=.type "list",data:=.seq its.toArray n }
 |.tup xs=>xs.length<=MI/\∃ its:List Mj,aM xs its/\IsTup h a its.toArray
 |.dK kvs=>kvs.length<=MI/\(a==N2)=false/\∃ vs,KV kvs vs/\h.DictOf (bK P w) a vs
 | .dT kvs=>kvs.length <= MI/\(a == N2)=false/\∃ xs:List (List gk × Mz × Mj),
   SJ (λ(p:List gk×V) (q:List gk×Mz×Mj)=>p.1=q.1/\H q.2.1=some (.tup (p.1.map kV))/\bv p.2 q.2.2) kvs xs /\
   ∃ o es ep,h.get? a=some o/\o.ExactDict/\o.data=.dict es ep/\es.toList=xs.map (entryOfKey (PM (bK P w)))/\(xs.map (·.1)).Nodup
 |.set S n=>h.SetOf (PD P w) a S n
 | .ins C dx fs=>H dx=some (.own a)/\fs.length <= 1000/\dx ≠ a/\h.get? a=some (OV C dx) /\
   ∃ mA,h.Ns1 dx mA/\(∀ f,ku (fs.lookup f) (mA f))/\Vp mA (fs.map (·.1))
 |.own _=>∃ o,h.get? a=some o
 |.xd fs=>∃ mA,h.Ns1 a mA/\∀ f,ku (fs.lookup f) (mA f)
 |.rng lo hi=>∃ t u v,h.get? a=some { cls:=.type "range",data:=.fields #[.int lo t,.int hi u,.int 1 v] }
 |.frz o u=>h.get? a=some o/\bT H h a u
 |.tbl qs=>∃ ps:Array Mj,h.get? a=some { cls:=.none,data:=.fields ps }/\UR ps.toList/\∃ (q:Str) (t:Nat),qs[0]?=some (.str q t)/\∀ pos cv,Ro pos ps.toList=some cv->∃ c o vs t',cv=.ref c/\H c=some (.own a)/\h.get? c=some o/\o.data=.fields vs/\vs[1]?=some (.str q t')
 |.met f x=>h.get? a=some (SK (.ref f) (.ref x))
 |.ext φ=>φ h/\(∃ o,h.get? a=some o)/\∀ h1 h2:Os,φ h1->(∀ o,h1.get? a=some o->h2.get? a=some o)->φ h2
def nk (H:Hp)(h:Os):Prop:=∀ a o,H a=some o->bT P w H h a o
end
section
variable {P:MS}{w:No}{H H':Hp}{h h':Os}{a:Mz}{o:HO}
theorem bT.lt (x:bT P w H h a o):a<h.objs.size:=by
 cases o with
 |lst xs=>obtain⟨_,_,_,_,e⟩:=x;exact Mr e
 |tup xs=>obtain⟨_,_,_,p⟩:=x;exact p.lt
 |dK kvs=>obtain⟨_,_,_,_,o,_,_,e,_⟩:=x;exact Mr e
 |dT kvs=>obtain⟨_,_,_,_,o,_,_,e,_⟩:=x;exact Mr e
 |set S n=>obtain⟨o,_,_,_,e,_⟩:=x;exact Mr e
 |ins C dx fs=>obtain⟨_,_,_,e,_⟩:=x;exact Mr e
 |own y=>obtain⟨_,e⟩:=x;exact Mr e
 |xd fs=>obtain⟨_,⟨_,_,_,e,_⟩,_⟩:=x;exact Mr e
 |rng lo hi=>obtain⟨_,_,_,e⟩:=x;exact Mr e
 |frz ob u=>obtain⟨e,_⟩:=x;exact Mr e
 |tbl qs=>obtain⟨_,e,_⟩:=x;exact Mr e
 |met f y=>exact Mr (show h.get? a=some _ from x)
 |ext φ=>obtain⟨_,⟨_,e⟩,_⟩:=x;exact Mr e
theorem Paired.mapP:∀ {l₁:List α}{l₂:List β},SJ F l₁ l₂->(∀ a b,F a b->G a b)->SJ G l₁ l₂
 |_,_,.nil,_=>.nil
 |_,_,.cons r t,f=>.cons (f _ _ r) (Paired.mapP t f)
theorem bT.stay (x:bT P w H h a o) (k:∀ b u,(b=a\/H b=some (.own a))->h.get? b=some u->h'.get? b=some u)
  (ho:∀ b,H b=some (.own a)->H' b=some (.own a))(ht:∀ b xs,H b=some (.tup xs)->H' b=some (.tup xs)):bT P w H' h' a o:=by
 induction o with
 |lst xs=>obtain⟨z,its,n,r,e⟩:=x;exact⟨z,its,n,r,k _ _ (.inl rfl) e⟩
 |tup xs=>obtain⟨z,its,r,ob,e,c⟩:=x;exact⟨z,its,r,ob,k _ _ (.inl rfl) e,c⟩
 |dK kvs=>obtain⟨z,y,vs,r,ob,es,ep,e,c⟩:=x;exact⟨z,y,vs,r,ob,es,ep,k _ _ (.inl rfl) e,c⟩
 |dT kvs=>
  obtain⟨z,y,xs,r,ob,es,ep,e,c⟩:=x;exact⟨z,y,xs,Paired.mapP r λp q z=>⟨z.1,ht _ _ z.2.1,z.2.2⟩,ob,es,ep,k _ _ (.inl rfl) e,c⟩
 |set S n=>obtain⟨ob,es,ep,t,e,c⟩:=x;exact⟨ob,es,ep,t,k _ _ (.inl rfl) e,c⟩
 |ins C dx fs=>
  obtain⟨d,z,ne,e,mA,⟨od,es,ep,e2,c⟩,r⟩:=x;exact⟨ho _ d,z,ne,k _ _ (.inl rfl) e,mA,⟨od,es,ep,k _ _ (.inr d) e2,c⟩,r⟩
 |own y=>obtain⟨ob,e⟩:=x;exact⟨ob,k _ _ (.inl rfl) e⟩
 |xd fs=>obtain⟨mA,⟨od,es,ep,e,c⟩,r⟩:=x;exact⟨mA,⟨od,es,ep,k _ _ (.inl rfl) e,c⟩,r⟩
 |rng lo hi=>obtain⟨t,u,v,e⟩:=x;exact⟨t,u,v,k _ _ (.inl rfl) e⟩
 |frz ob u ih=>obtain⟨e,q⟩:=x;exact⟨k _ _ (.inl rfl) e,ih q⟩
 |tbl qs=>
  obtain⟨ps,e,tr,q,tq,e0,f⟩:=x;refine⟨ps,k _ _ (.inl rfl) e,tr,q,tq,e0,λpos cv z=>?_⟩;obtain⟨c,oc,vs,tc,z1,z2,z3,z4⟩:=f pos cv z;exact⟨c,oc,vs,tc,z1,ho _ z2,k _ _ (.inr z2) z3,z4⟩
 |met f y=>
  have e:h.get? a=some (SK (.ref f) (.ref y)):=x;show h'.get? a=some (SK (.ref f) (.ref y));exact k a _ (.inl rfl) e
 |ext φ=>obtain⟨p,⟨o,e⟩,st⟩:=x;exact⟨st _ _ p λo q=>k _ _ (.inl rfl) q,⟨o,k _ _ (.inl rfl) e⟩,st⟩
theorem nk.lt (x:nk P w H h)(e:H a=some o):a<h.objs.size:=(x a o e).lt
theorem nk.fresh (x:nk P w H h)(e:h.objs.size<=a):H a=none:=by
 cases q:H a with
 |none=>rfl
 |some u=>exact absurd (MG (x.lt q) e) (Nl _)
theorem nk.kept (x:nk P w H h)(k:∀ b u,h.get? b=some u->h'.get? b=some u):nk P w H h':=λa o e=>
 (x a o e).stay (λb u _ q=>k b u q) (λ_ q=>q) λ_ _ q=>q
theorem nk.laid (x:nk P w H h)(k:∀ b u,h.get? b=some u->h'.get? b=some u)(hp:h.objs.size<=a)(new:bT P w (upd H a o) h' a o):nk P w (upd H a o) h':=λb u e=>by
 have hn:=x.fresh hp
 by_cases hb:b=a
 ·subst hb;rw[ae] at e;cases e;exact new
 ·rw[aq hb] at e;exact(x b u e).stay (λc v _ q=>k c v q) (λc q=>by rw[aq (aL q hn)];exact q) λc xs q=>by rw[aq (aL q hn)];exact q
end
def Rd (H:Hp)(a:Mz)(u:HO):Prop:=H a=some u\/∃ o,H a=some (.frz o u)
theorem Rd.ok (r:Rd H a u)(x:nk P w H h):bT P w H h a u:=by
 rcases r with r|⟨o,r⟩
 ·exact x a u r
 ·obtain⟨_,q⟩:=x a _ r;exact q
def JP:Option HO->Prop
 |some (.lst _)=>True
 |some (.dK _)=>True
 |some (.dT _)=>True
 |some (.set _ _)=>True
 |some (.ins _ _ _)=>True
 |some (.ext _)=>True
 |_=>False
section
variable {P:MS}{w:No}{H:Hp}{h h':Os}{x e:Mz}{o':HO}
theorem nk.write (ok:nk P w H h) (mu:JP (H x)) (he:e=x\/H e=some (.own x)) (k:∀ b u,b ≠ e->h.get? b=some u->h'.get? b=some u) (heo:∃ u,h'.get? e=some u)
  (new:bT P w (upd H x o') h' x o'):nk P w (upd H x o') h':=λb u q=>by
 have nown:∀ c y,H c=some (.own y)->c≠x:=λc y r z=>by subst z;rw[r] at mu;exact mu
 have ntup:∀ c xs,H c=some (.tup xs)->c≠x:=λc xs r z=>by subst z;rw[r] at mu;exact mu
 by_cases hb:b=x
 ·subst hb;rw[ae] at q;cases q;exact new
 ·rw[aq hb] at q
  by_cases hbe:b=e
  ·have q':H b=some (.own x):=by
    rcases he with z|z
    ·exact absurd (hbe.trans z) hb
    ·rw[hbe];exact z
   rw[q] at q';cases q';obtain⟨v,hv⟩:=heo;exact⟨v,by rw[hbe];exact hv⟩
  ·refine(ok b u q).stay (λc v hc r=>k c v ?_ r) (λc r=>by rw[aq (nown c b r)];exact r) λc xs r=>by rw[aq (ntup c xs r)];exact r
   rcases hc with rfl|hc
   ·exact hbe
   ·rintro rfl;rcases he with z|z
    ·exact nown c b hc z
    ·rw[hc] at z;cases z;exact hb rfl
end
structure Un (fs ex:List Mz)(H H':Hp)(h h':Os):Prop where
 keep:∀ b o,h.get? b=some o->H b=none->b∉fs->b∉ex->h'.get? b=some o
 slot:∀ b o,h.get? b=some o->H b=none->b∈fs->b∉ex->∃ sl,h'.get? b=some { o with slots:=sl }
 free:∀ b o,h.get? b=some o->H b=none->b∉ex->H' b=none
 there:∀ b o,h.get? b=some o->b∉ex->∃ o',h'.get? b=some o'
 tups:∀ b xs,H b=some (.tup xs)->H' b=some (.tup xs)
 frzs:∀ b o u,H b=some (.frz o u)->H' b=some (.frz o u)
 tbls:∀ b ps,H b=some (.tbl ps)->∃ more,H' b=some (.tbl (ps++more))
section
variable {fs fs' ex ex':List Mz}{H H1 H2:Hp}{h h1 h2 h':Os}{a x e:Mz}{o:HO}
theorem Un.any (u:Un fs ex H H1 h h1)(q:h.get? b=some ob)(n:H b=none)(hx:b∉ex):∃ sl,h1.get? b=some { ob with slots:=sl }:=by
 by_cases hb:b∈fs
 ·exact u.slot b ob q n hb hx
 ·exact⟨ob.slots,u.keep b ob q n hb hx⟩
theorem Un.kept (k:∀ b u,h.get? b=some u->h'.get? b=some u):Un fs ex H H h h':=
 ⟨λb ob q _ _ _=>k b ob q,λb ob q _ _ _=>⟨ob.slots,k b ob q⟩,λ_ _ _ n _=>n,λb ob q _=>⟨ob,k b ob q⟩,λ_ _ q=>q,λ_ _ _ q=>q,λ_ ps q=>⟨#[],by rw[q];simp⟩⟩
theorem Un.refl:Un fs ex H H h h:=Un.kept λ_ _ q=>q
theorem Un.laid (k:∀ b u,h.get? b=some u->h'.get? b=some u)(hp:h.objs.size<=a)(hn:H a=none):Un fs ex H (upd H a o) h h' where
 keep:=λb u q _ _ _=>k b u q
 slot:=λb u q _ _ _=>⟨u.slots,k b u q⟩
 free:=λb u q n _=>by rw[aq (MR (MG (Mr q) hp))];exact n
 there:=λb u q _=>⟨u,k b u q⟩
 tups:=λb xs q=>by rw[aq (aL q hn)];exact q
 frzs:=λb u xs q=>by rw[aq (aL q hn)];exact q
 tbls:=λb ps q=>⟨#[],by rw[aq (aL q hn),q];simp⟩
theorem Un.write (mu:JP (H x))(he:e=x\/H e=some (.own x))(k:∀ b u,b≠e->h.get? b=some u->h'.get? b=some u)(heo:∃ u,h'.get? e=some u):Un fs ex H (upd H x o) h h':=by
 have hx:∀ b,H b=none->b≠x:=λb n z=>by subst z;rw[n] at mu;exact mu
 have hb:∀ b,H b=none->b≠e:=λb n z=>by
  subst z;rcases he with r|r
  ·exact hx b n r
  ·rw[n] at r;cases r
 have hm:∀ b u,H b=some u->¬ JP (some u)->b≠x:=λb u q nm z=>by subst z;rw[q] at mu;exact nm mu
 refine⟨λb u q n _ _=>k b u (hb b n) q,λb u q n _ _=>⟨u.slots,k b u (hb b n) q⟩,λb u q n _=>by rw[aq (hx b n)];exact n,λb u q _=>?_,
  λb xs q=>by rw[aq (hm b _ q λz=>z)];exact q,λb u xs q=>by rw[aq (hm b _ q λz=>z)];exact q,λb ps q=>⟨#[],by rw[aq (hm b _ q λz=>z),q];simp⟩⟩
 by_cases hbe:b=e
 ·subst hbe;exact heo
 ·exact⟨u,k b u hbe q⟩
end
def KI (h:Os)(H:Hp):List Mz:=(On h.objs.size).filter λa=>(H a).isSome
def yH (h:Os)(H:Hp):Os:=PySem.W.hideAll h (KI h H)
theorem Cf (h:Os)(H:Hp):(yH h H).objs.size=h.objs.size:=PySem.W.hideAll_size _ _
theorem rV (e:h.get? b=some o)(n:H b=none):(yH h H).get? b=some o:=
 PySem.W.hideAll_get _ e λhm=>by
  have q:(H b).isSome=true:=(List.mem_filter.mp hm).2;rw[n] at q;simp at q
theorem F7 (e:(yH h H).get? b=some o):h.get? b=some o/\H b=none:=by
 have e':h.get? b=some o:=PySem.W.of_hideAll (KI h H) e;refine⟨e',?_⟩;cases q:H b with
 |none=>rfl
 |some x=>
  have hm:b∈KI h H:=List.mem_filter.mpr ⟨OQ.mpr (Mr e'),by simp[q]⟩;have z:(yH h H).get? b=none:=PySem.W.hideAll_none (KI h H) hm;rw[z] at e;cases e
def lV (g h:Os)(L:Mz):List (Mz×Obj):=(On h.objs.size).filterMap λa=>if a=L\/(g.get? a).isSome=true then none else(h.get? a).map λo=>(a,o)
theorem yI (h1:a≠L)(h2:g.get? a=none)(h3:h.get? a=some o):(a,o)∈lV g h L:=
 PX.mpr ⟨a,OQ.mpr (Mr h3),by simp[h1,h2,h3]⟩
theorem sP (hp:p∈lV g h L):p.1≠L/\g.get? p.1=none/\h.get? p.1=some p.2:=by
 obtain⟨b,_,e⟩:=PX.mp hp
 split at e
 ·cases e
 ·rename_i hn
  cases q:h.get? b with
  |none=>rw[q] at e;simp at e
  |some u=>
   rw[q] at e;simp only[VD,U9] at e;subst e;refine⟨λz=>hn (.inl z),?_,q⟩;show g.get? b=none;cases r:g.get? b with
   |none=>rfl
   |some v=>exact(hn (.inr (by simp[r]))).elim
def eO (g h:Os)(L d:Mz):List (Mz×Obj):=(lV g h L).filter λp=>decide (p.1≠d)
theorem El:News g L h (lV g h L):=λp hp=>let ⟨a,b,c⟩:=sP hp;⟨c,a,b⟩
structure Mod (K:HD)(mg:Str->Option Mj)(base:Os):Prop where
 kin:K.In base
 glob:base.Ns Mo mg
 blt:∃ mb,base.Ns Rb mb/\∀ x:Str,x≠"__name__"->mb x=Np x
 nolimit:base.NoLimit
 bm:∃ bm o,mg "__builtins__"=some (.ref bm)/\bm≠Rb/\base.get? bm=some o/\o.cls=.type "module"/\o.dict=some Rb/\o.data=.plain
structure Cx where
 prog:MS
 w:No
 K:HD
 mg:Str->Option Mj
 base:Os
 A:ND
 N:List Str
 s₀:Mp
 H₀:Hp
 env:Env
 outer:List Env
 stack:List Env
 ex:List Mz
 fn:Str->Bool
 calm:Bool
 pn:List (Mz×Obj)
 xe:Mj->Mp->Prop
def zi (l:List Env):List Mz:=l.filterMap (·.frame)
abbrev Cx.fs (X:Cx):List Mz:=zi X.outer
def Jl (sc:Rn)(x:Str):Prop:=sc.names.lookup x=some .local\/sc.names.lookup x=some .cell\/sc.names.lookup x=some .free
def Jc (sc:Rn)(x:Str):Prop:=sc.names.lookup x=some .local\/sc.names.lookup x=some .cell
def Ld (env:Env)(h:Os)(m:Str->Option Mj)(x:Str)(u:Mj):Prop:=
 (env.kindOf x=some .local/\m x=some u)\/((env.kindOf x=some .cell\/env.kindOf x=some .free)/\∃ c,env.cells.lookup x=some c/\h.IsCell c (some u))
structure Cx.Ok (X:Cx):Prop where
 mod:Mod X.K X.mg X.base
 kind:X.env.scope.kind=.function
 glob:X.env.globals=Mo
 blt:X.env.builtins=Rb
 above:X.s₀.heap.objs.size<=X.env.locals
 inj:∀ x y c,X.env.cells.lookup x=some c->X.env.cells.lookup y=some c->x=y
 has:∀ x,(X.env.kindOf x=some .cell\/X.env.kindOf x=some .free)->∃ c,X.env.cells.lookup x=some c
 cab:∀ x c,X.fn x=true->X.env.cells.lookup x=some c->X.s₀.heap.objs.size<=c
 hd:X.calm=true->X.A.handled=none
 frames:X.A.frames=some X.stack
 stk:X.stack=X.outer\/(X.stack=X.env::X.outer/\X.env.frame=some X.env.locals)
 exf:∀ b∈X.ex,b≠X.env.locals/\∀ x c,X.env.cells.lookup x=some c->c≠b
 bs:∀ b o,X.base.get? b=some o->X.s₀.heap.get? b=some o/\X.H₀ b=none
 bsz:X.base.objs.size<=X.s₀.heap.objs.size
 noex:∀ b o,X.base.get? b=some o->b∉X.ex
 exfs:∀ b∈X.ex,b∉X.fs
 funs:X.s₀.heap.FunFrames X.base X.outer
 frf:∀ b∈X.fs,X.H₀ b=none
structure aG (X:Cx)(pins:List (Mz×Obj))(σ:List (Option V))(H:Hp)(s:Mp):Prop where
 ok:X.Ok
 os:s.os=X.s₀.os
 bare:Uq s.gens
 base:Un X.fs X.ex X.H₀ H X.s₀.heap s.heap
 loc:∃ m,s.heap.Ns X.env.locals m/\∀ (i:Nat) (x:Str) (v:V),X.N[i]?=some x->σ[i]?=some (some v)->Jl X.env.scope x->∃ u,bv v u/\Ld X.env s.heap m x u
 cell:∀ x c,X.env.cells.lookup x=some c->∃ v,s.heap.IsCell c v
 free:H X.env.locals=none
 freeC:∀ x c,X.env.cells.lookup x=some c->H c=none
 pin:∀ p∈X.pn++pins,s.heap.get? p.1=some p.2/\H p.1=none/\p.1≠X.env.locals/\p.1∉X.fs/\∀ v,p.2.data≠.cell v
 hok:nk X.prog X.w H s.heap
 len:σ.length=X.N.length
section
variable {X:Cx}{pins:List (Mz×Obj)}{σ:List (Option V)}{H H':Hp}{s:Mp}{h':Os}
theorem Cx.Ok.nofr (ok:X.Ok)(e:X.base.get? b=some o):b∉X.fs:=λhb=>by
 have:=(ok.funs.mem hb).1;rw[e] at this;cases this
theorem aG.bs (I:aG X pins σ H s):∀ b o,X.base.get? b=some o->s.heap.get? b=some o/\H b=none:=λb o e=>
 ⟨I.base.keep b o (I.ok.bs b o e).1 (I.ok.bs b o e).2 (I.ok.nofr e) (I.ok.noex b o e),I.base.free b o (I.ok.bs b o e).1 (I.ok.bs b o e).2 (I.ok.noex b o e)⟩
theorem aG.bk (I:aG X pins σ H s):∀ b o,X.base.get? b=some o->s.heap.get? b=some o:=λb o e=>(I.bs b o e).1
theorem aG.mod (I:aG X pins σ H s):Mod X.K X.mg X.base:=I.ok.mod
theorem aG.kIn (I:aG X pins σ H s):X.K.In s.heap:=I.ok.mod.kin.keeps I.bk
theorem aG.lt (I:aG X pins σ H s):X.env.locals<s.heap.objs.size:=let ⟨_,hn,_⟩:=I.loc;hn.lt
theorem aG.sz (I:aG X pins σ H s):X.s₀.heap.objs.size<=s.heap.objs.size:=MQ I.ok.above (Op I.lt)
theorem aG.nofs (I:aG X pins σ H s)(h:s.heap.objs.size<=a):a∉X.fs:=λhb=>by
 obtain⟨_,o,ho,_⟩:=I.ok.funs.mem hb;exact absurd (MG (Mr ho) (MQ I.sz h)) (Nl _)
theorem aG.cne (I:aG X pins σ H s):∀ x c,X.env.cells.lookup x=some c->c≠X.env.locals:=λx c e z=>by
 obtain⟨v,o,ho,hd⟩:=I.cell x c e;obtain⟨m,⟨o',es,ep,ho',hd',_⟩,_⟩:=I.loc;rw[z,ho'] at ho;cases ho;rw[hd'] at hd;cases hd
theorem aG.funs (I:aG X pins σ H s):s.heap.FunFrames X.base X.outer:=by
 have all:∀ (l:List Env),(∀ b∈zi l,b∈X.fs)->X.s₀.heap.FunFrames X.base l->s.heap.FunFrames X.base l:=by
  intro l
  induction l with
  |nil=>intro _ _;trivial
  |cons env r ih=>
   intro hs hl;obtain⟨hk,⟨L,o,hf,hn,ho,hd⟩,hr⟩:=hl;have hL:L∈X.fs:=hs L (by unfold zi;rw[Qs,hf];exact MO);obtain⟨sl,e⟩:=I.base.slot L o ho (I.ok.frf L hL) hL λz=>I.ok.exfs L z hL
   exact⟨hk,⟨L,_,hf,hn,e,hd⟩,ih (λb hb=>hs b (by unfold zi;rw[Qs,hf];exact Mt _ hb)) hr⟩
 exact all X.outer (λ_ hb=>hb) I.ok.funs
theorem aG.stack (I:aG X pins σ H s):s.heap.FunFrames X.base X.stack:=by
 rcases I.ok.stk with e|⟨e,hf⟩
 ·rw[e];exact I.funs
 ·rw[e];obtain⟨m,hn,_⟩:=I.loc;refine .cons (by rw[I.ok.kind];decide) hf hn ?_ I.funs;exact T_ (MQ I.ok.bsz I.ok.above)
theorem aG.stkSub (I:aG X pins σ H s):∀ b∈zi X.stack,b∈X.env.locals::X.fs:=λb hb=>by
 rcases I.ok.stk with e|⟨e,hf⟩
 ·rw[e] at hb;exact Mt _ hb
 ·rw[e] at hb;unfold zi at hb;rw[Qs,hf] at hb;exact hb
theorem aG.stkFree (I:aG X pins σ H s):∀ b∈zi X.stack,H b=none:=λb hb=>by
 rcases Mx.mp (I.stkSub b hb) with e|hb
 ·rw[e];exact I.free
 ·obtain⟨_,o,ho,_⟩:=I.ok.funs.mem hb;exact I.base.free b o ho (I.ok.frf b hb) λz=>I.ok.exfs b z hb
theorem aG.step {g':Array GenState}{t':Nat}{d':Drawn}{ch:List Mz} (I:aG X pins σ H s)
  (hch:∀ b∈ch,(b∈X.ex\/X.s₀.heap.objs.size<=b)/\b≠X.env.locals/\(∀ x c,X.env.cells.lookup x=some c->c≠b)/\∀ p∈X.pn++pins,p.1≠b)
  (keep:∀ b o,b≠X.env.locals->b∉X.fs->b∉ch->s.heap.get? b=some o->H b=none->h'.get? b=some o)
  (slot:∀ b o,b≠X.env.locals->b∈X.fs->b∉ch->s.heap.get? b=some o->H b=none->∃ sl,h'.get? b=some { o with slots:=sl })(free:∀ b o,b∉ch->s.heap.get? b=some o->H b=none->H' b=none)
  (there:∀ b o,b∉ch->s.heap.get? b=some o->∃ o',h'.get? b=some o')
  (tups:∀ b xs,H b=some (.tup xs)->H' b=some (.tup xs))(frzs:∀ b o u,H b=some (.frz o u)->H' b=some (.frz o u))(tbls:∀ b ps,H b=some (.tbl ps)->∃ more,H' b=some (.tbl (ps++more)))
  (ns:∀ m,s.heap.Ns X.env.locals m->h'.Ns X.env.locals m)(hok:nk X.prog X.w H' h')(hg:Uq g'):
  aG X pins σ H' { s with heap:=h',gens:=g',drawn:=d',toks:=t' }:=by
 have neL:∀ b o,X.s₀.heap.get? b=some o->b≠X.env.locals:=λb o e=>MR (MG (Mr e) I.ok.above)
 have neC:∀ b o,X.s₀.heap.get? b=some o->b∉X.ex->b∉ch:=λb o e hx hb=>by
  rcases(hch b hb).1 with z|z
  ·exact hx z
  ·exact absurd (MG (Mr e) z) (Nl _)
 have cellK:∀ x c,X.env.cells.lookup x=some c->∀ v,s.heap.IsCell c v->h'.IsCell c v:=λx c e v ⟨o,ho,hd⟩=>by
  have nch:c∉ch:=λz=>(hch c z).2.2.1 x c e rfl
  by_cases hc:c∈X.fs
  ·obtain⟨sl,q⟩:=slot c o (I.cne x c e) hc nch ho (I.freeC x c e);exact⟨_,q,hd⟩
  ·exact⟨o,keep c o (I.cne x c e) hc nch ho (I.freeC x c e),hd⟩
 refine⟨I.ok,I.os,hg,⟨λb o e n hb hx=>?_,λb o e n hb hx=>?_,λb o e n hx=>?_,λb o e hx=>?_,λb xs e=>tups b xs (I.base.tups b xs e),λb o xs e=>frzs b o xs (I.base.frzs b o xs e),λb ps e=>?_⟩,?_,λx c e=>?_,?_,λx c e=>?_,λp hp=>?_,hok,I.len⟩
 ·exact keep b o (neL b o e) hb (neC b o e hx) (I.base.keep b o e n hb hx) (I.base.free b o e n hx)
 ·obtain⟨sl,e1⟩:=I.base.slot b o e n hb hx;obtain⟨sl',e2⟩:=slot b _ (neL b o e) hb (neC b o e hx) e1 (I.base.free b o e n hx);exact⟨sl',e2⟩
 ·obtain⟨o',e1⟩:=I.base.there b o e hx;exact free b o' (neC b o e hx) e1 (I.base.free b o e n hx)
 ·obtain⟨o',e1⟩:=I.base.there b o e hx;exact there b o' (neC b o e hx) e1
 ·obtain⟨m1,e1⟩:=I.base.tbls b ps e;obtain⟨m2,e2⟩:=tbls b _ e1;exact⟨m1++m2,by rw[e2,Array.append_assoc]⟩
 ·obtain⟨m,hn,hl⟩:=I.loc;refine⟨m,ns m hn,λi x v e1 e2 e3=>?_⟩;obtain⟨u,r,l⟩:=hl i x v e1 e2 e3;refine⟨u,r,?_⟩;rcases l with l|⟨k,c,e,z⟩
  ·exact .inl l
  ·exact .inr ⟨k,c,e,cellK x c e _ z⟩
 ·obtain⟨v,z⟩:=I.cell x c e;exact⟨v,cellK x c e v z⟩
 ·obtain⟨m,⟨o,_,_,ho,_⟩,_⟩:=I.loc;exact free _ o (λz=>(hch _ z).2.1 rfl) ho I.free
 ·obtain⟨v,o,ho,hd⟩:=I.cell x c e;exact free c o (λz=>(hch c z).2.2.1 x c e rfl) ho (I.freeC x c e)
 ·obtain⟨e,n,ne,nf,d⟩:=I.pin p hp;have nch:p.1∉ch:=λz=>(hch p.1 z).2.2.2 p hp rfl
  exact⟨keep p.1 p.2 ne nf nch e n,free p.1 p.2 nch e n,ne,nf,d⟩
theorem aG.un {t':Nat}(I:aG X pins σ H s)(u:Un X.fs [] H H' s.heap h')(hok:nk X.prog X.w H' h'):aG X pins σ H' { s with heap:=h',toks:=t' }:=by
 obtain⟨m,⟨o,es,ep,ho,r⟩,_⟩:=id I.loc;obtain⟨sl,hL⟩:=u.any ho I.free (by simp);exact I.step (g':=s.gens) (d':=s.drawn) (ch:=[]) (λ_ z=>nomatch z) (λb o _ hb _ e n=>u.keep b o e n hb (by simp)) (λb o _ hb _ e n=>u.slot b o e n hb (by simp)) (λb o _ e n=>u.free b o e n (by simp)) (λb o _ e=>u.there b o e (by simp)) u.tups u.frzs u.tbls (λm' hm=>by
  obtain⟨o',es',ep',ho',r'⟩:=hm;rw[ho] at ho';cases ho';exact⟨_,es',ep',hL,r'⟩) hok I.bare
theorem aG.call {g':Array GenState}{t':Nat}{d':Drawn}{ch:List Mz} (I:aG X pins σ H s) (u:Un (zi X.stack) ch H H' s.heap h') (hok:nk X.prog X.w H' h') (hg:Uq g')
  (hch:∀ b∈ch,(b∈X.ex\/X.s₀.heap.objs.size<=b)/\b≠X.env.locals/\(∀ x c,X.env.cells.lookup x=some c->c≠b)/\∀ p∈X.pn++pins,p.1≠b):
  aG X pins σ H' { s with heap:=h',gens:=g',drawn:=d',toks:=t' }:=by
 obtain⟨m,⟨o,es,ep,ho,r⟩,_⟩:=id I.loc;obtain⟨sl,hL⟩:=u.any ho I.free λz=>(hch _ z).2.1 rfl
 exact I.step (ch:=ch) hch (λb o hL hb hc e n=>u.keep b o e n (λz=>(Mx.mp (I.stkSub b z)).elim hL hb) hc) (λb o _ _ hc e n=>u.any e n hc) (λb o hc e n=>u.free b o e n hc) (λb o hc e=>u.there b o e hc) u.tups u.frzs u.tbls (λm' hm=>by
  obtain⟨o',es',ep',ho',r'⟩:=hm;rw[ho] at ho';cases ho';exact⟨_,es',ep',hL,r'⟩) hok hg
theorem aG.turned {t':Nat}{it:Mz} (I:aG X pins σ H s) (k:∀ b o,b ≠ it->s.heap.get? b=some o->h'.get? b=some o) (hn:H it=none) (hL:it ≠ X.env.locals)
  (h1:it∈X.ex\/X.s₀.heap.objs.size<=it)(h2:∀ x c,X.env.cells.lookup x=some c->c≠it)(h3:∀ p∈X.pn++pins,p.1≠it):aG X pins σ H { s with heap:=h',toks:=t' }:=by
 have nit:∀ b u,H b=some u->b≠it:=λb u e z=>by rw[z,hn] at e;cases e
 refine I.step (g':=s.gens) (d':=s.drawn) (ch:=[it]) (λb hb=>?_) (λb o _ _ hc e _=>k b o (λz=>hc (by simp[z])) e) (λb o _ _ hc e _=>⟨o.slots,k b o (λz=>hc (by simp[z])) e⟩) (λ_ _ _ _ n=>n)
  (λb o hc e=>⟨o,k b o (λz=>hc (by simp[z])) e⟩) (λ_ _ e=>e) (λ_ _ _ e=>e) (λb ps e=>⟨#[],by rw[e];simp⟩) (λm hm=>?_) (λb u e=>?_) I.bare
 ·have e:b=it:=by simpa using hb
  subst e;exact⟨h1,hL,h2,h3⟩
 ·obtain⟨o,es,ep,ho,r⟩:=hm;exact⟨o,es,ep,k _ o (OU hL) ho,r⟩
 ·refine(I.hok b u e).stay (λc v hc q=>k c v ?_ q) (λ_ q=>q) λ_ _ q=>q
  rcases hc with z|z
  ·rw[z];exact nit b u e
  ·exact nit c _ z
theorem aG.tok (I:aG X pins σ H s)(t:Nat):aG X pins σ H { s with toks:=t }:=I.un (h':=s.heap) (t':=t) Un.refl I.hok
theorem aG.kept {t':Nat}(I:aG X pins σ H s)(k:∀ b u,s.heap.get? b=some u->h'.get? b=some u):aG X pins σ H { s with heap:=h',toks:=t' }:=I.un (Un.kept k) (I.hok.kept k)
theorem aG.laid {t':Nat} (I:aG X pins σ H s) (k:∀ b u,s.heap.get? b=some u->h'.get? b=some u) (hp:s.heap.objs.size <= a) (new:bT X.prog X.w (upd H a o) h' a o) :
  aG X pins σ (upd H a o) { s with heap:=h',toks:=t' }:=I.un (Un.laid k hp (I.hok.fresh hp)) (I.hok.laid k hp new)
theorem aG.write {t':Nat} (I:aG X pins σ H s) (mu:JP (H x)) (he:e=x\/H e=some (.own x)) (k:∀ b u,b ≠ e->s.heap.get? b=some u->h'.get? b=some u) (heo:∃ u,h'.get? e=some u)
  (new:bT X.prog X.w (upd H x o) h' x o):aG X pins σ (upd H x o) { s with heap:=h',toks:=t' }:=I.un (Un.write mu he k heo) (I.hok.write mu he k heo new)
theorem aG.pins_of (I:aG X pins σ H s)(h:∀ p∈pins',s.heap.get? p.1=some p.2/\H p.1=none/\p.1≠X.env.locals/\p.1∉X.fs/\∀ v,p.2.data≠.cell v):aG X pins' σ H s:=
 ⟨I.ok,I.os,I.bare,I.base,I.loc,I.cell,I.free,I.freeC,λp hp=>(M_.mp hp).elim (λz=>I.pin p (Om _ z)) (h p),I.hok,I.len⟩
theorem yx {N:List Str}(hN:N.Nodup){i j:Nat}{x:Str}(a:N[i]?=some x)(b:N[j]?=some x):i=j:=by
 obtain⟨h1,e1⟩:=Mu.mp a;obtain⟨h2,e2⟩:=Mu.mp b;exact(List.getElem_inj hN).mp (e1.trans e2.symm)
theorem u6 {M:Model}{A:ND}{E:Mj->Mp->Prop}{i:Nat}{x:Str}{v:V}{u:Mj}{Q:Unit->Mp->Prop} (I:aG X pins σ H s) (hN:X.N.Nodup) (hi:X.N[i]?=some x) (hx:Jc X.env.scope x) (r:bv v u)
  (h:∀ s',aG X pins (σ.set i (some v)) H s'->(∃ a,Nv a s.heap s'.heap/\(a=X.env.locals\/X.env.cells.lookup x=some a))->Q () s')(hf:X.fn x=true\/X.env.scope.names.lookup x=some .local:=by first|exact .inl rfl|exact .inr rfl|assumption):MB M A (storeName X.env x u) Q E s:=by
 obtain⟨m,hn,hl⟩:=id I.loc;have hcls:(X.env.scope.kind==.class||(X.env.scope.kind==.module&&X.env.locals != X.env.globals))=false:=by rw[I.ok.kind];rfl
 have hiσ:i<σ.length:=by rw[I.len];exact(Mu.mp hi).1
 have cne:=I.cne;have tracked:∀ {a:Mz}{h':Os},(∃ o,s.heap.get? a=some o/\H a=none)->Nv a s.heap h'->nk X.prog X.w H h':=λ{a h'} ha hs b ob e=>by
  obtain⟨_,_,hfree⟩:=ha;refine(I.hok b ob e).stay (λc w' hc q=>(hs.2 c ?_).trans q) (λ_ q=>q) λ_ _ q=>q
  rintro rfl;rcases hc with rfl|hc
  ·rw[hfree] at e;cases e
  ·rw[hfree] at hc;cases hc
 rcases hx with hk|hk
 ·refine wpAny_storeName_local hk hn (λh' hn' hs=>?_) hcls;obtain⟨oL,_,_,hoL,_⟩:=id hn;refine h _ ⟨I.ok,I.os,I.bare,⟨λb o e n hb hx=>?_,λb o e n hb hx=>?_,I.base.free,λb o e hx=>?_,I.base.tups,I.base.frzs,I.base.tbls⟩,⟨_,hn',λj y v' e1 e2 e3=>?_⟩,λy c e=>?_,I.free,I.freeC,λp hp=>?_,tracked ⟨oL,hoL,I.free⟩ hs,by simpa using I.len⟩ ⟨_,hs,.inl rfl⟩
  ·exact(hs.2 b (MR (MG (Mr e) I.ok.above))).trans (I.base.keep b o e n hb hx)
  ·obtain⟨sl,e1⟩:=I.base.slot b o e n hb hx;exact⟨sl,(hs.2 b (MR (MG (Mr e) I.ok.above))).trans e1⟩
  ·obtain⟨o',e1⟩:=I.base.there b o e hx;exact⟨o',(hs.2 b (MR (MG (Mr e) I.ok.above))).trans e1⟩
  ·by_cases hj:j=i
   ·subst hj;rw[hi] at e1;cases e1;rw[Tk hiσ] at e2;cases e2;exact⟨u,r,.inl ⟨hk,by simp⟩⟩
   ·rw[Ub (OU hj)] at e2;obtain⟨u',r',q⟩:=hl j y v' e1 e2 e3;refine⟨u',r',?_⟩;rcases q with ⟨k,e⟩|⟨k,c,e,z⟩
    ·refine .inl ⟨k,?_⟩;have:y≠x:=λe=>hj (yx hN e1 (e▸hi))
     simp[this,e]
    ·exact .inr ⟨k,c,e,z.sameBut hs (cne y c e)⟩
  ·obtain⟨w',z⟩:=I.cell y c e;exact⟨w',z.sameBut hs (cne y c e)⟩
  ·obtain⟨e,n,ne,nf,d⟩:=I.pin p hp;exact⟨(hs.2 p.1 ne).trans e,n,ne,nf,d⟩
 ·have hfn:X.fn x=true:=by
   rcases hf with z|z
   ·exact z
   ·rw[z] at hk;cases hk
  obtain⟨c,hc⟩:=I.ok.has x (.inl hk);obtain⟨w',z⟩:=I.cell x c hc;refine wpAny_storeName_cell I.ok.kind hk hc z (λh' hc' hs=>?_);obtain⟨oc,hoc,hocd⟩:=id z;refine h { s with heap:=h' } ⟨I.ok,I.os,I.bare,⟨λb o e n hb hx=>?_,λb o e n hb hx=>?_,I.base.free,λb o e hx=>?_,I.base.tups,I.base.frzs,I.base.tbls⟩,⟨m,hn.sameBut hs (OU (cne x c hc)),λj y v' e1 e2 e3=>?_⟩,λy c' e=>?_,I.free,I.freeC,λp hp=>?_,tracked ⟨oc,hoc,I.freeC x c hc⟩ hs,by simpa using I.len⟩ ⟨c,hs,.inr hc⟩
  ·exact(hs.2 b (MR (MG (Mr e) (I.ok.cab x c hfn hc)))).trans (I.base.keep b o e n hb hx)
  ·obtain⟨sl,e1⟩:=I.base.slot b o e n hb hx;exact⟨sl,(hs.2 b (MR (MG (Mr e) (I.ok.cab x c hfn hc)))).trans e1⟩
  ·obtain⟨o',e1⟩:=I.base.there b o e hx;exact⟨o',(hs.2 b (MR (MG (Mr e) (I.ok.cab x c hfn hc)))).trans e1⟩
  ·by_cases hj:j=i
   ·subst hj;rw[hi] at e1;cases e1;rw[Tk hiσ] at e2;cases e2;exact⟨u,r,.inr ⟨.inl hk,c,hc,hc'⟩⟩
   ·rw[Ub (OU hj)] at e2;obtain⟨u',r',q⟩:=hl j y v' e1 e2 e3;refine⟨u',r',?_⟩;rcases q with q|⟨k,c',e,z'⟩
    ·exact .inl q
    ·refine .inr ⟨k,c',e,z'.sameBut hs ?_⟩;rintro rfl;exact hj (yx hN e1 (I.ok.inj _ _ _ e hc▸hi))
  ·by_cases hcc:c'=c
   ·subst hcc;exact⟨_,hc'⟩
   ·obtain⟨w2,z2⟩:=I.cell y c' e;exact⟨w2,z2.sameBut hs hcc⟩
  ·obtain⟨e,n,ne,nf,d⟩:=I.pin p hp;refine⟨(hs.2 p.1 ?_).trans e,n,ne,nf,d⟩;intro q;rw[q,hoc] at e;have q':oc=p.2:=Mi e;exact d w' (by rw[<- q'];exact hocd)
theorem kC {i:Nat} (I:aG X pins σ H s) (hN:X.N.Nodup) (hi:X.N[i]?=some x) (hx:Jc X.env.scope x) (r:bv v u)
  (h:∀ s',aG X pins (σ.set i (some v)) H s'->Q () s')(hf:X.fn x=true\/X.env.scope.names.lookup x=some .local:=by first|exact .inl rfl|exact .inr rfl|assumption):MB M A (storeName X.env x u) Q E s:=
 u6 I hN hi hx r (λs' I' _=>h s' I') hf
theorem aG.call' (I:aG X pins σ H s) (ho:s'.os=s.os) (u:Un (zi X.stack) ch H H' s.heap s'.heap) (hok:nk X.prog X.w H' s'.heap) (hg:Uq s'.gens)
  (hch:∀ b∈ch,(b∈X.ex\/X.s₀.heap.objs.size<=b)/\b≠X.env.locals/\(∀ x c,X.env.cells.lookup x=some c->c≠b)/\∀ p∈X.pn++pins,p.1≠b):aG X pins σ H' s':=by
 obtain⟨h',g',d',t',o'⟩:=s';have e:o'=s.os:=ho;subst e;exact I.call (g':=g') (t':=t') (d':=d') u hok hg hch
end
abbrev XK:=Mj->Option Mz->Hp->Prop
abbrev St:=List (Option V)
abbrev VK:=V->Hp->Prop
abbrev TE:=St->Hp->VK->Prop
abbrev TT:=St->Hp->(Bool->Hp->Prop)->Prop
abbrev TA:=St->Hp->(List V->Hp->Prop)->Prop
structure uD where
 nx:St->Hp->Prop
 rt:VK
 bk:St->Hp->Prop:=λ_ _=>False
 ct:St->Hp->Prop:=λ_ _=>False
abbrev TS:=uD->St->Hp->Prop
def EP (X:Cx)(pins:List (Mz×Obj))(σ:St)(Q:VK)(u:Mj)(s':Mp):Prop:=∃ v H',aG X pins σ H' s'/\bv v u/\Q v H'
def TP (X:Cx)(pins:List (Mz×Obj))(σ:St)(Q:Bool->Hp->Prop)(b:Bool)(s':Mp):Prop:=∃ H',aG X pins σ H' s'/\Q b H'
def AP (X:Cx)(pins:List (Mz×Obj))(σ:St)(Q:List V->Hp->Prop)(us:List Mj)(s':Mp):Prop:=∃ vs H',aG X pins σ H' s'/\aM vs us/\Q vs H'
def SP (X:Cx)(pins:List (Mz×Obj))(D:uD)(f:Flow)(s':Mp):Prop:=
 match f with
 |.next=>∃ σ' H',aG X pins σ' H' s'/\D.nx σ' H'
 |.brk=>∃ σ' H',aG X pins σ' H' s'/\D.bk σ' H'
 |.cont=>∃ σ' H',aG X pins σ' H' s'/\D.ct σ' H'
 |.ret u=>∃ v σ' H',aG X pins σ' H' s'/\bv v u/\D.rt v H'
def PE (X:Cx)(e:OH)(t:TE):Prop:=
 ∀ (pins:List (Mz×Obj)) (s:Mp) (σ:St) (H:Hp) (Q:VK),aG X pins σ H s->t σ H Q->MB (MW X.prog X.w) X.A (Qh e X.env) (EP X pins σ Q) X.xe s
structure WE (X:Cx)(e:OH)(t:TE):Prop where
 go:PE X e t
def PT (X:Cx)(e:OH)(t:TT):Prop:=
 ∀ (pins:List (Mz×Obj)) (s:Mp) (σ:St) (H:Hp) (Q:Bool->Hp->Prop),aG X pins σ H s->t σ H Q->MB (MW X.prog X.w) X.A (isTrue e X.env (Qh e X.env)) (TP X pins σ Q) X.xe s
structure WT (X:Cx)(e:OH)(t:TT):Prop where
 go:PT X e t
def PW (X:Cx)(e:OH)(t:TT):Prop:=
 ∀ (whole:Sem Mj) (pins:List (Mz×Obj)) (s:Mp) (σ:St) (H:Hp) (Q:Bool->Hp->Prop),aG X pins σ H s->t σ H Q->MB (MW X.prog X.w) X.A (isTrue e X.env whole) (TP X pins σ Q) X.xe s
structure WW (X:Cx)(e:OH)(t:TT):Prop where
 go:PW X e t
theorem PW.pt (h:PW X e t):PT X e t:=h _
def PA (X:Cx)(es:List OH)(t:TA):Prop:=
 ∀ (pos:Pos) (pins:List (Mz×Obj)) (s:Mp) (σ:St) (H:Hp) (Q:List V->Hp->Prop),aG X pins σ H s->t σ H Q->MB (MW X.prog X.w) X.A (spliced (QC pos (MU es X.env))) (AP X pins σ Q) X.xe s
structure WA (X:Cx)(e:List OH)(t:TA):Prop where
 go:PA X e t
def PS (X:Cx)(st:Oe)(t:TS):Prop:=
 ∀ (pins:List (Mz×Obj)) (s:Mp) (σ:St) (H:Hp) (D:uD),aG X pins σ H s->t D σ H->MB (MW X.prog X.w) X.A (exec st X.env) (SP X pins D) X.xe s
structure WS (X:Cx)(e:Oe)(t:TS):Prop where
 go:PS X e t
def Fy (X:Cx)(st:List Oe)(t:TS):Prop:=
 ∀ (pins:List (Mz×Obj)) (s:Mp) (σ:St) (H:Hp) (D:uD),aG X pins σ H s->t D σ H->MB (MW X.prog X.w) X.A (execs st X.env) (SP X pins D) X.xe s
structure cM (X:Cx)(e:List Oe)(t:TS):Prop where
 go:Fy X e t
theorem bY (h:MB M A t Q E s)(hQ:∀ a s,Q a s->Q' a s):MB M A t Q' E s:=NI h hQ λ_ _ x=>x
section
variable {X:Cx}
inductive r0 (i:Nat)(σ:St)(H:Hp)(Q:VK):Prop
 |mk (v:V) (_:σ[i]?=some (some v)) (_:Q v H)
def tC (v:V):TE:=λ_ H Q=>Q v H
theorem Hs {i:Nat}(hN:X.N[i]?=some x)(hv:Jl X.env.scope x)(hd:(x==("__debug__":Str))=false:=by decide)(hcd:(x==("__classdict__":Str))=false:=by decide):PE X (.Name x pos) (r0 i):=by
 intro pins s σ H Q I h;obtain⟨v,e,h⟩:=h;obtain⟨m,hn,hl⟩:=I.loc;obtain⟨u,r,l⟩:=hl i x v hN e hv;have fin:EP X pins σ Q u s:=⟨v,H,I,r,h⟩
 rcases l with ⟨hk,hm⟩|⟨hk,c,hc,hcell⟩
 ·exact T5 (Rv I.ok.kind hk hn hm fin) hd
 ·rcases hk with hk|hk
  ·exact T5 (wpAny_loadName_cell I.ok.kind hk hc hcell fin) hd
  ·exact T5 (wpAny_loadName_free I.ok.kind hk hc hcell fin hcd) hd
theorem aa {i j pos}:WE X (.Constant (.int i) j pos) (tC (.int i)):=by
 exact⟨λ_ _ _ H _ I h=>wpAny_Constant_int ⟨.int i,H,I.tok _,⟨_,rfl⟩,h⟩⟩
theorem gg {b j pos}:WE X (.Constant (.bool b) j pos) (tC (.bl b)):=by
 exact⟨λ_ _ _ H _ I h=>Constant_bool ⟨.bl b,H,I,rfl,h⟩⟩
theorem vX {j pos}:WE X (.Constant .none j pos) (tC .non):=by
 exact⟨λ_ _ _ H _ I h=>Constant_none ⟨.non,H,I,rfl,h⟩⟩
def Gl (X:Cx)(x:Str):Prop:=X.env.kindOf x=some .globalImplicit
theorem i8 (I:aG X pins σ H s) (hg:Gl X x) (hm:X.mg x=some u) (h:Q u s)
  (hd:(x==("__debug__":Str))=false:=by decide):MB (MW X.prog X.w) X.A (Qh (.Name x pos) X.env) Q E s:=
 R8 I.ok.kind hg (Calls.loadGlobal_global (by rw[I.ok.glob];exact I.mod.glob.keeps I.bk) hm h) hd
theorem jY (I:aG X pins σ H s) (hg:Gl X x) (hm:X.mg x=none) (hv:Np x=some u) (h:Q u s)
  (hn:x≠"__name__":=by decide)(hd:(x==("__debug__":Str))=false:=by decide):MB (MW X.prog X.w) X.A (Qh (.Name x pos) X.env) Q E s:=by
 obtain⟨mb,h1,h2⟩:=I.mod.blt;exact R8 I.ok.kind hg (Calls.loadGlobal_builtin (by rw[I.ok.glob];exact I.mod.glob.keeps I.bk) hm (by rw[I.ok.blt];exact h1.keeps I.bk) ((h2 x hn).trans hv) h) hd
theorem F1 (hg:Gl X x)(hm:X.mg x=some u)(r:bv v u)(hd:(x==("__debug__":Str))=false:=by decide):PE X (.Name x pos) (tC v):=
 λ_ _ _ H _ I h=>i8 I hg hm ⟨v,H,I,r,h⟩ hd
theorem bU (hg:Gl X x)(hm:X.mg x=none)(hv:Np x=some u)(r:bv v u)(hn:x≠"__name__":=by decide)(hd:(x==("__debug__":Str))=false:=by decide):WE X (.Name x pos) (tC v):=by
 exact⟨λ_ _ _ H _ I h=>jY I hg hm hv ⟨v,H,I,r,h⟩ hn hd⟩
variable {a b:OH}{ta tb:TE}{pos:Pos}
inductive LQ (x:V)(H:Hp)(Q:Bool->Hp->Prop):Prop
 |mk (c:Bool) (_:x=.bl c) (_:Q c H)
def tB (t:TE):TT:=λσ H Q=>t σ H λx H1=>LQ x H1 Q
theorem aS (h:WE X e t)(he:∀ whole,isTrue e X.env whole=(do let v <- whole;TZ e.pos;holding [v] (truthy v)):=by intro _;rfl):WT X e (tB t):=by
 have h:=h.go;refine⟨?_⟩;intro pins s σ H Q I hw;refine isTrue_plain (bY (h pins s σ H _ I hw) λv s1 ⟨x,H1,I1,r1,q1⟩=>?_) (he _);obtain⟨d,rfl,q⟩:=q1;cases r1;exact Oz ⟨H1,I1,q⟩
variable {tA tB':TT}{eO:List OH}
def KZ (t u:TT):TT:=λσ H Q=>t σ H λc H1=>if c=true then u σ H1 Q else Q false H1
def L_ (t u:TT):TT:=λσ H Q=>t σ H λc H1=>if c=true then Q true H1 else u σ H1 Q
def Lo (t:TT):TT:=λσ H Q=>t σ H λc H1=>Q (!c) H1
theorem Fq (ha:WT X a tA):WW X (.BoolOp .And [a] pos) tA:=by
 have ha:=ha.go;refine⟨?_⟩;intro wh pins s σ H Q I h;refine isTrue_and (bY (ha pins s σ H Q I h) λc s1 e=>?_);cases c with
 |true=>exact isTrue_and_nil e
 |false=>exact e
theorem dB (ha:WT X a tA):WW X (.BoolOp .Or [a] pos) tA:=by
 have ha:=ha.go;refine⟨?_⟩;intro wh pins s σ H Q I h;refine isTrue_or (bY (ha pins s σ H Q I h) λc s1 e=>?_);cases c with
 |false=>exact isTrue_or_nil e
 |true=>exact e
theorem Bg (ha:WT X a tA)(hb:WW X (.BoolOp .And (b::eO) pos) tB'):WW X (.BoolOp .And (a::b::eO) pos) (KZ tA tB'):=by
 have ha:=ha.go;have hb:=hb.go;refine⟨?_⟩;intro wh pins s σ H Q I h;refine isTrue_and (bY (ha pins s σ H _ I h) λc s1 ⟨H1,I1,q1⟩=>?_);cases c with
 |true=>exact hb wh pins s1 σ H1 Q I1 q1
 |false=>exact⟨H1,I1,q1⟩
theorem dG (ha:WT X a tA)(hb:WW X (.BoolOp .Or (b::eO) pos) tB'):WW X (.BoolOp .Or (a::b::eO) pos) (L_ tA tB'):=by
 have ha:=ha.go;have hb:=hb.go;refine⟨?_⟩;intro wh pins s σ H Q I h;refine isTrue_or (bY (ha pins s σ H _ I h) λc s1 ⟨H1,I1,q1⟩=>?_);cases c with
 |true=>exact⟨H1,I1,q1⟩
 |false=>exact hb wh pins s1 σ H1 Q I1 q1
theorem aX (ha:WT X a tA):WT X (.UnaryOp .Not a pos) (Lo tA):=by
 have ha:=ha.go;refine⟨?_⟩;intro pins s σ H Q I h;exact isTrue_not (ha pins s σ H (λc H1=>Q (!c) H1) I h)
def Kw (ta tb:TE):TE:=λσ H Q=>ta σ H λx H1=>∃ c,x=.bl c/\if c=true then tb σ H1 Q else Q (.bl false) H1
def Ke (ta:TE):TE:=λσ H Q=>ta σ H λx H1=>∃ c,x=.bl c/\Q (.bl (!c)) H1
theorem gj {op}(h:WE X a t):WE X (.BoolOp op [a] pos) t:=by
 have h:=h.go;exact⟨λpins s σ H Q I hw=>BoolOp_one (h pins s σ H Q I hw)⟩
theorem dX (ha:WE X a ta)(hb:WE X (.BoolOp .And (b::eO) pos) tb):WE X (.BoolOp .And (a::b::eO) pos) (Kw ta tb):=by
 have ha:=ha.go;have hb:=hb.go;refine⟨?_⟩;intro pins s σ H Q I h;refine BoolOp_and (bY (ha pins s σ H _ I h) λv s1 ⟨x,H1,I1,r1,q1⟩=>?_);obtain⟨c,rfl,q1⟩:=q1;cases r1;refine Oz ?_;cases c with
 |true=>exact hb pins s1 σ H1 Q I1 q1
 |false=>exact⟨.bl false,H1,I1,rfl,q1⟩
theorem AA (ha:WE X a ta):WE X (.UnaryOp .Not a pos) (Ke ta):=by
 have ha:=ha.go;refine⟨?_⟩;intro pins s σ H Q I h;refine UnaryOp_ (bY (ha pins s σ H _ I h) λv s1 ⟨x,H1,I1,r1,q1⟩=>?_);obtain⟨c,rfl,q1⟩:=q1;cases r1;exact not_of (Oz ⟨.bl (!c),H1,I1,rfl,q1⟩)
def L8 (t:TT)(ta tb:TE):TE:=λσ H Q=>t σ H λc H1=>if c=true then ta σ H1 Q else tb σ H1 Q
theorem ib (hc:WT X c tA)(ha:WE X a ta)(hb:WE X b tb):WE X (.IfExp c a b pos) (L8 tA ta tb):=by
 have hc:=hc.go;have ha:=ha.go;have hb:=hb.go;refine⟨?_⟩;intro pins s σ H Q I h;refine wpAny_IfExp (bY (hc pins s σ H _ I h) λd s1 ⟨H1,I1,q1⟩=>?_);cases d with
 |true=>exact ha pins s1 σ H1 Q I1 q1
 |false=>exact hb pins s1 σ H1 Q I1 q1
end
def bH (K:HD)(H:Hp)(a:Mz)(xs:List V):Prop:=
 Rd H a (.lst xs) \/
  ∃ (o:Obj) (its:Array Mj) (n:Nat),K.lookup a=some o/\o.cls=.type "list"/\o.dict=none/\o.data=.seq its n/\its.size<=MI/\aM xs its.toList
def dF (K:HD)(H:Hp)(a:Mz)(xs:List V):Prop:=
 Rd H a (.tup xs) \/
  ∃ (o:Obj) (its:Array Mj) (n:Nat),K.lookup a=some o/\o.cls=.type "tuple"/\o.data=.seq its n/\its.size<=MI/\aM xs its.toList
def Lk:Mj->Option V
 |.none=>some .non
 |.bool b=>some (.bl b)
 |.int i _=>some (.int i)
 |.str x _=>some (.str x)
 |.bytes b _=>some (.byt b)
 |.float b _=>some (.flt b)
 |.ref a=>some (.ref a)
 |.type n=>some (.ty n)
 |_=>none
theorem bv.abs (r:bv x u):Lk u=some x:=by
 cases x with
 |non=>cases r;rfl
 |bl _=>cases r;rfl
 |int _=>obtain⟨t,rfl⟩:=r;rfl
 |str _=>obtain⟨t,rfl⟩:=r;rfl
 |byt _=>obtain⟨t,rfl⟩:=r;rfl
 |flt _=>obtain⟨t,rfl⟩:=r;rfl
 |ref _=>cases r;rfl
 |ty _=>cases r;rfl
theorem bv.inj (r:bv x u)(q:bv y u):x=y:=Mi (r.abs.symm.trans q.abs)
theorem aM.inj:∀ {xs ys:List V}{us:List Mj},aM xs us->aM ys us->xs=ys
 |_,_,_,.nil,.nil=>rfl
 |_,_,_,.cons r t,.cons r' t'=>by rw[r.inj r',aM.inj t t']
section
variable {X:Cx}{pins:List (Mz×Obj)}{σ:St}{H:Hp}{s:Mp}{a:Mz}{xs ys:List V}
theorem bH.of {K:HD}(h:H a=some (.lst xs)):bH K H a xs:=.inl (.inl h)
theorem dF.of {K:HD}(h:H a=some (.tup xs)):dF K H a xs:=.inl (.inl h)
theorem aG.list (I:aG X pins σ H s)(h:bH X.K H a xs):∃ its:List Mj,aM xs its/\PlainL s.heap a its.toArray/\xs.length<=MI:=by
 rcases h with h|⟨o,its,n,hk,hc,hd,hs,hz,r⟩
 ·obtain⟨z,its,n,r,e⟩:=h.ok I.hok;exact⟨its,r,⟨_,n,e,rfl,rfl,rfl⟩,z⟩
 ·refine⟨its.toList,r,⟨o,n,I.kIn a o hk,hc,hd,by simpa using hs⟩,?_⟩;have e:=r.length;simp only[NJ] at e;lia
theorem aG.tuple (I:aG X pins σ H s)(h:dF X.K H a xs):∃ its:List Mj,aM xs its/\IsTup s.heap a its.toArray/\xs.length<=MI:=by
 rcases h with h|⟨o,its,n,hk,hc,hs,hz,r⟩
 ·obtain⟨z,its,r,p⟩:=h.ok I.hok;exact⟨its,r,p,z⟩
 ·refine⟨its.toList,r,⟨o,I.kIn a o hk,hc,n,by simpa using hs⟩,?_⟩;have e:=r.length;simp only[NJ] at e;lia
theorem aG.list_inj (I:aG X pins σ H s)(h:bH X.K H a xs)(h':bH X.K H a ys):xs=ys:=by
 obtain⟨its,r,⟨o,n,e,_,_,d⟩,_⟩:=I.list h;obtain⟨its',r',⟨o',n',e',_,_,d'⟩,_⟩:=I.list h';rw[e] at e';cases e';rw[d] at d';injection d' with d1 _
 have:its=its':=by simpa using PZ Array.toList d1
 subst this;exact r.inj r'
theorem aG.tuple_inj (I:aG X pins σ H s)(h:dF X.K H a xs)(h':dF X.K H a ys):xs=ys:=by
 obtain⟨its,r,⟨o,e,_,n,d⟩,_⟩:=I.tuple h;obtain⟨its',r',⟨o',e',_,n',d'⟩,_⟩:=I.tuple h';rw[e] at e';cases e';rw[d] at d';injection d' with d1 _
 have:its=its':=by simpa using PZ Array.toList d1
 subst this;exact r.inj r'
end
abbrev Cx.wish (X:Cx)(E:Mj->Mp->Prop):Cx:={ X with xe:=E }
abbrev Cx.nox (X:Cx):Cx:=X.wish λ_ _=>False
theorem Cx.Ok.wish {X:Cx}(ok:X.Ok)(E:Mj->Mp->Prop):(X.wish E).Ok:=
 ⟨ok.mod,ok.kind,ok.glob,ok.blt,ok.above,ok.inj,ok.has,ok.cab,ok.hd,ok.frames,ok.stk,ok.exf,ok.bs,ok.bsz,ok.noex,ok.exfs,ok.funs,ok.frf⟩
theorem Cx.Ok.unwish {X:Cx}{E:Mj->Mp->Prop}(ok:(X.wish E).Ok):X.Ok:=
 ⟨ok.mod,ok.kind,ok.glob,ok.blt,ok.above,ok.inj,ok.has,ok.cab,ok.hd,ok.frames,ok.stk,ok.exf,ok.bs,ok.bsz,ok.noex,ok.exfs,ok.funs,ok.frf⟩
section
variable {X:Cx}{pins:List (Mz×Obj)}{σ:St}{H:Hp}{s:Mp}{E:Mj->Mp->Prop}
theorem aG.wish (I:aG X pins σ H s)(E:Mj->Mp->Prop):aG (X.wish E) pins σ H s:=⟨I.ok.wish E,I.os,I.bare,I.base,I.loc,I.cell,I.free,I.freeC,I.pin,I.hok,I.len⟩
theorem aG.unwish (I:aG (X.wish E) pins σ H s):aG X pins σ H s:=⟨I.ok.unwish,I.os,I.bare,I.base,I.loc,I.cell,I.free,I.freeC,I.pin,I.hok,I.len⟩
theorem SP.unwish (h:SP (X.wish E) pins D f s'):SP X pins D f s':=by
 cases f with
 |next=>obtain⟨σ',H',I,q⟩:=h;exact⟨σ',H',I.unwish,q⟩
 |brk=>obtain⟨σ',H',I,q⟩:=h;exact⟨σ',H',I.unwish,q⟩
 |cont=>obtain⟨σ',H',I,q⟩:=h;exact⟨σ',H',I.unwish,q⟩
 |ret u=>obtain⟨v,σ',H',I,r,q⟩:=h;exact⟨v,σ',H',I.unwish,r,q⟩
theorem Fy.nox {st:List Oe}{t:TS}(h:Fy X.nox st t):Fy X st t:=λpins s σ H D I hw=>
 NI (h pins s σ H D (I.wish _) hw) (λ_ _ q=>q.unwish) λ_ _ z=>Ot z
end
section
variable {X:Cx}{st:Oe}{eO:List Oe}{t u:TS}{e:OH}{te:TE}{pos:Pos}
def J4:TS:=λD σ H=>D.nx σ H
def Kx (t u:TS):TS:=λD σ H=>t { D with nx:=u D } σ H
theorem aH:cM X [] J4:=by
 exact⟨λ_ _ σ H _ I h=>R5 ⟨σ,H,I,h⟩⟩
theorem ab (h1:WS X st t)(h2:cM X eO u):cM X (st::eO) (Kx t u):=by
 have h1:=h1.go;have h2:=h2.go;refine⟨?_⟩;intro pins s σ H D I h;refine wpAny_execs_cons (bY (h1 pins s σ H { D with nx:=u D } I h) λf s1 q=>?_);cases f with
 |next=>
  obtain⟨σ',H',I',q⟩:=q;exact h2 pins s1 σ' H' D I' q
 |ret v=>exact q
 |brk=>exact q
 |cont=>exact q
theorem ag (h1:WS X st t):cM X [st] t:=by
 have h1:=h1.go;refine⟨?_⟩;intro pins s σ H D I h;refine wpAny_execs_cons (bY (h1 pins s σ H D I h) λf s1 q=>?_);cases f with
 |next=>exact R5 q
 |ret v=>exact q
 |brk=>exact q
 |cont=>exact q
theorem aG.quiet (I:aG X pins σ H s):interactive X.env=false:=by simp[interactive,I.ok.kind]
def Kz (te:TE):TS:=λD σ H=>te σ H λ_ H1=>D.nx σ H1
theorem bG (he:WE X e te)(hs:SR e none pos.line X.env=pure false:=by rfl):WS X (.Expr e pos) (Kz te):=by
 have he:=he.go;refine⟨?_⟩;intro pins s σ H D I h;exact wpAny_Expr_any (bY (he pins s σ H _ I h) λv s1 ⟨x,H1,I1,r1,q1⟩=>⟨σ,H1,I1,q1⟩) I.quiet hs
def Lz (te:TE):TS:=λD σ H=>te σ H D.rt
theorem ar (he:WE X e te):WS X (.Return (some e) pos) (Lz te):=by
 have he:=he.go;refine⟨?_⟩;intro pins s σ H D I h;exact wpAny_Return_some (bY (he pins s σ H _ I h) λv s1 ⟨x,H1,I1,r1,q1⟩=>⟨x,σ,H1,I1,r1,q1⟩)
def Lj (c:TT)(t u:TS):TS:=λD σ H=>c σ H λb H1=>if b=true then t D σ H1 else u D σ H1
theorem a_ (hc:WT X c tc)(ha:cM X a t)(hb:cM X b u):WS X (.If c a b pos) (Lj tc t u):=by
 have hc:=hc.go;have ha:=ha.go;have hb:=hb.go;refine⟨?_⟩;intro pins s σ H D I h;refine wpAny_If (bY (hc pins s σ H _ I h) λd s1 ⟨H1,I1,q1⟩=>?_);cases d with
 |true=>exact ha pins s1 σ H1 D I1 q1
 |false=>exact hb pins s1 σ H1 D I1 q1
def Jg:TS:=λ_ _ _=>False
theorem bE:WS X st Jg:=by
 exact⟨λ_ _ _ _ _ _ h=>h.elim⟩
end
abbrev TG:=V->St->Hp->(St->Hp->Prop)->Prop
abbrev IV:=List V->St->Hp->(St->Hp->Prop)->Prop
def PG (X:Cx)(target:OH)(t:TG):Prop:=
 ∀ (pins:List (Mz×Obj)) (s:Mp) (σ:St) (H:Hp) (v:V) (u:Mj) (Q:St->Hp->Prop),aG X pins σ H s->bv v u->t v σ H Q ->
  MB (MW X.prog X.w) X.A (assign target X.env u) (λ_ s'=>∃ σ' H',aG X pins σ' H' s'/\Q σ' H') X.xe s
structure WG (X:Cx)(e:OH)(t:TG):Prop where
 go:PG X e t
def Lv (X:Cx)(ts:List OH)(t:IV):Prop:=
 ∀ (pins:List (Mz×Obj)) (s:Mp) (σ:St) (H:Hp) (vs:List V) (us:List Mj) (Q:St->Hp->Prop),aG X pins σ H s->aM vs us->t vs σ H Q ->
  MB (MW X.prog X.w) X.A (US ((O1 ts X.env).map (·.2)) us) (λ_ s'=>∃ σ' H',aG X pins σ' H' s'/\Q σ' H') X.xe s
structure Kb (X:Cx)(e:List OH)(t:IV):Prop where
 go:Lv X e t
abbrev JV:=V->V->V->Hp->(Hp->Prop)->Prop
def Jz (X:Cx)(t:JV):Prop:=
 ∀ (pins:List (Mz×Obj)) (s:Mp) (σ:St) (H:Hp) (o i v:V) (ov iv u:Mj) (Q:Hp->Prop),aG X pins σ H s->bv o ov->bv i iv->bv v u->t o i v H Q ->
  MB (MW X.prog X.w) X.A (setItem ov iv u) (λ_ s'=>∃ H',aG X pins σ H' s'/\Q H') X.xe s
abbrev KR:=V->V->Hp->VK->Prop
def LD (X:Cx)(op:Operator)(t:KR):Prop:=
 ∀ (pins:List (Mz×Obj)) (s:Mp) (σ:St) (H:Hp) (x y:V) (v u:Mj) (Q:VK),aG X pins σ H s->bv x v->bv y u->t x y H Q ->
  MB (MW X.prog X.w) X.A (inplaceOp op v u) (EP X pins σ Q) X.xe s
section
variable {X:Cx}{pos:Pos}
def y4 (i:Nat):TG:=λv σ H Q=>Q (σ.set i (some v)) H
theorem Dg {i:Nat}(hN:X.N.Nodup)(hi:X.N[i]?=some x)(hx:Jc X.env.scope x)(hf:X.fn x=true\/X.env.scope.names.lookup x=some .local:=by first|exact .inl rfl|exact .inr rfl|assumption):WG X (.Name x pos) (y4 i):=by
 refine⟨?_⟩;intro pins s σ H v u Q I r h;exact wpAny_assign_Name (kC I hN hi hx r (λs' I'=>⟨_,H,I',h⟩) hf)
def Lg:IV:=λvs σ H Q=>vs=[]/\Q σ H
def J_ (t:TG)(u:IV):IV:=λvs σ H Q=>∃ v r,vs=v::r/\t v σ H λσ' H'=>u r σ' H' Q
theorem bu:Kb X [] Lg:=by
 refine⟨?_⟩;intro pins s σ H vs us Q I r h;obtain⟨e,h⟩:=h;subst e;cases r;exact assignInOrder_nil ⟨σ,H,I,h⟩
theorem aw (h1:WG X e t) (h2:Kb X es u)
  (hs:(O1 (e::es) X.env).map (·.2)=assign e X.env::(O1 es X.env).map (·.2):=by rfl):Kb X (e::es) (J_ t u):=by
 have h1:=h1.go;have h2:=h2.go;refine⟨?_⟩;intro pins s σ H vs us Q I r h;obtain⟨v,vr,e1,h⟩:=h;subst e1;cases r with
 |cons r rr=>
  rw[hs];refine Se (bY (h1 pins s σ H _ _ _ I r h) λ_ s1 ⟨σ1,H1,I1,q1⟩=>?_);exact h2 pins s1 σ1 H1 _ _ Q I1 rr q1
def J7 (K:HD)(n:Nat)(t:IV):TG:=λv σ H Q=>∃ a xs,v=.ref a/\dF K H a xs/\xs.length=n/\t xs σ H Q
theorem Ht {k:Nat}{n:Nat} (hc:X.calm=true) (h:Lv X es t)
  (hn:(O1 es X.env).length=n:=by rfl)(hst:(O1 es X.env).findIdx? (·.1)=none:=by rfl):PG X (.Tuple es k pos) (J7 X.K n t):=by
 intro pins s σ H v u Q I r hw;obtain⟨a,xs,e1,hq,hl,hw⟩:=hw;subst e1;cases r;obtain⟨its,rv,ht,hz⟩:=I.tuple hq;refine assign_Tuple_tuple (I.ok.hd hc) ht (by simp[hn,<- hl,rv.length]) hst λh' hx=>?_
 have I1:aG X pins σ H { s with heap:=h' }:=I.kept (t':=s.toks) λb o e=>hx b o (MR (Mr e)) e
 exact h pins _ σ H xs _ Q I1 (by simpa using rv) hw
def Lw (to ti:TE)(t:JV):TG:=λv σ H Q=>to σ H λo H1=>ti σ H1 λi H2=>t o i v H2 λH3=>Q σ H3
theorem AV (ho:WE X o to) (hi:WE X i ti) (hs:Jz X t)
  (ha:∀ v,assign (.Subscript o i pos) X.env v=(do
   let ov <- holding [v] (Qh o X.env)
   let iv <- holding [v,ov] (Qh i X.env)
   TZ pos
   holding [v,ov,iv] (setItem ov iv v)
   release [v,ov,iv] []):=by intro _;rfl):WG X (.Subscript o i pos) (Lw to ti t):=by
 have ho:=ho.go;have hi:=hi.go;refine⟨?_⟩;intro pins s σ H v u Q I r h;rw[ha];refine KE (NN (bY (ho pins s σ H _ I h) λov s1 ⟨x,H1,I1,r1,q1⟩=>?_));refine KE (NN (bY (hi pins s1 σ H1 _ I1 q1) λiv s2 ⟨y,H2,I2,r2,q2⟩=>?_));refine KE (O5 (KE (NN (bY (hs pins s2 σ H2 x y v ov iv u _ I2 r1 r2 r q2) λ_ s3 ⟨H3,I3,q3⟩=>?_))));exact wpAny_release ⟨σ,H3,I3,q3⟩
def IB (te:TE)(g:TG):TS:=λD σ H=>te σ H λx H1=>g x σ H1 D.nx
theorem i7 (he:WE X e te) (hg:WG X tg g) (hs:swapsWithSole [tg] e pos.line X.env=pure false:=by rfl) (hw:swappedStores [tg] e X.env=pure none:=by rfl)
  (h1:(O1 [tg] X.env).map (·.2)=[assign tg X.env]:=by rfl):WS X (.Assign [tg] e pos) (IB te g):=by
 have he:=he.go;have hg:=hg.go;refine⟨?_⟩;intro pins s σ H D I h;refine wpAny_Assign_stores (bY (he pins s σ H _ I h) λv s1 ⟨x,H1,I1,r1,q1⟩=>?_) hs hw;rw[h1];exact bY (hg pins s1 σ H1 x v _ I1 r1 q1) λ_ s2 q=>q
theorem FH {i:Nat} (hN:X.N.Nodup) (hi:X.N[i]?=some x) (hx:Jc X.env.scope x) (he:WE X e te) (hs:SR e (some (.Name x pos')) pos.line X.env=pure false:=by rfl) (hf:X.fn x=true\/X.env.scope.names.lookup x=some .local:=by first | exact .inl rfl | exact .inr rfl | assumption) :
  WS X (.Assign [.Name x pos'] e pos) (IB te (y4 i)):=by
 have he:=he.go;refine⟨?_⟩;intro pins s σ H D I h;refine wpAny_Assign_Name (bY (he pins s σ H _ I h) λv s1 ⟨y,H1,I1,r1,q1⟩=>?_) hs;exact kC I1 hN hi hx r1 (λs2 I2=>⟨_,H1,I2,q1⟩) hf
def Lp (i j:Nat)(ta:TA):TS:=λD σ H=>ta σ H λvs H1=>∃ v w,vs=[v,w]/\D.nx ((σ.set i (some v)).set j (some w)) H1
theorem lU {i j:Nat}{kt k2 pt2} (hc:X.calm=true) (hN:X.N.Nodup) (hi:X.N[i]?=some x) (hj:X.N[j]?=some y) (hij:i ≠ j)
  (hx:X.env.scope.names.lookup x=some .local)(hy:X.env.scope.names.lookup y=some .local)(ha:WA X [a,b] ta)
  (hw:swappedStores [.Tuple [.Name x px,.Name y py] kt pt] (.Tuple [a,b] k2 pt2) X.env=pure (some [x,y]))
  (hs:swapsWithSole [.Tuple [.Name x px,.Name y py] kt pt] (.Tuple [a,b] k2 pt2) pos.line X.env=pure false:=by rfl):
  WS X (.Assign [.Tuple [.Name x px,.Name y py] kt pt] (.Tuple [a,b] k2 pt2) pos) (Lp i j ta):=by
 have ha:=ha.go;refine⟨?_⟩;intro pins s σ H D I h;rw[exec_Assign_arm];refine KE (O5 ?_);rw[hs];refine KE (Mh ?_);rw[MT (by decide)];refine KE (Tuple_ (bY (ha _ pins s σ H _ I h) λus s1 ⟨vs,H1,I1,r1,q1⟩=>?_));obtain⟨v,w,e1,q1⟩:=q1;subst e1;obtain⟨u1,u2,rfl,rv,rw'⟩:∃ u1 u2,us=[u1,u2]/\bv v u1/\bv w u2:=by
  cases r1 with
  |cons p q=>
   cases q with
   |cons p' q'=>
    cases q';exact⟨_,_,rfl,p,p'⟩
 refine M1 ?_ (by show 2<=MI;decide);have I2:aG X pins σ H1 { s1 with heap:=s1.heap.push { cls:=.type "tuple",data:=.seq [u1,u2].toArray } }:=I1.kept (t':=s1.toks) λb o e=>Mg _ e
 rw[hw];refine KE (Mh ?_);show MB (MW X.prog X.w) X.A (do rule "assign.swapped-stores";let items <- unpackItems (.ref s1.heap.objs.size) 2 none;US [λv=>bindName X.env y v,λv=>bindName X.env x v] items.reverse;pure Flow.next) _ _ _;refine KE (QF (KE (unpackItems_tuple (items:=#[u1,u2]) (I.ok.hd hc) (VB s1.heap _) λh' hx'=>?_)));have I3:=I2.kept (h':=h') (t':=s1.toks) λb o e=>hx' b o (MR (Mr e)) e
 show MB _ _ (US [λv=>bindName X.env y v,λv=>bindName X.env x v] [u2,u1]>>=λ_=>pure Flow.next) _ _ _;refine KE (Se (wpAny_bindName (kC I3 hN hj (.inl hy) rw' (λs2 I4=>?_) (.inr hy))));refine Se (wpAny_bindName (kC I4 hN hi (.inl hx) rv (λs3 I5=>assignInOrder_nil (Mh ?_)) (.inr hx)));rw[List.set_comm _ _ (OU hij)] at I5;exact⟨_,H1,I5,q1⟩
def Lm (i:Nat)(te:TE)(ti:KR):TS:=λD σ H=>∃ x,σ[i]?=some (some x)/\te σ H λy H1=>ti x y H1 λz H2=>D.nx (σ.set i (some z)) H2
theorem xA {i:Nat} (hN:X.N.Nodup) (hi:X.N[i]?=some x) (hx:Jc X.env.scope x) (he:WE X e te) (ho:LD X op ti) (hf:X.fn x=true\/X.env.scope.names.lookup x=some .local:=by first | exact .inl rfl | exact .inr rfl | assumption) :
  WS X (.AugAssign (.Name x pos') op e pos) (Lm i te ti):=by
 have he:=he.go;refine⟨?_⟩;intro pins s σ H D I h;obtain⟨v,e1,h⟩:=h;obtain⟨m,hn,hl⟩:=I.loc;have vis:Jl X.env.scope x:=by rcases hx with k|k;exact .inl k;exact .inr (.inl k)
 obtain⟨u,r,l⟩:=hl i x v hi e1 vis;refine wpAny_AugAssign_Name ?_;have go:MB (MW X.prog X.w) X.A (Qh e X.env) (λw s₂=>MB (MW X.prog X.w) X.A (inplaceOp op u w) (λr s₃=>MB (MW X.prog X.w) X.A (storeName X.env x r) (λ_=>SP X pins D .next) X.xe s₃) X.xe s₂) X.xe s:=by
  refine bY (he pins s σ H _ I h) λw s1 ⟨y,H1,I1,r1,q1⟩=>?_
  refine bY (ho pins s1 σ H1 v y u w _ I1 r r1 q1) λz s2 ⟨zv,H2,I2,r2,q2⟩=>?_
  exact kC I2 hN hi hx r2 (λs3 I3=>⟨_,H2,I3,q2⟩) hf
 rcases l with ⟨hk,hm⟩|⟨hk,c,hc,hcell⟩
 ·exact Rv I.ok.kind hk hn hm go
 ·rcases hk with hk|hk
  ·exact wpAny_loadName_cell I.ok.kind hk hc hcell go
  ·rcases hx with k|k
   ·have:X.env.scope.names.lookup x=some .free:=hk;rw[k] at this;cases this
   ·have:X.env.scope.names.lookup x=some .free:=hk;rw[k] at this;cases this
def LY (f:Int->Int->Int):KR:=λx y H Q=>∃ i j,x=.int i/\y=.int j/\Q (.int (f i j)) H
theorem Hr:LD X .Add (LY λi j=>i+j):=by
 intro pins s σ H x y v u Q I r1 r2 h;obtain⟨i,j,e1,e2,q⟩:=h;subst e1;subst e2;obtain⟨t,rfl⟩:=r1;obtain⟨t',rfl⟩:=r2;exact iadd_int ⟨.int _,H,I.tok _,⟨_,rfl⟩,q⟩
end
section
variable {X:Cx}{pos:Pos}
def Hg (c:TT)(tb:TS):TS:=λD σ H=>∃ W:Nat->St->Hp->Prop,(∃ m,W m σ H)/\∀ m σ H,W m σ H ->
 c σ H λb H1=>if b=true then ∃ N:St->Hp->Prop,(∀ σ' H',N σ' H'->∃ m',m'<m/\W m' σ' H')/\tb { D with nx:=N,ct:=N,bk:=D.nx } σ H1 else D.nx σ H1
theorem oY (hp:PassesOwn (MW X.prog X.w) X.A X.env X.xe)(hc:WT X c tc)(hb:cM X body tb):WS X (.While c body [] pos) (Hg tc tb):=by
 have hc:=hc.go;have hb:=hb.go;refine⟨?_⟩;intro pins s σ H D I h;obtain⟨W,⟨m0,w0⟩,kY⟩:=h;refine wpAny_While (codeAny_whileLoop (λn s'=>∃ σ' H',aG X pins σ' H' s'/\W n σ' H') ?_ m0 ⟨σ,H,I,w0⟩);rintro n s1 ⟨σ1,H1,I1,w1⟩;refine Pr hp (bY (hc pins s1 σ1 H1 _ I1 (kY n σ1 H1 w1)) λb s2 ⟨H2,I2,q2⟩=>?_);cases b with
 |true=>
  obtain⟨N,hN,q2⟩:=q2;rw[Nd rfl];refine Pr hp (bY (hb pins s2 σ1 H2 _ I2 q2) λf s3 q3=>?_);cases f with
  |next=>
   obtain⟨σ3,H3,I3,n3⟩:=q3;obtain⟨m',hm,w3⟩:=hN σ3 H3 n3;exact⟨m',hm,σ3,H3,I3,w3⟩
  |cont=>
   obtain⟨σ3,H3,I3,n3⟩:=q3;obtain⟨m',hm,w3⟩:=hN σ3 H3 n3;exact⟨m',hm,σ3,H3,I3,w3⟩
  |brk=>exact q3
  |ret v=>exact q3
 |false=>
  rw[MT Nj];exact R5 ⟨σ1,H2,I2,q2⟩
end
structure It where
 go:Nat->Hp->Prop
 yld:Nat->Hp->V->Hp->Prop
 stop:Nat->Hp->Prop
def oV (X:Cx)(pins:List (Mz×Obj))(H:Hp)(b:Mz):Prop:=
 H b=none/\b≠X.env.locals/\b∉X.fs/\(b∈X.ex\/X.s₀.heap.objs.size<=b)/\(∀ x c,X.env.cells.lookup x=some c->c≠b)/\∀ p∈X.pn++pins,p.1≠b
theorem aG.fpOk (I:aG X pins σ H s)(hb:s.heap.objs.size<=b)(hn:H' b=none):oV X pins H' b:=by
 refine⟨hn,OD (MG I.lt hb),I.nofs hb,.inr (MQ I.sz hb),λx c e z=>?_,λp hp z=>?_⟩
 ·obtain⟨v,q⟩:=I.cell x c e;exact absurd (MG q.lt (by rw[z];exact hb)) (Nl _)
 ·exact absurd (MG (Mr (I.pin p hp).1) (by rw[z];exact hb)) (Nl _)
structure vS (P:MS)(w:No)(K:HD)(tg:OH)(J:It)(fp:List Mz)(it:Mz)(tn:Nat->Os->Prop):Prop where
 mem:it∈fp
 obj:∀ i h,tn i h->∀ b∈fp,∃ o,h.get? b=some o/\∀ v,o.data≠.cell v
 keep:∀ i h h',tn i h->(∀ b∈fp,∀ o,h.get? b=some o->h'.get? b=some o)->tn i h'
 item:∀ (X:Cx),X.prog=P->X.w=w->X.K=K->X.calm=true->∀ (i:Nat) (pins:List (Mz×Obj)) (s:Mp) (σ:St) (H:Hp) (E:Mj->Mp->Prop),aG X pins σ H s->(∀ b∈fp,oV X pins H b)->tn i s.heap->J.go i H ->
  MB (MW P w) X.A (Ql (.ref it)) (λr s1=>∃ u,r=some u /\
   MB (MW P w) X.A (QV tg (.ref it) u) (λ_ s2=>∃ x H',aG X pins σ H' s2/\bv x u/\J.yld i H x H'/\tn (i+1) s2.heap/\∀ b∈fp,H' b=none) E s1) E s
 done:∀ (X:Cx),X.prog=P->X.w=w->X.K=K->X.calm=true->∀ (i:Nat) (pins:List (Mz×Obj)) (s:Mp) (σ:St) (H:Hp) (E:Mj->Mp->Prop),aG X pins σ H s->(∀ b∈fp,oV X pins H b)->tn i s.heap->J.stop i H ->
  MB (MW P w) X.A (Ql (.ref it)) (λr s1=>r=none/\aG X pins σ H s1) E s
 self:∀ (A:ND) (i:Nat) (s:Mp) (Q:Mj->Mp->Prop) (E:Mj->Mp->Prop),tn i s.heap->Q (.ref it) s->MB (MW P w) A (Ul (.ref it)) Q E s
abbrev TI:=St->Hp->(It->Hp->Prop)->Prop
def LF (X:Cx)(pins:List (Mz×Obj))(σ:St)(tg:OH)(R:It->Hp->Prop)(itv:Mj)(s2:Mp):Prop:=
 ∃ (it:Mz) (fp:List Mz) (tn:Nat->Os->Prop) (J:It) (H':Hp),itv=.ref it/\aG X pins σ H' s2/\vS X.prog X.w X.K tg J fp it tn/\tn 0 s2.heap/\(∀ b∈fp,oV X pins H' b)/\R J H'
def PI (X:Cx)(tg iter:OH)(wi:TI):Prop:=
 ∀ (pins:List (Mz×Obj)) (s:Mp) (σ:St) (H:Hp) (R:It->Hp->Prop),aG X pins σ H s->wi σ H R ->
  MB (MW X.prog X.w) X.A (Qh iter X.env) (λv s1=>MB (MW X.prog X.w) X.A (Ul v) (LF X pins σ tg R) X.xe s1) X.xe s
structure WI (X:Cx)(tg e:OH)(t:TI):Prop where
 go:PI X tg e t
theorem A5 (ho:s.heap.get? it=some o) (hc:o.cls=.type n) (hd:o.data=.fields vs)
  (hn:["enumerate","zip","dict_itemiterator","dict_reverseitemiterator","odict_iterator","itertools.zip_longest","itertools.pairwise"].contains n=false)(hQ:Q () s):MB M A (QV tg (.ref it) u) Q E s:=by
 unfold QV;cases tg<;>first
  |exact Mh hQ
  | (cases u <;> first
    |exact Mh hQ
    | (refine KE (wpAny_load ho ?_)
       rw[hc,hd];show MB M A (if(["enumerate","zip","dict_itemiterator","dict_reverseitemiterator","odict_iterator","itertools.zip_longest","itertools.pairwise"].contains n&&vs[0]?==some (OX _))=true then _ else _) Q E s;rw[MT (by intro h;rw[hn,Qi] at h;cases h)];exact Mh hQ))
def Ky (K:HD)(a:Mz):It:=
 ⟨λi H=>∃ xs x,bH K H a xs/\xs[i]?=some x,λi H x H'=>H'=H/\∀ xs,bH K H a xs->xs[i]?=some x,λi H=>∃ xs,bH K H a xs/\xs.length<=i⟩
def Kp (K:HD)(a:Mz):It:=
 ⟨λi H=>∃ xs x,dF K H a xs/\xs[i]?=some x,λi H x H'=>H'=H/\∀ xs,dF K H a xs->xs[i]?=some x,λi H=>∃ xs,dF K H a xs/\xs.length<=i⟩
def Dj (lo:Int)(n:Nat):It:=⟨λi _=>i<n,λi H x H'=>H'=H/\x=.int (lo+i),λi _=>n<=i⟩
theorem BH {P:MS}{w:No}{K:HD}{tg:OH}(a it:Mz):vS P w K tg (Ky K a) [it] it (λi h=>h.IsListIter it a i) where
 mem:=by simp
 obj:=λi h st b hb=>by
  have e:b=it:=by simpa using hb
  subst e;obtain⟨o,e,c,d⟩:=st;exact⟨o,e,λv z=>by rw[d] at z;cases z⟩
 keep:=λi h h' st k=>st.at λo e=>k it (by simp) o e
 item:=by
  intro X hP hw hK hc i pins s σ H E I hf st hg;subst hP hw hK;obtain⟨xs,x,hq,hx⟩:=hg;obtain⟨its,rv,p,hz⟩:=I.list hq;obtain⟨u,hu,ru⟩:=rv.get hx;obtain⟨f0,f1,f2,f3,f4,f5⟩:=hf it (by simp);refine Tq st p.isList (x:=u) (by simpa using hu) λh' st' sb=>?_
  have I1:aG X pins σ H { s with heap:=h' }:=I.turned (t':=s.toks) (λb o hb e=>(sb.2 b hb).trans e) f0 f1 f3 f4 f5;obtain⟨o,e,c,d⟩:=id st';exact⟨u,rfl,A5 (s:={ s with heap:=h' }) e c d (by decide) ⟨x,H,I1,ru,⟨rfl,λys hy=>by rw[I.list_inj hy hq];exact hx⟩,st',λb hb=>(hf b hb).1⟩⟩
 done:=by
  intro X hP hw hK hc i pins s σ H E I hf st hg;subst hP hw hK;obtain⟨xs,hq,hx⟩:=hg;obtain⟨its,rv,p,hz⟩:=I.list hq;obtain⟨f0,f1,f2,f3,f4,f5⟩:=hf it (by simp);have hl:=rv.length;exact wpAny_pyNext_list_end (I.ok.hd hc) st p.isList (by simp;lia) λh' eb=>⟨rfl,I.turned (t':=s.toks) (λb o hb e=>eb b o hb e) f0 f1 f3 f4 f5⟩
 self:=λ_ _ _ _ _ st h=>wpAny_pyIter_listiter st h
theorem zM {P:MS}{w:No}{K:HD}{tg:OH}(a it:Mz):vS P w K tg (Kp K a) [it] it (λi h=>h.IsTupleIter it a i) where
 mem:=by simp
 obj:=λi h st b hb=>by
  have e:b=it:=by simpa using hb
  subst e;obtain⟨o,e,c,d⟩:=st;exact⟨o,e,λv z=>by rw[d] at z;cases z⟩
 keep:=λi h h' st k=>st.at λo e=>k it (by simp) o e
 item:=by
  intro X hP hw hK hc i pins s σ H E I hf st hg;subst hP hw hK;obtain⟨xs,x,hq,hx⟩:=hg;obtain⟨its,rv,p,hz⟩:=I.tuple hq;obtain⟨u,hu,ru⟩:=rv.get hx;obtain⟨f0,f1,f2,f3,f4,f5⟩:=hf it (by simp);refine wpAny_pyNext_tuple_item st (show s.heap.IsTuple a its.toArray from p) (x:=u) (by simpa using hu) λh' st' sb=>?_
  have I1:aG X pins σ H { s with heap:=h' }:=I.turned (t':=s.toks) (λb o hb e=>(sb.2 b hb).trans e) f0 f1 f3 f4 f5;obtain⟨o,e,c,d⟩:=id st';exact⟨u,rfl,A5 (s:={ s with heap:=h' }) e c d (by decide) ⟨x,H,I1,ru,⟨rfl,λys hy=>by rw[I.tuple_inj hy hq];exact hx⟩,st',λb hb=>(hf b hb).1⟩⟩
 done:=by
  intro X hP hw hK hc i pins s σ H E I hf st hg;subst hP hw hK;obtain⟨xs,hq,hx⟩:=hg;obtain⟨its,rv,p,hz⟩:=I.tuple hq;obtain⟨f0,f1,f2,f3,f4,f5⟩:=hf it (by simp);have hl:=rv.length;exact wpAny_pyNext_tuple_end (I.ok.hd hc) st (show s.heap.IsTuple a its.toArray from p) (by simp;lia) λh' eb=>⟨rfl,I.turned (t':=s.toks) (λb o hb e=>eb b o hb e) f0 f1 f3 f4 f5⟩
 self:=λ_ _ _ _ _ st h=>wpAny_pyIter_tupleiter st h
theorem zP {P:MS}{w:No}{K:HD}{tg:OH}(it:Mz)(lo:Int)(n:Nat):vS P w K tg (Dj lo n) [it] it (λi h=>IsRangeIter h it (lo+(i:Nat)*1) ((n:Int)-(i:Nat)) 1) where
 mem:=by simp
 obj:=λi h st b hb=>by
  have e:b=it:=by simpa using hb
  subst e;exact⟨_,st,λv z=>by
   have z':Data.fields _=Data.cell v:=z;cases z'⟩
 keep:=λi h h' st k=>k it (by simp) _ st
 item:=by
  intro X hP hw hK hc i pins s σ H E I hf st hg;subst hP hw hK;obtain⟨f0,f1,f2,f3,f4,f5⟩:=hf it (by simp);have W:=Walks.range (prog:=X.prog) (w:=X.w) (I.ok.hd hc) it lo 1 n;refine W.item i s _ _ hg st λv h' tk hv st' kk=>?_
  obtain⟨t,rfl⟩:=hv;have I1:aG X pins σ H { s with heap:=h',toks:=tk }:=I.turned (λb o hb e=>kk b o (by simpa using hb) e) f0 f1 f3 f4 f5;refine⟨_,rfl,A5 (s:={ s with heap:=h',toks:=tk }) (n:="range_iterator") st' rfl rfl (by decide) ⟨.int (lo+i),H,I1,⟨t,?_⟩,⟨rfl,rfl⟩,st',λb hb=>(hf b hb).1⟩⟩;rw[Int.mul_one]
 done:=by
  intro X hP hw hK hc i pins s σ H E I hf st hg;subst hP hw hK;obtain⟨f0,f1,f2,f3,f4,f5⟩:=hf it (by simp);exact wpAny_pyNext_range_end (I.ok.hd hc) st (by have:n<=i:=hg;lia) λh' eb=>⟨rfl,I.turned (t':=s.toks) (λb o hb e=>eb b o hb e) f0 f1 f3 f4 f5⟩
 self:=λ_ _ _ _ _ st h=>wpAny_pyIter_rangeiter st h
section
variable {X:Cx}{tg:OH}
theorem Fl {lo hi:Int}{tk:Nat} (I:aG X pins σ H s) (h1:-(2 ^ 62) <= lo) (h2:lo < 2 ^ 62) (h3:-(2 ^ 62) <= hi) (h4:hi < 2 ^ 62)
  (q:R (Dj lo (hi-lo).toNat) H):MB (MW X.prog X.w) X.A (Ul (.ref s.heap.objs.size)) (LF X pins σ tg R) E { s with heap:=s.heap.push { cls:=.type "range",data:=.fields #[.int lo t,.int hi u,.int 1 v] },toks:=tk }:=by
 refine wpAny_pyIter_range (IsRange.new ..) (small_one h1 h2 h3 h4) ?_;have I1:aG X pins σ H { s with heap:=s.heap.push { cls:=.type "range",data:=.fields #[.int lo t,.int hi u,.int 1 v] },toks:=tk }:=I.kept λb o e=>Mg _ e
 refine⟨(s.heap.push { cls:=.type "range",data:=.fields #[.int lo t,.int hi u,.int 1 v] }).objs.size,[(s.heap.push { cls:=.type "range",data:=.fields #[.int lo t,.int hi u,.int 1 v] }).objs.size],_,_,H,rfl,
  I1.kept (t':=tk) λb o e=>Mg _ e,zP _ lo (hi-lo).toNat,?_,λb hb=>?_,q⟩
 ·have e1:lo+((0:Nat):Int)*1=lo:=by simp
  have e2:(((hi-lo).toNat:Nat):Int)-((0:Nat):Int)=Builtin.Range.rangeSize lo hi 1:=by rw[UT];split<;>lia
  show IsRangeIter _ _ (lo+((0:Nat):Int)*1) ((((hi-lo).toNat:Nat):Int)-((0:Nat):Int)) 1;rw[e1,e2];exact Mn _ rfl
 ·have e:b=(s.heap.push { cls:=.type "range",data:=.fields #[.int lo t,.int hi u,.int 1 v] }).objs.size:=by simpa using hb
  subst e;exact I1.fpOk (Mm _) (I1.hok.fresh (Mm _))
def Kv (ta:TA):TI:=λσ H R=>ta σ H λvs H1=>∃ j:Int,vs=[.int j]/\-(2^62)<=j/\j<2^62/\R (Dj 0 j.toNat) H1
theorem bg (hg:Gl X "range")(hm:X.mg "range"=none)(ha:WA X [a] ta)(hs:MU [a] X.env=[(false,Qh a X.env)]:=by rfl):WI X tg (.Call (.Name "range" p) [a] [] pos) (Kv ta):=by
 have ha:=ha.go;refine⟨?_⟩;intro pins s σ H R I h;refine Call_ (jY I hg hm boot_range (Oi (bY (ha pos pins s σ H _ I h) λus s1 ⟨vs,H1,I1,r1,q1⟩=>?_) hs rfl));obtain⟨j,e,q1,q2,q⟩:=q1;subst e;cases r1 with
 |cons r rr=>
  cases rr;obtain⟨t,rfl⟩:=r;exact call_range_1 (Fl I1 (by lia) (by lia) q1 q2 (by simpa using q))
def Lf (wi:TI)(g:TG)(tb:TS):TS:=λD σ H=>wi σ H λJ H1=>∃ W:Nat->Nat->St->Hp->Prop,(∃ m,W 0 m σ H1)/\∀ i m σ H,W i m σ H ->
 (J.stop i H/\D.nx σ H)\/(J.go i H/\∃ N:St->Hp->Prop,(∀ σ' H',N σ' H'->∃ m',m'<m/\W (i+1) m' σ' H')/\∀ x H',J.yld i H x H'->g x σ H' λσ2 H2=>tb { D with nx:=N,ct:=N,bk:=D.nx } σ2 H2)
def j6 (fp:List Mz)(h:Os):List (Mz×Obj):=fp.filterMap λb=>(h.get? b).map λo=>(b,o)
theorem fY (hb:b∈fp)(e:h.get? b=some o):(b,o)∈j6 fp h:=PX.mpr ⟨b,hb,by rw[e];rfl⟩
theorem oE (hp:p∈j6 fp h):p.1∈fp/\h.get? p.1=some p.2:=by
 obtain⟨b,hb,e⟩:=PX.mp hp;cases q:h.get? b with
 |none=>rw[q] at e;cases e
 |some o=>
  rw[q] at e;have e':(b,o)=p:=Mi e;subst e';exact⟨hb,q⟩
theorem aG.pinned (I:aG X pins σ H s)(hf:∀ b∈fp,oV X pins H b)(ho:∀ b∈fp,∃ o,s.heap.get? b=some o/\∀ v,o.data≠.cell v):aG X (pins++j6 fp s.heap) σ H s:=
 I.pins_of λp hp=>(M_.mp hp).elim (λz=>I.pin p (MD _ z)) λz=>by
  obtain⟨hb,e⟩:=oE z;obtain⟨f0,f1,f2,_⟩:=hf p.1 hb;obtain⟨o,e',d⟩:=ho p.1 hb;rw[e] at e';cases e';exact⟨e,f0,f1,f2,d⟩
theorem aG.unpinned (I:aG X (pins++pl) σ H s):aG X pins σ H s:=I.pins_of λp hp=>I.pin p (MD _ (Om _ hp))
theorem eA (hp:PassesOwn (MW X.prog X.w) X.A X.env X.xe) (hc:X.calm=true) (hi:WI X tg iter wi) (hg:WG X tg g) (hb:cM X body tb)
  (hs:∀ x,Oa iter X.env x=pure x:=by intro _;rfl):WS X (.For tg iter body [] pos) (Lf wi g tb):=by
 have hi:=hi.go;have hg:=hg.go;have hb:=hb.go;refine⟨?_⟩;intro pins s σ H D I h;refine wpAny_For (bY (hi pins s σ H _ I h) λv s1 h1=>bY h1 λitv s2 h2=>?_) hs;obtain⟨it,fp,tn,J,H2,e,I2,T,st2,f2,W,⟨m0,w0⟩,kY⟩:=h2;subst e;have stat:∀ {H':Hp},(∀ b∈fp,H' b=none)->∀ b∈fp,oV X pins H' b:=λhn b hb=>⟨hn b hb,(f2 b hb).2⟩
 refine codeAny_forLoop_any (λn s'=>∃ i σ' H',aG X pins σ' H' s'/\tn i s'.heap/\(∀ b∈fp,H' b=none)/\W i n σ' H') ?_ m0 ⟨0,σ,H2,I2,st2,λb hb=>(f2 b hb).1,w0⟩;rintro n s3 ⟨i,σ3,H3,I3,st3,fr3,w3⟩;rcases kY i n σ3 H3 w3 with ⟨stop,qn⟩|⟨go,N,hN,step⟩
 ·refine Pr hp (bY (T.done X rfl rfl rfl hc i pins s3 σ3 H3 X.xe I3 (stat fr3) st3 stop) λr s4 ⟨hr,I4⟩=>?_);subst hr;exact R5 ⟨σ3,H3,I4,qn⟩
 ·refine Pr hp (bY (T.item X rfl rfl rfl hc i pins s3 σ3 H3 X.xe I3 (stat fr3) st3 go) λr s4 ⟨u,hr,h4⟩=>?_);subst hr;refine Pr hp (bY h4 λ_ s5 ⟨x,H5,I5,r5,y5,st5,fr5⟩=>?_);have I5':=I5.pinned (stat fr5) (T.obj _ _ st5);refine Pr hp (bY (hg _ s5 σ3 H5 x u _ I5' r5 (step x H5 y5)) λ_ s6 ⟨σ6,H6,I6,q6⟩=>?_);refine Pr hp (bY (hb _ s6 σ6 H6 _ I6 q6) λf s7 q7=>?_);have again:∀ {σ7:St}{H7:Hp},aG X (pins++j6 fp s5.heap) σ7 H7 s7->N σ7 H7->∃ m,m<n/\∃ i σ' H',aG X pins σ' H' s7/\tn i s7.heap/\(∀ b∈fp,H' b=none)/\W i m σ' H':=λ{σ7 H7} I7 n7=>by
   obtain⟨m',hm,w7⟩:=hN σ7 H7 n7;refine⟨m',hm,i+1,σ7,H7,I7.unpinned,T.keep _ _ _ st5 λb hb o e=>(I7.pin (b,o) (MD _ (MD _ (fY hb e)))).1,λb hb=>?_,w7⟩;obtain⟨o,e,d⟩:=T.obj _ _ st5 b hb;exact(I7.pin (b,o) (MD _ (MD _ (fY hb e)))).2.1
  cases f with
  |next=>obtain⟨σ7,H7,I7,n7⟩:=q7;exact again I7 n7
  |cont=>obtain⟨σ7,H7,I7,n7⟩:=q7;exact again I7 n7
  |brk=>obtain⟨σ7,H7,I7,q7⟩:=q7;exact⟨σ7,H7,I7.unpinned,q7⟩
  |ret v=>obtain⟨x7,σ7,H7,I7,r7,q7⟩:=q7;exact⟨x7,σ7,H7,I7.unpinned,r7,q7⟩
end
theorem CQ {K:HD}{a:Mz}{xs:List V}{g:TG}{tb:TS}{D:uD}{σ:St}{H:Hp} (Pv:Nat->St->Hp->Prop) (h0:Pv 0 σ H) (hl:∀ i σ H,i <= xs.length->Pv i σ H->bH K H a xs)
  (hs:∀ i x σ H,xs[i]?=some x->Pv i σ H->g x σ H λσ2 H2=>tb { D with nx:=Pv (i+1),ct:=Pv (i+1),bk:=D.nx } σ2 H2)(hd:∀ σ H,Pv xs.length σ H->D.nx σ H):
  ∃ W:Nat->Nat->St->Hp->Prop,(∃ m,W 0 m σ H)/\∀ i m σ H,W i m σ H ->
   ((Ky K a).stop i H/\D.nx σ H)\/((Ky K a).go i H/\∃ N:St->Hp->Prop,(∀ σ' H',N σ' H'->∃ m',m'<m/\W (i+1) m' σ' H')/\∀ x H',(Ky K a).yld i H x H'->g x σ H' λσ2 H2=>tb { D with nx:=N,ct:=N,bk:=D.nx } σ2 H2):=by
 refine⟨λi m σ H=>m=xs.length-i/\i<=xs.length/\Pv i σ H,⟨xs.length,by simp,Nq _,h0⟩,?_⟩;rintro i m σ H ⟨rfl,hi,p⟩;have q:=hl i σ H hi p
 by_cases hlt:i<xs.length
 ·refine .inr ⟨⟨xs,xs[i],q,by simp[hlt]⟩,Pv (i+1),λσ' H' p'=>⟨xs.length-(i+1),by lia,rfl,hlt,p'⟩,λx H' y=>?_⟩;obtain⟨e,y⟩:=y;subst e;exact hs i x σ _ (y xs q) p
 ·have e:i=xs.length:=by lia
  subst e;exact .inl ⟨⟨xs,q,Mm _⟩,hd σ H p⟩
theorem Gs {K:HD}{a:Mz}{xs:List V}{g:TG}{tb:TS}{D:uD}{σ:St}{H:Hp} (Pv:Nat->St->Hp->Prop) (h0:Pv 0 σ H) (hl:∀ i σ H,i <= xs.length->Pv i σ H->dF K H a xs)
  (hs:∀ i x σ H,xs[i]?=some x->Pv i σ H->g x σ H λσ2 H2=>tb { D with nx:=Pv (i+1),ct:=Pv (i+1),bk:=D.nx } σ2 H2)(hd:∀ σ H,Pv xs.length σ H->D.nx σ H):
  ∃ W:Nat->Nat->St->Hp->Prop,(∃ m,W 0 m σ H)/\∀ i m σ H,W i m σ H ->
   ((Kp K a).stop i H/\D.nx σ H)\/((Kp K a).go i H/\∃ N:St->Hp->Prop,(∀ σ' H',N σ' H'->∃ m',m'<m/\W (i+1) m' σ' H')/\∀ x H',(Kp K a).yld i H x H'->g x σ H' λσ2 H2=>tb { D with nx:=N,ct:=N,bk:=D.nx } σ2 H2):=by
 refine⟨λi m σ H=>m=xs.length-i/\i<=xs.length/\Pv i σ H,⟨xs.length,by simp,Nq _,h0⟩,?_⟩;rintro i m σ H ⟨rfl,hi,p⟩;have q:=hl i σ H hi p
 by_cases hlt:i<xs.length
 ·refine .inr ⟨⟨xs,xs[i],q,by simp[hlt]⟩,Pv (i+1),λσ' H' p'=>⟨xs.length-(i+1),by lia,rfl,hlt,p'⟩,λx H' y=>?_⟩;obtain⟨e,y⟩:=y;subst e;exact hs i x σ _ (y xs q) p
 ·have e:i=xs.length:=by lia
  subst e;exact .inl ⟨⟨xs,q,Mm _⟩,hd σ H p⟩
theorem ia {lo:Int}{n:Nat}{g:TG}{tb:TS}{D:uD}{σ:St}{H:Hp} (Pv:Nat->St->Hp->Prop) (h0:Pv 0 σ H)
  (hs:∀ i σ H,i<n->Pv i σ H->g (.int (lo+i)) σ H λσ2 H2=>tb { D with nx:=Pv (i+1),ct:=Pv (i+1),bk:=D.nx } σ2 H2)(hd:∀ σ H,Pv n σ H->D.nx σ H):
  ∃ W:Nat->Nat->St->Hp->Prop,(∃ m,W 0 m σ H)/\∀ i m σ H,W i m σ H ->
   ((Dj lo n).stop i H/\D.nx σ H)\/((Dj lo n).go i H/\∃ N:St->Hp->Prop,(∀ σ' H',N σ' H'->∃ m',m'<m/\W (i+1) m' σ' H')/\∀ x H',(Dj lo n).yld i H x H'->g x σ H' λσ2 H2=>tb { D with nx:=N,ct:=N,bk:=D.nx } σ2 H2):=by
 refine⟨λi m σ H=>m=n-i/\i<=n/\Pv i σ H,⟨n,by simp,Nq _,h0⟩,?_⟩;rintro i m σ H ⟨rfl,hi,p⟩
 by_cases hlt:i<n
 ·refine .inr ⟨hlt,Pv (i+1),λσ' H' p'=>⟨n-(i+1),by lia,rfl,hlt,p'⟩,λx H' y=>?_⟩;obtain⟨e,y⟩:=y;subst e y;exact hs i σ _ hlt p
 ·have e:i=n:=by lia
  subst e;exact .inl ⟨Mm _,hd σ H p⟩
abbrev R2:=V->V->Hp->VK->Prop
def k_ (X:Cx)(f:Mj->Mj->Sem Mj)(r:R2):Prop:=
 ∀ (pins:List (Mz×Obj)) (s:Mp) (σ:St) (H:Hp) (x y:V) (v u:Mj) (Q:VK),aG X pins σ H s->bv x v->bv y u->r x y H Q ->
  MB (MW X.prog X.w) X.A (f v u) (EP X pins σ Q) X.xe s
def LB (X:Cx)(f:Mj->Sem Mj)(r:V->Hp->VK->Prop):Prop:=
 ∀ (pins:List (Mz×Obj)) (s:Mp) (σ:St) (H:Hp) (x:V) (v:Mj) (Q:VK),aG X pins σ H s->bv x v->r x H Q ->
  MB (MW X.prog X.w) X.A (f v) (EP X pins σ Q) X.xe s
def dg (X:Cx)(f:Mj)(r:List V->Hp->VK->Prop):Prop:=
 ∀ (pins:List (Mz×Obj)) (s:Mp) (σ:St) (H:Hp) (xs:List V) (us:List Mj) (Q:VK),aG X pins σ H s->aM xs us->r xs H Q ->
  MB (MW X.prog X.w) X.A (call f us) (EP X pins σ Q) X.xe s
def JS (r:R2)(ta tb:TE):TE:=λσ H Q=>ta σ H λx H1=>tb σ H1 λy H2=>r x y H2 Q
def Mc (r:V->Hp->VK->Prop)(ta:TE):TE:=λσ H Q=>ta σ H λx H1=>r x H1 Q
inductive rI (C:Int->Int->Prop)(g:Int->Int->V)(x y:V)(H:Hp)(Q:VK):Prop
 |mk (i j:Int) (_:x=.int i) (_:y=.int j) (_:C i j) (_:Q (g i j) H)
inductive Fu (g:Int->Int->V)(x y:V)(H:Hp)(Q:VK):Prop
 |mk (i j:Int) (_:x=.int i) (_:y=.int j) (_:Q (g i j) H)
def rU (g:Int->V):V->Hp->VK->Prop:=λx H Q=>∃ i,x=.int i/\Q (g i) H
section
variable {X:Cx}{a b c:OH}{ta tb tc:TE}{pos:Pos}
theorem II (ha:PE X a ta) (hb:PE X b tb) {pins:List (Mz × Obj)}{s:Mp}{σ:St}{H:Hp}{R:V->V->Hp->Prop} (I:aG X pins σ H s)
  (h:ta σ H λx H1=>tb σ H1 λy H2=>R x y H2){Q:Mj->Mp->Prop}{f:Mj->Mj->Sem Mj}
  (hf:∀ v u s2 x y H2,aG X pins σ H2 s2->bv x v->bv y u->R x y H2->MB (MW X.prog X.w) X.A (f v u) Q X.xe s2):
  MB (MW X.prog X.w) X.A (Qh a X.env) (λv s₁=>MB (MW X.prog X.w) X.A (Qh b X.env) (λu s₂=>MB (MW X.prog X.w) X.A (f v u) Q X.xe s₂) X.xe s₁) X.xe s:=by
 refine bY (ha pins s σ H _ I h) λv s1 ⟨x,H1,I1,r1,q1⟩=>?_
 refine bY (hb pins s1 σ H1 _ I1 q1) λu s2 ⟨y,H2,I2,r2,q2⟩=>?_
 exact hf v u s2 x y H2 I2 r1 r2 q2
theorem ap {op:Operator}{r:R2}(ho:k_ X (Qo op) r)(ha:WE X a ta)(hb:WE X b tb):WE X (.BinOp a op b pos) (JS r ta tb):=by
 have ha:=ha.go;have hb:=hb.go;refine⟨?_⟩;intro pins s σ H Q I h;exact wpAny_BinOp (II ha hb I h λv u s2 x y H2 I2 rx ry q=>ho pins s2 σ H2 x y v u Q I2 rx ry q)
theorem wS (ho:LB X (unaryOp op) r)(ha:WE X a ta):WE X (.UnaryOp op a pos) (Mc r ta):=by
 have ha:=ha.go;refine⟨?_⟩;intro pins s σ H Q I h;exact UnaryOp_ (bY (ha pins s σ H _ I h) λv s1 ⟨x,H1,I1,r1,q1⟩=>ho pins s1 σ H1 x v Q I1 r1 q1)
theorem KM {f:Mj->Mj->Sem Mj}{C:Int->Int->Prop}{g:Int->Int->Int}
  (rule:∀ (i j:Int) (t u:Tok) (s:Mp) (Q:Mj->Mp->Prop) (E:Mj->Mp->Prop),C i j->Q (.int (g i j) s.toks) { s with toks:=s.toks+1 }->MB (MW X.prog X.w) X.A (f (.int i t) (.int j u)) Q E s):
  k_ X f (rI C λi j=>.int (g i j)):=by
 intro pins s σ H x y v u Q I rx ry h;obtain⟨i,j,rfl,rfl,hc,q⟩:=h;obtain⟨t,rfl⟩:=rx;obtain⟨t',rfl⟩:=ry;exact rule i j t t' s _ _ hc ⟨.int (g i j),H,I.tok _,⟨_,rfl⟩,q⟩
theorem JK {f:Mj->Mj->Sem Mj}{g:Int->Int->Int}
  (rule:∀ (i j:Int) (t u:Tok) (s:Mp) (Q:Mj->Mp->Prop) (E:Mj->Mp->Prop),Q (.int (g i j) s.toks) { s with toks:=s.toks+1 }->MB (MW X.prog X.w) X.A (f (.int i t) (.int j u)) Q E s):
  k_ X f (Fu λi j=>.int (g i j)):=by
 intro pins s σ H x y v u Q I rx ry h;obtain⟨i,j,rfl,rfl,q⟩:=h;obtain⟨t,rfl⟩:=rx;obtain⟨t',rfl⟩:=ry;exact rule i j t t' s _ _ ⟨.int (g i j),H,I.tok _,⟨_,rfl⟩,q⟩
theorem Cn {f:Mj->Mj->Sem Mj}{g:Int->Int->Bool}
  (rule:∀ (i j:Int) (t u:Tok) (s:Mp) (Q:Mj->Mp->Prop) (E:Mj->Mp->Prop),Q (.bool (g i j)) s->MB (MW X.prog X.w) X.A (f (.int i t) (.int j u)) Q E s):
  k_ X f (Fu λi j=>.bl (g i j)):=by
 intro pins s σ H x y v u Q I rx ry h;obtain⟨i,j,rfl,rfl,q⟩:=h;obtain⟨t,rfl⟩:=rx;obtain⟨t',rfl⟩:=ry;exact rule i j t t' s _ _ ⟨.bl (g i j),H,I,rfl,q⟩
def K3 (i j:Int):Prop:=0<=j/\j<=1000000/\i.natAbs<2^64
theorem cQ:k_ X (Qo .Add) (Fu λi j=>.int (i+j)):=JK λ_ _ _ _ _ _ _ q=>add_int q
theorem cm:k_ X (Qo .Sub) (Fu λi j=>.int (i-j)):=JK λ_ _ _ _ _ _ _ q=>sub_int q
theorem lh:k_ X (Qo .Mod) (rI (λ_ j=>0<j) λi j=>.int (i%j)):=KM λi j _ _ _ _ _ hc q=>by
 have h1:(0:Int)<j:=hc;exact mod_int' (by lia) (by rw[Int.fmod_eq_emod_of_nonneg i (by lia)];exact q)
theorem EZ:k_ X (Qo .Pow) (rI K3 λi j=>.int (i^j.toNat)):=KM λ_ _ _ _ _ _ _ hc q=>pow_int_small hc.1 hc.2.1 hc.2.2 q
theorem L0 {f:Mj->Sem Mj}{g:Int->Int}
  (rule:∀ (i:Int) (t:Tok) (s:Mp) (Q:Mj->Mp->Prop) (E:Mj->Mp->Prop),Q (.int (g i) s.toks) { s with toks:=s.toks+1 }->MB (MW X.prog X.w) X.A (f (.int i t)) Q E s):
  LB X f (rU λi=>.int (g i)):=by
 intro pins s σ H x v Q I rx h;obtain⟨i,rfl,q⟩:=h;obtain⟨t,rfl⟩:=rx;exact rule i t s _ _ ⟨.int (g i),H,I.tok _,⟨_,rfl⟩,q⟩
theorem wO:LB X (unaryOp .USub) (rU λi=>.int (-i)):=L0 λ_ _ _ _ _ q=>neg_int q
end
section
variable {X:Cx}{a b c:OH}{ta tb tc:TE}{pos:Pos}
theorem EQ (I:aG X pins σ H s)(q:Q (.bl k) H)(e:k=k'):EP X pins σ Q (.bool k') s:=by
 subst e;exact⟨.bl k,H,I,rfl,q⟩
theorem uZ:k_ X (Oj .Lt) (Fu λi j=>.bl (decide (i<j))):=Cn λ_ _ _ _ _ _ _ q=>lt_int q
theorem pM:k_ X (Oj .LtE) (Fu λi j=>.bl (decide (i<=j))):=Cn λ_ _ _ _ _ _ _ q=>le_int q
theorem u8:k_ X (Oj .Gt) (Fu λi j=>.bl (decide (j<i))):=Cn λ_ _ _ _ _ _ _ q=>gt_int q
theorem ET:k_ X (Oj .GtE) (Fu λi j=>.bl (decide (j<=i))):=Cn λ_ _ _ _ _ _ _ q=>ge_int q
theorem GO:k_ X (Oj .IsNot) (λx y H Q=>y=.non/\Q (.bl (!decide (x=.non))) H):=by
 intro pins s σ H x y v u Q I rx ry h;obtain⟨rfl,q⟩:=h;cases ry;refine isnot_none_gen (EQ I q ?_);cases x<;>first
  |(cases rx;rfl)
  |(obtain⟨t,rfl⟩:=rx;rfl)
theorem aV (b:OH)(h:op≠.In:=by decide)(h2:op≠.NotIn:=by decide):S5 op b=false:=by
 have e1:(op==CmpOp.In)=false:=by cases op<;>first|rfl|exact absurd rfl h
 have e2:(op==CmpOp.NotIn)=false:=by cases op<;>first|rfl|exact absurd rfl h2
 cases b<;>simp[S5,e1,e2]
theorem cH (ho:k_ X (Oj op) r)(ha:WE X a ta)(hb:WE X b tb)(hm:S5 op b=false):WE X (.Compare a [op] [b] pos) (JS r ta tb):=by
 have ha:=ha.go;have hb:=hb.go;refine⟨?_⟩;intro pins s σ H Q I h;exact wpAny_Compare1 (II ha hb I h λv u s2 x y H2 I2 rx ry q=>ho pins s2 σ H2 x y v u Q I2 rx ry q) hm
def GY (t:TE):TT:=λσ H Q=>t σ H λx H'=>LQ x H' Q
theorem aR (ho:k_ X (Oj op) r)(ha:WE X a ta)(hb:WE X b tb)(hm:S5 op b=false):WT X (.Compare a [op] [b] pos) (GY (JS r ta tb)):=by
 have ha:=ha.go;have hb:=hb.go;refine⟨?_⟩;intro pins s σ H Q I h;refine wpAny_isTrue_Compare1 (bY (ha pins s σ H _ I h) λv s1 ⟨x,H1,I1,r1,q1⟩=>bY (hb pins s1 σ H1 _ I1 q1) λu s2 ⟨y,H2,I2,r2,q2⟩=>
  bY (ho pins s2 σ H2 x y v u _ I2 r1 r2 q2) λc s3 ⟨z,H3,I3,r3,k,e,q3⟩=>?_) hm
 subst e;cases r3;exact Oz ⟨H3,I3,q3⟩
def Da (r r':R2)(ta tb tc:TE):TE:=λσ H Q=>ta σ H λx H1=>tb σ H1 λy H2=>r x y H2 λz H3=>∃ k,z=.bl k /\
 (if k=true then tc σ H3 λw' H4=>r' y w' H4 Q else Q (.bl false) H3)
theorem uS (ho:k_ X (Oj op) r) (ho':k_ X (Oj op') r') (ha:WE X a ta) (hb:WE X b tb) (hc:WE X c tc)
  (hm:lastMarks [op,op'] [b,c]=false:=by with_unfolding_all rfl):WE X (.Compare a [op,op'] [b,c] pos) (Da r r' ta tb tc):=by
 have ha:=ha.go;have hb:=hb.go;have hc:=hc.go;refine⟨?_⟩;intro pins s σ H Q I h;refine Compare_chain (bY (ha pins s σ H _ I h) λv s1 ⟨x,H1,I1,r1,q1⟩=>chain_link (bY (hb pins s1 σ H1 _ I1 q1) λu s2 ⟨y,H2,I2,r2,q2⟩=>
  bY (ho pins s2 σ H2 x y v u _ I2 r1 r2 q2) λd s3 ⟨z,H3,I3,r3,k,e,q3⟩=>?_)) hm
 subst e;cases r3;refine Oz ?_;cases k with
 |false=>exact ite_ff ⟨.bl false,H3,I3,rfl,q3⟩
 |true=>exact ite_tt (chain_last (bY (hc pins s3 σ H3 _ I3 q3) λw' s4 ⟨z',H4,I4,r4,q4⟩=>ho' pins s4 σ H4 y z' u w' Q I4 r2 r4 q4))
theorem Cj (ho:k_ X (Oj op) r) (ho':k_ X (Oj op') r') (ha:WE X a ta) (hb:WE X b tb) (hc:WE X c tc)
  (hm:lastMarks [op,op'] [b,c]=false:=by with_unfolding_all rfl):WT X (.Compare a [op,op'] [b,c] pos) (GY (Da r r' ta tb tc)):=by
 have ha:=ha.go;have hb:=hb.go;have hc:=hc.go;refine⟨?_⟩;intro pins s σ H Q I h;refine isTrue_chain (bY (ha pins s σ H _ I h) λv s1 ⟨x,H1,I1,r1,q1⟩=>test_link (bY (hb pins s1 σ H1 _ I1 q1) λu s2 ⟨y,H2,I2,r2,q2⟩=>
  bY (ho pins s2 σ H2 x y v u _ I2 r1 r2 q2) λd s3 ⟨z,H3,I3,r3,k,e,q3⟩=>?_)) hm
 subst e;cases r3;refine Oz ?_;cases k with
 |false=>
  obtain⟨k',e',q'⟩:=q3;cases e';exact ite_ff ⟨H3,I3,q'⟩
 |true=>
  refine ite_tt (test_last (bY (hc pins s3 σ H3 _ I3 q3) λw' s4 ⟨z',H4,I4,r4,q4⟩=>bY (ho' pins s4 σ H4 y z' u w' _ I4 r2 r4 q4) λd' s5 ⟨z2,H5,I5,r5,k2,e2,q5⟩=>?_));subst e2;cases r5;exact Oz ⟨H5,I5,q5⟩
theorem ph:(MI:Nat)<2^63:=by rw[N7];decide
theorem ki (r:aM [x] us):∃ u,us=[u]/\bv x u:=by
 cases r with
 |cons r1 r2=>cases r2;exact⟨_,rfl,r1⟩
theorem nQ (r:aM [x,y] us):∃ u w',us=[u,w']/\bv x u/\bv y w':=by
 cases r with
 |cons r1 r2=>
  cases r2 with
  |cons r3 r4=>cases r4;exact⟨_,_,rfl,r1,r3⟩
theorem nZ:dg X (.builtin "abs") (λxs H Q=>∃ i,xs=[.int i]/\Q (.int (if i<0 then -i else i)) H):=by
 intro pins s σ H xs us Q I r h;obtain⟨i,rfl,q⟩:=h;obtain⟨u,rfl,t,rfl⟩:=ki r;exact call_abs_int λu tk=>⟨.int (if i<0 then -i else i),H,I.tok _,⟨_,rfl⟩,q⟩
theorem uN (hc:X.calm=true):dg X (.builtin "max") (λxs H Q=>∃ i j,xs=[.int i,.int j]/\Q (.int (if j>i then j else i)) H):=by
 intro pins s σ H xs us Q I r h;obtain⟨i,j,rfl,q⟩:=h;obtain⟨u,w',rfl,⟨t,rfl⟩,⟨t',rfl⟩⟩:=nQ r;refine max_two_ints (I.ok.hd hc) λh' tk k=>⟨_,H,I.kept k,?_,q⟩
 by_cases hj:j>i
 ·rw[Nd hj,Nd hj];exact⟨_,rfl⟩
 ·rw[MT hj,MT hj];exact⟨_,rfl⟩
theorem lW (hc:X.calm=true):dg X (.builtin "min") (λxs H Q=>∃ i j,xs=[.int i,.int j]/\Q (.int (if j<i then j else i)) H):=by
 intro pins s σ H xs us Q I r h;obtain⟨i,j,rfl,q⟩:=h;obtain⟨u,w',rfl,⟨t,rfl⟩,⟨t',rfl⟩⟩:=nQ r;refine min_two_ints (I.ok.hd hc) λh' tk k=>⟨_,H,I.kept k,?_,q⟩
 by_cases hj:j<i
 ·rw[Nd hj,Nd hj];exact⟨_,rfl⟩
 ·rw[MT hj,MT hj];exact⟨_,rfl⟩
end
structure zQ (h:Os)(x dx C:Mz)(mA:Str->Option Mj):Prop where
 obj:h.get? x=some (OV C dx)
 ns:h.Ns1 dx mA
 ne:dx≠x
theorem B8 {h:Os}{dx:Mz}{mA:Str->Option Mj}(n:h.Ns1 dx mA):∃ od,h.get? dx=some od/\∀ name,Ss name od=some (mA name):=by
 obtain⟨o,es,ep,ho,hd,hk,_,hm⟩:=n;refine⟨o,ho,λname=>?_⟩;have e:=hm name;unfold nsFind findBy at e;rw[<- Array.find?_toList] at e;unfold Ss;rw[hd];dsimp only
 split
 ·rename_i y q
  rw[q] at e;exact PZ some e
 ·rename_i q
  rw[q] at e;have a:es.toList.any (·.refKey)=false:=by
   rw[List.any_eq_false];intro y hy;obtain⟨z,t,hkey⟩:=hk y (Array.mem_toList_iff.mp hy);simp[DictEntry.refKey,hkey]
  have a':¬ es.toList.any (·.refKey)=true:=by rw[a];exact Nj
  rw[MT a'];exact PZ some e
theorem zQ.look (I:zQ h x dx C mA):∃ od,PySem.W.InstAt h x (OV C dx) C (some od)/\∀ name,Ss name od=some (mA name):=
 let ⟨od,ho,hl⟩:=B8 I.ns
 ⟨od,⟨I.obj,rfl,rfl,ho⟩,hl⟩
section
variable {prog:MS}{w:No}{A:ND}{E:Mj->Mp->Prop}{s:Mp}{K:HD}{x dx C f:Mz}{mA:Str->Option Mj}{name:Str}{v:Mj}
theorem FC (X:K.In s.heap) (I:zQ s.heap x dx C mA) (hg:Qn K C name=true) (hh:Q9 K C=true)
  (ha:MV K (.ref C) name=some none)(hv:mA name=some v)(hv':Vv v=true)(h:Q v { s with toks:=s.toks+1 }):
  MB (MW prog w) A (getAttr (.ref x) name expr) Q E s:=by
 obtain⟨od,J,hl⟩:=I.look;exact PySem.W.get_value X J (RW hg).1 (PySem.W.findObj_own hh ha rfl (by rw[hl,hv])) hv' h
theorem DI (X:K.In s.heap) (I:zQ s.heap x dx C mA) (hg:Qn K C name=true)
  (hf:MV K (.ref C) name=some (some (.ref f)))(ht:OF K (.ref f)=true)(hv:mA name=none)(h:Q (.ref f,[.ref x]) s):
  MB (MW prog w) A (getMethod (.ref x) name pl) Q E s:=by
 obtain⟨od,J,hl⟩:=I.look;exact PySem.W.method_fn X J (RW hg).1 (RW hg).2 hf (OL.mp ht) (by show(Ss name od).map (·.isSome)=some false;rw[hl,hv];rfl) h
theorem GC (X:K.In s.heap) (I:zQ s.heap x dx C mA)
  (hs:MV K (.ref C) "__setattr__"=some (some (.builtin "object.__setattr__")))(hp:SL K C=true)(ht:TN K C name=some none)(hh:Q9 K C=true)
  (hw:Vp mA ns)(hsz:ns.length<=MI)
  (h:∀ h',zQ h' x dx C (λy=>if y=name then some v else mA y)->Nv dx s.heap h'->Q () { s with heap:=h',toks:=s.toks+2 }):
  MB (MW prog w) A (setAttr (.ref x) name v) Q E s:=by
 obtain⟨od,J,hl⟩:=I.look;refine PySem.W.set_plain X J hs (PySem.W.osa_open (s:={ s with toks:=s.toks+1 }) (r:=none) X J hp ht λb=>?_);obtain⟨cd,hc,hd'⟩:=PySem.W.any_some hh;have hx:s.heap.get? x=some ⟨.ref C,some dx,.plain,#[]⟩:=I.obj;refine KE (Mh (KE (KE (wpAny_loadPart hx (KE (PySem.W.Looks.here (s:={ s with toks:=s.toks+1 }) (PySem.W.looks_clsIn X hc) ?_))))));rw[hd'];refine Mh (a:=some dx) (KE (Mh (KE ?_)));refine wpAny_nsSet1 (s:={ s with toks:=s.toks+1 }) I.ns λh' hn2 hs2=>?_
 obtain⟨oD,esD,epD,hoD,hdD,hcD⟩:=hn2.count (PySem.Within.cons name v hw);refine KE (wpAny_lookBehind hoD (by rw[hdD];exact pastItsLine_dict (MQ hcD (by rw[NC];lia))) ?_);exact Mh (h _ ⟨(hs2.2 _ (OU I.ne)).trans I.obj,hn2,I.ne⟩ hs2)
theorem rh (X:K.In s.heap) (hm:RV K C=true)
  (hi:MV K (.ref C) "__init__"=some (some (.ref f)))(hf:Su K (.ref f)=some (.type "function"))
  (h:Qx (MW prog w) (A.under (.builtin "type.__call__" ⟨.ref C::vs,kw⟩)) (.call (.ref f) ⟨.ref (s.heap.objs.size+1)::vs,kw⟩) (PySem.W.InitBack (s.heap.objs.size+1) R)
   { s with heap:=(s.heap.push N_).push (OV C s.heap.objs.size) }) :
  Qx (MW prog w) A (.call (.ref C) ⟨vs,kw⟩) R s:=by
 obtain⟨hh,g,d,t,os⟩:=s;exact PySem.W.make_core (PySem.W.makes_of X hm) (PySem.W.looks_findIn X hi) (λself=>PySem.W.bind_fn X self hf) (.inl rfl) h
end
def d_ (f:Str)(v:V):List (Str×V)->List (Str×V)
 |[]=>[(f,v)]
 |(g,x)::r=>if g=f then(g,v)::r else(g,x)::d_ f v r
theorem pG (f g:Str)(v:V):∀ fs:List (Str×V),(d_ f v fs).lookup g=if g=f then some v else fs.lookup g
 |[]=>by
  show Q7 g [(f,v)]=_
  by_cases h:g=f
  ·have hb:(g==f)=true:=OL.mpr h;simp only[Q7,hb,Nd h]
  ·have hb:(g==f)=false:=Oy.mpr h;simp only[Q7,hb,MT h]
 |(k,x)::r=>by
  have ih:=pG f g v r;rw[show d_ f v ((k,x)::r)=(if k=f then(k,v)::r else(k,x)::d_ f v r) from rfl]
  by_cases hk:k=f
  ·rw[Nd hk]
   by_cases h:g=k
   ·have hb:(g==k)=true:=OL.mpr h;simp only[Q7,hb,Nd (h.trans hk)]
   ·have hb:(g==k)=false:=Oy.mpr h;simp only[Q7,hb,MT (λe:g=f=>h (e.trans hk.symm))]
  ·rw[MT hk]
   by_cases h:g=k
   ·have hb:(g==k)=true:=OL.mpr h;simp only[Q7,hb,MT (λe:g=f=>hk (h.symm.trans e))]
   ·have hb:(g==k)=false:=Oy.mpr h;simp only[Q7,hb];exact ih
theorem pq (f:Str)(v:V):∀ fs:List (Str×V),f∈(d_ f v fs).map (·.1)/\∀ g,g∈fs.map (·.1)->g∈(d_ f v fs).map (·.1)
 |[]=>⟨by simp[d_],λg h=>by simp at h⟩
 |(k,x)::r=>by
  obtain⟨i1,i2⟩:=pq f v r;rw[show d_ f v ((k,x)::r)=(if k=f then(k,v)::r else(k,x)::d_ f v r) from rfl]
  by_cases hk:k=f
  ·rw[Nd hk];subst hk;exact⟨by simp,λg h=>by simpa using h⟩
  ·rw[MT hk];refine⟨?_,λg h=>?_⟩
   ·rw[MN];exact Mt _ i1
   ·rw[MN] at h ⊢;rcases Mx.mp h with e|e
    ·exact Mx.mpr (.inl e)
    ·exact Mt _ (i2 g e)
theorem pO (f:Str)(v:V):∀ fs:List (Str×V),(d_ f v fs).length<=fs.length+1
 |[]=>by simp[d_]
 |(k,x)::r=>by
  have ih:=pO f v r;rw[show d_ f v ((k,x)::r)=(if k=f then(k,v)::r else(k,x)::d_ f v r) from rfl]
  by_cases hk:k=f
  ·rw[Nd hk,NC,NC];lia
  ·rw[MT hk,NC,NC];lia
theorem ku.some_of (r:ku (some v) o):∃ u,o=some u/\bv v u:=by
 cases o with
 |none=>exact(show False from r).elim
 |some u=>exact⟨u,rfl,r⟩
theorem ku.none_of (r:ku none o):o=none:=by
 cases o with
 |none=>rfl
 |some u=>exact(show False from r).elim
theorem Cz (r:bv v u):Vv u=true:=by
 cases v with
 |non=>cases(show u=NH from r);rfl
 |bl b=>cases(show u=RH b from r);rfl
 |int i=>obtain⟨t,e⟩:=(show ∃ t,u=PL i t from r);cases e;rfl
 |str x=>obtain⟨t,e⟩:=(show ∃ t,u=SO x t from r);cases e;rfl
 |byt b=>obtain⟨t,e⟩:=(show ∃ t,u=Value.bytes b t from r);cases e;rfl
 |flt b=>obtain⟨t,e⟩:=(show ∃ t,u=VF b t from r);cases e;rfl
 |ref a=>cases(show u=MP a from r);rfl
 |ty n=>cases(show u=Ox n from r);rfl
section
variable {P:MS}{w:No}{H H':Hp}{h h':Os}{a C dx:Mz}{fs fs':List (Str×V)}
theorem qV (hok:nk P w H h)(e:H a=some (.ins C dx fs)):∃ mA,zQ h a dx C mA/\(∀ f,ku (fs.lookup f) (mA f))/\Vp mA (fs.map (·.1))/\fs.length<=1000/\H dx=some (.own a):=by
 obtain⟨d,z,ne,ob,mA,n,r,q⟩:=(show bT P w H h a (.ins C dx fs) from hok a _ e)
 exact⟨mA,⟨ob,n,ne⟩,r,q,z,d⟩
end
structure Hv (K:HD)(C:Mz):Prop where
 pg:Qn K C Str.empty=true
 hd:Q9 K C=true
 po:SL K C=true
 sa:MV K (.ref C) "__setattr__"=some (some (.builtin "object.__setattr__"))
theorem Hv.get {K:HD}{C:Mz}(c:Hv K C)(f:Str):Qn K C f=true:=c.pg
def sK (K:HD)(C:Mz)(f:Str):Prop:=MV K (.ref C) f=some none
theorem sK.taker {K:HD}{C:Mz}{f:Str}(n:sK K C f):TN K C f=some none:=by
 unfold TN;rw[show MV K (.ref C) f=some none from n];rfl
structure DB (K:HD)(C:Mz)(m:Str)(f:Mz):Prop where
 at_:MV K (.ref C) m=some (some (.ref f))
 fn:OF K (.ref f)=true
 kp:MZ K (.ref f)=true
section
variable {X:Cx}{pins:List (Mz×Obj)}{σ:St}{H:Hp}{s:Mp}{a C dx:Mz}{fs:List (Str×V)}{f:Str}{v:V}{A:ND}{E:Mj->Mp->Prop}
theorem z_ (I:aG X pins σ H s) (e:H a=some (.ins C dx fs)) (c:Hv X.K C) (n:sK X.K C f) (l:fs.lookup f=some v)
  (h:∀ u s',aG X pins σ H s'->bv v u->Q u s'):MB (MW X.prog X.w) A (getAttr (.ref a) f b) Q E s:=by
 obtain⟨mA,O,r,_,_,_⟩:=qV I.hok e;obtain⟨u,hu,ru⟩:=ku.some_of (v:=v) (o:=mA f) (by rw[<- l];exact r f);exact FC I.kIn O (c.get f) c.hd n hu (Cz ru) (h u _ (I.tok _) ru)
theorem mS (I:aG X pins σ H s) (e:H a=some (.ins C dx fs)) (c:Hv X.K C) (k:DB X.K C m g) (l:fs.lookup m=none)
  (h:Q (.ref g,[.ref a]) s):MB (MW X.prog X.w) A (getMethod (.ref a) m pl) Q E s:=by
 obtain⟨mA,O,r,_,_,_⟩:=qV I.hok e;have hn:mA m=none:=ku.none_of (by rw[<- l];exact r m);exact DI I.kIn O (c.get m) k.at_ k.fn hn h
theorem zH (I:aG X pins σ H s) (e:H a=some (.ins C dx fs)) (c:Hv X.K C) (n:sK X.K C f) (hl:fs.length < 1000) (ry:bv y u)
  (h:∀ s',aG X pins σ (upd H a (.ins C dx (d_ f y fs))) s'->Q () s'):MB (MW X.prog X.w) A (setAttr (.ref a) f u) Q E s:=by
 obtain⟨mA,O,r,wi,_,ho⟩:=qV I.hok e;have hz:(fs.map (·.1)).length<=MI:=by rw[Mq,N7];lia
 refine GC I.kIn O c.sa c.po n.taker c.hd wi hz λh' O' sb=>h _ ?_
 have hd:∃ o,h'.get? dx=some o:=let ⟨o,_,_,e',_⟩:=O'.ns;⟨o,e'⟩
 refine I.write (x:=a) (e:=dx) (by rw[e];exact True.intro) (.inr ho) (λb q hb z=>(sb.2 b hb).trans z) hd ?_;refine⟨by rw[aq O.ne];exact ho,?_,O.ne,O'.obj,_,O'.ns,λg=>?_,λg hg=>?_⟩
 ·have:=pO f y fs;lia
 ·show ku ((d_ f y fs).lookup g) (if g=f then some u else mA g);rw[pG]
  by_cases q:g=f
  ·rw[Nd q,Nd q];exact ry
  ·rw[MT q,MT q];exact r g
 ·by_cases q:g=f
  ·rw[q];exact(pq f y fs).1
  ·refine(pq f y fs).2 g (wi g λz=>hg ?_);show(if g=f then some u else mA g)=none;rw[MT q];exact z
theorem aG.made (I:aG X pins σ H s):aG X pins σ (upd (upd H s.heap.objs.size (.own (s.heap.objs.size + 1))) (s.heap.objs.size + 1) (.ins C s.heap.objs.size []))
  { s with heap:=(s.heap.push N_).push (OV C s.heap.objs.size) }:=by
 have e1:(s.heap.push N_).get? s.heap.objs.size=some N_:=Mn s.heap rfl;have e2:((s.heap.push N_).push (OV C s.heap.objs.size)).get? (s.heap.objs.size+1)=some (OV C s.heap.objs.size):=by
  have:=Mn (s.heap.push N_) (o:=OV C s.heap.objs.size) rfl
  rwa [Nw] at this
 have e3:(s.heap.push N_).Ns s.heap.objs.size (λ_=>none):=⟨N_,#[],_,e1,rfl,(λe he=>absurd he (by simp)),λ_=>rfl⟩
 have I1:=I.laid (a:=s.heap.objs.size) (o:=.own (s.heap.objs.size+1)) (h':=s.heap.push N_) (t':=s.toks) (λb u q=>Mg _ q) (Mm _) ⟨_,e1⟩;refine I1.laid (a:=s.heap.objs.size+1) (o:=.ins C s.heap.objs.size []) (t':=s.toks) (λb u q=>Mg _ q) (Nat.le_of_eq (Nw _ _)) ?_;have ne:s.heap.objs.size≠s.heap.objs.size+1:=MR (N6 _);refine⟨by rw[aq ne,ae],Nq _,ne,e2,λ_=>none,(Heap.Ns1.of_empty e3).at λo q=>Mg _ q,λ_=>True.intro,λy hy=>absurd rfl hy⟩
theorem Gx (hb:RF e f env (Qh e env)=Qh e env)
  (h:MB (MW prog w) A (Qh e env) (λo s₁=>MB (MW prog w) A (getAttr o f true) Q E s₁) E s):MB (MW prog w) A (Qh (.Attribute e f pos) env) Q E s:=
 Attribute_any_ h (by rw[arm_eval_Attribute,hb])
end
section
variable {X:Cx}{pins:List (Mz×Obj)}{σ:St}{H:Hp}{s:Mp}{A:ND}{E:Mj->Mp->Prop}{Q:Mj->Mp->Prop}{c:Mj}{b:Bool}
inductive mQ (K:HD)(H:Hp):V->Mj->Prop where
 |non:mQ K H .non (.type "NoneType")
 |bl (x:Bool):mQ K H (.bl x) (.type "bool")
 |int (i:Int):mQ K H (.int i) (.type "int")
 |str (x:Str):mQ K H (.str x) (.type "str")
 |flt (x:UInt64):mQ K H (.flt x) (.type "float")
 |lst {a:Mz}{xs:List V} (e:H a=some (.lst xs)):mQ K H (.ref a) (.type "list")
 |frz {a:Mz}{o:Obj}{xs:List V} (e:H a=some (.frz o (.lst xs))):mQ K H (.ref a) (.type "list")
 |tup {a:Mz}{xs:List V} (e:H a=some (.tup xs)):mQ K H (.ref a) (.type "tuple")
 |dK {a:Mz}{kvs:List (gk×V)} (e:H a=some (.dK kvs)):mQ K H (.ref a) (.type "dict")
 |dT {a:Mz}{kvs:List (List gk×V)} (e:H a=some (.dT kvs)):mQ K H (.ref a) (.type "dict")
 | ins {a C dx:Mz}{fs:List (Str × V)} (e:H a=some (.ins C dx fs)) (cl:Hv K C) (ha:MV K (.ref C) "__class__"=some (some (.builtin "object.__class__")))
   (hn:Q_ K (.builtin "object.__class__") "__get__"=some (some (.builtin "getset_descriptor.__get__")))(htk:RX K (.builtin "object.__class__")=some true)
   (hm:QR K C (.type "object")=some true):mQ K H (.ref a) (.ref C)
theorem DC (I:aG X pins σ H s)(rx:bv x u)(ty:mQ X.K H x t):∃ Z,PySem.W.KitX X.K u t Z/\Z s.heap/\u≠.builtin "__main__.__loader__#opaque":=by
 cases ty with
 |non=>cases(show u=NH from rx);exact⟨_,PySem.W.kitx_none,True.intro,λz=>nomatch z⟩
 |bl y=>cases(show u=RH y from rx);exact⟨_,PySem.W.kitx_bool,True.intro,λz=>nomatch z⟩
 |int i=>obtain⟨t,q⟩:=(show ∃ t,u=PL i t from rx);cases q;exact⟨_,PySem.W.kitx_int,True.intro,λz=>nomatch z⟩
 |str y=>obtain⟨t,q⟩:=(show ∃ t,u=SO y t from rx);cases q;exact⟨_,PySem.W.kitx_str,True.intro,λz=>nomatch z⟩
 |flt y=>obtain⟨t,q⟩:=(show ∃ t,u=VF y t from rx);cases q;exact⟨_,PySem.W.kitx_float,True.intro,λz=>nomatch z⟩
 |@lst a xs ea=>
  cases(show u=MP a from rx);obtain⟨_,_,n,_,h1⟩:=(show bT X.prog X.w H s.heap a (.lst xs) from I.hok a _ ea)
  exact⟨_,U_,⟨_,h1,rfl⟩,λz=>nomatch z⟩
 |@frz a ob xs ea=>
  cases(show u=MP a from rx);obtain⟨_,_,_,n,_,h1⟩:=(show bT X.prog X.w H s.heap a (.frz ob (.lst xs)) from I.hok a _ ea)
  exact⟨_,U_,⟨_,h1,rfl⟩,λz=>nomatch z⟩
 |@tup a xs ea=>
  cases(show u=MP a from rx);obtain⟨_,_,_,p⟩:=(show bT X.prog X.w H s.heap a (.tup xs) from I.hok a _ ea)
  obtain⟨o,h1,h2,_⟩:=p;exact⟨_,PySem.W.kitx_tuple,⟨o,h1,h2⟩,λz=>nomatch z⟩
 |@dK a kvs ea=>
  cases(show u=MP a from rx);obtain⟨_,_,vs,_,p⟩:=(show bT X.prog X.w H s.heap a (.dK kvs) from I.hok a _ ea)
  obtain⟨o,es,ep,h1,h2,_⟩:=p;exact⟨_,U',⟨o,h1,h2.1⟩,λz=>nomatch z⟩
 |@dT a kvs ea=>
  cases(show u=MP a from rx);obtain⟨_,_,xs,_,o,es,ep,h1,h2,_⟩:=(show bT X.prog X.w H s.heap a (.dT kvs) from I.hok a _ ea)
  exact⟨_,U',⟨o,h1,h2.1⟩,λz=>nomatch z⟩
 |@ins a C dx fs ea cl ha hn htk hm=>
  cases(show u=MP a from rx);obtain⟨mA,O,_⟩:=qV I.hok ea;obtain⟨od,J,_⟩:=O.look;exact⟨_,(PySem.W.kitx_own (cl.get _) cl.hd ha hn htk hm),J,λz=>nomatch z⟩
theorem o8 (I:aG X pins σ H s) (rx:bv x u) (ty:mQ X.K H x t) (e:O9 X.K t c=some b) (h:∀ tk,Q (.bool b) { s with toks:=tk }) :
  MB (MW X.prog X.w) A (call (.builtin "isinstance") [u,c]) Q E s:=by
 obtain⟨Z,a,b,c⟩:=DC I rx ty;exact PySem.W.kia_one a I.kIn b e c h
end
structure Room (k:Nat)(A:ND):Prop where
 hd:A.handled=none
 dp:A.depth+3*k+5<recursionLimit
 un:A.units+16*k+200<cLine
theorem Room.mono {j k:Nat}(r:Room k A)(h:j<=k):Room j A:=⟨r.hd,by have:=r.dp;lia,by have:=r.un;lia⟩
theorem Room.deeper {k:Nat}(r:Room (k+1) A)(env:Env):Room k (A.deeper env):=
 ⟨r.hd,by have:=r.dp;show A.depth+1+3*k+5<_;lia,by have:=r.un;show A.units+3+16*k+200<_;lia⟩
theorem zu {A:ND}{C:Mz}{us:List Mj}{kw:List (Str×Mj)}:(A.under (.builtin "type.__call__" ⟨.ref C::us,kw⟩)).depth=A.depth+1:=by
 first|rfl|simp[Vg,Code.weight,Code.isCreation,Code.isGuard,Code.isCaller,Code.frames,Vi,guardIds]
theorem Ax {A:ND}{C:Mz}{us:List Mj}{kw:List (Str×Mj)}:(A.under (.builtin "type.__call__" ⟨.ref C::us,kw⟩)).units=A.units+1:=by
 first|rfl|simp[Vg,Code.cUnits,Code.frames,Vi]
theorem Room.make {k:Nat}(r:Room (k+1) A)(C:Mz)(us:List Mj)(kw:List (Str×Mj)):Room k (A.under (.builtin "type.__call__" ⟨.ref C::us,kw⟩)):=
 ⟨r.hd,by have:=r.dp;rw[zu];lia,by have:=r.un;rw[Ax];lia⟩
theorem Room.depth {k:Nat}(r:Room k A):A.depth<recursionLimit:=by have:=r.dp;lia
theorem Room.units {k:Nat}(r:Room k A):A.units+64<cLine:=by have:=r.un;lia
def uC:TA:=λ_ H Q=>Q [] H
def mD (ta:TE)(tr:TA):TA:=λσ H Q=>ta σ H λx H1=>tr σ H1 λxs H2=>Q (x::xs) H2
section
variable {X:Cx}{e:OH}{es:List OH}{te:TE}{t:TA}{pos:Pos}
theorem Dl:PA X [] uC:=λ_ _ _ _ H Q I h=>SC ⟨[],H,I,.nil,h⟩
theorem A' (ha:PE X e te)(hr:PA X es t)(hs:MU (e::es) X.env=(false,Qh e X.env)::MU es X.env:=by rfl):PA X (e::es) (mD te t):=by
 intro pos pins s σ H Q I h;rw[hs];show MB _ _ (spliced ((false,Qh e X.env)::QC pos (MU es X.env))) _ _ s;refine QG (bY (ha pins s σ H _ I h) λu s1 ⟨x,H1,I1,r1,q1⟩=>?_);exact bY (hr pos pins s1 σ H1 _ I1 q1) λus s2 ⟨xs,H2,I2,r2,q2⟩=>⟨x::xs,H2,I2,.cons r1 r2,q2⟩
def K' (t:TA):TE:=λσ H Q=>t σ H λxs H1=>xs.length<=MI/\∀ p,H1 p=none->Q (.ref p) (upd H1 p (.tup xs))
def K9 (t:TA):TE:=λσ H Q=>t σ H λxs H1=>xs.length<=MI/\∀ p,H1 p=none->Q (.ref p) (upd H1 p (.lst xs))
theorem be {x1}(h:WA X es t):WE X (.Tuple es x1 pos) (K' t):=by
 have h:=h.go;refine⟨?_⟩;intro pins s σ H Q I hq;refine wpAny_Tuple_spliced (bY (h pos pins s σ H _ I hq) λus s1 ⟨xs,H1,I1,r,z,q⟩=>⟨by rw[<- r.length];exact z,?_⟩);have hf:H1 s1.heap.objs.size=none:=I1.hok.fresh (Mm _);refine⟨.ref s1.heap.objs.size,upd H1 s1.heap.objs.size (.tup xs),I1.laid (t':=s1.toks) (λb u e=>Mg _ e) (Mm _) ?_,rfl,q _ hf⟩;exact⟨z,us,r,⟨_,Mn _ rfl,rfl,_,rfl⟩⟩
theorem b9 (h:WA X es t):WE X (.List es pos) (K9 t):=by
 have h:=h.go;refine⟨?_⟩;intro pins s σ H Q I hq;refine wpAny_List_spliced (bY (h pos pins s σ H _ I hq) λus s1 ⟨xs,H1,I1,r,z,q⟩=>⟨by rw[<- r.length];exact z,?_⟩);have hf:H1 s1.heap.objs.size=none:=I1.hok.fresh (Mm _);refine⟨.ref s1.heap.objs.size,upd H1 s1.heap.objs.size (.lst xs),I1.laid (t':=s1.toks) (λb u e=>Mg _ e) (Mm _) ?_,rfl,q _ hf⟩;exact⟨z,us,0,r,Mn _ rfl⟩
end
abbrev Sp:=List V->Hp->VK->XK->Prop
abbrev lQ:=List Env->Hp->Mp->XK->Mj->Mp->Prop
structure zm (P:MS)(w:No)(K:HD)(mg:Str->Option Mj)(base:Os)(A:ND)(outer:List Env)(s:Mp)(H:Hp):Prop where
 frames:A.frames=some outer
 mod:Mod K mg base
 bs:∀ b o,base.get? b=some o->s.heap.get? b=some o/\H b=none
 bsz:base.objs.size<=s.heap.objs.size
 funs:s.heap.FunFrames base outer
 frf:∀ b∈zi outer,H b=none
 hok:nk P w H s.heap
 bare:Uq s.gens
def CE (outer:List Env)(P:MS)(w:No)(H:Hp)(s:Mp)(Q:VK)(u:Mj)(s':Mp):Prop:=
 ∃ v H',s'.os=s.os/\Uq s'.gens/\Un (zi outer) [] H H' s.heap s'.heap/\nk P w H' s'.heap/\bv v u/\Q v H'
def CR (CX:lQ)(outer:List Env)(P:MS)(w:No)(H:Hp)(s:Mp)(Q:VK)(E:XK)(r:Result)(s':Mp):Prop:=
 match r with
 |.ok (.ret u)=>CE outer P w H s Q u s'
 |.ok _=>False
 |.error e=>CX outer H s E e s'
structure jp (P:MS)(w:No)(K:HD)(mg:Str->Option Mj)(base:Os)(CX:lQ)(k:Nat)(f:Mz)(fd:NW)(ps:List Str)(sp:Sp):Prop where
 len:∀ vs H Q E,sp vs H Q E->vs.length=ps.length
 run:∀ (A:ND) (outer:List Env) (s:Mp) (H:Hp) (args:Args) (us:List Mj) (vs:List V) (Q:VK) (E:XK),Room k A->zm P w K mg base A outer s H->Us s fd args (ps.zip us)->aM vs us->sp vs H Q E ->
  Qx (MW P w) A (.call (.ref f) args) (CR CX outer P w H s Q E) s
theorem jp.mono {P:MS}{w:No}{K:HD}{mg:Str->Option Mj}{base:Os}{CX:lQ}{j k:Nat}{f:Mz}{fd:NW}{ps:List Str}{sp:Sp} (F:jp P w K mg base CX j f fd ps sp) (h:j <= k) :
  jp P w K mg base CX k f fd ps sp:=⟨F.len,λA outer s H args us vs Q E hr=>F.run A outer s H args us vs Q E (hr.mono h)⟩
theorem zm.make {P:MS}{w:No}{K:HD}{mg:Str->Option Mj}{base:Os}{A:ND}{outer:List Env}{s:Mp}{H:Hp} (e:zm P w K mg base A outer s H) (C:Mz) (us:List Mj) (kw:List (Str × Mj)) :
  zm P w K mg base (A.under (.builtin "type.__call__" ⟨.ref C::us,kw⟩)) outer s H:=⟨by first|exact e.frames|(simpa [Vg,Code.envs,Vi,pushEnvs] using e.frames),e.mod,e.bs,e.bsz,e.funs,e.frf,e.hok,e.bare⟩
section
variable {X:Cx}{pins:List (Mz×Obj)}{σ:St}{H:Hp}{s s':Mp}
theorem aG.env0 (I:aG X pins σ H s):zm X.prog X.w X.K X.mg X.base X.A X.stack s H:=
 ⟨I.ok.frames,I.ok.mod,I.bs,MQ I.ok.bsz I.sz,I.stack,I.stkFree,I.hok,I.bare⟩
theorem aG.after (I:aG X pins σ H s)(h:CE X.stack X.prog X.w H s Q u s'):EP X pins σ Q u s':=by
 obtain⟨v,H',os,bare,un,hok,r,q⟩:=h;obtain⟨hh,g,d,t,os'⟩:=s';obtain rfl:os'=s.os:=os;exact⟨v,H',I.call (h':=hh) (g':=g) (d':=d) (t':=t) (ch:=[]) un hok bare (λb z=>absurd z (by simp)),r,q⟩
end
def xN (sp:Sp)(dvs:List V)(E:XK)(t:TA):TE:=λσ H Q=>t σ H λvs H1=>sp (vs++dvs) H1 Q E
def mC (K:HD)(fd:NW)(ps:List Str)(ds:List Mj):Prop:=
 ∀ (s:Mp) (us:List Mj),K.In s.heap->(us++ds).length=ps.length->Us s fd ⟨us,[]⟩ (ps.zip (us++ds))
theorem mC.all {K:HD}{fd:NW}{ps:List Str}(h:∀ us:List Mj,us.length=ps.length->NF fd ⟨us,[]⟩=pure (ps.zip us)):mC K fd ps []:=λs us _ hl=>by
 rw[QL] at hl ⊢;exact .of_eq (h us hl)
def tM (CX:lQ)(X:Cx)(E:XK):Prop:=∀ (pins:List (Mz×Obj)) (σ:St) (H:Hp) (s:Mp) (e:Mj) (s':Mp),aG X pins σ H s->CX X.stack H s E e s'->X.xe e s'
section
variable {X:Cx}{CX:lQ}{k:Nat}{f C:Mz}{fd:NW}{ps:List Str}{sp:Sp}{dvs:List V}{ds:List Mj}{E:XK}{x m:Str}{p pos apos:Pos}{e o:OH}{es:List OH}{ta:TE}{t:TA}
theorem wZ (F:jp X.prog X.w X.K X.mg X.base CX k f fd ps sp) (hr:Room k X.A) (hb:mC X.K fd ps ds) (hd:aM dvs ds) (hx:tM CX X E)
  (I:aG X pins σ H s)(r:aM vs us)(h:sp (vs++dvs) H Q E):MB (MW X.prog X.w) X.A (call (.ref f) us) (EP X pins σ Q) X.xe s:=by
 have r2:aM (vs++dvs) (us++ds):=r.append hd;have hl:(us++ds).length=ps.length:=by rw[<- r2.length];exact F.len _ _ _ _ h
 refine RI (Py (F.run X.A X.stack s H ⟨us,[]⟩ (us++ds) (vs++dvs) Q E hr I.env0 (hb s us I.kIn hl) r2 h) λr s' hq=>?_);cases r with
 |error e=>exact hx pins σ H s e s' I hq
 |ok fl=>
  cases fl with
  |ret u=>exact I.after hq
  |next=>exact Ot hq
  |brk=>exact Ot hq
  |cont=>exact Ot hq
theorem Ge (F:jp X.prog X.w X.K X.mg X.base CX k f fd ps sp) (hr:Room k X.A) (hg:Gl X x) (hm:X.mg x=some (.ref f)) (hk:MZ X.K (.ref f)=true) (hb:mC X.K fd ps ds) (hd:aM dvs ds) (hx:tM CX X E)
  (ha:PA X (e::es) t)(hdb:(x==("__debug__":Str))=false:=by decide)(he:MU (e::es) X.env=(false,Qh e X.env)::MU es X.env:=by rfl)(hpl:(QC pos (MU es X.env)).any (·.1)=false:=by rfl):
  PE X (.Call (.Name x p) (e::es) [] pos) (xN sp dvs E t):=by
 intro pins s σ H Q I h;refine NZ (i8 I hg hm ?_ hdb);refine QQ (h₀:=X.base) I.ok.mod.kin hk (bY (ha pos pins s σ H _ I h) λus s1 ⟨vs,H1,I1,r,q⟩=>⟨I1.kIn,?_⟩) he hpl;exact wZ F hr hb hd hx I1 r q
structure Mk (K:HD)(C f:Mz):Prop where
 makes:RV K C=true
 init:MV K (.ref C) "__init__"=some (some (.ref f))
 fn:OF K (.ref f)=true
 kp:MZ K (.ref C)=true
theorem Dm (M:Mk X.K C f) (F:jp X.prog X.w X.K X.mg X.base CX k f fd ps sp) (hr:Room (k + 1) X.A) (hb:mC X.K fd ps ds) (hd:aM dvs ds)
  (hx:tM CX X E)(I:aG X pins σ H s)(r:aM vs us)
  (h:∀ x dx,H x=none->H dx=none->dx≠x->sp (.ref x::(vs++dvs)) (upd (upd H dx (.own x)) x (.ins C dx [])) (λv H2=>v=.non/\Q (.ref x) H2) E):
  MB (MW X.prog X.w) X.A (call (.ref C) us) (EP X pins σ Q) X.xe s:=by
 have hq:=h (s.heap.objs.size+1) s.heap.objs.size (I.hok.fresh (RT _)) (I.hok.fresh (Mm _)) (MR (N6 _));have I2:=aG.made (C:=C) I;have r2:aM (V.ref (s.heap.objs.size+1)::(vs++dvs)) (MP (s.heap.objs.size+1)::(us++ds)):=.cons rfl (r.append hd);have hl:(MP (s.heap.objs.size+1)::us++ds).length=ps.length:=by
  have e:=r2.length;rw[F.len _ _ _ _ hq] at e;exact e.symm
 refine RI (rh (f:=f) I.kIn M.makes M.init (OL.mp M.fn) (Py (F.run _ X.stack _ _ ⟨MP (s.heap.objs.size+1)::us,[]⟩ (MP (s.heap.objs.size+1)::(us++ds)) _ _ E (hr.make C us [])
  (I2.env0.make C us []) (hb _ (MP (s.heap.objs.size+1)::us) I2.kIn hl) r2 hq) λr s' hq'=>?_))
 cases r with
 |error e=>exact hx pins σ _ _ e s' I2 hq'
 |ok fl=>
  cases fl with
  |ret u=>
   obtain⟨v,H',I3,rv,ev,q3⟩:=I2.after hq';subst ev;exact⟨rv,⟨V.ref (s.heap.objs.size+1),H',I3,rfl,q3⟩⟩
  |next=>exact Ot hq'
  |brk=>exact Ot hq'
  |cont=>exact Ot hq'
end
def PK (X:Cx)(kws:List Rr)(t:TA):Prop:=
 ∀ (pos:Pos) (pins:List (Mz×Obj)) (s:Mp) (σ:St) (H:Hp) (Q:List V->Hp->Prop),aG X pins σ H s->t σ H Q->MB (MW X.prog X.w) X.A (evalAll ((PY pos (Ol kws X.env)).map (·.2))) (AP X pins σ Q) X.xe s
structure WK (X:Cx)(e:List Rr)(t:TA):Prop where
 go:PK X e t
section
variable {X:Cx}{CX:lQ}{k:Nat}{f C:Mz}{fd:NW}{ps ks:List Str}{sp:Sp}{E:XK}{x m:Str}{p pos apos kpos:Pos}{e o:OH}{es:List OH}{kws:List Rr}{te ta:TE}{t tk:TA}{nm:Option Str}
theorem n_:WK X [] uC:=by
 exact⟨λ_ _ _ _ H Q I h=>wpAny_evalAll_nil ⟨[],H,I,.nil,h⟩⟩
theorem jM (ha:WE X e te)(hr:WK X kws t):WK X (⟨nm,e,kpos⟩::kws) (mD te t):=by
 have ha:=ha.go;have hr:=hr.go;refine⟨?_⟩;intro pos pins s σ H Q I h;show MB _ _ (evalAll ((do let v <- Qh e X.env;TZ pos;pure v)::(PY pos (Ol kws X.env)).map (·.2))) _ _ s;refine wpAny_evalAll_cons (KE (bY (ha pins s σ H _ I h) λu s1 ⟨x,H1,I1,r1,q1⟩=>KE (O5 (Mh ?_))));exact bY (hr pos pins s1 σ H1 _ I1 q1) λus s2 ⟨xs,H2,I2,r2,q2⟩=>⟨x::xs,H2,I2,.cons r1 r2,q2⟩
structure mZ (K:HD)(fd:NW)(ps ks:List Str)(g:List Mj->List Mj->List Mj)(gV:List V->List V->List V):Prop where
 to:∀ (s:Mp) (us ws:List Mj),K.In s.heap->(g us ws).length=ps.length->Us s fd ⟨us,ks.zip ws⟩ (ps.zip (g us ws))
 rel:∀ {vs:List V}{us:List Mj}{zs:List V}{ws:List Mj},aM vs us->aM zs ws->aM (gV vs zs) (g us ws)
variable {g:List Mj->List Mj->List Mj}{gV:List V->List V->List V}
theorem GK (F:jp X.prog X.w X.K X.mg X.base CX k f fd ps sp) (hr:Room k X.A) (hb:mZ X.K fd ps ks g gV) (hx:tM CX X E)
  (I:aG X pins σ H s)(r:aM vs us)(rz:aM zs ws)(h:sp (gV vs zs) H Q E):MB (MW X.prog X.w) X.A (call (.ref f) us (ks.zip ws)) (EP X pins σ Q) X.xe s:=by
 have r2:=hb.rel r rz;have hl:(g us ws).length=ps.length:=by rw[<- r2.length];exact F.len _ _ _ _ h
 refine RI (Py (F.run X.A X.stack s H ⟨us,ks.zip ws⟩ (g us ws) (gV vs zs) Q E hr I.env0 (hb.to s us ws I.kIn hl) r2 h) λr s' hq=>?_);cases r with
 |error e=>exact hx pins σ H s e s' I hq
 |ok fl=>
  cases fl with
  |ret u=>exact I.after hq
  |next=>exact Ot hq
  |brk=>exact Ot hq
  |cont=>exact Ot hq
end
structure ao (N P:List Str)(sc:Rn):Prop where
 kind:sc.kind=.function
 co:sc.isCoroutine=false
 gen:sc.isGenerator=false
 nd:N.Nodup
 pre:N.take P.length=P
 par:∀ x∈P,sc.names.lookup x=some .local\/sc.names.lookup x=some .cell
 nofree:∀ y∈sc.names,y.2≠.free
theorem uY {kindOf:Str->Option Qc}{x:Str}:∀ {binds:List (Str×Mj)}{m:Str->Option Mj},(∀ v,(x,v)∉binds)->bindL kindOf binds m x=m x
 |[],_,_=>rfl
 |(n,v)::r,m,h=>by
  unfold bindL;rw[uY λw hw=>h w (Mt _ hw)]
  split
  ·have:x≠n:=by rintro rfl;exact h v MO
   simp[this]
  ·rfl
theorem uL {kindOf:Str->Option Qc}{x:Str}:∀ {binds:List (Str×Mj)}{m:Str->Option Mj},(∀ v,(x,v)∉binds)->bindC kindOf binds m x=m x
 |[],_,_=>rfl
 |(n,v)::r,m,h=>by
  unfold bindC;rw[uL λw hw=>h w (Mt _ hw)]
  split
  ·rfl
  ·have:x≠n:=by rintro rfl;exact h v MO
   simp[this]
theorem vj {kindOf:Str->Option Qc}{x:Str}{v:Mj}:∀ {P:List Str}{vs:List Mj}{i:Nat}{m:Str->Option Mj},P.Nodup->P[i]?=some x->vs[i]?=some v->kindOf x=some .local ->
  bindL kindOf (P.zip vs) m x=some v
 |[],_,_,_,_,h,_,_=>by simp at h
 |_::_,[],_,_,_,_,h,_=>by simp at h
 |p::P,w::vs,0,m,nd,h1,h2,hk=>by
  simp at h1 h2;subst h1;subst h2;show bindL kindOf ((p,w)::P.zip vs) m p=_;unfold bindL;rw[uY λv hv=>(N3.mp nd).1 (Po hv).1,Nd hk];simp
 |p::P,w::vs,i+1,m,nd,h1,h2,hk=>by
  show bindL kindOf ((p,w)::P.zip vs) m x=_;unfold bindL;exact vj (i:=i) (N3.mp nd).2 (by simpa using h1) (by simpa using h2) hk
theorem vf {kindOf:Str->Option Qc}{x:Str}{v:Mj}:∀ {P:List Str}{vs:List Mj}{i:Nat}{m:Str->Option Mj},P.Nodup->P[i]?=some x->vs[i]?=some v->kindOf x ≠ some .local ->
  bindC kindOf (P.zip vs) m x=some v
 |[],_,_,_,_,h,_,_=>by simp at h
 |_::_,[],_,_,_,_,h,_=>by simp at h
 |p::P,w::vs,0,m,nd,h1,h2,hk=>by
  simp at h1 h2;subst h1;subst h2;show bindC kindOf ((p,w)::P.zip vs) m p=_;unfold bindC;rw[uL λv hv=>(N3.mp nd).1 (Po hv).1,MT hk];simp
 |p::P,w::vs,i+1,m,nd,h1,h2,hk=>by
  show bindC kindOf ((p,w)::P.zip vs) m x=_;unfold bindC;exact vf (i:=i) (N3.mp nd).2 (by simpa using h1) (by simpa using h2) hk
def kg (N:List Str)(vs:List V):St:=vs.map some++MF (N.length-vs.length) none
def uh (CX:lQ)(P:MS)(w:No)(K:HD)(mg:Str->Option Mj)(base:Os)(N:List Str)(qual:Str)(scope:Rn)(f:Mz)(cd:Mj)(A:ND)(outer:List Env)(s:Mp)(H:Hp)(E:XK):Cx where
 prog:=P
 w:=w
 K:=K
 mg:=mg
 base:=base
 A:=A.deeper (Tf qual scope s.heap.objs.size f cd)
 N:=N
 s₀:=s
 H₀:=H
 env:=Tf qual scope s.heap.objs.size f cd
 outer:=outer
 stack:=Tf qual scope s.heap.objs.size f cd::outer
 ex:=[]
 calm:=true
 fn:=λ_=>true
 pn:=[]
 xe:=λe s'=>MB (MW P w) (A.deeper (Tf qual scope s.heap.objs.size f cd)) (leaving (Tf qual scope s.heap.objs.size f cd) e) (λ_ s''=>CX outer H s E e s'') (λe' s''=>CX outer H s E e' s'') s'
theorem xM {sc:Rn}{n:Nat}{x:Str}(h:sc.names.lookup x=some .cell):∃ c,(QU n sc.names []).lookup x=some c:=by
 have q:=PQ sc.names n [] (.inl h);exact OJ.mp q
theorem B5 {CX:lQ}{P:MS}{w:No}{K:HD}{mg:Str->Option Mj}{base:Os}{N ps:List Str}{qual:Str}{scope:Rn}{f:Mz}{cd:Mj}{A:ND}{outer:List Env}{s s1:Mp}{H:Hp}{E:XK}{us:List Mj}{vs:List V}
  (S:ao N ps scope)(hd:A.handled=none)(e0:zm P w K mg base A outer s H)(hl:vs.length=ps.length)(r:aM vs us)
  (x:InCallC s s.heap.objs.size (bindL (Tf qual scope s.heap.objs.size f cd).kindOf (ps.zip us) λ_=>none) (QU (s.heap.objs.size+1) scope.names []) (bindC (Tf qual scope s.heap.objs.size f cd).kindOf (ps.zip us) λ_=>none) s1):
  aG (uh CX P w K mg base N qual scope f cd A outer s H E) [] (kg N vs) H s1:=by
 have hpl:ps.length<=N.length:=by have:=PZ Uy S.pre;rw[M3] at this;lia
 obtain⟨h1,tk,rfl,hk⟩:=x.done;have noA:∀ b:Mz,b∉(uh CX P w K mg base N qual scope f cd A outer s H E).ex:=λb z=>absurd (show b∈([]:List Mz) from z) (by simp)
 refine⟨⟨e0.mod,S.kind,rfl,rfl,Mm _,λy z c h1 h2=>?_,λy hy=>?_,λy c _ h=>?_,λ_=>hd,Around.frames_deeper e0.frames,.inr ⟨rfl,rfl⟩,λb z=>absurd z (noA b),e0.bs,e0.bsz,λb _ _=>noA b,λb z=>absurd z (noA b),e0.funs,e0.frf⟩,
  rfl,e0.bare,Un.kept hk,⟨_,x.toInCall.ns,λi y v h1 h2 h3=>?_⟩,λy c h=>⟨_,x.cell y c h⟩,e0.hok.fresh (Mm _),λy c h=>?_,λp hp=>absurd (show p∈([]:List (Mz×Obj)) from hp) (by simp),e0.hok.kept hk,?_⟩
 ·exact name_of_addr x.apart (Ow h1) (Ow h2)
 ·have hy:scope.names.lookup y=some .cell\/scope.names.lookup y=some .free:=hy;rcases hy with hy|hy
  ·exact xM hy
  ·exact absurd rfl (S.nofree _ (Ow hy))
 ·exact Op (x.above y c (Ow h))
 ·have hi:i<vs.length:=by
   unfold kg at h2
   by_cases hi:i<vs.length
   ·exact hi
   ·rw[NT (by simpa using hi)] at h2;rw[QN] at h2
    split at h2<;>cases h2
  have ha:vs[i]?=some v:=by
   unfold kg at h2;rw[OA (by simpa using hi),Mw] at h2;cases e:vs[i]? with
   |none=>rw[e] at h2;cases h2
   |some a=>rw[e] at h2;cases h2;rfl
  obtain⟨u,hu,rv⟩:=r.get ha;have hp:ps[i]?=some y:=by
   rw[<- S.pre,List.getElem?_take_of_lt (by lia)];exact h1
  have ndP:ps.Nodup:=by rw[<- S.pre];exact S.nd.sublist (SI _ _)
  refine⟨u,rv,?_⟩;rcases S.par y (ME hp) with k|k
  ·exact .inl ⟨k,vj ndP hp hu k⟩
  ·obtain⟨c,e⟩:=xM (n:=s.heap.objs.size+1) k;refine .inr ⟨.inl k,c,e,?_⟩;have q:=x.cell y c e;rw[vf ndP hp hu (by show scope.names.lookup y≠_;rw[k];decide)] at q;exact q
 ·exact e0.hok.fresh (Op (x.above y c (Ow h)))
 ·unfold kg;show _=N.length;rw[ML,Mq,TD];lia
theorem y9 {CX:lQ}{P:MS}{w:No}{K:HD}{mg:Str->Option Mj}{base:Os}{k:Nat}{f:Mz}{name qual:Str}{params:Arguments}{body:List Oe}{scope:Rn}{dV kV doc pm cdv ct oc:Mj}{an od:Option Mz}
  {osl:Array (Option Mj)}{N ps:List Str}{sp:Sp}(lk:K.lookup f=some ⟨oc,od,.func (MK name qual params body scope dV kV doc pm an cdv ct),osl⟩)(hcd:M' K cdv qual=true)(S:ao N ps scope)
  (len:∀ vs H Q E,sp vs H Q E->vs.length=ps.length)
  (bb:∀ (A:ND) (outer:List Env) (s:Mp) (H:Hp) (vs:List V) (Q:VK) (E:XK),Room k (A.deeper (Tf qual scope s.heap.objs.size f cdv))->sp vs H Q E ->
   ∃ t,Fy (uh CX P w K mg base N qual scope f cdv A outer s H E) body t/\t { nx:=λ_ H'=>Q .non H',rt:=Q } (kg N vs) H) :
  jp P w K mg base CX (k+1) f (MK name qual params body scope dV kV doc pm an cdv ct) ps sp:=by
 refine⟨len,λA outer s H args us vs Q E hr e0 hb r hsp=>?_⟩;have hl:=len _ _ _ _ hsp;have KX:K.In s.heap:=e0.mod.kin.keeps λb o e=>(e0.bs b o e).1
 have lim:s.heap.NoLimit:=e0.mod.nolimit.keeps λb o e=>(e0.bs b o e).1
 have hkind:∀ y∈ps.zip us,scope.names.lookup y.1=some .local\/(scope.names.lookup y.1=some .cell/\((QU (s.heap.objs.size+1) scope.names []).lookup y.1).isSome=true):=λ⟨n,v⟩ hy=>by
  rcases S.par n (Po hy).1 with q|q
  ·exact .inl q
  ·exact .inr ⟨q,PQ _ _ _ (.inl q)⟩
 refine codeAny_call_function hr.depth (KX _ _ lk) rfl S.co S.gen rfl (PySem.W.codeRec_of KX hcd) (hb _ _ _ _ ?_);refine wpAny_newFunctionEnv_cells S.kind hkind λenv he s1 x=>?_
 subst he;refine⟨lim.keeps x.toInCall.keep,codeAny_func ?_⟩;obtain⟨t,ht,hq⟩:=bb A outer s H vs Q E (hr.deeper _) hsp;have I:aG (uh CX P w K mg base N qual scope f cdv A outer s H E) [] (kg N vs) H s1:=B5 S hr.hd e0 hl r x;refine NI (ht [] s1 (kg N vs) H _ I hq) (λfl s' hs=>?_) λe s' hs=>hs
 have fin:∀ {σ':St}{H':Hp}{v:V}{u:Mj},aG (uh CX P w K mg base N qual scope f cdv A outer s H E) [] σ' H' s'->bv v u->Q v H'->CE outer P w H s Q u s':=
  λ{σ' H' v u} J rv q=>⟨v,H',J.os,J.bare,J.base,J.hok,rv,q⟩
 cases fl with
 |ret u=>
  obtain⟨v,σ',H',J,rv,q⟩:=hs;exact fin J rv q
 |next=>
  obtain⟨σ',H',J,q⟩:=hs;exact fin (v:=V.non) (u:=NH) J rfl q
 |brk=>
  obtain⟨_,_,_,q⟩:=hs;exact Ot q
 |cont=>
  obtain⟨_,_,_,q⟩:=hs;exact Ot q
section
variable {X:Cx}{x:Str}{p pos:Pos}{e:OH}{es:List OH}{t:TA}{id T:String}{r:List V->Hp->VK->Prop}
def LI (r:List V->Hp->VK->Prop)(t:TA):TE:=λσ H Q=>t σ H λvs H1=>r vs H1 Q
theorem au (hc:dg X (.builtin id) r) (hg:Gl X x) (hm:X.mg x=none) (hv:Np x=some (.builtin id)) (ha:WA X (e :: es) t) (hn:x ≠ "__name__":=by decide) (hdb:(x == ("__debug__":Str))=false:=by decide)
  (he:MU (e::es) X.env=(false,Qh e X.env)::MU es X.env:=by rfl)(hpl:(QC pos (MU es X.env)).any (·.1)=false:=by rfl):WE X (.Call (.Name x p) (e::es) [] pos) (LI r t):=by
 have ha:=ha.go;refine⟨?_⟩;intro pins s σ H Q I h;refine NZ (jY I hg hm hv ?_ hn hdb);exact Rk (bY (ha pos pins s σ H _ I h) λus s1 ⟨vs,H1,I1,r1,q1⟩=>hc pins s1 σ H1 vs us Q I1 r1 q1) he hpl
theorem bV (hc:dg X (.type T) r) (hg:Gl X x) (hm:X.mg x=none) (hv:Np x=some (.type T)) (ha:WA X (e :: es) t) (hn:x ≠ "__name__":=by decide) (hdb:(x == ("__debug__":Str))=false:=by decide)
  (he:MU (e::es) X.env=(false,Qh e X.env)::MU es X.env:=by rfl)(hpl:(QC pos (MU es X.env)).any (·.1)=false:=by rfl):WE X (.Call (.Name x p) (e::es) [] pos) (LI r t):=by
 have ha:=ha.go;refine⟨?_⟩;intro pins s σ H Q I h;refine NZ (jY I hg hm hv ?_ hn hdb);exact Oi (bY (ha pos pins s σ H _ I h) λus s1 ⟨vs,H1,I1,r1,q1⟩=>hc pins s1 σ H1 vs us Q I1 r1 q1) he hpl
end
end L2
namespace HT
open PySem PyProof.Rows
section
variable {prog:MS}{w:No}{A:ND}{E:Mj->Mp->Prop}{s:Mp}
theorem cat_tup (ht:IsTup s.heap t vs.toArray) (hb:IsTup s.heap b ws.toArray) (hv:vs ≠ [])
  (h1:ws=[]->Q (.ref t) s)(h2:ws≠[]->Q (.ref s.heap.objs.size) { s with heap:=s.heap.push { cls:=.type "tuple",data:=.seq (vs++ws).toArray } })
  (hsz:vs.length+ws.length<=MI):MB (MW prog w) A (Qo .Add (.ref t) (.ref b)) Q E s:=by
 obtain⟨⟨cls,dd,data,sl⟩,ho,hc,n,hd⟩:=id ht;obtain⟨⟨cls2,dd2,data2,sl2⟩,ho2,hc2,n2,hd2⟩:=id hb;simp only at hc hd hc2 hd2;subst hc hd hc2 hd2;have e:vs.toArray++ws.toArray=(vs++ws).toArray:=by simp
 by_cases hw:ws=[]
 ·exact concat_meets ⟨_,ho,rfl⟩ ⟨_,ho2,rfl⟩ Tg UW QZ QP (QB _ _)
   (tuple_addW1 t b vs.toArray ws.toArray n n2 dd dd2 sl sl2 (by simpa using hv) (by simp[hw])) ⟨ho,ho2,h1 hw⟩
 ·refine concat_meets ⟨_,ho,rfl⟩ ⟨_,ho2,rfl⟩ Tg UW QZ QP (QB _ _)
   (tuple_addW2 t b vs.toArray ws.toArray n n2 dd dd2 sl sl2 (by simpa using hv) (by simpa using hw) (by rw[MH,MH];exact hsz)) ⟨ho,ho2,?_⟩
  rw[e];exact h2 hw
def sIx (n d:Nat):Option Int->Nat
 |none=>d
 |some v=>if v<0 then(v+(n:Int)).toNat else min v.toNat n
theorem sIx_none (n d:Nat):sIx n d none=d:=rfl
theorem sIx_nat (n d k:Nat):sIx n d (some (k:Int))=min k n:=by
 show(if(k:Int)<0 then((k:Int)+(n:Int)).toNat else min (k:Int).toNat n)=min k n;rw[MT (by lia),M6]
theorem Hz (n d:Nat)(hd:d<=n)(o:Option Int):sIx n d o<=n:=by
 cases o with
 |none=>exact hd
 |some v=>
  show(if v<0 then(v+(n:Int)).toNat else min v.toNat n)<=n
  by_cases hv:v<0
  ·rw[Nd hv];lia
  ·rw[MT hv];exact Nat.min_le_right _ _
theorem Bp (v:Int)(n d:Nat):(if v<0 then max (v+(n:Int)) 0 else min v (n:Int))=((sIx n d (some v):Nat):Int):=by
 show(if v<0 then max (v+(n:Int)) 0 else min v (n:Int))=(((if v<0 then(v+(n:Int)).toNat else min v.toNat n):Nat):Int)
 by_cases hv:v<0
 ·simp only[Nd hv];lia
 ·simp only[MT hv];lia
theorem zL (lo hi:Option Int)(n:Nat):Qj lo hi 1 (n:Int)=(((sIx n 0 lo:Nat):Int),((sIx n n hi:Nat):Int)):=by
 have h1:¬ ((1:Int)<0):=by lia
 unfold Qj;simp only[h1,O4];refine Prod.ext ?_ ?_
 ·cases lo with
  |none=>rfl
  |some v=>exact Bp v n 0
 ·cases hi with
  |none=>rfl
  |some v=>exact Bp v n n
theorem zJ (i j:Nat):O6 (i:Int) (j:Int) 1=j-i:=by
 unfold O6;have h1:(1:Int)>0:=by lia
 simp only[h1,PR,Int.ediv_one]
 split<;>lia
theorem r9 (p:VA v o)(h:Q o s):MB (MW prog w) A (Builtin.Slice.slicePartIndex v) Q E s:=by
 cases p with
 |none=>exact slicePart_none h
 |int i t=>exact slicePart_int h
theorem oO {sl:Mz}{vl vu:Mj}{lo hi:Option Int}{n:Nat}{Q:Int × Int × Nat->Mp->Prop} (hs:s.heap.IsSliceOf sl vl vu .none) (pl:VA vl lo) (pu:VA vu hi)
  (h:Q (((sIx n 0 lo:Nat):Int),1,sIx n n hi-sIx n 0 lo) s):MB (MW prog w) A (R7 (.ref sl) (pure (n:Int))) Q E s:=by
 obtain⟨os,hos,hcs,hds⟩:=id hs;unfold R7 Builtin.Slice.sliceFields;refine KE (KE (NM hos hds (x:=vl) rfl (KE (NM hos hds (x:=vu) rfl (KE (NM hos hds (x:=.none) rfl (Mh ?_)))))));refine KE (slicePart_none ?_);show MB _ _ (if((1:Int)==0)=true then _ else _) _ _ s;rw[MT (by decide)];refine KE (r9 pl (KE (r9 pu (KE (Mh ?_)))));show MB _ _ (match Qj lo hi 1 (n:Int) with|(lo,hi)=>pure (lo,(1:Int),O6 lo hi 1)) _ _ s;rw[zL lo hi n];show MB _ _ (pure (((sIx n 0 lo:Nat):Int),(1:Int),O6 ((sIx n 0 lo:Nat):Int) ((sIx n n hi:Nat):Int) 1)) _ _ s;rw[zJ];exact Mh h
theorem Ew (xs:Array Mj)(i k:Nat):((On k).filterMap λ(m:Nat)=>xs[((i:Int)+(m:Int)*1).toNat]?).toArray=((xs.toList.drop i).take k).toArray:=by
 have e:(λ(m:Nat)=>xs[((i:Int)+(m:Int)*1).toNat]?)=λm=>xs[i+m]?:=by
  funext m
  have:((i:Int)+(m:Int)*1).toNat=i+m:=by lia
  rw[this]
 rw[e];have:=pick_run xs i k;rw[List.filterMap_map] at this;have e2:((λx=>xs[x]?) ∘ λx=>i+x)=λm=>xs[i+m]?:=rfl
 rw[e2] at this;rw[this]
theorem getItem_tuple_cut {t sl:Mz}{items:Array Mj}{vl vu:Mj}{lo hi:Option Int}{Q:Mj->Mp->Prop} (ht:IsTup s.heap t items) (hs:s.heap.IsSliceOf sl vl vu .none) (pl:VA vl lo) (pu:VA vu hi)
  (hw:¬ (sIx items.size 0 lo=0/\sIx items.size items.size hi=items.size))
  (h:Q (.ref s.heap.objs.size) { s with heap:=s.heap.push { cls:=.type "tuple",data:=.seq ((items.toList.drop (sIx items.size 0 lo)).take (sIx items.size items.size hi-sIx items.size 0 lo)).toArray } })
  (hsz:items.size<=MI):MB (MW prog w) A (UB (.ref t) (.ref sl)) Q E s:=by
 have htake:sizeOk (.seq ((items.toList.drop (sIx items.size 0 lo)).take (sIx items.size items.size hi-sIx items.size 0 lo)).toArray):=by
  show((items.toList.drop (sIx items.size 0 lo)).take (sIx items.size items.size hi-sIx items.size 0 lo)).toArray.size<=MI;rw[MH,M3,OZ,NJ];lia
 have hj:sIx items.size items.size hi<=items.size:=Hz _ _ (Mm _) hi;obtain⟨os,hos,hcs,hds⟩:=id hs;have hTs:s.TypeIs (.ref sl) "slice":=⟨os,hos,hcs⟩
 unfold UB
 try with_reducible refine NN ?_
 first|refine KE (Mh ?_)|skip
 refine KE (wpAny_sequenceKey ht.typeIs (by decide) ?_);refine KE (Nb (name:=NY "__getitem__") ht.typeIs OR
  (Nk OR ht.typeIs entry_tuple_getitem ?_ (args_tuple_getitem _ _)))
 show MB _ _ (Builtin.Tuple.tupleItemsOf (.ref t)>>=_) _ _ s;refine KE (tupleItemsOf_ ht ?_);refine KE (T1 hTs ?_);rw[Nd (by decide)];refine KE (oO hs pl pu ?_);have hno:¬ ((((sIx items.size 0 lo:Nat):Int)==0&&(1:Int)==1&&(sIx items.size items.size hi-sIx items.size 0 lo)==items.size)=true):=by
  intro q;rw[Nh,Nh] at q;have q1:((sIx items.size 0 lo:Nat):Int)=0:=eq_of_beq q.1.1;have q2:sIx items.size items.size hi-sIx items.size 0 lo=items.size:=eq_of_beq q.2;exact hw ⟨by lia,by lia⟩
 show MB _ _ (if(((sIx items.size 0 lo:Nat):Int)==0&&(1:Int)==1&&(sIx items.size items.size hi-sIx items.size 0 lo)==items.size)=true then _ else _) _ _ s;rw[MT hno,Ew]
 first
  |exact KE (m:=Ph _) (M1 (Mh ⟨_,rfl,Mh h⟩) htake)
  |exact KE (m:=Ph _) (M1 (KE (Mh (Mh ⟨_,rfl,Mh h⟩))) htake)
  |exact KE (KE (m:=Ph _) (M1 (Mh (Mh ⟨_,rfl,Mh h⟩)) htake))
  |exact KE (KE (m:=Ph _) (M1 (Mh ⟨_,rfl,Mh h⟩) htake))
end
end HT
namespace L2
open PySem PySem.Spec PyProof.Rows
abbrev TO:=St->Hp->(Option Int->Hp->Prop)->Prop
def PO (X:Cx)(e:Option OH)(t:TO):Prop:=
 ∀ (pins:List (Mz×Obj)) (s:Mp) (σ:St) (H:Hp) (Q:Option Int->Hp->Prop),aG X pins σ H s->t σ H Q ->
  MB (MW X.prog X.w) X.A (evalPart e X.env) (λu s'=>∃ o H',aG X pins σ H' s'/\VA u o/\Q o H') X.xe s
structure WO (X:Cx)(e:Option OH)(t:TO):Prop where
 go:PO X e t
def F6:TO:=λ_ H Q=>Q none H
def Kl (t:TE):TO:=λσ H Q=>t σ H λx H1=>∃ i,x=.int i/\Q (some i) H1
theorem rS:∀ {us:List Mj},aM (ns.map V.int) us->Pm us ns:=by
 induction ns with
 |nil=>intro us r;rw[Pu] at r;cases r;exact .nil
 |cons n ns ih=>
  intro us r;rw[MN] at r;cases r with
  |cons r1 r2=>
   obtain⟨t,e⟩:=r1;subst e;exact .cons n t (ih r2)
section
variable {X:Cx}{e:OH}{te:TE}{lo hi:Option OH}{tl th:TO}{pos p2:Pos}
theorem kA:WO X none F6:=by
 refine⟨?_⟩;intro pins s σ H Q I h;rw[evalPart_none];exact Mh ⟨none,H,I,.none,h⟩
theorem lF (h:WE X e te):WO X (some e) (Kl te):=by
 have h:=h.go;refine⟨?_⟩;intro pins s σ H Q I hw;rw[evalPart_some];refine bY (h pins s σ H _ I hw) λu s1 ⟨x,H1,I1,r1,q1⟩=>?_
 obtain⟨i,rfl,q⟩:=q1;obtain⟨t,rfl⟩:=r1;exact⟨some i,H1,I1,.int i t,q⟩
def KG (X:Cx)(r:V->Option Int->Option Int->Hp->VK->Prop):Prop:=
 ∀ (pins:List (Mz×Obj)) (s:Mp) (σ:St) (H:Hp) (x:V) (v vl vu:Mj) (lo hi:Option Int) (sl:Mz) (Q:VK),aG X pins σ H s->bv x v->s.heap.IsSliceOf sl vl vu .none->VA vl lo->VA vu hi->r x lo hi H Q ->
  ∃ T id,typeLookup (.type T) "__getitem__"=pure (some (.builtin id))/\s.TypeIs v T/\MB (MW X.prog X.w) X.A (UB v (.ref sl)) (EP X pins σ Q) X.xe s
def Mf (r:V->Option Int->Option Int->Hp->VK->Prop)(te:TE)(tl th:TO):TE:=λσ H Q=>te σ H λx H1=>tl σ H1 λl H2=>th σ H2 λu H3=>r x l u H3 Q
theorem jw (hr:KG X r)(he:WE X e te)(hl:WO X lo tl)(hu:WO X hi th):WE X (.Subscript e (.Slice lo hi none p2) pos) (Mf r te tl th):=by
 have he:=he.go;have hl:=hl.go;have hu:=hu.go;refine⟨?_⟩;intro pins s σ H Q I h;refine Vb (bY (he pins s σ H _ I h) λv s1 ⟨x,H1,I1,r1,q1⟩=>?_);refine wpAny_Slice (bY (hl pins s1 σ H1 _ I1 q1) λvl s2 ⟨l,H2,I2,pl,q2⟩=>bY (hu pins s2 σ H2 _ I2 q2) λvu s3 ⟨u,H3,I3,pu,q3⟩=>?_);rw[evalPart_none];refine Mh ?_;have I4:aG X pins σ H3 { s3 with heap:=s3.heap.push { cls:=.type "slice",data:=.fields #[vl,vu,.none] } }:=I3.kept (t':=s3.toks) λb ob q=>Mg _ q
 obtain⟨T,id,hT,ht,hg⟩:=hr pins { s3 with heap:=s3.heap.push { cls:=.type "slice",data:=.fields #[vl,vu,.none] } } σ H3 x v vl vu l u s3.heap.objs.size Q I4 r1 (Heap.IsSliceOf.new ..) pl pu q3;show MB (MW X.prog X.w) X.A (UY e (.Slice lo hi none p2) v (.ref s3.heap.objs.size)) (EP X pins σ Q) X.xe { s3 with heap:=s3.heap.push { cls:=.type "slice",data:=.fields #[vl,vu,.none] } };exact tail_any (ops:=[.ref s3.heap.objs.size,v]) ht hT hg (by with_unfolding_all rfl)
def nX (xs:List V)(lo hi:Option Int):List V:=(xs.drop (HT.sIx xs.length 0 lo)).take (HT.sIx xs.length xs.length hi-HT.sIx xs.length 0 lo)
theorem pQ (xs:List V)(lo hi:Option Int):(nX xs lo hi).length<=xs.length:=by
 unfold nX;rw[M3,OZ];lia
def JR (K:HD):V->Option Int->Option Int->Hp->VK->Prop:=λx lo hi H Q=>∃ a xs,x=.ref a/\dF K H a xs /\
 ¬ (HT.sIx xs.length 0 lo=0/\HT.sIx xs.length xs.length hi=xs.length)/\∀ p,H p=none->Q (.ref p) (upd H p (.tup (nX xs lo hi)))
theorem Iw:KG X (JR X.K):=by
 intro pins s σ H x v vl vu lo hi sl Q I rx hs pl pu h;obtain⟨a,xs,rfl,hx,hw,q⟩:=h;cases rx;obtain⟨its,r,ht,hz⟩:=I.tuple hx;have hlen:its.toArray.size=xs.length:=by rw[MH];exact r.length.symm
 refine⟨"tuple",_,OR.lookup,ht.typeIs,?_⟩;refine HT.getItem_tuple_cut ht hs pl pu (by rw[hlen];exact hw) ?_ (by rw[hlen];exact hz);rw[hlen];refine⟨.ref s.heap.objs.size,_,I.laid (t':=s.toks) (o:=.tup (nX xs lo hi)) (λb ob q=>Mg _ q) (Mm _) ?_,rfl,q _ (I.hok.fresh (Mm _))⟩;exact⟨MQ (pQ xs lo hi) hz,_,(r.drop (HT.sIx xs.length 0 lo)).take (HT.sIx xs.length xs.length hi-HT.sIx xs.length 0 lo),VB _ _⟩
def Kf (K:HD):R2:=λx y H Q=>∃ a b xs ys,x=.ref a/\y=.ref b/\dF K H a xs/\dF K H b ys/\xs≠[]/\xs.length+ys.length<=MI /\
 (ys=[]->Q (.ref a) H)/\(ys≠[]->∀ p,H p=none->Q (.ref p) (upd H p (.tup (xs++ys))))
theorem aM.nil_iff (r:aM xs us):us=[]↔xs=[]:=by
 cases r with
 |nil=>simp
 |cons _ _=>simp
theorem FX:k_ X (Qo .Add) (Kf X.K):=by
 intro pins s σ H x y v u Q I rx ry h;obtain⟨a,b,xs,ys,rfl,rfl,ha,hb,hx,hz,q1,q2⟩:=h;cases rx;cases ry;obtain⟨its,r1,p1,_⟩:=I.tuple ha;obtain⟨its2,r2,p2,_⟩:=I.tuple hb;refine HT.cat_tup p1 p2 (λz=>hx (r1.nil_iff.mp z)) (λz=>⟨.ref a,H,I,rfl,q1 (r2.nil_iff.mp z)⟩) (λz=>?_) (by rw[<- r1.length,<- r2.length];exact hz);refine⟨.ref s.heap.objs.size,_,I.laid (t':=s.toks) (o:=.tup (xs++ys)) (λb ob q=>Mg _ q) (Mm _) ?_,rfl,q2 (λw=>z (r2.nil_iff.mpr w)) _ (I.hok.fresh (Mm _))⟩;exact⟨by rw[ML];exact hz,_,r1.append r2,VB _ _⟩
end
def CL (n:Nat)(i:Int):Option Nat:=if 0<=i then(if i<n then some i.toNat else none) else if -(n:Int)<=i then some (i+n).toNat else none
def AD {α:Type}(xs:List α)(i:Int):Option α:=(CL xs.length i).bind λj=>xs[j]?
theorem AN {n:Nat}{i:Int}{j:Nat}(h:CL n i=some j):seqIndex? i n=some j/\j<n/\-(n:Int)<=i/\i<n:=by
 unfold CL at h
 by_cases h0:0<=i
 ·rw[Nd h0] at h
  by_cases h1:i<n
  ·rw[Nd h1] at h;have e:i.toNat=j:=Mi h;exact⟨by rw[seqIndex_of h0 h1,e],by lia,by lia,h1⟩
  ·rw[MT h1] at h;cases h
 ·rw[MT h0] at h
  by_cases h1:-(n:Int)<=i
  ·rw[Nd h1] at h;have e:(i+n).toNat=j:=Mi h;exact⟨by rw[seqIndex_neg (by lia) h1,e],by lia,h1,by lia⟩
  ·rw[MT h1] at h;cases h
theorem wI {i:Int}(h:AD xs i=some v):∃ j,seqIndex? i xs.length=some j/\xs[j]?=some v/\j<xs.length/\-(xs.length:Int)<=i/\i<xs.length:=by
 unfold AD at h;cases e:CL xs.length i with
 |none=>rw[e] at h;cases h
 |some j=>
  rw[e] at h;obtain⟨h1,h2,h3,h4⟩:=AN e;exact⟨j,h1,h,h2,h3,h4⟩
theorem nK {α:Type}{xs:List α}{j:Nat}{v:α}(h:xs[j]?=some v):AD xs (j:Int)=some v:=by
 have hj:j<xs.length:=(Mu.mp h).1;have e:CL xs.length (j:Int)=some j:=by
  unfold CL;rw[Nd (by lia),Nd (by lia)];simp
 unfold AD;rw[e];exact h
theorem rF (xs:List α)(v:α):AD (xs++[v]) (-1)=some v:=by
 have hl:(xs++[v]).length=xs.length+1:=by simp
 have e:CL (xs++[v]).length (-1)=some xs.length:=by
  unfold CL;rw[hl,MT (by decide),Nd (by lia)]
  congr 1
  lia
 unfold AD;rw[e];show(xs++[v])[xs.length]?=some v;simp
def AZ (b:OH):Prop:=∀ o i,subscripted b false o i=operate [o,i] (UB o i)
def Ep (X:Cx)(r:R2):Prop:=
 ∀ (value slice:OH) (pins:List (Mz×Obj)) (s:Mp) (σ:St) (H:Hp) (x y:V) (v u:Mj) (Q:VK),aG X pins σ H s->bv x v->bv y u->r x y H Q ->
  subscripted slice false v u=operate [v,u] (UB v u)->MB (MW X.prog X.w) X.A (UY value slice v u) (EP X pins σ Q) X.xe s
def L6 (X:Cx)(id:String)(r:V->List V->Hp->VK->Prop):Prop:=
 ∀ (pins:List (Mz×Obj)) (s:Mp) (σ:St) (H:Hp) (x:V) (xs:List V) (v:Mj) (us:List Mj) (Q:VK),aG X pins σ H s->bv x v->aM xs us->r x xs H Q ->
  MB (MW X.prog X.w) X.A (call (.builtin id) (v::us)) (EP X pins σ Q) X.xe s
section
variable {X:Cx}{a b:OH}{ta tb:TE}{pos:Pos}
theorem Ep.or (h:Ep X r)(h':Ep X r'):Ep X (λx y H Q=>r x y H Q\/r' x y H Q):=by
 intro value slice pins s σ H x y v u Q I rx ry q hs;rcases q with q|q
 ·exact h value slice pins s σ H x y v u Q I rx ry q hs
 ·exact h' value slice pins s σ H x y v u Q I rx ry q hs
theorem C_ (hr:Ep X r)(ha:WE X a ta)(hb:WE X b tb)(hs:AZ b):WE X (.Subscript a b pos) (JS r ta tb):=by
 have ha:=ha.go;have hb:=hb.go;refine⟨?_⟩;intro pins s σ H Q I h;exact Vb (II ha hb I h λv u s2 x y H2 I2 rx ry q=>hr a b pins s2 σ H2 x y v u Q I2 rx ry q (hs _ _))
inductive J2 (K:HD)(x y:V)(H:Hp)(Q:VK):Prop
 |mk (p:Mz) (xs:List V) (i:Int) (v:V) (_:x=.ref p) (_:y=.int i) (_:bH K H p xs) (_:AD xs i=some v) (_:Q v H)
inductive Jo (K:HD)(x y:V)(H:Hp)(Q:VK):Prop
 |mk (p:Mz) (xs:List V) (i:Int) (v:V) (_:x=.ref p) (_:y=.int i) (_:dF K H p xs) (_:AD xs i=some v) (_:Q v H)
def JY:R2:=λx y H Q=>∃ z i c,x=.str z/\y=.int i/\z.length<=MI/\AD z.cps.toList i=some c/\Q (.str ⟨#[c]⟩) H
theorem Ga:Ep X (J2 X.K):=by
 intro value slice pins s σ H x y v u Q I rx ry h hs;obtain⟨p,xs,i,z,rfl,rfl,hq,he,q⟩:=h;cases rx;obtain⟨t,rfl⟩:=ry;obtain⟨its,r,pl,hz⟩:=I.list hq;obtain⟨j,h1,h2,h3,h4,h5⟩:=wI he;obtain⟨w,ew,rw'⟩:=r.get h2;have hl:=r.length;have hn:=ph;have fin:EP X pins σ Q w s:=⟨z,H,I,rw',q⟩
 by_cases h0:0<=i
 ·have hj:i.toNat=j:=by
   rw[seqIndex_of h0 h5] at h1;exact Mi h1
  exact item_listR pl.isList h0 (by lia) (by rw[hj];simpa using ew) fin hs
 ·have hj:(i+(its.toArray.size:Int)).toNat=j:=by
   rw[seqIndex_neg (by lia) h4] at h1;rw[MH,<- hl];exact Mi h1
  exact To (x:=w) pl.isList.typeIs slot_list_getitem.lookup
   (wpAny_getItem_list_neg (Q:=λr s'=>r=w/\EP X pins σ Q r s') pl.isList (by lia) (by rw[MH]<;>lia) (by lia) (by rw[hj];simpa using ew) ⟨rfl,fin⟩) hs
theorem HG:Ep X (Jo X.K):=by
 intro value slice pins s σ H x y v u Q I rx ry h hs;obtain⟨p,xs,i,z,rfl,rfl,hq,he,q⟩:=h;cases rx;obtain⟨t,rfl⟩:=ry;obtain⟨its,r,pl,hz⟩:=I.tuple hq;obtain⟨j,h1,h2,h3,h4,h5⟩:=wI he;obtain⟨w,ew,rw'⟩:=r.get h2;have hl:=r.length;have hn:=ph;have fin:EP X pins σ Q w s:=⟨z,H,I,rw',q⟩
 exact To (x:=w) pl.typeIs OR.lookup
  (getItem_tuple (j:=j) (Q:=λr s'=>r=w/\EP X pins σ Q r s') pl (by lia) (by lia) (by rw[MH,<- hl];exact h1) (by simpa using ew) ⟨rfl,fin⟩) hs
theorem Ih:Ep X JY:=by
 intro value slice pins s σ H x y v u Q I rx ry h hs;obtain⟨z,i,c,rfl,rfl,hz,he,q⟩:=h;obtain⟨t,rfl⟩:=rx;obtain⟨t',rfl⟩:=ry;obtain⟨j,h1,h2,h3,h4,h5⟩:=wI he;have hl:z.cps.toList.length=z.length:=by simp[Str.length]
 rw[hl] at h1 h4 h5;have hn:=ph;exact tail_any (typeIs_str s z t) slot_str_getitem.lookup (getItem_str (c:=c) (by
  have e1:decide (i < -(2^63:Int))=false:=Na (by lia);have e2:decide (i>=2^63)=false:=Na (by lia);rw[e1,e2,Bool.or_false]) (by rw[h1];simpa using h2) ⟨.str ⟨#[c]⟩,H,I.tok _,⟨_,rfl⟩,q⟩) hs
def Gh (K:HD):R2:=λx y H Q=>J2 K x y H Q\/Jo K x y H Q\/JY x y H Q
theorem Ib:Ep X (Gh X.K):=Ga.or (HG.or Ih)
theorem Aq (its:List Mj)(n j:Nat)(u:Mj):Pp (·.setIfInBounds j u) { cls:=.type "list",data:=.seq its.toArray n }={ cls:=.type "list",data:=.seq (its.set j u).toArray n }:=by
 simp[Pp]
theorem aG.lst {pins:List (Mz × Obj)}{σ:St}{H:Hp}{s:Mp}{p:Mz}{xs:List V} (I:aG X pins σ H s) (h:H p=some (.lst xs)) :
  ∃ (its:List Mj) (n:Nat),aM xs its/\s.heap.get? p=some { cls:=.type "list",data:=.seq its.toArray n }/\xs.length<=MI:=by
 obtain⟨z,its,n,r,e⟩:=I.hok p _ h;exact⟨its,n,r,e,z⟩
theorem aG.lstUpd {pins:List (Mz × Obj)}{σ:St}{H:Hp}{s:Mp}{p:Mz}{xs ys:List V}{its its':List Mj}{n n':Nat}{f:Obj->Obj} (I:aG X pins σ H s) (h:H p=some (.lst xs))
  (ho:s.heap.get? p=some { cls:=.type "list",data:=.seq its.toArray n })(hf:f { cls:=.type "list",data:=.seq its.toArray n }={ cls:=.type "list",data:=.seq its'.toArray n' })(r:aM ys its')(hz:ys.length<=MI)(t:Nat):
  aG X pins σ (upd H p (.lst ys)) { s with heap:=s.heap.update p f,toks:=t }:=by
 have e:(s.heap.update p f).get? p=some { cls:=.type "list",data:=.seq its'.toArray n' }:=by
  rw[Nm f ho (by rw[hf]<;>rfl),hf]
 refine I.write (x:=p) (e:=p) (by rw[h];trivial) (.inl rfl) (λb u hb q=>(N0 _ _ (OU hb)).trans q) ⟨_,e⟩ ?_;exact⟨hz,its',n',r,e⟩
def Ku:V->V->V->Hp->(Hp->Prop)->Prop:=λo i v H Q=>∃ p xs k j,o=.ref p/\i=.int k/\H p=some (.lst xs)/\CL xs.length k=some j/\Q (upd H p (.lst (xs.set j v)))
theorem xX:Jz X Ku:=by
 intro pins s σ H o i v ov iv u Q I ro ri rv h;obtain⟨p,xs,k,j,rfl,rfl,hp,hj,q⟩:=h;cases ro;obtain⟨t,rfl⟩:=ri;obtain⟨its,n,r,ho,hz⟩:=I.lst hp;obtain⟨h1,h2,h3,h4⟩:=AN hj;have hl:=r.length;have hn:=ph;have I':aG X pins σ (upd H p (.lst (xs.set j v))) { s with heap:=s.heap.update p (Pp (·.setIfInBounds j u)) }:=
  I.lstUpd hp ho (Aq its n j u) (r.set rv j) (by rw[TF];exact hz) s.toks
 by_cases h0:0<=k
 ·have hk:k.toNat=j:=by
   rw[seqIndex_of h0 h4] at h1;exact Mi h1
  exact PySem.W.ki_setAt ho h0 (by lia) (by rw[MH,<- hl];exact h4) (by rw[hk];exact⟨_,I',q⟩)
 ·have hk:(k+(its.toArray.size:Int)).toNat=j:=by
   rw[seqIndex_neg (by lia) h3] at h1;rw[MH,<- hl];exact Mi h1
  exact PySem.W.ki_setBack ho (by lia) (by rw[MH,<- hl];exact h3) (by lia) (by rw[hk];exact⟨_,I',q⟩)
theorem vO (lo hi:Option Int)(n:Nat):(Re lo hi none n).1=((HT.sIx n 0 lo:Nat):Int)/\(Re lo hi none n).2.1=((HT.sIx n n hi:Nat):Int)/\(Re lo hi none n).2.2=1:=by
 refine⟨?_,?_,rfl⟩
 ·cases lo with
  |none=>simp[Re,HT.sIx]
  |some i=>
   simp only[Re,HT.sIx,Vu,show(1:Int)>0 by decide,PR]
   by_cases h:i<0
   ·simp only[h,PR]<;>lia
   ·simp only[h,O4]<;>lia
 ·cases hi with
  |none=>simp[Re,HT.sIx]
  |some i=>
   simp only[Re,HT.sIx,Vu,show(1:Int)>0 by decide,PR]
   by_cases h:i<0
   ·simp only[h,PR]<;>lia
   ·simp only[h,O4]<;>lia
theorem uH (its:List Mj)(lo hi:Option Int):slicePick its.toArray lo hi none=((its.drop (HT.sIx its.length 0 lo)).take (HT.sIx its.length its.length hi-HT.sIx its.length 0 lo)).toArray:=by
 obtain⟨h1,h2,h3⟩:=vO lo hi its.toArray.size;unfold slicePick;rw[h1,h2,h3];simp only[sliceRange_one,pick_run,MH]<;>rfl
def Jn (K:HD):V->Option Int->Option Int->Hp->VK->Prop:=λx lo hi H Q=>∃ a xs,x=.ref a/\bH K H a xs/\∀ p,H p=none->Q (.ref p) (upd H p (.lst (nX xs lo hi)))
theorem GF:KG X (Jn X.K):=by
 intro pins s σ H x v vl vu lo hi sl Q I rx hs pl pu h;obtain⟨a,xs,rfl,hx,q⟩:=h;cases rx;obtain⟨its,r,ht,hz⟩:=I.list hx;have hlen:=r.length;refine⟨"list",_,slot_list_getitem.lookup,ht.isList.typeIs,?_⟩;refine wpAny_getItem_list_slice ht.isList hs pl pu .none (by simp) ?_ (by rw[MH]<;>lia);rw[uH,<- hlen];refine⟨.ref s.heap.objs.size,_,I.laid (t':=s.toks) (o:=.lst (nX xs lo hi)) (λb ob q=>Mg _ q) (Mm _) ?_,rfl,q _ (I.hok.fresh (Mm _))⟩;exact⟨MQ (pQ xs lo hi) hz,_,0,(r.drop (HT.sIx xs.length 0 lo)).take (HT.sIx xs.length xs.length hi-HT.sIx xs.length 0 lo),Mn _ rfl⟩
theorem vM:dg X (.builtin "len") (λxs H Q=>∃ p ys,xs=[.ref p]/\(bH X.K H p ys\/dF X.K H p ys)/\Q (.int ys.length) H):=by
 intro pins s σ H xs us Q I r h;obtain⟨p,ys,rfl,hq,q⟩:=h;obtain⟨u,rfl,rx⟩:=ki r;cases rx;have hn:=ph;rcases hq with hq|hq
 ·obtain⟨its,r',pl,hz⟩:=I.list hq;have hlen:=r'.length;exact Calls.call_len_list pl.isList (by simp only[MH]<;>lia) ⟨.int ys.length,H,I.tok _,⟨s.toks+1,by rw[MH,hlen]⟩,q⟩
 ·obtain⟨its,r',pl,hz⟩:=I.tuple hq;have hlen:=r'.length;exact len_tuple pl (by simp only[MH]<;>lia) ⟨.int ys.length,H,I.tok _,⟨s.toks+1,by rw[MH,hlen]⟩,q⟩
theorem wz:dg X (.type "list") (λxs H Q=>∃ p ys,xs=[.ref p]/\(bH X.K H p ys\/dF X.K H p ys)/\∀ l,H l=none->Q (.ref l) (upd H l (.lst ys))):=by
 intro pins s σ H xs us Q I r h;obtain ⟨p,ys,rfl,hq,q⟩:=h;obtain ⟨u,rfl,rx⟩:=ki r;cases rx;have fin:∀ (its:List Mj),aM ys its->ys.length <= MI->∀ (h':Os) (c':Nat),(∀ b o',s.heap.get? b=some o'->h'.get? b=some o') ->
   h'.get? s.heap.objs.size=some { cls:=.type "list",dict:=none,data:=.seq its.toArray c',slots:=#[] }->EP X pins σ Q (.ref s.heap.objs.size) { s with heap:=h' }:=λits r' hz h' c' kp e=>
  ⟨.ref s.heap.objs.size,_,I.laid (t':=s.toks) kp (Mm _) (show bT X.prog X.w _ h' _ (.lst ys) from⟨hz,its,c',r',e⟩),rfl,q _ (I.hok.fresh (Mm _))⟩
 rcases hq with hq|hq
 ·obtain⟨its,r',pl,hz⟩:=I.list hq;have hlen:=r'.length;obtain⟨o,ho,hc,n,hd⟩:=pl.isList;exact call_list_seq p (.inl rfl) ho hc hd (λh' c' kp e=>fin its r' hz h' c' kp e) (by simp only[MH]<;>lia)
 ·obtain⟨its,r',pl,hz⟩:=I.tuple hq;have hlen:=r'.length;obtain⟨o,ho,hc,n,hd⟩:=pl;exact call_list_seq p (.inr rfl) ho hc hd (λh' c' kp e=>fin its r' hz h' c' kp e) (by simp only[MH]<;>lia)
theorem uF:dg X (.type "tuple") (λxs H Q=>∃ p ys,xs=[.ref p]/\((bH X.K H p ys/\∀ l,H l=none->Q (.ref l) (upd H l (.tup ys)))\/(dF X.K H p ys/\Q (.ref p) H))):=by
 intro pins s σ H xs us Q I r h;obtain⟨p,ys,rfl,h⟩:=h;obtain⟨u,rfl,rx⟩:=ki r;cases rx;rcases h with ⟨hq,q⟩|⟨hq,q⟩
 ·obtain⟨its,r',pl,hz⟩:=I.list hq;have hlen:=r'.length;refine call_tuple_list pl.isList (λh' kp=>?_) (by simp only[MH]<;>lia);have I1:aG X pins σ H { s with heap:=h' }:=I.kept (t':=s.toks) kp;have I2:aG X pins σ (upd H h'.objs.size (.tup ys)) { s with heap:=h'.push { cls:=.type "tuple",data:=.seq its.toArray } }:=
   I1.laid (t':=s.toks) (λb o e=>Mg _ e) (Mm _) (show bT X.prog X.w _ _ _ (.tup ys) from⟨hz,its,r',VB _ _⟩)
  exact⟨.ref h'.objs.size,_,I2,rfl,q _ (I1.hok.fresh (Mm _))⟩
 ·obtain⟨its,r',pl,hz⟩:=I.tuple hq;exact call_tuple_same pl ⟨.ref p,H,I,rfl,q⟩
def LL (K:HD)(T:String)(x:V)(H:Hp):Prop:=match x with
 |.str _=>T="str"
 |.int _=>T="int"
 | .ref p=>(T="list"/\∃ xs,bH K H p xs)\/(T="tuple"/\∃ o,K.lookup p=some o/\o.cls=.type "tuple"/\o.dict=none) \/
   (T="dict"/\((∃ kvs,H p=some (.dK kvs))\/∃ kvs,H p=some (.dT kvs)))\/(T="set"/\∃ S n,H p=some (.set S n))
 |_=>False
theorem EI (I:aG X pins σ H s) (r:bv x v) (ty:LL X.K T x H) :
  s.TypeIs v T/\∀ a,v=.ref a->∃ ob,s.heap.get? a=some ob/\ob.dict=none:=by
 cases x with
 |str z=>
  obtain⟨t,rfl⟩:=r;cases(show T="str" from ty);exact⟨typeIs_str s z t,λ_ e=>nomatch e⟩
 |int i=>
  obtain⟨t,rfl⟩:=r;cases(show T="int" from ty);exact⟨T4 s i t,λ_ e=>nomatch e⟩
 |ref p=>
  cases r;rcases ty with ⟨rfl,xs,hq⟩|⟨rfl,o,hk,hc,hd⟩|⟨rfl,hk⟩|⟨rfl,S,n,hk⟩
  ·obtain⟨its,_,pl,_⟩:=I.list hq;refine⟨pl.isList.typeIs,λa e=>?_⟩;cases e;obtain⟨o,n,e,c,hd,_⟩:=pl;exact⟨o,e,hd⟩
  ·refine⟨⟨o,I.kIn p o hk,hc⟩,λa e=>?_⟩;cases e;exact⟨o,I.kIn _ o hk,hd⟩
  ·have z:∃ o,s.heap.get? p=some o/\o.ExactDict:=by
    rcases hk with ⟨kvs,hk⟩|⟨kvs,hk⟩
    ·obtain⟨_,_,_,_,o,_,_,e,ex,_⟩:=I.hok p _ hk;exact⟨o,e,ex⟩
    ·obtain⟨_,_,_,_,o,_,_,e,ex,_⟩:=I.hok p _ hk;exact⟨o,e,ex⟩
   obtain⟨o,e,ex⟩:=z;refine⟨⟨o,e,ex.1⟩,λa e2=>?_⟩;cases e2;exact⟨o,e,ex.2.1⟩
  ·obtain⟨o,_,_,_,e,ex,_⟩:=I.hok p _ hk;refine⟨⟨o,e,ex.1⟩,λa e2=>?_⟩;cases e2;exact⟨o,e,ex.2.1⟩
 |_=>exact Ot ty
def Ma (K:HD)(T:String)(r:V->List V->Hp->VK->Prop)(to:TE)(t:TA):TE:=λσ H Q=>to σ H λx H1=>LL K T x H1/\t σ H1 λxs H2=>r x xs H2 Q
variable {o e:OH}{es:List OH}{to:TE}{t:TA}{name:Str}{apos cpos:Pos}{T id:String}{r:V->List V->Hp->VK->Prop}
theorem rj (pa:PlainAttrs T) (slot:Slot T name id) (hty:typeOf (.builtin id)=pure (.type "method_descriptor")) (hm:L6 X id r) (ho:WE X o to) (ha:WA X (e :: es) t)
  (hbase:RF o name X.env (Qh o X.env)=Qh o X.env:=by rfl)
  (hfew:((QC cpos (MU (e::es) X.env)).all (λx=>!x.1)&&(PY cpos (Ol [] X.env)).all (λx=>x.1.isSome)
   &&decide ((e::es).length+([]:List Rr).length+(if([]:List Rr).isEmpty then 0 else 1)<30))=true:=by rfl)
  (hline:(apos.endLine==cpos.line)=true:=by rfl)(hs:MU (e::es) X.env=(false,Qh e X.env)::MU es X.env:=by rfl)(hplain:(QC cpos (MU es X.env)).any (·.1)=false:=by rfl):
  WE X (.Call (.Attribute o name apos) (e::es) [] cpos) (Ma X.K T r to t):=by
 have ho:=ho.go;have ha:=ha.go;refine⟨?_⟩;intro pins s σ H Q I h;refine wpAny_Call_method_late hbase hfew hline rfl (bY (ho pins s σ H _ I h) λv s1 ⟨x,H1,I1,r1,ty,q1⟩=>?_);obtain⟨h1,h2⟩:=EI I1 r1 ty;refine⟨T,id,pa,slot,hty,h1,h2,?_⟩;have hA:=ha cpos pins s1 σ H1 _ I1 q1;rw[hs] at hA ⊢;refine QX (by show(false||(QC cpos (MU es X.env)).any (·.1))=false;rw[hplain]<;>rfl) (T8 ?_);exact bY hA λus s2 ⟨vs,H2,I2,r2,q2⟩=>hm pins s2 σ H2 x vs v us Q I2 r1 r2 q2
end
def Mb (X:Cx)(id:String)(r:V->List V->Hp->VK->Prop):Prop:=
 ∀ (pins:List (Mz×Obj)) (s:Mp) (σ:St) (H:Hp) (x:V) (xs:List V) (v:Mj) (us:List Mj) (Q:VK),aG X pins σ H s->bv x v->aM xs us->r x xs H Q ->
  MB (MW X.prog X.w) X.A (call (.builtin id) (v::us)) (EP X pins σ Q) X.xe s
theorem aM.one:∀ {x:V}{us:List Mj},aM [x] us->∃ u,us=[u]/\bv x u
 |_,_,.cons r .nil=>⟨_,rfl,r⟩
theorem aM.rep (h:aM xs us):∀ k:Nat,aM (MF k xs).flatten (MF k us).flatten
 |0=>.nil
 |k+1=>by
  rw[Ov,Ov,Qb,Qb];exact aM.append h (aM.rep h k)
theorem uW (its:List Mj):∀ (k:Nat) (acc:List Mj),
  VN (λx1 x2=>x1++x2) acc.toArray (MF k its.toArray)=(acc++(MF k its).flatten).toArray
 |0,acc=>by simp
 |k+1,acc=>by
  have e:acc.toArray++its.toArray=(acc++its).toArray:=by simp
  have e2:(acc++its)++(MF k its).flatten=acc++(MF (k+1) its).flatten:=by
   rw[Ov,Qb,Ou]
  rw[<- e2,<- uW its k (acc++its),<- e,Ov,Tw]
section
variable {X:Cx}{pins:List (Mz×Obj)}{σ:St}{H:Hp}{s:Mp}{l b:Mz}{xs ys zs:List V}
theorem aG.lset {its its':List Mj}{n:Nat}{f:Array Mj->Array Mj}{t':Nat} (I:aG X pins σ H s) (hH:H l=some (.lst xs))
  (e:s.heap.get? l=some { cls:=.type "list",data:=.seq its.toArray n })(hf:f its.toArray=its'.toArray)(hv:aM ys its')(hz:ys.length<=MI):
  aG X pins σ (upd H l (.lst ys)) { s with heap:=s.heap.update l (Pp f),toks:=t' }:=by
 have q:=PySem.IsL.update e f;rw[hf] at q;refine I.write (x:=l) (e:=l) (by rw[hH];exact trivial) (.inl rfl) (λb' u hb hu=>(N0 s.heap (Pp f) (OU hb)).trans hu) ⟨_,q⟩ ?_;exact⟨hz,its',_,hv,q⟩
theorem aG.lnew {t':Nat} (I:aG X pins σ H s) (hv:aM ys its) (hz:ys.length <= MI) :
  aG X pins σ (upd H s.heap.objs.size (.lst ys)) { s with heap:=s.heap.push { cls:=.type "list",data:=.seq its.toArray },toks:=t' }:=
 I.laid (λ_ _ q=>Mg _ q) (Mm _) ⟨hz,its,0,hv,Mn _ rfl⟩
theorem aG.fresh (I:aG X pins σ H s):H s.heap.objs.size=none:=I.hok.fresh (Mm _)
theorem aG.lstM (I:aG X pins σ H s)(hH:H l=some (.lst xs)):xs.length<=MI/\∃ (its:List Mj) (n:Nat),aM xs its/\xs.length=its.length/\s.heap.get? l=some { cls:=.type "list",data:=.seq its.toArray n }:=by
 obtain⟨z,its,n,r,e⟩:=I.hok l _ hH;exact⟨z,its,n,r,r.length,e⟩
theorem Fk {n:Nat}(h:n<=MI):Qy n=false:=by
 unfold Qy;exact Na (by lia)
end
section
variable {X:Cx}
def Gd:V->List V->Hp->VK->Prop:=λx vs H Q=>∃ l xs y,x=.ref l/\vs=[y]/\H l=some (.lst xs)/\xs.length<MI/\Q .non (upd H l (.lst (xs++[y])))
theorem jD:Mb X "list.append" Gd:=by
 intro pins s σ H x vs v us Q I rx rv h;obtain⟨l,xs,y,rfl,rfl,hH,hz,q⟩:=h;cases rx;obtain⟨u,rfl,ru⟩:=rv.one;obtain⟨z,its,n,r,hl,e⟩:=I.lstM hH;refine T2 Of ⟨_,e,rfl⟩ F.entry_list_append (F.args_list_append_2 _ _) (PySem.list_append l its.toArray n u (by rw[MH];lia)) ⟨e,?_⟩;refine⟨.non,_,I.lset (its':=its++[u]) hH e (by simp) (r.append (.cons ru .nil)) ?_,rfl,q⟩;rw[ML,TH];lia
def K8:R2:=λx y H Q=>∃ l b xs zs,x=.ref l/\y=.ref b/\H l=some (.lst xs)/\H b=some (.lst zs)/\xs.length+zs.length<=MI/\∀ p,H p=none->Q (.ref p) (upd H p (.lst (xs++zs)))
theorem wV:k_ X (Qo .Add) K8:=by
 intro pins s σ H x y v u Q I rx ry h;obtain⟨l,b,xs,zs,rfl,rfl,hH,hB,hz,q⟩:=h;cases rx;cases ry;obtain⟨z,its,n,r,hl,e⟩:=I.lstM hH;obtain⟨z2,its2,n2,r2,hl2,e2⟩:=I.lstM hB;refine PySem.P.add_list e e2 ?_ (by rw[MH,MH];lia);have ea:its.toArray++its2.toArray=(its++its2).toArray:=by simp
 rw[ea];exact⟨.ref _,_,I.lnew (t':=s.toks) (r.append r2) (by rw[ML];lia),rfl,q _ I.fresh⟩
def IA:R2:=λx y H Q=>∃ l k xs,x=.ref l/\y=.int k/\H l=some (.lst xs)/\-(2^63)<=k/\k<2^63/\xs.length*k.toNat<=MI /\
 ∀ p,H p=none->Q (.ref p) (upd H p (.lst (MF k.toNat xs).flatten))
theorem FM (xs:List α)(k:Nat):(MF k xs).flatten.length=k*xs.length:=by
 induction k with
 |zero=>simp
 |succ k ih=>rw[Ov,Qb,ML,ih,Rj,Pw]
theorem E_:k_ X (Qo .Mult) IA:=by
 intro pins s σ H x y v u Q I rx ry h;obtain⟨l,k,xs,rfl,rfl,hH,h1,h2,hz,q⟩:=h;cases rx;obtain⟨t,rfl⟩:=ry;obtain⟨z,its,n,r,hl,e⟩:=I.lstM hH;have hlen:its.toArray.size*k.toNat<=MI:=by rw[MH,<- hl];exact hz
 have hcap:¬ its.toArray.size*k.toNat>(2^63-1)/8:=by
  have:(MI:Nat)<=(2^63-1)/8:=by decide
  lia
 have hfit:¬ (!Builtin.List.listFitsIndex k)=true:=by
  rw[fitsIndex_both h1 h2];exact Nj
 have hlong:¬ Qy (its.toArray.size*k.toNat)=true:=by
  rw[Fk hlen];exact Nj
 have hnew:VN (λx1 x2=>x1++x2) #[] (MF (if its.toArray.isEmpty=true then 0 else k.toNat) its.toArray)=(MF k.toNat its).flatten.toArray:=by
  have f0:∀ m:Nat,VN (λx1 x2=>x1++x2) #[] (MF m its.toArray)=(MF m its).flatten.toArray:=λm=>by
   have:=uW its m [];rw[List.nil_append] at this;exact this
  rw[f0];cases its with
  |nil=>simp
  |cons a r'=>rw[MT (by simp)]
 refine Sz (T:="list") (U:="int") (by decide) ⟨_,e,rfl⟩ (λs'=>T4 s' k t) noFill_list_mul UF QJ repeat_list Uv.lookup
  (T2 QJ (T4 s k t) Uu (T9 _ _) (int___rmul___int_list k t l its.toArray n)
   ⟨e,rfl,⟨_,e,rfl⟩,T2 F.slot_list_mul ⟨_,e,rfl⟩ F.entry_list_mul (F.args_list_mul_2 _ _) (AutoListH.list___mul___list_int_3 l its.toArray n k t hfit hcap hlong) ⟨e,?_⟩⟩)
 rw[hnew];exact⟨.ref _,_,I.lnew (t':=s.toks) (r.rep k.toNat) (by rw[FM,Vm];exact hz),rfl,q _ I.fresh⟩
end
end L2
namespace Att
open PySem PySem.W PySem.Calls PyProof.Rows
theorem qw:∀ (ns:List Int) (vs:List Mj),WellAll P h vs (ns.map WData.int)->Pm vs ns:=by
 intro ns
 induction ns with
 |nil=>
  intro vs w;rw[Pu] at w;cases w;exact .nil
 |cons n ns ih=>
  intro vs w;rw[MN] at w;cases w with
  |cons a b=>
   cases a;exact .cons _ _ (ih _ b)
theorem BI {l:OpenLaw}{n:Nat} (hn:l.most=some n) {P:Params}{h:Os}{args:List WData}{vals:List Mj}
  (hpre:l.row.toRowW.claim.pre args=true)(hwl:WellAll P h vals args):
  ∃ a vs ns,vals=[MP a]/\args=[WData.list (ns.map WData.int)]/\h.get? a=some { cls:=.type "list",data:=.seq vs.toArray }/\Pm vs ns/\ns.length<=n:=by
 have hsh:WShape.hasAll [] args [.list .int]=true:=(pre_splitW hpre).1;have hc:l.pre.holds [] { args:=args }=true:=(pre_splitW hpre).2;obtain⟨d,r,rfl,h1,h2⟩:=hasAllW_cons hsh;obtain rfl:=hasAllW_nil h2;obtain⟨xs,rfl,h3⟩:=hasW_list h1;obtain⟨ns,rfl⟩:=items_int h3;have hlen:ns.length<=n:=by
  unfold OpenLaw.pre at hc;have h4:(WTm.not (.lt (.lit (.int (n:Int))) (.len (.arg 0)))).holds [] { args:=[.list (ns.map .int)] }=true:=by
   have h4:=(holds_andW hc).1;rw[hn] at h4;exact h4
  have h5:=condW_of h4 (w_not (w_lt w_lit (w_len_list (w_arg rfl))));rw[Mq] at h5;refine Nat.le_of_not_lt λq=>?_
  have q':(n:Int)<((ns.length:Nat):Int):=by lia
  first
   |(rw[Ms q'] at h5;exact absurd h5 (by decide))
   |(simp at h5;lia)
 cases hwl with
 |cons w1 w2=>
  cases w2;cases w1 with
  |list ho hall=>exact⟨_,_,ns,rfl,rfl,ho,qw ns _ hall,hlen⟩
theorem B6 (l:OpenLaw)(args:List WData):l.row.toRowW.claim.post args (.bool true) args=true:=
 postW_of (r:=l.row.toRowW) (X:=(true==true))
  (show WShape.has [] (.bool true) .bool=true by first|rfl|decide|simp[WShape.has,WShape.arms,WShape.armsAll])
  (show(WTm.eq .res (.lit (.bool true))).value [] { args:=args,res:=some (.bool true),after:=args }=some (.bool (true==true)) from w_eq_bool (w_res rfl) w_lit) rfl
theorem attach_call {l:OpenLaw}{n:Nat}{q:MS}{loose:List Str}{XP:(Str->Option Mj)->Os->Prop}{YP:No->Os->Prop}{d:DefRec}
  (hn:l.most=some n)(hdf:d.params.defaults=[])
  (call:∀ (w:No) (s₀ s₁:Mp) (mg mb:Str->Option Mj) (fa:Mz) (o:Obj) (pm cd doc:Mj) (a:Mz) (vs:List Mj) (ns:List Int),
   Ground q loose [] XP w s₀ mg mb s₁.heap->YP w s₁.heap ->
   s₁.heap.get? fa=some o->o.data=.func (docDef d.name d.params d.body d.scope pm cd doc)->s₁.heap.CodeRec cd d.name->mg d.name=some (.ref fa) ->
   s₁.heap.get? a=some { cls:=.type "list",data:=.seq vs.toArray }->Pm vs ns->ns.length<=n->s₁.gens=#[] ->
   Qx (MW l.prog w) VG (.call (.ref fa) ⟨[.ref a],[]⟩) (λr s'=>r=.ok (.ret (.bool true))/\OldK s₁.heap s'.heap/\s'.os=s₁.os/\Uq s'.gens) s₁) :
  WalkO q loose XP YP l.row.toRowW d [] (λf vs=>VO f vs):=by
 intro w s₀ s₁ mg mb G Y fa o pm cd doc dV kV ho hd hcd hD hmg hg args vals as hpre hlay hrd hwl hlo;obtain rfl:dV=.none:=Dflts.none hD hdf;obtain rfl:kV=.none:=Dflts.noKw hD;obtain⟨a,vs,ns,rfl,rfl,hobj,hints,hlen⟩:=BI hn hpre hwl;refine enter_call (Py (call w s₀ s₁ mg mb fa o pm cd doc a vs ns G Y ho (fd_plain hd) hcd hmg hobj hints hlen hg) λr s' hq=>?_);obtain⟨rfl,h2,h3,h4⟩:=hq;exact⟨.inl ⟨.bool true,.bool true,[],rfl,λ_=>rfl,.bool true,B6 l _,λ_=>⟨SF,λ_ hm=>(nomatch hm)⟩⟩,h2,h3,h4⟩
end Att
namespace L2
open PySem PySem.Spec PyProof.Rows
theorem jH:∀ {vs:List Mj}{ns:List Int},Pm vs ns->aM (ns.map V.int) vs
 |_,_,.nil=>.nil
 |_,_,.cons n t h=>.cons ⟨t,rfl⟩ (jH h)
end L2
namespace L2
open PySem PySem.Spec PyProof.Rows
def cN (s:Oe)(j:Nat):Oe:=match s with
 |.ClassDef _ _ _ body _ _ _ _ _ _ _=>body.getD j (.Pass ⟨0,0,0,0⟩)
 |_=>.Pass ⟨0,0,0,0⟩
def aQ (s:Oe):Arguments:=match s with
 |.FunctionDef _ a _ _ _ _ _ _ _ _=>a
 |_=>{ posonlyargs:=[],args:=[],vararg:=none,kwonlyargs:=[],kw_defaults:=[],kwarg:=none,defaults:=[] }
def aJ (s:Oe):List Oe:=match s with
 |.FunctionDef _ _ b _ _ _ _ _ _ _=>b
 |_=>[]
def ah (s:Oe):Rn:=match s with
 |.FunctionDef _ _ _ _ _ _ sc _ _ _=>sc
 |_=>{ kind:=.function,names:=[],isGenerator:=false,isCoroutine:=false }
abbrev cP:lQ:=λ_ _ _ _ _ _=>False
abbrev E0:XK:=λ_ _ _=>False
structure KC (K:HD)(x qual:Str)(st:Oe)(f:Mz)(fd:NW):Prop where
 ex:∃ (oc:Mj) (od:Option Mz) (kV doc pm:Mj) (an:Option Mz) (cdv ct:Mj) (osl:Array (Option Mj)),
  fd=MK x qual (aQ st) (aJ st) (ah st) .none kV doc pm an cdv ct/\K.lookup f=some ⟨oc,od,.func fd,osl⟩/\M' K cdv qual=true
 kp:MZ K (.ref f)=true
section
variable {P:MS}{w:No}{K:HD}{mg:Str->Option Mj}{base:Os}
theorem HW {x qual:Str}{st:Oe}{f:Mz}{oc:Mj}{od an:Option Mz}{osl:Array (Option Mj)}{kV doc pm cdv ct:Mj} (l:K.lookup f=some ⟨oc,od,.func (MK x qual (aQ st) (aJ st) (ah st) .none kV doc pm an cdv ct),osl⟩)
  (c:M' K cdv qual=true)(k:MZ K (.ref f)=true):KC K x qual st f (MK x qual (aQ st) (aJ st) (ah st) .none kV doc pm an cdv ct):=⟨⟨oc,od,kV,doc,pm,an,cdv,ct,osl,rfl,l,c⟩,k⟩
end
theorem bD {n:Nat}(h:n<=1000):n<MI:=Sd h (by decide)
section
variable {X:Cx}
theorem pv (i:Nat) (hN:X.N[i]?=some x:=by rfl) (hv:Jl X.env.scope x:=by first | exact Vo rfl | exact Uj (Vo rfl) | exact Uj (Uj rfl)) (hd:(x == ("__debug__":Str))=false:=by decide)
  (hcd:(x==("__classdict__":Str))=false:=by decide):PE X (.Name x pos) (r0 i):=Hs hN hv hd hcd
end
theorem bA {A B:Prop}(h:B):if false=true then A else B:=by
 rw[MT Nj];exact h
theorem aW {A B:Prop}(h:A):if true=true then A else B:=by
 rw[Nd rfl];exact h
theorem f9 {c A B:Prop}[Decidable c](h1:c->A)(h2:¬ c->B):if c then A else B:=by
 by_cases h:c
 ·rw[Nd h];exact h1 h
 ·rw[MT h];exact h2 h
theorem Kc {c A B:Prop}[Decidable c](hc:c)(h:B):if(!decide c)=true then A else B:=by
 rw[Ms hc];exact bA h
def af (H H':Hp):Prop:=∀ b o,H b=some o->H' b=some o
theorem af.refl (H:Hp):af H H:=λ_ _ h=>h
theorem af.trans (a:af H H1)(b:af H1 H2):af H H2:=λc o h=>b c o (a c o h)
theorem af.free (e:af H H')(h:H' l=Option.none):H l=Option.none:=by
 cases q:H l with
 |none=>rfl
 |some o=>
  rw[e l o q] at h;cases h
theorem af.seq {K:HD}{H H':Hp}{a:Mz}{xs:List V}(e:af H H')(h:bH K H a xs):bH K H' a xs:=by
 rcases h with (h|⟨o,h⟩)|h
 ·exact .inl (.inl (e _ _ h))
 ·exact .inl (.inr ⟨o,e _ _ h⟩)
 ·exact .inr h
end L2
set_option Elab.async false
set_option linter.all false
set_option maxRecDepth 100000
set_option maxHeartbeats 4000000
namespace TR
def Co (t b n d:Int):Prop:=0<d/\NV n d=1/\n*b=t*d
def Sm (k:Nat)(x:Int):Prop:=x.natAbs<2^k
theorem xJ {a b:Int}(ha:0<=a)(hb:0<b):NV b (a%b)=NV a b:=by
 obtain⟨x,rfl⟩:=Pz ha;obtain⟨y,rfl⟩:=Pz (R_ hb);show Nat.gcd y ((x:Int)%(y:Int)).natAbs=Nat.gcd x y;rw[show((x:Int)%(y:Int)).natAbs=x%y from rfl,Nat.gcd_comm,<- Nat.gcd_rec,Nat.gcd_comm]
theorem zT {k m n:Int}(h:k∣m*n)(c:NV k m=1):k∣n:=by
 have h':k.natAbs∣m.natAbs*n.natAbs:=by rw[<- Sk];exact Tt.mpr h
 exact Tt.mp (Nat.Coprime.dvd_of_dvd_mul_left (show Nat.Coprime k.natAbs m.natAbs from c) h')
theorem zV {t b g m:Int}(hb:b≠0)(hg:g=(NV t b:Int))(hm:m=if b<0 then -g else g):Co t b (t.fdiv m) (b.fdiv m):=by
 have hgp:0<g:=by
  rw[hg];have:0<NV t b:=PU _ hb;lia
 have dt:g∣t:=by rw[hg];exact Int.gcd_dvd_left ..
 have db:g∣b:=by rw[hg];exact Int.gcd_dvd_right ..
 obtain⟨x,hx⟩:=dt;obtain⟨y,hy⟩:=db;have hco:NV x y=1:=by
  have h1:NV t b=NV x y*g.natAbs:=by
   rw[hx,hy,Int.gcd_mul_left,Vm]
  have h2:g.natAbs=NV t b:=by rw[hg];rfl
  have h3:0<g.natAbs:=by lia
  rw[<- h2] at h1;exact Nat.eq_of_mul_eq_mul_right h3 (by lia)
 by_cases hn:b<0
 ·have em:m=-g:=by rw[hm,Nd hn]
  have hy0:y<0:=by
   rw[hy] at hn;rcases Int.lt_or_le y 0 with h|h
   ·exact h
   ·have:=O7 (R_ hgp) h;lia
  have e1:t.fdiv m=-x:=by
   have e:t=m*(-x):=by rw[em,Int.neg_mul_neg];exact hx
   rw[e];exact Pk _ (by lia)
  have e2:b.fdiv m=-y:=by
   have e:b=m*(-y):=by rw[em,Int.neg_mul_neg];exact hy
   rw[e];exact Pk _ (by lia)
  rw[e1,e2];refine⟨by lia,by rw[Int.gcd_neg,Int.neg_gcd];exact hco,?_⟩;rw[Int.neg_mul,Vz,hx,hy,SE,QK]
 ·have em:m=g:=by rw[hm,MT hn]
  have hy0:0<y:=by
   have hb':0<b:=by lia
   rw[hy] at hb';rcases Int.lt_or_le 0 y with h|h
   ·exact h
   ·have:=O7 (R_ hgp) (show 0<=-y by lia);rw[Vz] at this;lia
  have e1:t.fdiv m=x:=by
   rw[hx,em];exact Pk _ (by lia)
  have e2:b.fdiv m=y:=by
   rw[hy,em];exact Pk _ (by lia)
  rw[e1,e2];refine⟨hy0,hco,?_⟩;rw[hx,hy,SE,QK]
theorem mO {t b n d n' d':Int}(hb:b≠0)(h:Co t b n d)(h':Co t b n' d'):n=n'/\d=d':=by
 obtain⟨h1,h2,h3⟩:=h;obtain⟨k1,k2,k3⟩:=h';have e:n*d'=n'*d:=by
  have e1:b*(n*d')=b*(n'*d):=by
   have a1:b*(n*d')=(n*b)*d':=by rw[Qz n b,QK]
   have a2:b*(n'*d)=(n'*b)*d:=by rw[Qz n' b,QK]
   rw[a1,a2,h3,k3,QK,QK,Qz d d']
  exact Sj hb e1
 have dd:d∣d':=by
  have:d∣n*d':=⟨n',by rw[e,Qz]⟩
  exact zT this (by rw[Vj];exact h2)
 have dd':d'∣d:=by
  have:d'∣n'*d:=⟨n,by rw[<- e,Qz]⟩
  exact zT this (by rw[Vj];exact k2)
 have l1:=Int.le_of_dvd k1 dd;have l2:=Int.le_of_dvd h1 dd';have ed:d=d':=by lia
 subst ed;exact⟨Int.eq_of_mul_eq_mul_right (by lia) e,rfl⟩
theorem sR {t b n d:Int}(hb:b≠0)(h:Co t b n d):n.natAbs<=t.natAbs/\d.natAbs<=b.natAbs:=by
 obtain⟨h1,h2,h3⟩:=h;have db:d∣b:=by
  have:d∣n*b:=⟨t,by rw[h3,Qz]⟩
  exact zT this (by rw[Vj];exact h2)
 obtain⟨y,hy⟩:=db;have e:t=n*y:=by
  have:d*(n*y)=d*t:=by
   rw[SE,<- hy,h3,Qz]
  exact(Sj (by lia) this).symm
 have hy0:y≠0:=by rintro rfl;simp at hy;exact hb hy
 have hp:0<y.natAbs:=by lia
 constructor
 ·rw[e,Sk];exact SX _ hp
 ·rw[hy,Sk];exact SX _ hp
theorem Dn {n d:Int}(hd:0<d)(h:NV n d=1):Co n d n d:=⟨hd,h,rfl⟩
theorem Fi (b:Int):Co 0 b 0 1:=⟨by decide,by simp,by lia⟩
theorem Sm.mono {k j:Nat}{x:Int}(h:Sm k x)(l:k<=j):Sm j x:=MG h (Pf (by decide) l)
theorem Sm.mul {k j:Nat}{x y:Int}(h:Sm k x)(h':Sm j y):Sm (k+j) (x*y):=by
 unfold Sm at *;rw[Sk,Nat.pow_add];exact Nat.mul_lt_mul'' h h'
theorem Sm.add {k:Nat}{x y:Int}(h:Sm k x)(h':Sm k y):Sm (k+1) (x+y):=by
 unfold Sm at *;have:=Int.natAbs_add_le x y;rw[Vn];lia
theorem Sm.sub {k:Nat}{x y:Int}(h:Sm k x)(h':Sm k y):Sm (k+1) (x-y):=by
 unfold Sm at *;rw[Vn];lia
theorem Sm.neg {k:Nat}{x:Int}(h:Sm k x):Sm k (-x):=by
 unfold Sm at *;rw[Int.natAbs_neg];exact h
theorem Sm.le {k:Nat}{x y:Int}(h:Sm k x)(l:y.natAbs<=x.natAbs):Sm k y:=Sd l h
theorem Bl (a b:Int):NV (if a<0 then -a else a) (if b<0 then -b else b)=NV a b:=by
 split<;>split<;>simp
theorem DF {t b:Int}(hb:b≠0):((NV t b:Int)).natAbs<=b.natAbs:=by
 have:NV t b∣b.natAbs:=Nat.gcd_dvd_right ..;exact Nat.le_of_dvd (by lia) this
open PySem PySem.Spec PyProof.Rows L2
theorem ER:Np "int"=some (.type "int"):=by decide +kernel
theorem AR:Np "bool"=some (.type "bool"):=by decide +kernel
theorem cJ:Np "tuple"=some (.type "tuple"):=by decide +kernel
theorem gX:Np "list"=some (.type "list"):=by decide +kernel
theorem HK:Np "str"=some (.type "str"):=by decide +kernel
theorem AC:Np "dict"=some (.type "dict"):=by decide +kernel
theorem HA:Np "set"=some (.type "set"):=by decide +kernel
theorem vN:Np "abs"=some (.builtin "abs"):=by decide +kernel
theorem dQ:Np "len"=some (.builtin "len"):=by decide +kernel
theorem oC:Np "max"=some (.builtin "max"):=by decide +kernel
theorem wP:Np "min"=some (.builtin "min"):=by decide +kernel
theorem DS:Np "sum"=some (.builtin "sum"):=by decide +kernel
theorem jk:Np "all"=some (.builtin "all"):=by decide +kernel
theorem oW:Np "sorted"=some (.builtin "sorted"):=by decide +kernel
theorem aK:Np "isinstance"=some (.builtin "isinstance"):=by decide +kernel
mutual
inductive ax (K:HD)(H:Hp):M4->V->Prop
 |non:ax K H .none .non
 |bl (b:Bool):ax K H (.bool b) (.bl b)
 |int (i:Int):ax K H (.int i) (.int i)
 |str (x:Str):ax K H (.str x) (.str x)
 |lst {a:Mz}{xs:List V}{ds:List M4}:Rd H a (.lst xs)->az K H ds xs->ax K H (.list ds) (.ref a)
 |tup {a:Mz}{xs:List V}{ds:List M4}:H a=some (.tup xs)->az K H ds xs->ax K H (.tuple ds) (.ref a)
 |dct {a:Mz}:H a=some (.dK [])->ax K H (.dict []) (.ref a)
inductive az (K:HD)(H:Hp):List M4->List V->Prop
 |nil:az K H [] []
 |cons {d:M4}{v:V}{ds:List M4}{vs:List V}:ax K H d v->az K H ds vs->az K H (d::ds) (v::vs)
end
section
variable {X:Cx}{pins:List (Mz×Obj)}{σ:L2.St}{H H':Hp}{s:Mp}
mutual
theorem kU (I:aG X pins σ H s):∀ {d:M4}{v:V}{u:Mj},ax X.K H d v->bv v u->∃ as,Reads s.heap u d as
 |_,_,_,.non,r=>by cases r;exact⟨_,.none⟩
 |_,_,_,.bl b,r=>by cases r;exact⟨_,.bool b⟩
 |_,_,_,.int i,r=>by obtain⟨t,rfl⟩:=r;exact⟨_,.int i t⟩
 |_,_,_,.str x,r=>by obtain⟨t,rfl⟩:=r;exact⟨_,.str x t⟩
 |_,_,_,.lst h q,r=>by
  cases r;obtain⟨its,rv,⟨o,n,e,c,_,d⟩,_⟩:=I.list (.inl h);obtain⟨as,z⟩:=lq I q rv;exact⟨_,.list e c d (by simpa using z)⟩
 |_,_,_,.tup h q,r=>by
  cases r;obtain⟨its,rv,⟨o,e,c,n,d⟩,_⟩:=I.tuple (.inl (.inl h));obtain⟨as,z⟩:=lq I q rv;exact⟨_,.tuple e c d (by simpa using z)⟩
 |_,_,_,.dct h,r=>by
  cases r;obtain⟨_,_,vs,kv,o,es,ep,e1,e2,e3,_,e4,_⟩:=(show bT X.prog X.w H s.heap _ (.dK []) from I.hok _ _ h)
  cases kv;have ee:es.toList=[]:=by
   cases z:es.toList with
   |nil=>rfl
   |cons y l=>rw[z] at e4;cases e4
  exact⟨_,.dict (kvs:=[]) e1 e2.1 e3 (by rw[ee];exact .nil) (by rw[ee];exact .nil)⟩
theorem lq (I:aG X pins σ H s):∀ {ds:List M4}{vs:List V}{us:List Mj},az X.K H ds vs->aM vs us->∃ as,ReadsAll s.heap us ds as
 |_,_,_,.nil,.nil=>⟨_,.nil⟩
 |_,_,_,.cons h q,.cons r rr=>by
  obtain⟨as,z⟩:=kU I h r;obtain⟨bs,y⟩:=lq I q rr;exact⟨_,.cons z y⟩
end
end
theorem yS {K:HD}{H H':Hp}{a:Mz}{xs:List V}(e:af H H')(h:dF K H a xs):dF K H' a xs:=by
 rcases h with (h|⟨o,h⟩)|h
 ·exact .inl (.inl (e _ _ h))
 ·exact .inl (.inr ⟨o,e _ _ h⟩)
 ·exact .inr h
theorem Rd.same (e:af H H')(h:Rd H a u):Rd H' a u:=by
 rcases h with h|⟨o,h⟩
 ·exact .inl (e _ _ h)
 ·exact .inr ⟨o,e _ _ h⟩
mutual
theorem ax.same {K:HD}{H H':Hp}(e:af H H'):∀ {d:M4}{v:V},ax K H d v->ax K H' d v
 |_,_,.non=>.non
 |_,_,.bl b=>.bl b
 |_,_,.int i=>.int i
 |_,_,.str x=>.str x
 |_,_,.lst h q=>.lst (Rd.same e h) (az.same e q)
 |_,_,.tup h q=>.tup (e _ _ h) (az.same e q)
 |_,_,.dct h=>.dct (e _ _ h)
theorem az.same {K:HD}{H H':Hp}(e:af H H'):∀ {ds:List M4}{vs:List V},az K H ds vs->az K H' ds vs
 |_,_,.nil=>.nil
 |_,_,.cons h q=>.cons (ax.same e h) (az.same e q)
end
theorem af.new (h:H p=none):af H (upd H p o):=λb u e=>by rw[aq (aL e h)];exact e
def Mv (T:List Mz)(H H':Hp):Prop:=∀ b o,H b=some o->b∉T->H' b=some o
theorem Mv.of (h:af H H'):Mv T H H':=λb o e _=>h b o e
theorem Mv.refl:Mv T H H:=λ_ _ e _=>e
theorem Mv.trans (a:Mv T H H1)(b:Mv T H1 H2):Mv T H H2:=λc o e n=>b c o (a c o e n) n
mutual
def uE:M4->Bool
 |.tuple xs=>kh xs
 |.none=>true
 |.bool _=>true
 |.int _=>true
 |.str _=>true
 |_=>false
def kh:List M4->Bool
 |[]=>true
 |x::xs=>uE x&&kh xs
end
def bR (H:Hp)(T:List Mz):Prop:=∀ b∈T,∃ xs,H b=some (.lst xs)
theorem bR.not (h:bR H T)(e:H b=some o)(n:∀ xs,o≠.lst xs):b∉T:=λm=>by
 obtain⟨xs,q⟩:=h b m;rw[e] at q;exact n xs (Mi q)
mutual
theorem ax.mv {K:HD}{T:List Mz}{H H':Hp}(e:Mv T H H')(l:bR H T):∀ {d:M4}{v:V},uE d=true->ax K H d v->ax K H' d v
 |_,_,_,.non=>.non
 |_,_,_,.bl b=>.bl b
 |_,_,_,.int i=>.int i
 |_,_,_,.str x=>.str x
 |_,_,t,.lst _ _=>by simp[uE] at t
 |_,_,t,.tup h q=>.tup (e _ _ h (l.not h λ_ z=>nomatch z)) (az.mv e l (by simpa [uE] using t) q)
 |_,_,t,.dct _=>by simp[uE] at t
theorem az.mv {K:HD}{T:List Mz}{H H':Hp}(e:Mv T H H')(l:bR H T):∀ {ds:List M4}{vs:List V},kh ds=true->az K H ds vs->az K H' ds vs
 |_,_,_,.nil=>.nil
 |_,_,t,.cons h q=>by
  simp only[kh,Nh] at t;exact .cons (ax.mv e l t.1 h) (az.mv e l t.2 q)
end
section
variable {X:Cx}
def Jw (K:HD):R2:=λx y H Q=>∃ d e,ax K H d x/\ax K H e y/\TU d=true/\TU e=true/\Q (.bl (Q8 d e)) H
def Jq (K:HD):R2:=λx y H Q=>∃ d e,ax K H d x/\ax K H e y/\TU d=true/\TU e=true/\Q (.bl (!Q8 d e)) H
theorem Il (hu:X.A.units+64<cLine):k_ X (Oj .Eq) (Jw X.K):=by
 intro pins s σ H x y v u Q I rx ry h;obtain⟨d,e,hd,he,sd,se,q⟩:=h;obtain⟨as,r1⟩:=kU I hd rx;obtain⟨bs,r2⟩:=kU I he ry;exact eq_dataH r1 r2 sd se hu ⟨.bl _,H,I,rfl,q⟩
theorem IY (hu:X.A.units+64<cLine):k_ X (Oj .NotEq) (Jq X.K):=by
 intro pins s σ H x y v u Q I rx ry h;obtain⟨d,e,hd,he,sd,se,q⟩:=h;obtain⟨as,r1⟩:=kU I hd rx;obtain⟨bs,r2⟩:=kU I he ry;exact ne_dataH r1 r2 sd se hu ⟨.bl _,H,I,rfl,q⟩
def EO (K:HD):R2:=λx y H Q=>∃ a b ns,x=.ref a/\y=.ref b/\bH K H a (ns.map V.int)/\H b=some (.lst [])/\Q (.bl (!decide (ns=[]))) H
theorem CS (hu:X.A.units+64<cLine):k_ X (Oj .NotEq) (EO X.K):=by
 intro pins s σ H x y v u Q I rx ry h;obtain⟨a,b,ns,rfl,rfl,ha,hb,q⟩:=h;cases rx;cases ry;obtain⟨xs,r1,pl,_⟩:=I.list ha;obtain⟨ys,r2,pl2,_⟩:=I.list (bH.of (K:=X.K) hb);cases r2;exact PySem.W.ke_ne_ints pl.isList pl2.isList (rS r1) .nil hu ⟨.bl _,H,I,rfl,q⟩
theorem eI:k_ X (Oj .Eq) (Fu λi j=>.bl (decide (i=j))):=Cn λ_ _ _ _ _ _ _ q=>eq_int (by rw[P3];exact q)
theorem mN:k_ X (Oj .NotEq) (Fu λi j=>.bl (!decide (i=j))):=Cn λ_ _ _ _ _ _ _ q=>ne_int (by rw[bne,P3];exact q)
theorem Sm.bits {k:Nat}{x:Int}(h:Sm k x):Ut x<=k:=by
 unfold Ut
 split
 ·exact Nq _
 ·rename_i hx
  have h0:x.natAbs≠0:=by
   intro z;apply hx;have:x=0:=by lia
   subst this;rfl
  have:x.natAbs.log2<k:=(Nat.log2_lt h0).mpr h;lia
def n0 (i j:Int):Prop:=(Sm 8000 i/\Sm 8000 j)\/Sm 64 i
theorem aO:k_ X (Qo .Mult) (rI n0 λi j=>.int (i*j)):=KM λi j _ _ _ _ _ hc q=>mul_int q (by
 rcases hc with ⟨h1,h2⟩|h1
 ·exact Vs (MQ h1.bits (by decide)) (MQ h2.bits (by decide))
 ·exact Vt h1.bits)
def KB (_ j:Int):Prop:=j≠0/\Sm 8000 j
theorem dR:k_ X (Qo .FloorDiv) (rI KB λi j=>.int (i.fdiv j)):=KM λi j _ _ _ _ _ hc q=>floordiv_int hc.1 q (.inl (PyProof.noPylong_of_log2 (by
 by_cases h0:j.natAbs=0
 ·rw[h0];decide
 ·exact MG ((Nat.log2_lt h0).mpr hc.2) (by decide))))
def iG (a b:String):Option Bool:=if((Ox a==Ox b)=true) then some true else if PySem.W.kitMeta b=true then(fastBuiltinMro a).map (·.contains (.type b)) else none
theorem yZ (K:HD)(a b:String):O9 K (.type a) (.type b)=iG a b:=rfl
abbrev Ty (K:HD)(H:Hp)(x:V)(T:String):Prop:=mQ K H x (.type T)
def JX (K:HD):List V->Hp->VK->Prop:=λxs H Q=>∃ x T S b,xs=[x,.ty S]/\Ty K H x T/\iG T S=some b/\Q (.bl b) H
theorem E7:dg X (.builtin "isinstance") (JX X.K):=by
 intro pins s σ H xs us Q I r h;obtain⟨x,T,S,b,rfl,ty,e,q⟩:=h;obtain⟨u,v,rfl,rx,rv⟩:=nQ r;cases(show v=Ox S from rv);exact o8 I rx ty (by rw[yZ];exact e) λtk=>⟨.bl b,H,I.tok tk,rfl,q⟩
def tV (a:String):List String->Option Bool
 |[]=>some false
 |b::r=>match iG a b with
  |some true=>some true
  |some false=>tV a r
  |none=>none
end
def LZ:M4->String
 |.none=>"NoneType"
 |.bool _=>"bool"
 |.int _=>"int"
 |.str _=>"str"
 |.list _=>"list"
 |.tuple _=>"tuple"
 |.dict _=>"dict"
theorem ax.ty {K:HD}{H:Hp}{d:M4}{x:V}(h:ax K H d x):Ty K H x (LZ d):=by
 cases h with
 |non=>exact .non
 |bl b=>exact .bl b
 |int i=>exact .int i
 |str x=>exact .str x
 |lst h _=>
  rcases h with h|⟨o,h⟩
  ·exact .lst h
  ·exact .frz h
 |tup h _=>exact .tup h
 |dct h=>exact .dK h
def Fo (CX:lQ):Prop:=∀ outer H s e s',CX outer H s E0 e s'->False
theorem pY (h:Fo CX):tM CX X E0:=λ_ _ _ _ _ _ _ z=>(h _ _ _ _ _ z).elim
structure dN (P:MS)(w:No)(K:HD)(mg:Str->Option Mj)(base:Os)(CX:lQ)(k:Nat)(x:Str)(ps:List Str)(dvs:List V)(sp:Sp):Prop where
 ex:∃ (f:Mz) (fd:NW) (ds:List Mj),jp P w K mg base CX k f fd ps sp/\mg x=some (.ref f)/\MZ K (.ref f)=true/\mC K fd ps ds/\aM dvs ds
section
variable {X:Cx}{CX:lQ}{k:Nat}{x:Str}{ps:List Str}{sp:Sp}{dvs:List V}{p pos:Pos}{e:OH}{es:List OH}{t:TA}
theorem FO (hX:Fo CX) (C:dN X.prog X.w X.K X.mg X.base CX k x ps dvs sp) (hr:Room k X.A) (hg:Gl X x) (ha:WA X (e :: es) t) (hdb:(x == ("__debug__":Str))=false:=by decide)
  (he:MU (e::es) X.env=(false,Qh e X.env)::MU es X.env:=by rfl)(hpl:(QC pos (MU es X.env)).any (·.1)=false:=by rfl):WE X (.Call (.Name x p) (e::es) [] pos) (xN sp dvs E0 t):=by
 have ha:=ha.go;refine⟨?_⟩;obtain⟨f,fd,ds,F,hm,hk,hb,hv⟩:=C.ex;exact Ge F hr hg hm hk hb hv (pY hX) ha hdb he hpl
end
structure du (K:HD)(mg:Str->Option Mj)(x:Str)(st:Oe)(ps:List Str)(dvs:List V):Prop where
 ex:∃ (f:Mz) (fd:NW) (oc:Mj) (od:Option Mz) (dV kV doc pm:Mj) (an:Option Mz) (cdv ct:Mj) (osl:Array (Option Mj)) (ds:List Mj),
  fd=MK x x (aQ st) (aJ st) (ah st) dV kV doc pm an cdv ct/\K.lookup f=some ⟨oc,od,.func fd,osl⟩/\M' K cdv x=true /\
  mg x=some (.ref f)/\MZ K (.ref f)=true/\mC K fd ps ds/\aM dvs ds
section
variable {P:MS}{w:No}{K:HD}{mg:Str->Option Mj}{base:Os}{CX:lQ}
theorem du.cal {x:Str}{st:Oe}{N ps:List Str}{dvs:List V}{k:Nat}{sp:Sp} (F:du K mg x st ps dvs) (S:ao N ps (ah st)) (len:∀ vs H Q E,sp vs H Q E->vs.length=ps.length:=by intro _ _ _ _ h;cases h;subst_vars;rfl)
  (bb:∀ (f:Mz) (cdv:Mj) (A:ND) (outer:List Env) (s:Mp) (H:Hp) (vs:List V) (Q:VK) (E:XK),Room k (A.deeper (Tf x (ah st) s.heap.objs.size f cdv))->sp vs H Q E ->
   ∃ t,Fy (uh CX P w K mg base N x (ah st) f cdv A outer s H E).nox (aJ st) t/\t { nx:=λ_ H'=>Q .non H',rt:=Q } (kg N vs) H):dN P w K mg base CX (k+1) x ps dvs sp:=by
 obtain⟨f,fd,oc,od,dV,kV,doc,pm,an,cdv,ct,osl,ds,rfl,lk,hcd,hm,hk,hb,hv⟩:=F.ex;refine⟨f,_,ds,y9 lk hcd S len λA outer s H vs Q E hr hsp=>?_,hm,hk,hb,hv⟩;obtain⟨t,h,q⟩:=bb f cdv A outer s H vs Q E hr hsp;exact⟨t,h.nox,q⟩
theorem Ee {x:Str}{st:Oe}{ps:List Str}{f:Mz}{oc:Mj}{od an:Option Mz}{osl:Array (Option Mj)}{kV doc pm cdv ct:Mj} (l:K.lookup f=some ⟨oc,od,.func (MK x x (aQ st) (aJ st) (ah st) .none kV doc pm an cdv ct),osl⟩)
  (c:M' K cdv x=true)(k:MZ K (.ref f)=true)(m:mg x=some (.ref f))
  (h:∀ us:List Mj,us.length=ps.length->NF (MK x x (aQ st) (aJ st) (ah st) .none kV doc pm an cdv ct) ⟨us,[]⟩=pure (ps.zip us)):du K mg x st ps []:=
 ⟨f,_,oc,od,.none,kV,doc,pm,an,cdv,ct,osl,[],rfl,l,c,m,k,.all h,.nil⟩
theorem A2 {x:Str}{st:Oe}{ps:List Str}{f T:Mz}{oc:Mj}{od an:Option Mz}{osl:Array (Option Mj)}{kV doc pm cdv ct:Mj}{oT:Obj}{items:Array Mj}{n:Nat}{ds:List Mj}{dvs:List V}
  (l:K.lookup f=some ⟨oc,od,.func (MK x x (aQ st) (aJ st) (ah st) (.ref T) kV doc pm an cdv ct),osl⟩)
  (c:M' K cdv x=true)(k:MZ K (.ref f)=true)(m:mg x=some (.ref f))(lT:K.lookup T=some oT)(hT:oT.data=.seq items n)(hv:aM dvs ds)
  (h:∀ us:List Mj,(us++ds).length=ps.length->∃ kk:Option (Array Mj)->Sem (List (Str×Mj)),NF (MK x x (aQ st) (aJ st) (ah st) (.ref T) kV doc pm an cdv ct) ⟨us,[]⟩=UV (.ref T)>>=kk/\kk (some items)=pure (ps.zip (us++ds))):du K mg x st ps dvs:=
 ⟨f,_,oc,od,.ref T,kV,doc,pm,an,cdv,ct,osl,ds,rfl,l,c,m,k,λs us X hl=>by
  obtain⟨kk,h1,h2⟩:=h us hl;exact BindsTo.of_defaults rfl (X T oT lT) hT h1 h2,hv⟩
end
end TR
namespace TR
open PySem PySem.Spec PyProof.Rows L2
abbrev qA (n d:Int):M4:=.tuple [.int n,.int d]
theorem bn {K:HD}{H:Hp}{n d:Int}{v:V}(h:ax K H (qA n d) v):∃ a,v=.ref a/\H a=some (.tup [.int n,.int d]):=by
 cases h with
 |tup h q=>
  cases q with
  |cons q1 q2=>
   cases q1;cases q2 with
   |cons q3 q4=>
    cases q3;cases q4;exact⟨_,rfl,h⟩
theorem pI {K:HD}{H:Hp}{n d:Int}{a:Mz}(h:H a=some (.tup [.int n,.int d])):ax K H (qA n d) (.ref a):=.tup h (.cons (.int _) (.cons (.int _) .nil))
theorem DU (n d m e:Int):Q8 (qA n d) (qA m e)=(decide (n=m)&&decide (d=e)):=by
 simp only[Q8,UN,Ry,P3]
theorem yV {n d m e:Int}(h:n=m/\d=e):Q8 (qA n d) (qA m e)=true:=by
 rw[DU,Ms h.1,Ms h.2];rfl
def Sh (K:HD)(H:Hp)(t b:Int)(Q:VK):Prop:=∀ v n d H',af H H'->ax K H' (qA n d) v->Co t b n d->Q v H'
structure Ok (k:Nat)(n d:Int):Prop where
 pos:0<d
 co:NV n d=1
 sn:Sm k n
 sd:Sm k d
theorem Co.ok {t b n d:Int}{k:Nat}(h:Co t b n d)(hb:b≠0)(st:Sm k t)(sb:Sm k b):Ok k n d:=
 ⟨h.1,h.2.1,st.le (sR hb h).1,sb.le (sR hb h).2⟩
theorem Ok.mono {j k:Nat}{n d:Int}(h:Ok j n d)(l:j<=k):Ok k n d:=⟨h.pos,h.co,h.sn.mono l,h.sd.mono l⟩
theorem Ok.ne {k:Nat}{n d:Int}(h:Ok k n d):d≠0:=by have:=h.pos;lia
def shB:M4->Bool
 |.tuple [.int n,.int d]=>decide (1<=d)&&decide (NV n d=1)
 |_=>false
theorem Ok.shB {k:Nat}{n d:Int}(h:Ok k n d):TR.shB (qA n d)=true:=by
 have:=h.pos;show(decide (1<=d)&&decide (NV n d=1))=true;rw[Ms (show 1<=d by lia),Ms h.co];rfl
theorem Jj:[a].length<=MI:=by show 1<=MI;decide
theorem l7:[a,b].length<=MI:=by show 2<=MI;decide
theorem Eo:[a,b,c].length<=MI:=by show 3<=MI;decide
section
variable {K:HD}{H:Hp}{Q:VK}{a:Mz}{x y z:V}
theorem cr (h:H a=some (.tup [x,y]))(q:Q x H):Gh K (.ref a) (.int 0) H Q:=.inr (.inl ⟨a,_,0,x,rfl,rfl,dF.of h,rfl,q⟩)
theorem bN (h:H a=some (.tup [x,y]))(q:Q y H):Gh K (.ref a) (.int 1) H Q:=.inr (.inl ⟨a,_,1,y,rfl,rfl,dF.of h,rfl,q⟩)
theorem HC (h:H a=some (.lst [x,y]))(q:Q x H):Gh K (.ref a) (.int 0) H Q:=.inl ⟨a,_,0,x,rfl,rfl,bH.of h,rfl,q⟩
theorem zR (h:H a=some (.lst [x,y]))(q:Q y H):Gh K (.ref a) (.int 1) H Q:=.inl ⟨a,_,1,y,rfl,rfl,bH.of h,rfl,q⟩
end
def xI:V->Bool
 |.int _=>true
 |_=>false
theorem DW {K:HD}{H:Hp}{x:V}{T:String}(h:Ty K H x T):∃ b,iG T "int"=some b/\if b=true then ∃ c,iG T "bool"=some c/\xI x=!c else xI x=false:=by
 cases h with
 |non=>exact⟨false,by decide +kernel,bA rfl⟩
 |bl b=>exact⟨true,by decide +kernel,aW ⟨true,by decide +kernel,rfl⟩⟩
 |int i=>exact⟨true,by decide +kernel,aW ⟨false,by decide +kernel,rfl⟩⟩
 |str x=>exact⟨false,by decide +kernel,bA rfl⟩
 |flt x=>exact⟨false,by decide +kernel,bA rfl⟩
 |lst e=>exact⟨false,by decide +kernel,bA rfl⟩
 |frz e=>exact⟨false,by decide +kernel,bA rfl⟩
 |tup e=>exact⟨false,by decide +kernel,bA rfl⟩
 |dK e=>exact⟨false,by decide +kernel,bA rfl⟩
 |dT e=>exact⟨false,by decide +kernel,bA rfl⟩
theorem az.length {K:HD}{H:Hp}:∀ {ds:List M4}{xs:List V},az K H ds xs->ds.length=xs.length
 |_,_,.nil=>rfl
 |_,_,.cons _ q=>by rw[NC,NC,az.length q]
theorem FS (h:ds.length≠2):shB (.tuple ds)=false:=by
 match ds,h with
 |[],_=>rfl
 |[a],_=>cases a<;>rfl
 |[a,b],h=>exact absurd rfl h
 |a::b::c::r,_=>cases a<;>(try rfl)<;>cases b<;>rfl
theorem Ki {K:HD}{H:Hp}{d e:M4}{x:V}(g:ax K H d x)(h:xI x=false):shB (.tuple [d,e])=false:=by
 cases g with
 |int i=>exact absurd h (by simp[xI])
 |_=>rfl
theorem JN {K:HD}{H:Hp}{d e:M4}{x:V}(g:ax K H e x)(h:xI x=false):shB (.tuple [d,e])=false:=by
 cases g with
 |int i=>exact absurd h (by simp[xI])
 |_=>cases d<;>rfl
theorem AI {K:HD}{H:Hp}{d:M4}{x:V}(g:ax K H d x)(h:xI x=true):∃ n,d=.int n/\x=.int n:=by
 cases g with
 |int i=>exact⟨i,rfl,rfl⟩
 |_=>exact absurd h (by simp[xI])
def bQ (H:Hp)(t r:Mz):Prop:=∃ (cells:List Int) (k:Int),H t=some (.lst [.ref r,.int k])/\H r=some (.lst (cells.map V.int))/\cells≠[]/\cells.length<=63
theorem bQ.lists (h:bQ H t r):bR H [t,r]:=λb m=>by
 obtain⟨c,k,h1,h2,_⟩:=h;rcases Mx.mp m with rfl|m
 ·exact⟨_,h1⟩
 ·cases Ml.mp m;exact⟨_,h2⟩
theorem bQ.same (h:bQ H t r)(e:af H H'):bQ H' t r:=by
 obtain⟨c,k,h1,h2,h3,h4⟩:=h;exact⟨c,k,e _ _ h1,e _ _ h2,h3,h4⟩
theorem bQ.ne (h:bQ H t r):t≠r:=by
 obtain⟨c,k,h1,h2,h3,h4⟩:=h;refine GZ h1 h2 λz=>?_
 cases c with
 |nil=>exact h3 rfl
 |cons x c=>
  injection z with z
  injection z with z _
  cases z
theorem qK [Decidable p](h:p):V.bl (decide p)=V.bl true:=by rw[Ms h]
theorem Mv.upd (m:p∈[t,r]):Mv [t,r] H (upd H p o):=λb u e n=>by
 rw[aq (show b≠p from λz=>n (z▸m))];exact e
theorem KC.okX {P:MS}{w:No}{K:HD}{mg:Str->Option Mj}{base:Os}{CX:lQ}{x qual:Str}{st:Oe}{f:Mz}{fd:NW}{N ps:List Str}{k:Nat}{sp:Sp} (F:KC K x qual st f fd) (S:ao N ps (ah st)) (len:∀ vs H Q E,sp vs H Q E->vs.length=ps.length:=by intro _ _ _ _ h;cases h;subst_vars;rfl)
  (bb:∀ (cdv:Mj) (A:ND) (outer:List Env) (s:Mp) (H:Hp) (vs:List V) (Q:VK) (E:XK),Room k (A.deeper (Tf qual (ah st) s.heap.objs.size f cdv))->sp vs H Q E ->
   ∃ t,Fy (uh CX P w K mg base N qual (ah st) f cdv A outer s H E).nox (aJ st) t/\t { nx:=λ_ H'=>Q .non H',rt:=Q } (kg N vs) H):jp P w K mg base CX (k+1) f fd ps sp:=by
 obtain⟨oc,od,kV,doc,pm,an,cdv,ct,osl,rfl,lk,hcd⟩:=F.ex;refine y9 lk hcd S len λA outer s H vs Q E hr hsp=>?_
 obtain⟨t,h,q⟩:=bb cdv A outer s H vs Q E hr hsp;exact⟨t,h.nox,q⟩
theorem ay:Fo cP:=λ_ _ _ _ _ h=>h
def bF (X:Cx)(N:List Str)(scope:Rn)(cl:List (Str×Mz))(C:Mz)(s0:Mp)(H0:Hp)(fp:List Mz)(pn:List (Mz×Obj)):Cx:=
 { X with N:=N,s₀:=s0,H₀:=H0,env:=Sf scope cl C X.env,outer:=X.stack,stack:=X.stack,ex:=fp,fn:=λx=>scope.names.lookup x==some .cell,pn:=X.pn++pn,xe:=λ_ _=>False }
def Ah (k:Nat)(js:List Nat)(σ:L2.St):L2.St:=MF k none++js.map λj=>(σ[j]?).join
def ut (cells:List (Str×Mz)):List (Str×Qc)->List (Str×Mz)->List (Str×Mz)
 |[],acc=>acc
 |(n,k)::r,acc=>if(k==.free)=true then ut cells r ((n,(cells.lookup n).getD 0)::acc) else ut cells r acc
theorem r_ (h:∀ y∈scope.names,y.2=.free->∃ c,env.cells.lookup y.1=some c):closureFor scope env=pure (ut env.cells scope.names []):=by
 have key:∀ (names:List (Str × Qc)) (acc:List (Str × Mz)),(∀ y ∈ names,y.2=.free->∃ c,env.cells.lookup y.1=some c) ->
   (forIn names acc λ(x:Str×Qc) (r:List (Str×Mz))=>(match x with
    |(name,kind)=>if(kind==.free)=true then(do let c <- cellOf env name;pure (P7 ((name,c)::r))) else pure (P7 r):Sem (ForInStep (List (Str×Mz)))))=(pure (ut env.cells names acc):Sem (List (Str×Mz))):=by
  intro names
  induction names with
  |nil=>intro acc _;rfl
  |cons y r ih=>
   intro acc hy;obtain⟨n,k⟩:=y;have hr:=λz hz=>hy z (Mt _ hz)
   rw[Tx];unfold ut
   by_cases hk:(k==NQ)=true
   ·obtain⟨c,hc⟩:=hy (n,k) MO (by simpa using hk);simp only[hk,PR];have e:cellOf env n=pure c:=by unfold cellOf;rw[hc]
    rw[e,hc];exact ih _ hr
   ·simp only[hk];exact ih _ hr
 unfold closureFor;have:=key scope.names [] h
 first
  |exact this
  |(simp only[bind_pure];exact this)
  |(rw[bind_pure];exact this)
  |(show(forIn scope.names [] _>>=λr=>pure r)=_;rw[bind_pure];exact this)
theorem iH:∀ {names:List (Str×Qc)}{acc:List (Str×Mz)}{x:Str}{c:Mz},(∀ y∈names,y.2=.free->∃ c,cells.lookup y.1=some c)->(ut cells names acc).lookup x=some c->acc.lookup x=some c\/((x,NQ)∈names/\cells.lookup x=some c)
 |[],_,_,_,_,e=>.inl e
 |(n,k)::r,acc,x,c,hy,e=>by
  unfold ut at e;have hr:=λz hz=>hy z (Mt _ hz)
  by_cases hk:(k==NQ)=true
  ·rw[Nd hk] at e;have hk':k=.free:=by simpa using hk
   rcases iH hr e with e|⟨m,e⟩
   ·rw[Oo] at e;cases hx:x==n with
    |true=>
     rw[hx] at e;have hxn:x=n:=by simpa using hx
     obtain⟨c',hc'⟩:=hy (n,k) MO hk';have hc':cells.lookup n=some c':=hc';rw[hc'] at e;have e:c'=c:=by simpa using e
     subst e hxn hk';exact .inr ⟨MO,hc'⟩
    |false=>
     rw[hx] at e;exact .inl e
   ·exact .inr ⟨Mt _ m,e⟩
  ·rw[MT hk] at e;rcases iH hr e with e|⟨m,e⟩
   ·exact .inl e
   ·exact .inr ⟨Mt _ m,e⟩
theorem lM:∀ {names:List (Str×Qc)}{acc:List (Str×Mz)}{x:Str},(∃ c,acc.lookup x=some c)\/(x,NQ)∈names->∃ c,(ut cells names acc).lookup x=some c
 |[],_,_,h=>by
  rcases h with h|h
  ·exact h
  ·cases h
 |(n,k)::r,acc,x,h=>by
  unfold ut
  by_cases hk:(k==NQ)=true
  ·rw[Nd hk];refine lM ?_;rcases h with ⟨c,e⟩|h
   ·refine .inl ?_;rw[Oo];cases x==n with
    |true=>exact⟨_,rfl⟩
    |false=>exact⟨c,e⟩
   ·rcases Mx.mp h with e|h
    ·injection e with e1 e2
     subst e1;exact .inl ⟨_,by rw[Oo];simp;rfl⟩
    ·exact .inr h
  ·rw[MT hk];refine lM ?_;rcases h with h|h
   ·exact .inl h
   ·rcases Mx.mp h with e|h
    ·injection e with e1 e2
     subst e2;exact absurd rfl hk
    ·exact .inr h
theorem oH:∀ {names:List (Str×Qc)}{n:Nat}{acc:List (Str×Mz)}{x:Str}{c:Mz},(QU n names acc).lookup x=some c->acc.lookup x=some c\/((x,NP)∈names/\n<=c)
 |[],_,_,_,_,e=>.inl e
 |(y,k)::r,n,acc,x,c,e=>by
  unfold QU at e
  by_cases hk:(k==NP)=true
  ·rw[Nd hk] at e;rcases oH e with e|⟨m,l⟩
   ·rw[Oo] at e;cases hx:x==y with
    |true=>
     rw[hx] at e;have e:n=c:=by simpa using e
     have hxy:x=y:=by simpa using hx
     have hk':k=.cell:=by simpa using hk
     subst e hxy hk';exact .inr ⟨MO,Mm _⟩
    |false=>
     rw[hx] at e;exact .inl e
   ·exact .inr ⟨Mt _ m,Qd l⟩
  ·rw[MT hk] at e;rcases oH e with e|⟨m,l⟩
   ·exact .inl e
   ·exact .inr ⟨Mt _ m,l⟩
structure zh (X:Cx)(scope:Rn):Prop where
 kind:scope.kind=.function
 once:∀ y∈scope.names,scope.names.lookup y.1=some y.2
 one:∀ y∈scope.names,∀ z∈scope.names,y.2=.cell->z.2=.cell->y.1=z.1
 kinds:∀ y∈scope.names,y.2=.local\/y.2=.globalImplicit\/y.2=.cell\/y.2=.free
 free:∀ y∈scope.names,y.2=.free->∃ c,X.env.cells.lookup y.1=some c
abbrev bj (X:Cx)(scope:Rn)(C:Mz):List (Str×Mz):=QU (C+1) scope.names (ut X.env.cells scope.names [])
section
variable {X:Cx}{scope:Rn}{C:Mz}(S:zh X scope)
include S
theorem iB (e:(bj X scope C).lookup x=some c):(X.env.cells.lookup x=some c/\scope.names.lookup x=some .free)\/(C+1<=c/\scope.names.lookup x=some .cell):=by
 rcases oH e with e|⟨m,l⟩
 ·rcases iH S.free e with e|⟨m,e⟩
  ·cases e
  ·exact .inl ⟨e,S.once _ m⟩
 ·exact .inr ⟨l,S.once _ m⟩
theorem Iv (e:(bj X scope C).lookup x=some c)(e':(bj X scope C).lookup y=some c)(hi:∀ x y c,X.env.cells.lookup x=some c->X.env.cells.lookup y=some c->x=y)(hl:∀ x c,X.env.cells.lookup x=some c->c<C):x=y:=by
 rcases iB S e with ⟨a,_⟩|⟨a,k⟩
 ·rcases iB S e' with ⟨b,_⟩|⟨b,_⟩
  ·exact hi x y c a b
  ·exact absurd (hl x c a) (N1.mpr (Qd b))
 ·rcases iB S e' with ⟨b,_⟩|⟨b,k'⟩
  ·exact absurd (hl y c b) (N1.mpr (Qd a))
  ·exact S.one (x,.cell) (Ow k) (y,.cell) (Ow k') rfl rfl
theorem DJ (h:(Sf scope (bj X scope C) C X.env).kindOf x=some .cell\/(Sf scope (bj X scope C) C X.env).kindOf x=some .free):∃ c,(bj X scope C).lookup x=some c:=by
 have key:∀ (names:List (Str × Qc)),((names.map fun (n,k)=>if (k == NQ && X.env.scope.kind == .function && X.env.kindOf n == some .cell) then (n,NP) else (n,k)).lookup x=some .cell \/
   (names.map λ(n,k)=>if(k==NQ&&X.env.scope.kind==.function&&X.env.kindOf n==some .cell) then(n,NP) else(n,k)).lookup x=some .free)->(x,NQ)∈names\/(x,NP)∈names:=by
  intro names
  induction names with
  |nil=>intro h;simp at h
  |cons y r ih=>
   intro h;obtain⟨n,k⟩:=y
   by_cases hx:(x==n)=true
   ·have hxn:x=n:=by simpa using hx
    subst hxn
    by_cases hc:(k==NQ&&X.env.scope.kind==.function&&X.env.kindOf x==some .cell)=true
    ·have:k=.free:=by
      rw[Nh,Nh] at hc
      simpa using hc.1.1
     subst this;exact .inl MO
    ·simp only[MN,hc,Oo,hx] at h;rcases h with h|h
     ·have:k=.cell:=by simpa using h
      subst this;exact .inr MO
     ·have:k=.free:=by simpa using h
      subst this;exact .inl MO
   ·have hx':(x==n)=false:=by simpa using hx
    have e:∀ (kk:Qc),((((n,k) :: r).map fun (n,k)=>if (k == NQ && X.env.scope.kind == .function && X.env.kindOf n == some .cell) then (n,NP) else (n,k)).lookup x=some kk) ->
      ((r.map λ(n,k)=>if(k==NQ&&X.env.scope.kind==.function&&X.env.kindOf n==some .cell) then(n,NP) else(n,k)).lookup x=some kk):=λkk h=>by
     rw[MN,Oo] at h;have:(x==((λ(y:Str×Qc)=>match y with|(n,k)=>if(k==NQ&&X.env.scope.kind==UP&&X.env.kindOf n==some NP) then(n,NP) else(n,k)) (n,k)).1)=false:=by
      show(x==(if(k==NQ&&X.env.scope.kind==UP&&X.env.kindOf n==some NP)=true then(n,NP) else(n,k)).1)=false
      split<;>exact hx'
     rw[this] at h;exact h
    rcases h with h|h
    ·rcases ih (.inl (e _ h)) with z|z
     ·exact .inl (Mt _ z)
     ·exact .inr (Mt _ z)
    ·rcases ih (.inr (e _ h)) with z|z
     ·exact .inl (Mt _ z)
     ·exact .inr (Mt _ z)
 rcases key scope.names h with z|z
 ·obtain⟨c,e⟩:=lM (cells:=X.env.cells) (acc:=[]) (.inr z);exact OJ.mp (PQ _ _ _ (.inr (by rw[e];rfl)))
 ·exact OJ.mp (PQ _ _ _ (.inl (S.once _ z)))
end
theorem Do
  (hQ:∀ h',(∃ m,h'.Ns s.heap.objs.size m)->(∀ x c,(QU (s.heap.objs.size+1) scope.names cl).lookup x=some c->cl.lookup x=some c\/h'.IsCell c none)->(∀ b o,s.heap.get? b=some o->h'.get? b=some o) ->
   Q (newEnv scope s.heap.objs.size globals (QU (s.heap.objs.size+1) scope.names cl) qual none .none (some env) Rb) { s with heap:=h' }) :
  MB M A (Sy scope globals cl [] qual none .none (some env)) Q E s:=by
 have lem:∀ (names:List (Str×Qc)) (h:Os) (acc:List (Str×Mz)) (x:Str) (c:Mz),(QU h.objs.size names acc).lookup x=some c->acc.lookup x=some c\/(pushCells h names).IsCell c none:=by
  intro names
  induction names with
  |nil=>intro h acc x c e;exact .inl e
  |cons y r ih=>
   intro h acc x c e;obtain⟨n,k⟩:=y;unfold QU at e;unfold pushCells
   by_cases hk:(k==NP)=true
   ·rw[Nd hk] at e ⊢;have hs:h.objs.size+1=(h.push { cls:=.type "cell",data:=.cell none }).objs.size:=(Nw ..).symm;rw[hs] at e;rcases ih _ _ _ _ e with e|e
    ·rw[Oo] at e;cases hx:x==n with
     |true=>
      rw[hx] at e;have e:h.objs.size=c:=by simpa using e
      subst e;exact .inr ⟨_,TX r _ _ _ (Mn _ rfl),rfl⟩
     |false=>
      rw[hx] at e;exact .inl e
    ·exact .inr e
   ·rw[MT hk] at e ⊢;exact ih _ _ _ _ e
 simp only[Sy,UL,PR];refine KE (wpAny_alloc ?_);refine KE (wpAny_layCells _ (λname kind cells=>by cases hkc:kind==NP<;>simp[hkc]) _ _ _ _ ?_);rw[show({ s with heap:=s.heap.push { cls:=.type "dict",data:=.dict #[] } }:Mp).heap.objs.size=s.heap.objs.size+1 from Nw ..];simp only[Uh];refine KE (Mh (Mh ?_));refine hQ _ ⟨_,(Heap.Ns.new s.heap (.type "dict")).keeps (TX _ _)⟩ (λx c e=>?_) λb o e=>TX _ _ b o (Mg _ e)
 have:=lem scope.names (s.heap.push { cls:=.type "dict",data:=.dict #[] }) cl x c;rw[Nw] at this;exact this e
section
variable {X:Cx}{pins:List (Mz×Obj)}{σ:L2.St}{H H2:Hp}{s s2:Mp}
def rT (X:Cx)(scope:Rn)(N:List Str)(σ σ0:L2.St):Prop:=
 ∀ (i:Nat) (x:Str) (v:V),N[i]?=some x->σ0[i]?=some (some v)->∃ j:Nat,X.N[j]?=some x/\σ[j]?=some (some v)/\(X.env.kindOf x=some .cell\/X.env.kindOf x=some .free)/\scope.names.lookup x=some .free /\
  ((Sf scope [] 0 X.env).kindOf x=some .cell\/(Sf scope [] 0 X.env).kindOf x=some .free)
theorem v9 (I:aG X pins σ H s)(h1:b≠X.env.locals)(h2:b∉X.fs):b∉zi X.stack:=λz=>(Mx.mp (I.stkSub b z)).elim h1 h2
theorem Dt {tk:Nat} (I:aG X pins σ H2 s2) (S:zh X scope)
  (hcap:rT X scope N σ σ0)(hlen:σ0.length=N.length)(f2:∀ b∈fp,oV X pins H2 b)(fo:∀ b∈fp,∃ o,s2.heap.get? b=some o)(hC:s2.heap.objs.size<=C)(hD:s2.heap.objs.size<=D)(hDC:D≠C)
  (old:∀ b o,s2.heap.get? b=some o->h1.get? b=some o)(hnC:∃ m,h1.Ns C m)(heD:h1.get? D=some oD)(hoD:∀ v,oD.data≠.cell v)(own:∀ x c,(bj X scope C).lookup x=some c->C+1<=c->h1.IsCell c none):
  aG (bF X N scope (bj X scope C) C s2 H2 fp pins) [(D,oD)] σ0 H2 { s2 with heap:=h1,toks:=tk }:=by
 have ltne:∀ b,b<s2.heap.objs.size->b≠C/\b≠D:=λb hb=>⟨λz=>absurd (z▸hb) (N1.mpr hC),λz=>absurd (z▸hb) (N1.mpr hD)⟩
 have cellLt:∀ x c,X.env.cells.lookup x=some c->c<s2.heap.objs.size:=λx c e=>by
  obtain⟨v,q⟩:=I.cell x c e;exact q.lt
 have big:∀ c:Mz,C+1<=c->s2.heap.objs.size<=c:=λc h=>MQ hC (Qd h)
 have frLt:∀ b∈zi X.stack,b<s2.heap.objs.size:=λb hb=>by
  obtain⟨_,o,ho,_⟩:=I.stack.mem hb;exact Mr ho
 refine⟨⟨I.ok.mod,S.kind,I.ok.glob,I.ok.blt,hC,?_,?_,?_,I.ok.hd,I.ok.frames,.inl rfl,?_,?_,?_,?_,?_,I.stack,I.stkFree⟩,rfl,I.bare,Un.kept old,?_,?_,?_,?_,?_,I.hok.kept old,hlen⟩
 ·intro x y c e1 e2;exact Iv S e1 e2 I.ok.inj λx c e=>MG (cellLt x c e) hC
 ·intro x hx;exact DJ S hx
 ·intro x c hf e;rcases iB S e with ⟨_,k⟩|⟨l,_⟩
  ·have hf:(scope.names.lookup x==some NP)=true:=hf;rw[k] at hf;cases hf
  ·exact big c l
 ·intro b hb;obtain⟨o,ho⟩:=fo b hb;refine⟨(ltne b (Mr ho)).1,λx c e=>?_⟩;rcases iB S e with ⟨e,_⟩|⟨l,_⟩
  ·exact(f2 b hb).2.2.2.2.1 x c e
  ·exact λz=>absurd (Mr ho) (N1.mpr (z▸big c l))
 ·exact λb o e=>I.bs b o e
 ·exact MQ I.ok.bsz I.sz
 ·intro b o e hb;rcases(f2 b hb).2.2.2.1 with z|z
  ·exact I.ok.noex b o e z
  ·exact absurd (MG (Mr e) (MQ I.ok.bsz z)) (Nl _)
 ·intro b hb;exact v9 I (f2 b hb).2.1 (f2 b hb).2.2.1
 ·obtain⟨m1,hm1⟩:=hnC;refine⟨m1,hm1,λi x v e1 e2 _=>?_⟩;obtain⟨j,j1,j2,j3,jf,j4⟩:=hcap i x v e1 e2;obtain⟨m,hn,hl⟩:=I.loc;have vis:Jl X.env.scope x:=by
   rcases j3 with z|z
   ·exact .inr (.inl z)
   ·exact .inr (.inr z)
  obtain⟨u,r,l⟩:=hl j x v j1 j2 vis;refine⟨u,r,.inr ⟨j4,?_⟩⟩;obtain⟨c,hc⟩:=DJ S (C:=C) j4;rcases l with ⟨k,_⟩|⟨_,c',e',z'⟩
  ·exfalso;rcases j3 with z|z<;>(rw[z] at k;cases k)
  ·rcases iB S hc with ⟨e,_⟩|⟨_,k⟩
   ·rw[e'] at e;cases e;exact⟨_,hc,z'.keeps old⟩
   ·rw[jf] at k;cases k
 ·intro x c e;rcases iB S e with ⟨e,_⟩|⟨l,_⟩
  ·obtain⟨v,q⟩:=I.cell x c e;exact⟨v,q.keeps old⟩
  ·exact⟨_,own x c e l⟩
 ·exact I.hok.fresh hC
 ·intro x c e;rcases iB S e with ⟨e,_⟩|⟨l,_⟩
  ·exact I.freeC x c e
  ·exact I.hok.fresh (big c l)
 ·intro p hp;rcases M_.mp hp with hp|hp
  ·obtain⟨q1,q2,q3,q4,q5⟩:=I.pin p hp;exact⟨old _ _ q1,q2,(ltne _ (Mr q1)).1,v9 I q3 q4,q5⟩
  ·cases Ml.mp hp;exact⟨heD,I.hok.fresh hD,hDC,λz=>absurd (frLt D z) (N1.mpr hD),hoD⟩
theorem EL {n:Nat} (I:aG X pins σ H2 s2)
  (f2:∀ b∈fp,oV X pins H2 b)(hD:s2.heap.objs.size<=D)(J:aG (bF X N scope (bj X scope C) C s2 H2 fp pins) ((D,{ cls:=.type "list",data:=.seq its.toArray n })::pl) σ0 H' s')(r:aM ys its)(hz:ys.length<=MI):
  aG X pins σ (upd H' D (.lst ys)) s':=by
 have pD:=J.pin (D,{ cls:=.type "list",data:=.seq its.toArray n }) (MD _ MO);have fD:H' D=none:=pD.2.1;have u0:Un (zi X.stack) fp H2 H' s2.heap s'.heap:=J.base;have fr2:H2 D=none:=I.hok.fresh hD;have u:Un (zi X.stack) fp H2 (upd H' D (.lst ys)) s2.heap s'.heap:=by
  refine⟨u0.keep,u0.slot,λb o e n' hx=>?_,u0.there,λb xs e=>?_,λb o w e=>?_,λb ps e=>?_⟩
  ·rw[aq (show b≠D from λz=>absurd (Mr e) (N1.mpr (by rw[z];exact hD)))];exact u0.free b o e n' hx
  ·rw[aq (aL e fr2)];exact u0.tups b xs e
  ·rw[aq (aL e fr2)];exact u0.frzs b o w e
  ·rw[aq (aL e fr2)];exact u0.tbls b ps e
 refine I.call' (ch:=fp) J.os u (λb o e=>?_) J.bare λb hb=>?_
 ·by_cases hb:b=D
  ·subst hb;rw[ae] at e;cases e;exact⟨hz,its,n,r,pD.1⟩
  ·rw[aq hb] at e;exact(J.hok b o e).stay (λ_ _ _ q=>q) (λc q=>by rw[aq (aL q fD)];exact q) λc xs q=>by rw[aq (aL q fD)];exact q
 ·obtain⟨_,g1,_,g3,g4,g5⟩:=f2 b hb;exact⟨g3,g1,g4,g5⟩
def K5 (X:Cx)(ifs:List OH)(t:TT):Prop:=
 ∀ (pins:List (Mz×Obj)) (s:Mp) (σ:L2.St) (H:Hp) (Q:Bool->Hp->Prop),aG X pins σ H s->t σ H Q ->
  MB (MW X.prog X.w) X.A (forIn ifs true λc r=>if r=true then do let ok <- isTrue c X.env (Qh c X.env);pure (P7 ok) else pure (P7 r)) (TP X pins σ Q) X.xe s
structure Hm (X:Cx)(e:List OH)(t:TT):Prop where
 go:K5 X e t
def JQ:TT:=λ_ H Q=>Q true H
theorem aA:Hm X [] JQ:=by
 exact⟨λ_ _ _ H _ I h=>wpAny_tests_nil ⟨H,I,h⟩⟩
def gR (J:It)(g:TG)(tt:TT)(te:TE)(σ0:L2.St)(Fin:List V->Hp->Prop)(H1:Hp):Prop:=∃ W:Nat->Nat->List V->Hp->Prop,(∃ m,W 0 m [] H1)/\∀ i m ys H2,W i m ys H2 ->
 (J.stop i H2/\ys.length<=MI/\Fin ys H2) \/
 (J.go i H2/\ys.length<MI/\∀ x H3,J.yld i H2 x H3->g x σ0 H3 λσ' H4=>tt σ' H4 λb H5=>if b=true then te σ' H5 λy H6=>∃ m',m'<m/\W (i+1) m' (ys++[y]) H6 else ∃ m',m'<m/\W (i+1) m' ys H5)
end
def qN (sc:Rn):Bool:=sc.kind==.function&&sc.names.all (λy=>sc.names.lookup y.1==some y.2)&&sc.names.all (λy=>sc.names.all λz=>!(y.2==.cell&&z.2==.cell)||y.1==z.1) &&
 sc.names.all λy=>y.2==.local||y.2==.globalImplicit||y.2==.cell||y.2==.free
theorem vq (h:qN scope=true)(hf:(scope.names.all λy=>!(y.2==.free)||(X.env.cells.lookup y.1).isSome)=true):zh X scope:=by
 unfold qN at h;simp only[Nh,N5] at h;obtain⟨⟨⟨h1,h2⟩,h3⟩,h4⟩:=h;refine⟨by simpa using h1,λy hy=>by simpa using h2 y hy,λy hy z hz a b=>?_,λy hy=>?_,λy hy e=>?_⟩
 ·have:=h3 y hy z hz;rw[a,b] at this
  simpa using this
 ·have:=h4 y hy;simp only[Bool.or_eq_true,OL] at this;rcases this with ((q|q)|q)|q
  ·exact .inl q
  ·exact .inr (.inl q)
  ·exact .inr (.inr (.inl q))
  ·exact .inr (.inr (.inr q))
 ·rw[N5] at hf;have:=hf y hy;rw[e] at this;exact OJ.mp (by simpa using this)
def nE (X:Cx)(scope:Rn)(cs:List Str)(js:List Nat):Bool:=(cs.zip js).all λp=>(X.N[p.2]?==some p.1)&&(X.env.kindOf p.1==some .cell||X.env.kindOf p.1==some .free)&&(scope.names.lookup p.1==some .free) &&
 ((Sf scope [] 0 X.env).kindOf p.1==some .cell||(Sf scope [] 0 X.env).kindOf p.1==some .free)
theorem zx (h:nE X scope cs js=true) (hl:cs.length=js.length) {k:Nat} (hk:ts.length=k) (σ:L2.St) (_:σ.length=X.N.length) :
  rT X scope (ts++cs) σ (Ah k js σ)/\(Ah k js σ).length=(ts++cs).length:=by
 subst hk;refine⟨λi x v e1 e2=>?_,by unfold Ah;simp[hl]⟩;unfold Ah at e2;have hi:ts.length<=i:=by
  rcases Vl i ts.length with z|z
  ·rw[OA (by simpa using z),QN,Nd z] at e2;cases e2
  ·exact z
 rw[NT hi] at e1;rw[NT (by simpa using hi),TD,Mw] at e2;cases hj:js[i-ts.length]? with
 |none=>rw[hj] at e2;cases e2
 |some j=>
  rw[hj] at e2;have e2:(σ[j]?).join=some v:=Mi e2;have e3:σ[j]?=some (some v):=by
   cases q:σ[j]? with
   |none=>rw[q] at e2;cases e2
   |some o=>rw[q] at e2;exact PZ some e2
  have m:(x,j)∈cs.zip js:=by
   have:(cs.zip js)[i-ts.length]?=some (x,j):=by rw[M8];exact⟨e1,hj⟩
   exact ME this
  unfold nE at h;rw[N5] at h;have c:=h _ m;simp only[Nh,Bool.or_eq_true,OL] at c;exact⟨j,c.1.1.1,e3,c.1.1.2,c.1.2,c.2⟩
def qQ (b:Bool)(h:Os)(j q:Mz)(k:Nat)(its:Array Mj):Prop:=match b with
 |true=>h.IsListIter j q k/\h.IsList q its
 |false=>h.IsTupleIter j q k/\h.IsTuple q its
theorem qQ.keep {k:Nat}(x:qQ b h j q k its)(e1:∀ o,h.get? j=some o->g.get? j=some o)(e2:∀ o,h.get? q=some o->g.get? q=some o):qQ b g j q k its:=by
 cases b with
 |true=>
  obtain⟨⟨o,a,r⟩,⟨u,c,t⟩⟩:=x;exact⟨⟨o,e1 o a,r⟩,⟨u,e2 u c,t⟩⟩
 |false=>
  obtain⟨⟨o,a,r⟩,⟨u,c,t⟩⟩:=x;exact⟨⟨o,e1 o a,r⟩,⟨u,e2 u c,t⟩⟩
theorem qQ.ext {k:Nat}(x:qQ b h j q k its)(e:RO c h g)(n1:j≠c)(n2:q≠c):qQ b g j q k its:=
 x.keep (λo a=>e j o n1 a) λo a=>e q o n2 a
theorem qQ.there {k:Nat}(x:qQ b h j q k its):∃ o vs,h.get? j=some o/\o.data=.fields vs:=by
 cases b with
 |true=>
  obtain⟨⟨o,a,_,d⟩,_⟩:=x;exact⟨o,_,a,d⟩
 |false=>
  obtain⟨⟨o,a,_,d⟩,_⟩:=x;exact⟨o,_,a,d⟩
theorem qQ.src {k:Nat}(x:qQ b h j q k its):∃ o n,h.get? q=some o/\o.data=.seq its n:=by
 cases b with
 |true=>
  obtain⟨_,⟨o,a,_,n,d⟩⟩:=x;exact⟨o,n,a,d⟩
 |false=>
  obtain⟨_,⟨o,a,_,n,d⟩⟩:=x;exact⟨o,n,a,d⟩
theorem qQ.ne {k:Nat}(x:qQ b h j q k its):q≠j:=λz=>by
 obtain⟨o,vs,a,d⟩:=x.there;obtain⟨u,n,c,t⟩:=x.src;rw[z,a] at c;cases c;rw[d] at t;cases t
section
variable {prog:MS}{w:No}{A:ND}{E:Mj->Mp->Prop}{s:Mp}
theorem GI {k:Nat} (h1:s.heap.IsTupleIter j q k) (h2:s.heap.IsTuple q its) (hv:its[k]?=some v)
  (fin:∀ g,g.IsTupleIter j q (k+1)->Nv j s.heap g->Q v { s with heap:=g }):MB (MW prog w) A (Ni (.ref j)) Q E s:=by
 obtain⟨oj,ej,cj,dj⟩:=id h1;obtain⟨oq,eq,_,nq,dq⟩:=h2;unfold Ni;refine KE (Nb (name:=NY "__next__") h1.typeIs OY (Nk OY h1.typeIs RK ?_ (RA _)));show MB _ _ (field (.ref j) 0>>=_) _ _ s;refine KE (NM ej dj (x:=.ref q) rfl ?_);show MB _ _ (if(MP q==NH)=true then _ else _) _ _ s;rw[MT (show ¬ (MP q==NH)=true from Nj)];show MB _ _ (field (.ref j) 1>>=_) _ _ s;refine KE (NM ej dj (x:=.int k 0) rfl ?_);show MB _ _ (UV (.ref q)>>=_) _ _ s;refine KE (OB eq dq ?_);simp only[M6,hv];refine KE (OC ej dj (by simp) (Mh ⟨v,rfl,Mh (fin _ ?_ (Ng ..))⟩));refine⟨_,Nm _ ej (OE (NA dj _)),(Qf ..).trans cj,?_⟩;rw[NA dj];simp[OX]
theorem F8 {k:Nat} (hh:A.handled=none) (h1:s.heap.IsTupleIter j q k) (h2:s.heap.IsTuple q its) (hv:its[k]?=none)
  (fin:∀ g e,RO j s.heap g->(∃ o,g.get? e=some o/\o.cls=.type "StopIteration")->E (.ref e) { s with heap:=g }):MB (MW prog w) A (Ni (.ref j)) Q E s:=by
 obtain⟨oj,ej,cj,dj⟩:=id h1;obtain⟨oq,eq,_,nq,dq⟩:=h2;unfold Ni;refine KE (Nb (name:=NY "__next__") h1.typeIs OY (Nk OY h1.typeIs RK ?_ (RA _)));show MB _ _ (field (.ref j) 0>>=_) _ _ s;refine KE (NM ej dj (x:=.ref q) rfl ?_);show MB _ _ (if(MP q==NH)=true then _ else _) _ _ s;rw[MT (show ¬ (MP q==NH)=true from Nj)];show MB _ _ (field (.ref j) 1>>=_) _ _ s;refine KE (NM ej dj (x:=.int k 0) rfl ?_);show MB _ _ (UV (.ref q)>>=_) _ _ s;refine KE (OB eq dq ?_);simp only[M6,hv];refine KE (QF (KE (OC ej dj (by simp) ?_)));show MB _ _ (VH (.type "StopIteration") ([]:List Mj)>>=_) _ _ _;refine KE ?_;simp only[VH,newTuple];refine KE (M1 ?_ (by size_fits));refine KE (m:=O_ _ _) (S' (a:=NH) (by first|rfl|(unfold O_;rfl)) ?_);refine M1 ?_ (by size_fits);unfold raiseNew;refine KE (S7 ?_)
 first|rw[hh]|rw[show A.in1.handled=none from hh]
 refine KE (Mh (UD (fin _ _ (((Ng ..).extBut.push _).push _) ⟨_,Mn _ rfl,rfl⟩)))
theorem qQ.next {k:Nat} (x:qQ b s.heap j q k its) (hv:its[k]?=some v)
  (fin:∀ g,qQ b g j q (k+1) its->Nv j s.heap g->Q v { s with heap:=g }):MB (MW prog w) A (Ni (.ref j)) Q E s:=by
 have hn:=x.ne;cases b with
 |true=>exact wpAny_nextOf_list_item x.1 x.2 hv λg h1' sb=>fin g ⟨h1',x.2.extBut sb.extBut hn⟩ sb
 |false=>exact GI x.1 x.2 hv λg h1' sb=>fin g ⟨h1',x.2.extBut sb.extBut hn⟩ sb
theorem qQ.stops {k:Nat} (hh:A.handled=none) (x:qQ b s.heap j q k its) (hv:its[k]?=none)
  (fin:∀ g e,RO j s.heap g->(∃ o,g.get? e=some o/\o.cls=.type "StopIteration")->E (.ref e) { s with heap:=g }):MB (MW prog w) A (Ni (.ref j)) Q E s:=by
 cases b with
 |true=>exact wpAny_nextOf_list_end hh x.1 x.2 hv fin
 |false=>exact F8 hh x.1 x.2 hv fin
structure KW (b1 b2:Bool)(h:Os)(z ti to j1 j2 q1 q2:Mz)(f0:Mj)(k:Nat)(xs ys:Array Mj):Prop where
 zp:VJ h z ti to f0
 pi:Tc h ti (.ref j1) (.ref j2)
 po:∃ a b,Tc h to a b
 s1:qQ b1 h j1 q1 k xs
 s2:qQ b2 h j2 q2 k ys
structure KL (z ti to j1 j2 q1 q2:Mz):Prop where
 a1:ti≠z
 a2:to≠z
 a3:j1≠z
 a4:j2≠z
 a5:ti≠to
 a6:ti≠j1
 a7:ti≠j2
 a8:to≠j1
 a9:to≠j2
 b1:j1≠j2
 c1:q1≠z
 c2:q1≠to
 c4:q1≠j2
 d1:q2≠z
 d2:q2≠to
 d3:q2≠j1
theorem Ks {k:Nat} (D:KL z ti to j1 j2 q1 q2) (Z:KW b1 b2 s.heap z ti to j1 j2 q1 q2 .none k xs ys) (hx:xs[k]?=some x) (hy:ys[k]?=some y)
  (fin:∀ g,KW b1 b2 g z ti to j1 j2 q1 q2 (OX s.heap.objs.size) (k+1) xs ys->Tc g s.heap.objs.size x y->(∀ c o,c≠z->c≠to->c≠j1->c≠j2->s.heap.get? c=some o->g.get? c=some o)->Q (some (.ref s.heap.objs.size)) { s with heap:=g }):
  MB (MW prog w) A (Ql (.ref z)) Q E s:=by
 obtain⟨hz,hi,⟨pa,pb,ho⟩,hs1,hs2⟩:=Z;have ht:s.TypeIs (.ref z) "zip":=⟨_,hz,rfl⟩
 unfold Ql;refine KE (PF (Nb (name:=NY "__next__") ht RL (Nk RL ht F.entry_zip_next ?_ (F.args_zip_next_1 _))));show MB _ _ (field (.ref z) 2>>=_) _ _ s;refine KE (NM hz rfl (x:=.bool false) rfl ?_);show MB _ _ (field (.ref z) 3>>=_) _ _ s;refine KE (NM hz rfl (x:=.ref ti) rfl ?_);refine KE (OB hi rfl ?_);show MB _ _ (N8 (.ref z)>>=_) _ _ s;refine KE ?_;unfold N8;refine KE (NM hz rfl (x:=.none) rfl (Mh ?_));simp only[PR];refine KE (QF (KE (NM hz rfl (x:=.ref to) rfl ?_)));refine KE (NG hz (by simp) λg1 z1 e1=>?_);have z1:VJ g1 z ti to .ellipsis:=z1;refine KE ?_;simp only[List.zipIdx_cons,List.zipIdx_nil,Tx,Uh];refine KE (KE (S_ ?_));show MB _ _ (Ni (.ref j1)>>=_) _ _ { s with heap:=g1 };refine KE ((hs1.ext e1.extBut D.a3 D.c1).next hx λg2 i2 e2=>Mh ?_);have o2:Tc g2 to pa pb:=e2.extBut _ _ D.a8 (e1.extBut _ _ D.a2 ho);refine KE (OB o2 rfl (KE (Rx o2 λg3 o3 e3=>?_)));have o3:Tc g3 to x pb:=o3;refine KE (S8 (Mh ?_));refine KE (KE (S_ ?_));show MB _ _ (Ni (.ref j2)>>=_) _ _ { s with heap:=g3 };refine KE ((((hs2.ext e1.extBut D.a4 D.d1).ext e2.extBut D.b1.symm D.d3).ext e3.extBut D.a9.symm D.d2).next hy λg4 i4 e4=>Mh ?_);have o4:Tc g4 to x pb:=e4.extBut _ _ D.a9 o3;refine KE (OB o4 rfl (KE (Rx o4 λg5 o5 e5=>?_)));have o5:Tc g5 to x y:=o5;refine KE (S8 (Mh (Mh ?_)));refine KE (OB o5 rfl (KE (Um ?_)));have sz:g5.objs.size=s.heap.objs.size:=by rw[e5.1,e4.1,e3.1,e2.1,e1.1]
 have z5:VJ g5 z ti to .ellipsis:=e5.extBut _ _ D.a2.symm (e4.extBut _ _ D.a4.symm (e3.extBut _ _ D.a2.symm (e2.extBut _ _ D.a3.symm z1)));have k5:∀ c o,c≠z->c≠to->c≠j1->c≠j2->s.heap.get? c=some o->g5.get? c=some o:=λc o n1 n2 n3 n4 e=>
  e5.extBut _ _ n2 (e4.extBut _ _ n4 (e3.extBut _ _ n2 (e2.extBut _ _ n3 (e1.extBut _ _ n1 e))))
 have i5:qQ b1 g5 j1 q1 (k+1) xs:=((i2.ext e3.extBut D.a8.symm D.c2).ext e4.extBut D.b1 D.c4).ext e5.extBut D.a8.symm D.c2;have i6:qQ b2 g5 j2 q2 (k+1) ys:=i4.ext e5.extBut D.a9.symm D.d2;have lz:z<g5.objs.size:=Mr z5;show MB _ _ (Qk (.ref z) (.ref g5.objs.size)>>=_) _ _ _;refine KE ?_;unfold Qk;have z6:VJ (g5.push { cls:=.type "tuple",data:=.seq #[x,y] }) z ti to .ellipsis:=Mg _ z5;refine KE (NG z6 (by simp) λg7 z7 e7=>?_);have z7:VJ g7 z ti to (OX g5.objs.size):=z7;refine NG z7 (by simp) λg8 z8 e8=>?_
 have z8:VJ g8 z ti to (OX g5.objs.size):=z8;have up:∀ c o,c≠z->g5.get? c=some o->g8.get? c=some o:=λc o n e=>e8.extBut _ _ n (e7.extBut _ _ n (Mg _ e))
 have t8:Tc g8 g5.objs.size x y:=e8.extBut _ _ (OD lz) (e7.extBut _ _ (OD lz) (Mn _ rfl));rw[sz] at z8 t8;refine Mh ⟨_,rfl,Mh ?_⟩;show Q (some (.ref g5.objs.size)) _;rw[sz];exact fin g8 ⟨z8,up _ _ D.a1 (k5 _ _ D.a1 D.a5 D.a6 D.a7 hi),⟨x,y,up _ _ D.a2 o5⟩,i5.keep (λo e=>up _ o D.a3 e) (λo e=>up _ o D.c1 e),i6.keep (λo e=>up _ o D.a4 e) (λo e=>up _ o D.d1 e)⟩ t8
  λc o n1 n2 n3 n4 e=>up c o n1 (k5 c o n1 n2 n3 n4 e)
theorem Js {k:Nat} (hh:A.handled=none) (D:KL z ti to j1 j2 q1 q2) (Z:KW b1 b2 s.heap z ti to j1 j2 q1 q2 .none k xs ys) (hv:xs[k]?=none\/ys[k]?=none)
  (fin:∀ g,(∀ c o,c≠z->c≠to->c≠j1->c≠j2->s.heap.get? c=some o->g.get? c=some o)->Q none { s with heap:=g }):MB (MW prog w) A (Ql (.ref z)) Q E s:=by
 obtain⟨hz,hi,⟨pa,pb,ho⟩,hs1,hs2⟩:=Z;have ht:s.TypeIs (.ref z) "zip":=⟨_,hz,rfl⟩
 have stopped:∀ (g:Os) (e:Mz),(∀ c o,c ≠ z->c ≠ to->c ≠ j1->c ≠ j2->s.heap.get? c=some o->g.get? c=some o)->(∃ o,g.get? e=some o/\o.cls=.type "StopIteration") ->
   MB (MW prog w) A (do if <- Vd (.ref e) (.type "StopIteration") then pure none else throw (.ref e)) Q E { s with heap:=g }:=λg e kk ⟨o,h1,h2⟩=>
  KE (PN (T:="StopIteration") (b:=true) ⟨o,h1,h2⟩ Sx (Mh (fin g kk)))
 unfold Ql;refine KE (PF (Nb (name:=NY "__next__") ht RL (Nk RL ht F.entry_zip_next ?_ (F.args_zip_next_1 _))));show MB _ _ (field (.ref z) 2>>=_) _ _ s;refine KE (NM hz rfl (x:=.bool false) rfl ?_);show MB _ _ (field (.ref z) 3>>=_) _ _ s;refine KE (NM hz rfl (x:=.ref ti) rfl ?_);refine KE (OB hi rfl ?_);show MB _ _ (N8 (.ref z)>>=_) _ _ s;refine KE ?_;unfold N8;refine KE (NM hz rfl (x:=.none) rfl (Mh ?_));simp only[PR];refine KE (QF (KE (NM hz rfl (x:=.ref to) rfl ?_)));refine KE (NG hz (by simp) λg1 z1 e1=>?_);have z1:VJ g1 z ti to .ellipsis:=z1;refine KE ?_;simp only[List.zipIdx_cons,List.zipIdx_nil,Tx,Uh];refine KE (KE (S_ ?_));show MB _ _ (Ni (.ref j1)>>=_) _ _ { s with heap:=g1 };cases hx:xs[k]? with
 |none=>
  refine KE ((hs1.ext e1.extBut D.a3 D.c1).stops hh hx λg2 e e2 he=>?_);obtain⟨oe,q1',q2'⟩:=he;have z2:VJ g2 z ti to .ellipsis:=e2 _ _ D.a3.symm z1;have ne:e≠z:=λc=>by subst c;rw[z2] at q1';cases q1';simp at q2'
  exact NG z2 (by simp) λg3 _ e3=>stopped g3 e (λc o n1 _ n3 _ u=>e3.extBut _ _ n1 (e2 _ _ n3 (e1.extBut _ _ n1 u))) ⟨oe,e3.extBut _ _ ne q1',q2'⟩
 |some x=>
  have hy:ys[k]?=none:=hv.resolve_left (by rw[hx];exact λc=>nomatch c);refine KE ((hs1.ext e1.extBut D.a3 D.c1).next hx λg2 i2 e2=>Mh ?_);have o2:Tc g2 to pa pb:=e2.extBut _ _ D.a8 (e1.extBut _ _ D.a2 ho);refine KE (OB o2 rfl (KE (Rx o2 λg3 o3 e3=>?_)));refine KE (S8 (Mh ?_));refine KE (KE (S_ ?_));show MB _ _ (Ni (.ref j2)>>=_) _ _ { s with heap:=g3 };refine KE ((((hs2.ext e1.extBut D.a4 D.d1).ext e2.extBut D.b1.symm D.d3).ext e3.extBut D.a9.symm D.d2).stops hh hy λg4 e e4 he=>?_);obtain⟨oe,q1',q2'⟩:=he;have z4:VJ g4 z ti to .ellipsis:=e4 _ _ D.a4.symm (e3.extBut _ _ D.a2.symm (e2.extBut _ _ D.a3.symm z1));have ne:e≠z:=λc=>by subst c;rw[z4] at q1';cases q1';simp at q2'
  exact NG z4 (by simp) λg5 _ e5=>stopped g5 e (λc o n1 n2 n3 n4 u=>e5.extBut _ _ n1 (e4 _ _ n4 (e3.extBut _ _ n2 (e2.extBut _ _ n3 (e1.extBut _ _ n1 u))))) ⟨oe,e5.extBut _ _ ne q1',q2'⟩
end
def ck (K:HD)(H:Hp)(a:Mz)(xs:List V):Bool->Prop
 |true=>bH K H a xs
 |false=>dF K H a xs
def CP (h:Os)(j q:Mz)(k:Nat):Bool->Prop
 |true=>h.IsListIter j q k
 |false=>h.IsTupleIter j q k
theorem CP.keep {k:Nat}:∀ {b:Bool},CP h j q k b->(∀ o,h.get? j=some o->g.get? j=some o)->CP g j q k b
 |true,⟨o,e,r⟩,f=>⟨o,f o e,r⟩
 |false,⟨o,e,r⟩,f=>⟨o,f o e,r⟩
theorem CP.fields {k:Nat}:∀ {b:Bool},CP h j q k b->∃ o vs,h.get? j=some o/\o.data=.fields vs
 |true,⟨o,e,_,d⟩=>⟨o,_,e,d⟩
 |false,⟨o,e,_,d⟩=>⟨o,_,e,d⟩
section
variable {X:Cx}{pins:List (Mz×Obj)}{σ:L2.St}{H:Hp}{s:Mp}
theorem qF {k:Nat}(I:aG X pins σ H s):∀ {b:Bool},ck X.K H q xs b->CP s.heap j q k b->∃ its:List Mj,aM xs its/\qQ b s.heap j q k its.toArray
 |true,h,i=>by
  obtain⟨its,rv,p,_⟩:=I.list h;exact⟨its,rv,i,p.isList⟩
 |false,h,i=>by
  obtain⟨its,rv,p,_⟩:=I.tuple h;exact⟨its,rv,i,p⟩
theorem FN {k:Nat}(x:qQ b h j q k its):CP h j q k b:=by
 cases b with
 |true=>exact x.1
 |false=>exact x.1
theorem Bo (I:aG X pins σ H s):∀ {b:Bool},ck X.K H q xs b->ck X.K H q ys b->xs=ys
 |true,h,h'=>I.list_inj h h'
 |false,h,h'=>I.tuple_inj h h'
theorem uR (I:aG X pins σ H s):∀ {b:Bool},ck X.K H q xs b->∃ o its n,s.heap.get? q=some o/\o.data=.seq its n
 |true,h=>by
  obtain⟨its,rv,⟨o,n,e,_,_,d⟩,_⟩:=I.list h;exact⟨o,_,n,e,d⟩
 |false,h=>by
  obtain⟨its,rv,⟨o,e,_,n,d⟩,_⟩:=I.tuple h;exact⟨o,_,n,e,d⟩
theorem jL (I:aG X pins σ H s) (hn:H T=none) (h1:X.s₀.heap.objs.size <= T) (hL:T ≠ X.env.locals) (h2:∀ x c,X.env.cells.lookup x=some c->c ≠ T) (h3:∀ p ∈ X.pn ++ pins,p.1 ≠ T)
  (ok:bT X.prog X.w (upd H T o) s.heap T o):aG X pins σ (upd H T o) s:=by
 have J:=I.step (h':=s.heap) (g':=s.gens) (t':=s.toks) (d':=s.drawn) (H':=upd H T o) (ch:=[T]) (λb hb=>?_) (λb o _ _ _ e _=>e) (λb o _ _ _ e _=>⟨o.slots,e⟩) (λb o hb _ n=>by rw[aq (show b≠T from λz=>hb (by simp[z]))];exact n)
  (λb o _ e=>⟨o,e⟩) (λb xs e=>by rw[aq (aL e hn)];exact e) (λb u w e=>by rw[aq (aL e hn)];exact e) (λb ps e=>⟨#[],by rw[aq (aL e hn),e];simp⟩) (λm hm=>hm) (λb u e=>?_) I.bare
 ·exact J
 ·cases Ml.mp hb;exact⟨.inr h1,hL,h2,h3⟩
 ·by_cases hb:b=T
  ·subst hb;rw[ae] at e;cases e;exact ok
  ·rw[aq hb] at e;exact(I.hok b u e).stay (λ_ _ _ q=>q) (λc q=>by rw[aq (aL q hn)];exact q) λc xs q=>by rw[aq (aL q hn)];exact q
end
def Ji (K:HD)(b1 b2:Bool)(q1 q2:Mz):It:=
 ⟨λi H=>∃ xs ys x y,ck K H q1 xs b1/\ck K H q2 ys b2/\xs[i]?=some x/\ys[i]?=some y,
  λi H v H'=>∃ x y T,(∀ xs,ck K H q1 xs b1->xs[i]?=some x)/\(∀ ys,ck K H q2 ys b2->ys[i]?=some y)/\H T=none/\v=.ref T/\H'=upd H T (.tup [x,y]),
  λi H=>∃ xs ys,ck K H q1 xs b1/\ck K H q2 ys b2/\(xs.length<=i\/ys.length<=i)⟩
def KU (z ti to j1 j2 q1 q2:Mz)(b1 b2:Bool)(k:Nat)(h:Os):Prop:=VJ h z ti to .none/\Tc h ti (.ref j1) (.ref j2)/\(∃ a b,Tc h to a b)/\CP h j1 q1 k b1/\CP h j2 q2 k b2
theorem ED {P:MS}{w:No}{K:HD}{elts:List OH}{tk:Nat}{pos:Pos}{z ti to j1 j2 q1 q2:Mz}{b1 b2:Bool} (D:ti ≠ z/\to ≠ z/\j1 ≠ z/\j2 ≠ z/\ti ≠ to/\ti ≠ j1/\ti ≠ j2/\to ≠ j1/\to ≠ j2/\j1 ≠ j2) :
  vS P w K (.Tuple elts tk pos) (Ji K b1 b2 q1 q2) [z,ti,to,j1,j2] z (KU z ti to j1 j2 q1 q2 b1 b2) where
 mem:=by simp
 obj:=λi h st b hb=>by
  obtain⟨h1,h2,⟨a,c,h3⟩,h4,h5⟩:=st;simp only[Mx,MM,Od] at hb;rcases hb with rfl|rfl|rfl|rfl|rfl
  ·exact⟨_,h1,λv e=>nomatch e⟩
  ·exact⟨_,h2,λv e=>nomatch e⟩
  ·exact⟨_,h3,λv e=>nomatch e⟩
  ·obtain⟨o,vs,e,d⟩:=h4.fields;exact⟨o,e,λv u=>by rw[d] at u;cases u⟩
  ·obtain⟨o,vs,e,d⟩:=h5.fields;exact⟨o,e,λv u=>by rw[d] at u;cases u⟩
 keep:=λi h h' st k=>by
  obtain⟨h1,h2,⟨a,c,h3⟩,h4,h5⟩:=st;exact⟨k z (by simp) _ h1,k ti (by simp) _ h2,⟨a,c,k to (by simp) _ h3⟩,h4.keep λo e=>k j1 (by simp) o e,h5.keep λo e=>k j2 (by simp) o e⟩
 item:=by
  intro X hP hw hK hc i pins s σ H E I hf st hg;subst hP hw hK;obtain⟨xs,ys,x,y,hq1,hq2,hx,hy⟩:=hg;obtain⟨hz,hi,⟨a,c,ho⟩,t1,t2⟩:=st;obtain⟨us,r1,s1⟩:=qF I hq1 t1;obtain⟨vs,r2,s2⟩:=qF I hq2 t2;obtain⟨u,eu,ru⟩:=r1.get hx;obtain⟨v,ev,rv⟩:=r2.get hy;obtain⟨d1,d2,d3,d4,d5,d6,d7,d8,d9,d10⟩:=D;have tr:∀ {q:Mz}{zs:List V}{b:Bool},ck X.K H q zs b->∀ b'∈[z,ti,to,j1,j2],(∃ o ws,s.heap.get? b'=some o/\o.data=.fields ws)->q≠b':=λ{q zs b} hq b' _ ⟨o,ws,e,d⟩ n=>by
   obtain⟨o',its,nn,e',d'⟩:=uR I hq;rw[n,e] at e';cases e';rw[d] at d';cases d'
  have zf:∃ o ws,s.heap.get? z=some o/\o.data=.fields ws:=⟨_,_,hz,rfl⟩
  have tof:∀ {q:Mz}{zs:List V}{b:Bool},ck X.K H q zs b->q≠to:=λ{q zs b} hq n=>by
   have fto:H to=none:=(hf to (by simp)).1;have ft:=(hf to (by simp)).2;cases b with
   |true=>
    obtain⟨its,_,⟨o',nn,e',cc,_,d'⟩,_⟩:=I.list hq;rw[n,ho] at e';cases e';simp at cc
   |false=>
    rcases hq with (hq|⟨o',hq⟩)|⟨o',its,nn,kk,_⟩
    ·rw[n,fto] at hq;cases hq
    ·rw[n,fto] at hq;cases hq
    ·have bb:=I.mod.kin q o' kk;rw[n] at bb;rcases ft.2.2.1 with e|e
     ·exact I.ok.noex to o' bb e
     ·exact absurd (MG (Mr bb) (MQ I.ok.bsz e)) (Nl _)
  have AP:KL z ti to j1 j2 q1 q2:=⟨d1,d2,d3,d4,d5,d6,d7,d8,d9,d10,tr hq1 z (by simp) zf,tof hq1,tr hq1 j2 (by simp) t2.fields,tr hq2 z (by simp) zf,tof hq2,tr hq2 j1 (by simp) t1.fields⟩
  refine Ks AP ⟨hz,hi,⟨a,c,ho⟩,s1,s2⟩ (x:=u) (y:=v) (by simpa using eu) (by simpa using ev) λg Z hp kk=>⟨_,rfl,?_⟩
  refine wpAny_letOwnedTupleGo_zip Z.zp λg' z' sb=>?_
  have tz:s.heap.objs.size≠z:=OD (Mr hz);have fp0:∀ b∈[z,ti,to,j1,j2],b≠s.heap.objs.size:=λb hb n=>by
   simp only[Mx,MM,Od] at hb;rcases hb with rfl|rfl|rfl|rfl|rfl
   ·exact tz n.symm
   ·exact Nl _ (n▸Mr hi)
   ·exact Nl _ (n▸Mr ho)
   ·obtain⟨o,_,e,_⟩:=t1.fields;exact Nl _ (n▸Mr e)
   ·obtain⟨o,_,e,_⟩:=t2.fields;exact Nl _ (n▸Mr e)
  have k2:∀ b o,b∉[z,ti,to,j1,j2]->s.heap.get? b=some o->g'.get? b=some o:=λb o hb e=>
   sb.extBut b o (λn=>hb (by simp[n])) (kk b o (λn=>hb (by simp[n])) (λn=>hb (by simp[n])) (λn=>hb (by simp[n])) (λn=>hb (by simp[n])) e)
  have nfp:∀ b u',H b=some u'->b∉[z,ti,to,j1,j2]:=λb u' e hb=>by rw[(hf b hb).1] at e;cases e
  have I1:aG X pins σ H { s with heap:=g' }:=by
   refine I.step (g':=s.gens) (d':=s.drawn) (t':=s.toks) (ch:=[z,ti,to,j1,j2]) (λb hb=>?_) (λb o _ _ hb e _=>k2 b o hb e) (λb o _ _ hb e _=>⟨o.slots,k2 b o hb e⟩) (λ_ _ _ _ n=>n) (λb o hb e=>⟨o,k2 b o hb e⟩) (λ_ _ e=>e) (λ_ _ _ e=>e)
    (λb ps e=>⟨#[],by rw[e];simp⟩) (λm hm=>?_) (λb u' e=>?_) I.bare
   ·obtain⟨_,g1,_,g3,g4,g5⟩:=hf b hb;exact⟨g3,g1,g4,g5⟩
   ·obtain⟨o,es,ep,ho',r'⟩:=hm;exact⟨o,es,ep,k2 _ o (λn=>(hf _ n).2.1 rfl) ho',r'⟩
   ·refine(I.hok b u' e).stay (λc' v' hc' q=>k2 c' v' ?_ q) (λ_ q=>q) λ_ _ q=>q
    rcases hc' with rfl|hc'
    ·exact nfp _ _ e
    ·exact nfp _ _ hc'
  have hT:g'.get? s.heap.objs.size=some { cls:=.type "tuple",data:=.seq #[u,v] }:=sb.extBut _ _ tz hp;have fT:H s.heap.objs.size=none:=I.hok.fresh (Mm _);have F:=I.fpOk (b:=s.heap.objs.size) (H':=H) (Mm _) fT;have I2:aG X pins σ (upd H s.heap.objs.size (.tup [x,y])) { s with heap:=g' }:=jL I1 fT I.sz F.2.1 F.2.2.2.2.1 F.2.2.2.2.2 ⟨by show 2<=MI;decide,[u,v],.cons ru (.cons rv .nil),⟨_,hT,rfl,_,rfl⟩⟩;have cl:∀ {j q:Mz}{b:Bool}{its:Array Mj},qQ b g j q (i+1) its->j≠z->CP g' j q (i+1) b:=λ{j q b its} x n=>(FN x).keep λo e=>sb.extBut _ _ n e
  exact⟨.ref s.heap.objs.size,_,I2,rfl,⟨x,y,s.heap.objs.size,λxs' h'=>by rw[Bo I h' hq1];exact hx,λys' h'=>by rw[Bo I h' hq2];exact hy,fT,rfl,rfl⟩,
   ⟨z',sb.extBut _ _ d1 Z.pi,(let ⟨a',b',e'⟩:=Z.po;⟨a',b',sb.extBut _ _ d2 e'⟩),cl Z.s1 d3,cl Z.s2 d4⟩,λb hb=>by rw[aq (fp0 b hb)];exact(hf b hb).1⟩
 done:=by
  intro X hP hw hK hc i pins s σ H E I hf st hg;subst hP hw hK;obtain⟨xs,ys,hq1,hq2,hl⟩:=hg;obtain⟨hz,hi,⟨a,c,ho⟩,t1,t2⟩:=st;obtain⟨us,r1,s1⟩:=qF I hq1 t1;obtain⟨vs,r2,s2⟩:=qF I hq2 t2;have l1:=r1.length;have l2:=r2.length;obtain⟨d1,d2,d3,d4,d5,d6,d7,d8,d9,d10⟩:=D;have tr:∀ {q:Mz}{zs:List V}{b:Bool},ck X.K H q zs b->∀ b'∈[z,ti,to,j1,j2],(∃ o ws,s.heap.get? b'=some o/\o.data=.fields ws)->q≠b':=λ{q zs b} hq b' _ ⟨o,ws,e,d⟩ n=>by
   obtain⟨o',its,nn,e',d'⟩:=uR I hq;rw[n,e] at e';cases e';rw[d] at d';cases d'
  have zf:∃ o ws,s.heap.get? z=some o/\o.data=.fields ws:=⟨_,_,hz,rfl⟩
  have tof:∀ {q:Mz}{zs:List V}{b:Bool},ck X.K H q zs b->q≠to:=λ{q zs b} hq n=>by
   have fto:H to=none:=(hf to (by simp)).1;have ft:=(hf to (by simp)).2;cases b with
   |true=>
    obtain⟨its,_,⟨o',nn,e',cc,_,d'⟩,_⟩:=I.list hq;rw[n,ho] at e';cases e';simp at cc
   |false=>
    rcases hq with (hq|⟨o',hq⟩)|⟨o',its,nn,kk,_⟩
    ·rw[n,fto] at hq;cases hq
    ·rw[n,fto] at hq;cases hq
    ·have bb:=I.mod.kin q o' kk;rw[n] at bb;rcases ft.2.2.1 with e|e
     ·exact I.ok.noex to o' bb e
     ·exact absurd (MG (Mr bb) (MQ I.ok.bsz e)) (Nl _)
  have AP:KL z ti to j1 j2 q1 q2:=⟨d1,d2,d3,d4,d5,d6,d7,d8,d9,d10,tr hq1 z (by simp) zf,tof hq1,tr hq1 j2 (by simp) t2.fields,tr hq2 z (by simp) zf,tof hq2,tr hq2 j1 (by simp) t1.fields⟩
  have nfp:∀ b u',H b=some u'->b∉[z,ti,to,j1,j2]:=λb u' e hb=>by rw[(hf b hb).1] at e;cases e
  refine Js (I.ok.hd hc) AP ⟨hz,hi,⟨a,c,ho⟩,s1,s2⟩ (by simp;lia) λg kk=>⟨rfl,?_⟩
  have k2:∀ b o,b∉[z,ti,to,j1,j2]->s.heap.get? b=some o->g.get? b=some o:=λb o hb e=>
   kk b o (λn=>hb (by simp[n])) (λn=>hb (by simp[n])) (λn=>hb (by simp[n])) (λn=>hb (by simp[n])) e
  refine I.step (g':=s.gens) (d':=s.drawn) (t':=s.toks) (ch:=[z,ti,to,j1,j2]) (λb hb=>?_) (λb o _ _ hb e _=>k2 b o hb e) (λb o _ _ hb e _=>⟨o.slots,k2 b o hb e⟩) (λ_ _ _ _ n=>n) (λb o hb e=>⟨o,k2 b o hb e⟩) (λ_ _ e=>e) (λ_ _ _ e=>e)
   (λb ps e=>⟨#[],by rw[e];simp⟩) (λm hm=>?_) (λb u' e=>?_) I.bare
  ·obtain⟨_,g1,_,g3,g4,g5⟩:=hf b hb;exact⟨g3,g1,g4,g5⟩
  ·obtain⟨o,es,ep,ho',r'⟩:=hm;exact⟨o,es,ep,k2 _ o (λn=>(hf _ n).2.1 rfl) ho',r'⟩
  ·refine(I.hok b u' e).stay (λc' v' hc' q=>k2 c' v' ?_ q) (λ_ q=>q) λ_ _ q=>q
   rcases hc' with rfl|hc'
   ·exact nfp _ _ e
   ·exact nfp _ _ hc'
 self:=λ_ _ _ _ _ st h=>wpAny_pyIter_zip st.1 h
theorem Ix:Np "zip"=some (.type "zip"):=by decide +kernel
theorem Fv {a b:Nat}(h:@Ne Nat a b):@Ne Mz a b:=h
def Hd (q:Mz):Bool->Obj
 |true=>{ cls:=.type "list_iterator",data:=.fields #[.ref q,.int 0 0] }
 |false=>{ cls:=.type "tuple_iterator",data:=.fields #[.ref q,.int 0 0] }
def DK (h:Os)(q:Mz)(its:Array Mj):Bool->Prop
 |true=>h.IsList q its
 |false=>h.IsTuple q its
abbrev zA (h:Os)(q1:Mz)(b1:Bool):Os:=h.push (Hd q1 b1)
abbrev zB (h:Os)(q1 q2:Mz)(b1 b2:Bool):Os:=(zA h q1 b1).push (Hd q2 b2)
abbrev zC (h:Os)(q1 q2:Mz)(b1 b2:Bool):Os:=(zB h q1 q2 b1 b2).push { cls:=.type "tuple",data:=.seq #[.ref h.objs.size,.ref (zA h q1 b1).objs.size] }
abbrev zD (h:Os)(q1 q2:Mz)(b1 b2:Bool):Os:=(zC h q1 q2 b1 b2).push { cls:=.type "tuple",data:=.seq #[.none,.none] }
abbrev zE (h:Os)(q1 q2:Mz)(b1 b2:Bool):Os:=(zD h q1 q2 b1 b2).push { cls:=.type "zip",data:=.fields #[.none,.bool false,.bool false,.ref (zB h q1 q2 b1 b2).objs.size,.ref (zC h q1 q2 b1 b2).objs.size] }
theorem JF (q1 q2:Mz) (xs ys:Array Mj) (b1 b2:Bool):Meets (Pg.«zip.__new__» ⟨[.type "zip",.ref q1,.ref q2],[]⟩)
  (λ_ R s=>DK s.heap q1 xs b1/\DK s.heap q2 ys b2/\R (.ok (.ret (.ref (zD s.heap q1 q2 b1 b2).objs.size))) { s with heap:=zE s.heap q1 q2 b1 b2 }):=
 .of_wp λprog w A R s h=>by
  obtain⟨hp,g,d,tk,os⟩:=s;obtain⟨h1,h2,h⟩:=h;have hsub:=sub_zip;cases b1<;>cases b2
  ·have k1:Tr (Qw ⟨hp,g,d,tk,os⟩) q1 xs:=h1;have k2:Tr (Qw ⟨hp.push { cls:=.type "tuple_iterator",data:=.fields #[.ref q1,.int 0 0] },g,d,tk,os⟩) q2 ys:=U2 h2 _
   wp_walk using P1 k1,P1 k2
   exact⟨_,rfl,h⟩
  ·have k1:Tr (Qw ⟨hp,g,d,tk,os⟩) q1 xs:=h1;have k2:Uw (Qw ⟨hp.push { cls:=.type "tuple_iterator",data:=.fields #[.ref q1,.int 0 0] },g,d,tk,os⟩) q2 ys:=Vr h2 _
   wp_walk using P1 k1,OS k2
   exact⟨_,rfl,h⟩
  ·have k1:Uw (Qw ⟨hp,g,d,tk,os⟩) q1 xs:=h1;have k2:Tr (Qw ⟨hp.push { cls:=.type "list_iterator",data:=.fields #[.ref q1,.int 0 0] },g,d,tk,os⟩) q2 ys:=U2 h2 _
   wp_walk using OS k1,P1 k2
   exact⟨_,rfl,h⟩
  ·have k1:Uw (Qw ⟨hp,g,d,tk,os⟩) q1 xs:=h1;have k2:Uw (Qw ⟨hp.push { cls:=.type "list_iterator",data:=.fields #[.ref q1,.int 0 0] },g,d,tk,os⟩) q2 ys:=Vr h2 _
   wp_walk using OS k1,OS k2
   exact⟨_,rfl,h⟩
section
variable {prog:MS}{w:No}{A:ND}{E:Mj->Mp->Prop}{s:Mp}
theorem JL (h1:DK s.heap q1 xs b1) (h2:DK s.heap q2 ys b2)
  (fin:∀ g,VJ g (s.heap.objs.size+4) (s.heap.objs.size+2) (s.heap.objs.size+3) .none->Tc g (s.heap.objs.size+2) (.ref s.heap.objs.size) (.ref (s.heap.objs.size+1)) ->
   Tc g (s.heap.objs.size+3) .none .none->g.get? s.heap.objs.size=some (Hd q1 b1)->g.get? (s.heap.objs.size+1)=some (Hd q2 b2)->(∀ c o,s.heap.get? c=some o->g.get? c=some o)->Q (.ref (s.heap.objs.size+4)) { s with heap:=g }) :
  MB (MW prog w) A (call (.type "zip") [.ref q1,.ref q2]) Q E s:=by
 refine callType_new F.called_zip (by decide) (F.typeCall_zip_2 _ _) (F.newCall_zip_2 _ _) (λobj=>F.args_object_init_3 obj _ _) F.entry_zip_new (JF q1 q2 xs ys b1 b2) ⟨h1,h2,?_⟩;have n1:(zA s.heap q1 b1).objs.size=s.heap.objs.size+1:=Nw ..;have n2:(zB s.heap q1 q2 b1 b2).objs.size=s.heap.objs.size+2:=by rw[Nw,n1]
 have n3:(zC s.heap q1 q2 b1 b2).objs.size=s.heap.objs.size+3:=by rw[Nw,n2]
 have n4:(zD s.heap q1 q2 b1 b2).objs.size=s.heap.objs.size+4:=by rw[Nw,n3]
 have fr:∀ b q,(Hd q b).isFreed=false:=λb q=>by cases b<;>rfl
 have m5:(zE s.heap q1 q2 b1 b2).get? (zD s.heap q1 q2 b1 b2).objs.size=some _:=Mn _ rfl;have m4:(zE s.heap q1 q2 b1 b2).get? (zC s.heap q1 q2 b1 b2).objs.size=some _:=Mg _ (Mn _ rfl);have m3:(zE s.heap q1 q2 b1 b2).get? (zB s.heap q1 q2 b1 b2).objs.size=some _:=Mg _ (Mg _ (Mn _ rfl));have m2:(zE s.heap q1 q2 b1 b2).get? (zA s.heap q1 b1).objs.size=some (Hd q2 b2):=Mg _ (Mg _ (Mg _ (Mn _ (fr _ _))));have m1:(zE s.heap q1 q2 b1 b2).get? s.heap.objs.size=some (Hd q1 b1):=Mg _ (Mg _ (Mg _ (Mg _ (Mn _ (fr _ _)))));show _/\_;rw[n2,n3,n4] at m5;rw[n1,n2] at m3;rw[n3] at m4;rw[n1] at m2;rw[n4];exact⟨⟨_,m5,rfl⟩,fin _ m5 m3 m4 m1 m2 λc o x=>Mg _ (Mg _ (Mg _ (Mg _ (Mg _ x))))⟩
end
section
variable {X:Cx}{tg:OH}
theorem vW (I:aG X pins σ H s):∀ {b:Bool},ck X.K H q xs b->∃ its:List Mj,aM xs its/\DK s.heap q its.toArray b
 |true,h=>by
  obtain⟨its,rv,p,_⟩:=I.list h;exact⟨its,rv,p.isList⟩
 |false,h=>by
  obtain⟨its,rv,p,_⟩:=I.tuple h;exact⟨its,rv,p⟩
def JA (K:HD)(ta:TA):TI:=λσ H R=>ta σ H λvs H1=>∃ q1 q2 b1 b2,vs=[.ref q1,.ref q2]/\(∃ xs,ck K H1 q1 xs b1)/\(∃ ys,ck K H1 q2 ys b2)/\R (Ji K b1 b2 q1 q2) H1
theorem Ik {tk:Nat} (hg:Gl X "zip") (hm:X.mg "zip"=none) (ha:PA X [a,b] ta) (hs:MU [a,b] X.env=[(false,Qh a X.env),(false,Qh b X.env)]:=by rfl) (hs2:MU [b] X.env=[(false,Qh b X.env)]:=by rfl) :
  PI X (.Tuple elts tk tpos) (.Call (.Name "zip" p) [a,b] [] pos) (JA X.K ta):=by
 intro pins s σ H R I h;refine Call_ (jY I hg hm Ix (Oi (bY (ha pos pins s σ H _ I h) λus s1 ⟨vs,H1,I1,r1,q1⟩=>?_) (by rw[hs,hs2]) (by rw[hs2];rfl)));obtain⟨qa,qb,b1,b2,rfl,⟨xs,hx⟩,⟨ys,hy⟩,q⟩:=q1;obtain⟨u,v,rfl,ru,rv⟩:=nQ r1;cases ru;cases rv;obtain⟨its,_,sa⟩:=vW I1 hx;obtain⟨jts,_,sb⟩:=vW I1 hy;refine JL sa sb λg z5 z3 z4 z1 z2 kk=>?_
 refine wpAny_pyIter_zip z5 ?_;have io:∀ {j q:Mz}{b:Bool},g.get? j=some (Hd q b)->CP g j q 0 b:=λ{j q b} e=>by cases b<;>exact⟨_,e,rfl,rfl⟩
 refine⟨s1.heap.objs.size+4,[s1.heap.objs.size+4,s1.heap.objs.size+2,s1.heap.objs.size+3,s1.heap.objs.size,s1.heap.objs.size+1],_,_,H1,rfl,I1.kept (t':=s1.toks) kk,
  ED (z:=s1.heap.objs.size+4) (ti:=s1.heap.objs.size+2) (to:=s1.heap.objs.size+3) (j1:=s1.heap.objs.size) (j2:=s1.heap.objs.size+1) ⟨Fv (by lia),Fv (by lia),Fv (by lia),Fv (by lia),Fv (by lia),Fv (by lia),Fv (by lia),Fv (by lia),Fv (by lia),Fv (by lia)⟩,⟨z5,z3,⟨_,_,z4⟩,io z1,io z2⟩,λb hb=>?_,q⟩
 have le:s1.heap.objs.size<=b:=by
  simp only[Mx,MM,Od] at hb;rcases hb with e|e|e|e|e<;>(rw[e];lia)
 exact I1.fpOk le (I1.hok.fresh le)
def uj (K:HD)(a:Mz):Bool->It
 |true=>Ky K a
 |false=>Kp K a
inductive LV (K:HD)(x:V)(H:Hp)(R:It->Hp->Prop):Prop
 |mk (a:Mz) (b:Bool) (_:x=.ref a) (_:∃ xs,ck K H a xs b) (_:R (uj K a b) H)
def IJ (K:HD)(tl:TE):TI:=λσ H R=>tl σ H λx H1=>LV K x H1 R
theorem IC (hl:PE X l tl):PI X tg l (IJ X.K tl):=by
 intro pins s σ H R I h;refine bY (hl pins s σ H _ I h) λv s1 ⟨x,H1,I1,r1,q1⟩=>?_
 obtain⟨a,b,e,⟨xs,hq⟩,q⟩:=q1;subst e;cases r1;obtain⟨its,rv,sr⟩:=vW I1 hq;have fp:∀ c∈[s1.heap.objs.size],oV X pins H1 c:=λc hc=>by
  cases Ml.mp hc;exact I1.fpOk (Mm _) (I1.hok.fresh (Mm _))
 cases b with
 |true=>exact OS sr ⟨s1.heap.objs.size,[s1.heap.objs.size],_,_,H1,rfl,I1.kept (t':=s1.toks) λb o e=>Mg _ e,BH a _,⟨_,Mn _ rfl,rfl,rfl⟩,fp,q⟩
 |false=>exact P1 sr ⟨s1.heap.objs.size,[s1.heap.objs.size],_,_,H1,rfl,I1.kept (t':=s1.toks) λb o e=>Mg _ e,zM a _,⟨_,Mn _ rfl,rfl,rfl⟩,fp,q⟩
end
theorem vg (K:HD)(a:String):∀ bs:List String,O8 K (.type a) (bs.map Ox)=tV a bs
 |[]=>rfl
 |b::r=>by
  show(match O9 K (.type a) (.type b) with|some true=>some true|some false=>O8 K (.type a) (r.map Ox)|none=>none)=_;rw[yZ,vg K a r];rfl
section
variable {X:Cx}
def G4 (K:HD):List V->Hp->VK->Prop:=λxs H Q=>∃ x T p S1 S2 b,xs=[x,.ref p]/\Ty K H x T/\H p=some (.tup [.ty S1,.ty S2])/\tV T [S1,S2]=some b/\Q (.bl b) H
theorem Go (I:aG X pins σ H s) (rx:bv x u) (ty:mQ X.K H x t) {nn:Nat} (ht:s.heap.get? tp=some ⟨.type "tuple",dd,.seq its.toArray nn,sl⟩) (e':O8 X.K t its=some b) (h:∀ tk,Q (.bool b) { s with toks:=tk }) :
  MB (MW X.prog X.w) A (call (.builtin "isinstance") [u,.ref tp]) Q E s:=by
 obtain⟨Z,a,b,c⟩:=DC I rx ty;exact PySem.W.kia_tup a I.kIn b ht e' c h
theorem B4:dg X (.builtin "isinstance") (G4 X.K):=by
 intro pins s σ H xs us Q I r h;obtain⟨x,T,p,S1,S2,b,rfl,ty,hp,e,q⟩:=h;obtain⟨u,v,rfl,rx,rv⟩:=nQ r;cases(show v=MP p from rv);obtain⟨_,its,rr,⟨cl,dd,dt,sl⟩,h1,h2,n,h3⟩:=I.hok p _ hp;obtain⟨u1,u2,rfl,w1,w2⟩:=nQ rr;cases(show u1=Ox S1 from w1);cases(show u2=Ox S2 from w2);simp only at h2 h3;subst h2 h3;exact Go I rx ty h1 ((vg X.K T [S1,S2]).trans e) λtk=>⟨.bl b,H,I.tok tk,rfl,q⟩
end
theorem BE (bs:List Bool):(On bs.length).all (λi=>(bs[i]?).getD true)=bs.all id:=by
 rw[Bool.eq_iff_iff,N5,N5];constructor
 ·intro h b hb;obtain⟨i,hi,rfl⟩:=NO hb;have:=h i (OQ.mpr hi)
  simpa [hi] using this
 ·intro h i hi;have hi:=OQ.mp hi
  simpa [hi] using h bs[i] (OM hi)
section
variable {X:Cx}
theorem DZ (hc:X.calm=true):dg X (.builtin "all") (λxs H Q=>∃ (p:Mz) (bs:List Bool),xs=[.ref p]/\bH X.K H p (bs.map V.bl)/\Q (.bl (bs.all id)) H):=by
 intro pins s σ H xs us Q I r h;obtain⟨p,bs,rfl,hp,q⟩:=h;obtain⟨u,rfl,ru⟩:=ki r;cases ru;obtain⟨its,rv,pl,hz⟩:=I.list hp;have hl:=rv.length;rw[Mq] at hl;have lt:p<s.heap.objs.size:=by
  obtain⟨o,e,_⟩:=pl.isList;exact Mr e
 refine call_all_walk (OS pl.isList ?_);refine⟨s.heap.objs.size,_,_,_,_,_,λi=>(bs[i]?).getD true,rfl,Walks.list (A:=X.A.in1) (show X.A.in1.handled=none from I.ok.hd hc) _ p (MR lt) its.toArray,⟨⟨_,Mn _ rfl,rfl,rfl⟩,pl.isList.push _⟩,λi v s' Q' E' hv hq=>?_,λh' tk kk=>?_⟩
 ·have hi:i<bs.length:=by
   have:=(Array.getElem?_eq_some_iff.mp hv).1;rw[MH] at this;lia
  obtain⟨w,ew,rw'⟩:=rv.get (i:=i) (x:=.bl bs[i]) (by simp[hi]);have:its[i]?=some v:=by simpa using hv
  rw[ew] at this;have e2:v=RH bs[i]:=(Mi this).symm.trans rw';rw[e2];refine Oz ?_;have e:(bs[i]?).getD true=bs[i]:=by simp[hi]
  exact e▸hq
 ·have I1:aG X pins σ H { s with heap:=h',toks:=tk }:=I.kept λb o e=>kk b o (by simp;exact MR (Mr e)) (Mg _ e)
  refine⟨.bl _,H,I1,?_,q⟩;show RH _=RH _;rw[<- BE,MH,<- hl]
end
section
variable {X:Cx}{pos:Pos}
def Ju (K:HD)(n:Nat)(t:IV):TG:=λv σ H Q=>∃ a xs,v=.ref a/\(bH K H a xs\/dF K H a xs)/\xs.length=n/\t xs σ H Q
theorem IM {k:Nat}{n:Nat} (hc:X.calm=true) (h:Lv X es t)
  (hn:(O1 es X.env).length=n:=by rfl)(hst:(O1 es X.env).findIdx? (·.1)=none:=by rfl):PG X (.Tuple es k pos) (Ju X.K n t):=by
 intro pins s σ H v u Q I r hw;obtain⟨a,xs,e1,hq,hl,hw⟩:=hw;subst e1;cases r;rcases hq with hq|hq
 ·obtain⟨its,rv,pl,hz⟩:=I.list hq;rw[assign_Tuple];refine KE (O5 ?_);unfold unpack;have hs:(O1 es X.env).length=its.toArray.size:=by rw[hn,<- hl,rv.length,MH]
  rw[hs,hst];refine KE (NN (PySem.W.kun_itemsOf (I.ok.hd hc) pl.isList λh' hx=>?_));have I1:aG X pins σ H { s with heap:=h' }:=I.kept (t':=s.toks) λb o e=>hx b o (MR (Mr e)) e
  exact h pins _ σ H xs _ Q I1 (by simpa using rv) hw
 ·obtain⟨its,rv,ht,hz⟩:=I.tuple hq;refine assign_Tuple_tuple (I.ok.hd hc) ht (by simp[hn,<- hl,rv.length]) hst λh' hx=>?_
  have I1:aG X pins σ H { s with heap:=h' }:=I.kept (t':=s.toks) λb o e=>hx b o (MR (Mr e)) e
  exact h pins _ σ H xs _ Q I1 (by simpa using rv) hw
end
abbrev rD (q:Rat):M4:=qA q.num (q.den:Int)
theorem iA (q:Rat):q=(q.num:Rat)/((q.den:Int):Rat):=by rw[<- Rat.divInt_eq_div,Rat.num_divInt_den]
theorem A1 {t b:Int}(hb:b≠0):Co t b ((t:Rat)/(b:Rat)).num (((t:Rat)/(b:Rat)).den:Int):=by
 have hq:=iA ((t:Rat)/(b:Rat));have hd:0<((t:Rat)/(b:Rat)).den:=((t:Rat)/(b:Rat)).den_pos;have hr:=((t:Rat)/(b:Rat)).reduced;generalize hz:(t:Rat)/(b:Rat)=q at *;refine⟨by lia,hr,?_⟩;have hb':(b:Rat)≠0:=by
  intro z;exact hb (by exact_mod_cast z)
 have hd':((q.den:Int):Rat)≠0:=by
  intro z;have:q.den=0:=by exact_mod_cast z
  lia
 have:(q.num:Rat)*(b:Rat)=(t:Rat)*((q.den:Int):Rat):=by
  generalize (q.num:Rat)=x at *;generalize ((q.den:Int):Rat)=y at *;generalize (b:Rat)=b' at *;generalize (t:Rat)=t' at *;have e:t'/b'=x/y:=hz.trans hq;grind
 exact_mod_cast this
theorem FU {t b n d:Int}(hb:b≠0)(h:Co t b n d):n=((t:Rat)/(b:Rat)).num/\d=(((t:Rat)/(b:Rat)).den:Int):=mO hb h (A1 hb)
abbrev Bq (k:Nat)(q:Rat):Prop:=Ok k q.num (q.den:Int)
theorem gN {k:Nat}{t b:Int}(hb:b≠0)(ht:Sm k t)(sb:Sm k b):Bq k ((t:Rat)/(b:Rat)):=(A1 hb).ok hb ht sb
theorem jt (q:Rat):((q.den:Int):Rat)≠0:=by
 intro z;have:q.den=0:=by exact_mod_cast z
 have:=q.den_pos;lia
theorem AM (p q:Rat):p+q=((p.num*(q.den:Int)+q.num*(p.den:Int):Int):Rat)/(((p.den:Int)*(q.den:Int):Int):Rat):=by
 have h1:=jt p;have h2:=jt q;have e1:=iA p;have e2:=iA q;rw[Pq,MY,MY,MY];grind
theorem AL (p q:Rat):p*q=((p.num*q.num:Int):Rat)/(((p.den:Int)*(q.den:Int):Int):Rat):=by
 have h1:=jt p;have h2:=jt q;have e1:=iA p;have e2:=iA q;rw[MY,MY];grind
theorem uO (p q:Rat):(p.den:Int)*(q.den:Int)≠0:=by
 have:=p.den_pos;have:=q.den_pos;exact Nz (by lia) (by lia)
theorem Bq.add {j k:Nat}{p q:Rat}(hp:Bq j p)(hq:Bq k q):Bq (j+k+1) (p+q):=by
 rw[Bq,AM];refine gN (uO p q) (Sm.add (hp.sn.mul hq.sd) ((hq.sn.mul hp.sd).mono (by lia))) ((hp.sd.mul hq.sd).mono (by lia))
theorem Bq.mul {j k:Nat}{p q:Rat}(hp:Bq j p)(hq:Bq k q):Bq (j+k) (p*q):=by
 rw[Bq,AL];exact gN (uO p q) (hp.sn.mul hq.sn) (hp.sd.mul hq.sd)
theorem LH:Bq 1 0:=⟨by decide,by decide,by unfold Sm;decide,by unfold Sm;decide⟩
def j0 (K:HD)(H:Hp)(q:Rat)(Q:VK):Prop:=∀ v H',af H H'->ax K H' (rD q) v->Q v H'
theorem j0.sh {K:HD}{H:Hp}{t b:Int}{Q:VK}(hb:b≠0)(h:j0 K H ((t:Rat)/(b:Rat)) Q):Sh K H t b Q:=λv n d H' s hv lw=>by
 obtain⟨e1,e2⟩:=FU hb lw;subst e1 e2;exact h v H' s hv
theorem j0.add {K:HD}{H:Hp}{p q:Rat}{Q:VK}(h:j0 K H (p+q) Q):Sh K H (p.num*(q.den:Int)+q.num*(p.den:Int)) ((p.den:Int)*(q.den:Int)) Q:=by
 rw[AM] at h;exact j0.sh (uO p q) h
theorem j0.mul {K:HD}{H:Hp}{p q:Rat}{Q:VK}(h:j0 K H (p*q) Q):Sh K H (p.num*q.num) ((p.den:Int)*(q.den:Int)) Q:=by
 rw[AL] at h;exact j0.sh (uO p q) h
theorem IW (p q:Rat):Q8 (rD p) (rD q)=decide (p=q):=by
 rw[DU]
 by_cases h:p=q
 ·subst h;simp
 ·rw[Na h]
  by_cases h1:p.num=q.num
  ·by_cases h2:(p.den:Int)=(q.den:Int)
   ·exact absurd (Rat.ext h1 (by lia)) h
   ·rw[Na h2,Ug]
  ·rw[Na h1,Qi]
theorem cB {i:Int}(hg:Gl X x)(hm:∃ t,X.mg x=some (.int i t))(hd:(x==("__debug__":Str))=false:=by decide):WE X (.Name x pos) (tC (.int i)):=by
 refine⟨?_⟩;obtain⟨t,e⟩:=hm;exact F1 hg e ⟨t,rfl⟩ hd
theorem az.get {K:HD}{H:Hp}:∀ {ds:List M4}{xs:List V}{i:Nat}{x:V},az K H ds xs->xs[i]?=some x->∃ d,ds[i]?=some d/\ax K H d x
 |_,_,_,_,.nil,e=>by simp at e
 |_,_,0,_,.cons h _,e=>by simp at e;subst e;exact⟨_,rfl,h⟩
 |_,_,i+1,x,.cons _ q,e=>by
  obtain⟨d,h1,h2⟩:=az.get (i:=i) (x:=x) q (by simpa using e);exact⟨d,by simpa using h1,h2⟩
theorem az.snoc {K:HD}{H:Hp}{d:M4}{x:V}:∀ {ds:List M4}{xs:List V},az K H ds xs->ax K H d x->az K H (ds++[d]) (xs++[x])
 |_,_,.nil,h=>.cons h .nil
 |_,_,.cons a q,h=>.cons a (az.snoc q h)
theorem ck.same {K:HD}{H H':Hp}{a:Mz}{xs:List V}(e:af H H'):∀ {b:Bool},ck K H a xs b->ck K H' a xs b
 |true,h=>e.seq h
 |false,h=>yS e h
theorem di {n:Nat}(h:n<=1000):n<=MI:=Op (bD h)
theorem cw {α:Type}{l:List α}{i:Nat}{x:α}(h:l[i]?=some x):l.take (i+1)=l.take i++[x]:=by
 rw[List.take_succ,h];rfl
section
variable {K:HD}{g:TG}{tt:TT}{te:TE}{σ0:L2.St}{Fin:List V->Hp->Prop}{H1:Hp}
def kH (g:TG)(tt:TT)(te:TE)(σ0:L2.St)(x:V)(H:Hp)(post:V->Hp->Prop):Prop:=∀ R:VK,(∀ y H',post y H'->R y H')->∀ S:Hp->Prop,g x σ0 H λσ' H4=>tt σ' H4 λb H5=>if b=true then te σ' H5 R else S H5
theorem kX {a:Mz}{b:Bool}{xs:List V}{ds:List M4}{f:M4->M4} (hsrc:ck K H1 a xs b) (hds:az K H1 ds xs) (hl:ds.length <= 1000)
  (he:∀ (i:Nat) (d:M4) (x:V) (H:Hp),ds[i]?=some d->af H1 H->ax K H d x->kH g tt te σ0 x H λy H'=>af H H'/\ax K H' (f d) y)
  (hd:∀ ys H,af H1 H->az K H (ds.map f) ys->Fin ys H):gR (uj K a b) g tt te σ0 Fin H1:=by
 have hlen:=hds.length;refine⟨λi m ys H=>m=xs.length-i/\i<=xs.length/\af H1 H/\az K H ((ds.take i).map f) ys,⟨xs.length,by lia,Nq _,af.refl _,.nil⟩,?_⟩;rintro i m ys H ⟨rfl,hi,s,hys⟩;have hyl:=hys.length;rw[Mq,M3] at hyl
 by_cases hlt:i<xs.length
 ·have go:(uj K a b).go i H:=by
   have q:=ck.same s hsrc;cases b with
   |true=>exact⟨xs,xs[i],q,by simp[hlt]⟩
   |false=>exact⟨xs,xs[i],q,by simp[hlt]⟩
  refine .inr ⟨go,bD (by lia),λx H3 y3=>?_⟩;have e3:H3=H/\xs[i]?=some x:=by
   have q:=ck.same s hsrc;cases b with
   |true=>exact⟨y3.1,y3.2 xs q⟩
   |false=>exact⟨y3.1,y3.2 xs q⟩
  obtain⟨rfl,hx⟩:=e3;obtain⟨d,hdd,hdx⟩:=hds.get hx;refine he i d x _ hdd s (ax.same s hdx) _ (λy H' ⟨s',hy⟩=>⟨xs.length-(i+1),by lia,rfl,hlt,s.trans s',?_⟩) λH5=>∃ m',m'<xs.length-i/\(m'=xs.length-(i+1)/\i+1<=xs.length/\af H1 H5/\az K H5 ((ds.take (i+1)).map f) ys)
  rw[cw hdd,Og];exact(az.same s' hys).snoc hy
 ·have e:i=xs.length:=by lia
  subst e;have stop:(uj K a b).stop xs.length H:=by
   have q:=ck.same s hsrc;cases b with
   |true=>exact⟨xs,q,Mm _⟩
   |false=>exact⟨xs,q,Mm _⟩
  rw[Nf (by lia)] at hys;exact .inl ⟨stop,di (by lia),hd ys H s hys⟩
theorem mJ {lo:Int}{n:Nat} (Pv:Nat->List V->Hp->Prop) (h0:Pv 0 [] H1) (hl:n <= 1000) (hy:∀ i ys H,i <= n->Pv i ys H->ys.length <= i)
  (he:∀ i ys H,i<n->Pv i ys H->kH g tt te σ0 (.int (lo+i)) H λy H'=>Pv (i+1) (ys++[y]) H')(hd:∀ ys H,Pv n ys H->Fin ys H):gR (Dj lo n) g tt te σ0 Fin H1:=by
 refine⟨λi m ys H=>m=n-i/\i<=n/\Pv i ys H,⟨n,by lia,Nq _,h0⟩,?_⟩;rintro i m ys H ⟨rfl,hi,p⟩;have hyl:=hy i ys H hi p
 by_cases hlt:i<n
 ·refine .inr ⟨hlt,bD (by lia),λx H3 y3=>?_⟩;obtain⟨rfl,rfl⟩:=y3;exact he i ys _ hlt p _ (λy H' p'=>⟨n-(i+1),by lia,rfl,hlt,p'⟩) λH5=>∃ m',m'<n-i/\(m'=n-(i+1)/\i+1<=n/\Pv (i+1) ys H5)
 ·have e:i=n:=by lia
  subst e;exact .inl ⟨Mm _,di (by lia),hd ys H p⟩
theorem fG:∀ {bs:List Bool}{ys:List V},az K H (bs.map Qv) ys->ys=bs.map V.bl
 |[],_,.nil=>rfl
 |b::bs,_,.cons (.bl _) q=>by rw[fG q];rfl
end
def xY (b:Bool)(ds:List M4):M4:=if b=true then .list ds else .tuple ds
structure R3 where
 a:Int
 b:Int
 c:Int
def R3.ds (r:R3):List M4:=[.int r.a,.int r.b,.int r.c]
def R3.vs (r:R3):List V:=[.int r.a,.int r.b,.int r.c]
def dk (k:Bool)(r:R3):M4:=xY k r.ds
structure R3.In (r:R3)(m:Int):Prop where
 a1:-m<=r.a
 a2:r.a<=m
 b1:-m<=r.b
 b2:r.b<=m
 c1:-m<=r.c
 c2:r.c<=m
structure S9 where
 k:Bool
 k1:Bool
 k2:Bool
 k3:Bool
 x:R3
 y:R3
 z:R3
def S9.rows (s:S9):List M4:=[dk s.k1 s.x,dk s.k2 s.y,dk s.k3 s.z]
def S9.d (s:S9):M4:=xY s.k s.rows
structure S9.In (s:S9):Prop where
 x:s.x.In 4000
 y:s.y.In 4000
 z:s.z.In 4000
theorem aN {K:HD}{H:Hp}{b:Bool}{ds:List M4}{v:V}(h:ax K H (xY b ds) v):∃ a xs,v=.ref a/\ck K H a xs b/\az K H ds xs:=by
 cases b with
 |true=>
  cases h with
  |lst h q=>exact⟨_,_,rfl,.inl h,q⟩
 |false=>
  cases h with
  |tup h q=>exact⟨_,_,rfl,dF.of h,q⟩
theorem h_ {K:HD}{H:Hp}{r:R3}{xs:List V}(h:az K H r.ds xs):xs=r.vs:=by
 cases h with
 |cons h1 h=>
  cases h1;cases h with
  |cons h2 h=>
   cases h2;cases h with
   |cons h3 h=>
    cases h3;cases h;rfl
theorem jZ {K:HD}{H:Hp}{b:Bool}{r:R3}{v:V}(h:ax K H (dk b r) v):∃ a,v=.ref a/\ck K H a r.vs b:=by
 obtain⟨a,xs,rfl,hq,hd⟩:=aN h;cases h_ hd;exact⟨a,rfl,hq⟩
theorem jJ {K:HD}{H:Hp}{d1 d2 d3:M4}{xs:List V}(h:az K H [d1,d2,d3] xs):∃ x y z,xs=[x,y,z]/\ax K H d1 x/\ax K H d2 y/\ax K H d3 z:=by
 cases h with
 |cons h1 h=>
  cases h with
  |cons h2 h=>
   cases h with
   |cons h3 h=>
    cases h;exact⟨_,_,_,rfl,h1,h2,h3⟩
theorem pN {K:HD}{H:Hp}{Q:VK}{a:Mz}{xs:List V}{b:Bool}{i:Nat}{v:V}(h:ck K H a xs b)(e:xs[i]?=some v)(q:Q v H):Gh K (.ref a) (.int (i:Int)) H Q:=by
 cases b with
 |true=>exact .inl ⟨a,xs,_,v,rfl,rfl,h,nK e,q⟩
 |false=>exact .inr (.inl ⟨a,xs,_,v,rfl,rfl,h,nK e,q⟩)
theorem o7 {K:HD}{H:Hp}{a:Mz}{xs:List V}{b:Bool}(h:ck K H a xs b):bH K H a xs\/dF K H a xs:=by
 cases b with
 |true=>exact .inl h
 |false=>exact .inr h
theorem Fm {K:HD}{H:Hp}{b:Bool}{ds:List M4}{v:V}(h:ax K H (xY b ds) v):∃ T,Ty K H v T/\tV T ["list","tuple"]=some true:=by
 cases b with
 |true=>exact⟨"list",h.ty,by decide +kernel⟩
 |false=>exact⟨"tuple",h.ty,by decide +kernel⟩
def JZ (p q r:Rat):M4:=.tuple [rD p,rD q,rD r]
theorem HQ {x:Int}(h1:-4000<=x)(h2:x<=4000):Sm 13 x:=by unfold Sm;lia
def S9.det (s:S9):Int:=s.x.a*(s.y.b*s.z.c-s.y.c*s.z.b)-s.x.b*(s.y.a*s.z.c-s.y.c*s.z.a)+s.x.c*(s.y.a*s.z.b-s.y.b*s.z.a)
def cut (T:List Mz)(H:Hp):Hp:=λb=>if b∈T then none else H b
theorem fK:af (cut T H) H:=λb o e=>by
 unfold cut at e
 split at e
 ·cases e
 ·exact e
theorem eJ (h:b∉T):cut T H b=H b:=MT h
theorem Mv.cut (h:Mv T H H'):af (cut T H) (cut T H'):=λb o e=>by
 unfold TR.cut at e ⊢
 split at e
 ·cases e
 ·rename_i n
  rw[MT n];exact h b o e n
theorem af.cut (h:af H H'):af (TR.cut T H) (TR.cut T H'):=(Mv.of h).cut
theorem bQ.not (h:bQ H t r)(hp:H p=none):p∉[t,r]:=λm=>by
 obtain⟨xs,e⟩:=h.lists p m;rw[hp] at e;cases e
theorem ax.uncut {K:HD}{T:List Mz}{H:Hp}{d:M4}{v:V}(h:ax K (cut T H) d v):ax K H d v:=ax.same fK h
mutual
theorem ax.cutT {K:HD}{T:List Mz}{H:Hp}(l:bR H T):∀ {d:M4}{v:V},uE d=true->ax K H d v->ax K (cut T H) d v
 |_,_,_,.non=>.non
 |_,_,_,.bl b=>.bl b
 |_,_,_,.int i=>.int i
 |_,_,_,.str x=>.str x
 |_,_,t,.lst _ _=>by simp[uE] at t
 |_,_,t,.tup h q=>.tup (by rw[eJ (l.not h λ_ z=>nomatch z)];exact h) (az.cutT l (by simpa [uE] using t) q)
 |_,_,t,.dct _=>by simp[uE] at t
theorem az.cutT {K:HD}{T:List Mz}{H:Hp}(l:bR H T):∀ {ds:List M4}{vs:List V},kh ds=true->az K H ds vs->az K (cut T H) ds vs
 |_,_,_,.nil=>.nil
 |_,_,t,.cons h q=>by
  simp only[kh,Nh] at t;exact .cons (ax.cutT l t.1 h) (az.cutT l t.2 q)
end
theorem gu {K:HD}{t r D:Mz}{H:Hp}{ds:List M4}{ys:List V}(tw:bQ H t r)(hD:H D=none)(h:az K (cut [t,r] H) ds ys):ax K (cut [t,r] (upd H D (.lst ys))) (.list ds) (.ref D):=by
 refine .lst (.inl ?_) (az.same (af.cut (af.new hD)) h);rw[eJ (tw.not hD)];exact ae
theorem ax.listN {K:HD}{D:Mz}{H:Hp}{ds:List M4}{ys:List V}(hD:H D=none)(h:az K H ds ys):ax K (upd H D (.lst ys)) (.list ds) (.ref D):=.lst (.inl ae) (az.same (af.new hD) h)
theorem ax.tupN {K:HD}{D:Mz}{H:Hp}{ds:List M4}{ys:List V}(hD:H D=none)(h:az K H ds ys):ax K (upd H D (.tup ys)) (.tuple ds) (.ref D):=.tup ae (az.same (af.new hD) h)
abbrev Ho (J:It)(g:TG)(tb:TS)(D:uD)(σ:L2.St)(H:Hp):Prop:=∃ W:Nat->Nat->L2.St->Hp->Prop,(∃ m,W 0 m σ H)/\∀ i m σ H,W i m σ H ->
 (J.stop i H/\D.nx σ H)\/(J.go i H/\∃ N:L2.St->Hp->Prop,(∀ σ' H',N σ' H'->∃ m',m'<m/\W (i+1) m' σ' H')/\∀ x H',J.yld i H x H'->g x σ H' λσ2 H2=>tb { D with nx:=N,ct:=N,bk:=D.nx } σ2 H2)
theorem ny {K:HD}{a:Mz}{b:Bool}{xs:List V}{g:TG}{tb:TS}{D:uD}{σ:L2.St}{H:Hp} (Pv:Nat->L2.St->Hp->Prop) (h0:Pv 0 σ H) (hl:∀ i σ H,i <= xs.length->Pv i σ H->ck K H a xs b)
  (hs:∀ i x σ H,xs[i]?=some x->Pv i σ H->g x σ H λσ2 H2=>tb { D with nx:=Pv (i+1),ct:=Pv (i+1),bk:=D.nx } σ2 H2)(hd:∀ σ H,Pv xs.length σ H->D.nx σ H):Ho (uj K a b) g tb D σ H:=by
 cases b with
 |true=>exact CQ Pv h0 hl hs hd
 |false=>exact Gs Pv h0 hl hs hd
theorem Gp {K:HD}{a1 a2:Mz}{b1 b2:Bool}{xs ys:List V}{g:TG}{tb:TS}{D:uD}{σ:L2.St}{H:Hp} (Pv:Nat->L2.St->Hp->Prop) (h0:Pv 0 σ H) (hle:xs.length=ys.length) (hl:∀ i σ H,i <= xs.length->Pv i σ H->ck K H a1 xs b1/\ck K H a2 ys b2)
  (hs:∀ i x y T σ H,xs[i]?=some x->ys[i]?=some y->Pv i σ H->H T=none->g (.ref T) σ (upd H T (.tup [x,y])) λσ2 H2=>tb { D with nx:=Pv (i+1),ct:=Pv (i+1),bk:=D.nx } σ2 H2)(hd:∀ σ H,Pv xs.length σ H->D.nx σ H):Ho (Ji K b1 b2 a1 a2) g tb D σ H:=by
 refine⟨λi m σ H=>m=xs.length-i/\i<=xs.length/\Pv i σ H,⟨xs.length,by simp,Nq _,h0⟩,?_⟩;rintro i m σ H ⟨rfl,hi,p⟩;obtain⟨q1,q2⟩:=hl i σ H hi p
 by_cases hlt:i<xs.length
 ·have hlt2:i<ys.length:=by lia
  refine .inr ⟨⟨xs,ys,xs[i],ys[i],q1,q2,by simp[hlt],by simp[hlt2]⟩,Pv (i+1),λσ' H' p'=>⟨xs.length-(i+1),by lia,rfl,hlt,p'⟩,λv H' y=>?_⟩;obtain⟨x,y,T,k1,k2,kT,rfl,rfl⟩:=y;exact hs i x y T σ _ (k1 xs q1) (k2 ys q2) p kT
 ·have e:i=xs.length:=by lia
  subst e;exact .inl ⟨⟨xs,ys,q1,q2,.inl (Mm _)⟩,hd σ H p⟩
section
variable {K:HD}{g:TG}{tt:TT}{te:TE}{σ0:L2.St}{Fin:List V->Hp->Prop}{H1:Hp}
theorem gq {lo:Int}{n:Nat} (hn:ds.length=n) (hl:n <= 1000)
  (he:∀ (i:Nat) (d:M4) (H:Hp),ds[i]?=some d->af H1 H->kH g tt te σ0 (.int (lo+i)) H λy H'=>af H H'/\ax K H' d y)(hd:∀ ys H,af H1 H->az K H ds ys->Fin ys H):gR (Dj lo n) g tt te σ0 Fin H1:=by
 refine mJ (λi ys H=>af H1 H/\az K H (ds.take i) ys) ⟨af.refl _,.nil⟩ hl (λi ys H hi p=>?_) (λi ys H hi p=>?_) (λys H p=>?_)
 ·rw[<- p.2.length,M3];lia
 ·obtain⟨s,q⟩:=p;have e:ds[i]?=some ds[i]:=by simp[show i<ds.length by lia]
  intro R kk S;refine he i ds[i] H e s R (λy H' ⟨s',hy⟩=>kk _ _ ⟨s.trans s',?_⟩) S;rw[cw e];exact(az.same s' q).snoc hy
 ·obtain⟨s,q⟩:=p;rw[Nf (by lia)] at q;exact hd ys H s q
theorem dO {lo:Int}{t r:Mz}{n:Nat}{Pd:M4->Prop} (tw:bQ H1 t r) (hl:n <= 1000)
  (he:∀ (i:Nat) (H:Hp),i<n->bQ H t r->Mv [t,r] H1 H->kH g tt te σ0 (.int (lo+i)) H λy H'=>bQ H' t r/\Mv [t,r] H H'/\∃ d,Pd d/\ax K (cut [t,r] H') d y)
  (hd:∀ ds ys H,ds.length=n->(∀ d∈ds,Pd d)->bQ H t r->Mv [t,r] H1 H->az K (cut [t,r] H) ds ys->Fin ys H):gR (Dj lo n) g tt te σ0 Fin H1:=by
 refine mJ (λi ys H=>bQ H t r/\Mv [t,r] H1 H/\∃ ds:List M4,ds.length=i/\(∀ d∈ds,Pd d)/\az K (cut [t,r] H) ds ys) ⟨tw,Mv.refl,[],rfl,λ_ h=>(MM h).elim,.nil⟩ hl (λi ys H hi p=>?_) (λi ys H hi p=>?_) (λys H p=>?_)
 ·obtain⟨_,_,ds,e,_,q⟩:=p;rw[<- q.length];lia
 ·obtain⟨tw',mv,ds,e,hP,q⟩:=p;intro R kk S;refine he i H hi tw' mv R (λy H' ⟨tw2,mv2,d,hd,hy⟩=>kk _ _ ⟨tw2,mv.trans mv2,ds++[d],by rw[ML,e];rfl,λd' m=>?_,(az.same mv2.cut q).snoc hy⟩) S;rcases M_.mp m with m|m
  ·exact hP d' m
  ·cases Ml.mp m;exact hd
 ·obtain⟨tw',mv,ds,e,hP,q⟩:=p;exact hd ds ys H e hP tw' mv q
end
structure Q3 where
 a:Rat
 b:Rat
 c:Rat
def Q3.ds (q:Q3):List M4:=[rD q.a,rD q.b,rD q.c]
def Q3.col (q:Q3):M4:=.tuple q.ds
structure Q3.Bd (k:Nat)(q:Q3):Prop where
 a:Bq k q.a
 b:Bq k q.b
 c:Bq k q.c
theorem Q3.Bd.mono {j k:Nat}{q:Q3}(h:q.Bd j)(l:j<=k):q.Bd k:=⟨h.a.mono l,h.b.mono l,h.c.mono l⟩
def oG (p q:Q3):Rat:=0+p.a*q.a+p.b*q.b+p.c*q.c
theorem zN {j k:Nat}(hp:p.Bd j)(hq:q.Bd k):Bq (3*(j+k)+4) (oG p q):=
 Ok.mono (Bq.add (Bq.add (Bq.add LH (Bq.mul hp.a hq.a)) (Bq.mul hp.b hq.b)) (Bq.mul hp.c hq.c)) (by lia)
structure M9 where
 x:Q3
 y:Q3
 z:Q3
def M9.d (m:M9):M4:=.list [.list m.x.ds,.list m.y.ds,.list m.z.ds]
def M9.led (m:M9)(c:Q3):Q3:=⟨oG m.x c,oG m.y c,oG m.z c⟩
structure M9.Bd (k:Nat)(m:M9):Prop where
 x:m.x.Bd k
 y:m.y.Bd k
 z:m.z.Bd k
theorem EY {j k:Nat}{m:M9}{c:Q3}(hm:m.Bd j)(hc:c.Bd k):(m.led c).Bd (3*(j+k)+4):=⟨zN hm.x hc,zN hm.y hc,zN hm.z hc⟩
theorem Q3.ext {p q:Q3}(h1:p.a=q.a)(h2:p.b=q.b)(h3:p.c=q.c):p=q:=by
 cases p;cases q;simp_all
theorem Ba (p:Rat):Q8 (rD p) (rD p)=true:=by rw[IW,Ms rfl]
theorem GB (q:Q3):UN q.ds q.ds=true:=by
 simp only[Q3.ds,UN,Ba];rfl
def R3.q (r:R3):Q3:=⟨(r.a:Rat)/((1000:Int):Rat),(r.b:Rat)/((1000:Int):Rat),(r.c:Rat)/((1000:Int):Rat)⟩
def S9.m (s:S9):M9:=⟨s.x.q,s.y.q,s.z.q⟩
theorem AQ {r:R3}(h:r.In 4000):r.q.Bd 13:=
 have u:Sm 13 (1000:Int):=by unfold Sm;decide
 ⟨gN (by decide) (HQ h.a1 h.a2) u,gN (by decide) (HQ h.b1 h.b2) u,gN (by decide) (HQ h.c1 h.c2) u⟩
theorem G8 {s:S9}(h:s.In):s.m.Bd 13:=⟨AQ h.x,AQ h.y,AQ h.z⟩
def R3.cross (r s:R3):R3:=⟨r.b*s.c-r.c*s.b,r.c*s.a-r.a*s.c,r.a*s.b-r.b*s.a⟩
def R3.dot (r s:R3):Int:=r.a*s.a+r.b*s.b+r.c*s.c
def S9.ca (s:S9):R3:=⟨s.x.a,s.y.a,s.z.a⟩
def S9.cb (s:S9):R3:=⟨s.x.b,s.y.b,s.z.b⟩
def S9.cc (s:S9):R3:=⟨s.x.c,s.y.c,s.z.c⟩
def R3.by (r:R3)(s:S9):Q3:=⟨(r.dot s.ca:Rat)/((1000*1000:Int):Rat),(r.dot s.cb:Rat)/((1000*1000:Int):Rat),(r.dot s.cc:Rat)/((1000*1000:Int):Rat)⟩
section
variable {K:HD}{g:TG}{tt:TT}{te:TE}{σ0:L2.St}{Fin:List V->Hp->Prop}{H1:Hp}
theorem bX (hsrc:ck K H1 a xs b) (hds:az K H1 ds xs) (hle:es.length=ds.length) (hl:ds.length <= 1000)
  (he:∀ (i:Nat) (d e:M4) (x:V) (H:Hp),ds[i]?=some d->es[i]?=some e->af H1 H->ax K H d x->kH g tt te σ0 x H λy H'=>af H H'/\ax K H' e y)
  (hd:∀ ys H,af H1 H->az K H es ys->Fin ys H):gR (uj K a b) g tt te σ0 Fin H1:=by
 have hlen:=hds.length;refine⟨λi m ys H=>m=xs.length-i/\i<=xs.length/\af H1 H/\az K H (es.take i) ys,⟨xs.length,by lia,Nq _,af.refl _,.nil⟩,?_⟩;rintro i m ys H ⟨rfl,hi,s,hys⟩;have hyl:=hys.length;rw[M3] at hyl
 by_cases hlt:i<xs.length
 ·have go:(uj K a b).go i H:=by
   have q:=ck.same s hsrc;cases b with
   |true=>exact⟨xs,xs[i],q,by simp[hlt]⟩
   |false=>exact⟨xs,xs[i],q,by simp[hlt]⟩
  refine .inr ⟨go,bD (by lia),λx H3 y3=>?_⟩;have e3:H3=H/\xs[i]?=some x:=by
   have q:=ck.same s hsrc;cases b with
   |true=>exact⟨y3.1,y3.2 xs q⟩
   |false=>exact⟨y3.1,y3.2 xs q⟩
  obtain⟨rfl,hx⟩:=e3;obtain⟨d,hdd,hdx⟩:=hds.get hx;have hee:es[i]?=some es[i]:=by simp[show i<es.length by lia]
  refine he i d es[i] x _ hdd hee s (ax.same s hdx) _ (λy H' ⟨s',hy⟩=>⟨xs.length-(i+1),by lia,rfl,hlt,s.trans s',?_⟩) λH5=>∃ m',m'<xs.length-i/\(m'=xs.length-(i+1)/\i+1<=xs.length/\af H1 H5/\az K H5 (es.take (i+1)) ys)
  rw[cw hee];exact(az.same s' hys).snoc hy
 ·have e:i=xs.length:=by lia
  subst e;have stop:(uj K a b).stop xs.length H:=by
   have q:=ck.same s hsrc;cases b with
   |true=>exact⟨xs,q,Mm _⟩
   |false=>exact⟨xs,q,Mm _⟩
  rw[Nf (by lia)] at hys;exact .inl ⟨stop,di (by lia),hd ys H s hys⟩
theorem ic (h1:ck K H1 a1 xs b1) (h2:ck K H1 a2 ys b2) (hds:az K H1 ds xs) (hes:az K H1 es ys) (hle:ds.length=es.length) (hlf:fs.length=ds.length) (hl:ds.length <= 1000)
  (he:∀ (i:Nat) (d e f:M4) (x y:V) (T:Mz) (H:Hp),ds[i]?=some d->es[i]?=some e->fs[i]?=some f->af H1 H->ax K H d x->ax K H e y->H T=some (.tup [x,y])->kH g tt te σ0 (.ref T) H λz H'=>af H H'/\ax K H' f z)
  (hd:∀ zs H,af H1 H->az K H fs zs->Fin zs H):gR (Ji K b1 b2 a1 a2) g tt te σ0 Fin H1:=by
 have hlen:=hds.length;have hlen2:=hes.length;refine⟨λi m zs H=>m=xs.length-i/\i<=xs.length/\af H1 H/\az K H (fs.take i) zs,⟨xs.length,by lia,Nq _,af.refl _,.nil⟩,?_⟩;rintro i m zs H ⟨rfl,hi,s,hzs⟩;have hyl:=hzs.length;rw[M3] at hyl
 by_cases hlt:i<xs.length
 ·have hlt2:i<ys.length:=by lia
  refine .inr ⟨⟨xs,ys,xs[i],ys[i],ck.same s h1,ck.same s h2,by simp[hlt],by simp[hlt2]⟩,bD (by lia),λv H3 y3=>?_⟩;obtain⟨x,y,T,k1,k2,kT,rfl,rfl⟩:=y3;have hx:=k1 xs (ck.same s h1);have hy:=k2 ys (ck.same s h2);obtain⟨d,hdd,hdx⟩:=hds.get hx;obtain⟨e,hee,hey⟩:=hes.get hy;have hff:fs[i]?=some fs[i]:=by simp[show i<fs.length by lia]
  have sT:af H (upd H T (.tup [x,y])):=af.new kT;have sA:=s.trans sT;refine he i d e fs[i] x y T _ hdd hee hff sA (ax.same sA hdx) (ax.same sA hey) ae _ (λz H' ⟨s',hz⟩=>⟨xs.length-(i+1),by lia,rfl,hlt,sA.trans s',?_⟩) λH5=>∃ m',m'<xs.length-i/\(m'=xs.length-(i+1)/\i+1<=xs.length/\af H1 H5/\az K H5 (fs.take (i+1)) zs)
  rw[cw hff];exact(az.same s' (az.same sT hzs)).snoc hz
 ·have e:i=xs.length:=by lia
  subst e;rw[Nf (by lia)] at hzs;exact .inl ⟨⟨xs,ys,ck.same s h1,ck.same s h2,.inl (Mm _)⟩,di (by lia),hd zs H s hzs⟩
end
theorem pJ {i:Nat}(h:[a,b,c][i]?=some x):(i=0/\x=a)\/(i=1/\x=b)\/(i=2/\x=c):=by
 match i,h with
 |0,h=>exact .inl ⟨rfl,(Mi h).symm⟩
 |1,h=>exact .inr (.inl ⟨rfl,(Mi h).symm⟩)
 |2,h=>exact .inr (.inr ⟨rfl,(Mi h).symm⟩)
 |n+3,h=>simp at h
section
variable {X:Cx}{K:HD}{pos:Pos}{tg:OH}
def Km (K:HD):List V->Hp->VK->Prop:=λxs H Q=>∃ p ys,xs=[.ref p]/\(bH K H p ys\/dF K H p ys)/\Q (.int ys.length) H
def F5 (K:HD):List V->Hp->VK->Prop:=λxs H Q=>∃ p ys,xs=[.ref p]/\(bH K H p ys\/dF K H p ys)/\∀ l,H l=none->Q (.ref l) (upd H l (.lst ys))
def IS (K:HD):List V->Hp->VK->Prop:=λxs H Q=>∃ p ys,xs=[.ref p]/\((bH K H p ys/\∀ l,H l=none->Q (.ref l) (upd H l (.tup ys)))\/(dF K H p ys/\Q (.ref p) H))
def Lh (K:HD):List V->Hp->VK->Prop:=λxs H Q=>∃ (p:Mz) (bs:List Bool),xs=[.ref p]/\bH K H p (bs.map V.bl)/\Q (.bl (bs.all id)) H
theorem gU (e:X.K=K):dg X (.builtin "len") (Km K):=by subst e;exact vM
theorem tW (e:X.K=K):dg X (.type "list") (F5 K):=by subst e;exact wz
theorem i9 (e:X.K=K):dg X (.type "tuple") (IS K):=by subst e;exact uF
theorem mz (e:X.K=K)(hc:X.calm=true):dg X (.builtin "all") (Lh K):=by subst e;exact DZ hc
theorem kq (e:X.K=K):dg X (.builtin "isinstance") (JX K):=by subst e;exact E7
theorem Ac (e:X.K=K):dg X (.builtin "isinstance") (G4 K):=by subst e;exact B4
theorem GS (e:X.K=K)(hu:X.A.units+64<cLine):k_ X (Oj .Eq) (Jw K):=by subst e;exact Il hu
theorem G6 (e:X.K=K)(hu:X.A.units+64<cLine):k_ X (Oj .NotEq) (Jq K):=by subst e;exact IY hu
theorem Gv (e:X.K=K)(hu:X.A.units+64<cLine):k_ X (Oj .NotEq) (EO K):=by subst e;exact CS hu
theorem K1 (e:X.K=K):Ep X (Gh K):=by subst e;exact Ib
theorem Im (e:X.K=K):KG X (Jn K):=by subst e;exact GF
theorem bx (e:X.K=K)(hl:WE X l tl):WI X tg l (IJ K tl):=by
 have hl:=hl.go;refine⟨?_⟩;subst e;exact IC hl
theorem iL (e:X.K=K) {tk:Nat} (hg:Gl X "zip") (hm:X.mg "zip"=none) (ha:WA X [a,b] ta) (hs:MU [a,b] X.env=[(false,Qh a X.env),(false,Qh b X.env)]:=by rfl) (hs2:MU [b] X.env=[(false,Qh b X.env)]:=by rfl) :
  WI X (.Tuple elts tk tpos) (.Call (.Name "zip" p) [a,b] [] pos) (JA K ta):=by
 have ha:=ha.go;refine⟨?_⟩;subst e;exact Ik hg hm ha hs hs2
theorem cS (e:X.K=K){k:Nat}{n:Nat}(hc:X.calm=true)(h:Kb X es t)(hn:(O1 es X.env).length=n:=by rfl)(hst:(O1 es X.env).findIdx? (·.1)=none:=by rfl):WG X (.Tuple es k pos) (J7 K n t):=by
 have h:=h.go;refine⟨?_⟩;subst e;exact Ht hc h hn hst
theorem Eg (e:X.K=K){k:Nat}{n:Nat}(hc:X.calm=true)(h:Kb X es t)(hn:(O1 es X.env).length=n:=by rfl)(hst:(O1 es X.env).findIdx? (·.1)=none:=by rfl):WG X (.Tuple es k pos) (Ju K n t):=by
 have h:=h.go;refine⟨?_⟩;subst e;exact IM hc h hn hst
end
def S9.one:S9:=⟨false,false,false,false,⟨1000,0,0⟩,⟨0,1000,0⟩,⟨0,0,1000⟩⟩
theorem Bm (p q:Rat):p-q=((p.num*(q.den:Int)-q.num*(p.den:Int):Int):Rat)/(((p.den:Int)*(q.den:Int):Int):Rat):=by
 have h1:=jt p;have h2:=jt q;have e1:=iA p;have e2:=iA q;rw[Nt,MY,MY,MY];grind
theorem Bq.sub {j k:Nat}{p q:Rat}(hp:Bq j p)(hq:Bq k q):Bq (j+k+1) (p-q):=by
 rw[Bq,Bm];refine gN (uO p q) (Sm.sub (hp.sn.mul hq.sd) ((hq.sn.mul hp.sd).mono (by lia))) ((hp.sd.mul hq.sd).mono (by lia))
theorem j0.sub {K:HD}{H:Hp}{p q:Rat}{Q:VK}(h:j0 K H (p-q) Q):Sh K H (p.num*(q.den:Int)-q.num*(p.den:Int)) ((p.den:Int)*(q.den:Int)) Q:=by
 rw[Bm] at h;exact j0.sh (uO p q) h
def S9.c0 (s:S9):R3:=s.y.cross s.z
def S9.c1 (s:S9):R3:=s.z.cross s.x
def S9.c2 (s:S9):R3:=s.x.cross s.y
def S9.f (s:S9)(n:Int):Rat:=((1000*n:Int):Rat)/((s.det:Int):Rat)
def S9.back (s:S9):M9:=⟨⟨s.f s.c0.a,s.f s.c1.a,s.f s.c2.a⟩,⟨s.f s.c0.b,s.f s.c1.b,s.f s.c2.b⟩,⟨s.f s.c0.c,s.f s.c1.c,s.f s.c2.c⟩⟩
abbrev WX:=L2.St->Mz->Hp->Prop
abbrev LG:List Mj:=[.type "ValueError",.type "Exception",.type "BaseException",.type "object"]
abbrev Ko:String:="ValueError.__new__"
def cO (K:HD)(x:Str)(C:Mz):Prop:=MA K Mo x=some (some (.ref C))
def yl:List Str:=["BadNumber","BadShare","BadCurve","BadSquare","NoBack","BadGrid","BadColour","BadIntent","BadProfile","BadInk","BadText"]
def lr (K:HD)(x:Str):Option Mz:=match MA K Mo x with
 |some (some (.ref C))=>some C
 |_=>none
theorem DT {K:HD}{x:Str}{C:Mz}(h:lr K x=some C):cO K x C:=by
 unfold lr at h
 split at h
 ·rename_i D e
  cases h;exact e
 ·cases h
theorem iF {K:HD}{x:Str}{C:Mz}(h:cO K x C):lr K x=some C:=by
 unfold lr;rw[show MA K Mo x=some (some (.ref C)) from h]
def Md (K:HD)(C:Mz):Bool:=
 PySem.W.excIn K C LG Ko&&TM K C&&Su K (.ref C)==some (.type "type")&&QR K C (.type "object")==some true&&QR K C (.type "BaseException")==some true &&
  MV K (.ref C) "__getattribute__"==some (some (.builtin "BaseException.__getattribute__"))&&MV K (.ref C) "__getattr__"==some none&&MV K (.ref C) "__class__"==some (some (.builtin "object.__class__")) &&
  Q_ K (.builtin "object.__class__") "__get__"==some (some (.builtin "getset_descriptor.__get__"))&&RX K (.builtin "object.__class__")==some true&&QS K (.ref C) (.ref C)==some true
structure Ex (K:HD)(C:Mz):Prop where
 exc:PySem.W.excIn K C LG Ko=true
 cls:TM K C=true
 typ:Su K (.ref C)=some (.type "type")
 slf:QS K (.ref C) (.ref C)=some true
 obj:QR K C (.type "object")=some true
 bex:QR K C (.type "BaseException")=some true
 ga:MV K (.ref C) "__getattribute__"=some (some (.builtin "BaseException.__getattribute__"))
 gn:MV K (.ref C) "__getattr__"=some none
 gc:MV K (.ref C) "__class__"=some (some (.builtin "object.__class__"))
 get:Q_ K (.builtin "object.__class__") "__get__"=some (some (.builtin "getset_descriptor.__get__"))
 tks:RX K (.builtin "object.__class__")=some true
def Le (K:HD):Bool:=(lr K "TintError").any λT=>TM K T&&Su K (.ref T)==some (.type "type")&&QS K (.ref T) (.type "BaseException")==some true &&
 (On 11).all λi=>(lr K (yl.getD i "")).any λC=>Md K C&&QS K (.ref C) (.ref T)==some true&&QS K (.ref C) (.type "ValueError")==some true &&
  (On 11).all λj=>(lr K (yl.getD j "")).any λD=>QS K (.ref C) (.ref D)==some (i==j)
theorem ig (h:o.any p=true):∃ a,o=some a/\p a=true:=by
 cases o with
 |none=>cases h
 |some a=>exact⟨a,rfl,h⟩
section
variable {K:HD}(R:Le K=true)
include R
end
section
variable {X:Cx}{K:HD}
def Lq (K:HD)(x:Str):TE:=λ_ H Q=>∀ D,cO K x D->Q (.ref D) H
theorem nW (hK:X.K=K)(hg:Gl X x)(hx:∃ D,cO K x D)(hd:(x==("__debug__":Str))=false:=by decide):WE X (.Name x pos) (Lq K x):=by
 refine⟨?_⟩;subst hK;intro pins s σ H Q I h;obtain⟨D,hD⟩:=hx;exact i8 I hg (Nu I.ok.mod.kin I.ok.mod.glob hD) ⟨.ref D,H,I,rfl,h D hD⟩ hd
end
def Fx (l m:Int):M4->Bool
 |.int i=>decide (l<=i)&&decide (i<=m)
 |_=>false
theorem az.at {K:HD}{H:Hp}{i:Nat}{d:M4}{x:V}{ds:List M4}{xs:List V}(h:az K H ds xs)(e1:ds[i]?=some d)(e2:xs[i]?=some x):ax K H d x:=by
 obtain⟨d',h1,h2⟩:=h.get e2;rw[e1] at h1;cases h1;exact h2
section
variable {K:HD}{t r p:Mz}{H0 H:Hp}{xs ys:List V}{ds es:List M4}
theorem Hk {k:Int}{n:Nat}(hk:k=n)(hn:n<=1000)(h:H p=some (.lst [v]))(q:∀ l,H l=none->Q (.ref l) (upd H l (.lst (MF n v)))):IA (.ref p) (.int k) H Q:=by
 subst hk;refine⟨p,_,_,rfl,rfl,h,by lia,by lia,?_,λl hl=>?_⟩
 ·show 1*((n:Int)).toNat<=MI;have:(1000:Nat)<=MI:=by decide
  lia
 ·have e:(MF ((n:Int)).toNat [v]).flatten=MF n v:=by
   rw[M6];clear hn q
   induction n with
   |zero=>rfl
   |succ n ih=>rw[Ov,Qb,ih];rfl
  rw[e];exact q l hl
theorem FY {k:Int}{n:Nat}(hk:k=n)(hn:n<=1000)(h:H p=some (.lst [v]))(q:∀ l,H l=none->Q (.ref l) (upd H l (.lst (MF n v)))):tC (.int k) σ H λy H2=>IA (.ref p) y H2 Q:=Hk hk hn h q
end
theorem Gi (z:Rat):shB (rD z)=true:=(show Ok (z.num.natAbs+z.den) z.num z.den from⟨by have:=z.den_pos;lia,z.reduced,by unfold Sm;exact MG (Qu) (Pf (by decide) (PJ _ _)),by unfold Sm;exact MG (Qu) (Pf (by decide) (Nat.le_add_left _ _))⟩).shB
def f8 (K:HD)(x:Str)(fs:List Str):Bool:=(lr K x).any λC=>Qn K C Str.empty&&Q9 K C&&SL K C&&MV K (.ref C) "__setattr__"==some (some (.builtin "object.__setattr__")) &&
 RV K C&&MZ K (.ref C)&&fs.all λf=>MV K (.ref C) f==some none
structure JD (K:HD)(x:Str)(fs:List Str)(C:Mz):Prop where
 at_:cO K x C
 cls:Hv K C
 makes:RV K C=true
 kp:MZ K (.ref C)=true
 no:∀ f∈fs,sK K C f
theorem jX {K:HD}{x:Str}{fs:List Str}(h:f8 K x fs=true):∃ C,JD K x fs C:=by
 unfold f8 at h;obtain⟨C,e,q⟩:=ig h;simp only[Nh,OL,N5] at q;obtain⟨⟨⟨⟨⟨⟨a,b⟩,c⟩,d⟩,m⟩,k⟩,n⟩:=q;exact⟨C,DT e,⟨a,b,c,d⟩,m,k,λf hf=>OL.mp (by simpa using n f hf)⟩
theorem bB {K:HD}{x:Str}{C D:Mz}(h:cO K x C)(g:cO K x D):C=D:=Mi ((iF h).symm.trans (iF g))
section
variable {X:Cx}{K:HD}{o e value:OH}{f x:Str}{fs0:List Str}{pos pos':Pos}{ta tv:TE}
inductive L5 (K:HD)(x f:Str)(v:V)(H:Hp)(Q:VK):Prop
 |mk (a C dx:Mz) (fs:List (Str×V)) (w:V) (_:v=.ref a) (_:cO K x C) (_:H a=some (.ins C dx fs)) (_:fs.lookup f=some w) (_:Q w H)
def Kg (K:HD)(x:Str)(ta:TE)(f:Str):TE:=λσ H Q=>ta σ H λv H1=>L5 K x f v H1 Q
theorem aY (hK:X.K=K)(hc:f8 K x fs0=true)(hf:f∈fs0)(he:WE X e ta)(hb:RF e f X.env (Qh e X.env)=Qh e X.env:=by rfl):WE X (.Attribute e f pos) (Kg K x ta f):=by
 have he:=he.go;refine⟨?_⟩;subst hK;obtain⟨D,cf⟩:=jX hc;intro pins s σ H Q I h;refine Gx hb (bY (he pins s σ H _ I h) λu s1 ⟨v,H1,I1,rv,a,C,dx,fs,w,ev,ec,ea,l,q⟩=>?_);subst ev;cases bB ec cf.at_;obtain rfl:u=MP a:=rv;exact z_ I1 ea cf.cls (cf.no f hf) l λu' s2 I2 ru=>⟨w,H1,I2,ru,q⟩
def Kk (K:HD)(x:Str)(ta tv:TE)(f:Str):TS:=λD σ H=>tv σ H λy H1=>ta σ H1 λv H2=>∃ a C dx fs,v=.ref a/\cO K x C/\H2 a=some (.ins C dx fs)/\fs.length<1000 /\
 D.nx σ (upd H2 a (.ins C dx (d_ f y fs)))
theorem dP (hK:X.K=K) (hc:f8 K x fs0=true) (hf:f ∈ fs0) (ha:WE X o ta) (hv:WE X value tv) (hs:SR value (some (.Attribute o f pos')) pos.line X.env=pure false:=by rfl) :
  WS X (.Assign [.Attribute o f pos'] value pos) (Kk K x ta tv f):=by
 have ha:=ha.go;have hv:=hv.go;refine⟨?_⟩;subst hK;obtain⟨E,cf⟩:=jX hc;intro pins s σ H D I h;refine plainObj_wpAny_Assign_Attribute (bY (hv pins s σ H _ I h) λu s1 ⟨y,H1,I1,ry,q⟩=>bY (ha pins s1 σ H1 _ I1 q) λov s2 ⟨v,H2,I2,rv,a,C,dx,fs,ev,ec,ea,l,q2⟩=>?_) hs;subst ev;cases bB ec cf.at_;obtain rfl:ov=MP a:=rv;exact zH I2 ea cf.cls (cf.no f hf) l ry λs3 I3=>⟨σ,_,I3,q2⟩
end
abbrev G7 (X:Cx)(o:OH)(m:Str)(args:List OH)(pl:Sem Bool)(apos pos:Pos):Prop:=
 Qh (.Call (.Attribute o m apos) args [] pos) X.env=(do let ov <- Qh o X.env;TZ apos.atName;let (f,first) <- holding [ov] (getMethod ov m pl);callWith pos f first (QC pos (MU args X.env)) (PY pos (Ol [] X.env)))
structure ky (P:MS)(w:No)(K:HD)(mg:Str->Option Mj)(base:Os)(CX:lQ)(k:Nat)(x m:Str)(ps:List Str)(dvs:List V)(sp:Sp):Prop where
 ex:∃ (C f:Mz) (fd:NW) (ds:List Mj) (fs:List Str),jp P w K mg base CX k f fd ps sp/\JD K x fs C/\DB K C m f/\mg x=some (.ref C)/\mC K fd ps ds/\aM dvs ds
def uX (K:HD)(x m:Str)(sp:Sp)(dvs:List V)(E:XK)(ta:TE)(t:TA):TE:=λσ H Q=>ta σ H λv H1=>∃ a C dx fs,v=.ref a/\cO K x C/\H1 a=some (.ins C dx fs)/\fs.lookup m=none /\
 t σ H1 λvs H2=>sp (v::(vs++dvs)) H2 Q E
def KA (K:HD)(x:Str)(sp:Sp)(dvs:List V)(E:XK)(t:TA):TE:=λσ H Q=>t σ H λvs H1=>∀ C a dx,cO K x C->H1 a=none->H1 dx=none->dx≠a ->
 sp (.ref a::(vs++dvs)) (upd (upd H1 dx (.own a)) a (.ins C dx [])) (λv H2=>v=.non/\Q (.ref a) H2) E
section
variable {X:Cx}{CX:lQ}{K:HD}{k:Nat}{x m:Str}{ps:List Str}{sp:Sp}{dvs:List V}{p pos apos:Pos}{o e:OH}{es:List OH}{ta:TE}{t:TA}{W:WX}
theorem jR {pl:Sem Bool} (hK:X.K=K) (hX:Fo CX) (C:ky X.prog X.w X.K X.mg X.base CX k x m ps dvs sp) (hr:Room k X.A) (he:WE X o ta) (ha:WA X (e :: es) t)
  (hst:MU (e::es) X.env=(false,Qh e X.env)::MU es X.env:=by rfl)(hpl:(QC pos (MU es X.env)).any (·.1)=false:=by rfl)
  (ht:G7 X o m (e::es) pl apos pos:=by rfl):WE X (.Call (.Attribute o m apos) (e::es) [] pos) (uX K x m sp dvs E0 ta t):=by
 have he:=he.go;have ha:=ha.go;refine⟨?_⟩;subst hK;obtain⟨D,f,fd,ds,fs0,F,cf,hm,_,hb,hd⟩:=C.ex;intro pins s σ H Q I h;refine Rm (pl:=pl) (bY (he pins s σ H _ I h) λu s1 ⟨v,H1,I1,rv,a,E,dx,fs,ev,ec,ea,l,q⟩=>?_) ht;subst ev;cases bB ec cf.at_;obtain rfl:u=MP a:=rv;refine mS I1 ea cf.cls hm l ?_;refine QQ (first:=[.ref a]) (h₀:=X.base) I.ok.mod.kin hm.kp (bY (ha pos pins s1 σ H1 _ I1 q) λus s2 ⟨vs,H2,I2,r,q2⟩=>⟨I2.kIn,?_⟩) hst hpl;exact wZ (us:=.ref a::us) (vs:=.ref a::vs) F hr hb hd (pY hX) I2 (.cons rfl r) q2
theorem cX {pl:Sem Bool} (hK:X.K=K) (hX:Fo CX) (C:ky X.prog X.w X.K X.mg X.base CX k x m ps dvs sp) (hr:Room k X.A) (he:WE X o ta)
  (ht:G7 X o m [] pl apos pos:=by rfl):WE X (.Call (.Attribute o m apos) [] [] pos) (uX K x m sp dvs E0 ta uC):=by
 have he:=he.go;refine⟨?_⟩;subst hK;obtain⟨D,f,fd,ds,fs0,F,cf,hm,_,hb,hd⟩:=C.ex;intro pins s σ H Q I h;refine Rm (pl:=pl) (bY (he pins s σ H _ I h) λu s1 ⟨v,H1,I1,rv,a,E,dx,fs,ev,ec,ea,l,q⟩=>?_) ht;subst ev;cases bB ec cf.at_;obtain rfl:u=MP a:=rv;refine mS I1 ea cf.cls hm l ?_;exact PySem.W.callWith_K0 (first:=[.ref a]) I1.kIn hm.kp (wZ (us:=[.ref a]) (vs:=[.ref a]) F hr hb hd (pY hX) I1 (.cons rfl .nil) q)
theorem oh (hK:X.K=K) (hX:Fo CX) (C:ky X.prog X.w X.K X.mg X.base CX k x "__init__" ps dvs sp) (hr:Room (k + 1) X.A) (hg:Gl X x) (ha:WA X (e :: es) t) (hdb:(x == ("__debug__":Str))=false:=by decide)
  (he:MU (e::es) X.env=(false,Qh e X.env)::MU es X.env:=by rfl)(hpl:(QC pos (MU es X.env)).any (·.1)=false:=by rfl):WE X (.Call (.Name x p) (e::es) [] pos) (KA K x sp dvs E0 t):=by
 have ha:=ha.go;refine⟨?_⟩;subst hK;obtain⟨D,f,fd,ds,fs0,F,cf,hm,hmg,hb,hd⟩:=C.ex;intro pins s σ H Q I h;refine NZ (i8 I hg hmg ?_ hdb);refine QQ (h₀:=X.base) I.ok.mod.kin cf.kp (bY (ha pos pins s σ H _ I h) λus s1 ⟨vs,H1,I1,r,q⟩=>⟨I1.kIn,?_⟩) he hpl;exact Dm ⟨cf.makes,hm.at_,hm.fn,cf.kp⟩ F hr hb hd (pY hX) I1 r λa dx h1 h2 h3=>q D a dx cf.at_ h1 h2 h3
end
structure iM (K:HD)(mg:Str->Option Mj)(x m qual:Str)(st:Oe)(ps:List Str)(dvs:List V):Prop where
 ex:∃ (C f:Mz) (fd:NW) (oc:Mj) (od:Option Mz) (dV kV doc pm:Mj) (an:Option Mz) (cdv ct:Mj) (osl:Array (Option Mj)) (ds:List Mj) (fs:List Str),
  fd=MK m qual (aQ st) (aJ st) (ah st) dV kV doc pm an cdv ct/\K.lookup f=some ⟨oc,od,.func fd,osl⟩/\M' K cdv qual=true /\
  JD K x fs C/\DB K C m f/\mg x=some (.ref C)/\mC K fd ps ds/\aM dvs ds
section
variable {P:MS}{w:No}{K:HD}{mg:Str->Option Mj}{base:Os}{CX:lQ}{x m qual:Str}{st:Oe}{N ps:List Str}{dvs:List V}{k:Nat}{sp:Sp}
theorem iM.cal (F:iM K mg x m qual st ps dvs) (S:ao N ps (ah st)) (len:∀ vs H Q E,sp vs H Q E->vs.length=ps.length:=by intro _ _ _ _ h;cases h;subst_vars;rfl)
  (bb:∀ (f:Mz) (cdv:Mj) (A:ND) (outer:List Env) (s:Mp) (H:Hp) (vs:List V) (Q:VK) (E:XK),Room k (A.deeper (Tf qual (ah st) s.heap.objs.size f cdv))->sp vs H Q E ->
   ∃ t,Fy (uh CX P w K mg base N qual (ah st) f cdv A outer s H E).nox (aJ st) t/\t { nx:=λ_ H'=>Q .non H',rt:=Q } (kg N vs) H):ky P w K mg base CX (k+1) x m ps dvs sp:=by
 obtain⟨C,f,fd,oc,od,dV,kV,doc,pm,an,cdv,ct,osl,ds,fs,rfl,lk,hcd,cf,hm,hmg,hb,hv⟩:=F.ex;refine⟨C,f,_,ds,fs,y9 lk hcd S len λA outer s H vs Q E hr hsp=>?_,cf,hm,hmg,hb,hv⟩;obtain⟨t,h,q⟩:=bb f cdv A outer s H vs Q E hr hsp;exact⟨t,h.nox,q⟩
theorem Gm {fs:List Str}{C f:Mz}{oc:Mj}{od an:Option Mz}{osl:Array (Option Mj)}{kV doc pm cdv ct:Mj} (l:K.lookup f=some ⟨oc,od,.func (MK m qual (aQ st) (aJ st) (ah st) .none kV doc pm an cdv ct),osl⟩)
  (c:M' K cdv qual=true)(kp:MZ K (.ref f)=true)(fn:OF K (.ref f)=true)(a:MA K Mo x=some (some (.ref C)))(b:MV K (.ref C) m=some (some (.ref f)))(hc:f8 K x fs=true)(g:mg x=some (.ref C))
  (h:∀ us:List Mj,us.length=ps.length->NF (MK m qual (aQ st) (aJ st) (ah st) .none kV doc pm an cdv ct) ⟨us,[]⟩=pure (ps.zip us)):iM K mg x m qual st ps []:=by
 obtain⟨D,cf⟩:=jX hc;cases bB cf.at_ a;exact⟨_,f,_,oc,od,.none,kV,doc,pm,an,cdv,ct,osl,[],fs,rfl,l,c,cf,⟨b,fn,kp⟩,g,.all h,.nil⟩
end
abbrev Pt:=Int×Int
def p9 (p:Pt):M4:=.tuple [.int p.1,.int p.2]
def FG (ps:List Pt):M4:=.list (ps.map p9)
structure Pt.In (p:Pt):Prop where
 a1:0<=p.1
 a2:p.1<=1000
 b1:0<=p.2
 b2:p.2<=1000
structure t9 (ps:List Pt):Prop where
 two:2<=ps.length
 few:ps.length<=12
 zero:∀ p,ps[0]?=some p->p.1=0
 inn:∀ p∈ps,p.In
 up:∀ (i:Nat) (p q:Pt),ps[i]?=some p->ps[i+1]?=some q->p.1<q.1/\p.2<=q.2
def x_ (p q:Pt)(a:Rat):Rat:=(p.2:Rat)+((q.2:Rat)-(p.2:Rat))*(a-(p.1:Rat))/((q.1:Rat)-(p.1:Rat))
structure BJ (ps:List Pt)(a:Rat)(k:Nat)(p q:Pt):Prop where
 lo:ps[k]?=some p
 hi:ps[k+1]?=some q
 gt:k=0\/(p.1:Rat)<a
 le:a<=(q.1:Rat)
def zj (ps:List Pt)(a v:Rat):Prop:=∃ k p q,BJ ps a k p q/\v=x_ p q a
theorem t9.mono (h:t9 ps):∀ (d i:Nat) (p q:Pt),ps[i]?=some p->ps[i+d]?=some q->p.1<=q.1/\p.2<=q.2/\(0<d->p.1<q.1)
 |0,i,p,q,e1,e2=>by
  rw[M7,e1] at e2;cases e2;exact⟨Ux _,Ux _,λz=>absurd z (by decide)⟩
 |d+1,i,p,q,e1,e2=>by
  have hlt:i+d<ps.length:=by have:=(Mu.mp e2).1;lia
  have e3:ps[i+d]?=some ps[i+d]:=MC hlt;obtain⟨a,b,_⟩:=t9.mono h d i p _ e1 e3;obtain⟨c,e⟩:=h.up (i+d) _ q e3 (by rw[SW];exact e2);exact⟨by lia,by lia,λ_=>by lia⟩
theorem B' (h:t9 ps){a:Rat}{k j:Nat}(x:BJ ps a k p q)(y:BJ ps a j r s):p=r/\q=s:=by
 have go:∀ {k j:Nat}{p q r s:Pt},BJ ps a k p q->BJ ps a j r s->¬ k<j:=λ{k j p q r s} x y lt=>by
  obtain⟨d,rfl⟩:∃ d,j=k+1+d:=⟨j-(k+1),by lia⟩
  obtain⟨m,_⟩:=h.mono d (k+1) q r x.hi y.lo;rcases y.gt with z|z
  ·lia
  ·have e:(q.1:Rat)<=(r.1:Rat):=by exact_mod_cast m
   have:=x.le;grind
 have e:k=j:=by
  have:=go x y;have:=go y x;lia
 subst e;have e1:=x.lo.symm.trans y.lo;have e2:=x.hi.symm.trans y.hi;exact⟨Mi e1,Mi e2⟩
theorem jC (h:t9 ps){a v w:Rat}(x:zj ps a v)(y:zj ps a w):v=w:=by
 obtain⟨k,p,q,s,rfl⟩:=x;obtain⟨j,r,t,u,rfl⟩:=y;obtain⟨rfl,rfl⟩:=B' h s u;rfl
section
variable {K:HD}{g:TG}{tt:TT}{te:TE}{σ0:L2.St}{Fin:List V->Hp->Prop}{H1:Hp}
theorem uJ (h1:ck K H1 a1 xs b1) (h2:ck K H1 a2 ys b2) (hds:az K H1 ds xs) (hes:az K H1 es ys) (hle:es.length <= ds.length) (hlf:fs.length=es.length) (hl:ds.length <= 1000)
  (he:∀ (i:Nat) (d e f:M4) (x y:V) (T:Mz) (H:Hp),ds[i]?=some d->es[i]?=some e->fs[i]?=some f->af H1 H->ax K H d x->ax K H e y->H T=some (.tup [x,y])->kH g tt te σ0 (.ref T) H λz H'=>af H H'/\ax K H' f z)
  (hd:∀ zs H,af H1 H->az K H fs zs->Fin zs H):gR (Ji K b1 b2 a1 a2) g tt te σ0 Fin H1:=by
 have hlen:=hds.length;have hlen2:=hes.length;refine⟨λi m zs H=>m=ys.length-i/\i<=ys.length/\af H1 H/\az K H (fs.take i) zs,⟨ys.length,by lia,Nq _,af.refl _,.nil⟩,?_⟩;rintro i m zs H ⟨rfl,hi,s,hzs⟩;have hyl:=hzs.length;rw[M3] at hyl
 by_cases hlt2:i<ys.length
 ·have hlt:i<xs.length:=by lia
  refine .inr ⟨⟨xs,ys,xs[i],ys[i],ck.same s h1,ck.same s h2,by simp[hlt],by simp[hlt2]⟩,bD (by lia),λv H3 y3=>?_⟩;obtain⟨x,y,T,k1,k2,kT,rfl,rfl⟩:=y3;have hx:=k1 xs (ck.same s h1);have hy:=k2 ys (ck.same s h2);obtain⟨d,hdd,hdx⟩:=hds.get hx;obtain⟨e,hee,hey⟩:=hes.get hy;have hff:fs[i]?=some fs[i]:=by simp[show i<fs.length by lia]
  have sT:af H (upd H T (.tup [x,y])):=af.new kT;have sA:=s.trans sT;refine he i d e fs[i] x y T _ hdd hee hff sA (ax.same sA hdx) (ax.same sA hey) ae _ (λz H' ⟨s',hz⟩=>⟨ys.length-(i+1),by lia,rfl,hlt2,sA.trans s',?_⟩) λH5=>∃ m',m'<ys.length-i/\(m'=ys.length-(i+1)/\i+1<=ys.length/\af H1 H5/\az K H5 (fs.take (i+1)) zs)
  rw[cw hff];exact(az.same s' (az.same sT hzs)).snoc hz
 ·have e:i=ys.length:=by lia
  subst e;rw[Nf (by lia)] at hzs;exact .inl ⟨⟨xs,ys,ck.same s h1,ck.same s h2,.inr (Mm _)⟩,di (by lia),hd zs H s hzs⟩
end
theorem yP (xs:List V)(h:1<=xs.length):nX xs (some 1) none=xs.drop 1:=by
 unfold nX;have e1:HT.sIx xs.length 0 (some 1)=1:=by
  simp[HT.sIx]
  try lia
 have e2:HT.sIx xs.length xs.length none=xs.length:=by simp[HT.sIx]
 rw[e1,e2];exact Nf (by rw[OZ];exact Mm _)
theorem az.drop {K:HD}{H:Hp}:∀ (n:Nat) {ds:List M4}{xs:List V},az K H ds xs->az K H (ds.drop n) (xs.drop n)
 |0,_,_,h=>h
 |_+1,_,_,.nil=>.nil
 |n+1,_,_,.cons _ t=>az.drop n t
theorem nO {K:HD}{H:Hp}{ps:List Pt}{xs:List V}{k:Nat}{p:Pt}(h:az K H (ps.map p9) xs)(e:ps[k]?=some p):∃ v,xs[k]?=some v/\ax K H (p9 p) v:=by
 have hl:=h.length;rw[Mq] at hl;have hk:k<xs.length:=by have:=(Mu.mp e).1;lia
 have e1:xs[k]?=some xs[k]:=MC hk;refine⟨_,e1,h.at ?_ e1⟩;rw[Mw,e];rfl
def kr (K:HD)(H:Hp)(ps:List Pt)(v:V):Prop:=∃ (a C dx l:Mz),v=.ref a/\cO K "Curve" C/\H a=some (.ins C dx [("points",.ref l)])/\ax K H (FG ps) (.ref l)
theorem kr.same {K:HD}{H H':Hp}{ps:List Pt}{v:V}(s:af H H')(h:kr K H ps v):kr K H' ps v:=by
 obtain⟨a,C,dx,l,e,c,h1,h2⟩:=h;exact⟨a,C,dx,l,e,c,s _ _ h1,ax.same s h2⟩
theorem rF (h:xs.getLast?=some v):AD xs (-1)=some v:=by
 rw[NB] at h;have hl:0<xs.length:=by
  cases xs with
  |nil=>simp at h
  |cons _ _=>simp
 unfold AD;have e:CL xs.length (-1)=some (xs.length-1):=by
  unfold CL;simp;lia
 rw[e];exact h
theorem yw {K:HD}{H:Hp}{ps:List Pt}{xs:List V}{z:Pt}(h:az K H (ps.map p9) xs)(e:ps.getLast?=some z):∃ v,xs.getLast?=some v/\ax K H (p9 z) v:=by
 rw[NB] at e;obtain⟨v,h1,h2⟩:=nO h e;refine⟨v,?_,h2⟩;rw[NB,<- h.length,Mq];exact h1
theorem Ef {a:Rat}(h:p.1<q.1):x_ p q a=((p.2*(q.1-p.1)*(a.den:Int)+(a.num-p.1*(a.den:Int))*(q.2-p.2):Int):Rat)/(((q.1-p.1)*(a.den:Int):Int):Rat):=by
 have h1:((q.1:Rat)-(p.1:Rat))≠0:=λz=>by
  have e:((q.1-p.1:Int):Rat)=((0:Int):Rat):=by rw[Nt];exact z
  have e:q.1-p.1=0:=by exact_mod_cast e
  lia
 have h2:=jt a;have ea:=iA a;unfold x_;rw[Pq,MY,MY,MY,MY,Nt,Nt,Nt,MY];generalize ((a.den:Int):Rat)=d at *;generalize (a.num:Rat)=n at *;generalize (p.1:Rat)=p1 at *;generalize (p.2:Rat)=p2 at *;generalize (q.1:Rat)=q1 at *;generalize (q.2:Rat)=q2 at *;subst ea;grind
theorem pB (h:t9 ps){a c:Rat}{k:Nat}(ha:Bq k a)(x:zj ps a c):Bq (k+40) c:=by
 obtain⟨j,p,q,s,rfl⟩:=x;have hlt:=(h.up j p q s.lo s.hi).1;have ip:=h.inn p (ME s.lo);have iq:=h.inn q (ME s.hi);have s10:∀ {i:Int},0<=i->i<=1000->Sm 10 i:=λh1 h2=>by unfold Sm;lia
 have s11:∀ {i j:Int},0<=i->i<=1000->0<=j->j<=1000->Sm 11 (i-j):=λh1 h2 h3 h4=>by unfold Sm;lia
 have sr:Sm 11 (q.1-p.1):=s11 iq.a1 iq.a2 ip.a1 ip.a2;have su:Sm 11 (q.2-p.2):=s11 iq.b1 iq.b2 ip.b1 ip.b2;rw[Ef hlt];refine gN (Nz (by lia) (by exact_mod_cast a.den_nz)) ?_ ((sr.mul ha.sd).mono (by lia));have t1:=((s10 ip.b1 ip.b2).mul sr).mul ha.sd;have t2:=((ha.sn.mono (show k<=10+k by lia)).sub ((s10 ip.a1 ip.a2).mul ha.sd)).mul su;exact((t1.mono (show 10+11+k<=k+30 by lia)).add (t2.mono (show 10+k+1+11<=k+30 by lia))).mono (by lia)
def kJ {α:Type}(n m:Nat)(ds us ws:List α):List α:=cond (VC us.length n&&VC ws.length m) (us++(ws++ds)) []
theorem yC {n m:Nat}(hd:aM dvs ds)(a:aM vs us)(b:aM zs ws):aM (kJ n m dvs vs zs) (kJ n m ds us ws):=by
 unfold kJ;rw[a.length,b.length];cases VC us.length n&&VC ws.length m
 ·exact .nil
 ·exact a.append (b.append hd)
theorem yb {n m k:Nat}(h:(kJ n m ds us ws).length=k+1):us.length=n/\ws.length=m/\kJ n m ds us ws=us++(ws++ds):=by
 unfold kJ at h ⊢;cases z:VC us.length n&&VC ws.length m with
 |false=>rw[z] at h;cases h
 |true=>
  rw[Nh] at z;exact⟨TK z.1,TK z.2,rfl⟩
theorem Kq {K:HD}{fd:NW}{p:Str}{ps ks:List Str}{n m:Nat} (h:∀ us ws:List Mj,us.length=n->ws.length=m->NF fd ⟨us,ks.zip ws⟩=pure ((p :: ps).zip (us ++ ws))) :
  mZ K fd (p::ps) ks (kJ n m []) (kJ n m []):=
 ⟨λs us ws _ hl=>by
  obtain⟨a,b,c⟩:=yb hl;rw[c,QL];exact .of_eq (h us ws a b),λa b=>yC .nil a b⟩
structure pS (P:MS)(w:No)(K:HD)(mg:Str->Option Mj)(base:Os)(CX:lQ)(k:Nat)(x m:Str)(ps ks:List Str)(n j:Nat)(dvs:List V)(sp:Sp):Prop where
 ex:∃ (C f:Mz) (fd:NW) (ds:List Mj) (fs:List Str),jp P w K mg base CX k f fd ps sp/\JD K x fs C/\DB K C m f/\mg x=some (.ref C)/\mZ K fd ps ks (kJ n j ds) (kJ n j dvs)
def Jy (K:HD)(x:Str)(sp:Sp)(gV:List V->List V->List V)(E:XK)(tk:TA):TE:=λσ H Q=>tk σ H λzs H1=>∀ C a dx,cO K x C->H1 a=none->H1 dx=none->dx≠a ->
 sp (gV [.ref a] zs) (upd (upd H1 dx (.own a)) a (.ins C dx [])) (λv H2=>v=.non/\Q (.ref a) H2) E
section
variable {X:Cx}{CX:lQ}{K:HD}{W:WX}{k n j:Nat}{x:Str}{ps ks:List Str}{sp:Sp}{dvs:List V}{p pos:Pos}{tk:TA}{kws:List Rr}
theorem DD (M:Mk X.K C f) (F:jp X.prog X.w X.K X.mg X.base CX k f fd ps sp) (hr:Room (k + 1) X.A)
  (hb:mZ X.K fd ps ks g gV)(hx:∀ J:Hp,∀ s1:Mp,aG X pins σ J s1->∀ e s',CX X.stack J s1 E e s'->X.xe e s')(I:aG X pins σ H s)(rz:aM zs ws)
  (h:∀ a dx,H a=none->H dx=none->dx≠a->sp (gV [.ref a] zs) (upd (upd H dx (.own a)) a (.ins C dx [])) (λv H2=>v=.non/\Q (.ref a) H2) E):
  MB (MW X.prog X.w) X.A (call (.ref C) [] (ks.zip ws)) (EP X pins σ Q) X.xe s:=by
 have hq:=h (s.heap.objs.size+1) s.heap.objs.size (I.hok.fresh (RT _)) (I.hok.fresh (Mm _)) (MR (N6 _));have J:=aG.made (C:=C) I;have rr:=hb.rel (show aM [V.ref (s.heap.objs.size+1)] [MP (s.heap.objs.size+1)] from .cons rfl .nil) rz;have hn:(g [MP (s.heap.objs.size+1)] ws).length=ps.length:=rr.length.symm.trans (F.len _ _ _ _ hq);refine RI (rh (f:=f) I.kIn M.makes M.init (OL.mp M.fn) (Py (F.run _ X.stack _ _ ⟨[MP (s.heap.objs.size+1)],ks.zip ws⟩ (g [MP (s.heap.objs.size+1)] ws) _ _ E (hr.make C [] (ks.zip ws))
  (J.env0.make C [] (ks.zip ws)) (hb.to _ [MP (s.heap.objs.size+1)] ws J.kIn hn) rr hq) λz s' hz=>?_))
 match z,hz with
 |.error v,hz=>exact hx _ _ J v s' hz
 |.ok (.ret u),hz=>
  obtain⟨v,H',J3,rv,ev,q3⟩:=J.after hz;subst ev;exact⟨rv,⟨V.ref (s.heap.objs.size+1),H',J3,rfl,q3⟩⟩
theorem yc (hK:X.K=K) (hX:Fo CX) (C:pS X.prog X.w X.K X.mg X.base CX k x "__init__" ps ks n j dvs sp) (hr:Room (k + 1) X.A) (hg:Gl X x) (hkw:WK X kws tk)
  (hall:(PY pos (Ol kws X.env)).all (·.1.isSome)=true:=by rfl)(hks:(PY pos (Ol kws X.env)).filterMap (·.1)=ks:=by rfl)(hdb:(x==("__debug__":Str))=false:=by decide)
  (hpl:((QC pos (MU [] X.env)).any (·.1)||(PY pos (Ol kws X.env)).any (·.1.isNone))=false:=by rfl):
  WE X (.Call (.Name x p) [] kws pos) (Jy K x sp (kJ n j dvs) E0 tk):=by
 have hkw:=hkw.go;refine⟨?_⟩;subst hK;obtain⟨D,f,fd,ds,fs0,F,cf,hm,hmg,hb⟩:=C.ex;intro pins s σ H Q I h;refine NZ (i8 I hg hmg ?_ hdb);refine PySem.W.callWith_KW0 (h₀:=X.base) I.ok.mod.kin cf.kp hall (bY (hkw pos pins s σ H _ I h) λws s2 ⟨zs,H2,I2,rz,q2⟩=>⟨I2.kIn,?_⟩) hpl;rw[hks];exact DD ⟨cf.makes,hm.at_,hm.fn,cf.kp⟩ F hr hb (λJ s1 I1 e s' z=>(pY hX) _ _ _ _ _ _ I1 z) I2 rz λa dx h1 h2 h3=>q2 D a dx cf.at_ h1 h2 h3
end
structure jI (K:HD)(mg:Str->Option Mj)(x m qual:Str)(st:Oe)(ps ks:List Str)(n j:Nat)(dvs:List V):Prop where
 ex:∃ (C f:Mz) (fd:NW) (oc:Mj) (od:Option Mz) (dV kV doc pm:Mj) (an:Option Mz) (cdv ct:Mj) (osl:Array (Option Mj)) (ds:List Mj) (fs:List Str),
  fd=MK m qual (aQ st) (aJ st) (ah st) dV kV doc pm an cdv ct/\K.lookup f=some ⟨oc,od,.func fd,osl⟩/\M' K cdv qual=true /\
  JD K x fs C/\DB K C m f/\mg x=some (.ref C)/\mZ K fd ps ks (kJ n j ds) (kJ n j dvs)
section
variable {P:MS}{w:No}{K:HD}{mg:Str->Option Mj}{base:Os}{CX:lQ}{x m qual:Str}{st:Oe}{N ps ks:List Str}{n j:Nat}{dvs:List V}{k:Nat}{sp:Sp}
theorem jI.cal (F:jI K mg x m qual st ps ks n j dvs) (S:ao N ps (ah st)) (len:∀ vs H Q E,sp vs H Q E->vs.length=ps.length:=by intro _ _ _ _ h;cases h;subst_vars;rfl)
  (bb:∀ (f:Mz) (cdv:Mj) (A:ND) (outer:List Env) (s:Mp) (H:Hp) (vs:List V) (Q:VK) (E:XK),Room k (A.deeper (Tf qual (ah st) s.heap.objs.size f cdv))->sp vs H Q E ->
   ∃ t,Fy (uh CX P w K mg base N qual (ah st) f cdv A outer s H E).nox (aJ st) t/\t { nx:=λ_ H'=>Q .non H',rt:=Q } (kg N vs) H):pS P w K mg base CX (k+1) x m ps ks n j dvs sp:=by
 obtain⟨C,f,fd,oc,od,dV,kV,doc,pm,an,cdv,ct,osl,ds,fs,rfl,lk,hcd,cf,hm,hmg,hb⟩:=F.ex;refine⟨C,f,_,ds,fs,y9 lk hcd S len λA outer s H vs Q E hr hsp=>?_,cf,hm,hmg,hb⟩;obtain⟨t,h,q⟩:=bb f cdv A outer s H vs Q E hr hsp;exact⟨t,h.nox,q⟩
theorem n9 {p:Str}{ps fs:List Str}{C f:Mz}{oc:Mj}{od an:Option Mz}{osl:Array (Option Mj)}{kV doc pm cdv ct:Mj} (l:K.lookup f=some ⟨oc,od,.func (MK m qual (aQ st) (aJ st) (ah st) .none kV doc pm an cdv ct),osl⟩)
  (c:M' K cdv qual=true)(kp:MZ K (.ref f)=true)(fn:OF K (.ref f)=true)(a:MA K Mo x=some (some (.ref C)))(b:MV K (.ref C) m=some (some (.ref f)))(hc:f8 K x fs=true)(g:mg x=some (.ref C))
  (h:∀ us ws:List Mj,us.length=n->ws.length=j->NF (MK m qual (aQ st) (aJ st) (ah st) .none kV doc pm an cdv ct) ⟨us,ks.zip ws⟩=pure ((p::ps).zip (us++ws))):jI K mg x m qual st (p::ps) ks n j []:=by
 obtain⟨D,cf⟩:=jX hc;cases bB cf.at_ a;exact⟨_,f,_,oc,od,.none,kV,doc,pm,an,cdv,ct,osl,[],fs,rfl,l,c,cf,⟨b,fn,kp⟩,g,Kq h⟩
end
structure LR (P:MS)(w:No)(K:HD)(mg:Str->Option Mj)(base:Os)(CX:lQ)(k:Nat)(v:V)(sp:Sp):Prop where
 ex:∃ (f:Mz) (fd:NW) (ps:List Str),v=.ref f/\jp P w K mg base CX k f fd ps sp/\MZ K (.ref f)=true/\mC K fd ps []
theorem dN.fnV {P:MS}{w:No}{K:HD}{mg:Str->Option Mj}{base:Os}{CX:lQ}{j k:Nat}{x:Str}{ps:List Str}{sp:Sp}{f:Mz}(C:dN P w K mg base CX j x ps [] sp)(h:mg x=some (.ref f))(l:j<=k):LR P w K mg base CX k (.ref f) sp:=by
 obtain⟨f',fd,ds,F,hm,hk,hb,hv⟩:=C.ex;rw[h] at hm;cases hm;cases hv;exact⟨f,fd,ps,rfl,F.mono l,hk,hb⟩
def JH (P:MS)(w:No)(K:HD)(mg:Str->Option Mj)(base:Os)(CX:lQ)(k i:Nat)(t:TA):TE:=λσ H Q=>∃ v,σ[i]?=some (some v)/\∃ sp,LR P w K mg base CX k v sp/\t σ H λvs H1=>sp vs H1 Q E0
theorem E3 {X:Cx}{P:MS}{w:No}{K:HD}{mg:Str->Option Mj}{base:Os}{CX:lQ}{k i:Nat}{x:Str}{e:OH}{es:List OH}{t:TA}{p pos:Pos} (hP:X.prog=P) (hw:X.w=w) (hK:X.K=K) (hmg:X.mg=mg) (hba:X.base=base) (hX:Fo CX) (hr:Room k X.A)
  (hv:WE X (.Name x p) (r0 i))(ha:WA X (e::es) t)
  (he:MU (e::es) X.env=(false,Qh e X.env)::MU es X.env:=by rfl)(hpl:(QC pos (MU es X.env)).any (·.1)=false:=by rfl):WE X (.Call (.Name x p) (e::es) [] pos) (JH P w K mg base CX k i t):=by
 have hv:=hv.go;have ha:=ha.go;refine⟨?_⟩;subst hP hw hK hmg hba;intro pins s σ H Q I h;obtain⟨v,hi,sp,F,h⟩:=h;obtain⟨f,fd,ps,rfl,F,hk,hb⟩:=F.ex;refine NZ (bY (hv pins s σ H (λv' H'=>v'=V.ref f/\H'=H) I ⟨_,hi,rfl,rfl⟩) λu s1 ⟨v1,H1,I1,rv,e1,e2⟩=>?_);subst e1 e2;cases rv;refine QQ (h₀:=X.base) I.ok.mod.kin hk (bY (ha pos pins s1 σ H1 _ I1 h) λus s2 ⟨vs,H2,I2,r,q⟩=>⟨I2.kIn,?_⟩) he hpl;exact wZ (dvs:=[]) F hr hb .nil (pY hX) I2 r (by rw[QL];exact q)
structure vi (K:HD)(w:No)(mg:Str->Option Mj)(D:Mz)(kvs:List (Str×Str)):Prop where
 ex:∃ (es:Array N9) (n:Nat),K.lookup D=some ⟨.type "dict",none,.dict es n,#[]⟩/\VE w.params es.toList/\SJ (λ(e:N9) (p:Str×Str)=>∃ t f,e.key=.str p.1 t/\e.val=.ref f/\mg p.2=some (.ref f)) es.toList kvs
 lo:(D==N2)=false
theorem yA {mg:Str->Option Mj}:∀ {l:List N9}{kfs:List (Str × Mz)}{kvs:List (Str × Str)},SJ (fun (e:N9) (p:Str × Mz)=>∃ t,e.key=.str p.1 t/\e.val=.ref p.2) l kfs ->
  SJ (λ(p:Str×Mz) (q:Str×Str)=>p.1=q.1/\mg q.2=some (.ref p.2)) kfs kvs->SJ (λ(e:N9) (p:Str×Str)=>∃ t f,e.key=.str p.1 t/\e.val=.ref f/\mg p.2=some (.ref f)) l kvs
 |_,_,_,.nil,.nil=>.nil
 |_,_,_,.cons ⟨t,h1,h2⟩ r,.cons ⟨q1,q2⟩ s=>.cons ⟨t,_,by rw[h1,q1],h2,q2⟩ (yA r s)
theorem yu {mg:Str->Option Mj}{x:Str}:∀ {l:List N9}{kvs:List (Str × Str)},SJ (fun (e:N9) (p:Str × Str)=>∃ t f,e.key=.str p.1 t/\e.val=.ref f/\mg p.2=some (.ref f)) l kvs ->
  (match kvs.lookup x with|some n=>∃ f e,l.find? (λd=>O3 x d.key)=some e/\e.val=.ref f/\mg n=some (.ref f)|none=>l.find? (λd=>O3 x d.key)=none)
 |_,_,.nil=>rfl
 |e::l,p::kvs,.cons ⟨t,f,h1,h2,h3⟩ r=>by
  obtain⟨a,b⟩:=p;rw[Oo,OT,h1];have q:O3 x (.str a t)=(x==a):=by
   show decide _=_;rw[P3];exact Te.mpr ⟨Eq.symm,Eq.symm⟩
  rw[q];cases z:x==a with
  |true=>exact⟨f,e,rfl,h2,h3⟩
  |false=>exact yu r
section
variable {X:Cx}{K:HD}{w:No}{mg:Str->Option Mj}{kvs:List (Str×Str)}
def K6 (K:HD)(w:No)(mg:Str->Option Mj)(kvs:List (Str×Str)):TE:=λ_ H Q=>∀ D,vi K w mg D kvs->Q (.ref D) H
theorem AJ (hg:Gl X x)(hx:∃ D,X.mg x=some (.ref D)/\vi K w mg D kvs)(hd:(x==("__debug__":Str))=false:=by decide):WE X (.Name x pos) (K6 K w mg kvs):=by
 refine⟨?_⟩;intro pins s σ H Q I h;obtain⟨D,hm,hD⟩:=hx;exact i8 I hg hm ⟨.ref D,H,I,rfl,h D hD⟩ hd
def IU (K:HD)(w:No)(mg:Str->Option Mj)(kvs:List (Str×Str)):R2:=λx y H Q=>∃ a D,x=.str a/\y=.ref D/\vi K w mg D kvs/\Q (.bl (kvs.lookup a).isSome) H
theorem AK {h:Os}{prog:MS}{D:Mz} (X:K.In h) (T:vi K w mg D kvs):∃ es:Array N9,h.MapOf (strKind prog w) D (fun k=>findBy O3 es k)/\∀ x,match kvs.lookup x with
  |some n=>∃ f,findBy O3 es x=some (.ref f)/\mg n=some (.ref f)
  |none=>findBy O3 es x=none:=by
 obtain⟨es,n,l,hk,hp⟩:=T.ex;refine⟨es,PySem.W.mapOf_K X l hk,λx=>?_⟩;have q:=yu (x:=x) hp;obtain⟨es⟩:=es;unfold findBy;cases z:kvs.lookup x with
 |none=>
  rw[z] at q;simp only[UJ];rw[q];rfl
 |some n=>
  rw[z] at q;obtain⟨f,e,q1,q2,q3⟩:=q;refine⟨f,?_,q3⟩;simp only[UJ];rw[q1];show some e.val=_;rw[q2]
theorem Du (hK:X.K=K)(hw:X.w=w):k_ X (Oj .In) (IU K w mg kvs):=by
 subst hK hw;intro pins s σ H x y v u Q I rx ry h;obtain⟨a,D,rfl,rfl,T,q⟩:=h;obtain⟨t,rfl⟩:=rx;cases ry;obtain⟨es,hm,hf⟩:=AK (prog:=X.prog) I.kIn T;refine wpAny_in_of (strKind_is X.prog X.w a t) T.lo hm ?_;have e:(findBy O3 es a).isSome=(kvs.lookup a).isSome:=by
  have z:=hf a;cases y:kvs.lookup a with
  |none=>rw[y] at z;rw[z];rfl
  |some n=>rw[y] at z;obtain⟨f,z,_⟩:=z;rw[z];rfl
 exact EQ (I.tok _) q e.symm
def Hl (K:HD)(w:No)(mg:Str->Option Mj)(kvs:List (Str×Str)):R2:=λx y H Q=>∃ a n D,x=.ref D/\y=.str a/\vi K w mg D kvs/\kvs.lookup a=some n/\∀ f,mg n=some (.ref f)->Q (.ref f) H
theorem HJ (hK:X.K=K)(hw:X.w=w):Ep X (Hl K w mg kvs):=by
 subst hK hw;intro value slice pins s σ H x y v u Q I rx ry h hs;obtain⟨a,n,D,rfl,rfl,T,hl,q⟩:=h;obtain⟨t,rfl⟩:=ry;cases rx;obtain⟨es,hm,hf⟩:=AK (prog:=X.prog) I.kIn T;have z:=hf a;rw[hl] at z;obtain⟨f,z,g⟩:=z;exact tail_any hm.typeIs slot_dict_getitem.lookup (wpAny_getItem_of (strKind_is X.prog X.w a t) hm z ⟨.ref f,H,I.tok _,rfl,q f g⟩) hs
end
def vF:List String:=["NoneType","bool","int","str","list","tuple","dict"]
def B1 (K:HD)(x:Str):Bool:=(lr K x).any λC=>MV K (.ref C) "__class__"==some (some (.builtin "object.__class__"))&&Q_ K (.builtin "object.__class__") "__get__"==some (some (.builtin "getset_descriptor.__get__")) &&
 RX K (.builtin "object.__class__")==some true&&QR K C (.type "object")==some true&&vF.all λT=>O9 K (.type T) (.ref C)==some false
def Ly (K:HD)(x:Str):List V->Hp->VK->Prop:=λxs H Q=>∃ v C,xs=[v,.ref C]/\cO K x C/\((∃ a dx fs,v=.ref a/\H a=some (.ins C dx fs)/\Q (.bl true) H)\/∃ T,Ty K H v T/\T∈vF/\Q (.bl false) H)
theorem D0 {X:Cx}{K:HD}{x:Str}{fs0:List Str}(hK:X.K=K)(hc:f8 K x fs0=true)(hi:B1 K x=true):dg X (.builtin "isinstance") (Ly K x):=by
 subst hK;intro pins s σ H xs us Q I r h;obtain⟨v,C,rfl,hC,h⟩:=h;obtain⟨u,w,rfl,rx,rw'⟩:=nQ r;cases(show w=MP C from rw');obtain⟨D,cf⟩:=jX hc;cases bB hC cf.at_;obtain⟨E,e,q⟩:=ig hi;rw[iF hC] at e;cases e;simp only[Nh,OL,N5] at q;obtain⟨⟨⟨⟨q1,q2⟩,q3⟩,q4⟩,q5⟩:=q;rcases h with ⟨a,dx,fs,rfl,ha,h⟩|⟨T,ty,ht,h⟩
 ·exact o8 I rx (.ins ha cf.cls q1 q2 q3 q4) (by unfold O9;rw[Nd (Ru _)]) λtk=>⟨.bl true,H,I.tok tk,rfl,h⟩
 ·exact o8 I rx ty (q5 T ht) λtk=>⟨.bl false,H,I.tok tk,rfl,h⟩
theorem jz {K:HD}{x:Str}{fs:List Str}(h:f8 K x fs=true):∃ C,cO K x C:=by
 obtain⟨C,cf⟩:=jX h;exact⟨C,cf.at_⟩
namespace ZF
theorem noFillT:fillsNumberSlot (.type "tuple") "mul"=pure false:=PySem.fillsNumberSlot_seq (id:="tuple.__mul__") (r:=some (.builtin "tuple.__rmul__")) Q0.lookup (by decide +kernel) S4.lookup (by decide +kernel)
theorem repT:seqRepeat? (.type "tuple")=pure (some (.builtin "tuple.__mul__")):=by
 unfold seqRepeat?;rw[Vw (T:="tuple") (name:="__mul__") (id:="tuple.__mul__") Q0.lookup (by decide +kernel)];rw[Vw (T:="tuple") (name:="__rmul__") (id:="tuple.__rmul__") S4.lookup (by decide +kernel)];rfl
theorem rmulT (a:Int) (t:Tok) (l:Mz) (items:Array Mj) (n:Nat) (dd:Option Mz) (sl:Array (Option Mj)) :
  Meets (Pg.«int.__rmul__» ⟨[.int a t,.ref l],[]⟩) (λ_ R s=>s.heap.get? l=some ⟨.type "tuple",dd,.seq items n,sl⟩/\R (.ok (.ret Value.notImplemented)) s):=.of_wp λprog w A R s h=>by
 obtain⟨hp,g,d,tk,os⟩:=s;obtain⟨hl,h⟩:=h
 wp_walk
 exact⟨_,rfl,h⟩
theorem mulT3 (t:Tok) (l:Mz) (x:Mj) (n:Nat) (dd:Option Mz) (sl:Array (Option Mj)) :
  Meets (Pg.«tuple.__mul__» ⟨[.ref l,.int 3 t],[]⟩) (λ_ R s=>s.heap.get? l=some ⟨.type "tuple",dd,.seq #[x] n,sl⟩/\R (.ok (.ret (.ref s.heap.objs.size))) { s with heap:=s.heap.push { cls:=.type "tuple",data:=.seq #[x,x,x] } }):=.of_wp λprog w A R s h=>by
 obtain⟨hp,g,d,tk,os⟩:=s;obtain⟨hl,h⟩:=h;have f1:=PySem.AutoSeq1.idx_int;have f2:=PySem.AutoSeq1.sub_tuple_tuple
 wp_walk using wpAny_loadPart' hl
 exact⟨_,rfl,h⟩
end ZF
section
variable {X:Cx}
def J5:R2:=λx y H Q=>∃ a z,x=.ref a/\y=.int 3/\H a=some (.tup [z])/\∀ p,H p=none->Q (.ref p) (upd H p (.tup [z,z,z]))
theorem FR:k_ X (Qo .Mult) J5:=by
 intro pins s σ H x y v u Q I rx ry h;obtain⟨a,z,rfl,rfl,ha,q⟩:=h;cases rx;obtain⟨t,rfl⟩:=ry;obtain⟨its,r,p1,_⟩:=I.tuple (dF.of (K:=X.K) ha);obtain⟨v,rfl,rv⟩:=ki r;obtain⟨o,e,c,n,d⟩:=p1;obtain⟨oc,dd,od,sl⟩:=o;simp only at c d;subst c d;refine Sz (T:="tuple") (U:="int") (by decide) ⟨_,e,rfl⟩ (λs'=>T4 s' 3 t) ZF.noFillT UF QJ ZF.repT Uv.lookup
  (T2 QJ (T4 s 3 t) Uu (T9 _ _) (ZF.rmulT 3 t a #[v] n dd sl)
   ⟨e,rfl,⟨_,e,rfl⟩,T2 Q0 ⟨_,e,rfl⟩ PySem.F.entry_tuple_mul (PySem.F.args_tuple_mul_2 _ _) (ZF.mulT3 t a v n dd sl) ⟨e,?_⟩⟩)
 have hf:H s.heap.objs.size=none:=I.hok.fresh (Mm _);refine⟨.ref s.heap.objs.size,upd H s.heap.objs.size (.tup [z,z,z]),I.laid (t':=s.toks) (λb u e=>Mg _ e) (Mm _) ?_,rfl,q _ hf⟩;exact⟨by show 3<=MI;decide,[v,v,v],.cons rv (.cons rv (.cons rv .nil)),⟨_,Mn _ rfl,rfl,_,rfl⟩⟩
end
structure En where
 w:R3
 b:R3
structure En.In (e:En):Prop where
 a0:0<=e.b.a
 a1:e.b.a<e.w.a
 a2:e.w.a<=1000
 b0:0<=e.b.b
 b1:e.b.b<e.w.b
 b2:e.w.b<=1000
 c0:0<=e.b.c
 c1:e.b.c<e.w.c
 c2:e.w.c<=1000
theorem Hn (n:Int):rD (n:Rat)=qA n 1:=by
 show qA (n:Rat).num ((n:Rat).den:Int)=_;rw[R0,RY];rfl
theorem Es (n:Int):((n:Int):Rat)/((1:Int):Rat)=(n:Rat):=by
 have:((1:Int):Rat)=1:=rfl;rw[this];grind
theorem tJ {k:Nat}{n:Int}(h:Sm k n)(hk:0<k):Bq k (n:Rat):=by
 have e:=Es n;rw[<- e];refine gN (by decide) h ?_;unfold Sm;have:=Nat.one_lt_two_pow (n:=k) (by lia)
 simpa using this
theorem Kt {n:Int}(h0:-1000<=n)(h:n<=1000):Sm 10 n:=by unfold Sm;lia
theorem R3.at {r:R3}{i:Nat}{d:M4}(h:r.ds[i]?=some d):∃ n,d=.int n/\((i=0/\n=r.a)\/(i=1/\n=r.b)\/(i=2/\n=r.c)):=by
 rcases pJ h with ⟨rfl,rfl⟩|⟨rfl,rfl⟩|⟨rfl,rfl⟩
 ·exact⟨_,rfl,.inl ⟨rfl,rfl⟩⟩
 ·exact⟨_,rfl,.inr (.inl ⟨rfl,rfl⟩)⟩
 ·exact⟨_,rfl,.inr (.inr ⟨rfl,rfl⟩)⟩
def Lb (b w:Int)(q:Rat):Bool:=decide (b*(q.den:Int)<=q.num)&&decide (q.num<=w*(q.den:Int))
def En.has (e:En)(c:Q3):Bool:=Lb e.b.a e.w.a c.a&&(Lb e.b.b e.w.b c.b&&(Lb e.b.c e.w.c c.c&&true))
section
variable {K:HD}{g:TG}{tt:TT}{te:TE}{σ0:L2.St}{Fin:List V->Hp->Prop}{H1:Hp}
theorem zn {t r D:Mz}{xs:List V}{Pn:Nat->Int->Prop} (tw:bQ H1 t r) (hD:H1 D=some (.lst xs)) (nD:D ∉ [t,r]) (hl:xs.length <= 1000)
  (he:∀ i x H,xs[i]?=some x->bQ H t r->Mv [t,r] H1 H->kH g tt te σ0 x H λy H'=>bQ H' t r/\Mv [t,r] H H'/\∃ n,Pn i n/\y=.int n)
  (hd:∀ (ns:List Int) H,ns.length=xs.length->(∀ i n,ns[i]?=some n->Pn i n)->bQ H t r->Mv [t,r] H1 H->Fin (ns.map V.int) H):gR (uj K D true) g tt te σ0 Fin H1:=by
 refine⟨λi m ys H=>m=xs.length-i/\i<=xs.length/\bQ H t r/\Mv [t,r] H1 H/\∃ ns:List Int,ys=ns.map V.int/\ns.length=i/\∀ j n,ns[j]?=some n->Pn j n,⟨xs.length,by lia,Nq _,tw,Mv.refl,[],rfl,rfl,λj n h=>by simp at h⟩,?_⟩;rintro i m ys H ⟨rfl,hi,tw',mv,ns,rfl,hn,hP⟩;have hq:bH K H D xs:=bH.of (mv _ _ hD nD)
 by_cases hlt:i<xs.length
 ·have go:(uj K D true).go i H:=⟨xs,xs[i],hq,by simp[hlt]⟩
  refine .inr ⟨go,bD (by rw[Mq];lia),λx H3 y3=>?_⟩;obtain⟨rfl,hx⟩:H3=H/\xs[i]?=some x:=⟨y3.1,y3.2 xs hq⟩
  refine he i x _ hx tw' mv _ (λy H' ⟨tw2,mv2,n,hp,ey⟩=>⟨xs.length-(i+1),by lia,rfl,hlt,tw2,mv.trans mv2,ns++[n],?_,?_,λj k hj=>?_⟩) λH5=>∃ m',m'<xs.length-i/\(m'=xs.length-(i+1)/\i+1<=xs.length/\bQ H5 t r/\Mv [t,r] H1 H5/\∃ ns':List Int,ns.map V.int=ns'.map V.int/\ns'.length=i+1/\∀ j n,ns'[j]?=some n->Pn j n)
  ·rw[ey,Og];rfl
  ·rw[ML,hn];rfl
  ·by_cases hj':j<ns.length
   ·rw[OA hj'] at hj;exact hP j k hj
   ·rw[NT (by lia)] at hj;have:j-ns.length=0:=by
     cases z:j-ns.length with
     |zero=>rfl
     |succ k=>rw[z] at hj;cases hj
    rw[this] at hj;cases hj;rw[show j=i by lia];exact hp
 ·have e:i=xs.length:=by lia
  subst e;exact .inl ⟨⟨xs,hq,Mm _⟩,di (by rw[Mq];lia),hd ns H hn hP tw' mv⟩
end
theorem Io {n:Int}(h:n≠0):(n:Rat)≠0:=λz=>h (Rat.intCast_eq_zero_iff.mp z)
def R3.col (r:R3):Q3:=⟨(r.a:Rat),(r.b:Rat),(r.c:Rat)⟩
section
variable {K:HD}{g:TG}{tt:TT}{te:TE}{σ0:L2.St}{Fin:List V->Hp->Prop}{H1:Hp}
theorem qd {lo:Int}{n:Nat} (Pv:Nat->List V->Hp->Prop) (h0:Pv 0 [] H1) (hl:n <= 1000) (hy:∀ i ys H,i <= n->Pv i ys H->ys.length <= i)
  (he:∀ i ys H,i<n->Pv i ys H->∀ (R:V->Hp->Prop) (S:Hp->Prop),(∀ y H',Pv (i+1) (ys++[y]) H'->R y H')->(∀ H',Pv (i+1) ys H'->S H')->g (.int (lo+i)) σ0 H λσ' H4=>tt σ' H4 λc H5=>if c=true then te σ' H5 R else S H5)
  (hd:∀ ys H,Pv n ys H->Fin ys H):gR (Dj lo n) g tt te σ0 Fin H1:=by
 refine⟨λi m ys H=>m=n-i/\i<=n/\Pv i ys H,⟨n,by lia,Nq _,h0⟩,?_⟩;rintro i m ys H ⟨rfl,hi,p⟩;have hyl:=hy i ys H hi p
 by_cases hlt:i<n
 ·refine .inr ⟨hlt,bD (by lia),λx H3 y3=>?_⟩;obtain⟨e1,e2⟩:=y3;subst e1 e2;exact he i ys _ hlt p _ _ (λy H' z=>⟨n-(i+1),by lia,rfl,hlt,z⟩) (λH' z=>⟨n-(i+1),by lia,rfl,hlt,z⟩)
 ·have e:i=n:=by lia
  subst e;exact .inl ⟨Mm _,di (by lia),hd ys H p⟩
end
section
variable {K:HD}{g:TG}{tt:TT}{te:TE}{σ0:L2.St}{Fin:List V->Hp->Prop}{H1:Hp}
theorem lR (Pv:Nat->List V->Hp->Prop) (h0:Pv 0 [] H1) (hl:xs.length <= 1000) (hsrc:∀ i ys H,i <= xs.length->Pv i ys H->ck K H a xs b/\ys.length <= i)
  (he:∀ i x ys H,xs[i]?=some x->Pv i ys H->∀ (R:V->Hp->Prop) (S:Hp->Prop),(∀ y H',Pv (i+1) (ys++[y]) H'->R y H')->(∀ H',Pv (i+1) ys H'->S H')->g x σ0 H λσ' H4=>tt σ' H4 λc H5=>if c=true then te σ' H5 R else S H5)
  (hd:∀ ys H,Pv xs.length ys H->Fin ys H):gR (uj K a b) g tt te σ0 Fin H1:=by
 refine⟨λi m ys H=>m=xs.length-i/\i<=xs.length/\Pv i ys H,⟨xs.length,by lia,Nq _,h0⟩,?_⟩;rintro i m ys H ⟨rfl,hi,p⟩;obtain⟨hq,hyl⟩:=hsrc i ys H hi p
 by_cases hlt:i<xs.length
 ·have go:(uj K a b).go i H:=by cases b<;>exact⟨xs,xs[i],hq,by simp[hlt]⟩
  refine .inr ⟨go,bD (by lia),λx H3 y3=>?_⟩;have e3:H3=H/\xs[i]?=some x:=by cases b<;>exact⟨y3.1,y3.2 xs hq⟩
  obtain⟨rfl,hx⟩:=e3;exact he i x ys _ hx p _ _ (λy H' z=>⟨xs.length-(i+1),by lia,rfl,hlt,z⟩) (λH' z=>⟨xs.length-(i+1),by lia,rfl,hlt,z⟩)
 ·have e:i=xs.length:=by lia
  subst e;have stop:(uj K a b).stop xs.length H:=by cases b<;>exact⟨xs,hq,Mm _⟩
  exact .inl ⟨stop,di (by lia),hd ys H p⟩
end
theorem Hw {K:HD}{H:Hp}{a:Mz}{xs:List V}{i:Int}{j:Nat}{v:V}{Q:VK}(h:H a=some (.lst xs))(e:xs[j]?=some v)(hi:i=(j:Int))(q:Q v H):Gh K (.ref a) (.int i) H Q:=
 .inl ⟨a,xs,_,v,rfl,rfl,bH.of h,by rw[hi];exact nK e,q⟩
def KT (K:HD)(a:Mz)(xs:List V):Prop:=∃ (o:Obj) (its:Array Mj) (n:Nat),K.lookup a=some o/\o.cls=.type "tuple"/\o.data=.seq its n/\its.size<=MI/\aM xs its.toList
theorem KT.sq {K:HD}{H:Hp}{a:Mz}{xs:List V}(h:KT K a xs):dF K H a xs:=.inr h
theorem Fn {s:Mp}{K:HD}{fd:NW}{args:Args}{binds:List (Str × Mj)}{D:Mz}{o:Obj}{part:Option Mj}{kk:Obj->Sem (List (Str × Mj))} (X:K.In s.heap) (e:K.lookup D=some o)
  (h1:NF fd args=Sem.load D part kk)(h2:kk o=pure binds):Us s fd args binds:=λM A E Q hq=>by
 refine(PySem.W.Looks.of_peek X ?_).here hq;rw[h1];have h2':kk o=Sem.pure binds:=h2;simp only[PySem.W.peek,e,h2']
def LS (n l m:Int):M4->Bool
 |.tuple ds=>decide ((ds.length:Int)=n)&&(ds.map (Fx l m)).all id
 |_=>false
theorem GV {X:Cx}{K:HD}(e:X.K=K):KG X (JR K):=by subst e;exact Iw
end TR
namespace TR
open PySem PySem.Spec PyProof.Rows
def Up (xs:List Nat):Prop:=xs.Pairwise (·<·)
theorem yz (h:Up xs){i j:Nat}(hi:i<j)(hj:j<xs.length):xs[i]<xs[j]:=
 Sq.mp h i j (by lia) hj hi
theorem Db {j:Nat} (h:Up xs.toList):∀ (f lo hi:Nat),hi <= xs.size->hi <= lo + f->lo <= hi ->
  (∀ i (w:i<xs.size),i<lo->xs[i]<j)->(∀ i (w:i<xs.size),hi<=i->j<=xs[i]) ->
  (∀ i (w:i<xs.size),i<Ra xs j f lo hi->xs[i]<j)/\(∀ i (w:i<xs.size),Ra xs j f lo hi<=i->j<=xs[i])/\Ra xs j f lo hi<=xs.size:=by
 intro f
 induction f with
 |zero=>
  intro lo hi h1 h2 h3 ha hb;have:lo=hi:=by lia
  subst this;exact⟨ha,hb,h1⟩
 |succ f ih=>
  intro lo hi h1 h2 h3 ha hb;unfold Ra
  split
  ·rename_i hlt
   have hm:(lo+hi)/2<xs.size:=by lia
   have hg:xs.getD ((lo+hi)/2) j=xs[(lo+hi)/2]:=by simp[U0,hm]
   dsimp only;rw[hg]
   split
   ·rename_i hc
    refine ih _ _ h1 (by lia) (by lia) (λi w hi'=>?_) hb
    by_cases e:i=(lo+hi)/2
    ·subst e;exact hc
    ·have:=yz h (i:=i) (j:=(lo+hi)/2) (by lia) (by simpa using hm);simp only[NK] at this;lia
   ·rename_i hc
    refine ih _ _ (by lia) (by lia) (by lia) ha (λi w hi'=>?_)
    by_cases e:i=(lo+hi)/2
    ·subst e;lia
    ·have:=yz h (i:=(lo+hi)/2) (j:=i) (by lia) (by simpa using w);simp only[NK] at this;lia
  ·have:lo=hi:=by lia
   subst this;exact⟨ha,hb,h1⟩
theorem s_ {j:Nat} (h:Up xs.toList) :
  (∀ i (w:i<xs.size),i<Nn xs j->xs[i]<j)/\(∀ i (w:i<xs.size),Nn xs j<=i->j<=xs[i])/\Nn xs j<=xs.size:=by
 unfold Nn;exact Db h _ _ _ (Mm _) (by lia) (by lia) (λi w hi=>by lia) (λi w hi=>by lia)
theorem EG {j:Nat}(h:Up xs.toList)(hj:(xs[Nn xs j]?==some j)=false):j∉xs.toList:=by
 intro hm;obtain⟨i,hi,e⟩:=NO hm;have hi':i<xs.size:=by simpa using hi
 simp only[NK] at e;obtain⟨b1,b2,b3⟩:=s_ (j:=j) h;have h1:¬ i<Nn xs j:=λq=>by have:=b1 i hi' q;lia
 by_cases h2:Nn xs j=i
 ·rw[h2] at hj;simp[hi',e] at hj
 ·have h3:Nn xs j<xs.size:=by lia
  have:=b2 _ h3 (Mm _);have:=yz h (i:=Nn xs j) (j:=i) (by lia) (by simpa using hi');simp only[NK] at this;lia
theorem zc (xs:Array α)(p:Nat)(x:α):(SM xs p x).toList=xs.toList.take p++x::xs.toList.drop p:=by
 unfold SM;simp;exact Nf (by simp)
theorem ve {j:Nat}(h:Up xs.toList)(hj:j∉xs.toList):Up (SM xs (Nn xs j) j).toList:=by
 rw[zc];obtain⟨b1,b2,b3⟩:=s_ (j:=j) h;unfold Up at *;rw[Uc,Oh];refine⟨h.sublist (SI _ _),⟨λa ha=>?_,h.sublist (U3 _ _)⟩,λa ha b hb=>?_⟩
 ·obtain⟨i,hi,e⟩:=NO ha;rw[U4] at e;have hi':Nn xs j+i<xs.size:=by simp only[OZ,NJ] at hi;lia
  have:=b2 _ hi' (by lia);simp only[NK] at e;have hne:a≠j:=λq=>hj (q▸(U3 _ _).subset ha)
  lia
 ·have haj:a<j:=by
   obtain⟨i,hi,e⟩:=NO ha;rw[U5] at e;simp only[M3,NJ] at hi;have:=b1 i (by lia) (by lia);simp only[NK] at e;lia
  rcases Mx.mp hb with rfl|hb
  ·exact haj
  ·obtain⟨i,hi,e⟩:=NO hb;rw[U4] at e;have hi':Nn xs j+i<xs.size:=by simp only[OZ,NJ] at hi;lia
   have:=b2 _ hi' (by lia);simp only[NK] at e;lia
theorem uU {t:Qg}{j:Nat}(h:Up t.place.toList)(hs:∀ i,t.slot j≠.live i):j∉t.place.toList:=by
 refine EG h ?_;cases e:(t.place[Nn t.place j]?==some j) with
 |false=>rfl
 |true=>
  refine absurd ?_ (hs (Nn t.place j));unfold SetTable.slot;dsimp only;rw[Nd e]
theorem zw {t:Qg}{ha:Nat->Int}{hh:Int} (h:Up t.place.toList):∀ (f:Nat) (p:SetTable.Probe),(∀ d,p.dummy=some d->d ∉ t.place.toList) ->
  ∀ j d,Va t ha hh f p=some (.empty j d)->d.getD j∉t.place.toList:=by
 intro f
 induction f with
 |zero=>intro p _ j d e;cases e
 |succ f ih=>
  intro p hp j d e;unfold Va at e
  split at e
  ·rename_i hs
   cases e;have:=uU h (j:=p.j) (λi=>by rw[hs];exact λq=>by cases q);cases hd:p.dummy with
   |none=>exact this
   |some d=>exact hp d hd
  ·rename_i hs
   have:=uU h (j:=p.j) (λi=>by rw[hs];exact λq=>by cases q);refine ih _ (λd hd=>?_) j d e;have hd':some p.j=some d:=by
    rw[<- hd];unfold Vx;dsimp only;split<;>rfl
   cases hd';exact this
  ·split at e
   ·cases e
   ·refine ih _ (λd hd=>hp d ?_) j d e;rw[<- hd];unfold Vx;dsimp only;split<;>rfl
theorem vk {t:Qg}{hh:Int}{slot:Nat}{dm:Bool}(h:Up t.place.toList)(e:t.freeSlot hh=some (slot,dm)):slot∉t.place.toList:=by
 unfold SetTable.freeSlot at e
 split at e
 ·rename_i j d q
  cases e;exact zw h _ _ (λd hd=>by cases hd) _ _ q
 ·cases e
def Tb (led:Bool)(t:Qg):Prop:=Up t.place.toList/\t.led=led
theorem EE (n:Nat):Up (Array.range n).toList:=by
 rw[Array.toList_range];exact Tl
theorem jO (n:Nat)(h:Tb led t):Tb led (t.standIn n):=⟨EE n,h.2⟩
theorem HY {led:Bool}{t:Qg}{es:Array (Int×Mj)}{hh:Int}{x:Mj}(h:Tb led t):Tb led (layNew t es hh x).2.1:=by
 unfold layNew
 split
 ·rename_i slot dm e
  dsimp only;unfold SetTable.orStandIn
  split
  ·exact⟨ve h.1 (vk h.1 e),h.2⟩
  ·exact jO _ ⟨ve h.1 (vk h.1 e),h.2⟩
 ·exact jO _ h
theorem F2 {f:Nat->Option Nat}:∀ {l:List Nat},Up l->Up ((l.filterMap λj=>(f j).map (j,·)).map (·.1)):=by
 intro l
 induction l with
 |nil=>intro _;exact SF
 |cons a l ih=>
  intro h;have h':=Oh.mp h;have:=ih h'.2;rw[Qs];cases e:f a with
  |none=>exact this
  |some b=>
   refine Oh.mpr ⟨λx hx=>?_,this⟩;obtain⟨y,hy,rfl⟩:=Nc.mp hx;obtain⟨j,hj,q⟩:=PX.mp hy;cases e':f j with
   |none=>rw[e'] at q;cases q
   |some c=>rw[e'] at q;cases q;exact h'.1 j hj
theorem DM {led:Bool}{t:Qg}{es:Array (Int×Mj)}{n:Nat}(h:Tb led t):Tb led (UU t es n).2.1:=by
 unfold UU
 split
 ·rename_i t' order e
  dsimp only
  split
  ·unfold SetTable.relaid SetTable.laid at e;cases q:SetTable.layClean (SetTable.sizeAbove n-1) (es.map (·.1)) with
   |none=>rw[q] at e;cases e
   |some owner=>
    rw[q] at e;cases e;refine⟨?_,h.2⟩;simp only;exact F2 Tl
  ·exact jO _ h
 ·exact jO _ h
section
variable {pr:MS}{wo:No}{Ar:ND}{Ex:Mj->Mp->Prop}{st:Mp}
def iZ (pr:MS)(wo:No)(led:Bool)(H:Os)(a:Mz)(ks:List Int):Prop:=
 ∃ ob xs ep tb,H.get? a=some ob/\ob.ExactSet/\ob.data=.set xs ep tb/\ElemsOf (PD pr wo) xs.toList /\
  (∀ k,k∈ks↔∃ e∈xs.toList,(PD pr wo).is k e.2=true)/\xs.size<scanBound/\tb.fits xs.size=true/\xs.size=ks.length/\ks.Nodup/\Tb led tb
theorem p_ {led:Bool}{H:Os}{a:Mz}{ob:Obj}{xs ys:Array (Int × Mj)}{ep:Nat}{tb tc:Qg}{ks:List Int}
  (g1:H.get? a=some ob)(g2:ob.ExactSet)(g3:ob.data=.set xs ep tb)(g4:ElemsOf (PD pr wo) ys.toList)(g5:∀ k,k∈ks↔∃ e∈ys.toList,(PD pr wo).is k e.2=true)
  (g6:ys.size<scanBound)(g7:tc.fits ys.size=true)(g8:ys.size=ks.length)(g9:ks.Nodup)(g10:Tb led tc):
  (H.update a (U8 ys tc)).get? a=some { ob with data:=.set ys (ep+1) tc }/\iZ pr wo led (H.update a (U8 ys tc)) a ks:=by
 have e:=putSet_of ys tc g3;have q:=Nm (U8 ys tc) g1 (by rw[e];rfl);rw[e] at q;exact⟨q,_,ys,ep+1,tc,q,g2,rfl,g4,g5,g6,g7,g8,g9,g10⟩
theorem rP {gw:Bool->Sem Unit} (hgw:∀ (b:Bool) (u:Mp) (Q':Unit->Mp->Prop),Q' () u->MB (MW pr wo) Ar (gw b) Q' Ex u)
  {led:Bool}{a:Mz}{ob:Obj}{xs ys:Array (Int×Mj)}{ep:Nat}{tb tc:Qg}{ks:List Int}
  (g1:st.heap.get? a=some ob)(g2:ob.ExactSet)(g3:ob.data=.set xs ep tb)(g4:ElemsOf (PD pr wo) ys.toList)(g5:∀ k,k∈ks↔∃ e∈ys.toList,(PD pr wo).is k e.2=true)
  (g6:ys.size<scanBound)(g7:tc.fits ys.size=true)(g8:ys.size=ks.length)(g9:ks.Nodup)(g10:Tb led tc){dm:Bool}{R:Option Bool->Mp->Prop}
  (hR:∀ H',Nv a st.heap H'->iZ pr wo led H' a ks->R (some true) { st with heap:=H' }):
  MB (MW pr wo) Ar (do
    storeSet a ys tc
    if (!dm && tc.tooFull)=true then do
      gw (UU tc ys (PP ys.size)).2.2
      storeSet a (UU tc ys (PP ys.size)).1 (UU tc ys (PP ys.size)).2.1
      pure (some true)
     else pure (some true)) R Ex st:=by
 obtain⟨q1,q2⟩:=p_ g1 g2 g3 g4 g5 g6 g7 g8 g9 g10;have sb:=Ng st.heap a (U8 ys tc);refine KE (wpAny_storeSet_of g1 g3 ?_ (fits_of_scanBound g6))
 split
 ·have pm:=relayAll_perm tc ys (PP ys.size);have ft:=relayAll_fits tc ys (PP ys.size);have tr:=DM (es:=ys) (n:=PP ys.size) g10;generalize UU tc ys (PP ys.size)=Z at pm ft tr ⊢;obtain⟨zs,td,gv⟩:=Z;dsimp only at pm ft tr ⊢;have hz:zs.size=ys.size:=by have:=pm.length_eq;simpa using this
  refine KE (hgw _ _ _ ?_);refine KE (wpAny_storeSet_of q1 rfl ?_ (fits_of_scanBound (by rw[hz];exact g6)));obtain⟨_,q3⟩:=p_ (ob:={ ob with data:=.set ys (ep+1) tc }) (ks:=ks) q1 g2 rfl (g4.perm pm)
   (λk=>(g5 k).trans ⟨λ⟨e,m,i⟩=>⟨e,pm.mem_iff.mpr m,i⟩,λ⟨e,m,i⟩=>⟨e,pm.mem_iff.mp m,i⟩⟩) (by rw[hz];exact g6) ft (hz.trans g8) g9 tr
  exact Mh (hR _ (sb.trans (Ng _ a _)) q3)
 ·exact Mh (hR _ sb q2)
theorem Cs {k:Int} (hu:iZ pr wo led st.heap a ks) (hroom:ks.length + 1 < scanBound)
  (h:∀ H',Nv a st.heap H'->iZ pr wo led H' a (if k∈ks then ks else ks++[k])->Q (!decide (k∈ks)) { st with heap:=H' }):
  MB (MW pr wo) Ar (setAddHashed a (.int k tk) ((PD pr wo).hash k)) Q Ex st:=by
 obtain⟨ob,xs,ep,tb,g1,g2,g3,g4,g5,g6,g7,g8,g9,g10⟩:=hu;have isk:(PD pr wo).is k (.int k tk)=true:=intKind_is _ _ _ _;have sck:(PL k tk).scannable=true:=rfl;have rm:xs.size+1<scanBound:=by rw[g8];exact hroom
 unfold setAddHashed setAddHashedIn;refine NN (KE (Ny g1 g3 g7 ?_));dsimp only;rw[byScan_of (knd:=PD pr wo) sck g6 g4];simp only[↓reduceIte];unfold setAddByScan;refine KE (KE (QF ?_));refine KE (wpAny_setScan_of (knd:=PD pr wo) isk g1 g3 g7 g4 ?_);cases hf:List.findIdx? (λe=>(PD pr wo).is k e.2) xs.toList with
 |some j=>
  dsimp only;obtain⟨hj,pj,_⟩:=List.findIdx?_eq_some_iff_getElem.mp hf;have hm:k∈ks:=(g5 k).mpr ⟨_,OM hj,pj⟩;have:=h st.heap (Q5 a st.heap) (by rw[Nd hm];exact⟨ob,xs,ep,tb,g1,g2,g3,g4,g5,g6,g7,g8,g9,g10⟩);rw[Ms hm] at this;exact Mh (Mh this)
 |none=>
  dsimp only;have hm:k∉ks:=λq=>by
   obtain⟨e,he,hp⟩:=(g5 k).mp q;have:=List.findIdx?_eq_none_iff.mp hf e he;rw[hp] at this;cases this
  rw[MT hm,Na hm] at h;have pm:=layNew_perm tb xs ((PD pr wo).hash k) (.int k tk);have ft:=layNew_fits tb xs ((PD pr wo).hash k) (.int k tk);have tr:=HY (es:=xs) (hh:=(PD pr wo).hash k) (x:=.int k tk) g10;generalize layNew tb xs ((PD pr wo).hash k) (.int k tk)=Z at pm ft tr ⊢;obtain⟨ys,tc,dm,gv⟩:=Z;dsimp only at pm ft tr ⊢;rw[U1] at pm;have hz:ys.size=xs.size+1:=by have:=pm.length_eq;simpa using this
  have e4:ElemsOf (PD pr wo) ys.toList:=(g4.push isk sck).perm pm;have e5:∀ k',k'∈ks++[k]↔∃ e∈ys.toList,(PD pr wo).is k' e.2=true:=λk'=>by
   have:=mem_push_iff (knd:=PD pr wo) (S:=λz=>decide (z∈ks)) isk (λz=>by rw[Rc];exact g5 z) pm k';rw[<- this];simp
  have e9:(ks++[k]).Nodup:=U7.mpr ⟨g9,by simp,λx hx y hy=>by
   rw[Ml] at hy;subst hy;exact λq=>hm (q▸hx)⟩
  refine KE ?_;have done:∀ (b:Bool) (u:Mp) (Q':Unit->Mp->Prop),Q' () u->MB (MW pr wo) Ar (match b with|true=>rule "set.scan.the-table-gave-way"|false=>pure ()) Q' Ex u:=
   λb u Q' q=>by cases b<;>first|exact Mh q|exact QF q
  refine done _ _ _ ?_;have goal:∀ td:Qg,td.fits ys.size=true->Tb led td->∀ H',Nv a st.heap H'->iZ pr wo led H' a (ks++[k])->Q true { st with heap:=H' }:=λ_ _ _ H' s1 s2=>h H' s1 s2
  split
  ·refine KE ?_;rw[hashByValue_scannable 8 sck];refine Mh ?_;refine rP done (ks:=ks++[k]) g1 g2 g3 e4 e5 (by lia) (tc:=if plainKind (.int k tk)=true then tc else { tc with plain:=false }) (ft) (by simp[hz,g8]) e9 tr λH' s1 s2=>?_
   exact Mh (h H' s1 s2)
  ·refine KE (Mh ?_);simp only[↓reduceIte];refine rP done (ks:=ks++[k]) g1 g2 g3 e4 e5 (by lia) ft (by simp[hz,g8]) e9 tr λH' s1 s2=>?_
   exact Mh (h H' s1 s2)
end
theorem tG {i:Nat}(h:xs[i]?=some x):(x::xs.eraseIdx i).Perm xs:=by
 induction xs generalizing i with
 |nil=>cases h
 |cons a xs ih=>
  cases i with
  |zero=>cases h;exact Sl _
  |succ i=>
   simp only[List.getElem?_cons_succ] at h;exact(List.Perm.swap a x _).trans ((ih h).cons a)
theorem Gc (nx:Nat->Nat):∀ (f k:Nat) (left:List α) (out:Array α),f=left.length ->
  (Vq nx f k left out).toList.Perm (out.toList++left):=by
 intro f
 induction f with
 |zero=>intro k left out e;cases left with
  |nil=>simp[Vq]
  |cons a l=>cases e
 |succ f ih=>
  intro k left out e;unfold Vq;have hlt:nx k%left.length<left.length:=Nat.mod_lt _ (by lia);have hg:left[nx k%left.length]?=some left[nx k%left.length]:=MC hlt;rw[hg];dsimp only;refine(ih _ _ _ (by rw[R' hlt];lia)).trans ?_;rw[U1,Ou];exact List.Perm.append_left _ (tG hg)
theorem uM (nx:Nat->Nat)(xs:Array α):(R1 nx xs).toList.Perm xs.toList:=by
 unfold R1;have:=Gc nx xs.size 0 xs.toList #[] (by simp)
 simpa using this
def lA (pl:Array Nat)(i:Nat):Nat:=if i=0 then 0 else pl.getD (i-1) 0+1
theorem tQ (h:Up pl.toList){i:Nat}(hi:i<=pl.size):Nn pl (lA pl i)=i:=by
 obtain⟨b1,b2,b3⟩:=s_ (j:=lA pl i) h;have lo:∀ (k:Nat) (w:k<pl.size),k<i->pl[k]<lA pl i:=λk w q=>by
  cases i with
  |zero=>lia
  |succ i=>
   have hp:i<pl.size:=by lia
   have eg:lA pl (i+1)=pl[i]+1:=by simp[lA,U0,hp]
   rw[eg]
   by_cases e:k=i
   ·subst e;lia
   ·have u:=yz h (i:=k) (j:=i) (by lia) (by simpa using hp);simp only[NK] at u;lia
 have up:∀ (k:Nat) (w:k<pl.size),i<=k->lA pl i<=pl[k]:=λk w q=>by
  cases i with
  |zero=>simp[lA]
  |succ i=>
   have hp:i<pl.size:=by lia
   have eg:lA pl (i+1)=pl[i]+1:=by simp[lA,U0,hp]
   rw[eg];have u:=yz h (i:=i) (j:=k) (by lia) (by simpa using w);simp only[NK] at u;lia
 have n1:¬ Nn pl (lA pl i)<i:=λq=>by
  have w:Nn pl (lA pl i)<pl.size:=by lia
  have x1:=lo _ w q;have x2:=b2 _ w (Mm _);lia
 have n2:¬ i<Nn pl (lA pl i):=λq=>by
  have w:i<pl.size:=by lia
  have x1:=up _ w (Mm _);have x2:=b1 _ w q;lia
 lia
theorem dE:Slot "set_iterator" "__next__" "set_iterator.__next__":=
 .of (owner:="set_iterator") (n:="__next__") (by rw[typeLookup_type,builtinLookup_eq_fast];kernel_rfl) (by decide +kernel) (by decide +kernel) (by decide +kernel)
  (by first|exact .inl (by decide +kernel)|exact .inr (by decide +kernel)) (by rw[isSubtype_type];kernel_rfl)
theorem k8:entryFor table "set_iterator.__next__"=some Pg.«set_iterator.__next__»:=entryFor_of_fast (by kernel_rfl)
theorem mw (a:Mj):argsOk "set_iterator.__next__" ⟨[a],[]⟩:=by unfold argsOk;kernel_rfl
theorem mr:Slot "set_iterator" "__iter__" "set_iterator.__iter__":=
 .of (owner:="set_iterator") (n:="__iter__") (by rw[typeLookup_type,builtinLookup_eq_fast];kernel_rfl) (by decide +kernel) (by decide +kernel) (by decide +kernel)
  (by first|exact .inl (by decide +kernel)|exact .inr (by decide +kernel)) (by rw[isSubtype_type];kernel_rfl)
theorem rQ:entryFor table "set_iterator.__iter__"=some Pg.«dict_keyiterator.__iter__»:=
 entryFor_alias (id':="dict_keyiterator.__iter__") (by kernel_rfl) rfl (by decide +kernel) (by kernel_rfl)
theorem ur (a:Mj):argsOk "set_iterator.__iter__" ⟨[a],[]⟩:=by unfold argsOk;kernel_rfl
theorem qr:entryFor table "set.__iter__"=some Pg.«frozenset.__iter__»:=
 entryFor_alias (id':="frozenset.__iter__") (by kernel_rfl) rfl (by decide +kernel) (by kernel_rfl)
theorem zF {n:Nat} (hn:n ≠ 0)
  (h:∀ i d,i<n->Q i { s with drawn:=d }):MB M A (choose src n) Q E s:=λ_ _ _=>by
 show Sem.wp _ _ (Sem.choose src n Sem.pure) _ _ _ _;rw[Sem.wp_choose];exact⟨hn,h _ _ (Nat.mod_lt _ (by lia))⟩
theorem Fp:∀ (n:Nat) (xs:List α) (s:Mp) (Q:List α->Mp->Prop),xs.length=n ->
  (∀ ys d,ys.Perm xs->Q ys { s with drawn:=d })->MB M A (drawOrder n xs) Q E s:=by
 intro n
 induction n with
 |zero=>
  intro xs s Q hl h;cases xs with
  |nil=>exact Mh (h [] s.drawn (Sl _))
  |cons a l=>cases hl
 |succ n ih=>
  intro xs s Q hl h;cases xs with
  |nil=>cases hl
  |cons a l=>
   unfold drawOrder;refine KE (zF (by simp) λi d hi=>?_);have hg:(a::l)[i]?=some (a::l)[i]:=MC hi;rw[hg];dsimp only;refine KE (ih _ _ _ (by rw[R' hi];simp at hl ⊢;lia) λys d' hp=>?_);exact Mh (h _ _ ((hp.cons _).trans (tG hg)))
section
variable {pr:MS}{wo:No}{Ar:ND}{Ex:Mj->Mp->Prop}{st:Mp}
def vH (wo:No):Bool:=wo.params.followText "set-order"
theorem jT (h:Q (vH wo) st):MB (MW pr wo) Ar setsByText Q Ex st:=by
 unfold setsByText;exact KE (Qp (Mh h))
def HP (wo:No)(H:Os)(S T:Mz)(es:Array (Int×Mj))(ep:Nat)(tb:Qg)(vs:List Mj)(i:Nat)(fi:Mj):Prop:=
 (vH wo=true/\(∃ sl t,fi=.int sl t)/\vs=(R1 (wo.params.setOrder S ep) es).toList.map (·.2)) \/
 (vH wo=false/\(!tb.plain&&decide (es.size>1))=true/\fi=.ref T/\∃ (o:Obj) (n:Nat) (pl:List Nat),H.get? T=some o/\o.data=.seq (pl.map λj:Nat=>OX j).toArray n/\pl.Perm (On es.size)/\vs=pl.map λj=>(es[j]?.map (·.2)).getD .none) \/
 (vH wo=false/\(!tb.plain&&decide (es.size>1))=false/\tb.led=true/\Up tb.place.toList/\tb.place.size=es.size/\fi=.int (lA tb.place i) 0/\vs=es.toList.map (·.2))
def GP (wo:No)(H:Os)(I S T:Mz)(ob:Obj)(es:Array (Int×Mj))(ep:Nat)(tb:Qg)(vs:List Mj)(i:Nat):Prop:=
 H.get? S=some ob/\∃ fi o,H.get? I=some o/\o.cls=.type "set_iterator"/\o.data=.fields #[fi,.int i 0,.ref S,.int es.size 0,.int ep 0]/\HP wo H S T es ep tb vs i fi
theorem wg {ep:Nat}{i:Nat}(h:HP wo H S T es ep tb vs i fi):vs.length=es.size:=by
 rcases h with ⟨_,_,rfl⟩|⟨_,_,_,_,_,pl,_,_,hp,rfl⟩|⟨_,_,_,_,_,_,rfl⟩
 ·have:=(uM (wo.params.setOrder S ep) es).length_eq;simp at this ⊢;exact this
 ·have:=hp.length_eq
  simpa using this
 ·simp
theorem CW {ep:Nat}{i:Nat}(h:HP wo H S T es ep tb vs i fi):vs.Perm (es.toList.map (·.2)):=by
 rcases h with ⟨_,_,rfl⟩|⟨_,_,_,_,_,pl,_,_,hp,rfl⟩|⟨_,_,_,_,_,_,rfl⟩
 ·exact(uM (wo.params.setOrder S ep) es).map _
 ·refine(hp.map _).trans (List.Perm.of_eq ?_);apply List.ext_getElem
  ·simp
  ·intro j h1 h2;simp at h1 ⊢;simp[h1]
 ·exact Sl _
theorem rH {H:Os}{I S T:Mz}{ob:Obj}{es:Array (Int×Mj)}{ep:Nat}{tb:Qg}{vs:List Mj}{i:Nat}(h:GP wo st.heap I S T ob es ep tb vs i):st.TypeIs (.ref I) "set_iterator":=by
 obtain⟨_,_,o,h1,h2,_⟩:=h;exact⟨o,h1,h2⟩
end
section
variable {pr:MS}{wo:No}{Ar:ND}{Ex:Mj->Mp->Prop}{st:Mp}
theorem sj {ep:Nat}{i:Nat} (h:HP wo H S T es ep tb vs i fi)
  (k:∀ o,H.get? T=some o->H'.get? T=some o):HP wo H' S T es ep tb vs i fi:=by
 rcases h with h|⟨a1,a2,a3,o,n,pl,a4,a5⟩|h
 ·exact .inl h
 ·exact .inr (.inl ⟨a1,a2,a3,o,n,pl,k _ a4,a5⟩)
 ·exact .inr (.inr h)
theorem C4 {I S T:Mz}{ob:Obj}{es:Array (Int × Mj)}{ep:Nat}{tb:Qg}{vs:List Mj}{i:Nat}{x:Mj}{Q:Option Mj->Mp->Prop}
  (h:GP wo st.heap I S T ob es ep tb vs i)(hob:ob.data=.set es ep tb)(hf:tb.fits es.size=true)(hSI:S≠I)(hTI:T≠I)(hx:vs[i]?=some x)
  (hQ:∀ H',GP wo H' I S T ob es ep tb vs (i+1)->Nv I st.heap H'->Q (some x) { st with heap:=H' }):
  MB (MW pr wo) Ar (Ql (.ref I)) Q Ex st:=by
 have hT:=rH (st:=st) (H:=st.heap) h;obtain⟨hS,fi,o,ho,hc,hd,hw⟩:=h;unfold Ql;refine KE (PF (Nb (name:=NY "__next__") hT dE
  (Nk dE hT k8 ?_ (mw _))))
 show MB _ _ (fieldsOf (.ref I) >>= _) _ _ st;refine KE (Qm ho hd ?_);show MB _ _ (T3 S >>= _) _ _ st;refine KE ?_;unfold T3;refine KE (Ny hS hob hf ?_);refine Mh ?_;dsimp only;rw [MT (by simp)];have fin1:∀ (H1:Os) (o1:Obj) (f1:Mj),H1.get? I=some o1->o1.cls=.type "set_iterator"->o1.data=.fields #[f1,.int i 0,.ref S,.int es.size 0,.int ep 0]->Nv I st.heap H1 ->
   HP wo st.heap S T es ep tb vs (i+1) f1 ->
   MB (MW pr wo) Ar.in1 (do UX (.ref I) 1 (OX ((i:Int)+1));ret x) (λr s'=>∃ v,r=.done (.ret v)/\MB (MW pr wo) Ar (pure (some v)) Q Ex s') (λe s'=>MB (MW pr wo) Ar (do if(<- Vd e (.type "StopIteration")) then pure none else throw e) Q Ex s') { st with heap:=H1 }:=by
  intro H1 o1 f1 g1 g2 g3 g4 g5;refine KE (OC g1 g3 (by simp) (Mh ⟨x,rfl,Mh ?_⟩));have sb:Nv I st.heap (H1.update I (UK (·.setIfInBounds 1 (OX ((i:Int)+1))))):=g4.trans (Ng ..);refine hQ _ ⟨?_,f1,_,Nm _ g1 (OE (NA g3 _)),(Qf ..).trans g2,by rw[NA g3];simp[OX],?_⟩ sb
  ·rw[sb.2 S hSI];exact hS
  ·exact sj g5 λo' e=>by rw[sb.2 T hTI];exact e
 have hlen:=wg hw;have hlt:i<es.size:=by rw[<- hlen];exact(Mu.mp hx).1
 rcases hw with ⟨b1,⟨sl,t,rfl⟩,e⟩|⟨b1,b2,rfl,oT,nT,pl,b3,b4,b5,e⟩|⟨b1,b2,b3,b4,b5,rfl,e⟩
 ·show MB _ _ (UC S sl.toNat (P8 (i:Int)) (P8 (ep:Int))>>=_) _ _ st;refine KE ?_;unfold UC;refine KE (Ny hS hob hf ?_);dsimp only;refine KE (jT ?_);rw[Nd b1];simp only[M6,SQ,NE,O4];refine KE ?_;unfold setWalk;refine KE (Ny hS hob hf ?_);dsimp only;refine KE (jT ?_);rw[Nd b1];refine KE (Qp (Mh (Mh ?_)));have hx':(R1 (wo.params.setOrder S ep) es)[i]?.map (λe=>e.2)=some x:=by
   rw[e] at hx;rw[<- hx];simp
  obtain⟨q,q1,q2⟩:=MJ.mp hx';show MB _ _ (match (R1 (wo.params.setOrder S ep) es)[i]?.map (λe=>(e.2,sl.toNat)) with|some (x,next)=>_|none=>_) _ _ _;rw[q1];dsimp only [Option.map];rw[q2];refine KE (OC ho hd (by simp) ?_);exact fin1 _ _ (OX (sl.toNat:Int)) (Nm _ ho (OE (NA hd _))) ((Qf ..).trans hc) (by rw[NA hd];simp) (Ng ..) (.inl ⟨b1,⟨_,_,rfl⟩,e⟩)
 ·show MB _ _ (UV (.ref T)>>=_) _ _ st;refine KE (OB b3 b4 ?_);have hp:∃ j:Nat,pl[i]?=some j/\j<es.size:=by
   have:i<pl.length:=by rw[b5.length_eq];simpa using hlt
   exact⟨pl[i],MC this,by simpa using (b5.mem_iff.mp (OM this))⟩
  obtain⟨j,j1,j2⟩:=hp;have hpl:(pl.map λj:Nat=>OX j).toArray[i]?=some (.int j 0):=by simp[j1,OX]
  show MB _ _ (match (pl.map λj:Nat=>OX j).toArray[P8 (i:Int)]? with|some (.int place _)=>_|some _=>_|none=>_) _ _ _;rw[M6,hpl];dsimp only;refine KE ?_;unfold setNextDrawn;refine KE (Ny hS hob hf ?_);dsimp only;have hxx:es[j]?=some es[j]:=by simp[j2]
  have hxe:x=es[j].2:=by
   rw[e] at hx;simp[j1,hxx] at hx;exact hx.symm
  simp only[M6,SQ,NE,O4,hxx];refine Mh ?_;rw[<- hxe];exact fin1 _ _ _ ho hc hd (Q5 _ _) (.inr (.inl ⟨b1,b2,rfl,oT,nT,pl,b3,b4,b5,e⟩))
 ·show MB _ _ (UC S (P8 (lA tb.place i:Int)) (P8 (i:Int)) (P8 (ep:Int))>>=_) _ _ st;refine KE ?_;unfold UC;refine KE (Ny hS hob hf ?_);dsimp only;refine KE (jT ?_);rw[MT (by rw[b1];simp)];show MB _ _ (if(!tb.plain&&decide (es.size>1))=true then _ else _) _ _ _;rw[MT (by rw[b2];simp)];refine KE ?_;show MB _ _ (if(!tb.led&&!es.isEmpty)=true then _ else(pure ():Sem Unit)) _ _ _;rw[MT (by rw[b3];simp)];refine Mh ?_;have bs:=tQ (pl:=tb.place) b4 (i:=i) (by rw[b5];lia);have p1:es[i]?=some es[i]:=by simp[hlt]
  have hlp:i<tb.place.size:=by rw[b5];exact hlt
  have p2:tb.place[i]?=some tb.place[i]:=by simp[hlp]
  have p3:x=es[i].2:=by
   rw[e] at hx;simp[hlt] at hx;exact hx.symm
  have p4:lA tb.place (i+1)=tb.place[i]+1:=by simp[lA,U0,hlp]
  simp only[M6,bs,p1,p2];refine Mh ?_;rw[<- p3];refine KE (OC ho hd (by simp) ?_);exact fin1 _ _ (OX ((tb.place[i]+1:Nat):Int)) (Nm _ ho (OE (NA hd _))) ((Qf ..).trans hc) (by rw[NA hd];simp) (Ng ..)
   (.inr (.inr ⟨b1,b2,b3,b4,b5,by rw[p4];rfl,e⟩))
end
section
variable {pr:MS}{wo:No}{Ar:ND}{Ex:Mj->Mp->Prop}{st:Mp}
theorem Gj {ep:Nat}{i:Nat} (hh:Ar.handled=none)
  (h:GP wo st.heap I S T ob es ep tb vs i)(hob:ob.data=.set es ep tb)(hf:tb.fits es.size=true)(hx:i=vs.length)
  (hQ:∀ H',RO I st.heap H'->Q none { st with heap:=H' }):
  MB (MW pr wo) Ar (Ql (.ref I)) Q Ex st:=by
 have hT:=rH (st:=st) (H:=st.heap) h;obtain⟨hS,fi,o,ho,hc,hd,hw⟩:=h;unfold Ql;refine KE (PF (Nb (name:=NY "__next__") hT dE
  (Nk dE hT k8 ?_ (mw _))))
 show MB _ _ (fieldsOf (.ref I) >>= _) _ _ st;refine KE (Qm ho hd ?_);show MB _ _ (T3 S >>= _) _ _ st;refine KE ?_;unfold T3;refine KE (Ny hS hob hf ?_);refine Mh ?_;dsimp only;rw [MT (by simp)];have hlen:=wg hw;have fin1:∀ (H1:Os) (o1:Obj) (f1:Array Mj),H1.get? I=some o1->o1.data=.fields f1->f1.size=5->Nv I st.heap H1 ->
   MB (MW pr wo) Ar.in1 (do UX (.ref I) 2 .none;let __do_lift <- VH (Ox "StopIteration") [];(raiseNew __do_lift:Sem Fin)) (λr s'=>∃ v,r=.done (.ret v)/\MB (MW pr wo) Ar (pure (some v)) Q Ex s') (λe s'=>MB (MW pr wo) Ar (do if(<- Vd e (.type "StopIteration")) then pure none else throw e) Q Ex s') { st with heap:=H1 }:=by
  intro H1 o1 f1 g1 g3 g4 g5;refine KE (OC g1 g3 (by lia) ?_);refine KE ?_;simp only[VH,newTuple];refine KE (M1 ?_ (by size_fits));refine KE (m:=O_ _ _) (S' (a:=NH) (by first|rfl|(simp only[O_];rfl)) ?_);refine M1 ?_ (by size_fits);simp only[raiseNew];refine KE (S7 ?_);rw[show Ar.in1.handled=none from hh];refine KE (Mh (UD ?_));refine KE (PN (T:="StopIteration") (b:=true) ⟨_,Mn _ rfl,rfl⟩ Sx ?_);exact Mh (hQ _ (((g5.trans (Ng ..)).extBut.push _).push _))
 rcases hw with ⟨b1,⟨sl,t,rfl⟩,e⟩|⟨b1,b2,rfl,oT,nT,pl,b3,b4,b5,e⟩|⟨b1,b2,b3,b4,b5,rfl,e⟩
 ·show MB _ _ (UC S sl.toNat (P8 (i:Int)) (P8 (ep:Int))>>=_) _ _ st;refine KE ?_;unfold UC;refine KE (Ny hS hob hf ?_);dsimp only;refine KE (jT ?_);rw[Nd b1];simp only[M6,SQ,NE,O4];refine KE ?_;unfold setWalk;refine KE (Ny hS hob hf ?_);dsimp only;refine KE (jT ?_);rw[Nd b1];refine KE (Qp (Mh (Mh ?_)));have q1:(R1 (wo.params.setOrder S ep) es)[i]?=none:=by
   have:vs.length=(R1 (wo.params.setOrder S ep) es).size:=by rw[e];simp
   rw[Array.getElem?_eq_none_iff];lia
  show MB _ _ (match (R1 (wo.params.setOrder S ep) es)[i]?.map (λe=>(e.2,sl.toNat)) with|some (x,next)=>_|none=>_) _ _ _;rw[q1];dsimp only [Option.map];exact fin1 st.heap o _ ho hd rfl (Q5 _ _)
 ·show MB _ _ (UV (.ref T)>>=_) _ _ st;refine KE (OB b3 b4 ?_);have hpl:(pl.map λj:Nat=>OX j).toArray[i]?=none:=by
   have:vs.length=pl.length:=by rw[e];simp
   simp;lia
  show MB _ _ (match (pl.map λj:Nat=>OX j).toArray[P8 (i:Int)]? with|some (.int place _)=>_|some _=>_|none=>_) _ _ _;rw[M6,hpl];dsimp only;refine KE (OC ho hd (by simp) ?_);exact fin1 _ _ _ (Nm _ ho (OE (NA hd _))) (NA hd _) (by simp) (Ng ..)
 ·show MB _ _ (UC S (P8 (lA tb.place i:Int)) (P8 (i:Int)) (P8 (ep:Int))>>=_) _ _ st;refine KE ?_;unfold UC;refine KE (Ny hS hob hf ?_);dsimp only;refine KE (jT ?_);rw[MT (by rw[b1];simp)];show MB _ _ (if(!tb.plain&&decide (es.size>1))=true then _ else _) _ _ _;rw[MT (by rw[b2];simp)];refine KE ?_;show MB _ _ (if(!tb.led&&!es.isEmpty)=true then _ else(pure ():Sem Unit)) _ _ _;rw[MT (by rw[b3];simp)];refine Mh ?_;have bs:=tQ (pl:=tb.place) b4 (i:=i) (by rw[b5];lia);have p1:es[i]?=none:=by simp;lia
  simp only[M6,bs,p1];refine Mh ?_;exact fin1 st.heap o _ ho hd rfl (Q5 _ _)
theorem C0 {ep:Nat}{i:Nat}
  (h:GP wo st.heap I S T ob es ep tb vs i)(hQ:Q (.ref I) st):MB (MW pr wo) Ar (Ul (.ref I)) Q Ex st:=by
 have hT:=rH (st:=st) (H:=st.heap) h;refine Rf hT mr (Nk mr hT rQ ?_ (ur _));show MB _ _ (ret (.ref I)) _ _ st;exact Mh ⟨_,rfl,"set_iterator",_,hT,dE.lookup,hQ⟩
theorem yD {ep:Nat}{i:Nat} (h:GP wo H I S T ob es ep tb vs i)
  (k:∀ b∈[I,S,T],∀ o,H.get? b=some o->H'.get? b=some o):GP wo H' I S T ob es ep tb vs i:=by
 obtain⟨hS,fi,o,ho,hc,hd,hw⟩:=h;exact⟨k S (by simp) _ hS,fi,o,k I (by simp) _ ho,hc,hd,sj hw λo' e=>k T (by simp) _ e⟩
theorem BU {ep:Nat} (hh:Ar.handled=none)
  (hob:ob.data=.set es ep tb)(hf:tb.fits es.size=true)(hSI:S≠I)(hTI:T≠I):
  Walks pr wo Ar I [I,S,T] [I] vs.length (λi v=>vs[i]?=some v) (λi H=>GP wo H I S T ob es ep tb vs i) where
 sub:=λb hb=>by simp at hb;simp[hb]
 frame:=λ_ _ _ st hk=>yD st hk
 item:=λi s Q E hi st hQ=>by
  have hx:vs[i]?=some vs[i]:=by simp[hi]
  refine C4 st hob hf hSI hTI hx λh' hit' hs'=>?_
  exact hQ _ h' s.toks hx hit' λb o hb e=>hs'.extBut b o (λh=>hb (by simp[h])) e
 done:=λs Q E st hQ=>Gj hh st hob hf rfl λh' he'=>hQ h' s.toks λb o hb e=>he' b o (λh=>hb (by simp[h])) e
 self:=λ_ _ _ _ st hQ=>C0 st hQ
end
section
variable {pr:MS}{wo:No}{Ar:ND}{Ex:Mj->Mp->Prop}{st:Mp}
theorem Dq {H:Os}{S:Mz}{ob:Obj}(hS:st.heap.get? S=some ob)(hx:ob.ExactSet):st.TypeIs (.ref S) "set":=⟨ob,hS,hx.1⟩
theorem CN {S:Mz}{ob:Obj}{es:Array (Int × Mj)}{ep:Nat}{tb:Qg}{Q:Mj->Mp->Prop} (hS:st.heap.get? S=some ob) (hx:ob.ExactSet)
  (hob:ob.data=.set es ep tb)(hf:tb.fits es.size=true)(ht:Tb (!vH wo) tb)(hsz:es.size<scanBound)
  (hQ:∀ (I T:Mz) (H':Os) (d:Drawn) (vs:List Mj),GP wo H' I S T ob es ep tb vs 0->T≠I->S≠I->st.heap.objs.size<=I->(∀ b o,st.heap.get? b=some o->H'.get? b=some o) ->
   (∀ b∈[I,S,T],b<H'.objs.size)->st.heap.objs.size<=H'.objs.size->(T=S\/st.heap.objs.size<=T)->Q (.ref I) { st with heap:=H',drawn:=d }) :
  MB (MW pr wo) Ar (Ul (.ref S)) Q Ex st:=by
 have hT:=Dq (st:=st) (H:=st.heap) hS hx;refine Rf hT F.slot_set_iter (Nk F.slot_set_iter hT qr ?_ (F.args_set_iter_1 _));unfold Pg.«frozenset.__iter__»;have hlS:S<st.heap.objs.size:=Mr hS;have hpl:tb.place.size=es.size:=by
  unfold SetTable.fits at hf;simp at hf;exact hf.1
 show MB _ _ (SA S >>= _) _ _ st;refine KE ?_;unfold SA T3;refine KE (KE (Ny hS hob hf (Mh (Mh ?_))));dsimp only;have fin:∀ (fi:Mj) (s1:Mp) (T:Mz) (vs:List Mj),s1.heap.get? S=some ob->(∀ b o,st.heap.get? b=some o->s1.heap.get? b=some o)->HP wo s1.heap S T es ep tb vs 0 fi->T < s1.heap.objs.size->st.heap.objs.size <= s1.heap.objs.size ->
   (T=S\/st.heap.objs.size<=T)->(∃ (g:Os) (d:Drawn),s1={ st with heap:=g,drawn:=d }) ->
   MB (MW pr wo) Ar.in1 (do let __do_lift <- setEpoch S;let __do_lift <- newFields "set_iterator" [fi,OX 0,.ref S,OX es.size,OX __do_lift];ret __do_lift)
    (λr s'=>∃ v,r=.done (.ret v)/\∃ T' r,s'.TypeIs v T'/\typeLookup (.type T') "__next__"=pure (some r)/\Q v s') Ex s1:=by
  intro fi s1 T vs h1 h2 h3 h4 h5 h6 ⟨g,d,h7⟩;subst h7;unfold setEpoch;refine KE (KE (Ny h1 hob hf (Mh ?_)));dsimp only;refine KE (M1 (Mh ⟨_,rfl,"set_iterator",_,⟨_,Mn _ rfl,rfl⟩,dE.lookup,?_⟩));have h4:T<g.objs.size:=h4;have h5:st.heap.objs.size<=g.objs.size:=h5;refine hQ g.objs.size T _ d vs ⟨Mg _ h1,fi,_,Mn _ rfl,rfl,rfl,sj h3 λo e=>Mg _ e⟩ (MR h4) (MR (MG hlS h5)) h5
   (λb o e=>Mg _ (h2 b o e)) (λb hb=>?_) (by rw[Nw];exact Nat.le_succ_of_le h5) h6
  rw[Nw];simp only[Mx,MM,Od] at hb;rcases hb with rfl|rfl|rfl
  ·exact N6 _
  ·exact Qe (MG hlS h5)
  ·exact Qe h4
 refine KE ?_;unfold setDrawn;refine KE (Ny hS hob hf ?_);dsimp only;refine KE (jT (Mh ?_));show MB _ _ (if(!vH wo&&(!tb.plain&&decide (es.size>1)))=true then _ else _) _ _ _;cases b1:vH wo with
 |true=>
  simp only[Bool.not_true,Qi,NE,O4];refine KE (Mh ?_);exact fin (OX 0) st S _ hS (λ_ _ e=>e) (.inl ⟨b1,⟨_,_,rfl⟩,rfl⟩) hlS (Mm _) (.inl rfl) ⟨_,_,rfl⟩
 |false=>
  cases b2:(!tb.plain&&decide (es.size>1)) with
  |false=>
   simp only[Ug,NE,O4];refine KE (Mh ?_);refine fin (OX 0) st S _ hS (λ_ _ e=>e) (.inr (.inr ⟨b1,b2,?_,ht.1,hpl,rfl,rfl⟩)) hlS (Mm _) (.inl rfl) ⟨_,_,rfl⟩;rw[ht.2,b1];rfl
  |true=>
   simp only[Bool.not_false,Ry,PR];refine KE (Fp es.size (On es.size) _ _ U6 λys d hp=>?_);refine KE (Um ?_ (by rw[Mq,hp.length_eq,U6];unfold scanBound at hsz;rw[N7];lia));refine fin (.ref st.heap.objs.size) _ st.heap.objs.size _ (Mg _ hS) (λ_ _ e=>Mg _ e) (.inr (.inl ⟨b1,b2,rfl,_,0,ys,Mn _ rfl,rfl,hp,rfl⟩))
    (by rw[Nw];exact N6 _) (by rw[Nw];exact RT _) (.inr (Mm _)) ⟨_,_,rfl⟩
end
section
variable {pr:MS}{wo:No}{Ar:ND}{Ex:Mj->Mp->Prop}{st:Mp}
theorem Dh (hT:st.TypeIs (.ref S) "set")(h:Q false st):MB (MW pr wo) Ar (RJ (.ref S)) Q Ex st:=by
 unfold RJ;refine KE (R6 hT F.slot_set_len.lookup ?_);show MB _ _ (Vd (.ref S) (.type "set")>>=_) _ _ _;refine KE (PN hT sub_set_self ?_);refine wpAny_ite_split (λhab=>absurd hab (by decide)) (λ_=>?_);refine wpAny_ite_split (λ_=>?_) (λhab=>absurd (by decide +kernel) hab);refine KE (T1 hT ?_);exact Mh h
theorem zZ (h:ItemsOf (λi v=>vs[i]?=some v) acc vs.length):acc.toList=vs:=by
 apply SG;intro i;cases e:acc.toList[i]? with
 |none=>
  rw[Sn] at e;have:=h.1
  symm
  rw[Sn];simp at e;lia
 |some v=>exact(h.2 i v (by simpa using e)).symm
theorem xW {ep:Nat} (hh:Ar.handled=none) (hS:st.heap.get? S=some ob) (hx:ob.ExactSet)
  (hob:ob.data=.set es ep tb)(hf:tb.fits es.size=true)(ht:Tb (!vH wo) tb)(hsz:es.size<scanBound)
  (hQ:∀ (g:Os) (d:Drawn) (tk:Nat) (vs:List Mj),(∀ b o,st.heap.get? b=some o->g.get? b=some o)->st.heap.objs.size<g.objs.size->st.toks<=tk->vs.Perm (es.toList.map (·.2))->Q vs { st with heap:=g,drawn:=d,toks:=tk }):
  MB (MW pr wo) Ar (collect (.ref S)) Q Ex st:=by
 have hlS:S<st.heap.objs.size:=Mr hS;unfold collect;refine KE (Uo (OW F.entry_proto_collect ?_));rw[OO F.plain_proto_collect _];show MB _ Ar.in1 (newList []>>=λl=>again (.builtin "list.__iadd__" ⟨[l,.ref S],[]⟩)) _ _ st;refine KE (M1 ?_);refine Mh ⟨S6 SD _,OW F.entry_list_iadd ?_⟩;rw[OO SD _];show MB _ Ar.in1 (P5 (.ref st.heap.objs.size) (.ref S) (.ref st.heap.objs.size)) _ _ _;unfold P5;have hS1:(st.heap.push { cls:=.type "list",data:=.seq ([]:List Mj).toArray }).get? S=some ob:=Mg _ hS;have hL1:(st.heap.push { cls:=.type "list",data:=.seq ([]:List Mj).toArray }).get? st.heap.objs.size=some { cls:=.type "list",data:=.seq ([]:List Mj).toArray }:=Mn _ rfl;have hsz1:(st.heap.push { cls:=.type "list",data:=.seq ([]:List Mj).toArray }).objs.size=st.heap.objs.size+1:=Nw _ _;have up1:∀ b o,st.heap.get? b=some o->(st.heap.push { cls:=.type "list",data:=.seq ([]:List Mj).toArray }).get? b=some o:=λb o e=>Mg _ e
 generalize st.heap.push { cls:=.type "list",data:=.seq ([]:List Mj).toArray }=g1 at hS1 hL1 hsz1 up1 ⊢;refine KE (T1 (T:="set") ⟨ob,hS1,hx.1⟩ ?_);have hSL:st.heap.objs.size≠S:=OD hlS;have h1:SB (.ref st.heap.objs.size) (.ref S)=false:=by simp[SB,hSL]
 have h2:(Ox "set"==Ox "list")=false:=by decide
 have h3:(Ox "set"==Ox "tuple")=false:=by decide
 simp only[h1,h2,h3,Bool.or_false,NE,O4];refine KE (CN (st:={ st with heap:=g1 }) hS1 hx hob hf ht hsz λI T g2 d vs ws hTI hSI hI up2 lt2 l7 hT2=>?_);refine KE (NN (Dh ⟨ob,ws.1,hx.1⟩ ?_));have hlen:vs.length=es.size:=by obtain⟨_,_,_,_,_,_,hw⟩:=ws;exact wg hw
 have hper:vs.Perm (es.toList.map (·.2)):=by obtain⟨_,_,_,_,_,_,hw⟩:=ws;exact CW hw
 show MB _ Ar.in1 (rule "list.extend.makes-room">>=λ_=>Builtin.List.listTouch (.ref st.heap.objs.size)>>=λ_=>
  again (.builtin "list.extend.loop" ⟨[.ref st.heap.objs.size,.ref I,.ref st.heap.objs.size],[]⟩)) _ _ _
 refine KE (QF ?_);have hI':st.heap.objs.size+1<=I:=by rw[<- hsz1];exact hI
 have hLI:st.heap.objs.size≠I:=MR hI';have hLT:st.heap.objs.size≠T:=by
  rcases hT2 with rfl|q
  ·exact hSL
  ·have q:g1.objs.size<=T:=q;rw[hsz1] at q;exact MR q
 have hSf:st.heap.objs.size∉[I,S,T]:=by simp[hLI,hSL,hLT]
 have hS2:=up2 _ _ hL1;refine KE ?_;show MB _ Ar.in1 (updateSeq st.heap.objs.size (·.push .none)>>=λ_=>updateSeq st.heap.objs.size (·.pop)) _ _ _;refine KE (wpAny_updateSeq hS2 rfl ?_);have hS₂:=Nm (Pp (·.push NH)) hS2 rfl;refine wpAny_updateSeq hS₂ rfl ?_;have hS₃:=Nm (Pp (·.pop)) hS₂ rfl;have oth:∀ b o,b≠st.heap.objs.size->g2.get? b=some o->((g2.update st.heap.objs.size (Pp (·.push NH))).update st.heap.objs.size (Pp (·.pop))).get? b=some o:=
  λb o hb e=>(N0 _ _ (OU hb)).trans ((N0 _ _ (OU hb)).trans e)
 have W:=(BU (pr:=pr) (wo:=wo) (Ar:=Ar.in1) (I:=I) (S:=S) (T:=T) (ep:=ep) (tb:=tb) (vs:=vs) (by simp[hh]) hob hf hSI hTI).toS;refine Mh ⟨S6 F.plain_extend_loop _,codeAny_extend_loopS W (by rw[hlen,N7];unfold scanBound at hsz;lia) _ hSf _ vs.length 0 _ _ _ rfl (Nq _)
  (yD ws λb hb o e=>oth b o (λq=>hSf (q▸hb)) e) hS₃ (ItemsOf.nil _) λs' acc' c' hm hS' hacc=>?_⟩
 show MB _ Ar (load st.heap.objs.size>>=_) _ _ s';refine KE (wpAny_load hS' ?_);refine Mh ?_;rw[zZ hacc];obtain⟨g3,gn,dn,tk,os⟩:=s';have e1:gn=st.gens:=hm.gens;have e2:dn=d:=hm.drawn;have e3:os=st.os:=hm.os;subst e1;subst e2;subst e3;refine hQ g3 dn tk vs (λb o e=>?_) (Mr hS') hm.toks hper;have lb:=Mr e;have nb:b≠st.heap.objs.size:=MR lb;have nI:b≠I:=MR (MG lb (Qd hI'));exact hm.heap b o (by simp[nb,nI]) (oth b o nb (up2 b o (up1 b o e)))
end
theorem FT:∀ {ks ns:List Int},ks.Nodup->(∀ k∈ks,k∈ns)->ns.length=ks.length->ns.Perm ks:=by
 intro ks
 induction ks with
 |nil=>intro ns _ _ hl;cases ns with
  |nil=>exact Sl _
  |cons a l=>cases hl
 |cons k ks ih=>
  intro ns hn hm hl;have hk:=hm k (by simp);have pe:=List.perm_cons_erase hk;have hn':=N3.mp hn;refine pe.trans ((ih hn'.2 (λx hx=>?_) ?_).cons k)
  ·have:=hm x (Mt _ hx);exact(List.mem_erase_of_ne (λe:x=k=>hn'.1 (e▸hx))).mpr this
  ·have:=pe.length_eq;simp at this hl;lia
theorem FA:∀ {vs:List Mj},(∀ v∈vs,∃ k t,v=.int k t)->∃ ns,Pm vs ns/\ns.length=vs.length/\∀ k t,PL k t∈vs->k∈ns:=by
 intro vs
 induction vs with
 |nil=>intro _;exact⟨[],.nil,rfl,λ_ _ h=>by cases h⟩
 |cons v vs ih=>
  intro h;obtain⟨k,t,rfl⟩:=h v (by simp);obtain⟨ns,a1,a2,a3⟩:=ih λw hw=>h w (Mt _ hw)
  refine⟨k::ns,.cons k t a1,by simp[a2],λk' t' hk=>?_⟩;rcases Mx.mp hk with e|e
  ·cases e;simp
  ·exact Mt _ (a3 _ _ e)
theorem ke {n:Nat}(ho:h.get? a=some (QD "list" vs.toArray n)):∃ m,(Ve h a vs out).get? a=some (QD "list" out m):=by
 have ha:=Mr ho;unfold Ve;have e1:=get?_update_seq ho (λ_=>#[]);have e2:(((h.update a (Pp λ_=>#[])).push (QD "tuple" vs.toArray 0)).push (QD "list" #[] 0)).get? a=_:=Mg _ (Mg _ e1);exact⟨_,get?_update_seq e2 (λ_=>out)⟩
theorem jy (hb:a≠b)(e:h.get? b=some o):(Ve h a vs out).get? b=some o:=by
 unfold Ve;rw[N0 _ _ hb];exact Mg _ (Mg _ ((N0 _ _ hb).trans e))
section
variable {pr:MS}{wo:No}{Ar:ND}{Ex:Mj->Mp->Prop}{st:Mp}
theorem zX (hh:Ar.handled=none) (hu:iZ pr wo (!vH wo) st.heap S ks) (h64:ks.length < 64)
  (h:∀ (L:Mz) (g:Os) (d:Drawn) (tk:Nat) (its:Array Mj) (ns:List Int) (n:Nat),st.heap.objs.size<=L->g.get? L=some (QD "list" its n)->Pm its.toList ns->ns.Perm ks->ns.Pairwise (·<=·) ->
   (∀ b o,st.heap.get? b=some o->g.get? b=some o)->st.toks<=tk->Q (.ref L) { st with heap:=g,drawn:=d,toks:=tk }) :
  MB (MW pr wo) Ar (call (.builtin "sorted") [.ref S]) Q Ex st:=by
 obtain⟨ob,xs,ep,tb,g1,g2,g3,g4,g5,g6,g7,g8,g9,g10⟩:=hu;refine Si kind_sorted plain_sorted entry_sorted (args_sorted1 _) ?_;unfold Pg.«sorted»;refine KE (m:=checkCount "sorted" 1 1 _) (Mh ?_);refine KE (xW (by simp[hh]) g1 g2 g3 g7 g10 g6 λg d tk vs up le lt hp=>?_);refine KE (UZ ?_ (by rw[hp.length_eq,N7];simp;lia));have hv:∀ v∈vs,∃ k t,v=PL k t:=λv hv=>by
  obtain⟨e,he,rfl⟩:=Nc.mp (hp.mem_iff.mp hv);obtain⟨⟨k,q,_⟩,_⟩:=g4 e he;obtain⟨t,q'⟩:=SN q;exact⟨k,t,q'⟩
 obtain⟨ns,i1,i2,i3⟩:=FA hv;have hl:vs.length=ks.length:=by rw[hp.length_eq];simp[g8]
 have hns:ns.Perm ks:=FT g9 (λk hk=>by
  obtain⟨e,he,q⟩:=(g5 k).mp hk;obtain⟨t,q'⟩:=SN q;exact i3 k t (q'▸hp.mem_iff.mpr (Nc.mpr ⟨e,he,rfl⟩))) (by lia)
 have hoL:(g.push (QD "list" vs.toArray 0)).get? g.objs.size=some (QD "list" vs.toArray 0):=Mn _ rfl;refine KE (NN (Nk slot_list_sort ⟨_,hoL,rfl⟩ entry_list_sort (list_sort_tree hoL i1 (by lia) λout ns' a1 a2 a3=>⟨_,rfl,?_⟩) (args_list_sort _)));obtain⟨m,hm⟩:=ke (out:=out) hoL;refine Mh ⟨_,rfl,h g.objs.size _ d tk out ns' m (Op le) hm a1 (a2.trans hns) a3 (λb o e=>?_) lt⟩;exact jy (OD (Mr (up b o e))) (Mg _ (up b o e))
end
def met (ns:List Int):List Int:=ns.foldl (λks k=>if k∈ks then ks else ks++[k]) []
theorem DN (ns:List Int)(k:Int):met (ns++[k])=if k∈met ns then met ns else met ns++[k]:=by
 unfold met;rw[SH];rfl
theorem v_ (ns:List Int):(met ns).length<=ns.length:=by
 have go:∀ (ns ks:List Int),(ns.foldl (λks k=>if k∈ks then ks else ks++[k]) ks).length<=ks.length+ns.length:=by
  intro ns
  induction ns with
  |nil=>intro ks;exact Mm _
  |cons a ns ih=>
   intro ks;refine MQ (ih _) ?_;dsimp only
   split<;>simp<;>lia
 have:=go ns []
 simpa [met] using this
theorem GL (ns:List Int)(x:Int):x∈met ns↔x∈ns:=by
 have go:∀ (ns ks:List Int),x∈ns.foldl (λks k=>if k∈ks then ks else ks++[k]) ks↔x∈ks\/x∈ns:=by
  intro ns
  induction ns with
  |nil=>intro ks;simp
  |cons a ns ih=>
   intro ks;rw[Tw,ih]
   split
   ·rename_i h
    constructor
    ·rintro(q|q)
     ·exact .inl q
     ·exact .inr (Mt _ q)
    ·rintro(q|q)
     ·exact .inl q
     ·rcases Mx.mp q with rfl|q
      ·exact .inl h
      ·exact .inr q
   ·simp only[M_,Mx,MM,Od,or_assoc]
 rw[met,go];simp
section
variable {pr:MS}{wo:No}{Ar:ND}{Ex:Mj->Mp->Prop}{st:Mp}
theorem rp (h:iZ pr wo led H a ks)(k:∀ o,H.get? a=some o->H'.get? a=some o):iZ pr wo led H' a ks:=by
 obtain⟨ob,xs,ep,tb,g1,r⟩:=h;exact⟨ob,xs,ep,tb,k _ g1,r⟩
theorem Ek (hh:Ar.handled=none) (hlI:l ≠ I) (hSI:S ≠ I) (hSl:S ≠ l) (hi:Pm its.toList ns) (hb:ns.length + 1 < scanBound)
  (hR:∀ g tk,iZ pr wo led g S (met ns)->(∀ b o,b≠S->b≠I->st.heap.get? b=some o->g.get? b=some o)->st.toks<=tk->R (.ok (.ret .none)) { st with heap:=g,toks:=tk }):
  ∀ (k i:Nat) (g:Os) (tk:Nat),ns.length-i=k->i<=ns.length->g.IsListIter I l i->g.IsList l its->iZ pr wo led g S (met (ns.take i)) ->
   (∀ b o,b≠S->b≠I->st.heap.get? b=some o->g.get? b=some o)->st.toks<=tk ->
   Qx (MW pr wo) Ar (.builtin "set.update.loop" ⟨[.ref S,.ref I],[]⟩) R { st with heap:=g,toks:=tk }:=by
 have hlen:its.toList.length=ns.length:=IntsAre.length hi;have hsz:its.size=ns.length:=by simpa using hlen
 intro k
 induction k with
 |zero=>
  intro i g tk hk hi' hit hl hu up le;have hin:i=ns.length:=by lia
  refine OW SV ?_;rw[OO QI _];show MB _ Ar.in1 (Ql (.ref I)>>=_) _ _ _;refine KE (wpAny_pyNext_list_end (by simp[hh]) hit hl (by simp;lia) λg' ext=>?_);rw[hin,O0] at hu;exact Mh (hR g' tk (rp hu λo e=>ext S o hSI e) (λb o h1 h2 e=>ext b o h2 (up b o h1 h2 e)) le)
 |succ k ih=>
  intro i g tk hk hi' hit hl hu up le;have hlt:i<ns.length:=by lia
  obtain⟨v,hv⟩:∃ v,its[i]?=some v:=⟨its[i]'(by lia),by simp[hsz,hlt]⟩
  obtain⟨t,rfl⟩:=IntsAre.int_at hi i v (by rw[P2];exact hv);refine OW SV ?_;rw[OO QI _];show MB _ Ar.in1 (Ql (.ref I)>>=_) _ _ _;refine KE (Tq hit hl hv λg' hit' sb=>?_);show MB _ Ar.in1 (holding [PL (ns.getD i 0) t] (setAdd S (.int (ns.getD i 0) t))>>=_) _ _ _;refine KE (NN ?_);unfold setAdd;refine NN (KE ((PD pr wo).pyHash (k:=ns.getD i 0) (intKind_is _ _ _ _) ?_));have hu':iZ pr wo led g' S (met (ns.take i)):=rp hu λo e=>by rw[sb.2 S hSI];exact e
  have hroom:(met (ns.take i)).length+1<scanBound:=by
   have:=v_ (ns.take i);rw[M3] at this;lia
  refine Cs hu' hroom λg2 sb2 hu2=>?_
  have et:met (ns.take (i+1))=if ns.getD i 0∈met (ns.take i) then met (ns.take i) else met (ns.take i)++[ns.getD i 0]:=by
   rw[<- DN]
   congr 1
   rw[List.take_succ];simp[hlt,List.getD]
  rw[<- et] at hu2;refine Mh ⟨S6 QI _,ih (i+1) g2 (tk+1) (by lia) hlt ?_ ?_ hu2 (λb o h1 h2 e=>?_) (Nat.le_succ_of_le le)⟩
  ·obtain⟨o,q,r⟩:=hit';exact⟨o,by rw[sb2.2 I (OU hSI)];exact q,r⟩
  ·obtain⟨o,q,r⟩:=hl;exact⟨o,by rw[sb2.2 l (OU hSl)];rw[show g'.get? l=g.get? l from sb.2 l hlI];exact q,r⟩
  ·rw[sb2.2 b h1];show g'.get? b=some o;rw[sb.2 b h2];exact up b o h1 h2 e
theorem BC (a:Mj)
  (h:Q₁ (.ref st.heap.objs.size) { st with heap:=st.heap.push { cls:=.type "set",dict:=none,data:=.set #[] 0 (.fresh 0 0 (!vH wo)) } }):
  Qx (MW pr wo) Ar (.call (.builtin "set.__new__") ⟨[.type "set",a],[]⟩) (wants Q₁ Ex) st:=by
 refine TW ?_;show MB _ Ar.in1 (do checkBuiltinCall "set.__new__" ⟨[.type "set",a],[]⟩;again (.builtin "set.__new__" ⟨[.type "set",a],[]⟩)) _ _ st;refine KE (S' (F.newCall_set_1 a) (Mh ⟨S6 F.plain_set_new _,OW F.entry_set_new ?_⟩));rw[OO F.plain_set_new _];unfold Pg.«set.__new__» Builtin.Frozenset.newClass;have hsub:=sub_set_self;dsimp only
 wp_walk
 refine Qp (Mh ?_);dsimp only;simp only[newObj];refine KE (wpAny_alloc (Mh ?_));exact Mh h
theorem yg (h:H.get? a=some { cls:=.type "set",dict:=none,data:=.set #[] 0 (.fresh 0 0 led) }):iZ pr wo led H a []:=
 ⟨_,#[],0,_,h,⟨rfl,rfl,rfl⟩,rfl,λe he=>by simp at he,λk=>by simp,by decide,by cases led<;>decide,rfl,So,SF,rfl⟩
end
section
variable {pr:MS}{wo:No}{Ar:ND}{Ex:Mj->Mp->Prop}{st:Mp}
theorem Dc (hh:Ar.handled=none) (hl:st.heap.IsList l its) (hi:Pm its.toList ns) (hb:ns.length + 1 < scanBound)
  (h:∀ (g:Os) (tk:Nat),iZ pr wo (!vH wo) g st.heap.objs.size (met ns)->(∀ b o,st.heap.get? b=some o->g.get? b=some o)->st.toks<=tk->Q (.ref st.heap.objs.size) { st with heap:=g,toks:=tk }):
  MB (MW pr wo) Ar (call (.type "set") [.ref l]) Q Ex st:=by
 obtain⟨c,tl,hmro⟩:=P6.mro;have hmade:=P6.made;have hsub:=P6.sub;refine RI (TW ?_);show MB _ _ (callAny (.type "set") _) _ _ _;refine Mh ⟨UE _ (by decide +kernel),OW F.entry_type_call ?_⟩;rw[Around.under_plain (weight_type_call_type "set" [.ref l] []) rfl];have h1:=P6.notType;have h2:=P6.canCreate;have hct:=F.typeCall_set_1 (.ref l)
 repeat (any_goals (first|assumption|wp_step))
 refine Py (BC (pr:=pr) (wo:=wo) (Ex:=Ex) (.ref l) (Q₁:=λobj s₁=>obj=.ref st.heap.objs.size/\s₁={ st with heap:=st.heap.push { cls:=.type "set",dict:=none,data:=.set #[] 0 (.fresh 0 0 (!vH wo)) } }) ⟨rfl,rfl⟩) λr s₁ hr=>?_
 cases r with
 |error e=>exact hr
 |ok fl=>
  cases fl with
  |ret obj=>
   obtain⟨rfl,rfl⟩:=hr;have hS:(st.heap.push { cls:=.type "set",dict:=none,data:=.set #[] 0 (.fresh 0 0 (!vH wo)) }).get? st.heap.objs.size=some { cls:=.type "set",dict:=none,data:=.set #[] 0 (.fresh 0 0 (!vH wo)) }:=Mn _ rfl;have hz:(st.heap.push { cls:=.type "set",dict:=none,data:=.set #[] 0 (.fresh 0 0 (!vH wo)) }).objs.size=st.heap.objs.size+1:=Nw _ _;have up0:∀ b o,st.heap.get? b=some o->(st.heap.push { cls:=.type "set",dict:=none,data:=.set #[] 0 (.fresh 0 0 (!vH wo)) }).get? b=some o:=λb o e=>Mg _ e
   generalize st.heap.push { cls:=.type "set",dict:=none,data:=.set #[] 0 (.fresh 0 0 (!vH wo)) }=g1 at hS hz up0 ⊢;have hT:UQ { st with heap:=g1 } (.ref st.heap.objs.size) "set":=⟨_,hS,rfl⟩
   have hli:=P6.init.lookup;have hbi:=P6.init.bind (.ref st.heap.objs.size)
   repeat (any_goals (first|assumption|wp_step))
   refine Py (codeAny_call_builtin (R:=wants (fun r s₂=>r=.none/\∃ g tk,s₂={ st with heap:=g,toks:=tk }/\iZ pr wo (!vH wo) g st.heap.objs.size (met ns) /\
     (∀ b o,st.heap.get? b=some o->g.get? b=some o)/\st.toks<=tk) Ex) P6.init.plain F.entry_set_init (check_set_init_1 hT ?_)) λr₂ s₂ hr₂=>?_
   ·have hl1:g1.IsList l its:=by obtain⟨o,q,r⟩:=hl;exact⟨o,up0 _ _ q,r⟩
    have hlS:l<st.heap.objs.size:=by obtain⟨o,q,r⟩:=hl;exact Mr q
    obtain⟨ol,hol,hcl,nl,hdl⟩:=id hl1;obtain⟨ocls,odict,odata,oslots⟩:=ol;simp only at hcl hdl;subst hcl;subst hdl;have hsls:=F.sub_list_set;have hslf:=F.sub_list_frozenset;have hne:(Ox "list"==Ox "dict")=false:=by decide
    unfold Pg.«set.__init__» noKeywords Builtin.Frozenset.updateFrom;generalize hPI:Ul=PI
    wp_walk
    subst hPI;refine OS hl1 ?_;refine KE (Uo ?_);have up1:∀ b o,g1.get? b=some o->(g1.push { cls:=.type "list_iterator",data:=.fields #[.ref l,.int 0 0] }).get? b=some o:=λb o e=>Mg _ e
    have hl1s:l<g1.objs.size:=by rw[hz];exact Qe hlS
    have hSs:st.heap.objs.size<g1.objs.size:=by rw[hz];exact N6 _
    refine Ek (st:={ st with heap:=g1 }) (l:=l) (I:=g1.objs.size) (S:=st.heap.objs.size) (led:=!vH wo) (by simp[hh]) (MR hl1s) (MR hSs) (OD hlS) hi hb (λg tk a1 a2 a3=>?_)
     (ns.length-0) 0 _ st.toks rfl (Nq _) ⟨_,Mn _ rfl,rfl,rfl⟩ (hl1.push _) (yg (up1 _ _ hS)) (λb o _ _ e=>up1 b o e) (Mm _)
    show MB _ _ _ _ _ _;refine Mh ?_;show MB _ _ (ret NH) _ _ _;refine Mh ⟨rfl,g,tk,rfl,a1,λb o e=>?_,a3⟩;have lb:=Mr e;exact a2 b o (MR lb) (MR (Nat.lt_trans lb hSs)) (up0 b o e)
   ·cases r₂ with
    |error e=>exact hr₂
    |ok fl₂=>
     cases fl₂ with
     |ret r=>
      obtain⟨rfl,g,tk,rfl,a1,a2,a3⟩:=hr₂
      repeat (any_goals (first|assumption|wp_step))
      exact h _ _ a1 a2 a3
     |_=>exact hr₂.elim
  |_=>exact hr.elim
end
open L2
theorem u_:∀ {ns:List Int}{us:List Mj},aM (ns.map V.int) us->Pm us ns:=by
 intro ns
 induction ns with
 |nil=>intro us r;cases r;exact .nil
 |cons a ns ih=>
  intro us r;cases r with
  |cons h t=>obtain⟨k,rfl⟩:=h;exact .cons a k (ih t)
theorem jH:∀ {ns:List Int}{us:List Mj},Pm us ns->aM (ns.map V.int) us:=by
 intro ns us h
 induction h with
 |nil=>exact .nil
 |cons n t _ ih=>exact .cons ⟨t,rfl⟩ ih
theorem Cu (ns:List Int):(met ns).Nodup:=by
 have go:∀ (ns ks:List Int),ks.Nodup->(ns.foldl (λks k=>if k∈ks then ks else ks++[k]) ks).Nodup:=by
  intro ns
  induction ns with
  |nil=>intro ks h;exact h
  |cons a ns ih=>
   intro ks h;refine ih _ ?_;dsimp only
   split
   ·exact h
   ·rename_i hn
    exact U7.mpr ⟨h,by simp,λx hx y hy=>by
     rw[Ml] at hy;subst hy;exact λq=>hn (q▸hx)⟩
 exact go ns [] So
theorem BD {ns:List Int}(h1:ns.Pairwise (·<=·))(h2:ns.Nodup):ns.Pairwise (·<·):=by
 induction ns with
 |nil=>exact .nil
 |cons a l ih=>
  have p:=Oh.mp h1;have n:=N3.mp h2;refine Oh.mpr ⟨λx hx=>?_,ih p.2 n.2⟩;have:=p.1 x hx;have ne:a≠x:=λe=>n.1 (e▸hx)
  lia
section
variable {X:Cx}{K:HD}{pins:List (Mz×Obj)}{σ:L2.St}{H:Hp}{s:Mp}
theorem BQ (I:aG X pins σ H s)(d:Drawn):aG X pins σ H { s with drawn:=d }:=⟨I.ok,I.os,I.bare,I.base,I.loc,I.cell,I.free,I.freeC,I.pin,I.hok,I.len⟩
def Me (K:HD)(ta:TA):TE:=λσ H Q=>ta σ H λvs H1=>∃ (q:Mz) (ns:List Int),vs=[.ref q]/\bH K H1 q (ns.map V.int)/\ns.length<64 /\
 ∀ (L:Mz) (ns':List Int),H1 L=none->ns'.Pairwise (·<·)->(∀ x:Int,x∈ns'↔x∈ns)->ns'.length<=ns.length->Q (.ref L) (upd H1 L (.lst (ns'.map V.int)))
theorem pR (hK:X.K=K) {e:OH}{ta:TA}{p p2 pos pos2:Pos} (hc:X.calm=true) (hg:Gl X "sorted") (hm:X.mg "sorted"=none) (hg2:Gl X "set") (hm2:X.mg "set"=none) (ha:WA X [e] ta)
  (hs:MU [e] X.env=(false,Qh e X.env)::MU [] X.env:=by rfl)(hs2:(QC pos2 (MU [] X.env)).any (·.1)=false:=by rfl)
  (hs3:MU [Expr.Call (.Name "set" p2) [e] [] pos2] X.env=[(false,Qh (.Call (.Name "set" p2) [e] [] pos2) X.env)]:=by rfl):
  WE X (.Call (.Name "sorted" p) [.Call (.Name "set" p2) [e] [] pos2] [] pos) (Me K ta):=by
 have ha:=ha.go;refine⟨?_⟩;subst hK;intro pins s σ H Q I h;refine NZ (jY I hg hm oW ?_);refine Rk ?_ hs3 rfl;rw[hs3];show MB _ _ (spliced ((false,Qh (.Call (.Name "set" p2) [e] [] pos2) X.env)::[])) _ _ s;refine QG ?_;refine Call_ (jY I hg2 hm2 HA (Oi (bY (ha pos2 pins s σ H _ I h) λus s1 ⟨vs,H1,I1,r1,q1⟩=>?_) hs hs2));obtain⟨q,ns,rfl,hq,hl,k⟩:=q1;cases r1 with
 |cons ru rt=>
 cases rt;cases ru;obtain⟨its,rv,⟨o,n,po,pc,pd,pdat⟩,hsz⟩:=I1.list hq;refine Dc (I1.ok.hd hc) ⟨o,po,pc,n,pdat⟩ (u_ rv) (by unfold scanBound;lia) λg tk hu up le=>SC ?_
 refine zX (st:={ s1 with heap:=g,toks:=tk }) (I1.ok.hd hc) hu (by have:=v_ ns;lia) λL g2 d tk2 out ns' m hL hgL io pe sr up2 l7=>?_
 have lL:s1.heap.objs.size<=L:=MQ (Op (by obtain⟨_,_,_,_,w,_⟩:=hu;exact Mr w)) hL;have fL:=I1.hok.fresh lL;have FL:=I1.fpOk lL fL;have J0:aG X pins σ H1 { s1 with heap:=g2,toks:=tk2,drawn:=d }:=BQ (I1.kept (t':=tk2) λb o e=>up2 b o (up b o e)) d;have ln:ns'.length<=ns.length:=by rw[pe.length_eq];exact v_ ns
 have J1:=jL (o:=.lst (ns'.map V.int)) J0 fL (MQ I1.sz lL) FL.2.1 FL.2.2.2.2.1 FL.2.2.2.2.2 ⟨by rw[Mq,N7];lia,out.toList,m,jH io,hgL⟩;exact⟨.ref L,_,J1,rfl,k L ns' fL (BD sr (pe.nodup_iff.mpr (Cu ns))) (λx=>by rw[pe.mem_iff,GL]) ln⟩
def AE (K:HD):List V->Hp->VK->Prop:=λvs H Q=>∃ (q:Mz) (ns:List Int),vs=[.ref q]/\bH K H q (ns.map V.int)/\ns.length<64 /\
 ∀ (L:Mz) (ns':List Int),H L=none->ns'.Pairwise (·<=·)->ns'.Perm ns->Q (.ref L) (upd H L (.lst (ns'.map V.int)))
theorem yO:dg X (.builtin "sorted") (AE X.K):=by
 intro pins s σ H vs us Q I r h;obtain⟨q,ns,rfl,hq,hl,k⟩:=h;cases r with
 |cons ru rt=>
 cases rt;cases ru;obtain⟨its,rv,⟨o,n,po,pc,pd,pdat⟩,hsz⟩:=I.list hq;have hln:its.length=ns.length:=by have:=aM.length rv;simpa using this.symm
 refine sorted_ints (vs:=its) (ns:=ns) ⟨o,po,pc,n,pdat⟩ (u_ rv) (by lia) λout ns' a1 a2 a3=>?_
 have hz:((s.heap.push (QD "list" #[] 0)).update s.heap.objs.size (Pp (·++its.toArray))).objs.size=s.heap.objs.size+1:=by rw[Heap.size_update,size_push']
 have hoL:(((s.heap.push (QD "list" #[] 0)).update s.heap.objs.size (Pp (·++its.toArray))).push (QD "list" its.toArray 0)).get? (s.heap.objs.size+1)=some (QD "list" its.toArray 0):=by
  rw[<- hz];exact Mn _ rfl
 have up:∀ b o,s.heap.get? b=some o->(sortedAll s.heap its out).get? b=some o:=λb o e=>by
  have lb:=Mr e;unfold sortedAll;refine jy (OD (Qe lb)) (Mg _ ?_);rw[N0 _ _ (OD lb)];exact Mg _ e
 obtain⟨m,hm⟩:=ke (out:=out) hoL;have lL:s.heap.objs.size<=s.heap.objs.size+1:=RT _;have fL:=I.hok.fresh lL;have FL:=I.fpOk lL fL;have J0:aG X pins σ H { s with heap:=sortedAll s.heap its out }:=I.kept (t':=s.toks) up;have ln:ns'.length=ns.length:=a2.length_eq;have J1:=jL (o:=.lst (ns'.map V.int)) J0 fL (MQ I.sz lL) FL.2.1 FL.2.2.2.2.1 FL.2.2.2.2.2 ⟨by rw[Mq,N7];lia,out.toList,m,jH a1,hm⟩;exact⟨.ref (s.heap.objs.size+1),_,J1,rfl,k _ ns' fL a3 a2⟩
theorem Dp (e:X.K=K):dg X (.builtin "sorted") (AE K):=by subst e;exact yO
end
def iW (p r:Pt):Rat:=((r.2-p.2:Int):Rat)/((r.1-p.1:Int):Rat)
structure ly (ps:List Pt)(i:Nat)(c:Rat):Prop where
 pos:0<=c
 one:c=0\/∃ j p r,j<i/\ps[j]?=some p/\ps[j+1]?=some r/\c=iW p r
 all:∀ j p r,j<i->ps[j]?=some p->ps[j+1]?=some r->iW p r<=c
theorem BP (h:t9 ps){i:Nat}(e1:ps[i]?=some p)(e2:ps[i+1]?=some r):0<=iW p r:=by
 obtain⟨u1,u2⟩:=h.up i p r e1 e2;unfold iW;have a:(0:Rat)<=((r.2-p.2:Int):Rat):=by
  have:(0:Int)<=r.2-p.2:=by lia
  exact_mod_cast this
 have b:(0:Rat)<((r.1-p.1:Int):Rat):=by
  have:(0:Int)<r.1-p.1:=by lia
  exact_mod_cast this
 rw[PC];exact Sv a (Px (UA.mpr b))
theorem pT {g:TG}{tt:TT}{te:TE}{σ0:L2.St}{Fin:List V->Hp->Prop}{H1:Hp}{lo:Int}{t r:Mz}{n:Nat}{m:Int} (tw:bQ H1 t r) (hl:n <= 1000)
  (he:∀ (i:Nat) (H:Hp),i<n->bQ H t r->Mv [t,r] H1 H->kH g tt te σ0 (.int (lo+i)) H λy H'=>∃ k:Int,y=.int k/\0<=k/\k<=m/\bQ H' t r/\Mv [t,r] H H')
  (hd:∀ (ks:List Int) (H:Hp),ks.length=n->(∀ k∈ks,0<=k/\k<=m)->bQ H t r->Mv [t,r] H1 H->Fin (ks.map V.int) H):gR (Dj lo n) g tt te σ0 Fin H1:=by
 refine mJ (λi ys H=>bQ H t r/\Mv [t,r] H1 H/\∃ ks:List Int,ks.length=i/\(∀ k∈ks,0<=k/\k<=m)/\ys=ks.map V.int) ⟨tw,Mv.refl,[],rfl,λ_ h=>(MM h).elim,rfl⟩ hl (λi ys H hi p=>?_) (λi ys H hi p=>?_) (λys H p=>?_)
 ·obtain⟨_,_,ks,e,_,rfl⟩:=p;rw[Mq,e];exact Mm _
 ·obtain⟨tw2,mv2,ks,e,hk,rfl⟩:=p;intro R kk S;refine he i H hi tw2 mv2 R (λy H' hy=>?_) S;obtain⟨k,rfl,k0,k1,nB,mv3⟩:=hy;refine kk _ _ ⟨nB,mv2.trans mv3,ks++[k],by simp[e],λx hx=>?_,by simp⟩;rcases M_.mp hx with h|h
  ·exact hk x h
  ·rw[Ml] at h;subst h;exact⟨k0,k1⟩
 ·obtain⟨tw2,mv2,ks,e,hk,rfl⟩:=p;exact hd ks H e hk tw2 mv2
theorem Gy (ps:List Pt):kh (ps.map p9)=true:=by
 induction ps with
 |nil=>rfl
 |cons p ps ih=>rw[MN];simp only[kh,Nh];exact⟨rfl,ih⟩
theorem qY {K:HD}{H:Hp}:∀ {ns:List Int}{ys:List V},az K H (ns.map NR) ys->ys=ns.map V.int
 |[],_,.nil=>rfl
 |_::_,_,.cons (.int _) q=>by rw[qY q];rfl
theorem Fb (xs:List V)(n:Nat)(h:1<=n):nX xs none (some ((n:Int)-1))=xs.take (n-1):=by
 unfold nX;have e:((n:Int)-1)=((n-1:Nat):Int):=by lia
 rw[e,HT.sIx_none,HT.sIx_nat,List.drop_zero,Nat.sub_zero];apply SG;intro i;rw[PV,PV]
 by_cases h1:i<n-1
 ·by_cases h2:i<xs.length
  ·rw[Nd (by lia),Nd h1]
  ·rw[MT (by lia),Nd h1,Tz (by lia)]
 ·rw[MT (by lia),MT h1]
structure Pl (last:Int)(ns:List Int):Prop where
 up:ns.Pairwise (·<·)
 z:ns[0]?=some 0
 l:ns.getLast?=some last
 inn:∀ x∈ns,0<=x/\x<=last
 two:2<=ns.length
 few:ns.length<=12
theorem tj {R:Int->Int->Prop}{ns:List Int}(h:ns.Pairwise R){i j:Nat}{a b:Int}(hij:i<j)(ea:ns[i]?=some a)(eb:ns[j]?=some b):R a b:=by
 obtain⟨hi,rfl⟩:=Mu.mp ea;obtain⟨hj,rfl⟩:=Mu.mp eb;exact Sq.mp h i j hi hj hij
theorem yN {ns:List Int}{a:Int}(h:ns.getLast?=some a):ns[ns.length-1]?=some a:=by
 rw[NB] at h;exact h
theorem JT {last:Int}{ns:List Int}(h1:1<=last)(up:ns.Pairwise (·<·))(m0:0∈ns)(ml:last∈ns)(inn:∀ x∈ns,0<=x/\x<=last)(few:ns.length<=12):Pl last ns:=by
 obtain⟨i,hi,ei⟩:=NO m0;obtain⟨j,hj,ej⟩:=NO ml;have ei':ns[i]?=some 0:=by rw[MC hi,ei]
 have ej':ns[j]?=some last:=by rw[MC hj,ej]
 have i0:i=0:=by
  by_cases h:i=0
  ·exact h
  ·have h0:ns[0]?=some ns[0]:=MC (by lia);have a:=tj up (by lia) h0 ei';have b:=(inn ns[0] (OM _)).1;lia
 have jl:j=ns.length-1:=by
  by_cases h:j=ns.length-1
  ·exact h
  ·have hl:ns[ns.length-1]?=some ns[ns.length-1]:=MC (by lia);have a:=tj up (by lia) ej' hl;have b:=(inn ns[ns.length-1] (OM _)).2;lia
 have ne:i≠j:=λe=>by subst e;rw[ei'] at ej';injection ej';lia
 subst i0;refine⟨up,ei',by rw[NB,<- jl];exact ej',inn,by lia,few⟩
theorem IZ {last:Int}{ns:List Int}{m:Nat}(h:Pl last ns)(m1:1<m)(m2:m<=ns.length):Pl last (ns.take (m-1)++[last])/\(ns.take (m-1)++[last]).length=m:=by
 have len:(ns.take (m-1)++[last]).length=m:=by rw[ML,M3];simp;lia
 refine⟨⟨?_,?_,by simp,?_,by lia,by have:=h.few;lia⟩,len⟩
 ·refine Uc.mpr ⟨h.up.sublist (SI _ _),List.pairwise_singleton _ _,λa ha b hb=>?_⟩;rw[Ml] at hb;subst hb;obtain⟨i,hi,rfl⟩:=NO ha;rw[M3] at hi;rw[U5];exact tj h.up (i:=i) (j:=ns.length-1) (by lia) (MC (by lia)) (yN h.l)
 ·rw[OA (by rw[M3];lia),PV,Nd (by lia)];exact h.z
 ·intro x hx;rcases M_.mp hx with q|q
  ·exact h.inn x (List.mem_of_mem_take q)
  ·rw[Ml] at q;subst q;exact h.inn _ (Pe h.l)
theorem IT {last:Int}(h:1<=last):Pl last [0,last]:=⟨by simp;lia,rfl,rfl,λx hx=>by simp at hx;lia,by simp,by simp⟩
theorem Ao {last:Int}{ns vs:List Int}(h:Pl last ns)(l1:last<=1000)(hv:vs.Pairwise (·<=·))(iv:∀ x∈vs,0<=x/\x<=1000)(hl:vs.length=ns.length):t9 (ns.zip vs)/\∃ z,(ns.zip vs).getLast?=some z/\z.1=last:=by
 have len:(ns.zip vs).length=ns.length:=by rw[RQ];lia
 have two:=h.two;have few:=h.few;refine⟨⟨by lia,by lia,λp hp=>?_,λp hp=>?_,λi p q e1 e2=>?_⟩,?_⟩
 ·have:=(M8.mp hp).1;rw[h.z] at this;injection this with e
  exact e.symm
 ·obtain⟨a,b⟩:=Po (a:=p.1) (b:=p.2) hp;have:=h.inn _ a;have:=iv _ b;exact⟨by lia,by lia,by lia,by lia⟩
 ·obtain⟨a1,b1⟩:=M8.mp e1;obtain⟨a2,b2⟩:=M8.mp e2;exact⟨tj h.up (N6 i) a1 a2,tj hv (N6 i) b1 b2⟩
 ·have e:=yN h.l;have hb:ns.length-1<vs.length:=by lia
  refine⟨(last,vs[ns.length-1]),?_,rfl⟩;rw[NB,len];exact M8.mpr ⟨e,MC hb⟩
theorem FK {a:Rat}:(p.2:Rat)+((q.2:Rat)-(p.2:Rat))/((q.1:Rat)-(p.1:Rat))*(a-(p.1:Rat))=x_ p q a:=by
 unfold x_;rw[PC,PC];grind
theorem oR (p q:Pt)(a:Rat):x_ p q a=(p.2:Rat)+iW p q*(a-(p.1:Rat)):=by
 rw[<- FK];unfold iW;rw[Nt,Nt]
theorem EF (h1:p.1<q.1)(h2:p.2<=q.2):0<=iW p q:=by
 unfold iW;have a:(0:Rat)<=((q.2-p.2:Int):Rat):=by
  have:(0:Int)<=q.2-p.2:=by lia
  exact_mod_cast this
 have b:(0:Rat)<((q.1-p.1:Int):Rat):=by
  have:(0:Int)<q.1-p.1:=by lia
  exact_mod_cast this
 rw[PC];exact Sv a (Px (UA.mpr b))
theorem tD (h1:p.1<q.1)(h2:p.2<=q.2){a b:Rat}(h:a<=b):x_ p q a<=x_ p q b:=by
 have m0:=EF h1 h2;rw[oR,oR];generalize iW p q=m at m0;have:=Sv m0 (show 0<=b-a by grind);grind
theorem wq (p q:Pt):x_ p q (p.1:Rat)=(p.2:Rat):=by
 rw[oR];grind
theorem vK (h1:p.1<q.1):x_ p q (q.1:Rat)=(q.2:Rat):=by
 have nz:((q.1-p.1:Int):Rat)≠0:=by
  have:(q.1-p.1:Int)≠0:=by lia
  exact_mod_cast this
 rw[oR];unfold iW;rw[Nt] at nz;rw[Nt,Nt,PC];grind
theorem De (h:t9 ps){a b c d:Rat}(hab:a<=b)(x:zj ps a c)(y:zj ps b d):c<=d:=by
 obtain⟨k,p,q,sx,rfl⟩:=x;obtain⟨j,r,s,sy,rfl⟩:=y;obtain⟨u1,u2⟩:=h.up k p q sx.lo sx.hi;obtain⟨w1,w2⟩:=h.up j r s sy.lo sy.hi;rcases Nat.lt_trichotomy k j with hk|hk|hk
 ·have g:(r.1:Rat)<b:=by
   rcases sy.gt with e|e
   ·lia
   ·exact e
  have m:=h.mono (j-(k+1)) (k+1) q r sx.hi (by rw[show k+1+(j-(k+1))=j by lia];exact sy.lo);have e1:x_ p q a<=(q.2:Rat):=by rw[<- vK u1];exact tD u1 u2 sx.le
  have e2:(r.2:Rat)<=x_ r s b:=by rw[<- wq r s];exact tD w1 w2 (Px g)
  have e3:(q.2:Rat)<=(r.2:Rat):=by exact_mod_cast m.2.1
  exact M0 e1 (M0 e3 e2)
 ·subst hk;have e1:=sx.lo;rw[sy.lo] at e1;cases e1;have e2:=sx.hi;rw[sy.hi] at e2;cases e2;exact tD u1 u2 hab
 ·exfalso;have g:(p.1:Rat)<a:=by
   rcases sx.gt with e|e
   ·lia
   ·exact e
  have m:=h.mono (k-(j+1)) (j+1) s p sy.hi (by rw[show j+1+(k-(j+1))=k by lia];exact sx.lo);have e3:(s.1:Rat)<=(p.1:Rat):=by exact_mod_cast m.1
  have:=sy.le;grind
theorem rL:∀ {ns:List Int}{us:List Mj},aM (ns.map V.int) us->∃ ps:List (Int×Tok),us=ps.map (λp=>PL p.1 p.2)/\ps.map (·.1)=ns:=by
 intro ns
 induction ns with
 |nil=>intro us r;cases r;exact⟨[],rfl,rfl⟩
 |cons a ns ih=>
  intro us r;cases r with
  |cons h t=>
   obtain⟨k,rfl⟩:=h;obtain⟨ps,rfl,rfl⟩:=ih t;exact⟨(a,k)::ps,rfl,rfl⟩
theorem yB (f:Nat->Int):∀ n,argBest (λi j=>decide (f i>f j)) n<=n/\∀ i,i<=n->f i<=f (argBest (λi j=>decide (f i>f j)) n)
 |0=>⟨Mm _,λi hi=>by cases Nat.le_zero.mp hi;exact Ux _⟩
 |n+1=>by
  obtain⟨h1,h2⟩:=yB f n;simp only[argBest]
  by_cases c:f (n+1)>f (argBest (λi j=>decide (f i>f j)) n)
  ·rw[Nd (Ms c)];refine⟨Mm _,λi hi=>?_⟩;rcases Vl n i with h|h
   ·have:i=n+1:=by lia
    subst this;exact Ux _
   ·have:=h2 i h;lia
  ·rw[MT (λz=>c (Nx z))];refine⟨by lia,λi hi=>?_⟩;rcases Vl n i with h|h
   ·have:i=n+1:=by lia
    subst this;lia
   ·exact h2 i h
theorem o9 {ps:List (Int×Tok)}{i:Nat}{p:Int×Tok}(h:ps[i]?=some p):numAt ps.toArray i=p.1:=by
 unfold numAt;rw[TC,h];rfl
theorem yk (ps:List (Int×Tok)):(ps.map λp=>PL p.1 p.2).toArray=intItems ps.toArray:=by
 unfold intItems;simp
theorem Ie {ps:List (Int×Tok)}{x:Int}(h:x∈ps.map (·.1)):∃ i,i<=ps.toArray.size-1/\numAt ps.toArray i=x:=by
 obtain⟨p,hp,rfl⟩:=Nc.mp h;obtain⟨i,hi,rfl⟩:=NO hp;exact⟨i,by simp;lia,o9 (by simp[hi])⟩
theorem H_ {ps:List (Int×Tok)}{i:Nat}{v:Mj}(h:(intItems ps.toArray)[i]?=some v):∃ t,v=.int (numAt ps.toArray i) t/\numAt ps.toArray i∈ps.map (·.1):=by
 obtain⟨t,rfl⟩:=intItems_at h;refine⟨t,rfl,?_⟩;simp only[intItems,Array.getElem?_map,MJ] at h;obtain⟨p,hp,e⟩:=h;rw[TC] at hp;rw[o9 hp];exact Nc.mpr ⟨p,ME hp,rfl⟩
section
variable {X:Cx}{K:HD}
def G1 (K:HD):List V->Hp->VK->Prop:=λxs H Q=>∃ (p:Mz) (ns:List Int),xs=[.ref p]/\bH K H p (ns.map V.int)/\ns≠[]/\∀ m,m∈ns->(∀ x∈ns,x<=m)->Q (.int m) H
theorem BV (hc:X.calm=true):dg X (.builtin "max") (G1 X.K):=by
 intro pins s σ H xs us Q I r h;obtain⟨p,ns,rfl,hp,hne,q⟩:=h;obtain⟨u,rfl,ru⟩:=ki r;cases ru;obtain⟨its,rv,pl,hz⟩:=I.list hp;obtain⟨ps,rfl,rfl⟩:=rL rv;have hl:=pl.isList;rw[yk] at hl;have pos:0<ps.toArray.size:=by
  rw[MH];exact RP.mpr (λz=>hne (by rw[z];rfl))
 refine max_intList (I.ok.hd hc) hl pos λv h' tk hv kk=>?_
 obtain⟨t,rfl,hm⟩:=H_ hv;have I1:aG X pins σ H { s with heap:=h',toks:=tk }:=I.kept kk;refine⟨.int _,H,I1,⟨t,rfl⟩,q _ hm λx hx=>?_⟩;obtain⟨i,hi,rfl⟩:=Ie hx;exact(yB (numAt ps.toArray) _).2 i hi
theorem wu (e:X.K=K)(hc:X.calm=true):dg X (.builtin "max") (G1 K):=by subst e;exact BV hc
def LX:KR:=λx y H Q=>∃ i j,x=.int i/\y=.int j/\n0 i j/\Q (.int (i*j)) H
theorem CO:LD X .Mult LX:=by
 intro pins s σ H x y v u Q I r1 r2 h;obtain⟨i,j,e1,e2,hc,q⟩:=h;subst e1;subst e2;obtain⟨t,rfl⟩:=r1;obtain⟨t',rfl⟩:=r2;refine imul_int ⟨.int _,H,I.tok _,⟨_,rfl⟩,q⟩ ?_;rcases hc with ⟨h1,h2⟩|h1
 ·exact Vs (MQ h1.bits (by decide)) (MQ h2.bits (by decide))
 ·exact Vt h1.bits
end
theorem xT {K:HD}{H:Hp}:∀ {ns:List Int}{xs:List V},az K H (ns.map NR) xs->xs=ns.map V.int
 |[],xs,h=>by cases h;rfl
 |n::ns,xs,h=>by
  cases h with
  |cons h1 h2=>
   cases h1;rw[xT h2];rfl
def ye (rs:List Rat):Rat:=rs.foldl (·+·) 0
theorem u9 (rs:List Rat)(q:Rat):ye (rs++[q])=ye rs+q:=by unfold ye;rw[SH];rfl
theorem wm {rs:List Rat}{i:Nat}{d:M4}(h:(rs.map rD)[i]?=some d):∃ q,rs[i]?=some q/\d=rD q:=by
 rw[Mw,MJ] at h;obtain⟨q,e,rfl⟩:=h;exact⟨q,e,rfl⟩
theorem A3 {b:Nat}{rs:List Rat}(h:∀ r∈rs,Bq b r):∀ n,n<=rs.length->Bq (n*(b+1)+1) (ye (rs.take n))
 |0,_=>by
  show Bq _ (0:Rat);exact⟨by decide,by decide,by unfold Sm;simp,by unfold Sm;simp⟩
 |n+1,hn=>by
  have hg:rs[n]?=some rs[n]:=by simp[show n<rs.length by lia]
  rw[cw hg,u9];have:=(A3 h n (by lia)).add (h _ (OM (show n<rs.length by lia)));exact this.mono (by rw[Rj];lia)
def cW (rs:List Rat):Int:=rs.foldl (λn r=>n*(r.den:Int)) 1
theorem rk (rs:List Rat)(q:Rat):cW (rs++[q])=cW rs*(q.den:Int):=by unfold cW;rw[SH];rfl
theorem jx {b:Nat}{rs:List Rat}(h:∀ r∈rs,Bq b r):∀ n,n<=rs.length->0<cW (rs.take n)/\Sm (n*b+1) (cW (rs.take n))
 |0,_=>by
  show 0<(1:Int)/\Sm _ (1:Int);exact⟨by decide,by unfold Sm;simp⟩
 |n+1,hn=>by
  have hg:rs[n]?=some rs[n]:=by simp[show n<rs.length by lia]
  rw[cw hg,rk];obtain⟨h1,h2⟩:=jx h n (by lia);have k:=h _ (OM (show n<rs.length by lia));refine⟨Int.mul_pos h1 k.pos,(h2.mul k.sd).mono (by rw[Rj];lia)⟩
theorem lX {r:Rat}(h:r∈rs):(r.den:Int)∣cW rs:=by
 have go:∀ (rs:List Rat) (n:Int),n∣rs.foldl (λn r=>n*(r.den:Int)) n:=by
  intro rs
  induction rs with
  |nil=>intro n;exact Int.dvd_refl _
  |cons a rs ih=>intro n;exact Int.dvd_trans ⟨_,rfl⟩ (ih _)
 have go2:∀ (rs:List Rat) (n:Int),r∈rs->(r.den:Int)∣rs.foldl (λn r=>n*(r.den:Int)) n:=by
  intro rs
  induction rs with
  |nil=>intro n h;cases h
  |cons a rs ih=>
   intro n h;rcases Mx.mp h with rfl|h
   ·exact Int.dvd_trans (Int.dvd_mul_left _ _) (go _ _)
   ·exact ih _ h
 exact go2 _ _ h
def ov (B:Int)(r:Rat):Int:=r.num*(B/(r.den:Int))
theorem vh {B:Int}{r:Rat}(h:(r.den:Int)∣B):((ov B r:Int):Rat)=r*(B:Rat):=by
 obtain⟨k,rfl⟩:=h;have hd:(r.den:Int)≠0:=by have:=r.den_nz;lia
 unfold ov;rw[Int.mul_ediv_cancel_left _ hd,MY,MY];have h1:=jt r;have e1:=iA r;grind
theorem Kd {B:Int}{p q:Rat}(hB:0<B)(hp:(p.den:Int)∣B)(hq:(q.den:Int)∣B):ov B p<=ov B q↔p<=q:=by
 have hB':(0:Rat)<(B:Rat):=by exact_mod_cast hB
 rw[<- NL,vh hp,vh hq];constructor
 ·intro h;exact NU h hB'
 ·intro h;exact NX h (Px hB')
theorem Je {B:Int}{r:Rat}(hB:0<B)(h:(r.den:Int)∣B):((ov B r:Int):Rat)/(B:Rat)=r:=by
 have:(B:Rat)≠0:=by
  intro z;have:B=0:=by exact_mod_cast z
  lia
 rw[vh h];grind
theorem J6 {b:Nat}{rs:List Rat}{r:Rat}(h:∀ r∈rs,Bq b r)(hr:r∈rs):Sm (rs.length*b+b+1) (ov (cW rs) r):=by
 obtain⟨h1,h2⟩:=jx h rs.length (Mm _);rw[O0] at h1 h2;have k:=h r hr;refine(k.sn.mul (j:=rs.length*b+1) ?_).mono (by lia);have hd:0<(r.den:Int):=k.pos;have e1:cW rs/(r.den:Int)<=cW rs:=Int.ediv_le_self _ (by lia);have e2:0<=cW rs/(r.den:Int):=Ts (by lia) (by lia);unfold Sm at h2 ⊢;lia
def slopes (ps:List Pt):List Rat:=(ps.zip (ps.drop 1)).map λz=>iW z.1 z.2
theorem rW {i:Nat}(e1:ps[i]?=some p)(e2:ps[i+1]?=some r):(slopes ps)[i]?=some (iW p r):=by
 unfold slopes;rw[Mw,(M8 (z:=(p,r))).mpr ⟨e1,by rw[QM,Pw];exact e2⟩];rfl
theorem rJ {c:Rat}(h:c∈slopes ps):∃ i p r,ps[i]?=some p/\ps[i+1]?=some r/\c=iW p r:=by
 obtain⟨z,hz,rfl⟩:=Nc.mp h;obtain⟨i,hi⟩:=Ua hz;obtain⟨e1,e2⟩:=M8.mp hi;rw[QM,Pw] at e2;exact⟨i,_,_,e1,e2,rfl⟩
theorem EC (h:t9 ps){c:Rat}(hc:c∈slopes ps)(hx:∀ r∈slopes ps,r<=c):ly ps (ps.length-1) c:=by
 obtain⟨i,p,r,e1,e2,rfl⟩:=rJ hc;have hi:=(Mu.mp e2).1;exact⟨BP h e1 e2,.inr ⟨i,p,r,by lia,e1,e2,rfl⟩,λj p' r' _ f1 f2=>hx _ (ME (rW f1 f2))⟩
theorem Gf (q:Rat):((-q.num:Int):Rat)/((q.den:Int):Rat)=-q:=by
 have h1:=jt q;have e1:=iA q;rw[TQ];grind
theorem Bq.neg {k:Nat}{q:Rat}(h:Bq k q):Bq k (-q):=by
 have h1:(q.den:Int)≠0:=by have:=q.den_nz;lia
 have:=gN (t:=-q.num) (b:=(q.den:Int)) h1 h.sn.neg h.sd;rw[Gf] at this;exact this
def sw (p:Pt):Pt:=(p.2,p.1)
theorem CT (h:t9 ps){a c:Rat}(hy:ps[0]?=some y)(hz:ps.getLast?=some z)(a0:0<=a)(x:zj ps a c):(y.2:Rat)<=c/\c<=(z.2:Rat):=by
 obtain⟨j,p,q,st,rfl⟩:=x;have hlast:ps[ps.length-1]?=some z:=by rw[<- NB];exact hz
 obtain⟨u1,u2⟩:=h.up j p q st.lo st.hi;have hj:=(Mu.mp st.hi).1;have m1:=(h.mono j 0 y p hy (by rw[MX];exact st.lo)).2.1;have m2:=(h.mono (ps.length-1-(j+1)) (j+1) q z st.hi (by rw[show j+1+(ps.length-1-(j+1))=ps.length-1 by lia];exact hlast)).2.1;have pa:(p.1:Rat)<=a:=by
  rcases st.gt with e|e
  ·subst e;have e1:=st.lo;have p0:=h.zero p e1;rw[p0];exact a0
  ·exact Px e
 have e1:x_ p q a<=(q.2:Rat):=by rw[<- vK u1];exact tD u1 u2 st.le
 have e2:(p.2:Rat)<=x_ p q a:=by
  have:=tD u1 u2 pa;rw[wq] at this;exact this
 have m1':(y.2:Rat)<=(p.2:Rat):=by exact_mod_cast m1
 have m2':(q.2:Rat)<=(z.2:Rat):=by exact_mod_cast m2
 exact⟨M0 m1' e2,M0 e1 m2'⟩
def ID (K:HD)(y x:Str):Bool:=(lr K y).any λD=>(lr K x).any λC=>O9 K (.ref D) (.ref C)==some false
theorem jN (h1:WE X e t)(h2:WE X e u):WE X e (λσ H Q=>t σ H Q\/u σ H Q):=by
 have h1:=h1.go;have h2:=h2.go;exact⟨λpins s σ H Q I h=>h.elim (h1 pins s σ H Q I) (h2 pins s σ H Q I)⟩
theorem lJ {H:Hp}{a b C dx:Mz}{fs:List (Str×V)}{o:HO}(ha:H a=some (.ins C dx fs))(hb:H b=some o)(hn:o≠.ins C dx fs):b≠a:=λz=>by
 rw[z,ha] at hb;exact hn (Mi hb).symm
theorem vx {K:HD}{H:Hp}{a C dx:Mz}{fs:List (Str×V)}{o:HO}(ha:H a=some (.ins C dx fs)):∀ {ps:List Pt}{xs:List V},az K H (ps.map p9) xs->az K (upd H a o) (ps.map p9) xs
 |[],_,.nil=>.nil
 |p::ps,_,.cons h t=>by
  refine .cons ?_ (vx ha t);obtain⟨pa,rfl,hpa⟩:=bn (n:=p.1) (d:=p.2) h;exact pI (by rw[aq (lJ ha hpa (λz=>nomatch z))];exact hpa)
theorem kr.put {K:HD}{H:Hp}{a C dx:Mz}{fs:List (Str×V)}{o:HO}(ha:H a=some (.ins C dx fs))(hf:∀ l:Mz,fs≠[(("points":Str),V.ref l)]){ps:List Pt}{v:V}(h:kr K H ps v):kr K (upd H a o) ps v:=by
 obtain⟨b,Cb,dxb,l,rfl,hC,hH,hd⟩:=h;have nb:b≠a:=lJ ha hH (λz=>by cases z;exact hf l rfl);refine⟨b,Cb,dxb,l,rfl,hC,by rw[aq nb];exact hH,?_⟩;cases hd with
 |lst h q=>
  rcases h with h|h
  ·exact .lst (.inl (by rw[aq (lJ ha h (λz=>nomatch z))];exact h)) (vx ha q)
  ·obtain⟨o',h⟩:=h;exact .lst (.inr ⟨o',by rw[aq (lJ ha h (λz=>nomatch z))];exact h⟩) (vx ha q)
theorem lO (h:a∉T):cut T (upd H a o)=upd (cut T H) a o:=by
 funext b
 by_cases e:b=a
 ·subst e;rw[eJ h,ae,ae]
 ·rw[aq e];unfold cut
  split
  ·rfl
  ·rw[aq e]
theorem pK (ps:List (Int×Tok)):∀ n,n<=ps.length->preSum (numAt ps.toArray) n=((ps.take n).map (·.1)).sum
 |0,_=>rfl
 |n+1,h=>by
  have e:ps[n]?=some ps[n]:=MC (by lia);rw[cw e,Og,List.sum_append];show preSum (numAt ps.toArray) n+numAt ps.toArray n=_;rw[pK ps n (by lia),o9 e];simp
section
variable {X:Cx}{K:HD}
def Hc (K:HD):List V->Hp->VK->Prop:=λxs H Q=>∃ (p:Mz) (ns:List Int),xs=[.ref p]/\bH K H p (ns.map V.int)/\Q (.int ns.sum) H
theorem Cm (hc:X.calm=true):dg X (.builtin "sum") (Hc X.K):=by
 intro pins s σ H xs us Q I r h;obtain⟨p,ns,rfl,hp,q⟩:=h;obtain⟨u,rfl,ru⟩:=ki r;cases ru;obtain⟨its,rv,pl,hz⟩:=I.list hp;obtain⟨ps,rfl,rfl⟩:=rL rv;have hl:=pl.isList;rw[yk] at hl;refine sum_intListG (I.ok.hd hc) hl λh' tk t' kk=>?_
 have I1:aG X pins σ H { s with heap:=h',toks:=tk }:=I.kept kk;refine⟨.int _,H,I1,⟨t',rfl⟩,?_⟩;rw[MH,pK ps _ (Mm _),O0];exact q
theorem DR (e:X.K=K)(hc:X.calm=true):dg X (.builtin "sum") (Hc K):=by subst e;exact Cm hc
end
abbrev Hx (X:Cx)(o:OH)(m:Str)(args:List OH)(kws:List Rr)(pl:Sem Bool)(apos pos:Pos):Prop:=
 Qh (.Call (.Attribute o m apos) args kws pos) X.env=(do let ov <- Qh o X.env;TZ apos.atName;let (f,first) <- holding [ov] (getMethod ov m pl);callWith pos f first (QC pos (MU args X.env)) (PY pos (Ol kws X.env)))
def JO (K:HD)(x m:Str)(sp:Sp)(gV:List V->List V->List V)(E:XK)(ta:TE)(t tk:TA):TE:=λσ H Q=>ta σ H λv H1=>∃ a C dx fs,v=.ref a/\cO K x C/\H1 a=some (.ins C dx fs)/\fs.lookup m=none /\
 t σ H1 λvs H2=>tk σ H2 λzs H3=>sp (gV (v::vs) zs) H3 Q E
section
variable {X:Cx}{CX:lQ}{K:HD}{k n j:Nat}{x m:Str}{ps ks:List Str}{sp:Sp}{dvs:List V}{pos apos:Pos}{o e:OH}{es:List OH}{kws:List Rr}{ta:TE}{t tk:TA}
theorem Dd (hK:X.K=K) (hX:Fo CX) (C:pS X.prog X.w X.K X.mg X.base CX k x m ps ks n j dvs sp) (hr:Room k X.A) (he:WE X o ta) (ha:WA X (e :: es) t) (hkw:WK X kws tk)
  (hall:(PY pos (Ol kws X.env)).all (·.1.isSome)=true:=by rfl)(hks:(PY pos (Ol kws X.env)).filterMap (·.1)=ks:=by rfl)
  (hst:MU (e::es) X.env=(false,Qh e X.env)::MU es X.env:=by rfl)
  (hpl:((QC pos (MU (e::es) X.env)).any (·.1)||(PY pos (Ol kws X.env)).any (·.1.isNone))=false:=by rfl)
  (ht:Hx X o m (e::es) kws pl apos pos:=by rfl):WE X (.Call (.Attribute o m apos) (e::es) kws pos) (JO K x m sp (kJ n j dvs) E0 ta t tk):=by
 have he:=he.go;have ha:=ha.go;have hkw:=hkw.go;refine⟨?_⟩;subst hK;obtain⟨D,f,fd,ds,fs0,F,cf,hm,_,hb⟩:=C.ex;intro pins s σ H Q I h;refine Rm (pl:=pl) (bY (he pins s σ H _ I h) λu s1 ⟨v,H1,I1,rv,a,E,dx,fs,ev,ec,ea,l,q⟩=>?_) ht;subst ev;cases bB ec cf.at_;obtain rfl:u=MP a:=rv;refine mS I1 ea cf.cls hm l ?_;refine Uz (first:=[.ref a]) (h₀:=X.base) I.ok.mod.kin hm.kp hall (bY (ha pos pins s1 σ H1 _ I1 q) λus s2 ⟨vs,H2,I2,r,q2⟩=>?_) hpl hst;refine bY (hkw pos pins s2 σ H2 _ I2 q2) λws s3 ⟨zs,H3,I3,rz,q3⟩=>⟨I3.kIn,?_⟩
 rw[hks];exact GK (us:=.ref a::us) (vs:=.ref a::vs) F hr hb (pY hX) I3 (.cons rfl r) rz q3
end
theorem Iq {K:HD}{fd:NW}{p:Str}{ps ks:List Str}{n m:Nat}{D:Mz}{o:Obj}{z:Str}{t:Tok} (e:K.lookup D=some o)
  (h:∀ us ws:List Mj,us.length=n->ws.length=m->∃ (part:Option Mj) (kk:Obj->Sem (List (Str×Mj))),NF fd ⟨us,ks.zip ws⟩=Sem.load D part kk/\kk o=pure ((p::ps).zip (us++(ws++[.str z t])))):
  mZ K fd (p::ps) ks (kJ n m [.str z t]) (kJ n m [.str z]):=
 ⟨λs us ws X hl=>by
  obtain⟨a,b,c⟩:=yb hl;rw[c];obtain⟨part,kk,h1,h2⟩:=h us ws a b;exact Fn X e h1 h2,λa b=>yC (show aM [V.str z] [SO z t] from .cons ⟨t,rfl⟩ .nil) a b⟩
theorem Ct {K:HD}{mg:Str->Option Mj}{x m qual p:Str}{st:Oe}{ps ks fs:List Str}{n j:Nat}{C f D:Mz}{o:Obj}{oc:Mj}{od an:Option Mz}{osl:Array (Option Mj)}{doc pm cdv ct:Mj}{z:Str}{t:Tok}
  (l:K.lookup f=some ⟨oc,od,.func (MK m qual (aQ st) (aJ st) (ah st) .none (.ref D) doc pm an cdv ct),osl⟩)
  (c:M' K cdv qual=true)(kp:MZ K (.ref f)=true)(fn:OF K (.ref f)=true)(a:MA K Mo x=some (some (.ref C)))(b:MV K (.ref C) m=some (some (.ref f)))(hc:f8 K x fs=true)(g:mg x=some (.ref C))
  (e:K.lookup D=some o)
  (h:∀ us ws:List Mj,us.length=n->ws.length=j->∃ (part:Option Mj) (kk:Obj->Sem (List (Str×Mj))),NF (MK m qual (aQ st) (aJ st) (ah st) .none (.ref D) doc pm an cdv ct) ⟨us,ks.zip ws⟩=Sem.load D part kk/\kk o=pure ((p::ps).zip (us++(ws++[.str z t])))):
  jI K mg x m qual st (p::ps) ks n j [.str z]:=by
 obtain⟨D',cf⟩:=jX hc;cases bB cf.at_ a;exact⟨_,f,_,oc,od,.none,.ref D,doc,pm,an,cdv,ct,osl,[.str z t],fs,rfl,l,c,cf,⟨b,fn,kp⟩,g,Iq e h⟩
def oM (elt:OH)(gens:List QH)(scope:Rn)(pos:Pos)(acc:Mj)(env:Env)(d:Nat):Sem Unit:=match gens[d+1]? with
 |some g'=>do
  let x <- Qh g'.iter env
  TZ g'.iter.pos
  let x <- if g'.is_async != 0 then foldedIterable g'.iter x else Oa g'.iter env x
  let _ <- runOwn (.compStart (.ListComp elt gens scope pos) (d+1) (<- holding [x] (if g'.is_async != 0 then asyncIter x else Ul x)) acc env) env
 |none=>do let _ <- call (.builtin "list.append") [acc,<- Qh elt env]
theorem yX {d:Nat} (h:gens[d]?=some ⟨target,iter,ifs,0⟩) :
  compTurn (.ListComp elt gens scope pos) d it acc env=(do
   TZ iter.pos
   match <- Ql it with
   |none=>pure (.done .next)
   |some v=>
    QV target it v
    assign target env v
    let mut ok:=true
    for c in ifs do
     if ok then ok <- isTrue c env (Qh c env)
    if ok then
     oM elt gens scope pos acc env d
    again (.compLoop (.ListComp elt gens scope pos) d it acc env)):=by
 unfold compTurn oM;dsimp only;rw[h];cases hg:gens[d+1]? with
 |none=>rfl
 |some g'=>
  dsimp only;have z0:((0:Nat) != 0)=false:=rfl
  by_cases hz:(g'.is_async != 0)=true
  ·simp only[hz,z0,bind_assoc,PR,NE,O4];rfl
  ·have hz:(g'.is_async != 0)=false:=by simpa using hz
   simp only[hz,z0,bind_assoc,PR,NE,O4];rfl
theorem pU {d:Nat} (hd:gens[d]?=some ⟨target,iter,ifs,0⟩) (I:Nat->Mp->Prop)
  (kY:∀ n s,I n s->MB (MW prog w) A (Ql it) (λr s₁=>match r with
   |none=>R (.ok .next) s₁
   | some v=>MB (MW prog w) A (QV target it v) (fun _ s₁'=>MB (MW prog w) A (assign target env v) (fun _ s₂=>
     MB (MW prog w) A (forIn ifs true λc r=>if r=true then do let ok <- isTrue c env (Qh c env);pure (P7 ok) else pure (P7 r)) (λok s₃=>
      if ok=true then MB (MW prog w) A (oM elt gens scope pos acc env d) (λ_ s₅=>∃ m,m<n/\I m s₅) (λ_ _=>False) s₃
      else ∃ m,m<n/\I m s₃) (λ_ _=>False) s₂) (λ_ _=>False) s₁') (λ_ _=>False) s₁) (λ_ _=>False) s)
  (n:Nat)(h:I n s):Qx (MW prog w) A (.compLoop (.ListComp elt gens scope pos) d it acc env) R s:=by
 refine codeAny_loop rfl I (λn s hI=>?_) n h;show MB _ A ((compTurn (.ListComp elt gens scope pos) d it acc env).onRaise (λx=>do noteFrame x env;theTreesLotGoes x)) _ _ s;refine wpAny_noted ?_;rw[yX hd];refine KE (O5 (KE (NI (kY n s hI) (λr s₁ h₁=>?_) λ_ _ z=>z.elim)));cases r with
 |none=>exact Mh h₁
 |some v=>
  refine KE (NI h₁ (λ_ s₁' h₁'=>?_) λ_ _ z=>z.elim);refine KE (NI h₁' (λ_ s₂ h₂=>KE (NI h₂ (λok s₃ h₃=>?_) λ_ _ z=>z.elim)) λ_ _ z=>z.elim);cases ok with
  |false=>exact Mh ⟨rfl,h₃⟩
  |true=>exact KE (NI h₃ (λ_ s₅ h₅=>Mh ⟨rfl,h₅⟩) λ_ _ z=>z.elim)
theorem vm {d:Nat} (hd:gens[d]?=some ⟨target,iter,ifs,0⟩)
  (h0:Qx (MW prog w) A (.compLoop (.ListComp elt gens scope pos) d it acc env) R s)
  (h:MB (MW prog w) A (Ul it) (λit' s'=>Qx (MW prog w) A (.compLoop (.ListComp elt gens scope pos) d it' acc env) R s')
   (notedBy (MW prog w) A env λx s'=>R (.error x) s') s) :
  Qx (MW prog w) A (.compStart (.ListComp elt gens scope pos) d it acc env) R s:=by
 refine TW ?_;show MB _ _ ((compStart (.ListComp elt gens scope pos) d it acc env).onRaise (λx=>do noteFrame x env;TZ theWindowsPlace)) _ _ s;refine wpAny_notedAt ?_;have hd':(clausesOf (.ListComp elt gens scope pos))[d]?=some ⟨target,iter,ifs,0⟩:=hd;unfold compStart;rw[hd'];show MB _ _ (ask>>=_) _ _ s;refine KE (Qp (wpAny_ite ?_))
 split
 ·first
   |exact KE (Mh (Mh (Vy rfl h0)))
   |exact Mh (Vy rfl h0)
 ·first
   |exact KE (QF (KE (O5 (KE (NI h (λit' s' h'=>Mh (Vy rfl h')) λ_ _ x=>x)))))
   |(refine KE (QF ?_);show MB _ _ (TZ iter.pos>>=_) _ _ s;exact KE (O5 (KE (NI h (λit' s' h'=>Mh (Vy rfl h')) λ_ _ x=>x))))
abbrev TB:=L2.St->Hp->List V->(L2.St->Hp->List V->Prop)->Prop
def Di (its:List Mj)(n:Nat):Obj:={ cls:=.type "list",data:=.seq its.toArray n }
def K0 (X:Cx)(pins:List (Mz×Obj))(D:Mz):Prop:=
 D≠X.env.locals/\(D∈X.ex\/X.s₀.heap.objs.size<=D)/\(∀ x c,X.env.cells.lookup x=some c->c≠D)/\∀ p∈X.pn++pins,p.1≠D
def PB (X:Cx)(elt:OH)(gens:List QH)(scope:Rn)(pos:Pos)(d:Nat)(t:TB):Prop:=
 ∀ (D:Mz) (pins:List (Mz×Obj)) (s:Mp) (σ:L2.St) (H:Hp) (ys:List V) (its:List Mj) (n:Nat) (Q:L2.St->Hp->List V->Prop),aG X ((D,Di its n)::pins) σ H s->K0 X pins D->aM ys its->t σ H ys Q ->
  MB (MW X.prog X.w) X.A (oM elt gens scope pos (.ref D) X.env d) (λ_ s'=>∃ σ' H' ys' its' n',aG X ((D,Di its' n')::pins) σ' H' s'/\aM ys' its'/\Q σ' H' ys') (λ_ _=>False) s
structure WB (X:Cx)(elt:OH)(gens:List QH)(scope:Rn)(pos:Pos)(d:Nat)(t:TB):Prop where
 go:PB X elt gens scope pos d t
section
variable {X:Cx}{elt:OH}{gens:List QH}{scope:Rn}{pos:Pos}{d:Nat}
def AT (te:TE):TB:=λσ H ys Q=>ys.length<MI/\te σ H λy H'=>Q σ H' (ys++[y])
theorem A4 (hx:X.xe=λ_ _=>False)(hd:gens[d+1]?=none)(he:PE X elt te):PB X elt gens scope pos d (AT te):=by
 intro D pins s σ H ys its n Q I hD rv h;obtain⟨hz,h⟩:=h;unfold oM;rw[hd];dsimp only;have he':=he _ s σ H _ I h;rw[hx] at he';refine KE (bY he' λy s8 h8=>?_);obtain⟨yv,H8,I8,r8,q8⟩:=h8;have pD:=I8.pin (D,Di its n) (MD _ MO);have hsz:its.toArray.size<=MI:=by
  have:=rv.length;rw[MH,<- this];exact Op hz
 refine KE (append_at (hsz:=hsz) pD.1 λh9 hs9 hD9=>Mh ?_);have J8:aG X pins σ H8 s8:=I8.pins_of λp hp=>I8.pin p (MD _ (Mt _ hp))
 have J9:aG X pins σ H8 { s8 with heap:=h9 }:=J8.turned (it:=D) (t':=s8.toks) (λb o hb e=>hs9.extBut b o hb e) pD.2.1 hD.1 hD.2.1 hD.2.2.1 hD.2.2.2;refine⟨σ,H8,ys++[yv],its++[y],n+1,J9.pins_of λp hp=>?_,rv.append (.cons r8 .nil),q8⟩;rcases Mx.mp hp with rfl|hp
 ·have e9:({ cls:=.type "list",data:=.seq (its.toArray.push y) (n+1) }:Obj)=Di (its++[y]) (n+1):=by unfold Di;rw[List.push_toArray]
  exact⟨by rw[<- e9];exact hD9,pD.2.1,pD.2.2.1,pD.2.2.2.1,λv z=>nomatch z⟩
 ·exact J9.pin p (MD _ hp)
def JM (wi:TI)(g:TG)(tt:TT)(tb:TB):TB:=λσ H ys Q=>wi σ H λJ H1=>∃ W:Nat->Nat->L2.St->Hp->List V->Prop,(∃ m,W 0 m σ H1 ys)/\∀ i m σ2 H2 ys2,W i m σ2 H2 ys2 ->
 (J.stop i H2/\Q σ2 H2 ys2) \/
 (J.go i H2/\∀ x H3,J.yld i H2 x H3->g x σ2 H3 λσ3 H4=>tt σ3 H4 λb H5=>if b=true then tb σ3 H5 ys2 λσ' H' ys'=>∃ m',m'<m/\W (i+1) m' σ' H' ys' else ∃ m',m'<m/\W (i+1) m' σ3 H5 ys2)
theorem yY (hx:X.xe=fun _ _=>False) (hc:X.calm=true) (hd:gens[d + 1]?=some ⟨tg,iter,ifs,0⟩) (hi:WI X tg iter wi) (hg:WG X tg g) (ht:Hm X ifs tt) (hb:WB X elt gens scope pos (d + 1) tb)
  (hs:∀ x,Oa iter X.env x=pure x:=by intro _;rfl):WB X elt gens scope pos d (JM wi g tt tb):=by
 have hi:=hi.go;have hg:=hg.go;have ht:=ht.go;have hb:=hb.go;refine ⟨?_⟩;intro D pins s σ H ys its n Q I hD rv h;unfold oM;rw [hd];dsimp only;have hi':=hi _ s σ H _ I h;rw [hx] at hi';refine KE (bY hi' fun v s1 h1=>?_);refine KE (O5 ?_);show MB _ _ (Oa iter X.env v >>= fun x=>holding [x] (Ul x) >>= fun it=>runOwn (.compStart (.ListComp elt gens scope pos) (d + 1) it (.ref D) X.env) X.env >>= fun _=>pure ()) _ _ s1;rw [hs];refine KE (Mh (KE (NN (bY h1 fun itv s2 h2=>?_))));obtain ⟨it,fp,tn,J,H2,rfl,I2,T,st2,f2,W,⟨m0,w0⟩,kY⟩:=h2;refine KE (wpAny_runOwn ?_);have loop:Qx (MW X.prog X.w) X.A (.compLoop (.ListComp elt gens scope pos) (d + 1) (.ref it) (.ref D) X.env) (fun r s'=>match r with
   |.ok _=>MB (MW X.prog X.w) X.A (pure ()) (λ_ s'=>∃ σ' H' ys' its' n',aG X ((D,Di its' n')::pins) σ' H' s'/\aM ys' its'/\Q σ' H' ys') (λ_ _=>False) s'
   |.error e=>cameBackBy (MW X.prog X.w) X.A X.env (λ_ _=>False) e s') s2:=by
  refine pU hd (λk s'=>∃ i σ' H' ys' its' n',aG X ((D,Di its' n')::pins) σ' H' s'/\tn i s'.heap/\(∀ b∈fp,H' b=none)/\aM ys' its'/\W i k σ' H' ys') ?_ m0
   ⟨0,σ,H2,ys,its,n,I2,st2,λb hb=>(f2 b hb).1,rv,w0⟩
  rintro k s' ⟨i,σ',H',ys',its',n',I',tn',fr',rv',w'⟩;have fpOk:∀ {H':Hp}{o:Obj},(∀ b∈fp,H' b=none)->∀ b∈fp,oV X ((D,o)::pins) H' b:=λ{H' o} hn b hb=>by
   obtain⟨_,g1,g2,g3,g4,g5⟩:=f2 b hb;refine⟨hn b hb,g1,g2,g3,g4,λp hp=>?_⟩;rcases M_.mp hp with hp|hp
   ·exact g5 p (Om _ hp)
   ·rcases Mx.mp hp with rfl|hp
    ·exact g5 (D,Di its n) (MD _ MO)
    ·exact g5 p (MD _ (Mt _ hp))
  rcases kY i k σ' H' ys' w' with ⟨stop,fin⟩|⟨go,step⟩
  ·refine NI (T.done X rfl rfl rfl hc i _ s' σ' H' (λ_ _=>False) I' (fpOk fr') tn' stop) (λr s1 hr=>?_) λ_ _ z=>z
   obtain⟨rfl,I1⟩:=hr;exact Mh ⟨σ',H',ys',its',n',I1,rv',fin⟩
  ·refine NI (T.item X rfl rfl rfl hc i _ s' σ' H' (λ_ _=>False) I' (fpOk fr') tn' go) (λr s4 hr=>?_) λ_ _ z=>z
   obtain⟨u,rfl,h4⟩:=hr;refine NI h4 (λ_ s5 h5=>?_) λ_ _ z=>z
   obtain⟨x,H5,I5,r5,y5,tn5,fr5⟩:=h5;have I5':=I5.pinned (fpOk fr5) (T.obj _ _ tn5);have hg':=hg _ s5 σ' H5 x u _ I5' r5 (step x H5 y5);rw[hx] at hg';refine bY hg' λ_ s6 h6=>?_
   obtain⟨σ6,H6,I6,q6⟩:=h6;have ht':=ht _ s6 σ6 H6 _ I6 q6;rw[hx] at ht';refine bY ht' λok s7 h7=>?_
   obtain⟨H7,I7,q7⟩:=h7;have weak:∀ {s8:Mp}{σ8:L2.St}{H8:Hp}{its8:List Mj}{n8:Nat},aG X ((D,Di its8 n8)::(pins++j6 fp s5.heap)) σ8 H8 s8->aG X ((D,Di its8 n8)::pins) σ8 H8 s8/\tn (i+1) s8.heap/\∀ b∈fp,H8 b=none:=λ{s8 σ8 H8 its8 n8} I8=>by
    refine⟨I8.pins_of λp hp=>I8.pin p (MD _ ?_),T.keep _ _ _ tn5 λb hb o e=>(I8.pin (b,o) (MD _ (Mt _ (MD _ (fY hb e))))).1,λb hb=>?_⟩
    ·rcases Mx.mp hp with rfl|hp
     ·exact MO
     ·exact Mt _ (Om _ hp)
    ·obtain⟨o,e,_⟩:=T.obj _ _ tn5 b hb;exact(I8.pin (b,o) (MD _ (Mt _ (MD _ (fY hb e))))).2.1
   cases ok with
   |false=>
    obtain⟨m',hm,w8⟩:=q7;obtain⟨a,b,c⟩:=weak I7;exact⟨m',hm,i+1,σ6,H7,ys',its',n',a,b,c,rv',w8⟩
   |true=>
    have D7:K0 X (pins++j6 fp s5.heap) D:=⟨hD.1,hD.2.1,hD.2.2.1,λp hp=>by
     rcases M_.mp hp with hp|hp
     ·exact hD.2.2.2 p (Om _ hp)
     ·rcases M_.mp hp with hp|hp
      ·exact hD.2.2.2 p (MD _ hp)
      ·exact λz=>(f2 _ (oE hp).1).2.2.2.2.2 (D,Di its n) (MD _ MO) z.symm⟩
    refine NI (hb D _ s7 σ6 H7 ys' its' n' _ I7 D7 rv' q7) (λ_ s8 h8=>?_) λ_ _ z=>z
    obtain⟨σ8,H8,ys8,its8,n8,I8,rv8,m',hm,w8⟩:=h8;obtain⟨a,b,c⟩:=weak I8;exact⟨m',hm,i+1,σ8,H8,ys8,its8,n8,a,b,c,rv8,w8⟩
 exact vm hd loop (T.self _ 0 _ _ _ st2 loop)
end
def Ab (J:It)(g:TG)(tt:TT)(tb:TB)(σ0:L2.St)(Fin:List V->Hp->Prop)(H1:Hp):Prop:=∃ W:Nat->Nat->List V->Hp->Prop,(∃ m,W 0 m [] H1)/\∀ i m ys H2,W i m ys H2 ->
 (J.stop i H2/\ys.length<=MI/\Fin ys H2) \/
 (J.go i H2/\∀ x H3,J.yld i H2 x H3->g x σ0 H3 λσ' H4=>tt σ' H4 λb H5=>if b=true then tb σ' H5 ys λ_ H6 ys'=>∃ m',m'<m/\W (i+1) m' ys' H6 else ∃ m',m'<m/\W (i+1) m' ys H5)
section
variable {X:Cx}{pins:List (Mz×Obj)}{σ:L2.St}{H H2:Hp}{s s2:Mp}
theorem pL {N:List Str}{scope:Rn}{elt tg iter:OH}{ifs:List OH}{eO:List QH}{pos:Pos}{it:Mz}{fp:List Mz}{tn:Nat->Os->Prop}{J:It}{g:TG}{tt:TT}{tb:TB}{σ0:L2.St}{Fin:List V->Hp->Prop}
  {E:Mj->Mp->Prop}{RR:Mj->Mz->Result->Mp->Prop}(hc:X.calm=true)(I:aG X pins σ H2 s2)(S:zh X scope)
  (hcap:rT X scope N σ σ0)(hlen:σ0.length=N.length)(f2:∀ b∈fp,oV X pins H2 b)(T:vS X.prog X.w X.K tg J fp it tn)(st2:tn 0 s2.heap)
  (hg:∀ C,PG (bF X N scope (bj X scope C) C s2 H2 fp pins) tg g)(ht:∀ C,K5 (bF X N scope (bj X scope C) C s2 H2 fp pins) ifs tt)(he:∀ C,PB (bF X N scope (bj X scope C) C s2 H2 fp pins) elt (⟨tg,iter,ifs,0⟩::eO) scope pos 0 tb)(hw:Ab J g tt tb σ0 Fin H2)
  (hRR:∀ (D C:Mz) (s':Mp) (H':Hp) (ys:List V),aG X pins σ (upd H' D (.lst ys)) s'->H' D=none->Fin ys H'->(∃ m,s'.heap.Ns C m)->H' C=none->D≠C->s2.heap.objs.size<=C->RR (.ref D) C (.ok .next) s'):
  MB (MW X.prog X.w) X.A (newList []) (λacc s₃=>MB (MW X.prog X.w) X.A (Sy scope X.env.globals (ut X.env.cells scope.names []) [] X.env.qual none .none (some X.env)) (λcenv s₄=>
   Qx (MW X.prog X.w) X.A (.compStart (.ListComp elt (⟨tg,iter,ifs,0⟩::eO) scope pos) 0 (.ref it) acc { cenv with scope:=relabel scope X.env }) (RR acc cenv.locals) s₄) E s₃) E s2:=by
 obtain⟨W,⟨m0,w0⟩,kY⟩:=hw;refine M1 (Do λh1 hns1 own1 kk1=>?_);dsimp only at hns1 own1 kk1 ⊢;generalize hG:s2.heap.push { cls:=.type "list",dict:=none,data:=.seq ([]:List Mj).toArray }=G at hns1 own1 kk1 ⊢;have hC:G.objs.size=s2.heap.objs.size+1:=by rw[<- hG,Nw]
 have hDC:s2.heap.objs.size≠G.objs.size:=by rw[hC];exact MR (N6 _)
 have below:∀ b,b<s2.heap.objs.size->b≠G.objs.size:=λb hb=>by rw[hC];exact MR (Qe hb)
 have old:∀ b o,s2.heap.get? b=some o->h1.get? b=some o:=λb o e=>kk1 b o (hG▸Mg _ e)
 have hacc:h1.get? s2.heap.objs.size=some { cls:=.type "list",data:=.seq ([]:List Mj).toArray 0 }:=kk1 _ _ (hG▸Mn _ rfl);have cellLt:∀ x c,X.env.cells.lookup x=some c->c<s2.heap.objs.size:=λx c e=>by
  obtain⟨v,q⟩:=I.cell x c e;exact q.lt
 have big:∀ c:Mz,G.objs.size+1<=c->s2.heap.objs.size+2<=c:=λc h=>by rw[hC] at h;exact h
 have fo:∀ b∈fp,∃ o,s2.heap.get? b=some o:=λb hb=>let ⟨o,e,_⟩:=T.obj 0 _ st2 b hb;⟨o,e⟩
 have fpLt:∀ b∈fp,b<s2.heap.objs.size:=λb hb=>let ⟨o,e⟩:=fo b hb;Mr e
 have st1:tn 0 h1:=T.keep 0 _ _ st2 λb _ o e=>old b o e
 have hCle:s2.heap.objs.size<=G.objs.size:=by rw[hC];exact RT _
 have I0:∀ tk,aG (bF X N scope (bj X scope G.objs.size) G.objs.size s2 H2 fp pins) [(s2.heap.objs.size,{ cls:=.type "list",data:=.seq ([]:List Mj).toArray 0 })] σ0 H2 { s2 with heap:=h1,toks:=tk }:=λtk=>
  Dt I S hcap hlen f2 fo hCle (Mm _) hDC old hns1 hacc (λv z=>nomatch z) λx c e l=>(own1 x c e).resolve_left λz=>by
   rcases iH S.free z with z|⟨_,z⟩
   ·cases z
   ·exact absurd (cellLt x c z) (N1.mpr (MQ (PJ _ 2) (big c l)))
 have fpOk:∀ {H':Hp}{o:Obj},(∀ b∈fp,H' b=none)->∀ b∈fp,oV (bF X N scope (bj X scope G.objs.size) G.objs.size s2 H2 fp pins) [(s2.heap.objs.size,o)] H' b:=λ{H' o} hn b hb=>by
  obtain⟨_,g1,g2,g3,g4,g5⟩:=f2 b hb;refine⟨hn b hb,below b (fpLt b hb),v9 I g1 g2,.inl hb,λx c e=>?_,λp hp=>?_⟩;rcases iB S e with ⟨e,_⟩|⟨l,_⟩
  ·exact g4 x c e
  ·exact λz=>absurd (fpLt b hb) (N1.mpr (z▸MQ (PJ _ 2) (big c l)))
  rcases M_.mp hp with hp|hp
  ·exact g5 p hp
  ·cases Ml.mp hp;exact λz=>absurd (z▸fpLt b hb) (Nl _)
 have loop:∀ s3:Mp,s3.heap=h1->s3.gens=s2.gens->s3.os=s2.os->aG (bF X N scope (bj X scope G.objs.size) G.objs.size s2 H2 fp pins) [(s2.heap.objs.size,{ cls:=.type "list",data:=.seq ([]:List Mj).toArray 0 })] σ0 H2 s3 ->
   Qx (MW X.prog X.w) X.A (.compLoop (.ListComp elt (⟨tg,iter,ifs,0⟩::eO) scope pos) 0 (.ref it) (.ref s2.heap.objs.size) (Sf scope (bj X scope G.objs.size) G.objs.size X.env)) (RR (.ref s2.heap.objs.size) G.objs.size) s3:=by
  intro s3 e3 _ _ I3;refine pU (d:=0) rfl (λk s'=>∃ i ys its n H',aG (bF X N scope (bj X scope G.objs.size) G.objs.size s2 H2 fp pins) [(s2.heap.objs.size,{ cls:=.type "list",data:=.seq (its:List Mj).toArray n })] σ0 H' s'/\tn i s'.heap/\(∀ b∈fp,H' b=none)/\aM ys its/\W i k ys H') ?_ m0
   ⟨0,[],[],0,H2,I3,by rw[e3];exact st1,λb hb=>(f2 b hb).1,.nil,w0⟩
  rintro k s' ⟨i,ys,its,n,H',I',tn',fr',rv,w'⟩;rcases kY i k ys H' w' with ⟨stop,hz,fin⟩|⟨go,step⟩
  ·refine NI (T.done (bF X N scope (bj X scope G.objs.size) G.objs.size s2 H2 fp pins) rfl rfl rfl hc i _ s' σ0 H' (λ_ _=>False) I' (fpOk fr') tn' stop) (λr s1 hr=>?_) λ_ _ z=>z
   obtain⟨rfl,I1⟩:=hr;obtain⟨m,hn,_⟩:=id I1.loc;exact hRR _ _ s1 H' ys (EL I f2 (Mm _) I1 rv hz) (I1.pin _ (MD _ MO)).2.1 fin ⟨m,hn⟩ I1.free hDC hCle
  ·refine NI (T.item (bF X N scope (bj X scope G.objs.size) G.objs.size s2 H2 fp pins) rfl rfl rfl hc i _ s' σ0 H' (λ_ _=>False) I' (fpOk fr') tn' go) (λr s4 hr=>?_) λ_ _ z=>z
   obtain⟨u,rfl,h4⟩:=hr;refine NI h4 (λ_ s5 h5=>?_) λ_ _ z=>z
   obtain⟨x,H5,I5,r5,y5,tn5,fr5⟩:=h5;have I5':=I5.pinned (fpOk fr5) (T.obj _ _ tn5);refine bY (hg G.objs.size _ s5 σ0 H5 x u _ I5' r5 (step x H5 y5)) λ_ s6 h6=>?_
   obtain⟨σ6,H6,I6,q6⟩:=h6;refine bY (ht G.objs.size _ s6 σ6 H6 _ I6 q6) λok s7 h7=>?_
   obtain ⟨H7,I7,q7⟩:=h7;have weak:∀ {s8:Mp}{σ8:L2.St}{H8:Hp}{its':List Mj}{n':Nat},aG (bF X N scope (bj X scope G.objs.size) G.objs.size s2 H2 fp pins) ([(s2.heap.objs.size,{ cls:=.type "list",data:=.seq its'.toArray n' })] ++ j6 fp s5.heap) σ8 H8 s8 ->
     aG (bF X N scope (bj X scope G.objs.size) G.objs.size s2 H2 fp pins) [(s2.heap.objs.size,{ cls:=.type "list",data:=.seq its'.toArray n' })] σ0 H8 s8/\tn (i+1) s8.heap/\∀ b∈fp,H8 b=none:=λ{s8 σ8 H8 its' n'} I8=>by
    have st8:tn (i+1) s8.heap:=T.keep _ _ _ tn5 λb hb o e=>(I8.pin (b,o) (MD _ (MD _ (fY hb e)))).1
    have fr8:∀ b∈fp,H8 b=none:=λb hb=>by
     obtain⟨o,e,d⟩:=T.obj _ _ tn5 b hb;exact(I8.pin (b,o) (MD _ (MD _ (fY hb e)))).2.1
    refine⟨?_,st8,fr8⟩;obtain⟨m8,hn8,_⟩:=id I8.loc;have J:=I8.unpinned;exact⟨J.ok,J.os,J.bare,J.base,⟨m8,hn8,λj y v e1 e2 _=>by
     obtain⟨m00,_,hm00⟩:=(I0 0).loc;obtain⟨u',r',l'⟩:=hm00 j y v e1 e2 (by
      obtain⟨_,_,_,_,_,z⟩:=hcap j y v e1 e2;exact .inr z)
     obtain⟨j',j1,j2,j3,jf,j4⟩:=hcap j y v e1 e2;rcases l' with ⟨k',_⟩|⟨k',c,ec,z⟩
     ·exfalso;have k'':(Sf scope [] 0 X.env).kindOf y=some .local:=k';rcases j4 with q|q<;>(rw[q] at k'';cases k'')
     ·have eo:X.env.cells.lookup y=some c:=by
       rcases iB S ec with ⟨e,_⟩|⟨_,k2⟩
       ·exact e
       ·rw[jf] at k2;cases k2
      refine⟨u',r',.inr ⟨k',c,ec,?_⟩⟩;obtain⟨oc,hoc,hd⟩:=z;have hlt:c<s2.heap.objs.size:=by
       obtain⟨v',q⟩:=I.cell y c eo;exact q.lt
      have hoc2:s2.heap.get? c=some oc:=by
       obtain⟨v',o',q',d'⟩:=I.cell y c eo;have e':=old c o' q';have hoc':h1.get? c=some oc:=hoc;rw[e'] at hoc';cases hoc';exact q'
      have nfp:c∉fp:=λz=>(f2 c z).2.2.2.2.1 y c eo rfl
      by_cases hfs:c∈zi X.stack
      ·obtain⟨sl,q⟩:=J.base.slot c oc hoc2 (I.freeC y c eo) hfs nfp;exact⟨_,q,hd⟩
      ·exact⟨oc,J.base.keep c oc hoc2 (I.freeC y c eo) hfs nfp,hd⟩⟩,J.cell,J.free,J.freeC,J.pin,J.hok,hlen⟩
   cases ok with
   |false=>
    obtain⟨m',hm,w8⟩:=q7;obtain⟨I8,st8,fr8⟩:=weak I7;exact⟨m',hm,i+1,ys,its,n,H7,I8,st8,fr8,rv,w8⟩
   |true=>
    have D7:K0 (bF X N scope (bj X scope G.objs.size) G.objs.size s2 H2 fp pins) (j6 fp s5.heap) s2.heap.objs.size:=by
     refine⟨hDC,.inr (Mm _),λx c e z=>?_,λp hp z=>?_⟩
     ·rcases iB S e with ⟨e,_⟩|⟨l,_⟩
      ·exact absurd (z▸cellLt x c e) (Nl _)
      ·exact absurd (MQ (PJ _ 1) (big c l)) (by rw[z];exact Nat.not_succ_le_self _)
     ·rcases M_.mp hp with hp|hp
      ·exact absurd (z▸Mr (I.pin p hp).1) (Nl _)
      ·exact absurd (z▸fpLt _ (oE hp).1) (Nl _)
    refine NI (he G.objs.size _ (j6 fp s5.heap) s7 σ6 H7 ys its n _ I7 D7 rv q7) (λ_ s8 h8=>?_) λ_ _ z=>z
    obtain⟨σ8,H8,ys8,its8,n8,I8,rv8,m',hm,w8⟩:=h8;obtain⟨L1,L2',L3⟩:=weak I8;exact⟨m',hm,i+1,ys8,its8,n8,H8,L1,L2',L3,rv8,w8⟩
 exact codeAny_compStart_list (loop _ rfl rfl rfl (I0 _)) (T.self _ 0 _ _ _ st1 (loop _ rfl rfl rfl (I0 _)))
end
section
variable {X:Cx}{pos:Pos}
def Jd (wi:TI)(g:TG)(tt:TT)(tb:TB)(mk:L2.St->L2.St):TE:=λσ H Q=>wi σ H λJ H1=>Ab J g tt tb (mk σ) (λys H2=>∀ D,H2 D=none->Q (.ref D) (upd H2 D (.lst ys))) H1
theorem BN {N:List Str}{eO:List QH}{scope:Rn}{elt tg iter:OH}{ifs:List OH}{wi:TI}{g:TG}{tt:TT}{tb:TB}{mk:L2.St->L2.St} (hc:X.calm=true) (hi:WI X tg iter wi) (S:zh X scope) (hcap:∀ σ,σ.length=X.N.length->rT X scope N σ (mk σ)/\(mk σ).length=N.length)
  (hg:∀ C s0 H0 fp pn,WG (bF X N scope (bj X scope C) C s0 H0 fp pn) tg g)(ht:∀ C s0 H0 fp pn,Hm (bF X N scope (bj X scope C) C s0 H0 fp pn) ifs tt)(he:∀ C s0 H0 fp pn,WB (bF X N scope (bj X scope C) C s0 H0 fp pn) elt (⟨tg,iter,ifs,0⟩::eO) scope pos 0 tb)
  (hs:∀ x,Oa iter X.env x=pure x:=by intro _;rfl):WE X (.ListComp elt (⟨tg,iter,ifs,0⟩::eO) scope pos) (Jd wi g tt tb mk):=by
 have hi:=hi.go;have hg:=λC s0 H0 fp pn=>(hg C s0 H0 fp pn).go
 have ht:=λC s0 H0 fp pn=>(ht C s0 H0 fp pn).go
 have he:=λC s0 H0 fp pn=>(he C s0 H0 fp pn).go
 refine⟨?_⟩;intro pins s σ H Q I h;rw[eval_ListComp];refine QE (use:=none) rfl hs (r_ S.free) S.kind (λy hy e=>by rw[S.once y hy,e]) ?_;refine bY (hi pins s σ H _ I h) λv s1 h1=>bY h1 λitv s2 h2=>?_
 obtain⟨it,fp,tn,J,H2,rfl,I2,T,st2,f2,hw⟩:=h2;have hcp:=hcap σ I2.len;refine pL hc I2 S hcp.1 hcp.2 f2 T st2 (λC=>hg C _ _ _ _) (λC=>ht C _ _ _ _) (λC=>he C _ _ _ _) hw ?_;intro D C s' H' ys I' hD fin hm hC hDC hle;obtain⟨m,hn⟩:=hm;refine⟨m,hn,λh' hs'=>⟨.ref D,_,?_,rfl,fin D hD⟩⟩;exact I'.turned (it:=C) (t':=s'.toks) (λb o hb e=>hs'.extBut b o hb e) (by rw[aq (OU hDC)];exact hC) (λz=>absurd (z▸I2.lt) (N1.mpr hle)) (.inr (MQ I2.sz hle))
  (λx c e z=>by
   obtain⟨v',q⟩:=I2.cell x c e;exact absurd (z▸q.lt) (N1.mpr hle))
  (λp hp z=>absurd (z▸Mr (I2.pin p hp).1) (N1.mpr hle))
end
section
variable {X:Cx}{pins:List (Mz×Obj)}{σ:L2.St}{H H2:Hp}{s s2:Mp}
theorem r6 {N:List Str}{scope:Rn}{elt tg iter:OH}{ifs:List OH}{pos:Pos}{it:Mz}{fp:List Mz}{tn:Nat->Os->Prop}{J:It}{g:TG}{tt:TT}{te:TE}{σ0:L2.St}{Fin:List V->Hp->Prop}
  {E:Mj->Mp->Prop}{RR:Mj->Mz->Result->Mp->Prop}(hc:X.calm=true)(I:aG X pins σ H2 s2)(S:zh X scope)
  (hcap:rT X scope N σ σ0)(hlen:σ0.length=N.length)(f2:∀ b∈fp,oV X pins H2 b)(T:vS X.prog X.w X.K tg J fp it tn)(st2:tn 0 s2.heap)
  (hg:∀ C,PG (bF X N scope (bj X scope C) C s2 H2 fp pins) tg g)(ht:∀ C,K5 (bF X N scope (bj X scope C) C s2 H2 fp pins) ifs tt)(he:∀ C,PE (bF X N scope (bj X scope C) C s2 H2 fp pins) elt te)(hw:gR J g tt te σ0 Fin H2)
  (hRR:∀ (D C:Mz) (s':Mp) (H':Hp) (ys:List V),aG X pins σ (upd H' D (.lst ys)) s'->H' D=none->Fin ys H'->(∃ m,s'.heap.Ns C m)->H' C=none->D≠C->s2.heap.objs.size<=C->RR (.ref D) C (.ok .next) s'):
  MB (MW X.prog X.w) X.A (newList []) (λacc s₃=>MB (MW X.prog X.w) X.A (Sy scope X.env.globals (ut X.env.cells scope.names []) [] X.env.qual none .none (some X.env)) (λcenv s₄=>
   Qx (MW X.prog X.w) X.A (.compStart (.ListComp elt [⟨tg,iter,ifs,0⟩] scope pos) 0 (.ref it) acc { cenv with scope:=relabel scope X.env }) (RR acc cenv.locals) s₄) E s₃) E s2:=by
 obtain⟨W,h0,kY⟩:=hw;refine pL (eO:=[]) (tb:=AT te) hc I S hcap hlen f2 T st2 hg ht (λC=>A4 rfl rfl (he C)) ⟨W,h0,λi m ys H w=>?_⟩ hRR;rcases kY i m ys H w with h|⟨h1,h2,h3⟩
 ·exact .inl h
 ·refine .inr ⟨h1,λx H3 y=>?_⟩;have:=h3 x H3 y
  simpa only [AT,h2,true_and] using this
end
section
variable {X:Cx}{pos:Pos}
def DO (wi:TI)(g:TG)(tt:TT)(te:TE)(mk:L2.St->L2.St):TE:=λσ H Q=>wi σ H λJ H1=>gR J g tt te (mk σ) (λys H2=>∀ D,H2 D=none->Q (.ref D) (upd H2 D (.lst ys))) H1
theorem Ej (hc:X.calm=true) (hi:WI X tg iter wi) (S:zh X scope) (hcap:∀ σ,σ.length=X.N.length->rT X scope N σ (mk σ)/\(mk σ).length=N.length)
  (hg:∀ C s0 H0 fp pn,WG (bF X N scope (bj X scope C) C s0 H0 fp pn) tg g)(ht:∀ C s0 H0 fp pn,Hm (bF X N scope (bj X scope C) C s0 H0 fp pn) ifs tt)(he:∀ C s0 H0 fp pn,WE (bF X N scope (bj X scope C) C s0 H0 fp pn) elt te)
  (hs:∀ x,Oa iter X.env x=pure x:=by intro _;rfl):WE X (.ListComp elt [⟨tg,iter,ifs,0⟩] scope pos) (DO wi g tt te mk):=by
 have hi:=hi.go;have hg:=λC s0 H0 fp pn=>(hg C s0 H0 fp pn).go
 have ht:=λC s0 H0 fp pn=>(ht C s0 H0 fp pn).go
 have he:=λC s0 H0 fp pn=>(he C s0 H0 fp pn).go
 refine⟨?_⟩;intro pins s σ H Q I h;rw[eval_ListComp];refine QE (use:=none) rfl hs (r_ S.free) S.kind (λy hy e=>by rw[S.once y hy,e]) ?_;refine bY (hi pins s σ H _ I h) λv s1 h1=>bY h1 λitv s2 h2=>?_
 obtain⟨it,fp,tn,J,H2,rfl,I2,T,st2,f2,hw⟩:=h2;have hcp:=hcap σ I2.len;refine r6 hc I2 S hcp.1 hcp.2 f2 T st2 (λC=>hg C _ _ _ _) (λC=>ht C _ _ _ _) (λC=>he C _ _ _ _) hw ?_;intro D C s' H' ys I' hD fin hm hC hDC hle;obtain⟨m,hn⟩:=hm;refine⟨m,hn,λh' hs'=>⟨.ref D,_,?_,rfl,fin D hD⟩⟩;exact I'.turned (it:=C) (t':=s'.toks) (λb o hb e=>hs'.extBut b o hb e) (by rw[aq (OU hDC)];exact hC) (λz=>absurd (z▸I2.lt) (N1.mpr hle)) (.inr (MQ I2.sz hle))
  (λx c e z=>by
   obtain⟨v',q⟩:=I2.cell x c e;exact absurd (z▸q.lt) (N1.mpr hle))
  (λp hp z=>absurd (z▸Mr (I2.pin p hp).1) (N1.mpr hle))
end
section
variable {X:Cx}{pos:Pos}
def C5 (i:Nat)(wi:TI)(g:TG)(tt:TT)(te:TE)(mk:L2.St->L2.St):TS:=λE σ H=>wi σ H λJ H1=>gR J g tt te (mk σ) (λys H2=>∀ D,H2 D=none->E.nx (σ.set i (some (.ref D))) (upd H2 D (.lst ys))) H1
theorem x' {i:Nat} (hc:X.calm=true) (hN:X.N.Nodup) (hi':X.N[i]?=some y) (hy:X.env.scope.names.lookup y=some .local)
  (hi:WI X tg iter wi)(S:zh X scope)(hcap:∀ σ,σ.length=X.N.length->rT X scope N σ (mk σ)/\(mk σ).length=N.length)
  (hg:∀ C s0 H0 fp pn,WG (bF X N scope (bj X scope C) C s0 H0 fp pn) tg g)(ht:∀ C s0 H0 fp pn,Hm (bF X N scope (bj X scope C) C s0 H0 fp pn) ifs tt)(he:∀ C s0 H0 fp pn,WE (bF X N scope (bj X scope C) C s0 H0 fp pn) elt te)
  (hsw:SR (.ListComp elt [⟨tg,iter,ifs,0⟩] scope pos) (some (.Name y py)) spos.line X.env=pure true:=by rfl)
  (hs:∀ x,Oa iter X.env x=pure x:=by intro _;rfl):WS X (.Assign [.Name y py] (.ListComp elt [⟨tg,iter,ifs,0⟩] scope pos) spos) (C5 i wi g tt te mk):=by
 have hi:=hi.go;have hg:=λC s0 H0 fp pn=>(hg C s0 H0 fp pn).go
 have ht:=λC s0 H0 fp pn=>(ht C s0 H0 fp pn).go
 have he:=λC s0 H0 fp pn=>(he C s0 H0 fp pn).go
 refine⟨?_⟩;intro pins s σ H E I h;rw[exec_Assign_Name_used _ _ _ _ hsw];refine KE (O5 (KE ?_));show MB _ X.A (do let _ <- comprehension (.ListComp elt [⟨tg,iter,ifs,0⟩] scope pos) scope X.env _ (newList []) false (Qh iter X.env) (some (assign (.Name y py) X.env))) _ _ s;refine KE (NI (QE (use:=some (assign (.Name y py) X.env)) (Q:=λ_ s'=>SP X pins E .next s') rfl hs (r_ S.free) S.kind (λy hy e=>by rw[S.once y hy,e]) ?_) (λ_ s' hq=>Mh (Mh hq)) λ_ _ e=>e);refine bY (hi pins s σ H _ I h) λv s1 h1=>bY h1 λitv s2 h2=>?_
 obtain⟨it,fp,tn,J,H2,rfl,I2,T,st2,f2,hw⟩:=h2;have hcp:=hcap σ I2.len;refine r6 hc I2 S hcp.1 hcp.2 f2 T st2 (λC=>hg C _ _ _ _) (λC=>ht C _ _ _ _) (λC=>he C _ _ _ _) hw ?_;intro D C s' H' ys I' hD fin hm hC hDC hle;obtain⟨m,hn⟩:=hm;have neC:X.env.locals≠C:=λz=>absurd (z▸I2.lt) (N1.mpr hle)
 have upC:(upd H' D (.lst ys)) C=none:=by rw[aq (OU hDC)];exact hC
 show MB _ X.A (assign (.Name y py) X.env (.ref D)) _ _ s';refine wpAny_assign_Name (u6 I' hN hi' (.inl hy) (v:=.ref D) (u:=.ref D) rfl (λs3 I3 ⟨a,sb,ha⟩=>?_) (.inr hy));have aC:C≠a:=by
  rcases ha with e|e
  ·rw[e];exact OU neC
  ·intro z;obtain⟨v',q⟩:=I2.cell y a e;exact absurd (z▸q.lt) (N1.mpr hle)
 refine⟨m,hn.sameBut sb aC,λh' hs'=>⟨_,_,?_,fin D hD⟩⟩;exact I3.turned (it:=C) (t':=s3.toks) (λb o hb e=>hs'.extBut b o hb e) upC (OU neC) (.inr (MQ I2.sz hle))
  (λx c e z=>by
   obtain⟨v',q⟩:=I2.cell x c e;exact absurd (z▸q.lt) (N1.mpr hle))
  (λp hp z=>absurd (z▸Mr (I2.pin p hp).1) (N1.mpr hle))
end
end TR
namespace L2
open PySem PySem.Spec PyProof.Rows
section
variable {κ:Type}[DecidableEq κ]
def mn (kvs:List (κ×V))(k:κ):Option V:=(kvs.find? λkv=>decide (kv.1=k)).map (·.2)
def nR (kvs:List (κ×V))(k:κ)(v:V):List (κ×V):=
 if(kvs.any λkv=>decide (kv.1=k))=true then kvs.map (λkv=>if kv.1=k then(kv.1,v) else kv) else kvs++[(k,v)]
theorem nJ {p:κ×V}{r:List (κ×V)}{k:κ}(e:p.1=k):mn (p::r) k=some p.2:=by simp[mn,OT,e]
theorem kO {p:κ×V}{r:List (κ×V)}{k:κ}(e:¬ p.1=k):mn (p::r) k=mn r k:=by simp[mn,OT,e]
theorem rY (k:κ):∀ kvs:List (κ×V),(kvs.any λkv=>decide (kv.1=k))=(mn kvs k).isSome
 |[]=>rfl
 |p::r=>by
  rw[UI]
  by_cases e:p.1=k
  ·simp only[nJ e,Ms e,Bool.true_or,UL]
  ·rw[kO e,Na e,Bool.false_or];exact rY k r
theorem pH (kvs:List (κ×V))(k:κ)(v:V):(nR kvs k v).length<=kvs.length+1:=by
 unfold nR
 split
 ·rw[Mq];lia
 ·rw[ML,NC,QO];lia
theorem Dr {kvs:List (κ×V)}{k:κ}(v:V)(h:mn kvs k=none):nR kvs k v=kvs++[(k,v)]:=by
 unfold nR;rw[rY,h];exact MT (by decide)
theorem ku.isSome_eq (r:ku o u):o.isSome=u.isSome:=by
 cases o with
 |none=>cases u with
  |none=>rfl
  |some _=>exact(show False from r).elim
 |some _=>cases u with
  |none=>exact(show False from r).elim
  |some _=>rfl
theorem ku.getD (r:ku o u)(rd:bv d d'):bv (o.getD d) (u.getD d'):=by
 cases o with
 |none=>cases u with
  |none=>exact rd
  |some _=>exact(show False from r).elim
 |some _=>cases u with
  |none=>exact(show False from r).elim
  |some _=>exact r
theorem KV.val {kvs:List (κ×V)}{vs:List (κ×Mj)}(r:KV kvs vs)(k:κ):ku (mn kvs k) (Vf vs k):=by
 unfold KV at r
 induction r with
 |nil=>exact True.intro
 |@cons p q ps qs h t ih=>
  obtain⟨h1,h2⟩:=h
  by_cases e:p.1=k
  ·have e':q.1=k:=h1.symm.trans e;have b:Vf (q::qs) k=some q.2:=by simp[Vf,OT,e']
   rw[nJ e,b];exact h2
  ·have e':¬ q.1=k:=λz=>e (h1.trans z)
   have b:Vf (q::qs) k=Vf qs k:=by simp[Vf,OT,e']
   rw[kO e,b];exact ih
theorem KV.any (r:KV kvs vs)(k:κ):(kvs.any λkv=>decide (kv.1=k))=vs.any λkv=>decide (kv.1=k):=by
 unfold KV at r
 induction r with
 |nil=>rfl
 |cons h t ih=>rw[UI,UI,ih,h.1]
theorem KV.repl (r:KV kvs vs) (k:κ) (ry:bv y u) :
  KV (kvs.map λkv=>if kv.1=k then(kv.1,y) else kv) (vs.map λkv=>if kv.1=k then(kv.1,u) else kv):=by
 unfold KV at r ⊢
 induction r with
 |nil=>exact .nil
 |@cons p q ps qs h t ih=>
  rw[MN,MN];refine .cons ?_ ih;obtain⟨h1,h2⟩:=h
  by_cases e:p.1=k
  ·rw[Nd e,Nd (h1.symm.trans e)];exact⟨h1,ry⟩
  ·rw[MT e,MT (λz=>e (h1.trans z))];exact⟨h1,h2⟩
theorem KV.put (r:KV kvs vs)(k:κ)(ry:bv y u):KV (nR kvs k y) (stored vs k u):=by
 unfold nR stored;rw[r.any k]
 by_cases e:(vs.any λkv=>decide (kv.1=k))=true
 ·rw[Nd e,Nd e];exact r.repl k ry
 ·rw[MT e,MT e];exact Paired.snoc r ⟨rfl,ry⟩
theorem KV.length (r:KV kvs vs):kvs.length=vs.length:=UM r
end
theorem A_ (r:bv (kV k) u):(bK P w).is k u=true:=by
 cases k with
 |inl i=>obtain⟨t,e⟩:=(show ∃ t,u=PL i t from r);subst e;exact yn P w i t
 |inr x=>obtain⟨t,e⟩:=(show ∃ t,u=SO x t from r);subst e;exact xL P w x t
theorem uP:∀ {ks:List gk}{us:List Mj},aM (ks.map kV) us->ItemsAre (bK P w) ks us
 |[],_,r=>by rw[Pu] at r;cases r;exact .nil
 |k::ks,_,r=>by
  rw[MN] at r;cases r with
  |cons h t=>exact .cons (A_ h) (uP t)
abbrev KT (H:Hp):List (List gk×V)->List (List gk×Mz×Mj)->Prop:=SJ λp q=>p.1=q.1/\H q.2.1=some (.tup (p.1.map kV))/\bv p.2 q.2.2
theorem KT.val {H:Hp}{kvs:List (List gk×V)}{xs:List (List gk×Mz×Mj)}(r:KT H kvs xs)(k:List gk):ku (mn kvs k) ((atKey xs k).map (·.2)):=by
 induction r with
 |nil=>exact True.intro
 |@cons p q ps qs h t ih=>
  obtain⟨h1,_,h2⟩:=h
  by_cases e:p.1=k
  ·have e':q.1=k:=h1.symm.trans e;have b:atKey (q::qs) k=some q.2:=by simp[atKey,OT,e']
   rw[nJ e,b];exact h2
  ·have e':¬ q.1=k:=λz=>e (h1.trans z)
   have b:atKey (q::qs) k=atKey qs k:=by simp[atKey,OT,e']
   rw[kO e,b];exact ih
theorem KT.repl (r:KT H kvs xs) (k:List gk) (ry:bv y u) :
  KT H (kvs.map λkv=>if kv.1=k then(kv.1,y) else kv) (xs.map (putAt k u)):=by
 induction r with
 |nil=>exact .nil
 |@cons p q ps qs h t ih=>
  rw[MN,MN];refine .cons ?_ ih;obtain⟨h1,h2,h3⟩:=h;unfold putAt
  by_cases e:p.1=k
  ·rw[Nd e,Nd (h1.symm.trans e)];exact⟨h1,h2,ry⟩
  ·rw[MT e,MT (λz=>e (h1.trans z))];exact⟨h1,h2,h3⟩
theorem KT.put (r:KT H kvs xs) (k:List gk) (hb:H b=some (.tup (k.map kV))) (ry:bv y u) :
  KT H (nR kvs k y) (storedH xs k b u):=by
 have e:(kvs.any λkv=>decide (kv.1=k))=(atKey xs k).isSome:=by
  rw[rY,(r.val k).isSome_eq,Option.isSome_map]
 unfold nR storedH;rw[e]
 by_cases q:(atKey xs k).isSome=true
 ·rw[Nd q,Nd q];exact r.repl k ry
 ·rw[MT q,MT q];exact Paired.snoc r ⟨rfl,hb,ry⟩
theorem KT.keeps (r:KT H kvs xs)(ht:∀ b ys,H b=some (.tup ys)->H' b=some (.tup ys)):KT H' kvs xs:=
 Paired.mapP r λ_ _ z=>⟨z.1,ht _ _ z.2.1,z.2.2⟩
section
variable {P:MS}{w:No}{H:Hp}{h:Os}{a:Mz}
theorem G9 (ok:nk P w H h)(e:Rd H a u):bT P w H h a u:=e.ok ok
theorem yf (ok:nk P w H h)(e:Rd H a (.dK kvs)):kvs.length<=MI/\(a==N2)=false/\∃ vs,KV kvs vs/\h.DictOf (bK P w) a vs:=
 show bT P w H h a (.dK kvs) from G9 ok e
theorem JC (ok:nk P w H h)(e:H a=some (.dK kvs)):kvs.length<=MI/\(a==N2)=false/\∃ vs,KV kvs vs/\h.DictOf (bK P w) a vs:=yf ok (.inl e)
theorem tE (ok:nk P w H h)(e:H a=some (.tup (ks.map kV))):(PM (bK P w)).is h ks a:=by
 obtain⟨_,its,r,o,h1,h2,n,h3⟩:=(show bT P w H h a (.tup (ks.map kV)) from ok a _ e)
 exact⟨o,its.toArray,n,h1,h2,h3,by simpa using uP r⟩
theorem oA (ok:nk P w H h) (e:Rd H a (.dT kvs)):kvs.length <= MI/\(a == N2)=false /\
  ∃ xs,KT H kvs xs/\h.DictOfH (PM (bK P w)) a xs:=by
 obtain⟨z,y,xs,r,o,es,ep,h1,h2,h3,h4,h5⟩:=(show bT P w H h a (.dT kvs) from G9 ok e)
 refine⟨z,y,xs,r,o,es,ep,h1,h2,h3,h4,λx hx=>?_,h5⟩;have all:∀ {l:List (List gk×V)}{m:List (List gk×Mz×Mj)},KT H l m->∀ x∈m,(PM (bK P w)).is h x.1 x.2.1:=by
  intro l m q
  induction q with
  |nil=>intro x hx;exact nomatch hx
  |@cons p q ps qs hq t ih=>
   intro x hx;rcases Mx.mp hx with e|hx
   ·subst e;exact tE ok (by rw[<- hq.1];exact hq.2.1)
   ·exact ih x hx
 exact all r x hx
theorem Ka (ok:nk P w H h) (e:H a=some (.dT kvs)):kvs.length <= MI/\(a == N2)=false /\
  ∃ xs,KT H kvs xs/\h.DictOfH (PM (bK P w)) a xs:=oA ok (.inl e)
end
def qe (H:Hp)(a:Mz)(y:V)(r:Option V):Prop:=
 (∃ kvs k,Rd H a (.dK kvs)/\y=kV k/\r=mn kvs k)\/∃ kvs k b,Rd H a (.dT kvs)/\y=.ref b/\H b=some (.tup (k.map kV))/\r=mn kvs k
def Fa (H:Hp)(a:Mz)(y v:V)(H':Hp):Prop:=
 (∃ kvs k,H a=some (.dK kvs)/\y=kV k/\kvs.length<MI/\H'=upd H a (.dK (nR kvs k v))) \/
 ∃ kvs k b,H a=some (.dT kvs)/\y=.ref b/\H b=some (.tup (k.map kV))/\kvs.length<MI/\H'=upd H a (.dT (nR kvs k v))
theorem qe.t {H:Hp}{a b:Mz}{kvs:List (List gk×V)}{k:List gk}(e:H a=some (.dT kvs))(eb:H b=some (.tup (k.map kV))):qe H a (.ref b) (mn kvs k):=.inr ⟨kvs,k,b,.inl e,rfl,eb,rfl⟩
theorem Fa.t {H:Hp}{a b:Mz}{kvs:List (List gk × V)}{k:List gk}{v:V} (e:H a=some (.dT kvs)) (eb:H b=some (.tup (k.map kV))) (hl:kvs.length < MI) :
  Fa H a (.ref b) v (upd H a (.dT (nR kvs k v))):=.inr ⟨kvs,k,b,e,rfl,eb,hl,rfl⟩
section
variable {X:Cx}{pins:List (Mz×Obj)}{σ:St}{H:Hp}{s:Mp}{a:Mz}{y v:V}{u r:Mj}{o:Option V}{A:ND}{E:Mj->Mp->Prop}
theorem aG.big (I:aG X pins σ H s):N2<s.heap.objs.size:=by
 have h:Mo<s.heap.objs.size:=(I.mod.glob.keeps I.bk).lt;exact Nat.lt_trans (by decide) h
theorem BF (hu:A.units + 1 < cLine) (I:aG X pins σ H s) (g:qe H a y (some v)) (ry:bv y u) (h:∀ w' s',aG X pins σ H s'->bv v w'->Q w' s') :
  MB (MW X.prog X.w) A (UB (.ref a) u) Q E s:=by
 rcases g with ⟨kvs,k,e,ey,l⟩|⟨kvs,k,b,e,ey,eb,l⟩
 ·subst ey;obtain⟨z,hd,vs,rel,dd⟩:=yf I.hok e;obtain⟨w',hw,rw'⟩:=ku.some_of (v:=v) (o:=Vf vs k) (by rw[l];exact rel.val k);exact wpAny_getItem_of (A_ ry) dd.mapOf hw (h w' _ (I.tok _) rw')
 ·subst ey;cases(show u=MP b from ry);obtain⟨z,hd,xs,rel,dd⟩:=oA I.hok e;obtain⟨w',hw,rw'⟩:=ku.some_of (v:=v) (o:=(atKey xs k).map (·.2)) (by rw[l];exact rel.val k);obtain⟨p,hp,hp2⟩:=MJ.mp hw;refine wpAny_getItem_heap (Sg hu) (tE I.hok eb) dd hp ?_;rw[hp2];exact h w' _ (I.tok _) rw'
theorem AW {t':Nat} (I:aG X pins σ H s) (mu:JP (H a)) (hs:Nv a s.heap h') (he:∃ q,h'.get? a=some q) (new:bT X.prog X.w (upd H a ob) h' a ob) :
  aG X pins σ (upd H a ob) { s with heap:=h',toks:=t' }:=
 I.write (x:=a) (e:=a) mu (.inl rfl) (λb q hb z=>(hs.2 b hb).trans z) he new
theorem HL (z:kvs.length <= MI) (hd:(a == N2)=false) (rel:KV kvs vs) (dd:h'.DictOf (bK P w) a vs) :
  bT P w H' h' a (.dK kvs):=⟨z,hd,vs,rel,dd⟩
theorem B_ (hu:A.units + 1 < cLine) (I:aG X pins σ H s) (g:Fa H a y v H') (ry:bv y u) (rv:bv v r) (h:∀ s',aG X pins σ H' s'->Q () s') :
  MB (MW X.prog X.w) A (setItem (.ref a) u r) Q E s:=by
 rcases g with ⟨kvs,k,e,ey,l,eH⟩|⟨kvs,k,b,e,ey,eb,l,eH⟩
 ·subst ey eH;obtain⟨z,hd,vs,rel,dd⟩:=JC I.hok e;have hz:vs.length<=MI:=by rw[<- rel.length];exact z
  have hl:(nR kvs k v).length<=MI:=by have:=pH kvs k v;lia
  refine wpAny_setItem_pairs (hsz:=hz) (A_ ry) dd λh' dd' hs=>h _ ?_
  have he:∃ q,h'.get? a=some q:=let ⟨q,_,_,hq,_⟩:=dd';⟨q,hq⟩
  exact AW I (by rw[e];exact True.intro) hs he (HL hl hd (rel.put k rv) dd')
 ·subst ey eH;cases(show u=MP b from ry);obtain⟨z,hd,xs,rel,dd⟩:=Ka I.hok e;have hz:xs.length<=MI:=by rw[<- UM rel];exact z
  have hl:(nR kvs k v).length<=MI:=by have:=pH kvs k v;lia
  refine wpAny_setItem_heap (hsz:=hz) (Sg hu) (tE I.hok eb) dd λh' dd' hs=>h _ ?_
  obtain⟨q,es,ep,hq,h2,h3,h4,_,h5⟩:=dd';refine AW I (by rw[e];exact True.intro) hs ⟨q,hq⟩ ⟨hl,hd,_,(rel.put k eb rv).keeps λc ys ec=>?_,q,es,ep,hq,h2,h3,h4,h5⟩;rw[aq (GZ ec e (λz=>nomatch z))];exact ec
end
def Kj (i:OH):Prop:=∀ ov iv,subscripted i false ov iv=operate [ov,iv] (UB ov iv)
theorem Gb {prog:MS}{w:No}{A:ND}{E:Mj->Mp->Prop}{s:Mp}{env:Env}{value slice:OH}{pos:Pos}{T id:String}{Q:Mj->Mp->Prop}
  (hl:typeLookup (.type T) "__getitem__"=pure (some (.builtin id)))(hs:Kj slice)
  (h:MB (MW prog w) A (Qh value env) (λo s₁=>MB (MW prog w) A (Qh slice env) (λi s₂=>s₂.TypeIs o T/\MB (MW prog w) A (UB o i) Q E s₂) E s₁) E s):
  MB (MW prog w) A (Qh (.Subscript value slice pos) env) Q E s:=by
 refine Vb (NI h (λo s₁ h₁=>NI h₁ (λi s₂ h₂=>?_) λ_ _ x=>x) λ_ _ x=>x);obtain⟨hT,h₂⟩:=h₂;unfold UY;refine KE ?_;rw[getitemInPython_of_ne hT.not_modules];refine KE (R6 hT hl ?_);have fin:MB (MW prog w) A (subscripted slice false o i) (λr s₃=>MB (MW prog w) A (letTemporaryGo value o r>>=λ_=>pure r) Q E s₃) E s₂:=by
  rw[hs o i];exact wpAny_operating (NI h₂ (λr s₃ h₃=>KE (wpAny_letTemporaryGo (Mh h₃))) λ_ _ x=>x)
 first
  |exact Mh (KE fin)
  |exact KE (Mh (KE fin))
  |exact KE fin
theorem xO (I:aG X pins σ H s)(g:qe H a y o):s.TypeIs (.ref a) "dict":=by
 rcases g with ⟨kvs,k,e,_,_⟩|⟨kvs,k,b,e,_,_,_⟩
 ·obtain⟨_,_,vs,_,dd⟩:=yf I.hok e;exact dd.typeIs
 ·obtain⟨_,_,xs,_,dd⟩:=oA I.hok e;exact dd.typeIs
def JJ (td ty:TE):TE:=λσ H Q=>td σ H λx H1=>ty σ H1 λy H2=>∃ a v,x=.ref a/\qe H2 a y (some v)/\Q v H2
def Jx (td ty tv:TE):TS:=λD σ H=>tv σ H λv H1=>td σ H1 λx H2=>ty σ H2 λy H3=>∃ a H4,x=.ref a/\Fa H3 a y v H4/\D.nx σ H4
section
variable {X:Cx}{o i e value:OH}{pos pos' tpos:Pos}{td ty tv:TE}
theorem sN (hu:X.A.units+1<cLine)(ho:WE X o td)(hi:WE X i ty)(hs:Kj i):WE X (.Subscript o i pos) (JJ td ty):=by
 have ho:=ho.go;have hi:=hi.go;refine⟨?_⟩;intro pins s σ H Q I h;refine Gb PySem.F.slot_dict_getitem.lookup hs (bY (ho pins s σ H _ I h) λu s1 ⟨x,H1,I1,rx,q1⟩=>bY (hi pins s1 σ H1 _ I1 q1) λiv s2 ⟨y,H2,I2,ry,a,v,ex,g,q2⟩=>?_);subst ex;obtain rfl:u=MP a:=rx;exact⟨xO I2 g,BF hu I2 g ry λw' s3 I3 rw'=>⟨v,H2,I3,rw',q2⟩⟩
theorem Ei (hu:X.A.units + 1 < cLine) (ho:WE X o td) (hi:WE X i ty) (hv:WE X value tv) (hs:SR value (some (.Subscript o i pos')) pos.line X.env=pure false) :
  WS X (.Assign [.Subscript o i pos'] value pos) (Jx td ty tv):=by
 have ho:=ho.go;have hi:=hi.go;have hv:=hv.go;refine⟨?_⟩;intro pins s σ H D I h;refine wpAny_Assign_Subscript (bY (hv pins s σ H _ I h) λr s1 ⟨v,H1,I1,rv,q1⟩=>bY (ho pins s1 σ H1 _ I1 q1) λu s2 ⟨x,H2,I2,rx,q2⟩=>bY (hi pins s2 σ H2 _ I2 q2) λiv s3 ⟨y,H3,I3,ry,a,H4,ex,g,q3⟩=>?_) hs;subst ex;obtain rfl:u=MP a:=rx;exact B_ hu I3 g ry rv λs4 I4=>⟨σ,H4,I4,q3⟩
end
theorem Er (h:Os)(hb:N2<h.objs.size):bT P w H (h.push { cls:=.type "dict",data:=.dict #[] }) h.objs.size (.dT []):=
 ⟨Nq _,Oy.mpr (OU (MR hb)),[],.nil,_,#[],0,Mn _ rfl,⟨rfl,rfl,rfl⟩,rfl,rfl,So⟩
def Jb:TE:=λ_ H Q=>∀ p,H p=none->Q (.ref p) (upd H p (.dT []))
section
variable {X:Cx}{pos:Pos}
theorem Cy:WE X (.Dict [] [] pos) Jb:=by
 exact⟨λpins s σ H Q I h=>
 wpAny_Dict_empty ⟨.ref s.heap.objs.size,_,I.laid (a:=s.heap.objs.size) (o:=.dT []) (t':=s.toks) (λ_ _ q=>Mg _ q) (Mm _) (Er s.heap I.big),rfl,h _ (I.hok.fresh (Mm _))⟩⟩
end
structure M2 (X:Cx)(o:OH)(m:Str)(apos:Pos)(e f:OH)(cpos:Pos):Prop where
 base:RF o m X.env (Qh o X.env)=Qh o X.env
 few:((QC cpos (MU [e,f] X.env)).all (λx=>!x.1)&&(PY cpos (Ol [] X.env)).all (λx=>x.1.isSome)
  &&decide (([e,f]:List OH).length+([]:List Rr).length+(if([]:List Rr).isEmpty then 0 else 1)<30))=true
 line:(apos.endLine==cpos.line)=true
 trees:QC cpos (MU [e,f] X.env)=[(false,Qh e X.env),(false,Qh f X.env)]
def ax (H:Hp)(a:Mz):Prop:=(∃ kvs,Rd H a (.dK kvs))\/∃ kvs,Rd H a (.dT kvs)
theorem Hu (I:aG X pins σ H s) (d:ax H a) :
  s.TypeIs (.ref a) "dict"/\(∀ b,MP a=.ref b->∃ ob,s.heap.get? b=some ob/\ob.dict=none)/\(a==N2)=false:=by
 rcases d with ⟨kvs,e⟩|⟨kvs,e⟩
 ·obtain⟨_,hd,vs,_,dd⟩:=yf I.hok e;refine⟨dd.typeIs,λb q=>?_,hd⟩;cases q;obtain⟨ob,_,_,h1,h2,_⟩:=dd;exact⟨ob,h1,h2.2.1⟩
 ·obtain⟨_,hd,xs,_,dd⟩:=oA I.hok e;refine⟨dd.typeIs,λb q=>?_,hd⟩;cases q;obtain⟨ob,_,_,h1,h2,_⟩:=dd;exact⟨ob,h1,h2.2.1⟩
section
variable {X:Cx}{pins:List (Mz×Obj)}{σ:St}{H:Hp}{s:Mp}{a:Mz}{y d:V}{u r:Mj}{o:Option V}{A:ND}{E:Mj->Mp->Prop}
theorem HF (hu:A.units + 1 < cLine) (I:aG X pins σ H s) (g:qe H a y o) (ry:bv y u) (rd:bv d r) (h:∀ w' s',aG X pins σ H s'->bv (o.getD d) w'->Q w' s') :
  MB (MW X.prog X.w) A (call (.builtin "dict.get") [.ref a,u,r]) Q E s:=by
 rcases g with ⟨kvs,k,e,ey,l⟩|⟨kvs,k,b,e,ey,eb,l⟩
 ·subst ey;obtain⟨z,hd,vs,rel,dd⟩:=yf I.hok e;refine TV Rl dd.typeIs Tn (SY _ _ _) (meets_dict_get_default (bK X.prog X.w) a (A_ ry) hd r) ⟨_,dd.mapOf,h _ _ (I.tok _) ?_⟩;rw[l];exact(rel.val k).getD rd
 ·subst ey;cases(show u=MP b from ry);obtain⟨z,hd,xs,rel,dd⟩:=oA I.hok e;refine TV Rl dd.typeIs Tn (SY _ _ _) (meetsH_dict_get_default (PM (bK X.prog X.w)) a b hd r) ⟨Sg hu,k,xs,tE I.hok eb,dd,h _ _ (I.tok _) ?_⟩;rw[l];exact(rel.val k).getD rd
end
def IH (td ty tx:TE):TE:=λσ H Q=>td σ H λx H1=>∃ a,x=.ref a/\ax H1 a/\ty σ H1 λy H2=>tx σ H2 λz H3=>∃ o,qe H3 a y o/\Q (o.getD z) H3
section
variable {X:Cx}{o e f:OH}{apos cpos:Pos}{td ty tx:TE}
theorem BG (hu:X.A.units+1<cLine)(ho:WE X o td)(he:WE X e ty)(hf:WE X f tx)(m:M2 X o "get" apos e f cpos):WE X (.Call (.Attribute o "get" apos) [e,f] [] cpos) (IH td ty tx):=by
 have ho:=ho.go;have he:=he.go;have hf:=hf.go;refine⟨?_⟩;intro pins s σ H Q I h;refine wpAny_Call_method m.base m.few m.line SZ Rl PySem.F.type_dict_get (bY (ho pins s σ H _ I h) λu s1 ⟨x,H1,I1,rx,a,ex,d,q1⟩=>?_);subst ex;obtain rfl:u=MP a:=rx;obtain⟨t1,t2,_⟩:=Hu I1 d;refine⟨t1,t2,?_⟩;rw[m.trees];refine QX rfl (T8 (QG (bY (he pins s1 σ H1 _ I1 q1) λiv s2 ⟨y,H2,I2,ry,q2⟩=>
  QG (bY (hf pins s2 σ H2 _ I2 q2) λfv s3 ⟨z,H3,I3,rz,ov,g,q3⟩=>SC ?_))))
 exact HF hu I3 g ry rz λw' s4 I4 rw'=>⟨_,H3,I4,rw',q3⟩
end
end L2
namespace PySem
section
variable {prog:MS}{w:No}{K:Type}[DecidableEq K]{knd:HeapKind prog w K}{A:ND}{E:Mj->Mp->Prop}{s:Mp}
theorem qf (knd:HeapKind prog w K) (d:Mz) (hd:(d == N2)=false) :
  MeetsIn prog w (Pg.«dict.__len__» ⟨[.ref d],[]⟩) (λ_ R s=>∃ xs,s.heap.DictOfH knd d xs/\R (.ok (.ret (.int xs.length s.toks))) { s with toks:=s.toks+1 }):=
 .of_wp λA R s ⟨xs,hm,h⟩=>by
  obtain⟨o,es,ep,ho,hc,hdat,he,hi,hn⟩:=hm;show MB _ _ (dictSize d>>=_) _ _ s;unfold dictSize;refine KE (KE (NS ho hdat (Mh ?_)));show MB _ _ (Builtin.Dict.pendingCount d>>=_) _ _ s;refine KE (wpAny_pendingCount_other hd ?_);refine wpAny_ret_mkInt ?_;rw[M7,TY he];exact h
theorem By {d:Mz}{xs:List (K × Mz × Mj)}{Q:Mj->Mp->Prop} (hd:(d == N2)=false) (hm:s.heap.DictOfH knd d xs) (hfit:(xs.length:Int) < 2 ^ 63)
  (h:Q (.int xs.length (s.toks+1)) { s with toks:=s.toks+1+1 }):MB (MW prog w) A (Pg.«len» ⟨[.ref d],[]⟩) (λfin s'=>∃ r,fin=.done (.ret r)/\Q r s') E s:=by
 unfold Pg.«len»;refine KE (m:=oneArg "len" _) (Mh ?_);refine KE (m:=callSpecial? (.ref d) (NY "__len__")) (Nb (name:=NY "__len__") hm.typeIs F.slot_dict_len
  (TV F.slot_dict_len hm.typeIs F.entry_dict_len (F.args_dict_len_1 _) (qf knd d hd) ⟨xs,hm,?_⟩))
 show MB _ _ _ _ _ { s with toks:=s.toks+1 };refine KE (NN (Mh ?_));refine KE (S8 ?_);show MB _ _ (if((xs.length:Nat):Int)<0 then _ else _) _ _ _;rw[MT (by lia)];show MB _ _ (if((xs.length:Nat):Int)>=2^63 then _ else _) _ _ _;rw[MT (by lia)];exact KE (wpAny_mkInt (Mh ⟨_,rfl,h⟩))
theorem Bs (hd:(d == N2)=false) (hm:s.heap.DictOfH knd d xs) (hfit:(xs.length:Int) < 2 ^ 63)
  (h:Q (.int xs.length (s.toks+1)) { s with toks:=s.toks+1+1 }):MB (MW prog w) A (call (.builtin "len") [.ref d]) Q E s:=
 Si kind_len plain_len entry_len (args_len1 _) (By hd hm hfit h)
theorem pW:∀ (l:List N9) (h:Int),(l.map (·.hash)).Nodup->(l.filter (·.hash==h)).length<=1
 |[],_,_=>Nq _
 |e::r,h,hn=>by
  rw[MN,N3] at hn;rw[List.filter_cons]
  by_cases q:(e.hash==h)=true
  ·rw[Nd q];have q':e.hash=h:=by simpa using q
   have z:r.filter (·.hash==h)=[]:=List.filter_eq_nil_iff.mpr λa ha y=>hn.1 (by
    have y':a.hash=h:=by simpa using y
    rw[q',<- y'];exact Nc.mpr ⟨a,ha,rfl⟩)
   rw[z];exact Mm _
  ·rw[MT q];exact pW r h hn.2
theorem zl {id:String}{d:Mz}{o:Obj}{es:Array N9}{ep:Nat}{Q:Array N9->Mp->Prop} (ho:s.heap.get? d=some o) (hd:o.data=.dict es ep)
  (hk:∀ e∈es.toList,∃ a,e.key=.ref a/\s.TypeIs (.ref a) "tuple")(hn:(es.toList.map (·.hash)).Nodup)(h:Q es s):MB (MW prog w) A (Rz id d) Q E s:=by
 unfold Rz;refine KE (NS ho hd ?_);refine KE ?_;rw[<- Array.forIn_toList];refine wpAny_forIn_list _ (λeO _ s'=>s'=s/\∀ e∈eO,e∈es.toList) _ ?_ ?_ _ _ ⟨rfl,λe q=>q⟩
 ·rintro e eO b s' ⟨rfl,hr⟩;obtain⟨a,ha,hT⟩:=hk e (hr e MO);have hf:¬ (es.filter (·.hash==e.hash)).size>1:=by
   have z:=pW es.toList e.hash hn;have z2:(es.filter (·.hash==e.hash)).size=(es.toList.filter (·.hash==e.hash)).length:=by
    rw[<- NJ,Array.toList_filter]
   lia
  have q:MB (MW prog w) A (T7 e.key) (λr s''=>r=false/\s''=s') E s':=by
   rw[ha];unfold T7;exact KE (R6 hT F.slot_tuple_eq.lookup (Mh ⟨by decide,rfl⟩))
  refine KE (NI q (λr s'' hq=>?_) λ_ _ z=>z);obtain⟨rfl,rfl⟩:=hq;rw[Nd (by decide),MT hf];exact Mh ⟨rfl,λe q=>hr e (Mt _ q)⟩
 ·rintro b s' ⟨rfl,_⟩;exact Mh h
theorem Dw (hdo:d ≠ o) (hoS:(o == N2)=false) (hd:s.heap.DictOfH knd d []) (ho:s.heap.DictOfH knd o xs)
  (hT:∀ x∈xs,s.TypeIs (.ref x.2.1) "tuple")(hh:(xs.map λx=>knd.hash x.1).Nodup)(hsz:xs.length<=MI)(hne0:xs≠[])
  (hQ:∀ h',h'.DictOfH knd d xs->Nv d s.heap h'->Q () { s with heap:=h' }):MB (MW prog w) A (Ti nm d o) Q E s:=by
 obtain⟨od,esd,epd,hod,hcd,hdd,hed,hid,hnd⟩:=id hd;obtain⟨oo,eso,epo,hoo,hco,hdo',heo,hio,hno⟩:=id ho;have e0:esd=#[]:=by
  have z:=TY hed;exact Array.eq_empty_of_size_eq_zero z
 subst e0;have hzo:eso.size=xs.length:=TY heo;unfold Ti;rw[MT (by simpa using hdo)];unfold P4;rw[MT (by rw[hoS];exact Nj)];refine KE (Mh ?_);refine KE (NS hoo hdo' ?_);dsimp only;cases xs with
 |nil=>exact absurd rfl hne0
 |cons x r=>
  have hfew:(decide (eso.size<=8)&&eso.all λe=>(keyPart e.key).isSome)=false:=by
   have z:(eso.all λe=>(keyPart e.key).isSome)=false:=by
    rw[<- Array.all_toList,heo,MN,RC];rfl
   rw[z,Ug]
  rw[hfew,Nd (by decide)];refine KE (NS hod hdd ?_);rw[Nd (by decide)];refine KE (zl hoo hdo' (λe q=>?_) ?_ ?_)
  ·rw[heo] at q;obtain⟨y,hy,rfl⟩:=Nc.mp q;exact⟨_,rfl,hT y hy⟩
  ·rw[heo,P9];exact hh
  ·have hne:¬ eso.isEmpty=true:=λz=>by
    rw[Array.isEmpty_iff.mp z] at hzo;cases hzo
   rw[Nd (by simpa using hne)];have hto:eso.size<=MI+1:=by lia
   refine KE (wpAny_updateDictKeysTo hod hdd (Mh (hQ _ ⟨_,_,epd+1,Nm _ hod (Obj.isFreed_of_dict (Uf hdd _)),hcd.mapDictKeys _,
    Uf hdd _,heo,λy hy=>knd.keeps (hio y hy) hod hdd (Ng ..),hno⟩ (Ng ..))) hto)
theorem FQ (hoS:(o == N2)=false) (ho:s.heap.DictOfH knd o xs) (hsz:xs.length <= MI) (hne0:xs ≠ [])
  (hT:∀ x∈xs,s.TypeIs (.ref x.2.1) "tuple")(hh:(xs.map λx=>knd.hash x.1).Nodup)(hpush:∀ x∈xs,knd.is (s.heap.push { cls:=.type "dict",data:=.dict #[] }) x.1 x.2.1)
  (h:∀ h',h'.DictOfH knd s.heap.objs.size xs->Nv s.heap.objs.size (s.heap.push { cls:=.type "dict",data:=.dict #[] }) h'->Q (.ref s.heap.objs.size) { s with heap:=h' }):
  MB (MW prog w) A (call (.type "dict") [.ref o]) Q E s:=by
 refine callType_codes (Q₁:=λobj s₁=>obj=.ref s.heap.objs.size/\s₁={ s with heap:=s.heap.push { cls:=.type "dict",data:=.dict #[] } }) F.kt_called_dict (F.kt_typeCall_dict_1 _) F.entry_dict_init (kt_code_dict_new _ ⟨rfl,rfl⟩) ?_;rintro obj s₁ ⟨rfl,rfl⟩;have hnew:(s.heap.push { cls:=.type "dict",data:=.dict #[] }).DictOfH knd s.heap.objs.size []:=Heap.DictOfH.new s.heap;have hdo:s.heap.objs.size≠o:=by
  obtain⟨_,_,_,hg,_⟩:=ho;exact λe=>absurd (Mr hg) (by rw[e];exact Nl _)
 have ho':(s.heap.push { cls:=.type "dict",data:=.dict #[] }).DictOfH knd o xs:=by
  obtain⟨oo,es,ep,h1,h2,h3,h4,h5,h6⟩:=ho;exact⟨oo,es,ep,Mg _ h1,h2,h3,h4,hpush,h6⟩
 refine⟨hnew.typeIs,F.args_dict_init_2 _ _,?_⟩;unfold Pg.«dict.__init__»;refine KE ?_;unfold Builtin.Dict.selfAndRest;refine KE (Rp hnew.typeIs ?_);show MB _ _ (pure (s.heap.objs.size,[MP o])) _ _ _;refine Mh ?_;show MB _ _ (SU "dict.__init__" s.heap.objs.size (.ref o) [] .none) _ _ _;unfold SU;refine KE (T1 ho'.typeIs ?_);rw[MT (by decide)];refine KE ?_;unfold Builtin.Dict.merge;refine KE ?_;unfold Builtin.Dict.readDirectly;refine KE (PN ho'.typeIs isSubtype_dict_dict ?_);simp only[Bool.not_true,NE,O4];refine KE (R6 ho'.typeIs Ta.lookup (Mh ?_));simp only[Ru,PR];refine KE (Mh ?_);refine Dw hdo hoS hnew ho' (λx hx=>?_) hh hsz hne0 λh' hd' hs'=>?_
 ·obtain⟨oo,e,c⟩:=hT x hx;exact⟨oo,Mg _ e,c⟩
 show MB _ _ (Builtin.Dict.addKeywords s.heap.objs.size []>>=_) _ _ _;exact KE (Mh (Mh ⟨rfl,h h' hd' hs'⟩))
end
end PySem
namespace TR
open PySem PySem.Spec PyProof.Rows L2
section
variable {X:Cx}
theorem BM:dg X (.builtin "len") (λxs H Q=>∃ p kvs,xs=[.ref p]/\Rd H p (.dT kvs)/\Q (.int kvs.length) H):=by
 intro pins s σ H xs us Q I r h;obtain⟨p,kvs,rfl,e,q⟩:=h;obtain⟨u,rfl,rx⟩:=ki r;cases rx;obtain⟨z,hd,vs,rel,dd⟩:=oA I.hok e;have hn:=ph;have hl:kvs.length=vs.length:=rel.length;exact Bs hd dd (by lia) ⟨.int kvs.length,H,I.tok _,⟨_,by rw[hl]⟩,q⟩
end
def D8 (kvs:List (List gk×V)):Prop:=∀ (P:MS) (w:No),(kvs.map λkv=>(PM (bK P w)).hash kv.1).Nodup
section
variable {X:Cx}
theorem Gg (r:L2.KT H kvs xs) :
  (kvs.map λkv=>(PM (bK P w)).hash kv.1)=xs.map λx=>(PM (bK P w)).hash x.1:=by
 induction r with
 |nil=>rfl
 |cons h t ih=>rw[MN,MN,ih,h.1]
theorem GG (r:L2.KT H kvs xs):∀ x∈xs,H x.2.1=some (.tup (x.1.map kV)):=by
 induction r with
 |nil=>intro x hx;exact nomatch hx
 |@cons p q ps qs h t ih=>
  intro x hx;rcases Mx.mp hx with rfl|hx
  ·rw[<- h.1];exact h.2.1
  ·exact ih x hx
theorem zo:dg X (.type "dict") (λxs H Q=>∃ p kvs,xs=[.ref p]/\Rd H p (.dT kvs)/\kvs≠[]/\D8 kvs/\∀ a,H a=none->Q (.ref a) (upd H a (.dT kvs))):=by
 intro pins s σ H xs us Q I r h;obtain⟨p,kvs,rfl,e,hne,hh,q⟩:=h;obtain⟨u,rfl,rx⟩:=ki r;cases rx;obtain⟨z,hd,vs,rel,dd⟩:=oA I.hok e;have hl:kvs.length=vs.length:=rel.length;have hk:=GG rel;have is0:∀ x∈vs,(PM (bK X.prog X.w)).is s.heap x.1 x.2.1:=λx hx=>tE I.hok (hk x hx)
 refine FQ hd dd (by lia) (λz0=>?_) (λx hx=>(is0 x hx).typeIs) (by rw[<- Gg rel];exact hh _ _) (λx hx=>?_) λh' hm hs=>?_
 ·rw[z0] at hl;exact hne (List.length_eq_zero_iff.mp hl)
 ·obtain⟨o,its,n,h1,h2,h3,h4⟩:=is0 x hx;exact⟨o,its,n,Mg _ h1,h2,h3,h4⟩
 ·have kk:∀ b u,s.heap.get? b=some u->h'.get? b=some u:=λb u e=>(hs.2 b (MR (Mr e))).trans (Mg _ e)
  obtain⟨oo,es,ep,g1,g2,g3,g4,g5,g6⟩:=hm;have fr:=I.hok.fresh (Mm s.heap.objs.size);refine⟨.ref s.heap.objs.size,_,I.laid (a:=s.heap.objs.size) (o:=.dT kvs) (t':=s.toks) kk (Mm _) ⟨z,Oy.mpr (OU (MR I.big)),vs,?_,oo,es,ep,g1,g2,g3,g4,g6⟩,rfl,q _ fr⟩;exact Paired.mapP rel λa b c=>⟨c.1,by rw[aq (aL c.2.1 fr)];exact c.2.1,c.2.2⟩
end
def cV (t:Nat×Nat×Nat):List gk:=[.inl (t.1:Int),.inl (t.2.1:Int),.inl (t.2.2:Int)]
def bf (k:Nat):List (Nat×Nat×Nat):=(On k).flatMap λa=>(On k).flatMap λb=>(On k).map λc=>(a,b,c)
def rR (t:Nat×Nat×Nat):Int:=reduceHash (Builtin.Tuple.tupleHashOf [hashInt (t.1:Int),hashInt (t.2.1:Int),hashInt (t.2.2:Int)])
theorem CZ (P:MS)(w:No)(t:Nat×Nat×Nat):(PM (bK P w)).hash (cV t)=rR t:=by
 show tupleKeyHash (bK P w) (cV t)=rR t;unfold tupleKeyHash cV rR;simp only[MN,Pu];rfl
set_option maxRecDepth 1000000 in
theorem FV:((bf 7).map rR).Nodup:=by decide +kernel
theorem GX:∀ {l:List α},(l.map f).Nodup->∀ {a b:α},a∈l->b∈l->f a=f b->a=b
 |[],_,_,_,h,_,_=>nomatch h
 |x::r,hn,a,b,ha,hb,e=>by
  rw[MN,N3] at hn;rcases Mx.mp ha with za|ha
  ·rcases Mx.mp hb with zb|hb
   ·rw[za,zb]
   ·exact absurd (Nc.mpr ⟨b,hb,by rw[<- e,za]⟩) hn.1
  ·rcases Mx.mp hb with zb|hb
   ·exact absurd (Nc.mpr ⟨a,ha,by rw[e,zb]⟩) hn.1
   ·exact GX hn.2 ha hb e
theorem eX {k:Nat}:t∈bf k↔t.1<k/\t.2.1<k/\t.2.2<k:=by
 obtain⟨a,b,c⟩:=t;unfold bf;simp only[PH,Nc,OQ,Prod.mk.injEq];constructor
 ·rintro⟨x,hx,y,hy,z,hz,rfl,rfl,rfl⟩;exact⟨hx,hy,hz⟩
 ·rintro⟨hx,hy,hz⟩;exact⟨a,hx,b,hy,c,hz,rfl,rfl,rfl⟩
theorem Cv (ht:t∈bf 7)(hu:u∈bf 7)(e:rR t=rR u):t=u:=GX FV ht hu e
theorem EW {h:List gk->Int}{g:Nat×Nat×Nat->Int}(hg:∀ t,h (cV t)=g t):∀ {kvs:List (List gk×V)}{ts:List (Nat×Nat×Nat)},kvs.map (·.1)=ts.map cV->(kvs.map λkv=>h kv.1)=ts.map g
 |[],[],_=>rfl
 |[],_::_,e=>nomatch e
 |_::_,[],e=>nomatch e
 |p::r,t::q,e=>by
  rw[MN,MN] at e;injection e with e1 e2
  rw[MN,MN,EW hg e2,e1,hg]
theorem yd {g:Nat×Nat×Nat->Int}{l:List (Nat×Nat×Nat)}(hg:∀ {t u},t∈l->u∈l->g t=g u->t=u):∀ {ts:List (Nat×Nat×Nat)},ts.Nodup->(∀ t∈ts,t∈l)->(ts.map g).Nodup
 |[],_,_=>So
 |t::r,hn,hb=>by
  rw[N3] at hn;rw[MN,N3];refine⟨λz=>?_,yd hg hn.2 λu hu=>hb u (Mt _ hu)⟩;obtain⟨u,hu,e⟩:=Nc.mp z;have:=hg (hb u (Mt _ hu)) (hb t MO) e;exact hn.1 (this▸hu)
theorem Gk {h:List gk->Int}{g:Nat × Nat × Nat->Int}{l:List (Nat × Nat × Nat)} (h1:∀ t,h (cV t)=g t) (h2:∀ {t u},t ∈ l->u ∈ l->g t=g u->t=u) {kvs:List (List gk × V)}{ts:List (Nat × Nat × Nat)}
  (hk:kvs.map (·.1)=ts.map cV)(hn:ts.Nodup)(hb:∀ t∈ts,t∈l):(kvs.map λkv=>h kv.1).Nodup:=by
 rw[EW h1 hk];exact yd h2 hn hb
theorem xZ {kvs:List (List gk×V)}{ts:List (Nat×Nat×Nat)}(hk:kvs.map (·.1)=ts.map cV)(hn:ts.Nodup)(hb:∀ t∈ts,t∈bf 7):D8 kvs:=
 λP w=>Gk (h:=(PM (bK P w)).hash) (g:=rR) (l:=bf 7) (CZ P w) Cv hk hn hb
end TR
namespace PySem
def Heap.RawD (h:Os)(d:Mz)(es:Array N9)(ep:Nat):Prop:=∃ o,h.get? d=some o/\o.ExactDict/\o.data=.dict es ep
section
variable {prog:MS}{w:No}{A:ND}{E:Mj->Mp->Prop}{s:Mp}{d v:Mz}{es:Array N9}{ep:Nat}
theorem Heap.RawD.typeIs (hm:s.heap.RawD d es ep):s.TypeIs (.ref d) "dict":=by obtain⟨o,ho,hc,_⟩:=hm;exact⟨o,ho,hc.1⟩
theorem Heap.RawD.of {K:Type}[DecidableEq K]{knd:HeapKind prog w K}{xs:List (K×Mz×Mj)}(hm:s.heap.DictOfH knd d xs):∃ es ep,s.heap.RawD d es ep/\es.toList=xs.map (entryOfKey knd):=by
 obtain⟨o,es,ep,h1,h2,h3,h4,_⟩:=hm;exact⟨es,ep,⟨o,h1,h2,h3⟩,h4⟩
theorem Cq (d:Mz) (hd:(d == N2)=false) :
  MeetsIn prog w (Pg.«dict.items» ⟨[.ref d],[]⟩) (λ_ R s=>(∃ es ep,s.heap.RawD d es ep) /\
   R (.ok (.ret (.ref s.heap.objs.size))) { s with heap:=s.heap.push { cls:=.type "dict_items",data:=.fields #[.ref d] } }):=
 .of_wp λA R s ⟨⟨es,ep,hm⟩,h⟩=>by
  unfold Pg.«dict.items» Builtin.Dict.noArgs;refine KE (KE (Rp hm.typeIs (Mh ?_)));unfold P4;rw[MT (by rw[hd];exact Nj)];exact KE (Mh (KE (M1 (Mh ⟨_,rfl,h⟩))))
theorem Ey (hv:s.heap.IsItemsView v d) (hm:s.heap.RawD d es ep)
  (hQ:Q (.ref s.heap.objs.size) { s with heap:=s.heap.push { cls:=.type "dict_itemiterator",data:=.fields #[.none,.bool false,.ref d,.int 0 0,.int es.size 0,.int ep 0,.none,.none] } }):
  MB (MW prog w) A (Ul (.ref v)) Q E s:=by
 obtain⟨ov,hov,hcv,hdv⟩:=id hv;obtain⟨o,ho,hc,hdat⟩:=id hm;refine Rf hv.typeIs Tj (Nk Tj hv.typeIs F.entry_dict_items_iter ?_ (F.args_dict_items_iter_1 _));unfold Pg.«dict_items.__iter__» VI Vh;refine KE (Mh (KE (KE (NM hov hdv (x:=.ref d) rfl (Mh ?_)))));refine KE (KE (NS ho hdat (KE (Qa ho hdat ?_))));have hown:Ob "dict_itemiterator"=true:=by decide
 simp only[hown,PR];refine M1 (Mh ⟨_,rfl,"dict_itemiterator",_,⟨_,Mn _ rfl,rfl⟩,N4.lookup,?_⟩)
  (by simp only[sizeOk,Qq,MH,ML,NC,QO,N7];lia)
 simpa [OX,Qq] using hQ
end
section
variable {prog:MS}{w:No}{A:ND}{E:Mj->Mp->Prop}{s:Mp}{d it:Mz}{es:Array N9}{i ep:Nat}{ok ov:Mj}
theorem GJ (hh:A.handled=none) (hit:Q6 s.heap it d i es.size ep ok ov) (hm:s.heap.RawD d es ep) (hx:es.size <= i)
  (hQ:∀ h',RO it s.heap h'->Q none { s with heap:=h' }):MB (MW prog w) A (Ql (.ref it)) Q E s:=by
 obtain⟨od,hod,hcd,hdd⟩:=id hm;have hT:s.TypeIs (.ref it) "dict_itemiterator":=⟨_,hit,rfl⟩
 have hown:Ob "dict_itemiterator"=true:=by decide
 unfold Ql;refine KE (PF (Nb (name:=NY "__next__") hT N4
  (Nk N4 hT Rh ?_ (Q2 _))))
 refine KE (Mh (KE (KE ?_)))
 first|refine KE (OG hT (Mh ?_))|refine KE (Pb hT (Mh ?_))
 refine KE (Qm hit rfl ?_);simp only[hown,PR];show MB _ _ (if(MP d==NH)=true then _ else _) _ _ s;rw[MT (show ¬ ((MP d==NH)=true) from Nj)];refine KE (Mh (KE (NS hod hdd ?_)));rw[MT (by simp)];refine KE (Mh (KE (Qa hod hdd ?_)));rw[MT (by simp)];refine Mh ?_;simp only[show ¬ ((i:Int)<0) from by lia,O4,M6,Th hx];refine KE ?_
 first|refine KE (OG hT (Mh ?_))|refine KE (Pb hT (Mh ?_))
 show MB _ _ (UX (.ref it) 2 .none>>=_) _ _ s;refine KE (OC hit rfl (by simp) ?_);show MB _ _ (VH (.type "StopIteration") []>>=_) _ _ _;refine KE ?_;simp only[VH,newTuple];refine KE (M1 ?_ (by size_fits));refine KE (m:=O_ _ _) (S' (a:=NH) (by first|rfl|(simp only[O_];rfl)) ?_);refine M1 ?_ (by size_fits);simp only[raiseNew];refine KE (S7 ?_);rw[show A.in1.handled=none from hh];refine KE (Mh (UD ?_));refine KE (PN (T:="StopIteration") (b:=true) ⟨_,Mn _ rfl,rfl⟩ Sx ?_);exact Mh (hQ _ (((Ng ..).extBut.push _).push _))
theorem Fj (hit:Q6 s.heap it d i es.size ep ok ov) (hm:s.heap.RawD d es ep) (hx:es[i]?=some e)
  (hQ:∀ h',UH h' it d (i+1) es.size ep e.key e.val s.heap.objs.size->h'.get? s.heap.objs.size=some { cls:=.type "tuple",data:=.seq #[e.key,e.val] }->h'.objs.size=s.heap.objs.size+1 ->
   (∀ b o,b≠it->s.heap.get? b=some o->h'.get? b=some o)->Q (some (.ref s.heap.objs.size)) { s with heap:=h' }):MB (MW prog w) A (Ql (.ref it)) Q E s:=by
 obtain⟨hp,g,dr,tk,os⟩:=s;obtain⟨od,hod,hcd,hdd⟩:=id hm;have hT:UQ ⟨hp,g,dr,tk,os⟩ (.ref it) "dict_itemiterator":=⟨_,hit,rfl⟩
 have hown:Ob "dict_itemiterator"=true:=by decide
 unfold Ql;refine KE (PF (Nb (name:=NY "__next__") hT N4
  (Nk N4 hT Rh ?_ (Q2 _))))
 refine KE (Mh (KE (KE ?_)))
 first|refine KE (OG hT (Mh ?_))|refine KE (Pb hT (Mh ?_))
 refine KE (Qm hit rfl ?_);simp only[hown,PR];show MB _ _ (if(MP d==NH)=true then _ else _) _ _ _;rw[MT (show ¬ ((MP d==NH)=true) from Nj)];refine KE (Mh (KE (NS hod hdd ?_)));rw[MT (by simp)];refine KE (Mh (KE (Qa hod hdd ?_)));rw[MT (by simp)];refine Mh ?_;simp only[show ¬ ((i:Int)<0) from by lia,O4,M6,hx];refine KE ?_
 first|refine KE (OG hT (Mh ?_))|refine KE (Pb hT (Mh ?_))
 refine KE (Q1 hT ?_);show MB _ _ (UX (.ref it) 3 (OX ((i:Int)+1))>>=_) _ _ ⟨hp,g,dr,tk,os⟩;refine KE (NG hit (by simp) λh₁ he₁ hs₁=>?_);replace hs₁:Nv it hp h₁:=hs₁;replace he₁:Q6 h₁ it d (i+1) es.size ep ok ov:=by
  have e:((i+1:Nat):Int)=(i:Int)+1:=by lia
  unfold Q6;rw[e];simpa [OX] using he₁
 have hT₁:UQ ⟨h₁,g,dr,tk,os⟩ (.ref it) "dict_itemiterator":=⟨_,he₁,rfl⟩
 refine KE (NN (KE (Q1 hT₁ (KE (Q1 hT₁ ?_)))));show MB _ _ (QW (.ref it) 6 e.key e.val) _ _ ⟨h₁,g,dr,tk,os⟩;unfold QW;refine KE (Um ?_);have hz₁:h₁.objs.size=hp.objs.size:=hs₁.1;have hil:it<hp.objs.size:=Mr hit;have up:∀ b o,b≠it->hp.get? b=some o->(h₁.push { cls:=.type "tuple",data:=.seq #[e.key,e.val] }).get? b=some o:=λb o hb q=>Mg _ (hs₁.extBut b o hb q)
 have he₂:Q6 (h₁.push { cls:=.type "tuple",data:=.seq #[e.key,e.val] }) it d (i+1) es.size ep ok ov:=Mg _ he₁;have ht₂:(h₁.push { cls:=.type "tuple",data:=.seq #[e.key,e.val] }).get? hp.objs.size=some { cls:=.type "tuple",data:=.seq #[e.key,e.val] }:=by rw[<- hz₁];exact Mn _ rfl
 have hz₂:(h₁.push { cls:=.type "tuple",data:=.seq #[e.key,e.val] }).objs.size=hp.objs.size+1:=by rw[Nw,hz₁]
 rw[hz₁];generalize h₁.push { cls:=.type "tuple",data:=.seq #[e.key,e.val] }=h₂ at up he₂ ht₂ hz₂ ⊢;show MB _ _ (Qr (.ref it)>>=_) _ _ ⟨h₂,g,dr,tk,os⟩;clear he₁ hs₁ hT₁ hz₁ h₁;refine KE ?_;unfold Qr;refine KE (NM he₂ rfl (x:=.none) rfl (Mh ?_));simp only[PR];refine KE (NM he₂ rfl (x:=ok) rfl (KE (NM he₂ rfl (x:=ov) rfl ?_)));refine KE (NG he₂ (by simp) λh₃ he₃ hs₃=>?_);replace hs₃:Nv it h₂ h₃:=hs₃;replace he₃:Q6 h₃ it d (i+1) es.size ep e.key ov:=he₃;refine KE (NG he₃ (by simp) λh₄ he₄ hs₄=>?_);replace hs₄:Nv it h₃ h₄:=hs₄;replace he₄:Q6 h₄ it d (i+1) es.size ep e.key e.val:=he₄;refine KE (NG he₄ (by simp) λh₅ he₅ hs₅=>?_);replace hs₅:Nv it h₄ h₅:=hs₅;replace he₅:UH h₅ it d (i+1) es.size ep e.key e.val hp.objs.size:=he₅;refine KE (NG he₅ (by simp) λh₆ he₆ hs₆=>?_);replace hs₆:Nv it h₅ h₆:=hs₆;replace he₆:UH h₆ it d (i+1) es.size ep e.key e.val hp.objs.size:=he₆;have all:∀ b o,b≠it->h₂.get? b=some o->h₆.get? b=some o:=λb o hb q=>hs₆.extBut b o hb (hs₅.extBut b o hb (hs₄.extBut b o hb (hs₃.extBut b o hb q)))
 refine KE (S8 (Mh (Mh ⟨_,rfl,Mh (hQ h₆ he₆ (all _ _ (OD hil) ht₂) ?_ λb o hb q=>all b o hb (up b o hb q))⟩)));show h₆.objs.size=hp.objs.size+1;rw[hs₆.1,hs₅.1,hs₄.1,hs₃.1,hz₂]
end
end PySem
namespace TR
open PySem PySem.Spec PyProof.Rows L2
section
variable {X:Cx}{pins:List (Mz×Obj)}{σ:L2.St}{H:Hp}{s:Mp}{d:Mz}{u u':HO}
theorem yi (I:aG X pins σ H s)(e:H d=some u)(nt:∀ xs,u≠.tup xs)(no:∀ x,u≠.own x)(ntb:∀ ps,u≠.tbl ps)(nf:∀ o w,X.H₀ d≠some (.frz o w))(new:bT X.prog X.w (upd H d u') s.heap d u'):aG X pins σ (upd H d u') s:=by
 have ne:∀ b,H b=none->b≠d:=λb z q=>by rw[q,e] at z;cases z
 have fr:∀ b,H b=none->upd H d u' b=none:=λb z=>by rw[aq (ne b z)];exact z
 refine⟨I.ok,I.os,I.bare,⟨I.base.keep,I.base.slot,λb o q n hx=>fr b (I.base.free b o q n hx),I.base.there,λb xs q=>?_,λb o w q=>?_,λb ps q=>?_⟩,I.loc,I.cell,fr _ I.free,λx c q=>fr _ (I.freeC x c q),λp hp=>?_,λb o q=>?_,I.len⟩
 ·have z:=I.base.tups b xs q;rw[aq (λk=>nt xs (by rw[k,e] at z;exact Mi z))];exact z
 ·have z:=I.base.frzs b o w q;rw[aq (λk=>nf o w (by rw[<- k];exact q))];exact z
 ·obtain⟨more,z⟩:=I.base.tbls b ps q;exact⟨more,by rw[aq (λk=>ntb _ (by rw[k,e] at z;exact Mi z))];exact z⟩
 ·obtain⟨a1,a2,a3⟩:=I.pin p hp;exact⟨a1,fr _ a2,a3⟩
 ·by_cases hb:b=d
  ·subst hb;rw[ae] at q;cases q;exact new
  ·rw[aq hb] at q;refine(I.hok b o q).stay (λ_ _ _ z=>z) (λc z=>?_) λc xs z=>?_
   ·rw[aq (λk=>no b (by rw[k,e] at z;exact Mi z))];exact z
   ·rw[aq (λk=>nt xs (by rw[k,e] at z;exact Mi z))];exact z
theorem tI (I:aG X pins σ H s)(e:H d=some (.dT kvs)):∃ o,s.heap.get? d=some o/\aG X pins σ (upd H d (.frz o (.dT kvs))) s:=by
 have ok:=I.hok d _ e;obtain⟨_,_,_,_,o,es,ep,g1,_⟩:=id ok;refine⟨o,g1,yi I e (λ_ z=>nomatch z) (λ_ z=>nomatch z) (λ_ z=>nomatch z) (λob w z=>?_) ⟨g1,?_⟩⟩
 ·have:=I.base.frzs d ob w z;rw[e] at this;cases this
 ·exact(show bT X.prog X.w H s.heap d (.dT kvs) from ok).stay (λ_ _ _ z=>z) (λc z=>by
   by_cases k:c=d
   ·rw[k,e] at z;cases z
   ·rw[aq k];exact z) λc xs z=>by
   by_cases k:c=d
   ·rw[k,e] at z;cases z
   ·rw[aq k];exact z
theorem tO (I:aG X pins σ H s)(e:H d=some (.frz o (.dT kvs)))(nf:∀ o w,X.H₀ d≠some (.frz o w)):aG X pins σ (upd H d (.dT kvs)) s:=by
 have ok:=I.hok d _ e;obtain⟨_,ok⟩:=(show s.heap.get? d=some o/\bT X.prog X.w H s.heap d (.dT kvs) from ok)
 refine yi I e (λ_ z=>nomatch z) (λ_ z=>nomatch z) (λ_ z=>nomatch z) nf (ok.stay (λ_ _ _ z=>z) (λc z=>?_) λc xs z=>?_)
 ·by_cases k:c=d
  ·rw[k,e] at z;cases z
  ·rw[aq k];exact z
 ·by_cases k:c=d
  ·rw[k,e] at z;cases z
  ·rw[aq k];exact z
end
section
variable {X:Cx}
def JU (t:TE):TE:=λσ H Q=>t σ H λv H'=>∃ d o kvs,H d=some (.dT kvs)/\H' d=some (.frz o (.dT kvs))/\Q v (upd H' d (.dT kvs))
theorem DQ (h:WE X e t):WE X e (JU t):=by
 have h:=h.go;refine⟨?_⟩;intro pins s σ H Q I q;refine bY (h pins s σ H _ I q) λu s1 h1=>?_
 obtain⟨v,H1,I1,r1,d,o,kvs,e0,e1,q1⟩:=h1;exact⟨v,_,tO I1 e1 λo w z=>(by
  have:=I.base.frzs d o w z;rw[e0] at this;cases this),r1,q1⟩
end
def Lx (d:Mz)(o:Obj)(kvs:List (List gk×V)):It:=
 ⟨λi H=>H d=some (.frz o (.dT kvs))/\i<kvs.length,
  λi H v H'=>∃ (k:List gk) (x:V) (ka T:Mz),kvs[i]?=some (k,x)/\H ka=some (.tup (k.map kV))/\H T=none/\v=.ref T/\H'=upd H T (.tup [.ref ka,x]),
  λi H=>H d=some (.frz o (.dT kvs))/\kvs.length<=i⟩
theorem u5:∀ {l₁:List α}{l₂:List β}{i:Nat}{a:α},SJ F l₁ l₂->l₁[i]?=some a->∃ b,l₂[i]?=some b/\F a b
 |_,_,_,_,.nil,e=>by simp at e
 |_,_,0,_,.cons r _,e=>by simp at e;subst e;exact⟨_,rfl,r⟩
 |_,_,i+1,x,.cons _ t,e=>by
  obtain⟨u,h1,h2⟩:=u5 (i:=i) (a:=x) t (by simpa using e);exact⟨u,by simpa using h1,h2⟩
theorem qW {ep:Nat} (hd:o.data=.dict es ep) (ok:bT P w H h d (.frz o (.dT kvs))) :
  h.RawD d es ep/\es.size=kvs.length/\∀ (i:Nat) (k:List gk) (x:V),kvs[i]?=some (k,x)->∃ (e:N9) (ka:Mz) (u:Mj),es[i]?=some e/\e.key=.ref ka/\e.val=u/\H ka=some (.tup (k.map kV))/\bv x u:=by
 obtain⟨g1,_,_,xs,pr,o',es',ep',g2,ex,dd,ee,_⟩:=ok;rw[g1] at g2;cases g2;rw[hd] at dd;cases dd;refine⟨⟨_,g1,ex,hd⟩,?_,λi k x hx=>?_⟩
 ·have z:=PZ Uy ee;rw[Mq,NJ] at z;rw[z];exact pr.length.symm
 ·obtain⟨⟨k',ka,u⟩,h1,h2,h3,h4⟩:=u5 pr hx;refine⟨entryOfKey (PM (bK P w)) (k',ka,u),ka,u,?_,rfl,rfl,h3,h4⟩;rw[<- P2,ee,Mw,h1];rfl
theorem zI {P:MS}{w:No}{K:HD}{elts:List OH}{tk:Nat}{pos:Pos}{it d:Mz}{o:Obj}{kvs:List (List gk × V)}{es:Array N9}{ep:Nat} (hd:o.data=.dict es ep) :
  vS P w K (.Tuple elts tk pos) (Lx d o kvs) [it] it (λi h=>∃ ok ov,Q6 h it d i es.size ep ok ov) where
 mem:=by simp
 obj:=λi h st b hb=>by
  obtain⟨ok,ov,e⟩:=st;cases Ml.mp hb;exact⟨_,e,λv z=>nomatch z⟩
 keep:=λi h h' st k=>by
  obtain⟨ok,ov,e⟩:=st;exact⟨ok,ov,k it (by simp) _ e⟩
 item:=by
  intro X hP hw hK hc i pins s σ H E I hf st hg;subst hP hw hK;obtain⟨ok,ov,hit⟩:=st;obtain⟨hH,hi⟩:=hg;obtain⟨raw,hsz,at_⟩:=qW hd (I.hok d _ hH);obtain⟨e,ka,u,e1,e2,e3,e4,e5⟩:=at_ i _ _ (MC hi);refine Fj hit raw e1 λh' hit' hT hz kk=>⟨_,rfl,?_⟩
  refine wpAny_letOwnedTupleGo_items hit' λg' z' sb=>?_
  have nit:it<s.heap.objs.size:=Mr hit;have tz:s.heap.objs.size≠it:=OD nit;have k2:∀ b o,b≠it->s.heap.get? b=some o->g'.get? b=some o:=λb o hb e=>sb.extBut b o hb (kk b o hb e)
  have fit:=hf it (by simp);have I1:aG X pins σ H { s with heap:=g' }:=I.turned (it:=it) (t':=s.toks) k2 fit.1 fit.2.1 fit.2.2.2.1 fit.2.2.2.2.1 fit.2.2.2.2.2;have hT':g'.get? s.heap.objs.size=some { cls:=.type "tuple",data:=.seq #[e.key,e.val] }:=sb.extBut _ _ tz hT;have fT:H s.heap.objs.size=none:=I.hok.fresh (Mm _);have F:=I.fpOk (b:=s.heap.objs.size) (H':=H) (Mm _) fT;have I2:aG X pins σ (upd H s.heap.objs.size (.tup [.ref ka,kvs[i].2])) { s with heap:=g' }:=jL I1 fT I.sz F.2.1 F.2.2.2.2.1 F.2.2.2.2.2
   ⟨by show 2<=MI;decide,[e.key,e.val],.cons (by rw[e2];rfl) (.cons (by rw[e3];exact e5) .nil),⟨_,hT',rfl,_,rfl⟩⟩
  exact⟨.ref s.heap.objs.size,_,I2,rfl,⟨kvs[i].1,kvs[i].2,ka,s.heap.objs.size,MC hi,e4,fT,rfl,rfl⟩,⟨_,_,z'⟩,λb hb=>by
   cases Ml.mp hb;rw[aq (OU tz)];exact fit.1⟩
 done:=by
  intro X hP hw hK hc i pins s σ H E I hf st hg;subst hP hw hK;obtain⟨ok,ov,hit⟩:=st;obtain⟨hH,hi⟩:=hg;obtain⟨raw,hsz,_⟩:=qW hd (I.hok d _ hH);have fit:=hf it (by simp);exact GJ (I.ok.hd hc) hit raw (by lia) λh' ex=>⟨rfl,I.turned (it:=it) (t':=s.toks) (λb o hb e=>ex b o hb e) fit.1 fit.2.1 fit.2.2.2.1 fit.2.2.2.2.1 fit.2.2.2.2.2⟩
 self:=λ_ _ _ _ _ st h=>by
  obtain⟨ok,ov,hit⟩:=st;exact PySem.W.kcp_self hit h
section
variable {X:Cx}
def HX (to:TE):TI:=λσ H R=>to σ H λx H1=>∃ d kvs,x=.ref d/\H1 d=some (.dT kvs)/\∀ o,R (Lx d o kvs) (upd H1 d (.frz o (.dT kvs)))
theorem Ca {o:OH}{to:TE}{apos cpos tpos:Pos}{elts:List OH}{tk:Nat} (ho:WE X o to)
  (hbase:RF o "items" X.env (Qh o X.env)=Qh o X.env:=by rfl)(hline:(apos.endLine==cpos.line)=true:=by rfl):WI X (.Tuple elts tk tpos) (.Call (.Attribute o "items" apos) [] [] cpos) (HX to):=by
 have ho:=ho.go;refine⟨?_⟩;intro pins s σ H R I h;refine wpAny_Call_method0_late hbase hline (bY (ho pins s σ H _ I h) λv s1 ⟨x,H1,I1,r1,q1⟩=>?_);obtain⟨d,kvs,rfl,hH,q⟩:=q1;obtain⟨h1,h2⟩:=EI (T:="dict") I1 r1 (.inr (.inr (.inl ⟨rfl,.inr ⟨kvs,hH⟩⟩)));cases r1;refine⟨"dict","dict.items",SZ,S0,PySem.F.type_dict_items,h1,h2,QX rfl (PySem.evalArgs_none ?_)⟩;obtain⟨z,hd,vs,rel,dd⟩:=oA I1.hok (.inl hH);obtain⟨es,ep,raw,hes⟩:=Heap.RawD.of dd;refine TV S0 h1 PySem.F.entry_dict_items (PySem.F.args_dict_items_1 _) (Cq d hd) ⟨⟨es,ep,raw⟩,?_⟩;obtain⟨ob,g1,I2⟩:=tI I1 hH;obtain⟨o',g1',_,gd⟩:=id raw;rw[g1] at g1';cases g1';have k1:∀ b u,s1.heap.get? b=some u->(s1.heap.push { cls:=.type "dict_items",data:=.fields #[.ref d] }).get? b=some u:=λb u e=>Mg _ e
 have I3:=I2.kept (t':=s1.toks) k1;have raw3:(s1.heap.push { cls:=.type "dict_items",data:=.fields #[.ref d] }).RawD d es ep:=by
  obtain⟨o',a1,a2,a3⟩:=raw;exact⟨o',k1 _ _ a1,a2,a3⟩
 have hv:(s1.heap.push { cls:=.type "dict_items",data:=.fields #[.ref d] }).IsItemsView s1.heap.objs.size d:=⟨_,Mn _ rfl,rfl,rfl⟩
 refine Ey (s:={ s1 with heap:=s1.heap.push { cls:=.type "dict_items",data:=.fields #[.ref d] } }) hv raw3 ?_;generalize s1.heap.push { cls:=.type "dict_items",data:=.fields #[.ref d] }=g at I3 raw3 hv ⊢;refine⟨g.objs.size,[g.objs.size],_,_,_,rfl,I3.kept (t':=s1.toks) λb u e=>Mg _ e,zI gd,⟨_,_,Mn _ rfl⟩,λb hb=>?_,q ob⟩;cases Ml.mp hb;exact I3.fpOk (Mm _) (I3.hok.fresh (Mm _))
end
end TR
namespace TR
open PySem PySem.Spec PyProof.Rows
def sM (n:Nat):List Int:=(On n).map λ(i:Nat)=>(i:Int)
theorem Au {n i:Nat}(h:i<n):(sM n)[i]?=some (i:Int):=by unfold sM;simp[h]
theorem i' (n:Nat):(sM n).length=n:=by unfold sM;simp
theorem EX {n:Nat}(hl:vs.length=n)(h:∀ (i:Nat) (v:Mj),vs[i]?=some v->∃ t,v=PL (i:Int) t):Pm vs (sM n):=by
 have go:∀ (vs:List Mj) (k:Nat),(∀ (i:Nat) (v:Mj),vs[i]?=some v->∃ t,v=PL ((k+i:Nat):Int) t)->Pm vs ((List.range' k vs.length).map λ(i:Nat)=>(i:Int)):=by
  intro vs
  induction vs with
  |nil=>intro k _;exact .nil
  |cons v vs ih=>
   intro k h;obtain⟨t,e⟩:=h 0 v rfl;subst e;rw[NC,List.range'_succ,MN];refine .cons _ t (ih (k+1) λi v hv=>?_);obtain⟨t',e⟩:=h (i+1) v (by simpa using hv);exact⟨t',by rw[e];congr 1;lia⟩
 have:=go vs 0 λi v hv=>by simpa using h i v hv
 rw[<- List.range_eq_range',hl] at this;exact this
section
variable {prog:MS}{w:No}{A:ND}{E:Mj->Mp->Prop}{s:Mp}
theorem ze {n:Nat} (hh:A.handled=none) (hr:IsRange s.heap r 0 n 1 t u v) (hl:n <= 1000)
  (h:∀ vs h' tk,Pm vs (sM n)->(∀ b o,s.heap.get? b=some o->h'.get? b=some o)->s.heap.objs.size<h'.objs.size->Q vs { s with heap:=h',toks:=tk }):
  MB (MW prog w) A (collect (.ref r)) Q E s:=by
 have key:∀ R:Result->Mp->Prop,(∀ h' tk acc' c',(∀ b o,b ≠ s.heap.objs.size->(s.heap.push (QD "list" #[] 0)).get? b=some o->h'.get? b=some o)->h'.get? s.heap.objs.size=some { cls:=.type "list",dict:=none,data:=.seq acc' c',slots:=#[] } ->
   ItemsOf (λi v=>∃ t,v=.int (0+i*1) t) acc' n->R (.ok (.ret (.ref s.heap.objs.size))) { s with heap:=h',toks:=tk }) ->
   Qx (MW prog w) A (.builtin "list.__iadd__" ⟨[.ref s.heap.objs.size,.ref r],[]⟩) R { s with heap:=s.heap.push (QD "list" #[] 0) }:=λR hR=>by
  refine OW entry_list_iadd' ?_;rw[OO SD _];show MB _ _ (P5 (.ref s.heap.objs.size) (.ref r) (.ref s.heap.objs.size)) _ _ { s with heap:=s.heap.push (QD "list" #[] 0) };refine wpAny_extend_range (R:=R) (s:={ s with heap:=s.heap.push (QD "list" #[] 0) }) hh (Mg _ hr) (small_one (a:=0) (b:=n) (by lia) (by lia) (by lia) (by lia)) (n:=n) ?_ (by lia) s.heap.objs.size _ 0 (Mn _ rfl) λh' tk acc' c' hk hS' hacc=>hR h' tk acc' c' hk hS' hacc
  rw[UT]
  split<;>lia
 unfold collect;refine KE (Uo (OW entry_proto_collect' ?_));show MB _ _ (do again (.builtin "list.__iadd__" ⟨[<- newList [],.ref r],[]⟩)) _ _ s;refine KE (UZ (Mh ⟨UE _ (by decide +kernel),key _ fun h' tk acc' c' hk hS' hacc=>?_⟩));show MB (MW prog w) A (do
   let o <- load s.heap.objs.size
   match o.data with
   |.seq xs _=>pure xs.toList
   |_=>unsupported "internal:collect") Q E { s with heap:=h',toks:=tk }
 refine KE (wpAny_load hS' (Mh (h _ _ _ (EX (by rw[NJ];exact hacc.1) λi v hv=>?_) (λb o e=>hk b o (MR (Mr e)) (Mg _ e)) (Mr hS'))));obtain⟨t',e⟩:=hacc.2 i v (by rw[<- P2];exact hv);exact⟨t',by rw[e];congr 1;lia⟩
theorem Ay {n:Nat}
  (hh:A.handled=none)(F:Fr h₀ L s.heap m)(N:News h₀ L s.heap news)(hr:IsRange s.heap r 0 n 1 t u v)(hl:n<64)(hlen:kz.length=n)
  (ha1:argsOk "sorted" ⟨[.ref r],kw⟩)(ha2:∀ x,argsOk "list.sort" ⟨[.ref x],kw⟩)(ht:∀ x,Pg.«list.sort» ⟨[.ref x],kw⟩=ksk_tree x f b)
  (kY:∀ (i:Nat) (k:Int) (t:Tok),i<n->kz[i]?=some k->∀ (h:Os) (tk:Nat) (own:List (Mz×Obj)),Fr h₀ L h m->News h₀ L h (news++own) ->
   MB (MW prog w) A.in1.in1 (call f [.int i t]) (KskEnd h₀ L m (news++own) k { s with heap:=h,toks:=tk }) (λ_ _=>False) { s with heap:=h,toks:=tk })
  (h:∀ D h' tk out c vs,Pm vs (sM n)->Fr h₀ L h' m->News h₀ L h' ((D,QD "list" out c)::news)->s.heap.objs.size<=D->KskOut b kz vs out.toList->Q (.ref D) { s with heap:=h',toks:=tk }):
  MB (MW prog w) A (call (.builtin "sorted") [.ref r] kw) Q E s:=by
 refine call_function_entry_kw kind_sorted plain_sorted entry_sorted ha1 ?_;unfold Pg.«sorted»;refine KE (m:=checkCount "sorted" 1 1 _) (Mh ?_);refine KE (ze (show A.in1.handled=none from hh) hr (by lia) λvs g tk hi kk hlt=>?_);have hvs:vs.length=n:=by rw[hi.length,i']
 refine KE (UZ ?_ (by rw[N7];lia));have hL:L<s.heap.objs.size:=F.ns.lt;have hsz:s.heap.objs.size<=g.objs.size:=Op hlt;have hoL:(g.push (QD "list" vs.toArray 0)).get? g.objs.size=some (QD "list" vs.toArray 0):=Mn _ rfl;have keep:∀ b o,s.heap.get? b=some o->(g.push (QD "list" vs.toArray 0)).get? b=some o:=λb o q=>Mg _ (kk b o q)
 have hLg:L<g.objs.size:=(F.kept kk).ns.lt;show MB _ _ _ _ _ { s with heap:=g.push (QD "list" vs.toArray 0),toks:=tk };refine KE (NN (wpAny_call_entry_kw slot_list_sort ⟨_,hoL,rfl⟩ entry_list_sort ?body (ha2 _)))
 case body=>
  have ht':=ht g.objs.size;show MB (MW prog w) A.in1.in1 (Pg.«list.sort» ⟨[.ref g.objs.size],kw⟩) _ _ _;rw[ht'];refine ksk_sort (s:={ s with heap:=g.push (QD "list" vs.toArray 0),toks:=tk }) (kz:=kz)
   (F.kept keep) (N.grown keep) hoL (OD hLg) (T_ (MQ F.above (Op hLg)))
   (λp hp=>MR (MG (Mr (N p hp).1) hsz)) (by lia) (by lia) (λi v k hv hk h tk own F' N'=>?_) λh' tk out c F' N' k'=>⟨_,rfl,?_⟩
  ·have hin:i<n:=by rw[<- hvs];exact(Mu.mp hv).1
   obtain⟨t',e⟩:=hi.get i _ (Au hin);rw[e] at hv;cases hv;exact kY i k t' hin hk h tk own F' N'
  ·exact Mh ⟨_,rfl,h _ h' tk out c vs hi F' N' hsz k'⟩
abbrev CY (qual far kn:Str)(params:Arguments)(pf pk pp:Pos)(scope:Rn)(cl:List (Str×Mz))(pm cd ctv:Mj):NW:=
 Uk "<lambda>" qual params (.Subscript (.Name far pf) (.Name kn pk) pp) scope cl pm cd ctv
theorem E5 {i:Nat}{k:Int}
  (hlim:s.heap.NoLimit)(hroom:A.depth<recursionLimit)(ho:s.heap.get? f=some { cls:=.type "function",data:=.func (CY qual far kn params pf pk pp scope cl pm (.ref c') ctv) })(hcd:s.heap.CodeRec (.ref c') qual)
  (hbind:∀ u,NF (CY qual far kn params pf pk pp scope cl pm (.ref c') ctv) ⟨[u],[]⟩=pure [(kn,u)])
  (hco:scope.isCoroutine=false)(hgen:scope.isGenerator=false)(hk:scope.kind=.function)(hnc:∀ x∈scope.names,x.2≠.cell)(hkl:scope.names.lookup kn=some .local)(hff:scope.names.lookup far=some .free)
  (hd1:(far==("__debug__":Str))=false)(hd2:(kn==("__debug__":Str))=false)(hd3:(far==("__classdict__":Str))=false)
  (hcl:cl.lookup far=some cf)(hcell:s.heap.IsCell cf (some (.ref l)))(hl:s.heap.IsList l vs.toArray)(hi:Pm vs ns)(hx:ns[i]?=some k)(hsm:ns.length<=1000)
  (h:∀ h' tk t',(∀ b o,s.heap.get? b=some o->h'.get? b=some o)->Q (.int k t') { s with heap:=h',toks:=tk }):
  MB (MW prog w) A (call (.ref f) [.int i t]) Q E s:=by
 refine RI (PySem.W.kla_callFunE hroom ho rfl hco hgen rfl hcd ?_);rw[hbind];refine Mh (wpAny_newFunctionEnv hnc (λx hx=>?_) (λh₁ hns hsb=>⟨hlim.fresh _ hsb,PySem.W.kla_codeExpr ?_⟩) hk)
 ·cases Ml.mp hx;exact hkl
 have hk₁:∀ b o,s.heap.get? b=some o->h₁.get? b=some o:=λb o e=>hsb.extBut b o (MR (Mr e)) (Mg _ e)
 have hin:i<ns.length:=(Mu.mp hx).1;refine Vb ?_;refine T5 (wpAny_loadName_free hk ?_ hcl (hcell.keeps hk₁) ?_ hd3) hd1
 ·exact hff
 refine T5 (Rv hk ?_ hns (v:=.int i t) ?_ ?_) hd2
 ·exact hkl
 ·simp
 refine item_list_intsR (let ⟨o,e,q⟩:=hl;⟨o,hk₁ _ _ e,q⟩) hi (by lia) (by lia) (by lia) (λt'=>?_) rfl;have e:ns.getD (i:Int).toNat 0=k:=by
  rw[M6,R9,hx];rfl
 rw[e];exact h _ _ _ hk₁
end
open L2
theorem jW:∀ {vs:List Mj}{ns:List Int},Pm vs ns->aM (ns.map V.int) vs
 |_,_,.nil=>.nil
 |_,_,.cons n t h=>.cons ⟨t,rfl⟩ (jW h)
section
variable {X:Cx}
def K7 (ta:TA):TE:=λσ H Q=>ta σ H λvs H1=>∃ n:Nat,vs=[.int n]/\n<=1000/\∀ p,H1 p=none->Q (.ref p) (upd H1 p (.rng 0 n))
theorem Bc (hg:Gl X "range")(hm:X.mg "range"=none)(ha:WA X [a] ta)(hs:MU [a] X.env=[(false,Qh a X.env)]:=by rfl):WE X (.Call (.Name "range" p) [a] [] pos) (K7 ta):=by
 have ha:=ha.go;refine⟨?_⟩;intro pins s σ H Q I h;refine Call_ (jY I hg hm boot_range (Oi (bY (ha pos pins s σ H _ I h) λus s1 ⟨vs,H1,I1,r1,q1⟩=>?_) hs rfl));obtain⟨n,rfl,hn,q⟩:=q1;cases r1 with
 |cons r rr=>
  cases rr;obtain⟨t,rfl⟩:=r;exact call_range_1 ⟨.ref s1.heap.objs.size,_,I1.laid (a:=s1.heap.objs.size) (o:=.rng 0 n) (t':=_) (λb o e=>Mg _ e) (Mm _) ⟨_,_,_,Mn _ rfl⟩,rfl,q _ (I1.hok.fresh (Mm _))⟩
def DH:List V->Hp->VK->Prop:=λxs H Q=>∃ (p:Mz) (n:Nat),xs=[.ref p]/\H p=some (.rng 0 n)/\n<=1000/\∀ l,H l=none->Q (.ref l) (upd H l (.lst ((sM n).map V.int)))
theorem vy (hc:X.calm=true):dg X (.type "list") DH:=by
 intro pins s σ H xs us Q I r h;obtain⟨p,n,rfl,hp,hn,q⟩:=h;obtain⟨u,rfl,ru⟩:=ki r;cases ru;obtain⟨t,u,v,e⟩:=(show bT X.prog X.w H s.heap p (.rng 0 n) from I.hok _ _ hp)
 refine call_list_range (n:=n) (I.ok.hd hc) e (small_one (a:=0) (b:=n) (by lia) (by lia) (by lia) (by lia)) (by rw[UT];split<;>lia) (by lia) λh' tk acc c hk hD hI=>?_
 have hv:Pm acc.toList (sM n):=EX (by rw[NJ];exact hI.1) λi v hv=>by
  obtain⟨t',e⟩:=hI.2 i v (by rw[<- P2];exact hv);exact⟨t',by rw[e];congr 1;lia⟩
 refine⟨.ref s.heap.objs.size,_,I.laid (a:=s.heap.objs.size) (o:=.lst ((sM n).map V.int)) (t':=tk) hk (Mm _) ⟨?_,acc.toList,c,jW hv,by rw[T6];exact hD⟩,rfl,q _ (I.hok.fresh (Mm _))⟩;rw[Mq,i'];exact di hn
end
theorem mq {l c:Int}{t u:Nat}:∀ (ps:List Mj),UR ps->Ro pos (ps++[.int l t,.int c u,cd])=((Ro pos ps).or (if(l==pos.line&&c==pos.col)=true then some cd else none))
 |[],_=>by
  show(if(l==pos.line&&c==pos.col)=true then some cd else Ro pos [])=_;rfl
 |.int a t::.int b u::e::r,h=>by
  show(if(a==pos.line&&b==pos.col)=true then some e else Ro pos (r++[.int l _,.int c _,cd]))=Option.or (if(a==pos.line&&b==pos.col)=true then some e else Ro pos r) _
  by_cases q:(a==pos.line&&b==pos.col)=true
  ·rw[Nd q,Nd q];rfl
  ·rw[MT q,MT q];exact mq r h
theorem pV {l c:Int}{t u:Nat}:∀ (ps:List Mj),UR ps->UR (ps++[.int l t,.int c u,cd])
 |[],_=>trivial
 |.int a t::.int b u::e::r,h=>pV r h
abbrev CB (q:Str):HO:=.tbl #[.str q 0]
section
variable {X:Cx}{pins:List (Mz×Obj)}{σ:L2.St}{H:Hp}{s:Mp}
theorem Eh (I:aG X pins σ H s) (hcode:X.env.code=.ref c) (hcd:∀ h,X.K.In h->Sr h c P) (hP:H P=some (CB (X.env.qual ++ "<lambda>")))
  (hfree:∀ y∈scope.names,y.2=.free->∃ c,X.env.cells.lookup y.1=some c)(hdef:defaultsOf params X.env=([],[]))
  (h:∀ fa c' pm ctv H2 s2,aG X pins σ H2 s2->af H H2->s2.heap.get? fa=some { cls:=.type "function",data:=.func (Uk "<lambda>" (X.env.qual++"<lambda>") params body scope (ut X.env.cells scope.names []) pm (.ref c') ctv) } ->
   s2.heap.CodeRec (.ref c') (X.env.qual++"<lambda>")->Q (.ref fa) s2) :
  MB (MW X.prog X.w) X.A (Qh (.Lambda params body scope lp) X.env) Q E s:=by
 have okP:∃ ps:Array Mj,s.heap.get? P=some (VL ps)/\UR ps.toList/\∀ pos cv,Ro pos ps.toList=some cv->∃ c' o vs t',cv=.ref c'/\H c'=some (.own P)/\s.heap.get? c'=some o/\o.data=.fields vs/\vs[1]?=some (.str (X.env.qual++"<lambda>") t'):=by
  obtain⟨ps,e,tr,q,t,e0,f⟩:=(show bT X.prog X.w H s.heap P (CB (X.env.qual++"<lambda>")) from I.hok _ _ hP)
  have e0':some (SO (X.env.qual++"<lambda>") 0)=some (.str q t):=e0;cases e0';exact⟨ps,e,tr,f⟩
 obtain⟨ps,eP,tr,fP⟩:=okP;obtain⟨bm,ob,b1,b2,b3,b4,b5,b6⟩:=I.mod.bm;have hgs:s.heap.Ns Mo X.mg:=I.mod.glob.keeps I.bk;have hgP:Mo≠P:=λq=>by
  obtain⟨o,es,ep,e,hd,_⟩:=hgs;rw[q,eP] at e;cases e;cases hd
 have hbP:bm≠P:=λq=>by
  have e:=I.bk _ _ b3;rw[q,eP] at e;cases e;cases b4
 have hbG:bm≠Mo:=λq=>by
  obtain⟨o,es,ep,e,hd,_⟩:=hgs;have e':=I.bk _ _ b3;rw[q,e] at e';cases e';rw[hd] at b6;cases b6
 have B:s.heap.BuiltinsAt X.mg P:=⟨bm,ob,b1,b2,hbG,hbP,I.bk _ _ b3,b4,b5,b6⟩
 refine PySem.W.kla_eval hdef ?_;cases hcm:Ro lp ps.toList with
 |some cv=>
  obtain⟨c',o,vs,t',rfl,w2,w3,w4,w5⟩:=fP lp cv hcm;refine PySem.W.kla_makeFunctionHit (mg:=X.mg) (r_ hfree) I.ok.glob hgs hcode (hcd _ I.kIn) eP tr hcm B λctv h' tk hk hsz=>?_
  have kk:∀ b u,s.heap.get? b=some u->(h'.push { cls:=.type "function",data:=.func (Uk "<lambda>" (X.env.qual++"<lambda>") params body scope (ut X.env.cells scope.names []) ((X.mg "__name__").getD .none) (.ref c') ctv) }).get? b=some u:=λb u e=>Mg _ (hk b u e)
  exact h h'.objs.size c' _ ctv H _ (I.kept (t':=tk) kk) (af.refl _) (Mn _ rfl) ⟨c',o,vs,t',rfl,kk _ _ w3,w4,w5⟩
 |none=>
  refine PySem.W.kla_makeFunction (mg:=X.mg) (r_ hfree) I.ok.glob hgs hcode (hcd _ I.kIn) eP tr hcm hgP B λc' ctv h' tk hx hge hlt hrec htb=>?_
  have fc:H c'=none:=I.hok.fresh hge;obtain⟨c2,oc,vs,t,ec,g1,g2,g3⟩:=hrec;cases ec;have nP:∀ b u,b≠P->s.heap.get? b=some u->(h'.push (P' "<lambda>" (X.env.qual++"<lambda>") params body scope (ut X.env.cells scope.names []) ((X.mg "__name__").getD .none) c' ctv)).get? b=some u:=λb u nb e=>Mg _ (hx b u nb e)
  have gc:(h'.push (P' "<lambda>" (X.env.qual++"<lambda>") params body scope (ut X.env.cells scope.names []) ((X.mg "__name__").getD .none) c' ctv)).get? c'=some oc:=Mg _ g1;have gP:(h'.push (P' "<lambda>" (X.env.qual++"<lambda>") params body scope (ut X.env.cells scope.names []) ((X.mg "__name__").getD .none) c' ctv)).get? P=some (VL (ps++#[OX lp.line,OX lp.col,.ref c'])):=Mg _ htb;have gF:(h'.push (P' "<lambda>" (X.env.qual++"<lambda>") params body scope (ut X.env.cells scope.names []) ((X.mg "__name__").getD .none) c' ctv)).get? h'.objs.size=some (P' "<lambda>" (X.env.qual++"<lambda>") params body scope (ut X.env.cells scope.names []) ((X.mg "__name__").getD .none) c' ctv):=Mn _ rfl;generalize h'.push (P' "<lambda>" (X.env.qual++"<lambda>") params body scope (ut X.env.cells scope.names []) ((X.mg "__name__").getD .none) c' ctv)=g at nP gc gP gF ⊢;have sm:af H (upd H c' (.own P)):=λb o e=>by rw[aq (aL e fc)];exact e
  have ne:∀ b,H b=none->b≠P:=λb n z=>by rw[z,hP] at n;cases n
  have lc:∀ b u,s.heap.get? b=some u->b≠c':=λb u e=>MR (MG (Mr e) hge)
  refine h h'.objs.size c' _ ctv (upd H c' (.own P)) _ (I.un (t':=tk) ⟨λb u q n _ _=>nP b u (ne b n) q,λb u q n _ _=>⟨u.slots,nP b u (ne b n) q⟩,λb u q n _=>by rw[aq (lc b u q)];exact n,λb u q _=>?_,λb xs q=>sm _ _ q,λb u w q=>sm _ _ q,λb qs q=>⟨#[],by rw[sm _ _ q];simp⟩⟩ λb u q=>?_) sm gF ⟨c',oc,vs,t,rfl,gc,g2,g3⟩
  ·by_cases hb:b=P
   ·exact⟨_,by rw[hb];exact gP⟩
   ·exact⟨u,nP b u hb q⟩
  ·by_cases hb:b=c'
   ·subst hb;rw[ae] at q;cases q;exact⟨oc,gc⟩
   ·rw[aq hb] at q
    by_cases hbP':b=P
    ·subst hbP';rw[hP] at q;cases q;refine⟨_,gP,?_,_,_,rfl,λpos cv z=>?_⟩
     ·rw[Ur];exact pV _ tr
     ·rw[Ur] at z;have z':=(mq (pos:=pos) (l:=(lp.line:Int)) (c:=(lp.col:Int)) (t:=0) (u:=0) (cd:=.ref c') ps.toList tr).symm.trans z;cases zz:Ro pos ps.toList with
      |some cv'=>
       rw[zz] at z';have z2:cv'=cv:=Mi z';subst z2;obtain⟨c2,o2,vs2,t2,w1,w2,w3,w4,w5⟩:=fP pos cv' zz;exact⟨c2,o2,vs2,t2,w1,sm _ _ w2,nP c2 o2 (λz=>by rw[z,hP] at w2;cases w2) w3,w4,w5⟩
      |none=>
       rw[zz] at z';have z2:(if((lp.line:Int)==pos.line&&(lp.col:Int)==pos.col)=true then some (MP c') else none)=some cv:=z'
       split at z2
       ·cases z2;exact⟨c',oc,vs,t,rfl,ae,gc,g2,g3⟩
       ·cases z2
    ·refine(I.hok b u q).stay (λd v hd r=>nP d v ?_ r) (λd r=>sm _ _ r) λd xs r=>sm _ _ r
     rcases hd with rfl|hd
     ·exact hbP'
     ·exact λz=>by rw[z,hP] at hd;cases hd
end
theorem tS [BEq α][LawfulBEq α]:∀ {l:List (α×β)},l.lookup x=some y->(x,y)∈l
 |[],h=>nomatch h
 |(a,b)::r,h=>by
  rw[Oo] at h;cases q:x==a with
  |true=>
   rw[q] at h;have e:x=a:=eq_of_beq q;cases h;rw[e];exact MO
  |false=>
   rw[q] at h;exact Mt _ (tS h)
def xS (sc:Rn)(far kn:Str):Bool:=sc.kind==.function&&!sc.isCoroutine&&!sc.isGenerator&&sc.names.all (λy=>!(y.2==.cell))&&sc.names.lookup kn==some .local&&sc.names.lookup far==some .free
def Fs (K:HD)(i:Nat)(P:Mz)(q:Str)(tr:TE):TE:=λσ H Q=>tr σ H λx H1=>∃ (r:Mz) (n:Nat) (l:Mz) (ns:List Int),x=.ref r/\H1 r=some (.rng 0 n)/\n<64/\σ[i]?=some (some (.ref l))/\bH K H1 l (ns.map V.int)/\ns.length=n/\H1 P=some (CB q) /\
 ∀ (H2:Hp) (D:Mz) (order:List Int),af H1 H2->H2 D=none->order.Perm (sM n)->order.Pairwise (λa b=>ns.getD b.toNat 0<=ns.getD a.toNat 0)->Q (.ref D) (upd H2 D (.lst (order.map V.int)))
section
variable {X:Cx}{K:HD}
theorem yE {i k:Nat}{cj:Nat} (hK:X.K=K) (hc:X.calm=true) (hr:Room k X.A) (hg:Gl X "sorted") (hm:X.mg "sorted"=none)
  (hcode:X.env.code=.ref c)(hcd:∀ h,K.In h->Sr h c P)(hN:X.N[i]?=some far)(hv:X.env.kindOf far=some .cell)(he:WE X er tr)
  (hst:MU [er] X.env=[(false,Qh er X.env)]:=by rfl)
  (hsc:xS scope far kn=true:=by decide +kernel)(hfr:(scope.names.all λy=>!(y.2==.free)||(X.env.cells.lookup y.1).isSome)=true:=by rfl)(hdef:defaultsOf params X.env=([],[]):=by rfl)
  (hbind:∀ qual cl pm cd ctv u,NF (CY qual far kn params pf pk pp scope cl pm cd ctv) ⟨[u],[]⟩=pure [(kn,u)]:=by intros;rfl)
  (hd1:(far==("__debug__":Str))=false:=by decide)(hd2:(kn==("__debug__":Str))=false:=by decide)(hd3:(far==("__classdict__":Str))=false:=by decide):
  WE X (.Call (.Name "sorted" p) [er] [⟨some "key",.Lambda params (.Subscript (.Name far pf) (.Name kn pk) pp) scope lp,kp1⟩,⟨some "reverse",.Constant (.bool true) cj cp,kp2⟩] pos) (Fs K i P (X.env.qual++"<lambda>") tr):=by
 have he:=he.go;refine⟨?_⟩;subst hK;unfold xS at hsc;simp only[Nh,N5,OL] at hsc;obtain⟨⟨⟨⟨⟨k1,k2⟩,k3⟩,k4⟩,k5⟩,k6⟩:=hsc;have hfree:∀ y∈scope.names,y.2=.free->∃ c,X.env.cells.lookup y.1=some c:=λy hy e=>by
  rw[N5] at hfr;have:=hfr y hy;rw[e] at this;exact OJ.mp (by simpa using this)
 intro pins s σ H Q I h;refine NZ (jY I hg hm oW ?_);refine callWith_kw (env:=X.env) (he:=by rw[hst];rfl) (hplain:=by rw[hst];rfl) (bY ((A' he Dl hst) pos pins s σ H (λvs H1=>match vs with
  |[x]=>∃ (r:Mz) (n:Nat) (l:Mz) (ns:List Int),x=.ref r/\H1 r=some (.rng 0 n)/\n<64/\σ[i]?=some (some (.ref l))/\bH X.K H1 l (ns.map V.int)/\ns.length=n/\H1 P=some (CB (X.env.qual++"<lambda>")) /\
   ∀ (H2:Hp) (D:Mz) (order:List Int),af H1 H2->H2 D=none->order.Perm (sM n)->order.Pairwise (λa b=>ns.getD b.toNat 0<=ns.getD a.toNat 0)->Q (.ref D) (upd H2 D (.lst (order.map V.int)))
  |_=>False) I h) λus s1 ⟨vs,H1,I1,r1,q1⟩=>?_)
 match vs,r1,q1 with
 |[x],r1,q1=>
  obtain⟨r,n,l,ns,rfl,hr1,hn,hσ,hl,hlen,hP,q⟩:=q1;obtain⟨u,rfl,ru⟩:=ki r1;cases ru;refine kws_cons (Eh I1 hcode hcd hP hfree hdef λfa c' pm ctv H2 s2 I2 sm ho hrec=>?_);refine kws_cons (Constant_bool (kws_nil ?_));show MB _ _ (call (.builtin "sorted") [.ref r] [(NY "key",.ref fa),(NY "reverse",.bool true)]) _ _ s2;obtain⟨t,u,v,hrng⟩:=(show bT X.prog X.w H2 s2.heap r (.rng 0 n) from I2.hok _ _ (sm _ _ hr1))
  obtain⟨m,hnm,hloc⟩:=id I2.loc;obtain⟨w,rw',lk⟩:=hloc i far (.ref l) hN hσ (.inr (.inl hv));cases rw';obtain⟨cf,ecf,hcell⟩:∃ cf,X.env.cells.lookup far=some cf/\s2.heap.IsCell cf (some (.ref l)):=by
   rcases lk with ⟨z,_⟩|⟨_,cf,e,z⟩
   ·rw[hv] at z;cases z
   ·exact⟨cf,e,z⟩
  have hcl:(ut X.env.cells scope.names []).lookup far=some cf:=by
   have mem:(far,NQ)∈scope.names:=tS k6;obtain⟨c2,e2⟩:=lM (cells:=X.env.cells) (names:=scope.names) (acc:=[]) (x:=far) (.inr mem);rcases iH hfree e2 with z|⟨_,z⟩
   ·cases z
   ·rw[ecf] at z;cases z;exact e2
  obtain⟨its,rv,pl,_⟩:=I2.list (sm.seq hl);have hints:=rS rv;obtain⟨oL,esL,epL,eL,dL,_⟩:=id hnm;have F:Fr X.base X.env.locals s2.heap m:=⟨hnm,I2.bk,MQ I2.ok.bsz I2.ok.above⟩
  have all:∀ {h:Os},Fr X.base X.env.locals h m->News X.base X.env.locals h (lV X.base s2.heap X.env.locals)->∀ b o,b≠X.env.locals->s2.heap.get? b=some o->h.get? b=some o:=λ{h} F' N' b o nb e=>by
   cases z:X.base.get? b with
   |some o'=>
    have:=I2.bk b o' z;rw[e] at this;cases this;exact F'.keep b o z
   |none=>exact(N' (b,o) (yI nb z e)).1
  have nL:∀ b o,s2.heap.get? b=some o->(∀ es ep,o.data≠.dict es ep)->b≠X.env.locals:=λb o e hd z=>by
   rw[z,eL] at e;cases e;exact hd _ _ dL
  have rm:=hr.dp;refine Ay (h₀:=X.base) (L:=X.env.locals) (m:=m) (news:=lV X.base s2.heap X.env.locals) (b:=true) (kz:=ns) (I2.ok.hd hc) F El hrng hn hlen (ksk_s2 _ _ _) (λx=>ksk_l2 _ _ _) (λx=>ksk_t2 _ _ _) (λj k t hj hk h tk own F' N'=>?_) λD h' tk out cc vs hi F' N' hD ko=>?_
  ·have al:=all F' (λp hp=>N' p (Om _ hp));obtain⟨oc,hoc,hdc⟩:=hcell;obtain⟨ol,nl,el,cl,dl,xl⟩:=id pl;obtain⟨c2,o2,vs2,t2,ec,g1,g2,g3⟩:=id hrec;cases ec;refine E5 (s:={ s2 with heap:=h,toks:=tk }) (ns:=ns) (I2.ok.mod.nolimit.keeps F'.keep) (by show X.A.depth<recursionLimit;lia) (al _ _ (nL _ _ ho λ_ _ z=>nomatch z) ho) ⟨_,o2,vs2,t2,rfl,al _ _ (nL _ _ g1 λ_ _ z=>by rw[g2] at z;cases z) g1,g2,g3⟩ (λu=>hbind _ _ _ _ _ u)
    (by simpa using k2) (by simpa using k3) k1 (λx hx z=>by have:=k4 x hx;rw[z] at this;cases this) k5 k6 hd1 hd2 hd3 hcl ⟨oc,al _ _ (nL _ _ hoc λ_ _ z=>by rw[hdc] at z;cases z) hoc,hdc⟩ ⟨ol,al _ _ (nL _ _ el λ_ _ z=>by rw[xl] at z;cases z) el,cl,nl,xl⟩ hints hk (by lia) λh'' tk' t' kk=>?_
   exact KskEnd.intro (F'.kept kk) (N'.grown kk) λp hp=>hp
  ·have al:=all F' (λp hp=>N' p (Mt _ hp));have gD:=(N' _ MO).1;have fD:H2 D=none:=I2.hok.fresh hD;obtain⟨pz,pp1,po,pw⟩:=ko;have hvl:vs.length=n:=by rw[hi.length,i']
   have hint:∀ q∈pz,∃ (j:Nat) (t:Tok),j<n/\q.2=.int j t/\q.1=ns.getD j 0:=λq hq=>by
    have hq':=pp1.mem_iff.mp hq;obtain⟨j,hj⟩:=Ua hq';rw[M8] at hj;have jn:j<n:=by rw[<- hlen];exact(Mu.mp hj.1).1
    obtain⟨t',e⟩:=hi.get j _ (Au jn);rw[e] at hj;refine⟨j,t',jn,(Mi hj.2).symm,?_⟩;rw[R9,hj.1];rfl
   have hout:Pm out.toList (pz.map λq=>numOf q.2):=by
    rw[po];have go:∀ (l:List (Int×Mj)),(∀ q∈l,∃ (j:Nat) (t:Tok),j<n/\q.2=.int j t/\q.1=ns.getD j 0)->Pm (l.map Prod.snd) (l.map λq=>numOf q.2):=by
     intro l
     induction l with
     |nil=>intro _;exact .nil
     |cons q l ih=>
      intro hl;obtain⟨j,t,_,e,_⟩:=hl q MO;rw[MN,MN,e];exact .cons _ _ (ih λq hq=>hl q (Mt _ hq))
    exact go pz hint
   have hperm:(pz.map λq=>numOf q.2).Perm (sM n):=by
    have h1:=(pp1.map Prod.snd).map numOf;rw[List.map_snd_zip (by lia),hi.nums,P9] at h1;exact h1
   have hpw:(pz.map λq=>numOf q.2).Pairwise (λa b=>ns.getD b.toNat 0<=ns.getD a.toNat 0):=by
    rw[List.pairwise_map];refine pw.imp_of_mem λ{a b} ha hb hab=>?_
    obtain⟨ja,ta,_,ea,va⟩:=hint a ha;obtain⟨jb,tb,_,eb,vb⟩:=hint b hb;have hab':b.1<=a.1:=hab;rw[ea,eb];show ns.getD (jb:Int).toNat 0<=ns.getD (ja:Int).toNat 0;rw[M6,M6,<- va,<- vb];exact hab'
   refine⟨.ref D,_,?_,rfl,q H2 D _ sm fD hperm hpw⟩;have keepT:∀ b u,H2 b=some u->b≠X.env.locals:=λb u e z=>by rw[z,I2.free] at e;cases e
   have I3:aG X pins σ H2 { s2 with heap:=h',toks:=tk }:=by
    refine I2.step (g':=s2.gens) (d':=s2.drawn) (ch:=[]) (λ_ z=>nomatch z) (λb o nb _ _ e _=>al b o nb e) (λb o nb _ _ e _=>⟨o.slots,al b o nb e⟩) (λ_ _ _ _ n=>n) (λb o _ e=>?_) (λ_ _ e=>e) (λ_ _ _ e=>e) (λb ps e=>⟨#[],by rw[e];simp⟩) (λm' hm'=>?_) (λb u e=>?_) I2.bare
    ·by_cases nb:b=X.env.locals
     ·obtain⟨o',_,_,e',_⟩:=F'.ns;exact⟨o',by rw[nb];exact e'⟩
     ·exact⟨o,al b o nb e⟩
    ·rw[hm'.eq_nsMap,<- hnm.eq_nsMap];exact F'.ns
    ·refine(I2.hok b u e).stay (λd v hd r=>al d v ?_ r) (λ_ r=>r) λ_ _ r=>r
     rcases hd with rfl|hd
     ·exact keepT _ _ e
     ·exact keepT _ _ hd
   have F3:=I2.fpOk (b:=D) (H':=H2) hD fD;exact jL I3 fD (MQ I2.sz hD) F3.2.1 F3.2.2.2.2.1 F3.2.2.2.2.2 ⟨by
    rw[Mq];have:=hperm.length_eq;rw[i'] at this;rw[this];exact di (by lia),out.toList,cc,jW hout,by rw[T6];exact gD⟩
end
def GN (Tb:Mz->Option Str)(own:Bool)(a:Mz)(o:Obj)(ns:List Int):Hp:=λb=>match Tb b with
 |some q=>some (CB q)
 |none=>if own=true/\b=a then some (.frz o (.lst (ns.map V.int))) else none
theorem Cd {P:MS}{w:No}{K:HD}{mg mb:Str->Option Mj}{CX:lQ}{k:Nat}{fa a:Mz}{fd:NW}{x:Str}{sp:Sp}{s₁:Mp}{vs:List Mj}{ns:List Int} (Tb:Mz->Option Str)
  (KX:K.In s₁.heap)(hns:s₁.heap.Ns Mo mg)(hb:s₁.heap.Ns Rb mb)(hbb:∀ x:Str,x≠"__name__"->mb x=Np x)(hlim:s₁.heap.NoLimit)(hg:s₁.gens=#[])
  (hbm:∃ bm o,mg "__builtins__"=some (.ref bm)/\bm≠Rb/\s₁.heap.get? bm=some o/\o.cls=.type "module"/\o.dict=some Rb/\o.data=.plain)
  (hT:∀ b q,Tb b=some q->s₁.heap.get? b=some { cls:=.none,data:=.fields #[] }/\isCodeTable s₁.heap b/\K.lookup b=none)
  (ha:s₁.heap.get? a=some { cls:=.type "list",data:=.seq vs.toArray })(hi:Pm vs ns)(hl:ns.length<=MI)(hr:Room k VG)
  (F:∀ base:Os,K.In base->base.Ns Mo mg->jp P w K mg base CX k fa fd [x] sp)(hbind:∀ (s:Mp) (u:Mj),Us s fd ⟨[u],[]⟩ [(x,u)])
  (hsp:∀ H:Hp,(∀ b q,Tb b=some q->H b=some (CB q))->bH K H a (ns.map V.int)->sp [.ref a] H (λv _=>v=.bl true) λ_ _ _=>False)
  (hCX:∀ H e s',CX [] H s₁ (λ_ _ _=>False) e s'->False):
  Qx (MW P w) VG (.call (.ref fa) ⟨[.ref a],[]⟩) (λr s'=>r=.ok (.ret (.bool true))/\OldK s₁.heap s'.heap/\s'.os=s₁.os/\Uq s'.gens) s₁:=by
 have rv:=jH hi;have nTa:Tb a=none:=by
  cases q:Tb a with
  |none=>rfl
  |some z=>
   have:=(hT a z q).1;rw[ha] at this;cases this
 obtain⟨own,hown⟩:∃ own:Bool,own=(K.lookup a).isNone:=⟨_,rfl⟩
 let H:Hp:=GN Tb own a { cls:=.type "list",data:=.seq vs.toArray } ns
 have HT:∀ b q,Tb b=some q->H b=some (CB q):=λb q e=>by
  show(match Tb b with|some q=>some (CB q)|none=>_)=_;rw[e]
 have cases_:∀ b u,H b=some u->(∃ q,Tb b=some q/\u=CB q)\/(own=true/\b=a/\u=.frz { cls:=.type "list",data:=.seq vs.toArray } (.lst (ns.map V.int))):=λb u e=>by
  have e':(match Tb b with|some q=>some (CB q)|none=>if own=true/\b=a then some (HO.frz { cls:=.type "list",data:=.seq vs.toArray } (.lst (ns.map V.int))) else none)=some u:=e;cases q:Tb b with
  |some z=>
   rw[q] at e';exact .inl ⟨z,rfl,(Mi e').symm⟩
  |none=>
   rw[q] at e';dsimp only at e'
   split at e'
   ·rename_i hc
    exact .inr ⟨hc.1,hc.2,(Mi e').symm⟩
   ·cases e'
 have ok:nk P w H s₁.heap:=λb u e=>by
  rcases cases_ b u e with ⟨q,hq,rfl⟩|⟨_,rfl,rfl⟩
  ·exact⟨#[],(hT b q hq).1,trivial,q,0,rfl,λpos cv z=>nomatch z⟩
  ·exact⟨ha,by rw[Mq];exact hl,vs,_,rv,ha⟩
 have hS:bH K H a (ns.map V.int):=by
  cases hk:K.lookup a with
  |some o=>
   have e:=KX a o hk;rw[ha] at e;cases e;exact .inr ⟨_,vs.toArray,_,hk,rfl,rfl,rfl,by rw[MH,hi.length];exact hl,by simpa using rv⟩
  |none=>
   refine .inl (.inr ⟨{ cls:=.type "list",data:=.seq vs.toArray },?_⟩);show(match Tb a with|some q=>some (CB q)|none=>if own=true/\a=a then some (HO.frz { cls:=.type "list",data:=.seq vs.toArray } (.lst (ns.map V.int))) else none)=_;rw[nTa];dsimp only;rw[Nd ⟨by rw[hown,hk];rfl,rfl⟩]
 have un:∀ {b:Mz}{o:Obj},s₁.heap.get? b=some o->(∀ its n,o.data≠.seq its n)->(∀ ws,o.data≠.fields ws)->H b=none:=λ{b o} e h1 h2=>by
  cases q:H b with
  |none=>rfl
  |some u=>
   rcases cases_ b u q with ⟨z,hz,_⟩|⟨_,rfl,_⟩
   ·have:=(hT b z hz).1;rw[e] at this;cases this;exact absurd rfl (h2 _)
   ·rw[ha] at e;cases e;exact absurd rfl (h1 _ _)
 have nsK:∀ {b:Mz}{m:Str->Option Mj},s₁.heap.Ns b m->(yH s₁.heap H).Ns b m:=λ{b m} ⟨o,es,ep,e,d,r⟩=>⟨o,es,ep,rV e (un e (λ_ _ z=>by rw[d] at z;cases z) λ_ z=>by rw[d] at z;cases z),d,r⟩
 have hKb:K.In (yH s₁.heap H):=λb o e=>rV (KX b o e) (by
  cases q:H b with
  |none=>rfl
  |some u=>
   rcases cases_ b u q with ⟨z,hz,_⟩|⟨ho,rfl,_⟩
   ·rw[(hT b z hz).2.2] at e;cases e
   ·rw[hown,e] at ho;cases ho)
 have hM:Mod K mg (yH s₁.heap H):=⟨hKb,nsK hns,⟨mb,nsK hb,hbb⟩,let ⟨mc,h1,h2⟩:=hlim;⟨mc,nsK h1,h2⟩,by
  obtain⟨bm,o,b1,b2,b3,b4,b5,b6⟩:=hbm;exact⟨bm,o,b1,b2,rV b3 (un b3 (λ_ _ z=>by rw[b6] at z;cases z) λ_ z=>by rw[b6] at z;cases z),b4,b5,b6⟩⟩
 have e0:zm P w K mg (yH s₁.heap H) VG [] s₁ H:=⟨rfl,hM,λb o e=>F7 e,Nat.le_of_eq (Cf _ _),trivial,λb hb=>absurd (show b∈([]:List Mz) from hb) (by simp),ok,.of_eq hg⟩
 refine Py ((F _ hKb (nsK hns)).run VG [] s₁ H ⟨[.ref a],[]⟩ [.ref a] [.ref a] _ _ hr e0 (hbind s₁ (.ref a)) (.cons rfl .nil) (hsp H HT hS)) λr s' h=>?_
 cases r with
 |error e=>exact(hCX H e s' h).elim
 |ok fl=>
  cases fl with
  |next=>exact Ot h
  |brk=>exact Ot h
  |cont=>exact Ot h
  |ret u=>
   obtain⟨v,H',os,bare,un',hok',r',q⟩:=h;have q':v=.bl true:=q;subst q';obtain rfl:u=RH true:=r';have old:∀ b o,s₁.heap.get? b=some o->asItWas s₁.heap s'.heap b o:=λb o e=>by
    cases z:H b with
    |none=>exact .inl (un'.keep b o e z (by intro z;exact absurd (show b∈([]:List Mz) from z) (by simp)) (by simp))
    |some u=>
     rcases cases_ b u z with ⟨n,hn,rfl⟩|⟨_,rfl,rfl⟩
     ·obtain⟨more,z2⟩:=un'.tbls b _ z;obtain⟨ps,e2,_⟩:=(show bT P w H' s'.heap b (.tbl _) from hok' b _ z2)
      obtain⟨e1,ct,_⟩:=hT b n hn;rw[e] at e1;cases e1;exact .inr (.inl ⟨ct,rfl,#[],ps,rfl,by simpa using e2⟩)
     ·have z2:=un'.frzs _ _ _ z;obtain⟨e2,_⟩:=(show s'.heap.get? _=some _/\_ from hok' _ _ z2)
      rw[ha] at e;cases e;exact .inl e2
   refine⟨rfl,⟨old,λb o e=>?_⟩,os,bare⟩;rcases old b o e with x|⟨_,_,_,_,_,x⟩|⟨_,_,⟨o',_,_,x,_⟩,_⟩
   ·exact⟨_,x⟩
   ·exact⟨_,x⟩
   ·exact⟨_,x⟩
def Bn (K:HD)(x:Str)(P:Mz):Prop:=∃ (f:Mz) (oc:Mj) (od:Option Mz) (fd:NW) (sl:Array (Option Mj)) (c:Mz),MA K Mo x=some (some (.ref f))/\K.lookup f=some ⟨oc,od,.func fd,sl⟩/\fd.code=.ref c /\
 (∀ h:Os,K.In h->Sr h c P)/\fd.qualname=x
def Cw (K:HD)(x:Str)(H:Hp):Prop:=∃ P,Bn K x P/\H P=some (CB (x++".<locals>."++"<lambda>"))
theorem Cw.same {K:HD}{x:Str}{H H':Hp}(h:Cw K x H)(s:af H H'):Cw K x H':=by obtain⟨P,a,b⟩:=h;exact⟨P,a,s _ _ b⟩
theorem Cw.mv {K:HD}{x:Str}{T:List Mz}{H H':Hp}(h:Cw K x H)(m:Mv T H H')(l:bR H T):Cw K x H':=by obtain⟨P,a,b⟩:=h;exact⟨P,a,m _ _ b (l.not b λ_ z=>nomatch z)⟩
structure FP (K:HD)(mg:Str->Option Mj)(x:Str)(st:Oe)(ps:List Str):Prop where
 dfn:du K mg x st ps []
 at_:∃ f,MA K Mo x=some (some (.ref f))/\mg x=some (.ref f)
section
variable {P:MS}{w:No}{K:HD}{mg:Str->Option Mj}{base:Os}{CX:lQ}
theorem FP.cal {x:Str}{st:Oe}{N ps:List Str}{k:Nat}{sp:Sp} (F:FP K mg x st ps) (S:ao N ps (ah st)) (len:∀ vs H Q E,sp vs H Q E->vs.length=ps.length:=by intro _ _ _ _ h;cases h;subst_vars;rfl)
  (bb:∀ (f:Mz) (cdv:Mj) (A:ND) (outer:List Env) (s:Mp) (H:Hp) (vs:List V) (Q:VK) (E:XK),(∀ Pt,Bn K x Pt->∃ c,cdv=.ref c/\∀ h:Os,K.In h->Sr h c Pt)->Room k (A.deeper (Tf x (ah st) s.heap.objs.size f cdv))->sp vs H Q E ->
   ∃ t,Fy (uh CX P w K mg base N x (ah st) f cdv A outer s H E).nox (aJ st) t/\t { nx:=λ_ H'=>Q .non H',rt:=Q } (kg N vs) H):dN P w K mg base CX (k+1) x ps [] sp:=by
 obtain⟨f,fd,oc,od,dV,kV,doc,pm,an,cdv,ct,osl,ds,rfl,lk,hcd,hm,hk,hb,hv⟩:=F.dfn.ex;refine⟨f,_,ds,y9 lk hcd S len λA outer s H vs Q E hr hsp=>?_,hm,hk,hb,hv⟩;obtain⟨t,h,q⟩:=bb f cdv A outer s H vs Q E (λPt ⟨f',oc',od',fd',sl',c,e1,e2,e3,e4,_⟩=>by
  obtain⟨f2,z1,z2⟩:=F.at_;rw[e1] at z1;cases z1;rw[hm] at z2;cases z2;rw[lk] at e2;cases e2;exact⟨c,e3,e4⟩) hr hsp
 exact⟨t,h.nox,q⟩
end
def tL (xs:List Str)(K:HD):Sp:=λvs H Q _=>∃ (a:Mz) (ns:List Int),vs=[.ref a]/\bH K H a (ns.map V.int)/\ns.length<=63/\(∀ x∈xs,Cw K x H)/\∀ H',Q (.bl true) H'
def Dy (ts:List (Str×Mz))(b:Mz):Option Str:=(ts.find? λp=>p.2==b).map λp=>p.1++".<locals>."++"<lambda>"
def DA (vs:Array Mj)(c P:Mz):Prop:=∃ file tf flags tg inF text tt,vs[11]?=some (.ref P)/\vs.getD 11 .none=.ref P/\vs.getD 18 .none=.str file tf/\vs.getD 7 .none=.int flags tg/\vs.getD 9 .none=.bool inF/\vs.getD 10 .none=.int text tt/\c≠P
theorem IL {K:HD}{x:Str}{f c P:Mz}{oc:Mj}{od odc:Option Mz}{fd:NW}{sl slc:Array (Option Mj)}{vs:Array Mj} (a:MA K Mo x=some (some (.ref f))) (l:K.lookup f=some ⟨oc,od,.func fd,sl⟩) (e:fd.code=.ref c) (qn:fd.qualname=x)
  (cc:K.lookup c=some ⟨.type "code",odc,.fields vs,slc⟩)(h:DA vs c P):Bn K x P:=by
 obtain⟨file,tf,flags,tg,inF,text,tt,h1,h2,h3,h4,h5,h6,h7⟩:=h;exact⟨f,oc,od,fd,sl,c,a,l,e,λhp X=>⟨_,vs,file,tf,flags,tg,inF,text,tt,X _ _ cc,rfl,rfl,h1,h2,h3,h4,h5,h6,h7⟩,qn⟩
theorem HS {K:HD}{c P:Mz}{odc:Option Mz}{slc:Array (Option Mj)}{vs:Array Mj}(cc:K.lookup c=some ⟨.type "code",odc,.fields vs,slc⟩)(h:DA vs c P)(hp:Os)(X:K.In hp):isCodeTable hp P:=by
 obtain⟨_,_,_,_,_,_,_,h1,_⟩:=h;exact⟨c,_,vs,X _ _ cc,rfl,rfl,h1⟩
structure vR (K:HD)(tA:List Mz)(ts:List (Str×Mz)):Prop where
 nodup:(ts.map (·.2)).Nodup
 tab:∀ p∈ts,p.2∈tA/\K.lookup p.2=none/\(∀ h:Os,K.In h->isCodeTable h p.2)/\Bn K p.1 p.2
theorem ES (h:Dy ts b=some q):∃ p∈ts,p.2=b/\q=p.1++".<locals>."++"<lambda>":=by
 unfold Dy at h;obtain⟨p,e,rfl⟩:=MJ.mp h;exact⟨p,List.mem_of_find?_eq_some e,eq_of_beq (List.find?_some (p:=λr:Str×Mz=>r.2==b) e),rfl⟩
theorem FJ {ts:List (Str×Mz)}{p:Str×Mz}(hn:(ts.map (·.2)).Nodup)(hp:p∈ts):Dy ts p.2=some (p.1++".<locals>."++"<lambda>"):=by
 unfold Dy;have e:ts.find? (λr=>r.2==p.2)=some p:=by
  induction ts with
  |nil=>nomatch hp
  |cons r ts ih=>
   rw[MN,N3] at hn;rw[OT];rcases Mx.mp hp with rfl|hp
   ·rw[Ru]
   ·have:(r.2==p.2)=false:=Oy.mpr λz=>hn.1 (z▸Nc.mpr ⟨p,hp,rfl⟩)
    rw[this];exact ih hn.2 hp
 rw[e];rfl
theorem DE {l:TL}{k:Nat}{q:MS}{loose:List Str}{XP:(Str->Option Mj)->Os->Prop}{YP:No->Os->Prop}{d:DefRec}{K:Params->HD}{CX:No->lQ}{x:Str}{sp:List Str->HD->Sp}{tA:List Mz}
  (hn:l.most=some 63)(hdf:d.params.defaults=[])(hr:Room k VG)
  (hY:∀ (w:No) (h:Os),YP w h->(K w.params).In h)(hY2:∀ (w:No) (h:Os),YP w h->∀ P∈tA,h.get? P=some { cls:=.none,data:=.fields #[] })
  (F:∀ (w:No) (mg:Str->Option Mj) (fa:Mz) (h:Os),(K w.params).In h->h.Ns Mo mg->mg d.name=some (.ref fa) ->
   ∃ (ts:List (Str×Mz)) (fd:NW),vR (K w.params) tA ts/\(∀ (s:Mp) (u:Mj),Us s fd ⟨[u],[]⟩ [(x,u)]) /\
    ∀ base:Os,(K w.params).In base->base.Ns Mo mg->jp l.prog w (K w.params) mg base (CX w) k fa fd [x] (sp (ts.map (·.1)) (K w.params)))
  (hsp:∀ (xs:List Str) (K:HD) (H:Hp) (a:Mz) (ns:List Int),ns.length<=63->bH K H a (ns.map V.int)->(∀ x∈xs,Cw K x H)->sp xs K [.ref a] H (λv _=>v=.bl true) λ_ _ _=>False)
  (hCX:∀ (w:No) (H:Hp) (s:Mp) (e:Mj) (s':Mp),CX w [] H s (λ_ _ _=>False) e s'->False):
  PySem.W.WalkO q loose XP YP l.row.toRowW d [] (λf vs=>VO f vs):=by
 refine Att.attach_call hn hdf λw s₀ s₁ mg mb fa o pm cd doc a vs ns G Y ho hd hcd hmg hobj hints hlen hg=>?_
 have KX:=hY w _ Y;obtain⟨ts,fd,tk,hb,hF⟩:=F w mg fa _ KX G.T.g hmg;refine Cd (K:=K w.params) (Dy ts) KX G.T.g G.T.b G.T.builtins G.T.nolimit hg G.T.bmain (λb z e=>?_) hobj hints (MQ hlen (by decide)) hr hF hb (λH hH hS=>hsp _ _ H a ns hlen hS λy hy=>?_) λH e s'=>hCX w H s₁ e s'
 ·obtain⟨p,m,rfl,rfl⟩:=ES e;obtain⟨t1,t2,t3,_⟩:=tk.tab p m;exact⟨hY2 w _ Y _ t1,t3 _ KX,t2⟩
 ·obtain⟨p,m,rfl⟩:=Nc.mp hy;exact⟨p.2,(tk.tab p m).2.2.2,hH _ _ (FJ tk.nodup m)⟩
theorem AO {K:HD}{a:Mz}{o:Obj}{its:Array Mj}{n:Nat}{xs:List V}(l:K.lookup a=some o)(h:o.cls=.type "tuple"/\o.data=.seq its n/\its.size<=MI/\aM xs its.toList):KT K a xs:=⟨o,its,n,l,h.1,h.2.1,h.2.2.1,h.2.2.2⟩
theorem _root_.L2.Room.u1 {k:Nat}(r:Room k A):A.units+1<cLine:=Sd (by lia) r.units
abbrev Kn:=Nat×Nat×Nat
def FZ (t:Kn):M4:=.tuple [.int t.1,.int t.2.1,.int t.2.2]
def pX (t:Kn):List V:=[.int t.1,.int t.2.1,.int t.2.2]
theorem zU (t:Kn):(cV t).map kV=pX t:=rfl
theorem qG {K:HD}{H:Hp}{t:Kn}{v:V}(h:ax K H (FZ t) v):∃ a,v=.ref a/\H a=some (.tup (pX t)):=by
 cases h with
 |tup h q=>
  cases q with
  |cons q1 q=>
   cases q1;cases q with
   |cons q2 q=>
    cases q2;cases q with
    |cons q3 q=>
     cases q3;cases q;exact⟨_,rfl,h⟩
theorem kE {K:HD}{H:Hp}{t:Kn}{a:Mz}(h:H a=some (.tup (pX t))):ax K H (FZ t) (.ref a):=.tup h (.cons (.int _) (.cons (.int _) (.cons (.int _) .nil)))
theorem uV (h:cV t=cV u):t=u:=by
 obtain⟨a,b,c⟩:=t;obtain⟨x,y,z⟩:=u;have h:[Rt (a:Int),Rt (b:Int),Rt (c:Int)]=([Rt (x:Int),Rt (y:Int),Rt (z:Int)]:List gk):=h;injection h with h1 h
 injection h with h2 h
 injection h with h3 h
 injection h1 with h1
 injection h2 with h2
 injection h3 with h3
 have e1:a=x:=by lia
 have e2:b=y:=by lia
 have e3:c=z:=by lia
 rw[e1,e2,e3]
def jV:List Kn->List V->List (List gk×V)
 |t::ts,v::vs=>(cV t,v)::jV ts vs
 |_,_=>[]
theorem sU:∀ {ts:List Kn}{vs:List V},ts.length=vs.length->(jV ts vs).length=ts.length
 |[],[],_=>rfl
 |[],_::_,h=>by simp at h
 |_::_,[],h=>by simp at h
 |t::ts,v::vs,h=>by
  rw[jV,NC,sU (by simpa using h),NC]
theorem AH:∀ {ts:List Kn}{vs:List V},ts.length=vs.length->(jV ts vs).map (·.1)=ts.map cV
 |[],[],_=>rfl
 |[],_::_,h=>by simp at h
 |_::_,[],h=>by simp at h
 |t::ts,v::vs,h=>by
  rw[jV,MN,AH (by simpa using h),MN]
theorem EB:∀ {ts:List Kn}{vs:List V}{i:Nat}{k:List gk}{v:V},(jV ts vs)[i]?=some (k,v)->∃ t,ts[i]?=some t/\k=cV t/\vs[i]?=some v
 |[],_,_,_,_,h=>by simp[jV] at h
 |_::_,[],_,_,_,h=>by simp[jV] at h
 |t::ts,w::vs,0,k,v,h=>by
  have h:some (cV t,w)=some (k,v):=h;cases h;exact⟨t,rfl,rfl,rfl⟩
 |t::ts,w::vs,i+1,k,v,h=>by
  obtain⟨u,a,b,c⟩:=EB (ts:=ts) (vs:=vs) (i:=i) (by simpa [jV] using h);exact⟨u,by simpa using a,b,by simpa using c⟩
theorem xE {K:HD}{H:Hp}{f:Kn->M4}{t:Kn}:∀ {ts:List Kn}{vs:List V},az K H (ts.map f) vs->t∈ts->∃ v,mn (jV ts vs) (cV t)=some v/\ax K H (f t) v
 |[],_,_,m=>nomatch m
 |u::ts,vs,h,m=>by
  cases h with
  |@cons d v ds vs h1 h2=>
   by_cases e:u=t
   ·subst e;exact⟨v,nJ (p:=(cV u,v)) rfl,h1⟩
   ·rcases Mx.mp m with z|m
    ·exact absurd z.symm e
    ·obtain⟨w,a,b⟩:=xE h2 m;exact⟨w,by rw[jV,kO (p:=(cV u,v)) (λz=>e (uV z))];exact a,b⟩
theorem vZ:∀ {ts:List Kn}{vs:List V},t∉ts->mn (jV ts vs) (cV t)=none
 |[],_,_=>rfl
 |_::_,[],_=>rfl
 |u::ts,v::vs,m=>by
  rw[jV,kO (p:=(cV u,v)) (λz=>m (by rw[uV z];exact MO))];exact vZ λz=>m (Mt _ z)
theorem D1:∀ {ts:List Kn}{vs:List V}{t:Kn}{v:V},ts.length=vs.length->jV (ts++[t]) (vs++[v])=jV ts vs++[(cV t,v)]
 |[],[],_,_,_=>rfl
 |[],_::_,_,_,h=>by simp at h
 |_::_,[],_,_,h=>by simp at h
 |u::ts,w::vs,t,v,h=>by
  rw[Td,Td,jV,jV,D1 (by simpa using h),Td]
theorem IX (hl:ts.length=vs.length)(h:t∉ts):nR (jV ts vs) (cV t) v=jV (ts++[t]) (vs++[v]):=by
 rw[Dr v (vZ h),D1 hl]
def wD (r:R3):M4:=dk false r
structure R3.Wt (r:R3):Prop where
 a0:0<=r.a
 a1:r.a<=1000
 b0:0<=r.b
 b1:r.b<=1000
 c0:0<=r.c
 c1:r.c<=1000
def A7 (K:HD)(H:Hp)(ts:List Kn)(f:Kn->R3)(d:Mz):Prop:=∃ vs,H d=some (.dT (jV ts vs))/\az K H (ts.map λt=>wD (f t)) vs
def Gr (K:HD)(H:Hp)(n:Nat)(f:Kn->R3)(d:Mz):Prop:=∃ ts,ts.Perm (bf n)/\A7 K H ts f d
def Aw (n:Nat)(f:Kn->R3):Prop:=∀ t∈bf n,(f t).Wt
theorem Bb {f:Kn->R3}:∀ ts:List Kn,kh (ts.map λt=>wD (f t))=true
 |[]=>rfl
 |t::ts=>by
  rw[MN,kh,Bb ts];rfl
theorem A7.len {K:HD}{ts:List Kn}{f:Kn->R3}{H:Hp}{vs:List V}(h:az K H (ts.map λt=>wD (f t)) vs):ts.length=vs.length:=by
 have:=h.length
 rwa [Mq] at this
theorem A7.same {K:HD}{H H':Hp}{ts:List Kn}{f:Kn->R3}{d:Mz}(h:A7 K H ts f d)(s:af H H'):A7 K H' ts f d:=by obtain⟨vs,a,b⟩:=h;exact⟨vs,s _ _ a,az.same s b⟩
theorem Gr.same {K:HD}{H H':Hp}{n:Nat}{f:Kn->R3}{d:Mz}(h:Gr K H n f d)(s:af H H'):Gr K H' n f d:=by obtain⟨ts,p,g⟩:=h;exact⟨ts,p,g.same s⟩
theorem A7.mv {K:HD}{T:List Mz}{H H':Hp}{ts:List Kn}{f:Kn->R3}{d:Mz}(h:A7 K H ts f d)(m:Mv T H H')(l:bR H T):A7 K H' ts f d:=by
 obtain⟨vs,a,b⟩:=h;exact⟨vs,m _ _ a (l.not a λ_ z=>nomatch z),az.mv m l (Bb ts) b⟩
theorem Gr.mv {K:HD}{T:List Mz}{H H':Hp}{n:Nat}{f:Kn->R3}{d:Mz}(h:Gr K H n f d)(m:Mv T H H')(l:bR H T):Gr K H' n f d:=by obtain⟨ts,p,g⟩:=h;exact⟨ts,p,g.mv m l⟩
theorem IE {K:HD}{H:Hp}{n:Nat}{f:Kn->R3}{d b:Mz}{t:Kn}(h:Gr K H n f d)(ht:t∈bf n)(hb:H b=some (.tup (pX t))):∃ v,qe H d (.ref b) (some v)/\ax K H (wD (f t)) v:=by
 obtain⟨ts,p,vs,a,q⟩:=h;obtain⟨v,e,hv⟩:=xE (f:=λt=>wD (f t)) q (p.mem_iff.mpr ht);refine⟨v,?_,hv⟩;have:=qe.t (k:=cV t) a (by rw[zU];exact hb)
 rwa [e] at this
theorem D5 {n:Nat}(h:n<=7):(bf n).Nodup:=by
 match n,h with
 |0,_=>decide +kernel
 |1,_=>decide +kernel
 |2,_=>decide +kernel
 |3,_=>decide +kernel
 |4,_=>decide +kernel
 |5,_=>decide +kernel
 |6,_=>decide +kernel
 |7,_=>decide +kernel
theorem lN {n:Nat}:(bf n).length=n^3:=by
 unfold bf;have h1:∀ (m:Nat) {α:Type} (g:Nat->List α) (k:Nat),(∀ i,(g i).length=k)->((On m).flatMap g).length=m*k:=λm α g k hg=>by
  induction m with
  |zero=>simp
  |succ m ih=>rw[RS,Qt,ML,ih];simp[hg,Rj]
 rw[h1 n _ (n*n) λi=>by rw[h1 n _ n λj=>by simp]];rw[Vn,Nat.pow_two,Vm n (n*n)]
theorem Ls {n:Nat}(h:n<=7)(m:t∈bf n):t∈bf 7:=by
 rw[eX] at m ⊢;lia
theorem FI {n:Nat}(h:n<=7)(p:ts.Perm (bf n))(hl:ts.length=vs.length):D8 (jV ts vs):=
 xZ (AH hl) (p.nodup_iff.mpr (D5 h)) λt ht=>Ls h (p.mem_iff.mp ht)
def j9 (K:HD)(H:Hp)(n:Nat)(f:Kn->R3)(v:V):Prop:=∃ a C dx d,v=.ref a/\cO K "Grid" C/\H a=some (.ins C dx [("knots",.int n),("table",.ref d)])/\Gr K H n f d
theorem j9.same {K:HD}{H H':Hp}{n:Nat}{f:Kn->R3}{v:V}(h:j9 K H n f v)(s:af H H'):j9 K H' n f v:=by obtain⟨a,C,dx,d,h1,h2,h3,h4⟩:=h;exact⟨a,C,dx,d,h1,h2,s _ _ h3,h4.same s⟩
theorem j9.mv {K:HD}{T:List Mz}{H H':Hp}{n:Nat}{f:Kn->R3}{v:V}(h:j9 K H n f v)(m:Mv T H H')(l:bR H T):j9 K H' n f v:=by
 obtain⟨a,C,dx,d,h1,h2,h3,h4⟩:=h;exact⟨a,C,dx,d,h1,h2,m _ _ h3 (l.not h3 λ_ z=>nomatch z),h4.mv m l⟩
section
variable {K:HD}{g:TG}{tt:TT}{te:TE}{σ0:L2.St}{Fin:List V->Hp->Prop}{H1:Hp}
theorem As {d:Mz}{o:Obj}{kvs:List (List gk × V)}{bs:List Bool} (hH:H1 d=some (.frz o (.dT kvs))) (hlb:bs.length=kvs.length) (hl:kvs.length <= 1000)
  (he:∀ (i:Nat) (k:List gk) (x:V) (ka T:Mz) (b:Bool) (H:Hp),kvs[i]?=some (k,x)->bs[i]?=some b->af H1 H->H ka=some (.tup (k.map kV))->H T=some (.tup [.ref ka,x])->kH g tt te σ0 (.ref T) H λy H'=>af H H'/\y=.bl b)
  (hd:∀ H,af H1 H->Fin (bs.map V.bl) H):gR (Lx d o kvs) g tt te σ0 Fin H1:=by
 refine⟨λi m ys H=>m=kvs.length-i/\i<=kvs.length/\af H1 H/\ys=(bs.take i).map V.bl,⟨kvs.length,by lia,Nq _,af.refl _,rfl⟩,?_⟩;rintro i m ys H ⟨rfl,hi,s,rfl⟩;have hyl:((bs.take i).map V.bl).length<=1000:=by rw[Mq,M3];lia
 by_cases hlt:i<kvs.length
 ·refine .inr ⟨⟨s _ _ hH,hlt⟩,bD hyl,λv H3 y3=>?_⟩;obtain⟨k,x,ka,T,e1,e2,e3,rfl,rfl⟩:=y3;have sT:af H (upd H T (.tup [.ref ka,x])):=af.new e3;have hb:bs[i]?=some bs[i]:=by simp[show i<bs.length by lia]
  refine he i k x ka T bs[i] _ e1 hb (s.trans sT) (sT _ _ e2) ae _ (λy H' ⟨s',hy⟩=>⟨kvs.length-(i+1),by lia,rfl,hlt,(s.trans sT).trans s',?_⟩) λH5=>∃ m',m'<kvs.length-i/\(m'=kvs.length-(i+1)/\i+1<=kvs.length/\af H1 H5/\(bs.take i).map V.bl=(bs.take (i+1)).map V.bl)
  rw[cw hb,Og,hy];rfl
 ·have e:i=kvs.length:=by lia
  subst e;refine .inl ⟨⟨s _ _ hH,Mm _⟩,di hyl,?_⟩;rw[Nf (by lia)];exact hd H s
end
section
variable {K:HD}{g:TG}{tt:TT}{tb:TB}{σ0:L2.St}
theorem Br {a:Mz}{b:Bool}{xs:List V}{Fin:List V->Hp->Prop}{H1:Hp} (Pv:Nat->List V->Hp->Prop) (h0:Pv 0 [] H1) (hsrc:∀ i ys H,i <= xs.length->Pv i ys H->ck K H a xs b)
  (he:∀ i x ys H,xs[i]?=some x->Pv i ys H->∀ R:L2.St->Hp->List V->Prop,(∀ σ' H' ys',Pv (i+1) ys' H'->R σ' H' ys')->∀ S:Hp->Prop,g x σ0 H λσ' H4=>tt σ' H4 λc H5=>if c=true then tb σ' H5 ys R else S H5)
  (hd:∀ ys H,Pv xs.length ys H->ys.length<=1000/\Fin ys H):Ab (uj K a b) g tt tb σ0 Fin H1:=by
 refine⟨λi m ys H=>m=xs.length-i/\i<=xs.length/\Pv i ys H,⟨xs.length,by lia,Nq _,h0⟩,?_⟩;rintro i m ys H ⟨rfl,hi,p⟩;have q:=hsrc i ys H hi p
 by_cases hlt:i<xs.length
 ·have go:(uj K a b).go i H:=by
   cases b with
   |true=>exact⟨xs,xs[i],q,by simp[hlt]⟩
   |false=>exact⟨xs,xs[i],q,by simp[hlt]⟩
  refine .inr ⟨go,λx H3 y3=>?_⟩;have e3:H3=H/\xs[i]?=some x:=by
   cases b with
   |true=>exact⟨y3.1,y3.2 xs q⟩
   |false=>exact⟨y3.1,y3.2 xs q⟩
  obtain⟨rfl,hx⟩:=e3;exact he i x ys _ hx p _ (λσ' H' ys' p'=>⟨xs.length-(i+1),by lia,rfl,hlt,p'⟩) λH5=>∃ m',m'<xs.length-i/\(m'=xs.length-(i+1)/\i+1<=xs.length/\Pv (i+1) ys H5)
 ·have e:i=xs.length:=by lia
  subst e;have stop:(uj K a b).stop xs.length H:=by
   cases b with
   |true=>exact⟨xs,q,Mm _⟩
   |false=>exact⟨xs,q,Mm _⟩
  exact .inl ⟨stop,di (hd ys H p).1,(hd ys H p).2⟩
theorem yL {a:Mz}{b:Bool}{xs:List V}{σ:L2.St}{H:Hp}{ys:List V}{Q:L2.St->Hp->List V->Prop} (Pv:Nat->L2.St->List V->Hp->Prop) (h0:Pv 0 σ ys H) (hsrc:∀ i σ ys H,i <= xs.length->Pv i σ ys H->ck K H a xs b)
  (he:∀ i x σ ys H,xs[i]?=some x->Pv i σ ys H->∀ R:L2.St->Hp->List V->Prop,(∀ σ' H' ys',Pv (i+1) σ' ys' H'->R σ' H' ys')->∀ S:L2.St->Hp->Prop,g x σ H λσ' H4=>tt σ' H4 λc H5=>if c=true then tb σ' H5 ys R else S σ' H5)
  (hd:∀ σ ys H,Pv xs.length σ ys H->Q σ H ys):∃ W:Nat->Nat->L2.St->Hp->List V->Prop,(∃ m,W 0 m σ H ys)/\∀ i m σ2 H2 ys2,W i m σ2 H2 ys2 ->
   ((uj K a b).stop i H2/\Q σ2 H2 ys2) \/
   ((uj K a b).go i H2/\∀ x H3,(uj K a b).yld i H2 x H3->g x σ2 H3 λσ3 H4=>tt σ3 H4 λb H5=>if b=true then tb σ3 H5 ys2 λσ' H' ys'=>∃ m',m'<m/\W (i+1) m' σ' H' ys' else ∃ m',m'<m/\W (i+1) m' σ3 H5 ys2):=by
 refine⟨λi m σ H ys=>m=xs.length-i/\i<=xs.length/\Pv i σ ys H,⟨xs.length,by lia,Nq _,h0⟩,?_⟩;rintro i m σ H ys ⟨rfl,hi,p⟩;have q:=hsrc i σ ys H hi p
 by_cases hlt:i<xs.length
 ·have go:(uj K a b).go i H:=by
   cases b with
   |true=>exact⟨xs,xs[i],q,by simp[hlt]⟩
   |false=>exact⟨xs,xs[i],q,by simp[hlt]⟩
  refine .inr ⟨go,λx H3 y3=>?_⟩;have e3:H3=H/\xs[i]?=some x:=by
   cases b with
   |true=>exact⟨y3.1,y3.2 xs q⟩
   |false=>exact⟨y3.1,y3.2 xs q⟩
  obtain⟨rfl,hx⟩:=e3;exact he i x σ ys _ hx p _ (λσ' H' ys' p'=>⟨xs.length-(i+1),by lia,rfl,hlt,p'⟩) λσ5 H5=>∃ m',m'<xs.length-i/\(m'=xs.length-(i+1)/\i+1<=xs.length/\Pv (i+1) σ5 ys H5)
 ·have e:i=xs.length:=by lia
  subst e;have stop:(uj K a b).stop xs.length H:=by
   cases b with
   |true=>exact⟨xs,q,Mm _⟩
   |false=>exact⟨xs,q,Mm _⟩
  exact .inl ⟨stop,hd σ ys H p⟩
end
def EK (K:HD)(a:Mz)(rows:List (List Int)):Prop:=∃ bs:List Mz,KT K a (bs.map V.ref)/\SJ (λb r=>KT K b (r.map V.int)) bs rows
def LU (K:HD)(rows:List (List Int)):TE:=λ_ H Q=>∀ a,EK K a rows->Q (.ref a) H
theorem AS {X:Cx}{K:HD}{x:Str}{rows:List (List Int)}{pos:Pos}(hg:Gl X x)(hm:∃ a,X.mg x=some (.ref a)/\EK K a rows)(hd:(x==("__debug__":Str))=false:=by decide):WE X (.Name x pos) (LU K rows):=by
 refine⟨?_⟩;obtain⟨a,e,z⟩:=hm;intro pins s σ H Q I h;exact i8 I hg e ⟨.ref a,H,I,rfl,h a z⟩ hd
theorem jA {K:HD}{H:Hp}:∀ ns:List Int,az K H (ns.map NR) (ns.map V.int)
 |[]=>.nil
 |n::ns=>.cons (.int n) (jA ns)
theorem dD {K:HD}{H:Hp}:∀ {ns:List Int}{ys:List V},az K H (ns.map NR) ys->ys=ns.map V.int
 |[],_,h=>by cases h;rfl
 |n::ns,_,h=>by
  cases h with
  |cons h1 h2=>
   cases h1;rw[dD h2];rfl
def uQ (a b k:Nat):List Kn:=(On k).map λc=>(a,b,c)
def t_ (n a j:Nat):List Kn:=(On j).flatMap λb=>uQ a b n
def um (n i:Nat):List Kn:=(On i).flatMap λa=>t_ n a n
theorem GD (n:Nat):um n n=bf n:=rfl
theorem yj (a b k:Nat):uQ a b (k+1)=uQ a b k++[(a,b,k)]:=by unfold uQ;rw[RS,Og];rfl
theorem sF (n a j:Nat):t_ n a (j+1)=t_ n a j++uQ a j n:=by unfold t_;rw[RS,Qt];simp
theorem sH (n i:Nat):um n (i+1)=um n i++t_ n i n:=by unfold um;rw[RS,Qt];simp
theorem A0 (a b k:Nat):(uQ a b k).length=k:=by unfold uQ;simp
theorem vY (n a:Nat):∀ j,(t_ n a j).length=j*n
 |0=>by simp[t_]
 |j+1=>by rw[sF,ML,vY n a j,A0,Rj]
theorem AX (n:Nat):∀ i,(um n i).length=i*(n*n)
 |0=>by simp[um]
 |i+1=>by rw[sH,ML,AX n i,vY,Rj]
theorem Bi {a b k:Nat}:t∈uQ a b k↔t.1=a/\t.2.1=b/\t.2.2<k:=by
 obtain⟨x,y,z⟩:=t;unfold uQ;simp only[Nc,OQ,Prod.mk.injEq];constructor
 ·rintro⟨c,hc,rfl,rfl,rfl⟩;exact⟨rfl,rfl,hc⟩
 ·rintro⟨h1,h2,h3⟩;exact⟨z,h3,h1.symm,h2.symm,rfl⟩
theorem A9 {n a j:Nat}:t∈t_ n a j↔t.1=a/\t.2.1<j/\t.2.2<n:=by
 unfold t_;simp only[PH,OQ,Bi];constructor
 ·rintro⟨b,hb,h1,h2,h3⟩;exact⟨h1,by lia,h3⟩
 ·rintro⟨h1,h2,h3⟩;exact⟨t.2.1,h2,h1,rfl,h3⟩
theorem GM {n i:Nat}:t∈um n i↔t.1<i/\t.2.1<n/\t.2.2<n:=by
 unfold um;simp only[PH,OQ,A9];constructor
 ·rintro⟨b,hb,h1,h2,h3⟩;exact⟨by lia,h2,h3⟩
 ·rintro⟨h1,h2,h3⟩;exact⟨t.1,h1,rfl,h2,h3⟩
theorem C6 {n i j k:Nat}(h:n<=7)(hi:i<n)(hj:j<n)(hk:k<=n):(um n i++t_ n i j++uQ i j k).length<=343:=by
 rw[ML,ML,AX,vY,A0];have h1:n*n<=49:=Ui h h;have h2:i*(n*n)<=6*49:=Ui (by lia) h1;have h3:j*n<=6*7:=Ui (by lia) h;lia
theorem ww {n i:Nat}{x:V}(h:((sM n).map V.int)[i]?=some x):i<n/\x=.int (i:Int):=by
 rw[Mw] at h;obtain⟨z,e,rfl⟩:=MJ.mp h;have hi:i<(sM n).length:=(Mu.mp e).1;rw[i'] at hi;rw[Au hi] at e;cases e;exact⟨hi,rfl⟩
theorem L7:[a,b,c,d].length<=MI:=by show 4<=MI;decide
structure Q3.Wi (c:Q3)(m:Rat):Prop where
 a0:0<=c.a
 a1:c.a<=m
 b0:0<=c.b
 b1:c.b<=m
 c0:0<=c.c
 c1:c.c<=m
def jG (H H':Hp):Prop:=∀ b o,H b=some o->(∀ kvs,o≠.dT kvs)->H' b=some o
theorem jG.put (h:H d=some (.dT kvs)):jG H (upd H d (.dT kvs')):=λb o e n=>by
 rw[aq (λz=>by rw[z,h] at e;cases e;exact n _ rfl)];exact e
theorem jG.cut (h:jG H H'):jG (TR.cut T H) (TR.cut T H'):=λb o e n=>by
 unfold TR.cut at e ⊢
 split at e
 ·cases e
 ·rename_i nb
  rw[MT nb];exact h b o e n
theorem Rd.sameD (e:jG H H')(h:Rd H a (.lst xs)):Rd H' a (.lst xs):=by
 rcases h with h|⟨o,h⟩
 ·exact .inl (e _ _ h λ_ z=>nomatch z)
 ·exact .inr ⟨o,e _ _ h λ_ z=>nomatch z⟩
mutual
theorem ax.sameD {K:HD}{H H':Hp}(e:jG H H'):∀ {d:M4}{v:V},ax K H d v->ax K H' d v
 |_,_,.non=>.non
 |_,_,.bl b=>.bl b
 |_,_,.int i=>.int i
 |_,_,.str x=>.str x
 |_,_,.lst h q=>.lst (Rd.sameD e h) (az.sameD e q)
 |_,_,.tup h q=>.tup (e _ _ h λ_ z=>nomatch z) (az.sameD e q)
 |_,_,.dct h=>.dct (e _ _ h λ_ z=>nomatch z)
theorem az.sameD {K:HD}{H H':Hp}(e:jG H H'):∀ {ds:List M4}{vs:List V},az K H ds vs->az K H' ds vs
 |_,_,.nil=>.nil
 |_,_,.cons h q=>.cons (ax.sameD e h) (az.sameD e q)
end
theorem bQ.sameD (h:bQ H t r)(e:jG H H'):bQ H' t r:=by
 obtain⟨c,k,h1,h2,h3,h4⟩:=h;exact⟨c,k,e _ _ h1 (λ_ z=>nomatch z),e _ _ h2 (λ_ z=>nomatch z),h3,h4⟩
theorem Mv.wide (m:Mv [t,r] H H'):Mv [t,r,d] H H':=λb o e n=>m b o e λz=>n (by
 simp only[Mx,MM,Od] at z ⊢;rcases z with z|z
 ·exact .inl z
 ·exact .inr (.inl z))
theorem CU (i j:Int):(if j<i then j else i)=min i j:=by
 by_cases h:j<i
 ·rw[Nd h];lia
 ·rw[MT h];lia
end TR
namespace TR
open PySem PySem.Spec PyProof.Rows L2
def un:Nat->Kn
 |0=>(1,0,0)
 |1=>(0,1,0)
 |_=>(0,0,1)
def aB (s t:Kn):Kn:=(s.1+t.1,s.2.1+t.2.1,s.2.2+t.2.2)
def aU (x y z:Int):Nat->Int
 |0=>x
 |1=>y
 |_=>z
abbrev Pc:=Kn×Int
def DL (p:Pc):M4:=.tuple [FZ p.1,.int p.2]
def iE (g:Nat->Int)(whole:Int)(u v w:Nat):List Pc:=[((0,0,0),whole-g u),(un u,g u-g v),(aB (un u) (un v),g v-g w),(aB (aB (un u) (un v)) (un w),g w)]
def tP:List (Nat×Nat×Nat):=[(0,1,2),(0,2,1),(1,0,2),(1,2,0),(2,0,1),(2,1,0)]
theorem EM (h:o∈tP):o.1<3/\o.2.1<3/\o.2.2<3:=by
 simp only[tP,Mx,MM,Od] at h;rcases h with rfl|rfl|rfl|rfl|rfl|rfl<;>decide
theorem HE (h:l.Perm (sM 3)):∃ o∈tP,l=[(o.1:Int),(o.2.1:Int),(o.2.2:Int)]:=by
 have h':l.Perm [0,1,2]:=h;rcases ksk_perm3 h' with e|e|e|e|e|e
 ·exact⟨(0,1,2),by decide,e⟩
 ·exact⟨(0,2,1),by decide,e⟩
 ·exact⟨(1,0,2),by decide,e⟩
 ·exact⟨(1,2,0),by decide,e⟩
 ·exact⟨(2,0,1),by decide,e⟩
 ·exact⟨(2,1,0),by decide,e⟩
theorem AY {x y z:Int}{u:Nat}(h:u<3):AD [V.int x,V.int y,V.int z] (u:Int)=some (.int (aU x y z u)):=by
 match u,h with
 |0,_=>rfl
 |1,_=>rfl
 |2,_=>rfl
theorem lS {x y z:Int}{u:Nat}(h:u<3):[x,y,z].getD (u:Int).toNat 0=aU x y z u:=by
 match u,h with
 |0,_=>rfl
 |1,_=>rfl
 |2,_=>rfl
theorem CV {K:HD}{a:Mz}{u:Nat}(h:EK K a [[1,0,0],[0,1,0],[0,0,1]])(hu:u<3):∃ (bs:List V) (b:Mz),KT K a bs/\AD bs (u:Int)=some (.ref b)/\KT K b (pX (un u)):=by
 obtain⟨bs,h1,h2⟩:=h;cases h2 with
 |cons k1 h2=>
  cases h2 with
  |cons k2 h2=>
   cases h2 with
   |cons k3 h2=>
    cases h2
    match u,hu with
    |0,_=>exact⟨_,_,h1,rfl,k1⟩
    |1,_=>exact⟨_,_,h1,rfl,k2⟩
    |2,_=>exact⟨_,_,h1,rfl,k3⟩
theorem Ap (s t:Kn):(QA (·+·) [(s.1:Int),(s.2.1:Int),(s.2.2:Int)] [(t.1:Int),(t.2.1:Int),(t.2.2:Int)]).map V.int=pX (aB s t):=by
 simp only[QY,Ri,MN,Pu,pX,aB,Int.natCast_add]
theorem qS:∀ ps:List Pc,kh (ps.map DL)=true
 |[]=>rfl
 |p::ps=>by
  rw[MN,kh,qS ps];rfl
theorem Ed {K:HD}{H:Hp}{p:Pc}{v:V}(h:ax K H (DL p) v):∃ a c,v=.ref a/\H a=some (.tup [.ref c,.int p.2])/\H c=some (.tup (pX p.1)):=by
 cases h with
 |tup h q=>
  cases q with
  |cons q1 q=>
   cases q with
   |cons q2 q=>
    cases q2;cases q;obtain⟨c,rfl,hc⟩:=qG q1;exact⟨_,c,rfl,h,hc⟩
def nr (g:Nat->Int)(whole:Int)(k b:Nat):Int:=if b=1 then g k else whole-g k
def dw (g:Nat->Int)(whole:Int)(t:Kn):Nat->Int
 |0=>1
 |1=>1*nr g whole 0 t.1
 |2=>1*nr g whole 0 t.1*nr g whole 1 t.2.1
 |_=>1*nr g whole 0 t.1*nr g whole 1 t.2.1*nr g whole 2 t.2.2
def c_ (g:Nat->Int)(whole:Int):List Pc:=(bf 2).map λt=>(t,dw g whole t 3)
theorem DY {x y z whole:Int}{b:Nat}(hx:Sm b x)(hy:Sm b y)(hz:Sm b z)(hw:Sm b whole)(k c:Nat):Sm (b+1) (nr (aU x y z) whole k c):=by
 have hg:Sm b (aU x y z k):=by
  match k with
  |0=>exact hx
  |1=>exact hy
  |_+2=>exact hz
 unfold nr
 split
 ·exact hg.mono (by lia)
 ·exact hw.sub hg
theorem zg {whole:Int}{b:Nat}(h:∀ k c,Sm (b+1) (nr g whole k c))(t:Kn):∀ j,Sm (1+3*(b+1)) (dw g whole t j)
 |0=>Sm.mono (k:=1) (show Sm 1 (1:Int) by unfold Sm;decide) (by lia)
 |1=>((show Sm 1 (1:Int) by unfold Sm;decide).mul (h _ _)).mono (by lia)
 |2=>(((show Sm 1 (1:Int) by unfold Sm;decide).mul (h _ _)).mul (h _ _)).mono (by lia)
 |_+3=>((((show Sm 1 (1:Int) by unfold Sm;decide).mul (h _ _)).mul (h _ _)).mul (h _ _)).mono (by lia)
def GQ (f:Kn->R3)(base:Kn)(h:R3->Int)(ps:List Pc):Int:=(QA (·*·) (ps.map λp=>h (f (aB base p.1))) (ps.map (·.2))).sum
def rf (f:Kn->R3)(base:Kn)(h:R3->Int)(ps:List Pc):Rat:=((GQ f base h ps:Int):Rat)/(((ps.map (·.2)).sum:Int):Rat)
def Cr (f:Kn->R3)(base:Kn)(ps:List Pc):Q3:=⟨rf f base R3.a ps,rf f base R3.b ps,rf f base R3.c ps⟩
theorem K2 {i:Nat}(h:(Cr f base ps).ds[i]?=some d):∃ g:R3->Int,d=rD (rf f base g ps)/\i<3/\∀ r:R3,r.vs[i]?=some (.int (g r)):=by
 rcases pJ h with ⟨rfl,rfl⟩|⟨rfl,rfl⟩|⟨rfl,rfl⟩
 ·exact⟨R3.a,rfl,by decide,λr=>rfl⟩
 ·exact⟨R3.b,rfl,by decide,λr=>rfl⟩
 ·exact⟨R3.c,rfl,by decide,λr=>rfl⟩
def t4 (n:Nat):Int:=60/((n:Int)-1)
theorem wX {n:Nat}(h2:2<=n)(h7:n<=7):0<t4 n/\t4 n*((n:Int)-1)=60/\t4 n<=60:=by
 match n,h2,h7 with
 |2,_,_=>decide
 |3,_,_=>decide
 |4,_,_=>decide
 |5,_,_=>decide
 |6,_,_=>decide
 |7,_,_=>decide
def dU (n:Nat)(x:Rat):Rat:=((x.num:Int):Rat)/(((x.den:Int)*t4 n:Int):Rat)
def Ft (s:Rat):Int:=s.num.fdiv (s.den:Int)
def eB (n:Nat)(x:Rat):Nat:=(min (Ft (dU n x)) ((n:Int)-2)).toNat
def lG (n:Nat)(x:Rat):Rat:=dU n x-((eB n x:Int):Rat)
theorem Ff {n:Nat}(h2:2<=n)(h7:n<=7):((t4 n:Int):Rat)≠0:=by
 intro z;have:t4 n=0:=by exact_mod_cast z
 have:=(wX h2 h7).1;lia
theorem EH {n:Nat}(h2:2<=n)(h7:n<=7)(x:Rat):dU n x=x/((t4 n:Int):Rat):=by
 have h1:=jt x;have h2:=Ff h2 h7;have e:=iA x;unfold dU;rw[MY];generalize ((x.num:Int):Rat)=a at *;generalize ((x.den:Int):Rat)=b at *;generalize ((t4 n:Int):Rat)=c at *;grind
theorem wB (s:Rat):Ft s=s.floor:=by
 unfold Ft;rw[Oq _ (by have:=s.den_pos;lia),Rat.floor_def]
theorem IG (s:Rat):((Ft s:Int):Rat)<=s:=by rw[wB];exact Rat.floor_le s
theorem Ja (s:Rat):s<((Ft s+1:Int):Rat):=by rw[wB];exact Rat.lt_floor_add_one s
structure Dv (n:Nat)(x:Rat):Prop where
 n2:2<=n
 n7:n<=7
 lo:0<=x
 hi:x<=((60:Int):Rat)
section
variable {n:Nat}{x:Rat}(h:Dv n x)
include h
theorem Hj:0<=dU n x:=by
 rw[EH h.n2 h.n7];have hp:(0:Rat)<((t4 n:Int):Rat):=by exact_mod_cast (wX h.n2 h.n7).1
 refine NU (c:=((t4 n:Int):Rat)) ?_ hp;rw[O2 (Ff h.n2 h.n7),Rat.zero_mul];exact h.lo
theorem Ic:0<=Ft (dU n x):=by
 rw[wB];exact Rat.le_floor_iff.mpr (by simpa using Hj h)
theorem Bf:((eB n x:Nat):Int)=min (Ft (dU n x)) ((n:Int)-2):=by
 unfold eB;have h1:=Ic h;have h2:=h.n2;lia
theorem iK:eB n x+2<=n:=by
 have h1:=Bf h;have h2:=h.n2;lia
end
def cq (x y z:Rat):Nat->Rat
 |0=>x
 |1=>y
 |_=>z
def bI (h:Kn->Rat)(p:Nat->Rat)(u v w:Nat):Rat:=h (0,0,0)*(1-p u)+h (un u)*(p u-p v)+h (aB (un u) (un v))*(p v-p w)+h (aB (aB (un u) (un v)) (un w))*p w
def vG (h:Kn->Rat)(x y z:Rat):Rat:=h (0,0,0)*((1-x)*(1-y)*(1-z))+h (0,0,1)*((1-x)*(1-y)*z)+h (0,1,0)*((1-x)*y*(1-z))+h (0,1,1)*((1-x)*y*z) +
 h (1,0,0)*(x*(1-y)*(1-z))+h (1,0,1)*(x*(1-y)*z)+h (1,1,0)*(x*y*(1-z))+h (1,1,1)*(x*y*z)
def xK (p:Nat->Rat)(o:Nat×Nat×Nat):Prop:=o∈tP/\p o.2.1<=p o.1/\p o.2.2<=p o.2.1
def ot (x y z:Rat):Nat×Nat×Nat:=if y<=x then(if z<=y then(0,1,2) else if z<=x then(0,2,1) else(2,0,1)) else(if z<=x then(1,0,2) else if z<=y then(1,2,0) else(2,1,0))
theorem m9 (x y z:Rat):xK (cq x y z) (ot x y z):=by
 unfold ot
 split
 ·rename_i h1
  split
  ·rename_i h2
   exact⟨by decide,h1,h2⟩
  ·rename_i h2
   split
   ·rename_i h3
    exact⟨by decide,h3,by show y<=z;grind⟩
   ·rename_i h3
    exact⟨by decide,by show x<=z;grind,h1⟩
 ·rename_i h1
  split
  ·rename_i h2
   exact⟨by decide,by show x<=y;grind,h2⟩
  ·rename_i h2
   split
   ·rename_i h3
    exact⟨by decide,h3,by show x<=z;grind⟩
   ·rename_i h3
    exact⟨by decide,by show y<=z;grind,by show x<=y;grind⟩
theorem uT {x y z:Rat}(a:xK (cq x y z) o)(b:xK (cq x y z) o'):bI h (cq x y z) o.1 o.2.1 o.2.2=bI h (cq x y z) o'.1 o'.2.1 o'.2.2:=by
 obtain⟨m,a1,a2⟩:=a;obtain⟨m',b1,b2⟩:=b;simp only[tP,Mx,MM,Od] at m m';rcases m with rfl|rfl|rfl|rfl|rfl|rfl<;>rcases m' with rfl|rfl|rfl|rfl|rfl|rfl <;>
  first|rfl|(simp only[cq,bI,un,aB,M7,MX] at *;generalize h (0,0,0)=h0 at *;generalize h (1,0,0)=h1 at *;generalize h (0,1,0)=h2 at *;generalize h (0,0,1)=h3 at *;generalize h (1,1,0)=h4 at *;generalize h (1,0,1)=h5 at *;generalize h (0,1,1)=h6 at *;generalize h (1,1,1)=h7 at *;first|(have e:x=y:=(by grind);subst e;first|grind|(have e:x=z:=(by grind);subst e;grind))|(have e:y=z:=(by grind);subst e;grind)|(have e:x=z:=(by grind);subst e;grind))
theorem Fc {f:Kn->R3}{base:Kn}{g:R3->Int}{x y z B:Int}{X Y Z:Rat}{u v w:Nat} (hB:(B:Rat) ≠ 0) (hx:(x:Rat)=X * (B:Rat)) (hy:(y:Rat)=Y * (B:Rat)) (hz:(z:Rat)=Z * (B:Rat)) :
  rf f base g (iE (aU x y z) B u v w)=bI (λt=>((g (f (aB base t)):Int):Rat)) (cq X Y Z) u v w:=by
 have hp:∀ k,((aU x y z k:Int):Rat)=cq X Y Z k*(B:Rat):=λk=>by
  match k with
  |0=>exact hx
  |1=>exact hy
  |_+2=>exact hz
 have hu:=hp u;have hv:=hp v;have hw:=hp w;unfold rf GQ iE bI;simp only[MN,Pu,QY,Ri,RE,TJ,Pq,MY,Nt];rw[hu,hv,hw];have e0:((0:Int):Rat)=0:=rfl;rw[e0];generalize ((g (f (aB base (0,0,0))):Int):Rat)=a0;generalize ((g (f (aB base (un u))):Int):Rat)=a1;generalize ((g (f (aB base (aB (un u) (un v)))):Int):Rat)=a2;generalize ((g (f (aB base (aB (aB (un u) (un v)) (un w)))):Int):Rat)=a3;generalize cq X Y Z u=p;generalize cq X Y Z v=q;generalize cq X Y Z w=r;generalize (B:Rat)=b at *;grind
theorem yT:bf 2=[(0,0,0),(0,0,1),(0,1,0),(0,1,1),(1,0,0),(1,0,1),(1,1,0),(1,1,1)]:=by decide
theorem rK {B:Int}{u v w:Nat}:((iE g B u v w).map (·.2)).sum=B:=by
 unfold iE;simp only[MN,Pu,RE,TJ];lia
theorem pA {x y z B:Int}:((c_ (aU x y z) B).map (·.2)).sum=B*B*B:=by
 unfold c_;rw[yT];have n01:¬ (0:Nat)=1:=by decide
 simp only[MN,Pu,RE,TJ,dw,nr,MT n01,PR,aU];grind
theorem Bu {f:Kn->R3}{base:Kn}{g:R3->Int}{x y z B:Int}{X Y Z:Rat} (hB:(B:Rat) ≠ 0) (hx:(x:Rat)=X * (B:Rat)) (hy:(y:Rat)=Y * (B:Rat)) (hz:(z:Rat)=Z * (B:Rat)) :
  rf f base g (c_ (aU x y z) B)=vG (λt=>((g (f (aB base t)):Int):Rat)) X Y Z:=by
 have hN:((GQ f base g (c_ (aU x y z) B):Int):Rat)=vG (λt=>((g (f (aB base t)):Int):Rat)) X Y Z*((B:Rat)*(B:Rat)*(B:Rat)):=by
  unfold GQ c_ vG;rw[yT];have n01:¬ (0:Nat)=1:=by decide
  simp only[MN,Pu,QY,Ri,RE,TJ,dw,nr,MT n01,PR,aU,Pq,MY,Nt];rw[hx,hy,hz];have e0:((0:Int):Rat)=0:=rfl;have e1:((1:Int):Rat)=1:=rfl;rw[e0,e1];clear hx hy hz hB;generalize ((g (f (aB base (0,0,0))):Int):Rat)=a0;generalize ((g (f (aB base (0,0,1))):Int):Rat)=a1;generalize ((g (f (aB base (0,1,0))):Int):Rat)=a2;generalize ((g (f (aB base (0,1,1))):Int):Rat)=a3;generalize ((g (f (aB base (1,0,0))):Int):Rat)=a4;generalize ((g (f (aB base (1,0,1))):Int):Rat)=a5;generalize ((g (f (aB base (1,1,0))):Int):Rat)=a6;generalize ((g (f (aB base (1,1,1))):Int):Rat)=a7;generalize (B:Rat)=b;grind
 unfold rf;rw[hN,pA,MY,MY];refine UO λz=>?_
 generalize (B:Rat)=b at *;grind
def AF (n:Nat)(c:Q3):Kn:=(eB n c.a,eB n c.b,eB n c.c)
def vd (n:Nat)(f:Kn->R3)(c:Q3)(g:R3->Int)(t:Kn):Rat:=((g (f (aB (AF n c) t)):Int):Rat)
def qc (n:Nat)(c:Q3):Nat->Rat:=cq (lG n c.a) (lG n c.b) (lG n c.c)
def om (n:Nat)(f:Kn->R3)(c:Q3)(g:R3->Int):Rat:=bI (vd n f c g) (qc n c) (ot (lG n c.a) (lG n c.b) (lG n c.c)).1 (ot (lG n c.a) (lG n c.b) (lG n c.c)).2.1 (ot (lG n c.a) (lG n c.b) (lG n c.c)).2.2
def z9 (n:Nat)(f:Kn->R3)(c:Q3)(g:R3->Int):Rat:=vG (vd n f c g) (lG n c.a) (lG n c.b) (lG n c.c)
def W4 (n:Nat)(f:Kn->R3)(c:Q3):Q3:=⟨om n f c R3.a,om n f c R3.b,om n f c R3.c⟩
def W8 (n:Nat)(f:Kn->R3)(c:Q3):Q3:=⟨z9 n f c R3.a,z9 n f c R3.b,z9 n f c R3.c⟩
theorem Em {n:Nat}(h:xK (qc n c) o):bI (vd n f c g) (qc n c) o.1 o.2.1 o.2.2=om n f c g:=uT h (m9 _ _ _)
theorem Al {m:Nat}:∀ {l:List Int},(∀ x∈l,Sm m x)->Sm (m+l.length) l.sum
 |[],_=>Sm.mono (k:=0) (show Sm 0 (0:Int) by unfold Sm;decide) (Nq _)
 |x::l,h=>by
  rw[RE,NC];exact(Sm.add ((h x MO).mono (PJ m l.length)) (Al λy hy=>h y (Mt _ hy))).mono (by lia)
theorem nG {r:R3}(h:r.Wt):Sm 10 r.a/\Sm 10 r.b/\Sm 10 r.c:=by
 obtain⟨a0,a1,b0,b1,c0,c1⟩:=h;refine⟨?_,?_,?_⟩<;>(unfold Sm;lia)
theorem EN {n:Nat}{m:Nat}(hw:∀ p∈ps,Sm 10 (g (f (aB base p.1))))(hp:∀ p∈ps,Sm m p.2)(h0:(ps.map (·.2)).sum≠0):Bq (10+m+ps.length) (rf f base g ps):=by
 refine gN h0 ?_ ?_
 ·have h1:∀ x∈QA (·*·) (ps.map λp=>g (f (aB base p.1))) (ps.map (·.2)),Sm (10+m) x:=λx hx=>by
   rw[List.zipWith_map_left,List.zipWith_map_right,List.zipWith_self] at hx;obtain⟨p,hp',rfl⟩:=Nc.mp hx;exact(hw p hp').mul (hp p hp')
  have:=Al h1;rw[List.length_zipWith,Mq,Mq,Nat.min_self] at this;exact this
 ·have h1:∀ x∈ps.map (·.2),Sm m x:=λx hx=>by
   obtain⟨p,hp',rfl⟩:=Nc.mp hx;exact hp p hp'
  have:=Al h1;rw[Mq] at this;exact this.mono (by lia)
def Q3.lst (q:Q3):M4:=.list q.ds
theorem HN {n k:Nat}{y:Rat}(h2:2<=n)(h7:n<=7)(h:Bq k y):Bq (k+6) (dU n y):=by
 obtain⟨ap0,ap1,ap2⟩:=wX h2 h7;exact gN (Nz h.ne (by lia)) (h.sn.mono (by lia)) (h.sd.mul (show Sm 6 (t4 n) by unfold Sm;lia))
theorem Aj {n k:Nat}{y:Rat}(dv:Dv n y)(h:Bq k y):Bq (k+10) (lG n y):=by
 have h1:=HN dv.n2 dv.n7 h;have h2:Bq 3 (((eB n y:Nat):Int):Rat):=tJ (by have:=iK dv;have:=dv.n7;unfold Sm;lia) (by decide);exact Ok.mono (Bq.sub h1 h2) (by lia)
theorem Be {K:HD}{H:Hp}{d1 d2:M4}{xs:List V}(h:az K H [d1,d2] xs):∃ x y,xs=[x,y]/\ax K H d1 x/\ax K H d2 y:=by
 cases h with
 |cons h1 h=>
  cases h with
  |cons h2 h=>
   cases h;exact⟨_,_,rfl,h1,h2⟩
def CC (o:Nat×Nat×Nat):Nat->Nat
 |0=>o.1
 |1=>o.2.1
 |_=>o.2.2
def Jk (o:Nat×Nat×Nat):Nat->Kn
 |0=>(0,0,0)
 |i+1=>aB (Jk o i) (un (CC o i))
theorem IK {i:Nat}(h:o∈tP)(hi:i<=3):(Jk o i).1<=1/\(Jk o i).2.1<=1/\(Jk o i).2.2<=1:=by
 simp only[tP,Mx,MM,Od] at h
 match i,hi with
 |0,_=>rcases h with rfl|rfl|rfl|rfl|rfl|rfl<;>decide
 |1,_=>rcases h with rfl|rfl|rfl|rfl|rfl|rfl<;>decide
 |2,_=>rcases h with rfl|rfl|rfl|rfl|rfl|rfl<;>decide
 |3,_=>rcases h with rfl|rfl|rfl|rfl|rfl|rfl<;>decide
theorem LW (t:Kn):aB (0,0,0) t=t:=by
 simp only[aB,MX]
theorem rn {K:HD}{H:Hp}(r:R3):az K H r.ds r.vs:=.cons (.int _) (.cons (.int _) (.cons (.int _) .nil))
theorem KS (h:u.1<=1/\u.2.1<=1/\u.2.2<=1):u∈bf 2:=eX.mpr (by lia)
def jF (h:Kn->Rat)(x y z:Rat):Rat:=bI h (cq x y z) (ot x y z).1 (ot x y z).2.1 (ot x y z).2.2
theorem dM {x y z:Rat}(a:xK (cq x y z) o):jF h x y z=bI h (cq x y z) o.1 o.2.1 o.2.2:=(uT (h:=h) a (m9 x y z)).symm
theorem KQ {y z:Rat}(y0:0<=y)(y1:y<=1)(z0:0<=z)(z1:z<=1):jF h 1 y z=jF (λt=>h (aB t (1,0,0))) 0 y z:=by
 by_cases c:z<=y
 ·rw[dM (o:=(0,1,2)) ⟨by decide,y1,c⟩,dM (o:=(1,2,0)) ⟨by decide,c,z0⟩];simp only[bI,cq,un,aB,M7,MX];grind
 ·rw[dM (o:=(0,2,1)) ⟨by decide,z1,by show y<=z;grind⟩,dM (o:=(2,1,0)) ⟨by decide,by show y<=z;grind,y0⟩];simp only[bI,cq,un,aB,M7,MX];grind
theorem KJ {x z:Rat}(x0:0<=x)(x1:x<=1)(z0:0<=z)(z1:z<=1):jF h x 1 z=jF (λt=>h (aB t (0,1,0))) x 0 z:=by
 by_cases c:z<=x
 ·rw[dM (o:=(1,0,2)) ⟨by decide,x1,c⟩,dM (o:=(0,2,1)) ⟨by decide,c,z0⟩];simp only[bI,cq,un,aB,M7,MX];grind
 ·rw[dM (o:=(1,2,0)) ⟨by decide,z1,by show x<=z;grind⟩,dM (o:=(2,0,1)) ⟨by decide,by show x<=z;grind,x0⟩];simp only[bI,cq,un,aB,M7,MX];grind
theorem KH {x y:Rat}(x0:0<=x)(x1:x<=1)(y0:0<=y)(y1:y<=1):jF h x y 1=jF (λt=>h (aB t (0,0,1))) x y 0:=by
 by_cases c:y<=x
 ·rw[dM (o:=(2,0,1)) ⟨by decide,x1,c⟩,dM (o:=(0,1,2)) ⟨by decide,c,y0⟩];simp only[bI,cq,un,aB,M7,MX];grind
 ·rw[dM (o:=(2,1,0)) ⟨by decide,y1,by show x<=y;grind⟩,dM (o:=(1,0,2)) ⟨by decide,by show x<=y;grind,x0⟩];simp only[bI,cq,un,aB,M7,MX];grind
theorem HB {n b:Nat}{x p:Rat}(h2:2<=n)(h7:n<=7)(hb:b+2<=n)(p0:0<=p)(p1:p<=1)(hx:x=(((b:Nat):Int)+p)*((t4 n:Int):Rat)):(eB n x=b/\lG n x=p)\/(p=1/\eB n x=b+1/\lG n x=0):=by
 have e:dU n x=((b:Nat):Int)+p:=by
  rw[EH h2 h7,hx];exact UO (Ff h2 h7)
 by_cases h:p=1
 ·subst h;have ef:Ft (((b:Nat):Int)+(1:Rat))=(b:Int)+1:=by
   rw[wB,show(((b:Nat):Int):Rat)+1=(((b:Int)+1:Int):Rat) by rw[Pq];rfl,Rat.floor_intCast]
  unfold lG eB;rw[e,ef]
  by_cases hc:b+3<=n
  ·refine .inr ⟨rfl,by lia,?_⟩;rw[show(((min ((b:Int)+1) ((n:Int)-2)).toNat:Nat):Int)=(b:Int)+1 by lia,Pq];have:((1:Int):Rat)=1:=rfl;grind
  ·refine .inl ⟨by lia,?_⟩;rw[show(((min ((b:Int)+1) ((n:Int)-2)).toNat:Nat):Int)=(b:Int) by lia];grind
 ·have ef:Ft (((b:Nat):Int)+p)=(b:Int):=by
   have l1:=IG (((b:Nat):Int)+p);have l2:=Ja (((b:Nat):Int)+p);generalize Ft (((b:Nat):Int)+p)=z at *;have h1:(((z:Int)):Rat)<(((b:Int)+1:Int):Rat):=by
    rw[Pq];have:((1:Int):Rat)=1:=rfl;grind
   have h2:(((b:Int)):Rat)<((z+1:Int):Rat):=by grind
   have h1:z<(b:Int)+1:=by exact_mod_cast h1
   have h2:(b:Int)<z+1:=by exact_mod_cast h2
   lia
  unfold lG eB;rw[e,ef];refine .inl ⟨by lia,?_⟩;rw[show(((min (b:Int) ((n:Int)-2)).toNat:Nat):Int)=(b:Int) by lia];grind
theorem Ev {n:Nat}{x y z:Rat} (h2:2 <= n) (h7:n <= 7) (ba:b.1 + 2 <= n) (bb:b.2.1 + 2 <= n) (bc:b.2.2 + 2 <= n) (x0:0 <= x) (x1:x <= 1) (y0:0 <= y) (y1:y <= 1) (z0:0 <= z) (z1:z <= 1)
  (ha:c.a=(((b.1:Nat):Int)+x)*((t4 n:Int):Rat))(hb:c.b=(((b.2.1:Nat):Int)+y)*((t4 n:Int):Rat))(hc:c.c=(((b.2.2:Nat):Int)+z)*((t4 n:Int):Rat)):
  om n f c g=jF (λt=>((g (f (aB b t)):Int):Rat)) x y z:=by
 have o0:(0:Rat)<=0:=by grind
 have o1:(0:Rat)<=1:=by grind
 show jF (vd n f c g) (lG n c.a) (lG n c.b) (lG n c.c)=_;obtain⟨b1,b2,b3⟩:=b;have ce:∀ {s1 s2 s3:Nat},eB n c.a=b1+s1->eB n c.b=b2+s2->eB n c.c=b3+s3->vd n f c g=λt=>((g (f (aB (b1,b2,b3) (aB t (s1,s2,s3)))):Int):Rat):=λ{s1 s2 s3} e1 e2 e3=>by
  funext t
  show((g (f (eB n c.a+t.1,eB n c.b+t.2.1,eB n c.c+t.2.2)):Int):Rat)=((g (f (b1+(t.1+s1),b2+(t.2.1+s2),b3+(t.2.2+s3))):Int):Rat)
  rw[e1,e2,e3,SW,SW,SW,Pw s1,Pw s2,Pw s3]
 rcases HB h2 h7 ba x0 x1 ha with ⟨a1,a2⟩|⟨rfl,a1,a2⟩<;>rcases HB h2 h7 bb y0 y1 hb with ⟨d1,d2⟩|⟨rfl,d1,d2⟩<;>rcases HB h2 h7 bc z0 z1 hc with ⟨e1,e2⟩|⟨rfl,e1,e2⟩<;>rw[a2,d2,e2]
 ·rw[ce (s1:=0) (s2:=0) (s3:=0) a1 d1 e1];rfl
 ·rw[ce (s1:=0) (s2:=0) (s3:=1) a1 d1 e1,KH x0 x1 y0 y1]
 ·rw[ce (s1:=0) (s2:=1) (s3:=0) a1 d1 e1,KJ x0 x1 z0 z1]
 ·rw[ce (s1:=0) (s2:=1) (s3:=1) a1 d1 e1,KJ x0 x1 z0 z1,KH x0 x1 o0 o1];rfl
 ·rw[ce (s1:=1) (s2:=0) (s3:=0) a1 d1 e1,KQ y0 y1 z0 z1]
 ·rw[ce (s1:=1) (s2:=0) (s3:=1) a1 d1 e1,KQ y0 y1 z0 z1,KH o0 o1 y0 y1];rfl
 ·rw[ce (s1:=1) (s2:=1) (s3:=0) a1 d1 e1,KQ y0 y1 z0 z1,KJ o0 o1 z0 z1];rfl
 ·rw[ce (s1:=1) (s2:=1) (s3:=1) a1 d1 e1,KQ y0 y1 z0 z1,KJ o0 o1 z0 z1,KH o0 o1 o0 o1];rfl
def HI (o:Nat×Nat×Nat)(k:Nat):Nat:=if o.1=k then 0 else if o.2.1=k then 1 else 2
end TR
namespace PySem
section
variable {prog:MS}{w:No}{A:ND}{E:Mj->Mp->Prop}{s:Mp}{d it:Mz}{es:Array N9}{i ep:Nat}
theorem Fd (hh:A.handled=none) (hit:s.heap.IsKeyIter it d i es.size ep) (hm:s.heap.RawD d es ep) (hx:es.size <= i)
  (hQ:∀ h',RO it s.heap h'->Q none { s with heap:=h' }):MB (MW prog w) A (Ql (.ref it)) Q E s:=by
 obtain⟨o,ho,hc,hd⟩:=id hit;obtain⟨od,hod,hcd,hdd⟩:=id hm;have hown:Ob "dict_keyiterator"=false:=by decide
 unfold Ql;refine KE (PF (Nb (name:=NY "__next__") hit.typeIs Oc
  (Nk Oc hit.typeIs Rq ?_ (Rg _))))
 refine KE (Mh (KE (KE ?_)))
 first|refine KE (ON hit.typeIs (Mh ?_))|refine KE (Ps hit.typeIs (Mh ?_))
 refine KE (Qm ho hd ?_);simp only[hown,NE,O4];show MB _ _ (if(MP d==NH)=true then _ else _) _ _ s;rw[MT (show ¬ ((MP d==NH)=true) from Nj)];refine KE (Mh (KE (NS hod hdd ?_)));rw[MT (by simp)];refine KE (Mh (KE (Qa hod hdd ?_)));rw[MT (by simp)];refine Mh ?_;simp only[show ¬ ((i:Int)<0) from by lia,O4,M6,Th hx];refine KE ?_
 first|refine KE (ON hit.typeIs (Mh ?_))|refine KE (Ps hit.typeIs (Mh ?_))
 show MB _ _ (UX (.ref it) 0 .none>>=_) _ _ s;refine KE (OC ho hd (by simp) ?_);show MB _ _ (VH (.type "StopIteration") []>>=_) _ _ _;refine KE ?_;simp only[VH,newTuple];refine KE (M1 ?_ (by size_fits));refine KE (m:=O_ _ _) (S' (a:=NH) (by first|rfl|(simp only[O_];rfl)) ?_);refine M1 ?_ (by size_fits);simp only[raiseNew];refine KE (S7 ?_);rw[show A.in1.handled=none from hh];refine KE (Mh (UD ?_));refine KE (PN (T:="StopIteration") (b:=true) ⟨_,Mn _ rfl,rfl⟩ Sx ?_);exact Mh (hQ _ (((Ng ..).extBut.push _).push _))
theorem FE (hit:s.heap.IsKeyIter it d i es.size ep) (hm:s.heap.RawD d es ep) (hx:es[i]?=some e)
  (hQ:∀ h',h'.IsKeyIter it d (i+1) es.size ep->Nv it s.heap h'->Q (some e.key) { s with heap:=h' }):MB (MW prog w) A (Ql (.ref it)) Q E s:=by
 obtain⟨o,ho,hc,hd⟩:=id hit;obtain⟨od,hod,hcd,hdd⟩:=id hm;have hown:Ob "dict_keyiterator"=false:=by decide
 unfold Ql;refine KE (PF (Nb (name:=NY "__next__") hit.typeIs Oc
  (Nk Oc hit.typeIs Rq ?_ (Rg _))))
 refine KE (Mh (KE (KE ?_)))
 first|refine KE (ON hit.typeIs (Mh ?_))|refine KE (Ps hit.typeIs (Mh ?_))
 refine KE (Qm ho hd ?_);simp only[hown,NE,O4];show MB _ _ (if(MP d==NH)=true then _ else _) _ _ s;rw[MT (show ¬ ((MP d==NH)=true) from Nj)];refine KE (Mh (KE (NS hod hdd ?_)));rw[MT (by simp)];refine KE (Mh (KE (Qa hod hdd ?_)));rw[MT (by simp)];refine Mh ?_;simp only[show ¬ ((i:Int)<0) from by lia,O4,M6,hx];refine KE ?_
 first|refine KE (ON hit.typeIs (Mh ?_))|refine KE (Ps hit.typeIs (Mh ?_))
 refine KE (wpAny_isOneOf_keyiter hit.typeIs ?_);show MB _ _ (UX (.ref it) 1 (OX ((i:Int)+1))>>=_) _ _ s;refine KE (OC ho hd (by simp) ?_);have hit':(s.heap.update it (UK (·.setIfInBounds 1 (OX ((i:Int)+1))))).IsKeyIter it d (i+1) es.size ep:=
  ⟨_,Nm _ ho (OE (NA hd _)),(Qf ..).trans hc,by rw[NA hd];simp[OX]⟩
 refine KE (NN ?_);refine KE (wpAny_isOneOf_keyiter (s:={ s with heap:=s.heap.update it (UK (·.setIfInBounds 1 (OX ((i:Int)+1)))) }) hit'.typeIs ?_);show MB _ _ (pure e.key) _ _ _;exact Mh (Mh ⟨_,rfl,Mh (hQ _ hit' (Ng ..))⟩)
end
section
variable {prog:MS}{w:No}{A:ND}{E:Mj->Mp->Prop}{s:Mp}{d:Mz}{es:Array N9}{ep:Nat}
theorem Ch (hd:(d == N2)=false) (hm:s.heap.RawD d es ep)
  (hQ:Q (.ref s.heap.objs.size) { s with heap:=s.heap.push { cls:=.type "dict_keyiterator",data:=.fields #[.ref d,.int 0 0,.int es.size 0,.int ep 0] } }):MB (MW prog w) A (Ul (.ref d)) Q E s:=by
 obtain⟨o,ho,hc,hdat⟩:=id hm;have hT:s.TypeIs (.ref d) "dict":=hm.typeIs;refine Rf hT Ta (Nk Ta hT F.entry_dict_iter ?_ (F.args_dict_iter_1 _));unfold Pg.«dict.__iter__»;refine KE ?_;unfold Builtin.Dict.dictSlotNone;refine KE (Rp hT ?_);show MB _ _ (pure (MP d)) _ _ s;refine Mh ?_;show MB _ _ (P4 d>>=_) _ _ s;unfold P4;rw[MT (by rw[hd];exact Nj)];refine KE (Mh (KE (NS ho hdat (KE (Qa ho hdat ?_)))));refine KE (M1 (Mh ⟨_,rfl,"dict_keyiterator",_,⟨_,Mn _ rfl,rfl⟩,Oc.lookup,?_⟩))
 simpa [OX] using hQ
end
end PySem
namespace TR
open PySem PySem.Spec PyProof.Rows L2
def Lr (d:Mz)(o:Obj)(kvs:List (List gk×V)):It:=
 ⟨λi H=>H d=some (.frz o (.dT kvs))/\i<kvs.length,
  λi H v H'=>∃ (k:List gk) (x:V) (ka:Mz),kvs[i]?=some (k,x)/\H ka=some (.tup (k.map kV))/\v=.ref ka/\H'=H,
  λi H=>H d=some (.frz o (.dT kvs))/\kvs.length<=i⟩
theorem BW {P:MS}{w:No}{K:HD}{tg:OH}{it d:Mz}{o:Obj}{kvs:List (List gk × V)}{es:Array N9}{ep:Nat} (hd:o.data=.dict es ep) :
  vS P w K tg (Lr d o kvs) [it] it (λi h=>h.IsKeyIter it d i es.size ep) where
 mem:=by simp
 obj:=λi h st b hb=>by
  cases Ml.mp hb;obtain⟨o,e,c,dd⟩:=st;exact⟨o,e,λv z=>by rw[dd] at z;cases z⟩
 keep:=λi h h' st k=>by
  obtain⟨o,e,c,dd⟩:=st;exact⟨o,k it (by simp) o e,c,dd⟩
 item:=by
  intro X hP hw hK hc i pins s σ H E I hf st hg;subst hP hw hK;obtain⟨hH,hi⟩:=hg;obtain⟨raw,hsz,at_⟩:=qW hd (I.hok d _ hH);obtain⟨e,ka,u,e1,e2,e3,e4,e5⟩:=at_ i _ _ (MC hi);obtain⟨f0,f1,f2,f3,f4,f5⟩:=hf it (by simp);refine FE st raw e1 λh' st' sb=>?_
  have I1:aG X pins σ H { s with heap:=h' }:=I.turned (t':=s.toks) (λb o hb e=>(sb.2 b hb).trans e) f0 f1 f3 f4 f5;obtain⟨oi,ei,c,dd⟩:=id st';refine⟨e.key,rfl,A5 (s:={ s with heap:=h' }) ei c dd (by decide) ⟨.ref ka,H,I1,by rw[e2];rfl,⟨kvs[i].1,kvs[i].2,ka,MC hi,e4,rfl,rfl⟩,st',λb hb=>(hf b hb).1⟩⟩
 done:=by
  intro X hP hw hK hc i pins s σ H E I hf st hg;subst hP hw hK;obtain⟨hH,hi⟩:=hg;obtain⟨raw,hsz,_⟩:=qW hd (I.hok d _ hH);have fit:=hf it (by simp);exact Fd (I.ok.hd hc) st raw (by lia) λh' ex=>⟨rfl,I.turned (it:=it) (t':=s.toks) (λb o hb e=>ex b o hb e) fit.1 fit.2.1 fit.2.2.2.1 fit.2.2.2.2.1 fit.2.2.2.2.2⟩
 self:=λ_ _ _ _ _ st h=>wpAny_pyIter_keyiter st h
section
variable {X:Cx}
def J' (to:TE):TI:=λσ H R=>to σ H λx H1=>∃ d kvs,x=.ref d/\H1 d=some (.dT kvs)/\∀ o,R (Lr d o kvs) (upd H1 d (.frz o (.dT kvs)))
theorem Fg {tg o:OH}{to:TE}(ho:WE X o to):WI X tg o (J' to):=by
 have ho:=ho.go;refine⟨?_⟩;intro pins s σ H R I h;refine bY (ho pins s σ H _ I h) λv s1 ⟨x,H1,I1,r1,q1⟩=>?_
 obtain⟨d,kvs,rfl,hH,q⟩:=q1;cases r1;obtain⟨z,hd,vs,rel,dd⟩:=oA I1.hok (.inl hH);obtain⟨es,ep,raw,hes⟩:=Heap.RawD.of dd;obtain⟨ob,g1,I2⟩:=tI I1 hH;obtain⟨o',g1',_,gd⟩:=id raw;rw[g1] at g1';cases g1';refine Ch hd raw ?_;refine⟨s1.heap.objs.size,[s1.heap.objs.size],_,_,_,rfl,I2.kept (t':=s1.toks) λb u e=>Mg _ e,BW gd,⟨_,Mn _ rfl,rfl,rfl⟩,λb hb=>?_,q ob⟩;cases Ml.mp hb;exact I2.fpOk (Mm _) (I2.hok.fresh (Mm _))
def Jt (t:TS):TS:=λD σ H=>∃ d kvs,H d=some (.dT kvs)/\t { nx:=λσ' H'=>∃ o,H' d=some (.frz o (.dT kvs))/\D.nx σ' (upd H' d (.dT kvs)),rt:=λv H'=>∃ o,H' d=some (.frz o (.dT kvs))/\D.rt v (upd H' d (.dT kvs)) } σ H
theorem Dk {st:Oe}{t:TS}(h:WS X st t):WS X st (Jt t):=by
 have h:=h.go;refine⟨?_⟩;intro pins s σ H D I q;obtain⟨d,kvs,e0,q⟩:=q;have nf:∀ o w,X.H₀ d≠some (.frz o w):=λo w z=>by
  have:=I.base.frzs d o w z;rw[e0] at this;cases this
 refine bY (h pins s σ H _ I q) λf s1 h1=>?_
 cases f with
 |next=>
  obtain⟨σ',H',I1,o,e1,q1⟩:=h1;exact⟨σ',_,tO I1 e1 nf,q1⟩
 |brk=>exact(let ⟨_,_,_,z⟩:=h1;z.elim)
 |cont=>exact(let ⟨_,_,_,z⟩:=h1;z.elim)
 |ret u=>
  obtain⟨v,σ',H',I1,r1,o,e1,q1⟩:=h1;exact⟨v,σ',_,tO I1 e1 nf,r1,q1⟩
end
theorem Eu (Pv:Nat->L2.St->Hp->Prop) (h0:Pv 0 σ H) (hl:∀ i σ H,i <= kvs.length->Pv i σ H->H d=some (.frz o (.dT kvs)))
  (hs:∀ i k x ka σ H,kvs[i]?=some (k,x)->H ka=some (.tup (k.map kV))->Pv i σ H->g (.ref ka) σ H λσ2 H2=>tb { D with nx:=Pv (i+1),ct:=Pv (i+1),bk:=D.nx } σ2 H2)(hd:∀ σ H,Pv kvs.length σ H->D.nx σ H):Ho (Lr d o kvs) g tb D σ H:=by
 refine⟨λi m σ H=>m=kvs.length-i/\i<=kvs.length/\Pv i σ H,⟨kvs.length,by lia,Nq _,h0⟩,?_⟩;rintro i m σ H ⟨rfl,hi,p⟩
 by_cases hlt:i<kvs.length
 ·refine .inr ⟨⟨hl i σ H hi p,hlt⟩,Pv (i+1),λσ' H' p'=>⟨kvs.length-(i+1),by lia,rfl,hlt,p'⟩,?_⟩;rintro x H' ⟨k,y,ka,e1,e2,rfl,rfl⟩;exact hs i k y ka σ _ e1 e2 p
 ·have e:i=kvs.length:=by lia
  subst e;exact .inl ⟨⟨hl _ σ H hi p,Mm _⟩,hd σ H p⟩
def I_ (x y:Int):Int:=if x-y<0 then -(x-y) else x-y
def uk (r s:R3):List Int:=[I_ r.a s.a,I_ r.b s.b,I_ r.c s.c]
def AG (n:Nat)(t:Kn)(k:Nat):Kn:=if aB t (un k)∈bf n then aB t (un k) else t
def mX (n:Nat)(f:Kn->R3)(t:Kn):List Int:=uk (f t) (f (AG n t 0))++uk (f t) (f (AG n t 1))++uk (f t) (f (AG n t 2))
structure jm (l:List Int)(m:Int):Prop where
 nn:0<=m
 le:∀ x∈l,x<=m
 at_:m=0\/m∈l
theorem jm.nil:jm [] 0:=⟨by decide,λ_ h=>(MM h).elim,.inl rfl⟩
theorem jm.app {m m':Int}(h:jm l m)(le:∀ x∈m::k,x<=m')(mem:m'∈m::k):jm (l++k) m':=by
 have mm:=le m (by simp);refine⟨Sa h.nn mm,λx hx=>?_,?_⟩
 ·rcases M_.mp hx with hx|hx
  ·exact Sa (h.le x hx) mm
  ·exact le x (by simp[hx])
 ·rcases Mx.mp mem with rfl|hk
  ·rcases h.at_ with z|z
   ·exact .inl z
   ·exact .inr (Om _ z)
  ·exact .inr (MD _ hk)
theorem jm.perm {m:Int}(h:jm l m)(e:∀ x,x∈l↔x∈k):jm k m:=⟨h.nn,λx hx=>h.le x ((e x).mpr hx),h.at_.imp id (e m).mp⟩
theorem jm.uniq {m m':Int}(h:jm l m)(g:jm l m'):m=m':=by
 have h1:m<=m':=by
  rcases h.at_ with z|z
  ·rw[z];exact g.nn
  ·exact g.le m z
 have h2:m'<=m:=by
  rcases g.at_ with z|z
  ·rw[z];exact h.nn
  ·exact h.le m' z
 lia
theorem JE {n:Nat}{k:Nat}(n2:2<=n)(n7:n<=7)(wt:Aw n f)(wi:c.Wi ((60:Int):Rat))(bd:c.Bd k):(W4 n f c).Bd (6*k+120):=by
 have dva:Dv n c.a:=⟨n2,n7,wi.a0,wi.a1⟩
 have dvb:Dv n c.b:=⟨n2,n7,wi.b0,wi.b1⟩
 have dvc:Dv n c.c:=⟨n2,n7,wi.c0,wi.c1⟩
 have ba:=Aj dva bd.a;have bb:=Aj dvb bd.b;have bc:=Aj dvc bd.c;have lta:=iK dva;have ltb:=iK dvb;have ltc:=iK dvc;have pk:∀ j,Bq (k+10) (qc n c j):=λj=>by
  match j with
  |0=>exact ba
  |1=>exact bb
  |_+2=>exact bc
 have one:Bq 1 (1:Rat):=by
  rw[show(1:Rat)=((1:Int):Rat) from rfl];exact tJ (by unfold Sm;decide) (by decide)
 have fo:=m9 (lG n c.a) (lG n c.b) (lG n c.c);have h:∀ {g:R3->Int},(∀ r:R3,r.Wt->Sm 10 (g r))->Bq (6*k+120) (om n f c g):=λ{g} gs=>by
  have hh:∀ i,i<=3->Bq 10 (vd n f c g (Jk (ot (lG n c.a) (lG n c.b) (lG n c.c)) i)):=λi hi=>by
   refine tJ (gs _ (wt _ (eX.mpr ?_))) (by decide);have:=IK fo.1 hi;show eB n c.a+_<n/\eB n c.b+_<n/\eB n c.c+_<n;refine⟨?_,?_,?_⟩<;>lia
  have h0:=hh 0 (by decide);have h1:=hh 1 (by decide);have h2:=hh 2 (by decide);have h3:=hh 3 (by decide);simp only[Jk,CC,LW] at h0 h1 h2 h3;unfold om bI;refine Ok.mono (Bq.add (Bq.add (Bq.add (Bq.mul h0 (Bq.sub one (pk _))) (Bq.mul h1 (Bq.sub (pk _) (pk _)))) (Bq.mul h2 (Bq.sub (pk _) (pk _)))) (Bq.mul h3 (pk _))) (by lia)
 exact⟨h λr hr=>(nG hr).1,h λr hr=>(nG hr).2.1,h λr hr=>(nG hr).2.2⟩
def Hq (t:Kn):Nat->Nat
 |0=>t.1
 |1=>t.2.1
 |_=>t.2.2
def kY (o:Nat×Nat×Nat)(t:Kn):Kn:=(Hq t o.1,Hq t o.2.1,Hq t o.2.2)
def K4 (o:Nat×Nat×Nat):Nat×Nat×Nat:=(HI o 0,HI o 1,HI o 2)
def fT (o:Nat×Nat×Nat)(f:Kn->R3)(t:Kn):R3:=f (kY (K4 o) t)
theorem He {K:HD}{H:Hp}{c:Q3}{xs:List V}(h:az K H c.ds xs){k:Nat}(hk:k<3):∃ v,xs[k]?=some v/\ax K H (rD (cq c.a c.b c.c k)) v:=by
 obtain⟨x,y,z,rfl,h0,h1,h2⟩:=jJ h
 match k,hk with
 |0,_=>exact⟨x,rfl,h0⟩
 |1,_=>exact⟨y,rfl,h1⟩
 |2,_=>exact⟨z,rfl,h2⟩
theorem KO {M:V->Hp->Prop}{I:V->Hp->Prop}{G:Prop}(eO:∀ v H,I v H->M v H)(main:(∀ v H,I v H->M v H)->G):G:=main eO
structure Rw where
 w:Int
 x:Int
 y:Int
 z:Int
def Rw.ns (r:Rw):List Int:=[r.w,r.x,r.y,r.z]
def Rw.d (r:Rw):M4:=.tuple (r.ns.map NR)
structure Rw.In (r:Rw)(m:Int):Prop where
 w0:-m<=r.w
 w1:r.w<=m
 x0:-m<=r.x
 x1:r.x<=m
 y0:-m<=r.y
 y1:r.y<=m
 z0:-m<=r.z
 z1:r.z<=m
def KN (i:Int):Int:=min (max i 0) 1000
def Rw.at (r:Rw)(t:Kn):Int:=KN (r.w+(r.x*(t.1:Int)+(r.y*(t.2.1:Int)+r.z*(t.2.2:Int))))
def Iy (r1 r2 r3:Rw)(t:Kn):R3:=⟨r1.at t,r2.at t,r3.at t⟩
def R3.sub (r s:R3):R3:=⟨r.a-s.a,r.b-s.b,r.c-s.c⟩
theorem nB {l m a b c:Int}(ha:l<=a/\a<=m)(hb:l<=b/\b<=m)(hc:l<=c/\c<=m):LS 3 l m (.tuple [.int a,.int b,.int c])=true:=by
 show((decide (l<=a)&&decide (a<=m))&&((decide (l<=b)&&decide (b<=m))&&((decide (l<=c)&&decide (c<=m))&&true)))=true;rw[Ms ha.1,Ms ha.2,Ms hb.1,Ms hb.2,Ms hc.1,Ms hc.2];rfl
open PySem.W PySem.Calls
def Kr (t u:Kn):Prop:=¬ (t.1<u.1\/(t.1=u.1/\(t.2.1<u.2.1\/(t.2.1=u.2.1/\t.2.2<u.2.2))))
theorem vL {a b:Rat}(h:a<=b):0<=b-a:=by grind
theorem GH {q:Q3}{j k:Nat}(h:q.Bd j)(hk:k<3):Bq j (cq q.a q.b q.c k):=by
 match k,hk with
 |0,_=>exact h.a
 |1,_=>exact h.b
 |2,_=>exact h.c
instance {t u:Kn}:Decidable (Kr t u):=by unfold Kr;infer_instance
def Rw.co (r:Rw):Nat->Int
 |0=>r.x
 |1=>r.y
 |_=>r.z
def fQ (H H':Hp):Prop:=∀ b o,H b=some o->(∀ C dx fs,o≠.ins C dx fs)->H' b=some o
theorem fQ.put (ha:H a=some (.ins C dx fs)):fQ H (upd H a o):=λb u e n=>by
 rw[aq (λz=>by rw[z,ha] at e;cases e;exact n _ _ _ rfl)];exact e
theorem Rd.sameI (e:fQ H H')(h:Rd H a (.lst xs)):Rd H' a (.lst xs):=by
 rcases h with h|⟨o,h⟩
 ·exact .inl (e _ _ h λ_ _ _ z=>nomatch z)
 ·exact .inr ⟨o,e _ _ h λ_ _ _ z=>nomatch z⟩
mutual
theorem ax.sameI {K:HD}{H H':Hp}(e:fQ H H'):∀ {d:M4}{v:V},ax K H d v->ax K H' d v
 |_,_,.non=>.non
 |_,_,.bl b=>.bl b
 |_,_,.int i=>.int i
 |_,_,.str x=>.str x
 |_,_,.lst h q=>.lst (Rd.sameI e h) (az.sameI e q)
 |_,_,.tup h q=>.tup (e _ _ h λ_ _ _ z=>nomatch z) (az.sameI e q)
 |_,_,.dct h=>.dct (e _ _ h λ_ _ _ z=>nomatch z)
theorem az.sameI {K:HD}{H H':Hp}(e:fQ H H'):∀ {ds:List M4}{vs:List V},az K H ds vs->az K H' ds vs
 |_,_,.nil=>.nil
 |_,_,.cons h q=>.cons (ax.sameI e h) (az.sameI e q)
end
def eR (K:HD)(H:Hp)(e:En)(v:V):Prop:=∃ (a C dx:Mz) (x y:V),v=.ref a/\cO K "Ends" C/\H a=some (.ins C dx [("white",x),("black",y)])/\ax K H (dk false e.w) x/\ax K H (dk false e.b) y
theorem eR.same {K:HD}{H H':Hp}{e:En}{v:V}(h:eR K H e v)(s:af H H'):eR K H' e v:=by
 obtain⟨a,C,dx,x,y,h1,h2,h3,h4,h5⟩:=h;exact⟨a,C,dx,x,y,h1,h2,s _ _ h3,ax.same s h4,ax.same s h5⟩
theorem eR.mv {K:HD}{T:List Mz}{H H':Hp}{e:En}{v:V}(h:eR K H e v)(m:Mv T H H')(l:bR H T):eR K H' e v:=by
 obtain⟨a,C,dx,x,y,h1,h2,h3,h4,h5⟩:=h;exact⟨a,C,dx,x,y,h1,h2,m _ _ h3 (l.not h3 λ_ z=>nomatch z),ax.mv m l rfl h4,ax.mv m l rfl h5⟩
theorem eR.put {K:HD}{H:Hp}{a C dx:Mz}{fs:List (Str×V)}{o:HO}{e:En}{v:V}(h:eR K H e v)(ha:H a=some (.ins C dx fs))(hf:fs.map (·.1)≠[("white":Str),"black"]):eR K (upd H a o) e v:=by
 obtain⟨b,D,dy,x,y,h1,h2,h3,h4,h5⟩:=h;refine⟨b,D,dy,x,y,h1,h2,?_,ax.sameI (fQ.put ha) h4,ax.sameI (fQ.put ha) h5⟩;rw[aq (λz=>by rw[z,ha] at h3;cases h3;exact hf rfl)];exact h3
theorem j9.put {K:HD}{H:Hp}{a C dx:Mz}{fs:List (Str×V)}{o:HO}{n:Nat}{f:Kn->R3}{v:V}(h:j9 K H n f v)(ha:H a=some (.ins C dx fs))(hf:fs.map (·.1)≠[("knots":Str),"table"]):j9 K (upd H a o) n f v:=by
 obtain⟨b,D,dy,d,h1,h2,h3,ts,p,vs,h4,h5⟩:=h;refine⟨b,D,dy,d,h1,h2,?_,ts,p,vs,fQ.put ha _ _ h4 (λ_ _ _ z=>nomatch z),az.sameI (fQ.put ha) h5⟩;rw[aq (λz=>by rw[z,ha] at h3;cases h3;exact hf rfl)];exact h3
structure C3 where
 p:List Pt
 q:List Pt
 r:List Pt
def C3.at (P:C3):Nat->List Pt
 |0=>P.p
 |1=>P.q
 |_=>P.r
def C3.In (P:C3)(cap:Int):Prop:=∀ i,i<3->t9 (P.at i)/\∃ y z,(P.at i)[0]?=some y/\(P.at i).getLast?=some z/\z.1=60/\z.2<=cap
theorem C3.In.mono {P:C3}{j k:Int}(h:P.In j)(l:j<=k):P.In k:=λi hi=>let ⟨a,y,z,b,c,d,e⟩:=h i hi;⟨a,y,z,b,c,d,Sa e l⟩
def im (K:HD)(H:Hp)(P:C3)(vs:List V):Prop:=vs.length=3/\∀ (i:Nat) (v:V),vs[i]?=some v->kr K H (P.at i) v
theorem im.same {K:HD}{H H':Hp}{P:C3}{vs:List V}(h:im K H P vs)(s:af H H'):im K H' P vs:=⟨h.1,λi v e=>(h.2 i v e).same s⟩
theorem im.put {K:HD}{H:Hp}{a C dx:Mz}{fs:List (Str×V)}{o:HO}{P:C3}{vs:List V}(h:im K H P vs)(ha:H a=some (.ins C dx fs))(hf:fs.map (·.1)≠[("points":Str)]):im K (upd H a o) P vs:=⟨h.1,λi v e=>kr.put ha (λl z=>hf (by rw[z];rfl)) (h.2 i v e)⟩
def uc (K:HD)(H:Hp)(P:C3)(s:S9)(e:En)(v:V):Prop:=∃ (a C dx cl:Mz) (vs:List V) (q en:V),v=.ref a/\cO K "SquareProfile" C/\H a=some (.ins C dx [("curves",.ref cl),("square",q),("bounds",en)])/\H cl=some (.lst vs)/\im K H P vs/\ax K H s.d q/\eR K H e en
def ui (K:HD)(H:Hp)(P:C3)(f:Kn->R3)(e:En)(v:V):Prop:=∃ (a C dx cl:Mz) (vs:List V) (g en:V),v=.ref a/\cO K "GridProfile" C/\H a=some (.ins C dx [("curves",.ref cl),("grid",g),("bounds",en)])/\H cl=some (.lst vs)/\im K H P vs/\j9 K H 2 f g/\eR K H e en
theorem uc.same {K:HD}{H H':Hp}{P:C3}{q:S9}{e:En}{v:V}(h:uc K H P q e v)(s:af H H'):uc K H' P q e v:=by
 obtain⟨a,C,dx,cl,vs,q,en,h1,h2,h3,h4,h5,h6,h7⟩:=h;exact⟨a,C,dx,cl,vs,q,en,h1,h2,s _ _ h3,s _ _ h4,h5.same s,ax.same s h6,h7.same s⟩
theorem ui.same {K:HD}{H H':Hp}{P:C3}{f:Kn->R3}{e:En}{v:V}(h:ui K H P f e v)(s:af H H'):ui K H' P f e v:=by
 obtain⟨a,C,dx,cl,vs,q,en,h1,h2,h3,h4,h5,h6,h7⟩:=h;exact⟨a,C,dx,cl,vs,q,en,h1,h2,s _ _ h3,s _ _ h4,h5.same s,h6.same s,h7.same s⟩
theorem Mv.self:Mv T H (TR.cut T H):=λb o e n=>by rw[eJ n];exact e
theorem bR.new (l:bR H T)(h:H b=none):b∉T:=λm=>by
 obtain⟨xs,e⟩:=l b m;rw[h] at e;cases e
theorem bR.same (l:bR H T)(s:af H H'):bR H' T:=λb m=>let ⟨xs,e⟩:=l b m;⟨xs,s _ _ e⟩
def pF (P:C3)(c r:Q3):Prop:=zj P.p c.a r.a/\zj P.q c.b r.b/\zj P.r c.c r.c
section
variable {K:HD}{g:TG}{tt:TT}{te:TE}{σ0:L2.St}{Fin:List V->Hp->Prop}{H1:Hp}
theorem u4 (Pv:Nat->List V->Hp->Prop) (h0:Pv 0 [] H1) (hle:xs.length=ys.length) (hl:xs.length <= 1000) (hsrc:∀ i zs H,Pv i zs H->ck K H a1 xs b1/\ck K H a2 ys b2/\zs.length <= i)
  (he:∀ (i:Nat) (x y:V) (zs:List V) (T:Mz) (H:Hp),xs[i]?=some x->ys[i]?=some y->Pv i zs H->H T=none->kH g tt te σ0 (.ref T) (upd H T (.tup [x,y])) λz H'=>Pv (i+1) (zs++[z]) H')
  (hd:∀ zs H,Pv xs.length zs H->Fin zs H):gR (Ji K b1 b2 a1 a2) g tt te σ0 Fin H1:=by
 refine⟨λi m zs H=>m=xs.length-i/\i<=xs.length/\Pv i zs H,⟨xs.length,by lia,Nq _,h0⟩,?_⟩;rintro i m zs H ⟨rfl,hi,pv⟩;obtain⟨q1,q2,hzl⟩:=hsrc i zs H pv
 by_cases hlt:i<xs.length
 ·have hlt2:i<ys.length:=by lia
  refine .inr ⟨⟨xs,ys,xs[i],ys[i],q1,q2,by simp[hlt],by simp[hlt2]⟩,bD (by lia),λv H3 y3=>?_⟩;obtain⟨x,y,T,k1,k2,kT,rfl,rfl⟩:=y3;exact he i x y zs T H (k1 xs q1) (k2 ys q2) pv kT _ (λz H' p=>⟨xs.length-(i+1),by lia,rfl,hlt,p⟩) λH5=>∃ m',m'<xs.length-i/\(m'=xs.length-(i+1)/\i+1<=xs.length/\Pv (i+1) zs H5)
 ·have e:i=xs.length:=by lia
  subst e;exact .inl ⟨⟨xs,ys,q1,q2,.inl (Mm _)⟩,di (by lia),hd zs H pv⟩
end
theorem Ds (h:l.length=3):∃ a b c,l=[a,b,c]:=by
 match l,h with
 |[a,b,c],_=>exact⟨a,b,c,rfl⟩
theorem zS {n:Nat}:∀ {vs:List V},vs.length=n->(∀ v∈vs,v=.bl true)->vs=(MF n true).map V.bl:=λ{vs} h1 h2=>by
 rw[Sc];exact Tv.mpr ⟨h1,h2⟩
theorem gY {j:Nat}(h:(l++[x])[j]?=some v):(j<l.length/\l[j]?=some v)\/(j=l.length/\v=x):=by
 by_cases hj:j<l.length
 ·rw[OA hj] at h;exact .inl ⟨hj,h⟩
 ·rw[NT (by lia)] at h;have h0:j-l.length<1:=by
   have:=(Mu.mp h).1
   simpa using this
  have e:j=l.length:=by lia
  subst e;rw[Nat.sub_self] at h;exact .inr ⟨rfl,(Mi h).symm⟩
theorem A6 {c:Q3}{m:Rat}(h:c.Wi m){k:Nat}(hk:k<3):0<=cq c.a c.b c.c k/\cq c.a c.b c.c k<=m:=by
 match k,hk with
 |0,_=>exact⟨h.a0,h.a1⟩
 |1,_=>exact⟨h.b0,h.b1⟩
 |2,_=>exact⟨h.c0,h.c1⟩
def HH (K:HD)(x:Str)(sp:Sp)(gV:List V->List V->List V)(E:XK)(t tk:TA):TE:=λσ H Q=>t σ H λvs H0=>tk σ H0 λzs H1=>∀ C a dx,cO K x C->H1 a=none->H1 dx=none->dx≠a ->
 sp (gV (.ref a::vs) zs) (upd (upd H1 dx (.own a)) a (.ins C dx [])) (λv H2=>v=.non/\Q (.ref a) H2) E
section
variable {X:Cx}{CX:lQ}{K:HD}{k n j:Nat}{x:Str}{ps ks:List Str}{sp:Sp}{dvs:List V}{p pos:Pos}{t tk:TA}{e:OH}{es:List OH}{kws:List Rr}
theorem Bw (M:Mk X.K C f) (F:jp X.prog X.w X.K X.mg X.base CX k f fd ps sp) (hr:Room (k + 1) X.A)
  (hb:mZ X.K fd ps ks g gV)(hx:∀ J:Hp,∀ s1:Mp,aG X pins σ J s1->∀ e s',CX X.stack J s1 E e s'->X.xe e s')(I:aG X pins σ H s)(ru:aM vs us)(rz:aM zs ws)
  (h:∀ a dx,H a=none->H dx=none->dx≠a->sp (gV (.ref a::vs) zs) (upd (upd H dx (.own a)) a (.ins C dx [])) (λv H2=>v=.non/\Q (.ref a) H2) E):
  MB (MW X.prog X.w) X.A (call (.ref C) us (ks.zip ws)) (EP X pins σ Q) X.xe s:=by
 have hq:=h (s.heap.objs.size+1) s.heap.objs.size (I.hok.fresh (RT _)) (I.hok.fresh (Mm _)) (MR (N6 _));have J:=aG.made (C:=C) I;have rr:=hb.rel (show aM (V.ref (s.heap.objs.size+1)::vs) (MP (s.heap.objs.size+1)::us) from .cons rfl ru) rz;have hn:(g (MP (s.heap.objs.size+1)::us) ws).length=ps.length:=rr.length.symm.trans (F.len _ _ _ _ hq);refine RI (rh (f:=f) I.kIn M.makes M.init (OL.mp M.fn) (Py (F.run _ X.stack _ _ ⟨MP (s.heap.objs.size+1)::us,ks.zip ws⟩ (g (MP (s.heap.objs.size+1)::us) ws) _ _ E (hr.make C us (ks.zip ws))
  (J.env0.make C us (ks.zip ws)) (hb.to _ (MP (s.heap.objs.size+1)::us) ws J.kIn hn) rr hq) λz s' hz=>?_))
 match z,hz with
 |.error v,hz=>exact hx _ _ J v s' hz
 |.ok (.ret u),hz=>
  obtain⟨v,H',J3,rv,ev,q3⟩:=J.after hz;subst ev;exact⟨rv,⟨V.ref (s.heap.objs.size+1),H',J3,rfl,q3⟩⟩
theorem vc (hK:X.K=K) (hX:Fo CX) (C:pS X.prog X.w X.K X.mg X.base CX k x "__init__" ps ks n j dvs sp) (hr:Room (k + 1) X.A) (hg:Gl X x) (ha:WA X (e :: es) t) (hkw:WK X kws tk)
  (hall:(PY pos (Ol kws X.env)).all (·.1.isSome)=true:=by rfl)(hks:(PY pos (Ol kws X.env)).filterMap (·.1)=ks:=by rfl)(hdb:(x==("__debug__":Str))=false:=by decide)
  (hst:MU (e::es) X.env=(false,Qh e X.env)::MU es X.env:=by rfl)
  (hpl:((QC pos (MU (e::es) X.env)).any (·.1)||(PY pos (Ol kws X.env)).any (·.1.isNone))=false:=by rfl):
  WE X (.Call (.Name x p) (e::es) kws pos) (HH K x sp (kJ n j dvs) E0 t tk):=by
 have ha:=ha.go;have hkw:=hkw.go;refine⟨?_⟩;subst hK;obtain⟨D,f,fd,ds,fs0,F,cf,hm,hmg,hb⟩:=C.ex;intro pins s σ H Q I h;refine NZ (i8 I hg hmg ?_ hdb);refine Uz (first:=[]) (h₀:=X.base) I.ok.mod.kin cf.kp hall (bY (ha pos pins s σ H _ I h) λus s1 ⟨vs,H1,I1,ru,q1⟩=>?_) hpl hst;refine bY (hkw pos pins s1 σ H1 _ I1 q1) λws s2 ⟨zs,H2,I2,rz,q2⟩=>⟨I2.kIn,?_⟩
 rw[hks];exact Bw ⟨cf.makes,hm.at_,hm.fn,cf.kp⟩ F hr hb (λJ s1 I1 e s' z=>(pY hX) _ _ _ _ _ _ I1 z) I2 ru rz λa dx h1 h2 h3=>q2 D a dx cf.at_ h1 h2 h3
end
theorem D_ {cap:Int}(h:P.In cap)(o:pF P c r)(bd:c.Bd 17):r.Bd 400:=
 ⟨Ok.mono (pB (h 0 (by decide)).1 bd.a o.1) (by decide),Ok.mono (pB (h 1 (by decide)).1 bd.b o.2.1) (by decide),Ok.mono (pB (h 2 (by decide)).1 bd.c o.2.2) (by decide)⟩
theorem E4 {a v:Rat}(h:t9 ps)(hy:ps[0]?=some y)(hz:ps.getLast?=some z)(z2:z.2<=60)(a0:0<=a)(o:zj ps a v):0<=v/\v<=((60:Int):Rat):=by
 obtain⟨l,u⟩:=CT h hy hz a0 o;have y0:(0:Rat)<=(y.2:Rat):=QT.mpr (h.inn y (ME hy)).b1;exact⟨M0 y0 l,M0 u (NL.mpr z2)⟩
theorem AU (h:P.In 60)(o:pF P c r)(wi:c.Wi ((60:Int):Rat)):r.Wi ((60:Int):Rat):=by
 obtain⟨p0,y0,z0,a0,b0,_,d0⟩:=h 0 (by decide);obtain⟨p1,y1,z1,a1,b1,_,d1⟩:=h 1 (by decide);obtain⟨p2,y2,z2,a2,b2,_,d2⟩:=h 2 (by decide);have x:=E4 p0 a0 b0 d0 wi.a0 o.1;have y:=E4 p1 a1 b1 d1 wi.b0 o.2.1;have z:=E4 p2 a2 b2 d2 wi.c0 o.2.2;exact⟨x.1,x.2,y.1,y.2,z.1,z.2⟩
def S9.cp (s:S9):S9:=⟨true,true,true,true,s.x,s.y,s.z⟩
theorem S9.In.cp {s:S9}(h:s.In):s.cp.In:=⟨h.x,h.y,h.z⟩
def S9.row (s:S9):Nat->R3
 |0=>s.x
 |1=>s.y
 |_=>s.z
theorem IF {K:HD}{H:Hp}{s:S9}{xs:List V}(h:az K H s.rows xs){i:Nat}{x:V}(e:xs[i]?=some x):i<3/\∃ k,ax K H (dk k (s.row i)) x:=by
 obtain⟨x0,x1,x2,rfl,h0,h1,h2⟩:=jJ h;rcases pJ e with ⟨rfl,rfl⟩|⟨rfl,rfl⟩|⟨rfl,rfl⟩
 ·exact⟨by decide,_,h0⟩
 ·exact⟨by decide,_,h1⟩
 ·exact⟨by decide,_,h2⟩
def Aa:S9 ⊕ (Kn->R3)->Q3->Q3
 |.inl s,r=>s.m.led r
 |.inr f,r=>W4 2 f r
theorem kZ (m:Mv T H H')(h:H' l=none)(n:l∉T):H l=none:=by
 cases z:H l with
 |none=>rfl
 |some o=>rw[m _ _ z n] at h;cases h
theorem EV {cap:Int}(h:P.In cap)(o:pF P c r)(bd:c.Bd 17):r.Bd 60:=
 ⟨Ok.mono (pB (h 0 (by decide)).1 bd.a o.1) (by decide),Ok.mono (pB (h 1 (by decide)).1 bd.b o.2.1) (by decide),Ok.mono (pB (h 2 (by decide)).1 bd.c o.2.2) (by decide)⟩
theorem y_:af (cut [t,r,c] H) (cut [t,r] H):=λb o e=>by
 unfold cut at e ⊢
 split at e
 ·cases e
 ·rename_i n
  rw[MT (λz=>n (by simp only[Mx,MM,Od] at z ⊢;rcases z with z|z;exact .inl z;exact .inr (.inl z)))];exact e
def E8 (K:HD)(H:Hp)(P:C3)(sv dv:V):S9 ⊕ (Kn->R3)->Prop
 |.inl s=>ax K H s.d sv/\s.In
 |.inr f=>sv=.non/\(∃ d,dv=.ref d/\Gr K H 2 f d)/\Aw 2 f/\P.In 60
def AtD (K:HD)(x:Str)(st:Oe):Prop:=∃ f oc od osl kV doc pm an cdv ct,MA K Mo x=some (some (.ref f))/\K.lookup f=some ⟨oc,od,.func (MK x x (aQ st) (aJ st) (ah st) .none kV doc pm an cdv ct),osl⟩/\M' K cdv x=true/\MZ K (.ref f)=true
def AtM (K:HD)(x m qual:Str)(st:Oe):Prop:=∃ C f oc od osl kV doc pm an cdv ct,MA K Mo x=some (some (.ref C))/\MV K (.ref C) m=some (some (.ref f))/\K.lookup f=some ⟨oc,od,.func (MK m qual (aQ st) (aJ st) (ah st) .none kV doc pm an cdv ct),osl⟩/\M' K cdv qual=true/\MZ K (.ref f)=true/\OF K (.ref f)=true
theorem AtD.of {K:HD}{x:Str}{st:Oe}{f:Mz}{oc kV doc pm cdv ct:Mj}{od an:Option Mz}{osl:Array (Option Mj)}(h1:MA K Mo x=some (some (.ref f)))(h2:K.lookup f=some ⟨oc,od,.func (MK x x (aQ st) (aJ st) (ah st) .none kV doc pm an cdv ct),osl⟩)(h3:M' K cdv x=true)(h4:MZ K (.ref f)=true):AtD K x st:=⟨_,_,_,_,_,_,_,_,_,_,h1,h2,h3,h4⟩
theorem AtM.of {K:HD}{x m qual:Str}{st:Oe}{C f:Mz}{oc kV doc pm cdv ct:Mj}{od an:Option Mz}{osl:Array (Option Mj)}(h1:MA K Mo x=some (some (.ref C)))(h2:MV K (.ref C) m=some (some (.ref f)))(h3:K.lookup f=some ⟨oc,od,.func (MK m qual (aQ st) (aJ st) (ah st) .none kV doc pm an cdv ct),osl⟩)(h4:M' K cdv qual=true)(h5:MZ K (.ref f)=true)(h6:OF K (.ref f)=true):AtM K x m qual st:=⟨_,_,_,_,_,_,_,_,_,_,_,h1,h2,h3,h4,h5,h6⟩
theorem gOf {K:HD}{x:Str}{i:Int}{t:Tok}(h:MA K Mo x=some (some (.int i t))):∃ t,MA K Mo x=some (some (.int i t)):=⟨t,h⟩
section
variable {K:HD}{mg:Str->Option Mj}{x m qual:Str}{st:Oe}{ps fs:List Str}{h:Os}
theorem AtD.dfn (a:AtD K x st)(X:K.In h)(G:h.Ns Mo mg)(hb:∀ kV doc pm an cdv ct us,us.length=ps.length->NF (MK x x (aQ st) (aJ st) (ah st) .none kV doc pm an cdv ct) ⟨us,[]⟩=pure (ps.zip us)):du K mg x st ps []:=by
 obtain⟨_,_,_,_,_,_,_,_,_,_,h1,h2,h3,h4⟩:=a;exact Ee h2 h3 h4 (Nu X G h1) (hb _ _ _ _ _ _)
theorem AtM.dfn (a:AtM K x m qual st)(X:K.In h)(G:h.Ns Mo mg)(hc:f8 K x fs=true)(hb:∀ kV doc pm an cdv ct us,us.length=ps.length->NF (MK m qual (aQ st) (aJ st) (ah st) .none kV doc pm an cdv ct) ⟨us,[]⟩=pure (ps.zip us)):iM K mg x m qual st ps []:=by
 obtain⟨_,_,_,_,_,_,_,_,_,_,_,h1,h2,h3,h4,h5,h6⟩:=a;exact Gm h3 h4 h5 h6 h1 h2 hc (Nu X G h1) (hb _ _ _ _ _ _)
theorem LN {P:List Mj->Prop}{us:List Mj}(h:us.length=1)(k:∀ a,P [a]):P us:=by
 match us,h with
 |[a],_=>exact k a
theorem LM {P:List Mj->Prop}{us:List Mj}(h:us.length=2)(k:∀ a b,P [a,b]):P us:=by
 match us,h with
 |[a,b],_=>exact k a b
theorem LJ {P:List Mj->Prop}{us:List Mj}(h:us.length=3)(k:∀ a b c,P [a,b,c]):P us:=by
 match us,h with
 |[a,b,c],_=>exact k a b c
theorem LO {P:List Mj->Prop}{us:List Mj}(h:us.length=4)(k:∀ a b c d,P [a,b,c,d]):P us:=by
 match us,h with
 |[a,b,c,d],_=>exact k a b c d
theorem LK {P:List Mj->Prop}{us:List Mj}(h:us.length=5)(k:∀ a b c d e,P [a,b,c,d,e]):P us:=by
 match us,h with
 |[a,b,c,d,e],_=>exact k a b c d e
theorem AtD.d1 {p:Str}(a:AtD K x st)(X:K.In h)(G:h.Ns Mo mg)(hb:∀ kV doc pm an cdv ct a,NF (MK x x (aQ st) (aJ st) (ah st) .none kV doc pm an cdv ct) ⟨[a],[]⟩=pure (([p]:List Str).zip [a])):du K mg x st [p] []:=a.dfn X G λ_ _ _ _ _ _ us hl=>LN (P:=λus=>NF _ ⟨us,[]⟩=pure ([p].zip us)) hl (hb _ _ _ _ _ _)
theorem AtM.d1 {p:Str}(a:AtM K x m qual st)(X:K.In h)(G:h.Ns Mo mg)(hc:f8 K x fs=true)(hb:∀ kV doc pm an cdv ct a,NF (MK m qual (aQ st) (aJ st) (ah st) .none kV doc pm an cdv ct) ⟨[a],[]⟩=pure (([p]:List Str).zip [a])):iM K mg x m qual st [p] []:=a.dfn X G hc λ_ _ _ _ _ _ us hl=>LN (P:=λus=>NF _ ⟨us,[]⟩=pure ([p].zip us)) hl (hb _ _ _ _ _ _)
theorem AtD.d2 {p q:Str}(a:AtD K x st)(X:K.In h)(G:h.Ns Mo mg)(hb:∀ kV doc pm an cdv ct a b,NF (MK x x (aQ st) (aJ st) (ah st) .none kV doc pm an cdv ct) ⟨[a,b],[]⟩=pure (([p,q]:List Str).zip [a,b])):du K mg x st [p,q] []:=a.dfn X G λ_ _ _ _ _ _ us hl=>LM (P:=λus=>NF _ ⟨us,[]⟩=pure ([p,q].zip us)) hl (hb _ _ _ _ _ _)
theorem AtM.d2 {p q:Str}(a:AtM K x m qual st)(X:K.In h)(G:h.Ns Mo mg)(hc:f8 K x fs=true)(hb:∀ kV doc pm an cdv ct a b,NF (MK m qual (aQ st) (aJ st) (ah st) .none kV doc pm an cdv ct) ⟨[a,b],[]⟩=pure (([p,q]:List Str).zip [a,b])):iM K mg x m qual st [p,q] []:=a.dfn X G hc λ_ _ _ _ _ _ us hl=>LM (P:=λus=>NF _ ⟨us,[]⟩=pure ([p,q].zip us)) hl (hb _ _ _ _ _ _)
theorem AtD.d3 {p q r:Str}(a:AtD K x st)(X:K.In h)(G:h.Ns Mo mg)(hb:∀ kV doc pm an cdv ct a b c,NF (MK x x (aQ st) (aJ st) (ah st) .none kV doc pm an cdv ct) ⟨[a,b,c],[]⟩=pure (([p,q,r]:List Str).zip [a,b,c])):du K mg x st [p,q,r] []:=a.dfn X G λ_ _ _ _ _ _ us hl=>LJ (P:=λus=>NF _ ⟨us,[]⟩=pure ([p,q,r].zip us)) hl (hb _ _ _ _ _ _)
theorem AtM.d3 {p q r:Str}(a:AtM K x m qual st)(X:K.In h)(G:h.Ns Mo mg)(hc:f8 K x fs=true)(hb:∀ kV doc pm an cdv ct a b c,NF (MK m qual (aQ st) (aJ st) (ah st) .none kV doc pm an cdv ct) ⟨[a,b,c],[]⟩=pure (([p,q,r]:List Str).zip [a,b,c])):iM K mg x m qual st [p,q,r] []:=a.dfn X G hc λ_ _ _ _ _ _ us hl=>LJ (P:=λus=>NF _ ⟨us,[]⟩=pure ([p,q,r].zip us)) hl (hb _ _ _ _ _ _)
theorem AtD.d4 {p q r u:Str}(a:AtD K x st)(X:K.In h)(G:h.Ns Mo mg)(hb:∀ kV doc pm an cdv ct a b c d,NF (MK x x (aQ st) (aJ st) (ah st) .none kV doc pm an cdv ct) ⟨[a,b,c,d],[]⟩=pure (([p,q,r,u]:List Str).zip [a,b,c,d])):du K mg x st [p,q,r,u] []:=a.dfn X G λ_ _ _ _ _ _ us hl=>LO (P:=λus=>NF _ ⟨us,[]⟩=pure ([p,q,r,u].zip us)) hl (hb _ _ _ _ _ _)
theorem AtM.d4 {p q r u:Str}(a:AtM K x m qual st)(X:K.In h)(G:h.Ns Mo mg)(hc:f8 K x fs=true)(hb:∀ kV doc pm an cdv ct a b c d,NF (MK m qual (aQ st) (aJ st) (ah st) .none kV doc pm an cdv ct) ⟨[a,b,c,d],[]⟩=pure (([p,q,r,u]:List Str).zip [a,b,c,d])):iM K mg x m qual st [p,q,r,u] []:=a.dfn X G hc λ_ _ _ _ _ _ us hl=>LO (P:=λus=>NF _ ⟨us,[]⟩=pure ([p,q,r,u].zip us)) hl (hb _ _ _ _ _ _)
theorem AtD.d5 {p q r u v:Str}(a:AtD K x st)(X:K.In h)(G:h.Ns Mo mg)(hb:∀ kV doc pm an cdv ct a b c d e,NF (MK x x (aQ st) (aJ st) (ah st) .none kV doc pm an cdv ct) ⟨[a,b,c,d,e],[]⟩=pure (([p,q,r,u,v]:List Str).zip [a,b,c,d,e])):du K mg x st [p,q,r,u,v] []:=a.dfn X G λ_ _ _ _ _ _ us hl=>LK (P:=λus=>NF _ ⟨us,[]⟩=pure ([p,q,r,u,v].zip us)) hl (hb _ _ _ _ _ _)
theorem AtM.d5 {p q r u v:Str}(a:AtM K x m qual st)(X:K.In h)(G:h.Ns Mo mg)(hc:f8 K x fs=true)(hb:∀ kV doc pm an cdv ct a b c d e,NF (MK m qual (aQ st) (aJ st) (ah st) .none kV doc pm an cdv ct) ⟨[a,b,c,d,e],[]⟩=pure (([p,q,r,u,v]:List Str).zip [a,b,c,d,e])):iM K mg x m qual st [p,q,r,u,v] []:=a.dfn X G hc λ_ _ _ _ _ _ us hl=>LK (P:=λus=>NF _ ⟨us,[]⟩=pure ([p,q,r,u,v].zip us)) hl (hb _ _ _ _ _ _)
theorem Fw {i:Int}(X:K.In h)(G:h.Ns Mo mg)(a:∃ t,MA K Mo x=some (some (.int i t))):∃ t,mg x=some (.int i t):=by obtain⟨t,e⟩:=a;exact⟨t,Nu X G e⟩
end
theorem df (a:sc.kind=.function:=by rfl)(b:sc.isCoroutine=false:=by rfl)(c:sc.isGenerator=false:=by rfl)(d:N.Nodup:=by decide +kernel)(e:N.take P.length=P:=by rfl)(f:∀ x∈P,sc.names.lookup x=some .local\/sc.names.lookup x=some .cell:=by decide +kernel)(g:∀ y∈sc.names,y.2≠.free:=by decide +kernel):ao N P sc:=⟨a,b,c,d,e,f,g⟩
theorem nv (hp:H p=none)(e:upd H p o=H1):af H H1:=e▸af.new hp
theorem iS (e:upd H p o=H1):H1 p=some o:=e▸ae
theorem yF (ha:H a=none)(hd:H dx=none)(hn:dx≠a)(e:upd (upd H dx o1) a o=H1):af H H1:=e▸(af.new hd).trans (af.new (by rw[aq hn.symm];exact ha))
theorem ly.uniq {i:Nat}{c d:Rat}(h:ly ps i c)(g:ly ps i d):c=d:=by
 have go:∀ {c d:Rat},ly ps i c->ly ps i d->c<=d:=λ{c d} h g=>by
  rcases h.one with e|⟨j,p,r,hj,e1,e2,e⟩
  ·rw[e];exact g.pos
  ·rw[e];exact g.all j p r hj e1 e2
 exact Rat.le_antisymm (go h g) (go g h)
theorem F_ (h:t9 ps){a b v w c:Rat}(s:ly ps (ps.length-1) c)(x:zj ps a v)(y:zj ps b w)(hab:a<=b):w-v<=c*(b-a):=by
 obtain⟨k,p,q,sx,rfl⟩:=x;obtain⟨j,r,t,sy,rfl⟩:=y;have st:∀ {i:Nat}{p q:Pt}{a b:Rat},ps[i]?=some p->ps[i+1]?=some q->a<=b->x_ p q b-x_ p q a<=c*(b-a):=λ{i p q a b} e1 e2 l=>by
  have hi:=(Mu.mp e2).1;have:=NX (s.all i p q (by lia) e1 e2) (vL l);rw[oR,oR];grind
 have lt:∀ {i:Nat}{p q:Pt},ps[i]?=some p->ps[i+1]?=some q->p.1<q.1:=λe1 e2=>(h.up _ _ _ e1 e2).1
 have pt:∀ (d i:Nat) (p q:Pt),ps[i]?=some p->ps[i+d]?=some q->(q.2:Rat)-(p.2:Rat)<=c*((q.1:Rat)-(p.1:Rat)):=λd=>by
  induction d with
  |zero=>
   intro i p q e1 e2;rw[M7,e1] at e2;cases e2;grind
  |succ d ih=>
   intro i p q e1 e2;have hlt:i+d<ps.length:=by have:=(Mu.mp e2).1;lia
   have e3:ps[i+d]?=some ps[i+d]:=MC hlt;have h1:=ih i p _ e1 e3;have e4:ps[i+d+1]?=some q:=e2;have l:=lt e3 e4;have h2:=st e3 e4 (NL.mpr (R_ l));rw[wq,vK l] at h2;grind
 by_cases hk:k=j
 ·subst hk;obtain⟨rfl⟩:=Mi (sx.lo.symm.trans sy.lo);obtain⟨rfl⟩:=Mi (sx.hi.symm.trans sy.hi);exact st sx.lo sx.hi hab
 by_cases hkj:k<j
 ·have g1:=st sx.lo sx.hi sx.le;rw[vK (lt sx.lo sx.hi)] at g1;have g2:=pt (j-(k+1)) (k+1) q r sx.hi (by rw[show k+1+(j-(k+1))=j by lia];exact sy.lo);have l3:(r.1:Rat)<=b:=by
   rcases sy.gt with z|z
   ·lia
   ·exact Px z
  have g3:=st sy.lo sy.hi l3;rw[wq] at g3;grind
 ·exfalso;have l1:=(h.mono (k-(j+1)) (j+1) t p sy.hi (by rw[show j+1+(k-(j+1))=k by lia];exact sx.lo)).1;have l1:(t.1:Rat)<=(p.1:Rat):=NL.mpr l1;have l2:=sy.le;rcases sx.gt with z|z
  ·lia
  ·grind
def q_ (L d e:Rat):Prop:=-(L*d)<=e/\e<=L*d
theorem Bk {D L d:Rat}(d0:0<=d)(h1:-L<=D)(h2:D<=L):q_ L d (D*d):=by
 have a:=NX h2 d0;have b:=NX h1 d0;exact⟨by grind,a⟩
theorem q_.add {L d e d' e':Rat}(h:q_ L d e)(g:q_ L d' e'):q_ L (d+d') (e+e'):=by
 obtain⟨h1,h2⟩:=h;obtain⟨g1,g2⟩:=g;exact⟨by grind,by grind⟩
theorem Ck {g:Rat->Rat}{L lo hi:Rat} (hl:lo <= hi) (a:∀ x y,x <= y->y <= lo->q_ L (y - x) (g y - g x)) (b:∀ x y,lo <= x->x <= y->y <= hi->q_ L (y - x) (g y - g x)) (c:∀ x y,hi <= x->x <= y->q_ L (y - x) (g y - g x))
  {x y:Rat}(h:x<=y):q_ L (y-x) (g y-g x):=by
 have two:∀ {x m y:Rat},q_ L (m-x) (g m-g x)->q_ L (y-m) (g y-g m)->q_ L (y-x) (g y-g x):=λ{x m y} p q=>by
  have:=p.add q;rw[show m-x+(y-m)=y-x by grind,show g m-g x+(g y-g m)=g y-g x by grind] at this;exact this
 by_cases h1:y<=lo
 ·exact a x y h h1
 by_cases h2:hi<=x
 ·exact c x y h2 h
 by_cases h3:x<=lo
 ·refine two (a x lo h3 P_) ?_
  by_cases h4:y<=hi
  ·exact b lo y P_ (by grind) h4
  ·exact two (b lo hi P_ hl P_) (c hi y P_ (by grind))
 ·by_cases h4:y<=hi
  ·exact b x y (by grind) h h4
  ·exact two (b x hi (by grind) (by grind) P_) (c hi y P_ (by grind))
theorem Fh {L d:Rat}{i:Nat} (mo:o ∈ tP) (hi:i < 3) (d0:0 <= d) (hq:∀ k,k < 3->k ≠ i->q k=p k) (ei:q i - p i=d)
  (hh:∀ t∈bf 2,aB t (un i)∈bf 2->-L<=h (aB t (un i))-h t/\h (aB t (un i))-h t<=L):q_ L d (bI h q o.1 o.2.1 o.2.2-bI h p o.1 o.2.1 o.2.2):=by
 have key:∀ {D:Rat},(-L<=D/\D<=L)->bI h q o.1 o.2.1 o.2.2-bI h p o.1 o.2.1 o.2.2=D*d->q_ L d (bI h q o.1 o.2.1 o.2.2-bI h p o.1 o.2.1 o.2.2):=λ{D} hD e=>by
  rw[e];exact Bk d0 hD.1 hD.2
 simp only[tP,Mx,MM,Od] at mo
 match i,hi with
 |0,_=>
  have e1:=hq 1 (by decide) (by decide);have e2:=hq 2 (by decide) (by decide);rcases mo with rfl|rfl|rfl|rfl|rfl|rfl
  ·exact key (hh (0,0,0) (by decide) (by decide)) (by simp only[bI,un,aB,M7,MX];grind)
  ·exact key (hh (0,0,0) (by decide) (by decide)) (by simp only[bI,un,aB,M7,MX];grind)
  ·exact key (hh (0,1,0) (by decide) (by decide)) (by simp only[bI,un,aB,M7,MX];grind)
  ·exact key (hh (0,1,1) (by decide) (by decide)) (by simp only[bI,un,aB,M7,MX];grind)
  ·exact key (hh (0,0,1) (by decide) (by decide)) (by simp only[bI,un,aB,M7,MX];grind)
  ·exact key (hh (0,1,1) (by decide) (by decide)) (by simp only[bI,un,aB,M7,MX];grind)
 |1,_=>
  have e1:=hq 0 (by decide) (by decide);have e2:=hq 2 (by decide) (by decide);rcases mo with rfl|rfl|rfl|rfl|rfl|rfl
  ·exact key (hh (1,0,0) (by decide) (by decide)) (by simp only[bI,un,aB,M7,MX];grind)
  ·exact key (hh (1,0,1) (by decide) (by decide)) (by simp only[bI,un,aB,M7,MX];grind)
  ·exact key (hh (0,0,0) (by decide) (by decide)) (by simp only[bI,un,aB,M7,MX];grind)
  ·exact key (hh (0,0,0) (by decide) (by decide)) (by simp only[bI,un,aB,M7,MX];grind)
  ·exact key (hh (1,0,1) (by decide) (by decide)) (by simp only[bI,un,aB,M7,MX];grind)
  ·exact key (hh (0,0,1) (by decide) (by decide)) (by simp only[bI,un,aB,M7,MX];grind)
 |2,_=>
  have e1:=hq 0 (by decide) (by decide);have e2:=hq 1 (by decide) (by decide);rcases mo with rfl|rfl|rfl|rfl|rfl|rfl
  ·exact key (hh (1,1,0) (by decide) (by decide)) (by simp only[bI,un,aB,M7,MX];grind)
  ·exact key (hh (1,0,0) (by decide) (by decide)) (by simp only[bI,un,aB,M7,MX];grind)
  ·exact key (hh (1,1,0) (by decide) (by decide)) (by simp only[bI,un,aB,M7,MX];grind)
  ·exact key (hh (0,1,0) (by decide) (by decide)) (by simp only[bI,un,aB,M7,MX];grind)
  ·exact key (hh (0,0,0) (by decide) (by decide)) (by simp only[bI,un,aB,M7,MX];grind)
  ·exact key (hh (0,0,0) (by decide) (by decide)) (by simp only[bI,un,aB,M7,MX];grind)
def bw (c:Q3)(i:Nat)(x:Rat):Q3:=match i with
 |0=>⟨x,c.b,c.c⟩
 |1=>⟨c.a,x,c.c⟩
 |_=>⟨c.a,c.b,x⟩
theorem Dx {i:Nat}{L x y:Rat} (hi:i < 3) (l:x <= y)
  (hh:∀ t∈bf 2,aB t (un i)∈bf 2->-L<=h (aB t (un i))-h t/\h (aB t (un i))-h t<=L):
  q_ L (y-x) (jF h (bw c i y).a (bw c i y).b (bw c i y).c-jF h (bw c i x).a (bw c i x).b (bw c i x).c):=by
 have go:∀ {u v:Rat}{o:Nat×Nat×Nat},u<=v->xK (cq (bw c i u).a (bw c i u).b (bw c i u).c) o->xK (cq (bw c i v).a (bw c i v).b (bw c i v).c) o->q_ L (v-u) (jF h (bw c i v).a (bw c i v).b (bw c i v).c-jF h (bw c i u).a (bw c i u).b (bw c i u).c):=λ{u v o} l a b=>by
  rw[dM a,dM b];refine Fh a.1 hi (vL l) (λk hk ne=>?_) ?_ hh
  ·match i,hi,k,hk with
   |0,_,0,_=>exact absurd rfl ne
   |0,_,1,_=>rfl
   |0,_,2,_=>rfl
   |1,_,0,_=>rfl
   |1,_,1,_=>exact absurd rfl ne
   |1,_,2,_=>rfl
   |2,_,0,_=>rfl
   |2,_,1,_=>rfl
   |2,_,2,_=>exact absurd rfl ne
  ·match i,hi with
   |0,_=>rfl
   |1,_=>rfl
   |2,_=>rfl
 have z2:∀ {u v:Rat},¬ u<=v->v<=u:=λh=>Px (Rat.not_le.mp h)
 match i,hi,@go with
 |0,_,go=>
  by_cases z:c.c<=c.b
  ·exact Ck (g:=λx=>jF h (bw c 0 x).a (bw c 0 x).b (bw c 0 x).c) z (λ_ _ h1 h2=>go (o:=(1,2,0)) h1 ⟨by decide,z,M0 h1 h2⟩ ⟨by decide,z,h2⟩) (λ_ _ h0 h1 h2=>go (o:=(1,0,2)) h1 ⟨by decide,M0 h1 h2,h0⟩ ⟨by decide,h2,M0 h0 h1⟩) (λ_ _ h0 h1=>go (o:=(0,1,2)) h1 ⟨by decide,h0,z⟩ ⟨by decide,M0 h0 h1,z⟩) l
  ·exact Ck (g:=λx=>jF h (bw c 0 x).a (bw c 0 x).b (bw c 0 x).c) (z2 z) (λ_ _ h1 h2=>go (o:=(2,1,0)) h1 ⟨by decide,(z2 z),M0 h1 h2⟩ ⟨by decide,(z2 z),h2⟩) (λ_ _ h0 h1 h2=>go (o:=(2,0,1)) h1 ⟨by decide,M0 h1 h2,h0⟩ ⟨by decide,h2,M0 h0 h1⟩) (λ_ _ h0 h1=>go (o:=(0,2,1)) h1 ⟨by decide,h0,(z2 z)⟩ ⟨by decide,M0 h0 h1,(z2 z)⟩) l
 |1,_,go=>
  by_cases z:c.c<=c.a
  ·exact Ck (g:=λx=>jF h (bw c 1 x).a (bw c 1 x).b (bw c 1 x).c) z (λ_ _ h1 h2=>go (o:=(0,2,1)) h1 ⟨by decide,z,M0 h1 h2⟩ ⟨by decide,z,h2⟩) (λ_ _ h0 h1 h2=>go (o:=(0,1,2)) h1 ⟨by decide,M0 h1 h2,h0⟩ ⟨by decide,h2,M0 h0 h1⟩) (λ_ _ h0 h1=>go (o:=(1,0,2)) h1 ⟨by decide,h0,z⟩ ⟨by decide,M0 h0 h1,z⟩) l
  ·exact Ck (g:=λx=>jF h (bw c 1 x).a (bw c 1 x).b (bw c 1 x).c) (z2 z) (λ_ _ h1 h2=>go (o:=(2,0,1)) h1 ⟨by decide,(z2 z),M0 h1 h2⟩ ⟨by decide,(z2 z),h2⟩) (λ_ _ h0 h1 h2=>go (o:=(2,1,0)) h1 ⟨by decide,M0 h1 h2,h0⟩ ⟨by decide,h2,M0 h0 h1⟩) (λ_ _ h0 h1=>go (o:=(1,2,0)) h1 ⟨by decide,h0,(z2 z)⟩ ⟨by decide,M0 h0 h1,(z2 z)⟩) l
 |2,_,go=>
  by_cases z:c.b<=c.a
  ·exact Ck (g:=λx=>jF h (bw c 2 x).a (bw c 2 x).b (bw c 2 x).c) z (λ_ _ h1 h2=>go (o:=(0,1,2)) h1 ⟨by decide,z,M0 h1 h2⟩ ⟨by decide,z,h2⟩) (λ_ _ h0 h1 h2=>go (o:=(0,2,1)) h1 ⟨by decide,M0 h1 h2,h0⟩ ⟨by decide,h2,M0 h0 h1⟩) (λ_ _ h0 h1=>go (o:=(2,0,1)) h1 ⟨by decide,h0,z⟩ ⟨by decide,M0 h0 h1,z⟩) l
  ·exact Ck (g:=λx=>jF h (bw c 2 x).a (bw c 2 x).b (bw c 2 x).c) (z2 z) (λ_ _ h1 h2=>go (o:=(1,0,2)) h1 ⟨by decide,(z2 z),M0 h1 h2⟩ ⟨by decide,(z2 z),h2⟩) (λ_ _ h0 h1 h2=>go (o:=(1,2,0)) h1 ⟨by decide,M0 h1 h2,h0⟩ ⟨by decide,h2,M0 h0 h1⟩) (λ_ _ h0 h1=>go (o:=(2,1,0)) h1 ⟨by decide,h0,(z2 z)⟩ ⟨by decide,M0 h0 h1,(z2 z)⟩) l
theorem FW (t:Kn):aB (0,0,0) t=t:=by
 obtain⟨a,b,c⟩:=t;simp[aB]
theorem G0 (wi:c.Wi ((60:Int):Rat)):om 2 f c g=jF (λt=>((g (f t):Int):Rat)) (c.a/((60:Int):Rat)) (c.b/((60:Int):Rat)) (c.c/((60:Int):Rat)):=by
 have n60:((60:Int):Rat)≠0:=by decide
 have p60:(0:Rat)<((60:Int):Rat):=by decide
 have lo:∀ {x:Rat},0<=x->0<=x/((60:Int):Rat):=λ{x} h=>by
  refine NU (c:=((60:Int):Rat)) ?_ p60;rw[O2 n60,Rat.zero_mul];exact h
 have hi:∀ {x:Rat},x<=((60:Int):Rat)->x/((60:Int):Rat)<=1:=λ{x} h=>by
  refine NU (c:=((60:Int):Rat)) ?_ p60;rw[O2 n60,Rat.one_mul];exact h
 have e:∀ {x:Rat},x=(((0:Nat):Int)+x/((60:Int):Rat))*((t4 2:Int):Rat):=λ{x}=>by
  have e1:t4 2=60:=by decide
  have e2:(((0:Nat):Int):Rat)=0:=rfl;rw[e1,e2,Rat.zero_add,O2 n60]
 rw[Ev (b:=(0,0,0)) (by decide) (by decide) (by decide) (by decide) (by decide) (lo wi.a0) (hi wi.a1) (lo wi.b0) (hi wi.b1) (lo wi.c0) (hi wi.c1) e e e];simp only[FW]
def R3.nth (r:R3):Nat->Int
 |0=>r.a
 |1=>r.b
 |_=>r.c
theorem Ii {m:Int} (mx:jm ((bf 2).flatMap (mX 2 f)) m) {i j:Nat} (hi:i < 3) (ht:t ∈ bf 2) (hn:aB t (un i) ∈ bf 2) :
  -((m:Int):Rat)<=(((f (aB t (un i))).nth j:Int):Rat)-(((f t).nth j:Int):Rat)/\(((f (aB t (un i))).nth j:Int):Rat)-(((f t).nth j:Int):Rat)<=((m:Int):Rat):=by
 have e:AG 2 t i=aB t (un i):=Nd hn;have m1:I_ ((f t).nth j) ((f (aB t (un i))).nth j)∈mX 2 f t:=by
  unfold mX uk;rw[<- e]
  match i,hi,j with
  |0,_,0=>simp[R3.nth]
  |0,_,1=>simp[R3.nth]
  |0,_,_+2=>simp[R3.nth]
  |1,_,0=>simp[R3.nth]
  |1,_,1=>simp[R3.nth]
  |1,_,_+2=>simp[R3.nth]
  |2,_,0=>simp[R3.nth]
  |2,_,1=>simp[R3.nth]
  |2,_,_+2=>simp[R3.nth]
 have h:=mx.le _ (PH.mpr ⟨t,ht,m1⟩);unfold I_ at h;have g:-m<=(f (aB t (un i))).nth j-(f t).nth j/\(f (aB t (un i))).nth j-(f t).nth j<=m:=by
  split at h<;>lia
 rw[<- Nt,<- TQ];exact⟨NL.mpr g.1,NL.mpr g.2⟩
def Q3.at (q:Q3):Nat->Rat:=cq q.a q.b q.c
theorem AB {j:Nat}:(W4 2 f c).at j=om 2 f c (λr=>r.nth j):=by
 match j with
 |0=>rfl
 |1=>rfl
 |_+2=>rfl
theorem F9 {u:Int}{L x y e:Rat}(hu:(u:Rat)≠0)(h:q_ L (y/(u:Rat)-x/(u:Rat)) e):q_ (L/(u:Rat)) (y-x) e:=by
 have:L/(u:Rat)*(y-x)=L*(y/(u:Rat)-x/(u:Rat)):=by
  generalize (u:Rat)=v at *;grind
 unfold q_ at *;rw[this];exact h
theorem Ir {m:Int} (mx:jm ((bf 2).flatMap (mX 2 f)) m) {i j:Nat}{x y:Rat} (hi:i < 3) (l:x <= y) (wx:(bw c i x).Wi ((60:Int):Rat)) (wy:(bw c i y).Wi ((60:Int):Rat)) :
  q_ (((m:Int):Rat)/((60:Int):Rat)) (y-x) ((W4 2 f (bw c i y)).at j-(W4 2 f (bw c i x)).at j):=by
 have n60:((60:Int):Rat)≠0:=by decide
 have p60:(0:Rat)<((60:Int):Rat):=by decide
 have l':x/((60:Int):Rat)<=y/((60:Int):Rat):=by
  refine NU (c:=((60:Int):Rat)) ?_ p60;rw[O2 n60,O2 n60];exact l
 rw[AB,AB,G0 wx,G0 wy];refine F9 n60 ?_;have h:=Dx (h:=λt=>(((f t).nth j:Int):Rat)) (c:=⟨c.a/((60:Int):Rat),c.b/((60:Int):Rat),c.c/((60:Int):Rat)⟩) hi l' (λt ht hn=>Ii mx hi ht hn)
 match i,hi,h with
 |0,_,h=>exact h
 |1,_,h=>exact h
 |2,_,h=>exact h
def qk (x:Int):Int:=if x<0 then -x else x
def jU (s:S9)(i:Nat):List Int:=[qk (s.x.nth i),qk (s.y.nth i),qk (s.z.nth i)]
def fu:S9 ⊕ (Kn->R3)->Nat->Rat->Prop
 |.inl s,i,r=>∃ m:Int,jm (jU s i) m/\r=(m:Rat)/((1000:Int):Rat)
 |.inr f,_,r=>∃ m:Int,jm ((bf 2).flatMap (mX 2 f)) m/\r=(m:Rat)/((60:Int):Rat)
theorem B9 {i:Nat}{r r':Rat}(h:fu b i r)(g:fu b i r'):r=r':=by
 cases b with
 |inl s=>
  obtain⟨m,h1,rfl⟩:=h;obtain⟨m',h2,rfl⟩:=g;rw[h1.uniq h2]
 |inr f=>
  obtain⟨m,h1,rfl⟩:=h;obtain⟨m',h2,rfl⟩:=g;rw[h1.uniq h2]
theorem GR {i:Nat}{r:Rat}(h:fu b i r):0<=r:=by
 have go:∀ {m u:Int},0<=m->0<u->(0:Rat)<=(m:Rat)/(u:Rat):=λ{m u} h1 h2=>by
  rw[PC];exact Sv (QT.mpr h1) (Px (UA.mpr (by exact_mod_cast h2)))
 cases b with
 |inl s=>obtain⟨m,h1,rfl⟩:=h;exact go h1.nn (by decide)
 |inr f=>obtain⟨m,h1,rfl⟩:=h;exact go h1.nn (by decide)
theorem Gu {i:Nat}{x y:Rat}(hi:i<3):oG q (bw r i y)-oG q (bw r i x)=q.at i*(y-x):=by
 match i,hi with
 |0,_=>simp only[oG,bw,Q3.at,cq];grind
 |1,_=>simp only[oG,bw,Q3.at,cq];grind
 |2,_=>simp only[oG,bw,Q3.at,cq];grind
theorem F4 {r:R3}{i:Nat}:r.q.at i=((r.nth i:Int):Rat)/((1000:Int):Rat):=by
 match i with
 |0=>rfl
 |1=>rfl
 |_+2=>rfl
theorem Gw {i j:Nat}{L x y:Rat} (h:fu b i L) (hi:i < 3) (l:x <= y) (w:∀ f,b=.inr f->(bw c i x).Wi ((60:Int):Rat)/\(bw c i y).Wi ((60:Int):Rat)) :
  q_ L (y-x) ((Aa b (bw c i y)).at j-(Aa b (bw c i x)).at j):=by
 cases b with
 |inr f=>
  obtain⟨m,mx,rfl⟩:=h;exact Ir mx hi l (w f rfl).1 (w f rfl).2
 |inl s=>
  obtain⟨m,mx,rfl⟩:=h;have key:∀ {r:R3},qk (r.nth i)∈jU s i->q_ ((m:Rat)/((1000:Int):Rat)) (y-x) (oG r.q (bw c i y)-oG r.q (bw c i x)):=λ{r} hr=>by
   have hm:=mx.le _ hr;unfold qk at hm;rw[Gu hi,F4];have b1:-m<=r.nth i/\r.nth i<=m:=by split at hm<;>lia
   have dv:∀ {u v:Int},u<=v->(u:Rat)/((1000:Int):Rat)<=(v:Rat)/((1000:Int):Rat):=λ{u v} h=>by
    rw[PC,PC];exact NX (NL.mpr h) (Px (UA.mpr (by decide)))
   refine Bk (vL l) ?_ (dv b1.2);have:=dv b1.1;rw[TQ] at this;rw[PC,Rat.neg_mul] at this;rw[PC];exact this
  match j with
  |0=>exact key (r:=s.x) (by simp[jU])
  |1=>exact key (r:=s.y) (by simp[jU])
  |_+2=>exact key (r:=s.z) (by simp[jU])
def jS (x:Rat):Rat:=if 0<=x then x else -x
theorem FB {L d e:Rat}(h:q_ L d e):jS e<=L*d:=by
 unfold jS;obtain⟨h1,h2⟩:=h
 split<;>grind
theorem yU {i:Nat}(hi:i<3):bw c i (c.at i)=c:=by
 match i,hi with
 |0,_=>rfl
 |1,_=>rfl
 |2,_=>rfl
theorem yt {cap:Int}{i j:Nat}{L st x y:Rat} (hP:P.In cap) (hb:∀ f,b=.inr f->P.In 60) (h:fu b i L) (hs:ly (P.at i) ((P.at i).length - 1) st) (hi:i < 3) (l:x <= y)
  (wx:(bw c i x).Wi ((60:Int):Rat))(wy:(bw c i y).Wi ((60:Int):Rat))(o:pF P (bw c i x) r)(o':pF P (bw c i y) r'):q_ (L*st) (y-x) ((Aa b r').at j-(Aa b r).at j):=by
 have hr:∃ u v,r=bw r i u/\r'=bw r i v/\zj (P.at i) x u/\zj (P.at i) y v:=by
  have z:i=0\/i=1\/i=2:=by lia
  rcases z with rfl|rfl|rfl
  ·refine⟨r.a,r'.a,rfl,?_,o.1,o'.1⟩;have e1:=jC (hP 1 (by decide)).1 o.2.1 o'.2.1;have e2:=jC (hP 2 (by decide)).1 o.2.2 o'.2.2;exact Q3.ext rfl e1.symm e2.symm
  ·refine⟨r.b,r'.b,rfl,?_,o.2.1,o'.2.1⟩;have e1:=jC (hP 0 (by decide)).1 o.1 o'.1;have e2:=jC (hP 2 (by decide)).1 o.2.2 o'.2.2;exact Q3.ext e1.symm rfl e2.symm
  ·refine⟨r.c,r'.c,rfl,?_,o.2.2,o'.2.2⟩;have e1:=jC (hP 0 (by decide)).1 o.1 o'.1;have e2:=jC (hP 1 (by decide)).1 o.2.1 o'.2.1;exact Q3.ext e1.symm e2.symm rfl
 obtain⟨u,v,e1,e2,ou,ov⟩:=hr;have pi:=(hP i hi).1;have uv:=De pi l ou ov;have uv2:=F_ pi hs ou ov l;have wr:∀ f,b=.inr f->(bw r i u).Wi ((60:Int):Rat)/\(bw r i v).Wi ((60:Int):Rat):=λf e=>by
  rw[<- e1,<- e2];exact⟨AU (hb f e) o wx,AU (hb f e) o' wy⟩
 have g:=Gw (j:=j) h hi uv wr;rw[<- e1,<- e2] at g;have p0:=GR h;have s0:=hs.pos;have m1:=Rat.mul_le_mul_of_nonneg_left uv2 p0;obtain⟨g1,g2⟩:=g;exact⟨by grind,by grind⟩
def Jp (K:HD)(x y:Str):List V->Hp->VK->Prop:=λxs H Q=>∃ v C D p,xs=[v,.ref p]/\cO K x C/\cO K y D/\H p=some (.tup [.ref C,.ref D]) /\
 ((∃ a dx fs,v=.ref a/\(H a=some (.ins C dx fs)\/H a=some (.ins D dx fs))/\Q (.bl true) H)\/∃ T,Ty K H v T/\T∈vF/\Q (.bl false) H)
theorem Ip {X:Cx}{K:HD}{x y:Str}{fs0 fs1:List Str}(hK:X.K=K)(hc:f8 K x fs0=true)(hi:B1 K x=true)(hc':f8 K y fs1=true)(hi':B1 K y=true)(hn:ID K y x=true):dg X (.builtin "isinstance") (Jp K x y):=by
 subst hK;intro pins s σ H xs us Q I r h;obtain⟨v,C,D,p,rfl,hC,hD,hp,h⟩:=h;obtain⟨u,w,rfl,rx,rw'⟩:=nQ r;cases(show w=MP p from rw');obtain⟨_,its,rr,⟨cl,dd,dt,sl⟩,h1,h2,n,h3⟩:=I.hok p _ hp;obtain⟨u1,u2,rfl,w1,w2⟩:=nQ rr;cases(show u1=MP C from w1);cases(show u2=MP D from w2);simp only at h2 h3;subst h2 h3;obtain⟨C',cf⟩:=jX hc;cases bB hC cf.at_;obtain⟨D',cg⟩:=jX hc';cases bB hD cg.at_;obtain⟨E,e,q⟩:=ig hi;rw[iF hC] at e;cases e;obtain⟨E,e,q'⟩:=ig hi';rw[iF hD] at e;cases e;simp only[Nh,OL,N5] at q q';obtain⟨⟨⟨⟨q1,q2⟩,q3⟩,q4⟩,q5⟩:=q;obtain⟨⟨⟨⟨r1,r2⟩,r3⟩,r4⟩,r5⟩:=q';obtain⟨E1,e1,n1⟩:=ig hn;rw[iF hD] at e1;cases e1;obtain⟨E2,e2,n2⟩:=ig n1;rw[iF hC] at e2;cases e2;have n2:=OL.mp n2;have self:∀ c:Mj,O9 X.K c c=some true:=λc=>by unfold O9;rw[Nd (Ru _)]
 rcases h with ⟨a,dx,fs,rfl,ha|ha,h⟩|⟨T,ty,ht,h⟩
 ·exact Go I rx (.ins ha cf.cls q1 q2 q3 q4) h1 (by unfold O8;rw[self]) λtk=>⟨.bl true,H,I.tok tk,rfl,h⟩
 ·exact Go I rx (.ins ha cg.cls r1 r2 r3 r4) h1 (by unfold O8;rw[n2];unfold O8;rw[self]) λtk=>⟨.bl true,H,I.tok tk,rfl,h⟩
 ·exact Go I rx ty h1 (by unfold O8;rw[q5 T ht];unfold O8;rw[r5 T ht];rfl) λtk=>⟨.bl false,H,I.tok tk,rfl,h⟩
def Jh (b:S9 ⊕ (Kn->R3))(P:C3)(k:Nat)(r:Rat):Prop:=∃ L st,fu b k L/\ly (P.at k) ((P.at k).length-1) st/\r=L*st
def Am (b:S9 ⊕ (Kn->R3))(P:C3)(q:Q3):Prop:=∀ k,k<3->Jh b P k (q.at k)
theorem yM (h:Am b P q)(g:Am b P q'):q=q':=by
 have go:∀ k,k<3->q.at k=q'.at k:=λk hk=>by
  obtain⟨L,s,h1,h2,e⟩:=h k hk;obtain⟨L',s',g1,g2,e'⟩:=g k hk;rw[e,e',B9 h1 g1,h2.uniq g2]
 exact Q3.ext (go 0 (by decide)) (go 1 (by decide)) (go 2 (by decide))
theorem tR (h:t9 ps){i:Nat}{c:Rat}(s:ly ps i c):Bq 12 c:=by
 rcases s.one with rfl|⟨j,p,r,_,e1,e2,rfl⟩
 ·exact LH.mono (by decide)
 ·have ip:=h.inn p (ME e1);have ir:=h.inn r (ME e2);have:=(h.up j p r e1 e2).1;have:=ip.a1;have:=ip.a2;have:=ir.a1;have:=ir.a2;have:=ip.b1;have:=ip.b2;have:=ir.b1;have:=ir.b2;exact gN (by lia) (by unfold Sm;lia) (by unfold Sm;lia)
theorem EU {r:R3}{i:Nat}(hi:i<3):r.vs[i]?=some (.int (r.nth i)):=by
 match i,hi with
 |0,_=>rfl
 |1,_=>rfl
 |2,_=>rfl
theorem Ia {r:R3}{m:Int}(h:r.In m){i:Nat}:-m<=r.nth i/\r.nth i<=m:=by
 match i with
 |0=>exact⟨h.a1,h.a2⟩
 |1=>exact⟨h.b1,h.b2⟩
 |_+2=>exact⟨h.c1,h.c2⟩
theorem GW {m c:Int}(h:jm l m)(c0:0<=c)(hl:∀ x∈l,x<=c):m<=c:=by
 rcases h.at_ with rfl|hm
 ·exact c0
 ·exact hl m hm
theorem vt {s:S9}(h:s.In){i:Nat}:∀ x∈jU s i,0<=x/\x<=4000:=by
 have go:∀ {r:R3},r.In 4000->0<=qk (r.nth i)/\qk (r.nth i)<=4000:=λ{r} hr=>by
  have:=Ia hr (i:=i);unfold qk
  split<;>lia
 intro x hx;simp only[jU,Mx,MM,Od] at hx;rcases hx with rfl|rfl|rfl
 ·exact go h.x
 ·exact go h.y
 ·exact go h.z
theorem HM (h:t∈bf 2)(k:Nat):AG 2 t k∈bf 2:=by
 unfold AG
 split
 ·assumption
 ·exact h
theorem FD (w:Aw 2 f):∀ x∈(bf 2).flatMap (mX 2 f),x<=1000:=by
 intro x hx;obtain⟨t,ht,hx⟩:=PH.mp hx;have a:=w t ht;have go:∀ k,x∈uk (f t) (f (AG 2 t k))->x<=1000:=λk h=>by
  have b:=w _ (HM ht k);obtain⟨a0,a1,b0,b1,c0,c1⟩:=a;obtain⟨d0,d1,e0,e1,f0,f1⟩:=b;simp only[uk,Mx,MM,Od] at h;rcases h with rfl|rfl|rfl<;>(unfold I_;split<;>lia)
 unfold mX at hx;rcases M_.mp hx with h|h
 ·rcases M_.mp h with h|h
  ·exact go 0 h
  ·exact go 1 h
 ·exact go 2 h
theorem lK {i:Nat}{L:Rat}(hb:match b with|.inl s=>s.In|.inr f=>Aw 2 f)(h:fu b i L):Bq 13 L:=by
 have go:∀ {m u:Int},0<=m->m<=4000->0<u->u<=1000->Bq 13 ((m:Rat)/(u:Rat)):=λh1 h2 h3 h4=>gN (by lia) (by unfold Sm;lia) (by unfold Sm;lia)
 cases b with
 |inl s=>
  obtain⟨m,mx,rfl⟩:=h;exact go mx.nn (GW mx (by decide) λx hx=>(vt hb x hx).2) (by decide) (by decide)
 |inr f=>
  obtain⟨m,mx,rfl⟩:=h;exact go mx.nn (Sa (GW mx (by decide) (FD hb)) (by decide)) (by decide) (by decide)
def Gq (K:HD)(H:Hp)(v:V):Prop:=∃ a C dx fs,v=.ref a/\H a=some (.ins C dx fs)/\(cO K "SquareProfile" C\/cO K "GridProfile" C)
theorem uc.pr {K:HD}{H:Hp}{P:C3}{s:S9}{e:En}{v:V}(h:uc K H P s e v):Gq K H v:=by obtain⟨a,C,dx,_,_,_,_,h1,h2,h3,_⟩:=h;exact⟨a,C,dx,_,h1,h3,.inl h2⟩
theorem ui.pr {K:HD}{H:Hp}{P:C3}{f:Kn->R3}{e:En}{v:V}(h:ui K H P f e v):Gq K H v:=by obtain⟨a,C,dx,_,_,_,_,h1,h2,h3,_⟩:=h;exact⟨a,C,dx,_,h1,h3,.inr h2⟩
def Ak (K:HD)(H:Hp)(P:C3)(b:S9 ⊕ (Kn->R3))(e:En)(v:V):Prop:=match b with
 |.inl s=>uc K H P s.cp e v/\s.In/\P.In 1000
 |.inr f=>ui K H P f e v/\Aw 2 f/\P.In 60
theorem Ak.same {K:HD}{H H':Hp}{P:C3}{b:S9 ⊕ (Kn->R3)}{e:En}{v:V}(h:Ak K H P b e v)(s:af H H'):Ak K H' P b e v:=by
 cases b with
 |inl q=>exact⟨h.1.same s,h.2⟩
 |inr f=>exact⟨h.1.same s,h.2⟩
theorem Ak.pr {K:HD}{H:Hp}{P:C3}{b:S9 ⊕ (Kn->R3)}{e:En}{v:V}(h:Ak K H P b e v):Gq K H v:=by
 cases b with
 |inl q=>exact h.1.pr
 |inr f=>exact h.1.pr
theorem Ak.pin {K:HD}{H:Hp}{P:C3}{b:S9 ⊕ (Kn->R3)}{e:En}{v:V}(h:Ak K H P b e v):P.In 1000:=by
 cases b with
 |inl q=>exact h.2.2
 |inr f=>exact h.2.2.mono (by decide)
theorem HU {xs:List V}{i:Nat}:nX xs none (some (i:Int))=xs.take i:=by
 unfold nX;rw[HT.sIx_none,HT.sIx_nat,List.drop_zero,Nat.sub_zero];apply SG;intro k;rw[PV,PV]
 by_cases h1:k<i
 ·by_cases h2:k<xs.length
  ·rw[Nd (by lia),Nd h1]
  ·rw[MT (by lia),Nd h1,Tz (by lia)]
 ·rw[MT (by lia),MT h1]
theorem Df {xs:List V}{i:Nat}(h:i<=xs.length):nX xs (some (i:Int)) none=xs.drop i:=by
 unfold nX;have e2:HT.sIx xs.length xs.length none=xs.length:=by simp[HT.sIx]
 rw[HT.sIx_nat,e2,Nat.min_eq_left h];exact Nf (by rw[OZ];exact Mm _)
theorem Iu {K:HD}{H:Hp}{c:Q3}{xs:List V}{y:Rat}{w:V}{i:Nat}(hi:i<3)(h:az K H c.ds xs)(hw:ax K H (rD y) w):az K H (bw c i y).ds (xs.take i++[w]++xs.drop (i+1)):=by
 obtain⟨x0,x1,x2,rfl,g0,g1,g2⟩:=jJ h
 match i,hi with
 |0,_=>exact .cons hw (.cons g1 (.cons g2 .nil))
 |1,_=>exact .cons g0 (.cons hw (.cons g2 .nil))
 |2,_=>exact .cons g0 (.cons g1 (.cons hw .nil))
theorem vp {K:HD}{H:Hp}{c:Q3}{xs:List V}{i:Nat}(hi:i<3)(h:az K H c.ds xs):∃ v,xs[i]?=some v/\ax K H (rD (c.at i)) v:=He h hi
theorem Hf {i k:Nat}{y:Rat}(h:c.Bd k)(g:Bq k y):(bw c i y).Bd k:=by
 match i with
 |0=>exact⟨g,h.b,h.c⟩
 |1=>exact⟨h.a,g,h.c⟩
 |_+2=>exact⟨h.a,h.b,g⟩
theorem Hi {i:Nat}{y m:Rat}(h:c.Wi m)(y0:0<=y)(y1:y<=m):(bw c i y).Wi m:=by
 match i with
 |0=>exact⟨y0,y1,h.b0,h.b1,h.c0,h.c1⟩
 |1=>exact⟨h.a0,h.a1,y0,y1,h.c0,h.c1⟩
 |_+2=>exact⟨h.a0,h.a1,h.b0,h.b1,y0,y1⟩
theorem C7 {cap:Int}{i j:Nat}{q y:Rat} (hP:P.In cap) (hb:∀ f,b=.inr f->P.In 60) (h:Jh b P i q) (hi:i < 3) (wc:c.Wi ((60:Int):Rat)) (wy:(bw c i y).Wi ((60:Int):Rat))
  (o:pF P c r)(o':pF P (bw c i y) r'):jS ((Aa b r).at j-(Aa b r').at j)<=q*jS (y-c.at i):=by
 obtain⟨L,st,hL,hst,rfl⟩:=h;have wc':(bw c i (c.at i)).Wi ((60:Int):Rat):=by rw[yU hi];exact wc
 have o1:pF P (bw c i (c.at i)) r:=by rw[yU hi];exact o
 by_cases hl:c.at i<=y
 ·have g:=yt (j:=j) hP hb hL hst hi hl wc' wy o1 o';have e:jS (y-c.at i)=y-c.at i:=by unfold jS;rw[Nd (vL hl)]
  rw[e];obtain⟨g1,g2⟩:=g;unfold jS
  split<;>grind
 ·have hl':y<=c.at i:=by grind
  have g:=yt (j:=j) hP hb hL hst hi hl' wy wc' o' o1;have e:jS (y-c.at i)=c.at i-y:=by
   unfold jS;rw[MT (by grind)];grind
  rw[e];exact FB g
theorem zY {K:HD}{H:Hp}{t r:Mz}{q:Q3}{v:V}(tw:bQ H t r)(h:ax K H (.list q.ds) v):ax K (cut [t,r] H) (.list q.ds) v:=by
 cases h with
 |@lst a xs ds hr hs=>
  obtain⟨x0,x1,x2,rfl,g0,g1,g2⟩:=jJ hs;have hs':=az.mv Mv.self tw.lists rfl hs;have na:∀ {o:HO},H a=some o->(∀ ys,o=.lst ys->ys=[x0,x1,x2])->a∉[t,r]:=λ{o} e he m=>by
   obtain⟨ys,ey⟩:=tw.lists a m;rw[e] at ey;cases ey;cases he _ rfl;obtain⟨p,rfl,hp⟩:=bn g0;obtain⟨cs,k,ht,hr',_⟩:=tw;simp only[Mx,MM,Od] at m;rcases m with rfl|rfl
   ·rw[e] at ht;cases ht
   ·rw[e] at hr';cases cs with
    |nil=>cases hr'
    |cons c cs=>cases hr'
  rcases hr with hr|⟨o,hr⟩
  ·exact .lst (.inl (by rw[eJ (na hr λys z=>by cases z;rfl)];exact hr)) hs'
  ·exact .lst (.inr ⟨o,by rw[eJ (na hr λys z=>by cases z)];exact hr⟩) hs'
def Jv:R2:=λx y H Q=>∃ a b xs ys,x=.ref a/\y=.ref b/\H a=some (.tup xs)/\H b=some (.tup ys)/\xs.length+ys.length<=MI/\∀ p H',af H H'->H' p=some (.tup (xs++ys))->Q (.ref p) H'
theorem E9:k_ X (Qo .Add) Jv:=by
 intro pins s σ H x y v u Q I rx ry h;obtain⟨a,b,xs,ys,rfl,rfl,ha,hb,hz,q⟩:=h
 by_cases hx:xs=[]
 ·subst hx;cases rx;cases ry;obtain⟨its,r1,p1,_⟩:=I.tuple (.inl (.inl ha));obtain⟨its2,r2,p2,_⟩:=I.tuple (.inl (.inl hb));obtain rfl:its=[]:=r1.nil_iff.mpr rfl;obtain⟨⟨cls,dd,data,sl⟩,ho,hc,n,hd⟩:=id p1;obtain⟨⟨cls2,dd2,data2,sl2⟩,ho2,hc2,n2,hd2⟩:=id p2;simp only at hc hd hc2 hd2;subst hc hd hc2 hd2;exact concat_meets ⟨_,ho,rfl⟩ ⟨_,ho2,rfl⟩ Tg UW QZ QP (QB _ _)
   (tuple_addW0 a b #[] its2.toArray n n2 dd dd2 sl sl2 rfl) ⟨ho,ho2,⟨.ref b,H,I,rfl,q b H (af.refl _) hb⟩⟩
 ·exact FX pins s σ H _ _ v u Q I rx ry ⟨a,b,xs,ys,rfl,rfl,dF.of ha,dF.of hb,hx,hz,λz=>q a H (af.refl _) (by rw[z,QL];exact ha),λ_ p hp=>q p _ (af.new hp) ae⟩
theorem E8.same {K:HD}{H H':Hp}{P:C3}{sv dv:V}{b:S9 ⊕ (Kn->R3)}(h:E8 K H P sv dv b)(s:af H H'):E8 K H' P sv dv b:=by
 cases b with
 |inl q=>exact⟨ax.same s h.1,h.2⟩
 |inr f=>obtain⟨h1,⟨d,h2,h3⟩,h4⟩:=h;exact⟨h1,⟨d,h2,h3.same s⟩,h4⟩
theorem E6 {K:HD}{H:Hp}{P:C3}{b:S9 ⊕ (Kn->R3)}{e:En}{v:V}{c r:Q3}(h:Ak K H P b e v)(on:pF P c r)(wi:c.Wi ((60:Int):Rat))(bd:c.Bd 17):(Aa b r).Bd 1300:=by
 cases b with
 |inl s=>exact(EY (G8 h.2.1) (D_ h.2.2 on bd)).mono (by decide)
 |inr f=>exact(JE (by decide) (by decide) h.2.1 (AU h.2.2 on wi) (EV h.2.2 on bd)).mono (by decide)
theorem Bj (q:Rat):rD (-q)=qA (0-q.num) (q.den:Int):=by
 rw[Tu];rfl
theorem vv {q:Rat}(h:0<=q.num):jS q=q:=by
 unfold jS;rw[Nd (Sw.mp h)]
theorem xD {q:Rat}(h:¬ 0<=q.num):jS q=-q:=by
 unfold jS;rw[MT (λz=>h (Sw.mpr z))]
theorem zq {q:Rat}{k:Nat}(h:Bq k q):Bq k (jS q):=by
 by_cases z:0<=q.num
 ·rw[vv z];exact h
 ·rw[xD z];exact h.neg
theorem pZ {q:Q3}{k i:Nat}(h:q.Bd k):Bq k (q.at i):=by
 match i with
 |0=>exact h.a
 |1=>exact h.b
 |_+2=>exact h.c
theorem FF {cs:List V}{w:V}{i:Nat}(h:i<cs.length):(cs.take i++[w]++cs.drop (i+1))[i]?=some w:=by
 rw[Ou,NT (by rw[M3];lia),M3,Nat.min_eq_left (by lia),Nat.sub_self];rfl
def nw (q:Rat):Int:=(2*q.num+(q.den:Int)).fdiv (2*(q.den:Int))
def hq (q:Q3):R3:=⟨KN (nw q.a),KN (nw q.b),KN (nw q.c)⟩
theorem WW.pt {X:Cx}{e:OH}{t:TT}(h:WW X e t):WT X e t:=⟨PW.pt h.go⟩
set_option autoImplicit true
set_option relaxedAutoImplicit true
section
variable {X:Cx}{st:Oe}{K:HD}
theorem aZ :WA X [] uC:=⟨Dl ⟩
theorem ak (ha:WE X e te)(hr:WA X es t)(hs:MU (e::es) X.env=(false,Qh e X.env)::MU es X.env:=by rfl):WA X (e::es) (mD te t):=⟨A' ha.go hr.go hs⟩
theorem aj (i:Nat)(hN:X.N[i]?=some x:=by rfl)(hv:Jl X.env.scope x:=by first|exact Vo rfl|exact Uj (Vo rfl)|exact Uj (Uj rfl))(hd:(x==("__debug__":Str))=false:=by decide)(hcd:(x==("__classdict__":Str))=false:=by decide):WE X (.Name x pos) (r0 i):=⟨pv i hN hv hd hcd⟩
theorem D6 (hx:X.xe=λ_ _=>False)(hd:gens[d+1]?=none)(he:WE X elt te):WB X elt gens scope pos d (AT te):=⟨A4 hx hd he.go⟩
end
section
variable {X:Cx}
theorem av (i:Nat){x:Str}{e:OH}{te:TE}{pos pos':Pos}(hN:X.N.Nodup)(he:WE X e te)(hi:X.N[i]?=some x:=by rfl)(hx:Jc X.env.scope x:=by first|exact Vo rfl|exact Uj rfl)(hs:SR e (some (.Name x pos')) pos.line X.env=pure false:=by rfl)(hf:X.fn x=true\/X.env.scope.names.lookup x=some .local:=by first|exact .inl rfl|exact .inr rfl|assumption):WS X (.Assign [.Name x pos'] e pos) (IB te (y4 i)):=FH hN hi hx he hs hf
theorem ai (i:Nat){x:Str}{pos:Pos}(hN:X.N.Nodup)(hi:X.N[i]?=some x:=by rfl)(hx:Jc X.env.scope x:=by first|exact Vo rfl|exact Uj rfl)(hf:X.fn x=true\/X.env.scope.names.lookup x=some .local:=by first|exact .inl rfl|exact .inr rfl|assumption):WG X (.Name x pos) (y4 i):=Dg hN hi hx hf
theorem am (K:HD){a b:OH}{ta tb:TE}{pos:Pos}(ha:WE X a ta)(hb:WE X b tb)(e:X.K=K:=by rfl)(hs:AZ b:=by intro _ _;rfl):WE X (.Subscript a b pos) (JS (Gh K) ta tb):=C_ (K1 e) ha hb hs
theorem ac {CX:lQ}{k j:Nat}{x:Str}{ps:List Str}{sp:Sp}{dvs:List V}{p pos:Pos}{e:OH}{es:List OH}{t:TA}(hX:Fo CX)(C:dN X.prog X.w X.K X.mg X.base CX k x ps dvs sp)(hr:Room j X.A)(ha:WA X (e::es) t)(hj:k<=j:=by decide)(hg:Gl X x:=by rfl)(hdb:(x==("__debug__":Str))=false:=by decide)(he:MU (e::es) X.env=(false,Qh e X.env)::MU es X.env:=by rfl)(hpl:(QC pos (MU es X.env)).any (·.1)=false:=by rfl):WE X (.Call (.Name x p) (e::es) [] pos) (xN sp dvs E0 t):=FO hX C (hr.mono hj) hg ha hdb he hpl
theorem aE {e:OH}{te:TE}(h:WE X e te)(hs:MU [e] X.env=(false,Qh e X.env)::MU [] X.env:=by rfl):WA X [e] (mD te uC):=ak h aZ hs
theorem aD {e f:OH}{te tf:TE}(h:WE X e te)(g:WE X f tf)(hs:MU [e,f] X.env=(false,Qh e X.env)::MU [f] X.env:=by rfl)(gs:MU [f] X.env=(false,Qh f X.env)::MU [] X.env:=by rfl):WA X [e,f] (mD te (mD tf uC)):=ak h (ak g aZ gs) hs
theorem aF {scope:Rn}{elt tg iter:OH}{ifs:List OH}{wi:TI}{g:TG}{tt:TT}{te:TE}{pos:Pos}(ts cs:List Str)(js:List Nat)(k:Nat)(hi:WI X tg iter wi)(hg:(ts++cs).Nodup->∀ {C s0 H0 fp pn},WG (bF X (ts++cs) scope (bj X scope C) C s0 H0 fp pn) tg g)(ht:∀ {C s0 H0 fp pn},Hm (bF X (ts++cs) scope (bj X scope C) C s0 H0 fp pn) ifs tt)(he:∀ {C s0 H0 fp pn},WE (bF X (ts++cs) scope (bj X scope C) C s0 H0 fp pn) elt te)(nd:(ts++cs).Nodup:=by decide +kernel)(hc:X.calm=true:=by rfl)(h1:qN scope=true:=by decide +kernel)(h2:(scope.names.all λy=>!(y.2==.free)||(X.env.cells.lookup y.1).isSome)=true:=by rfl)(h3:nE X scope cs js=true:=by rfl)(h4:cs.length=js.length:=by rfl)(h5:ts.length=k:=by rfl)(hs:∀ x,Oa iter X.env x=pure x:=by intro _;rfl):WE X (.ListComp elt [⟨tg,iter,ifs,0⟩] scope pos) (DO wi g tt te (Ah k js)):=Ej hc hi (vq h1 h2) (zx (ts:=ts) h3 h4 h5) (λ_ _ _ _ _=>hg nd) (λ_ _ _ _ _=>ht) (λ_ _ _ _ _=>he) hs
theorem cn (i:Nat){y:Str}{py spos:Pos}{scope:Rn}{elt tg iter:OH}{ifs:List OH}{wi:TI}{g:TG}{tt:TT}{te:TE}{pos:Pos}(ts cs:List Str)(js:List Nat)(k:Nat)(hN:X.N.Nodup)(hi:WI X tg iter wi)(hg:(ts++cs).Nodup->∀ {C s0 H0 fp pn},WG (bF X (ts++cs) scope (bj X scope C) C s0 H0 fp pn) tg g)(ht:∀ {C s0 H0 fp pn},Hm (bF X (ts++cs) scope (bj X scope C) C s0 H0 fp pn) ifs tt)(he:∀ {C s0 H0 fp pn},WE (bF X (ts++cs) scope (bj X scope C) C s0 H0 fp pn) elt te)(nd:(ts++cs).Nodup:=by decide +kernel)(hc:X.calm=true:=by rfl)(hi':X.N[i]?=some y:=by rfl)(hy:X.env.scope.names.lookup y=some .local:=by rfl)(h1:qN scope=true:=by decide +kernel)(h2:(scope.names.all λy=>!(y.2==.free)||(X.env.cells.lookup y.1).isSome)=true:=by rfl)(h3:nE X scope cs js=true:=by rfl)(h4:cs.length=js.length:=by rfl)(h5:ts.length=k:=by rfl)(hsw:SR (.ListComp elt [⟨tg,iter,ifs,0⟩] scope pos) (some (.Name y py)) spos.line X.env=pure true:=by rfl)(hs:∀ x,Oa iter X.env x=pure x:=by intro _;rfl):WS X (.Assign [.Name y py] (.ListComp elt [⟨tg,iter,ifs,0⟩] scope pos) spos) (C5 i wi g tt te (Ah k js)):=x' hc hN hi' hy hi (vq h1 h2) (zx (ts:=ts) h3 h4 h5) (λ_ _ _ _ _=>hg nd) (λ_ _ _ _ _=>ht) (λ_ _ _ _ _=>he) hsw hs
end
end TR
set_option Elab.async false
set_option linter.all false
set_option maxRecDepth 100000
set_option maxHeartbeats 8000000
namespace TR
open PySem PySem.Spec PyProof.Rows L2
set_option autoImplicit false
abbrev uA0:List Str:=["thing"]
abbrev uA1:List Str:=["_law_one","_law_two"]
abbrev uA2:List Str:=["_law_town_here","_law_cap"]
abbrev uA3:List Str:=["_law_town_here"]
abbrev uA4:List Str:=["one","other"]
abbrev uA5:List Str:=["self"]
abbrev uA6:List Str:=["_law_town_here","_law_cap","_law_climbs"]
abbrev uA7:List Str:=["thing","most"]
abbrev uA8:List Str:=["self","curves","square","ends"]
abbrev uA9:List Str:=["_law_town_here","_law_last","_law_cap","_law_climbs"]
abbrev uB0:List Str:=["self","curves","grid","ends"]
abbrev uB1:List Str:=["thing","knots"]
abbrev uB2:List Str:=["self","colour"]
abbrev uB3:List Str:=["_law_script"]
abbrev uB4:List Str:=["thing","many","least","most"]
abbrev uB5:List Str:=["top","below"]
abbrev uB6:List Str:=["self","white","black"]
abbrev uB7:List Str:=["_law_town_here","_law_some"]
abbrev uB8:List Str:=["_law_k"]
abbrev uB9:List Str:=["self","colour","way"]
abbrev uC0:List Str:=["self","place"]
abbrev uC1:List Str:=["_law_thing"]
abbrev uC2:List Str:=["far","whole"]
abbrev uC3:List Str:=["thing","least","most"]
abbrev uC4:List Str:=["self","knots","table"]
abbrev uC5:List Str:=["_law_town_here","_law_many"]
abbrev uC6:List Str:=["_law_town_here","_law_size"]
abbrev uC7:List Str:=["one","least","most"]
abbrev uC8:List Str:=["white","black"]
abbrev uC9:List Str:=["low","high"]
abbrev uD0:List Str:=["ends"]
abbrev uD1:List Str:=["square","colour"]
abbrev uD2:List Str:=["curves","colour"]
abbrev uD3:List Str:=["_law_w","_law_x","_law_y","_law_z"]
abbrev uD4:List Str:=["many"]
abbrev uD5:List Str:=["self","least","parts"]
abbrev uD6:List Str:=["a","b","c","numbers"]
abbrev uD7:List Str:=["place","steps"]
abbrev uD8:List Str:=["self","points"]
abbrev uD9:List Str:=["row","colour"]
abbrev uE0:List Str:=["row","other"]
abbrev uE1:List Str:=["low","high","at"]
def dh (i:Nat):Oe:=PySem.Challenge.pw_tintroads_k21_whole_slopes.main.body.getD i (.Pass ⟨0,0,0,0⟩)
abbrev mP:Oe:=dh 12
abbrev fS:Oe:=dh 13
abbrev fw:Oe:=dh 14
abbrev fg:Oe:=dh 15
abbrev m7:Oe:=dh 16
abbrev fW:Oe:=dh 17
abbrev g_:Oe:=dh 18
abbrev vn:Oe:=dh 19
abbrev j8:Oe:=dh 20
abbrev mI:Oe:=dh 21
abbrev oB:Oe:=dh 22
abbrev sV:Oe:=dh 23
abbrev kG:Oe:=dh 24
abbrev f6:Oe:=dh 25
abbrev jd:Oe:=dh 26
abbrev k7:Oe:=dh 30
abbrev tN:Oe:=dh 31
abbrev kF:Oe:=dh 32
abbrev eW:Oe:=dh 33
abbrev e6:Oe:=dh 34
abbrev lI:Oe:=dh 35
abbrev kN:Oe:=dh 36
abbrev Ea:Oe:=dh 37
abbrev mW:Oe:=dh 44
abbrev o_:Oe:=dh 45
abbrev mT:Oe:=dh 46
abbrev vQ:Oe:=dh 47
abbrev m_:Oe:=dh 48
abbrev cR:Oe:=dh 49
abbrev ij:Oe:=dh 50
abbrev vw:Oe:=dh 51
abbrev cU:Oe:=dh 52
abbrev fZ:Oe:=dh 53
abbrev rE:Oe:=dh 55
abbrev fC:Oe:=cN (dh 56) 0
abbrev jh:Oe:=cN (dh 56) 1
abbrev jc:Oe:=cN (dh 56) 2
abbrev iO:Oe:=cN (dh 56) 4
abbrev cD:Oe:=cN (dh 56) 3
abbrev gI:Oe:=cN (dh 56) 5
abbrev mR:Oe:=dh 61
abbrev kW:Oe:=dh 62
abbrev lC:Oe:=dh 63
abbrev j_:Oe:=dh 64
abbrev oU:Oe:=dh 65
abbrev e_:Oe:=cN (dh 66) 0
abbrev iJ:Oe:=cN (dh 66) 5
abbrev gE:Oe:=cN (dh 66) 1
abbrev fe:Oe:=cN (dh 66) 4
abbrev iy:Oe:=cN (dh 66) 6
abbrev b8:Oe:=cN (dh 68) 0
abbrev je:Oe:=dh 71
abbrev lf:Oe:=dh 72
abbrev fb:Oe:=dh 73
abbrev eV:Oe:=dh 74
abbrev gG:Oe:=dh 75
abbrev ji:Oe:=dh 76
abbrev kP:Oe:=dh 77
abbrev bh:Oe:=cN (dh 78) 0
abbrev cC:Oe:=cN (dh 78) 1
abbrev c7:Oe:=cN (dh 78) 3
abbrev bt:Oe:=cN (dh 79) 0
abbrev c9:Oe:=cN (dh 79) 1
abbrev dA:Oe:=cN (dh 79) 3
abbrev eK:Oe:=dh 80
abbrev kS:Oe:=dh 81
abbrev kL:Oe:=dh 83
abbrev kR:Oe:=dh 84
abbrev kQ:Oe:=dh 85
abbrev jQ:Oe:=dh 86
abbrev mH:Oe:=dh 87
abbrev lB:Oe:=dh 88
abbrev lg:Oe:=dh 89
abbrev jP:Oe:=dh 90
abbrev kc:Oe:=dh 91
abbrev j7:Oe:=dh 92
abbrev j5:Oe:=dh 93
abbrev gz:Oe:=dh 94
abbrev ju:Oe:=dh 95
abbrev jj:Oe:=dh 96
abbrev kM:Oe:=dh 97
abbrev lv:Oe:=dh 98
abbrev jo:Oe:=dh 99
abbrev iN:Oe:=dh 100
abbrev nj:Oe:=dh 101
abbrev nH:Oe:=dh 102
structure cZ (K:HD)(mg:Str->Option Mj)(w:No):Prop where
 x4:f8 K "Curve" ["points"]=true
 xc:f8 K "Ends" uC8=true
 x0:f8 K "Grid" ["knots","table"]=true
 x6:f8 K "GridProfile" ["curves","grid","bounds"]=true
 x7:f8 K "SquareProfile" ["curves","square","bounds"]=true
 xp:∃ D,mg "WAYS"=some (.ref D)/\vi K w mg D [("four","parts_by_four"),("eight","parts_by_eight")]
 xq:∃ t,mg "FEWEST_KNOTS"=some (.int 2 t)
 xr:∃ t,mg "FEWEST_POINTS"=some (.int 2 t)
 xs:∃ t,mg "GREATEST_TO_SQUARE"=some (.int 1000 t)
 xt:∃ t,mg "GREATEST_curves"=some (.int 1000 t)
 xu:∃ t,mg "GREATEST_grids"=some (.int 1000 t)
 xi:∃ t,mg "GREATEST_squares"=some (.int 4000 t)
 xv:∃ t,mg "MOST_KNOTS"=some (.int 7 t)
 xw:∃ t,mg "MOST_POINTS"=some (.int 12 t)
 xe:∃ t,mg "REACH"=some (.int 60 t)
 xj:∃ t,mg "UNIT"=some (.int 1000 t)
 xx:B1 K "Curve"=true
 xy:B1 K "Ends"=true
 xz:B1 K "Grid"=true
 x10:B1 K "GridProfile"=true
 x11:B1 K "SquareProfile"=true
 x12:∃ a,mg "STEPS"=some (.ref a)/\EK K a [[1,0,0],[0,1,0],[0,0,1]]
 xf:mg "abs"=none
 x9:mg "all"=none
 xk:mg "bool"=none
 xl:mg "dict"=none
 xm:mg "int"=none
 x2:mg "isinstance"=none
 x3:mg "len"=none
 xa:mg "list"=none
 xd:mg "max"=none
 xg:mg "min"=none
 x1:mg "range"=none
 xn:mg "set"=none
 xh:mg "sorted"=none
 x13:mg "str"=none
 xo:mg "sum"=none
 x5:mg "tuple"=none
 x8:mg "zip"=none
 x14:ID K "GridProfile" "SquareProfile"=true
 x15:du K mg "is_whole" mP uA0 []
 x16:du K mg "is_whole_within" fS uC3 []
 x17:du K mg "is_tuple_within" fw uB4 []
 x18:du K mg "greatest_measure" fg uA4 []
 x19:du K mg "is_share" m7 uA0 []
 x1a:du K mg "refuse_no_share" fW uA0 []
 xb:du K mg "share" g_ uB5 []
 x1b:du K mg "share" g_ uB5 [.int 1]
 x1c:du K mg "added" vn uA4 []
 x1d:du K mg "multiplied" j8 uA4 []
 x1e:du K mg "floor_of" mI ["one"] []
 x1f:du K mg "is_less" oB uA4 []
 x1g:du K mg "sum_of" sV uD4 []
 x1h:du K mg "is_within" kG uC7 []
 x1i:du K mg "over_one_below" f6 ["numbers"] []
 x1j:du K mg "greatest_of" jd uD4 []
 x1k:du K mg "is_colour" k7 uA0 []
 x1l:du K mg "is_row" tN uA0 []
 x1m:du K mg "is_square" kF uA0 []
 x1n:du K mg "refuse_no_square" eW uA0 []
 x1o:du K mg "refuse_no_colour" e6 uA0 []
 x1p:du K mg "whole_sum" lI uE0 []
 x1q:du K mg "share_sum" kN uD9 []
 x1r:du K mg "led" Ea uD1 []
 x1s:du K mg "is_knots" mW uA0 []
 x1t:du K mg "is_knot" o_ uB1 []
 x1u:du K mg "is_worth" mT uA0 []
 x1v:du K mg "apart" vQ ["knots"] []
 x1w:du K mg "is_table" m_ uB1 []
 x1x:du K mg "refuse_no_device_colour" cR uA0 []
 x1y:du K mg "places_below" ij uD4 []
 x1z:du K mg "moved" vw uD7 []
 x3d:FP K mg "parts_by_four" cU uC2
 x20:du K mg "parts_by_eight" fZ uC2 []
 x21:du K mg "is_way" rE uA0 []
 x22:iM K mg "Grid" "__init__" "Grid.__init__" fC uC4 []
 x23:iM K mg "Grid" "knot" "Grid.knot" jh uC0 []
 x24:iM K mg "Grid" "size" "Grid.size" jc uA5 []
 x25:iM K mg "Grid" "mixed" "Grid.mixed" iO uD5 []
 x3e:jI K mg "Grid" "worth" "Grid.worth" cD uB9 [] 2 0 [.str "four"]
 x26:iM K mg "Grid" "widest" "Grid.widest" gI uA5 []
 x27:du K mg "is_point" mR uA0 []
 x28:du K mg "is_onward" kW uC9 []
 x29:du K mg "is_points" lC uA0 []
 x2a:du K mg "stretch_to" j_ ["pairs","at"] []
 x2b:du K mg "on_line" oU uE1 []
 x2c:iM K mg "Curve" "__init__" "Curve.__init__" e_ uD8 []
 x2d:iM K mg "Curve" "last" "Curve.last" iJ uA5 []
 x2e:iM K mg "Curve" "value" "Curve.value" gE uC0 []
 x2f:iM K mg "Curve" "steepest" "Curve.steepest" fe uA5 []
 x2g:iM K mg "Curve" "ends" "Curve.ends" iy uA5 []
 x3f:jI K mg "Ends" "__init__" "Ends.__init__" b8 uB6 uC8 1 2 []
 x2h:du K mg "is_curve_to" je uA7 []
 x2i:du K mg "is_curves" lf uA7 []
 x2j:du K mg "refuse_no_curves" fb uA7 []
 x2k:du K mg "refuse_no_bounds" eV uA0 []
 x2l:du K mg "copied_curves" gG ["curves"] []
 x2m:du K mg "copied_ends" ji uD0 []
 x2n:du K mg "values_at" kP uD2 []
 x3g:jI K mg "SquareProfile" "__init__" "SquareProfile.__init__" bh uA8 uD0 3 1 []
 x2o:iM K mg "SquareProfile" "to_worth" "SquareProfile.to_worth" cC uB2 []
 x2p:iM K mg "SquareProfile" "slopes" "SquareProfile.slopes" c7 uA5 []
 x3h:jI K mg "GridProfile" "__init__" "GridProfile.__init__" bt uB0 uD0 3 1 []
 x2q:iM K mg "GridProfile" "to_worth" "GridProfile.to_worth" c9 uB2 []
 x2r:iM K mg "GridProfile" "slopes" "GridProfile.slopes" dA uA5 []
 x2s:du K mg "refuse_no_profile" eK uA0 []
 x2t:du K mg "slope_sum" kS ["profile"] []
 x2u:du K mg "_law_town" kL uB3 []
 x2v:du K mg "_law_draw" kR uC5 []
 x2w:du K mg "_law_pick" kQ uB7 []
 x2x:du K mg "_law_whole" jQ uC1 []
 x2y:du K mg "_law_low" mH uA1 []
 x2z:du K mg "_law_plus" lB uA1 []
 x30:du K mg "_law_less" lg uA1 []
 x31:du K mg "_law_times" jP uA1 []
 x32:du K mg "_law_below" kc uA1 []
 x33:du K mg "_law_share" j7 uA2 []
 x34:du K mg "_law_three" j5 uA2 []
 x35:du K mg "_law_is_share" gz uC1 []
 x36:du K mg "_law_points" ju uA9 []
 x37:du K mg "_law_square" jj uA3 []
 x38:du K mg "_law_grid" kM uC6 []
 x39:du K mg "_law_ends" lv uA3 []
 x3a:du K mg "_law_curves" jo uA6 []
 x3b:du K mg "_law_profile" iN uA3 []
 x3c:du K mg "_law_due" nj ["_law_parts"] []
section
variable {P:MS}{w:No}{K:HD}{mg:Str->Option Mj}{base:Os}
theorem ya:ao uA0 uA0 (ah mP):=df
inductive yo (K:HD)(vs:List V)(H:Hp)(Q:VK)(_:XK):Prop
 |mk (x T) (_:vs=[x]) (_:Ty K H x T) (_:Q (.bl (xI x)) H)
theorem gy (T:cZ K mg w):dN P w K mg base cP 1 "is_whole" uA0 [] (yo K):=by
  refine T.x15.cal ya (bb:=λ_ _ _ _ _ H vs Q E hr h=>?_);obtain⟨x,S,rfl,ty,q⟩:=h;refine⟨_,(cM.go (ag (ar (dX (au (kq (K:=K) rfl) (by rfl) T.x2 aK (aD (aj 0) (bU (v:=.ty "int") rfl T.xm ER rfl))) (gj (AA (au (kq (K:=K) rfl) (by rfl) T.x2 aK (aD (aj 0) (bU (v:=.ty "bool") rfl T.xk AR rfl))))))))),?_⟩;obtain⟨b,e1,e2⟩:=DW ty;refine⟨_,rfl,_,_,_,b,rfl,ty,e1,b,rfl,?_⟩;cases b with
  |false=>
   refine bA ?_;rw[show xI x=false from e2] at q;exact q
  |true=>
   obtain⟨c,e3,e4⟩:=(show ∃ c,iG S "bool"=some c/\xI x=!c from e2)
   refine aW ⟨_,rfl,_,_,_,c,rfl,ty,e3,c,rfl,?_⟩;rw[e4] at q;exact q
theorem mU:ao uC3 uC3 (ah fS):=df
inductive mM (K:HD)(vs:List V)(H:Hp)(Q:VK)(_:XK):Prop
 |mk (x d l m) (_:vs=[x,.int l,.int m]) (_:ax K H d x) (_:Q (.bl (Fx l m d)) H)
theorem eY (T:cZ K mg w):dN P w K mg base cP 2 "is_whole_within" uC3 [] (mM K):=by
  refine T.x16.cal mU (bb:=λ_ _ _ _ _ H vs Q E hr h=>?_);obtain⟨x,d,l,m,rfl,hx,q⟩:=h;refine⟨_,(cM.go (ag (ar (dX (ac ay (gy T) hr (aE (aj 0))) (gj (uS pM pM (aj 1) (aj 0) (aj 2))))))),?_⟩;refine⟨_,rfl,_,_,rfl,hx.ty,_,rfl,?_⟩;cases hx with
  |int i=>
   refine aW ⟨_,rfl,_,rfl,_,_,rfl,rfl,decide (l<=i),rfl,?_⟩;refine f9 (λhc=>?_) (λhc=>?_)
   ·refine⟨_,rfl,_,_,rfl,rfl,?_⟩;have q:Q (.bl (decide (l<=i)&&decide (i<=m))) H:=q;rw[hc,SS] at q;exact q
   ·have hc:decide (l<=i)=false:=by simpa using hc
    have q:Q (.bl (decide (l<=i)&&decide (i<=m))) H:=q;rw[hc,Qi] at q;exact q
  |non=>exact bA q
  |bl b=>exact bA q
  |str z=>exact bA q
  |lst h1 h2=>exact bA q
  |tup h1 h2=>exact bA q
  |dct h1=>exact bA q
theorem ni:ao uB4 uB4 (ah fw):=df
inductive mL (K:HD)(vs:List V)(H:Hp)(Q:VK)(_:XK):Prop
 |mk (x:V) (ns:List Int) (n l m:Int) (_:vs=[x,.int n,.int l,.int m]) (_:ax K H (.tuple (ns.map NR)) x) (_:n=ns.length) (_:ns.length<=1000) (_:∀ H',af H H'->Q (.bl (ns.all λk=>decide (l<=k)&&decide (k<=m))) H')
theorem fh (T:cZ K mg w):dN P w K mg base cP 3 "is_tuple_within" uB4 [] (mL K):=by
  refine T.x17.cal ni (bb:=λ_ _ _ _ _ H vs Q E hr h=>?_);obtain⟨x,ns,n,l,m,rfl,hx,rfl,hl,q⟩:=h;refine⟨_,(cM.go (ab (a_ (WW.pt (dG (aX (aS (au (kq (K:=K) rfl) (by rfl) T.x2 aK (aD (aj 0) (bU (v:=.ty "tuple") rfl T.x5 cJ rfl))))) (dB (aR mN (au (gU (K:=K) rfl) (by rfl) T.x3 dQ (aE (aj 0))) (aj 1) (aV _))))) (ag (ar gg)) aH)
   (ag (ar (au (mz (K:=K) rfl rfl) (by rfl) T.x9 jk (aE (aF ["number"] ["least","most"] [2,3] 1 (bx (K:=K) rfl (aj 0)) (λnd=>(ai 0 nd)) aA (ac ay (eY T) hr (ak (aj 0) (ak (aj 1) (ak (aj 2) aZ))))))))))),?_⟩
  refine⟨_,rfl,_,_,_,true,rfl,hx.ty,(show iG "tuple" "tuple"=some true by decide +kernel),_,rfl,bA ?_⟩;obtain⟨a,xs,rfl,ha,hds⟩:=aN (b:=false) hx;have hlen:=hds.length;rw[Mq] at hlen;refine⟨_,rfl,a,_,rfl,o7 ha,_,rfl,_,_,rfl,rfl,false,by show V.bl (!decide ((xs.length:Int)=ns.length))=_;rw[Ms (by lia)];rfl,bA ?_⟩;refine⟨_,rfl,a,false,rfl,⟨_,ha⟩,kX (f:=λd=>.bool (Fx l m d)) ha hds (by rw[Mq];exact hl) (λi d x H2 hd s2 hx2 R kk S=>?_) (λys H2 s2 hys D hD=>?_)⟩
  ·exact aW (B:=S H2) ⟨_,rfl,_,rfl,_,rfl,x,d,l,m,rfl,hx2,kk _ _ ⟨af.refl _,.bl _⟩⟩
  ·have hys:az K H2 (((ns.map NR).map (Fx l m)).map Qv) ys:=by rw[P9];exact hys
   have e:=fG hys;subst e;refine⟨D,_,rfl,bH.of ae,?_⟩;have e:((ns.map NR).map (Fx l m)).all id=ns.all λk=>decide (l<=k)&&decide (k<=m):=by
    rw[P9,List.all_map];rfl
   rw[e];exact q _ (s2.trans (af.new hD))
theorem eN:ao uA4 uA4 (ah fg):=df
inductive mj (_:HD)(vs:List V)(H:Hp)(Q:VK)(_:XK):Prop
 |mk (a b) (_:vs=[.int a,.int b]) (_:Q (.int (NV a b)) H)
theorem gS (T:cZ K mg w):dN P w K mg base cP 1 "greatest_measure" uA4 [] (mj K):=by
  refine T.x18.cal eN (bb:=λ_ _ _ _ _ H vs Q E hr h=>?_);obtain⟨a,b,rfl,q⟩:=h;refine⟨_,(cM.go (ab (lU (i:=0) (j:=1) rfl eN.nd rfl rfl (by decide) rfl rfl (aD (au nZ (by rfl) T.xf vN (aE (aj 0))) (au nZ (by rfl) T.xf vN (aE (aj 1)))) rfl)
   (ab (oY Nr (aR u8 (aj 1) aa (aV _)) (ag (lU (i:=0) (j:=1) rfl eN.nd rfl rfl (by decide) rfl rfl (aD (aj 1) (ap lh (aj 0) (aj 1))) rfl)))
   (ag (ar (aj 0)))))),?_⟩
  refine⟨_,rfl,_,rfl,_,rfl,_,rfl,_,_,rfl,?_⟩;refine⟨λm σ H'=>∃ x y:Int,σ=[some (.int x),some (.int y)]/\H'=H/\0<=x/\0<=y/\NV x y=NV a b/\m=y.toNat,⟨_,_,_,rfl,rfl,?_,?_,?_,rfl⟩,?_⟩
  ·split<;>lia
  ·split<;>lia
  ·rw[Bl]
  ·rintro m σ H' ⟨x,y,rfl,rfl,hx,hy,hg,rfl⟩;refine⟨_,rfl,_,_,rfl,rfl,_,rfl,?_⟩;refine f9 (λhc=>?_) (λhc=>?_)
   ·have hc:=Nx hc;refine⟨_,λ_ _ z=>z,?_⟩;refine⟨_,rfl,_,rfl,_,rfl,_,_,rfl,rfl,hc,_,_,rfl,?_⟩;have h1:=Pj x (show y≠0 by lia);have h2:=OI x hc;exact⟨(x%y).toNat,by lia,y,x%y,rfl,rfl,hy,h1,by rw[xJ hx hc];exact hg,rfl⟩
   ·have hc:¬ (0<y):=λz=>hc (Ms z)
    have hy0:y=0:=by lia
    subst hy0;refine⟨_,rfl,?_⟩;have e:x=(NV a b:Int):=by
     rw[<- hg,UG];lia
    rw[e];exact q
theorem kK:ao ["thing","top","below"] uA0 (ah m7):=df
inductive yK (K:HD)(vs:List V)(H:Hp)(Q:VK)(_:XK):Prop
 |mk (x d) (_:vs=[x]) (_:ax K H d x) (_:Q (.bl (shB d)) H)
theorem lE (T:cZ K mg w):dN P w K mg base cP 2 "is_share" uA0 [] (yK K):=by
  refine T.x19.cal kK (bb:=λ_ _ _ _ _ H vs Q E hr h=>?_);obtain⟨x,d,rfl,hd,q⟩:=h;refine⟨_,(cM.go (ab (a_ (WW.pt (dG (aX (aS (au (kq (K:=K) rfl) (by rfl) T.x2 aK (aD (aj 0) (bU (v:=.ty "tuple") rfl T.x5 cJ rfl))))) (dB (aR mN (au (gU (K:=K) rfl) (by rfl) T.x3 dQ (aE (aj 0))) aa (aV _))))) (ag (ar gg)) aH)
   (ab (i7 (aj 0) (cS (K:=K) (n:=2) rfl rfl (aw (ai 1 kK.nd) (aw (ai 2 kK.nd) bu))))
   (ab (a_ (WW.pt (dG (aX (aS (ac ay (gy T) hr (aE (aj 1))))) (dG (aX (aS (ac ay (gy T) hr (aE (aj 2))))) (dB (aR uZ (aj 2) aa (aV _)))))) (ag (ar gg)) aH)
   (ag (ar (cH eI (ac ay (gS T) hr (aD (aj 1) (aj 2))) aa (aV _)))))))),?_⟩
  cases hd with
  |non=>exact⟨_,rfl,_,_,_,false,rfl,.non,by decide +kernel,_,rfl,aW (aW q)⟩
  |bl b=>exact⟨_,rfl,_,_,_,false,rfl,.bl b,by decide +kernel,_,rfl,aW (aW q)⟩
  |int i=>exact⟨_,rfl,_,_,_,false,rfl,.int i,by decide +kernel,_,rfl,aW (aW q)⟩
  |str z=>exact⟨_,rfl,_,_,_,false,rfl,.str z,by decide +kernel,_,rfl,aW (aW q)⟩
  |dct h1=>exact⟨_,rfl,_,_,_,false,rfl,.dK h1,(show iG "dict" "tuple"=some false by decide +kernel),_,rfl,aW (aW q)⟩
  |lst h1 h2=>exact⟨_,rfl,_,_,_,false,rfl,(ax.lst h1 h2).ty,(show iG "list" "tuple"=some false by decide +kernel),_,rfl,aW (aW q)⟩
  |@tup p xs ds h1 h2=>
   refine⟨_,rfl,_,_,_,true,rfl,.tup h1,by decide +kernel,_,rfl,bA ?_⟩;refine⟨_,rfl,p,xs,rfl,.inr (dF.of h1),_,_,rfl,rfl,_,rfl,?_⟩;have hl:=h2.length;refine f9 (λhc=>?_) (λhc=>?_)
   ·have hc:¬ ((xs.length:Int)=2):=P0 (by simpa using hc);have e:shB (.tuple ds)=false:=FS (by lia);rw[e] at q;exact q
   ·have hc:(xs.length:Int)=2:=by simpa using hc
    cases h2 with
    |nil=>simp at hc
    |@cons d1 x1 _ _ g1 g2=>
     cases g2 with
     |nil=>simp at hc
     |@cons d2 x2 _ _ g3 g4=>
      cases g4 with
      |cons _ _=>simp at hc;lia
      |nil=>
       refine⟨_,rfl,p,_,rfl,dF.of h1,rfl,_,_,rfl,_,_,rfl,rfl,?_⟩;refine⟨_,rfl,_,_,rfl,g1.ty,_,rfl,?_⟩;refine f9 (λhc=>?_) (λhc=>?_)
       ·refine aW ?_;have e:xI x1=false:=by simpa using hc
        rw[Ki g1 e] at q;exact q
       ·have e1:xI x1=true:=by simpa using hc
        refine⟨_,rfl,_,_,rfl,g3.ty,_,rfl,?_⟩;refine f9 (λhc=>?_) (λhc=>?_)
        ·refine aW ?_;have e:xI x2=false:=by simpa using hc
         rw[JN g3 e] at q;exact q
        ·have e2:xI x2=true:=by simpa using hc
         obtain⟨n,rfl,rfl⟩:=AI g1 e1;obtain⟨m,rfl,rfl⟩:=AI g3 e2;refine⟨_,rfl,_,_,rfl,rfl,_,rfl,?_⟩;have e:shB (qA n m)=(decide (1<=m)&&decide (NV n m=1)):=rfl;refine f9 (λhc=>?_) (λhc=>?_)
         ·have hc:m<1:=Nx hc;rw[e,Na (show ¬ (1<=m) by lia)] at q;exact q
         ·have hc:¬ (m<1):=P0 (by simpa using hc);refine⟨_,rfl,_,rfl,n,m,rfl,_,_,rfl,rfl,?_⟩;rw[e,Ms (show 1<=m by lia),SS] at q;have e3:decide ((NV n m:Int)=1)=decide (NV n m=1):=by
           by_cases z:NV n m=1
           ·rw[Ms z,Ms (by lia)]
           ·rw[Na z,Na (by lia)]
          show Q (.bl (decide ((NV n m:Int)=1))) H;rw[e3];exact q
theorem mY:ao uA0 uA0 (ah fW):=df
inductive ng (K:HD)(vs:List V)(H:Hp)(Q:VK)(_:XK):Prop
 |mk (x d) (_:vs=[x]) (_:ax K H d x) (_:shB d=true) (_:Q .non H)
theorem cK (T:cZ K mg w):dN P w K mg base cP 3 "refuse_no_share" uA0 [] (ng K):=by
  refine T.x1a.cal mY (bb:=λ_ _ _ _ _ H vs Q E hr h=>?_);obtain⟨x,d,rfl,hd,hs,q⟩:=h;refine⟨_,(cM.go (ag (a_ (aX (aS (ac ay (lE T) hr (aE (aj 0))))) (ag bE) aH))),?_⟩;refine⟨_,rfl,x,d,rfl,hd,_,rfl,?_⟩;rw[hs];exact bA q
theorem rA:ao ["top","below","measure"] uB5 (ah g_):=df
inductive yJ (K:HD)(vs:List V)(H:Hp)(Q:VK)(_:XK):Prop
 |mk (t b:Int) (_:vs=[.int t,.int b]) (_:b≠0) (_:Sm 8000 b) (_:Sh K H t b Q)
theorem dC (T:cZ K mg w) {dvs:List V} (D:du K mg "share" g_ uB5 dvs):dN P w K mg base cP 2 "share" uB5 dvs (yJ K):=by
  refine D.cal rA (bb:=λ_ _ _ _ _ H vs Q E hr h=>?_);obtain⟨t,b,rfl,hb,sb,q⟩:=h;refine⟨_,(cM.go (ab (a_ (WW.pt (dG (aX (aS (ac ay (gy T) hr (aE (aj 0))))) (dB (aX (aS (ac ay (gy T) hr (aE (aj 1)))))))) (ag bE) aH)
   (ab (a_ (aR eI (aj 1) aa (aV _)) (ag bE) aH)
   (ab (av 2 rA.nd (ac ay (gS T) hr (aD (aj 0) (aj 1))))
   (ab (a_ (aR uZ (aj 1) aa (aV _)) (ag (av 2 rA.nd (wS wO (aj 2)))) aH)
   (ag (ar (be (aD (ap dR (aj 0) (aj 2)) (ap dR (aj 1) (aj 2))))))))))),?_⟩
  refine⟨_,rfl,_,_,rfl,.int t,_,rfl,bA ?_⟩;refine⟨_,rfl,_,_,rfl,.int b,_,rfl,bA ?_⟩;refine⟨_,rfl,_,_,rfl,rfl,_,rfl,?_⟩;refine f9 (λhc=>absurd (Nx hc) hb) (λ_=>?_);refine⟨_,rfl,_,rfl,t,b,rfl,?_⟩;refine⟨_,rfl,_,_,rfl,rfl,_,rfl,?_⟩;have gb:Sm 8000 (NV t b:Int):=sb.le (DF hb);have gn:(NV t b:Int)≠0:=by
   have:=PU t hb;lia
  refine f9 (λhc=>?_) (λhc=>?_)
  ·have hc:=Nx hc;refine⟨_,rfl,_,rfl,?_⟩;refine⟨_,rfl,_,rfl,_,_,rfl,rfl,⟨by lia,gb.neg⟩,_,rfl,_,rfl,_,_,rfl,rfl,⟨by lia,gb.neg⟩,l7,λp hp=>?_⟩;exact q _ _ _ _ (af.new hp) (pI ae) (zV hb rfl (by rw[Nd hc]))
  ·have hc:¬ (b<0):=λz=>hc (Ms z)
   refine⟨_,rfl,_,rfl,_,_,rfl,rfl,⟨gn,gb⟩,_,rfl,_,rfl,_,_,rfl,rfl,⟨gn,gb⟩,l7,λp hp=>?_⟩;exact q _ _ _ _ (af.new hp) (pI ae) (zV hb rfl (by rw[MT hc]))
theorem Fe:ao uA4 uA4 (ah vn):=df
inductive DX (K:HD)(vs:List V)(H:Hp)(Q:VK)(_:XK):Prop
 |mk (x y n d m e) (_:vs=[x,y]) (_:ax K H (qA n d) x) (_:ax K H (qA m e) y) (_:Ok 3900 n d) (_:Ok 3900 m e) (_:Sh K H (n*e+m*d) (d*e) Q)
theorem CM (T:cZ K mg w):dN P w K mg base cP 4 "added" uA4 [] (DX K):=by
  refine T.x1c.cal Fe (bb:=λ_ _ _ _ _ H vs Q E hr h=>?_);obtain⟨x,y,n,d,m,e,rfl,hx,hy,ox,oy,q⟩:=h;obtain⟨a,rfl,ha⟩:=bn hx;obtain⟨b,rfl,hb⟩:=bn hy;refine⟨_,(cM.go (ab (bG (ac ay (cK T) hr (aE (aj 0))))
   (ab (bG (ac ay (cK T) hr (aE (aj 1))))
   (ag (ar (ac ay (dC T T.xb) hr (aD (ap cQ (ap aO (am K (aj 0) aa) (am K (aj 1) aa)) (ap aO (am K (aj 1) aa) (am K (aj 0) aa))) (ap aO (am K (aj 0) aa) (am K (aj 1) aa))))))))),?_⟩
  refine⟨_,rfl,_,_,rfl,hx,ox.shB,?_⟩;refine⟨_,rfl,_,_,rfl,hy,oy.shB,?_⟩;have c:∀ {i j:Int},Sm 3900 i->Sm 3900 j->n0 i j:=λh1 h2=>.inl ⟨h1.mono (by decide),h2.mono (by decide)⟩
  refine⟨_,rfl,cr ha ⟨_,rfl,bN hb ⟨_,_,rfl,rfl,c ox.sn oy.sd,?_⟩⟩⟩;refine⟨_,rfl,cr hb ⟨_,rfl,bN ha ⟨_,_,rfl,rfl,c oy.sn ox.sd,_,_,rfl,rfl,?_⟩⟩⟩;refine⟨_,rfl,bN ha ⟨_,rfl,bN hb ⟨_,_,rfl,rfl,c ox.sd oy.sd,?_⟩⟩⟩;exact⟨_,_,rfl,Nz ox.ne oy.ne,(ox.sd.mul oy.sd).mono (by decide),q⟩
theorem uA:ao uA4 uA4 (ah j8):=df
inductive ul (K:HD)(vs:List V)(H:Hp)(Q:VK)(_:XK):Prop
 |mk (x y n d m e) (_:vs=[x,y]) (_:ax K H (qA n d) x) (_:ax K H (qA m e) y) (_:Ok 3900 n d) (_:Ok 3900 m e) (_:Sh K H (n*m) (d*e) Q)
theorem jv (T:cZ K mg w):dN P w K mg base cP 4 "multiplied" uA4 [] (ul K):=by
  refine T.x1d.cal uA (bb:=λ_ _ _ _ _ H vs Q E hr h=>?_);obtain⟨x,y,n,d,m,e,rfl,hx,hy,ox,oy,q⟩:=h;obtain⟨a,rfl,ha⟩:=bn hx;obtain⟨b,rfl,hb⟩:=bn hy;refine⟨_,(cM.go (ab (bG (ac ay (cK T) hr (aE (aj 0))))
   (ab (bG (ac ay (cK T) hr (aE (aj 1))))
   (ag (ar (ac ay (dC T T.xb) hr (aD (ap aO (am K (aj 0) aa) (am K (aj 1) aa)) (ap aO (am K (aj 0) aa) (am K (aj 1) aa))))))))),?_⟩
  refine⟨_,rfl,_,_,rfl,hx,ox.shB,?_⟩;refine⟨_,rfl,_,_,rfl,hy,oy.shB,?_⟩;have c:∀ {i j:Int},Sm 3900 i->Sm 3900 j->n0 i j:=λh1 h2=>.inl ⟨h1.mono (by decide),h2.mono (by decide)⟩
  refine⟨_,rfl,cr ha ⟨_,rfl,cr hb ⟨_,_,rfl,rfl,c ox.sn oy.sn,?_⟩⟩⟩;refine⟨_,rfl,bN ha ⟨_,rfl,bN hb ⟨_,_,rfl,rfl,c ox.sd oy.sd,?_⟩⟩⟩;exact⟨_,_,rfl,Nz ox.ne oy.ne,(ox.sd.mul oy.sd).mono (by decide),q⟩
theorem yq:ao ["one"] ["one"] (ah mI):=df
inductive zd (K:HD)(vs:List V)(H:Hp)(Q:VK)(_:XK):Prop
 |mk (x n d) (_:vs=[x]) (_:ax K H (qA n d) x) (_:Ok 3900 n d) (_:Q (.int (n.fdiv d)) H)
theorem y8 (T:cZ K mg w):dN P w K mg base cP 4 "floor_of" ["one"] [] (zd K):=by
  refine T.x1e.cal yq (bb:=λ_ _ _ _ _ H vs Q E hr h=>?_);obtain⟨x,n,d,rfl,hx,ox,q⟩:=h;obtain⟨a,rfl,ha⟩:=bn hx;refine⟨_,(cM.go (ab (bG (ac ay (cK T) hr (aE (aj 0))))
   (ag (ar (ap dR (am K (aj 0) aa) (am K (aj 0) aa)))))),?_⟩
  refine⟨_,rfl,_,_,rfl,hx,ox.shB,?_⟩;exact⟨_,rfl,cr ha ⟨_,rfl,bN ha ⟨_,_,rfl,rfl,⟨ox.ne,ox.sd.mono (by decide)⟩,q⟩⟩⟩
theorem zO:ao uA4 uA4 (ah oB):=df
inductive zr (K:HD)(vs:List V)(H:Hp)(Q:VK)(_:XK):Prop
 |mk (x y:V) (p q:Rat) (_:vs=[x,y]) (_:ax K H (rD p) x) (_:ax K H (rD q) y) (_:Bq 3900 p) (_:Bq 3900 q) (_:Q (.bl (decide (p<q))) H)
theorem Af (T:cZ K mg w):dN P w K mg base cP 1 "is_less" uA4 [] (zr K):=by
  refine T.x1f.cal zO (bb:=λ_ _ _ _ _ H vs Q E hr h=>?_);obtain⟨x,y,p,r,rfl,hx,hy,ox,oy,q⟩:=h;obtain⟨a,rfl,ha⟩:=bn hx;obtain⟨b,rfl,hb⟩:=bn hy;refine⟨_,(cM.go (ag (ar (cH uZ (ap aO (am K (aj 0) aa) (am K (aj 1) aa)) (ap aO (am K (aj 1) aa) (am K (aj 0) aa)) (aV _))))),?_⟩;have c:∀ {i j:Int},Sm 3900 i->Sm 3900 j->n0 i j:=λh1 h2=>.inl ⟨h1.mono (by decide),h2.mono (by decide)⟩
  refine⟨_,rfl,cr ha ⟨_,rfl,bN hb ⟨_,_,rfl,rfl,c ox.sn oy.sd,?_⟩⟩⟩;refine⟨_,rfl,cr hb ⟨_,rfl,bN ha ⟨_,_,rfl,rfl,c oy.sn ox.sd,_,_,rfl,rfl,?_⟩⟩⟩;rw[show decide (p<r)=decide (p.num*(r.den:Int)<r.num*(p.den:Int)) from Te.mpr (Rat.lt_iff p r)] at q;exact q
theorem lP:ao ["many","total","one"] uD4 (ah sV):=df
inductive CA (K:HD)(vs:List V)(H:Hp)(Q:VK)(_:XK):Prop
 |mk (x:V) (k:Bool) (b:Nat) (rs:List Rat) (_:vs=[x]) (_:ax K H (xY k (rs.map rD)) x) (_:(∀ r∈rs,Bq b r)) (_:b<=3900) (_:rs.length*(b+1)+1<=3900) (_:j0 K H (ye rs) Q)
theorem uK (T:cZ K mg w):dN P w K mg base cP 5 "sum_of" uD4 [] (CA K):=by
  refine T.x1g.cal lP (bb:=λ_ _ _ _ _ H vs Q E hr h=>?_);obtain⟨x,k,b,rs,rfl,hx,br,b1,b2,q⟩:=h;obtain⟨a,xs,rfl,ha,hxs⟩:=aN hx;have lx:=hxs.length;rw[Mq] at lx;refine⟨_,(cM.go (ab (av 1 lP.nd (ac ay (dC T T.x1b) hr (aE aa)))
   (ab (eA Nr rfl (bx (K:=K) rfl (aj 0)) (ai 2 lP.nd) (ag (av 1 lP.nd (ac ay (CM T) hr (aD (aj 1) (aj 2))))))
   (ag (ar (aj 1)))))),?_⟩
  refine⟨0,1,rfl,by decide,by unfold Sm;decide,λv n d H1 s1 hv lw=>?_⟩;obtain⟨rfl,rfl⟩:=mO (by decide) lw (Fi 1);have ha1:=ck.same s1 ha;refine⟨_,rfl,a,k,rfl,⟨_,ha1⟩,ny (λi σ H'=>∃ v o2,σ=[some (.ref a),some v,o2]/\af H1 H'/\ax K H' (rD (ye (rs.take i))) v)
   ⟨_,_,rfl,af.refl _,hv⟩ (λi σ H2 hi ⟨_,_,_,s2,_⟩=>ck.same s2 ha1) ?_ ?_⟩
  ·rintro i w σ H2 ew ⟨v,o2,rfl,s2,hv2⟩;obtain⟨d,ed,hd⟩:=(az.same (s1.trans s2) hxs).get ew;obtain⟨r,er,rfl⟩:=wm ed;have hi:i<rs.length:=(Mu.mp er).1;refine⟨_,rfl,_,rfl,_,_,_,_,_,_,rfl,hv2,hd,((A3 br i (by lia)).mono ?_),(br r (ME er)).mono b1,j0.add λv5 H5 s5 hv5=>?_⟩
   ·exact MQ (Ud (Ue _ (Op hi)) 1) b2
   ·exact⟨v5,_,rfl,s2.trans s5,by rw[cw er,u9];exact hv5⟩
  ·rintro σ H2 ⟨v,o2,rfl,s2,hv2⟩;rw[<- lx,O0] at hv2;exact⟨_,rfl,q _ _ (s1.trans s2) hv2⟩
theorem we:ao uC7 uC7 (ah kG):=df
inductive vE (K:HD)(vs:List V)(H:Hp)(Q:VK)(_:XK):Prop
 |mk (x:V) (p:Rat) (l m:Int) (_:vs=[x,.int l,.int m]) (_:ax K H (rD p) x) (_:Bq 3900 p) (_:Sm 60 l) (_:Sm 60 m) (_:Q (.bl (decide (l*(p.den:Int)<=p.num)&&decide (p.num<=m*(p.den:Int)))) H)
theorem nN (T:cZ K mg w):dN P w K mg base cP 1 "is_within" uC7 [] (vE K):=by
  refine T.x1h.cal we (bb:=λ_ _ _ _ _ H vs Q E hr h=>?_);obtain⟨x,p,l,m,rfl,hx,ox,sl,sm,q⟩:=h;obtain⟨a,rfl,ha⟩:=bn hx;refine⟨_,(cM.go (ag (ar (uS pM pM (ap aO (aj 1) (am K (aj 0) aa)) (am K (aj 0) aa) (ap aO (aj 2) (am K (aj 0) aa)))))),?_⟩;refine⟨_,rfl,_,rfl,bN ha ⟨_,_,rfl,rfl,.inr (sl.mono (by decide)),_,rfl,cr ha ⟨_,_,rfl,rfl,_,rfl,?_⟩⟩⟩;cases hc:decide (l*(p.den:Int)<=p.num) with
  |true=>
   rw[hc,SS] at q;exact aW ⟨_,rfl,_,rfl,bN ha ⟨_,_,rfl,rfl,.inr (sm.mono (by decide)),_,_,rfl,rfl,q⟩⟩
  |false=>
   rw[hc,Qi] at q;exact bA q
theorem dJ:ao ["numbers","below","number"] ["numbers"] (ah f6):=df
inductive nV (K:HD)(vs:List V)(H:Hp)(Q:VK)(_:XK):Prop
 |mk (x:V) (k:Bool) (b:Nat) (rs:List Rat) (_:vs=[x]) (_:ax K H (xY k (rs.map rD)) x) (_:(∀ r∈rs,Bq b r)) (_:rs.length<=500) (_:b<=7900) (_:rs.length*b+b+1<=7900) (_:∀ (v:V) (H':Hp),af H H'->ax K H' (.tuple [.list (rs.map λr=>.int (ov (cW rs) r)),.int (cW rs)]) v->Q v H')
theorem iY (T:cZ K mg w):dN P w K mg base cP 1 "over_one_below" ["numbers"] [] (nV K):=by
  refine T.x1i.cal dJ (bb:=λ_ _ _ _ _ H vs Q E hr h=>?_);obtain⟨x,k,b,rs,rfl,hx,br,l5,b7,lb,q⟩:=h;obtain⟨a,xs,rfl,ha,hxs⟩:=aN hx;have lx:=hxs.length;rw[Mq] at lx;refine⟨_,(cM.go (ab (av 1 dJ.nd aa)
   (ab (eA Nr rfl (bx (K:=K) rfl (aj 0)) (ai 2 dJ.nd) (ag (xA (i:=1) dJ.nd rfl (by first|exact Vo rfl|exact Uj rfl) (am K (aj 2) aa) CO)))
   (ag (ar (be (aD (aF ["top","part"] ["below"] [1] 2 (bx (K:=K) rfl (aj 0)) (λnd=>(cS (K:=K) (n:=2) rfl rfl (aw (ai 0 nd) (aw (ai 1 nd) bu)))) aA (ap aO (aj 0) (ap dR (aj 2) (aj 1)))) (aj 1)))))))),?_⟩
  refine⟨_,rfl,a,k,rfl,⟨_,ha⟩,ny (λi σ H'=>∃ o2,σ=[some (.ref a),some (.int (cW (rs.take i))),o2]/\H'=H)
   ⟨_,rfl,rfl⟩ (λi σ H2 hi ⟨_,_,e⟩=>e▸ha) ?_ ?_⟩
  ·rintro i w σ H2 ew ⟨o2,rfl,rfl⟩;obtain⟨d,ed,hd⟩:=hxs.get ew;obtain⟨r,er,rfl⟩:=wm ed;have hi:i<rs.length:=(Mu.mp er).1;have k1:=(jx br i (by lia)).2;have k2:=br r (ME er);have hm:i*b<=rs.length*b:=Ue _ (Op hi);obtain⟨wa,rfl,hw⟩:=bn hd;refine⟨_,rfl,_,rfl,bN hw ⟨_,_,rfl,rfl,.inl ⟨k1.mono (by lia),k2.sd.mono (by lia)⟩,some (.ref wa),?_,rfl⟩⟩;rw[cw er,rk];rfl
  ·rintro σ H2 ⟨o2,rfl,rfl⟩;rw[<- lx,O0];obtain⟨B0,BS⟩:=jx br rs.length (Mm _);rw[O0] at B0 BS;refine⟨_,rfl,a,k,rfl,⟨_,ha⟩,bX (es:=rs.map λr=>.int (ov (cW rs) r)) ha hxs (by simp) (by simp;lia) (λi d e u H1 hd he s1 hu R kk S=>?_) (λzs H1 s1 hzs D hD=>?_)⟩
   ·obtain⟨r,er,rfl⟩:=wm hd;rw[Mw,er] at he;cases he;obtain⟨wa,rfl,hw⟩:=bn hu;have k2:=br r (ME er);have dp:=k2.pos;have ed:(cW rs).fdiv (r.den:Int)=cW rs/(r.den:Int):=Oq _ (by lia);refine⟨wa,_,rfl,dF.of hw,rfl,_,_,rfl,_,_,rfl,rfl,aW (B:=S H1) ?_⟩;refine⟨_,rfl,_,rfl,_,rfl,_,_,rfl,rfl,⟨by lia,k2.sd.mono (by lia)⟩,_,_,rfl,rfl,.inl ⟨k2.sn.mono (by lia),?_⟩,kk _ _ ⟨af.refl _,?_⟩⟩
    ·rw[ed];have e1:cW rs/(r.den:Int)<=cW rs:=Int.ediv_le_self _ (by lia);have e2:0<=cW rs/(r.den:Int):=Ts (by lia) (by lia);exact(show Sm _ _ from by unfold Sm at BS ⊢;lia:Sm (rs.length*b+1) (cW rs/(r.den:Int))).mono (by lia)
    ·rw[ed];exact .int _
   ·refine⟨_,rfl,l7,λT hT=>?_⟩;have sD:af H1 (upd H1 D (.lst zs)):=af.new hD;exact q _ _ ((s1.trans sD).trans (af.new hT)) (ax.tupN hT (.cons (ax.listN hD hzs) (.cons (.int _) .nil)))
theorem iP:ao ["many","tops","below"] uD4 (ah jd):=df
inductive rl (K:HD)(vs:List V)(H:Hp)(Q:VK)(_:XK):Prop
 |mk (x:V) (k:Bool) (b:Nat) (rs:List Rat) (_:vs=[x]) (_:ax K H (xY k (rs.map rD)) x) (_:(∀ r∈rs,Bq b r)) (_:rs≠[]) (_:rs.length<=500) (_:b<=7900) (_:rs.length*b+b+1<=7900) (_:∀ m∈rs,(∀ r∈rs,r<=m)->j0 K H m Q)
theorem rM (T:cZ K mg w):dN P w K mg base cP 3 "greatest_of" uD4 [] (rl K):=by
  refine T.x1j.cal iP (bb:=λ_ _ _ _ _ H vs Q E hr h=>?_);obtain⟨x,k,b,rs,rfl,hx,br,ne,l5,b7,lb,q⟩:=h;refine⟨_,(cM.go (ab (i7 (ac ay (iY T) hr (aE (aj 0))) (cS (K:=K) (n:=2) rfl rfl (aw (ai 1 iP.nd) (aw (ai 2 iP.nd) bu))))
   (ag (ar (ac ay (dC T T.xb) hr (aD (au (wu (K:=K) rfl rfl) (by rfl) T.xd oC (aE (aj 1))) (aj 2))))))),?_⟩
  refine⟨_,rfl,x,k,b,rs,rfl,hx,br,l5,b7,lb,λv H1 s1 hv=>?_⟩;obtain⟨B0,BS⟩:=jx br rs.length (Mm _);rw[O0] at B0 BS;obtain⟨T,ts,rfl,hT,hts⟩:=aN (b:=false) (ds:=[.list (rs.map λr=>.int (ov (cW rs) r)),.int (cW rs)]) hv;cases hts with
  |cons h1 h2=>
  cases h2 with
  |cons h2 h3=>
  cases h3;cases h2;obtain⟨L,ls,rfl,hL,hls⟩:=aN (b:=true) (ds:=rs.map λr=>.int (ov (cW rs) r)) h1;have el:ls=(rs.map λr=>ov (cW rs) r).map V.int:=by
   have:(rs.map λr=>NR (ov (cW rs) r))=(rs.map λr=>ov (cW rs) r).map NR:=by rw[P9];rfl
   rw[this] at hls;exact xT hls
  subst el;refine⟨T,_,rfl,hT,rfl,_,_,rfl,_,_,rfl,rfl,?_⟩;refine⟨_,rfl,L,_,rfl,hL,λz=>ne (List.map_eq_nil_iff.mp z),λm hm hx=>?_⟩;obtain⟨r,hr,rfl⟩:=Nc.mp hm;refine⟨_,rfl,_,_,rfl,by lia,BS.mono (by lia),j0.sh (by lia) ?_⟩;rw[Je B0 (lX hr)];refine λv5 H5 s5 hv5=>q r hr (λr' hr'=>?_) v5 H5 (s1.trans s5) hv5
  exact(Kd B0 (lX hr') (lX hr)).mp (hx _ (Nc.mpr ⟨r',hr',rfl⟩))
theorem w9:ao uA0 uA0 (ah k7):=df
inductive vB (K:HD)(vs:List V)(H:Hp)(Q:VK)(_:XK):Prop
 |mk (x:V) (p r t:Rat) (_:vs=[x]) (_:ax K H (JZ p r t) x) (_:∀ H',af H H'->Q (.bl true) H')
theorem oz (T:cZ K mg w):dN P w K mg base cP 3 "is_colour" uA0 [] (vB K):=by
  refine T.x1k.cal w9 (bb:=λ_ _ _ _ _ H vs Q E hr h=>?_);obtain⟨x,p,r,t,rfl,hx,q⟩:=h;refine⟨_,(cM.go (ag (ar (dX (au (kq (K:=K) rfl) (by rfl) T.x2 aK (aD (aj 0) (bU (v:=.ty "tuple") rfl T.x5 cJ rfl))) (dX (cH eI (au (gU (K:=K) rfl) (by rfl) T.x3 dQ (aE (aj 0))) aa (aV _)) (gj (au (mz (K:=K) rfl rfl) (by rfl) T.x9 jk (aE (aF ["number"] [] [] 1 (bx (K:=K) rfl (aj 0)) (λnd=>(ai 0 nd)) aA (ac ay (lE T) hr (aE (aj 0)))))))))))),?_⟩;refine⟨_,rfl,_,_,_,true,rfl,hx.ty,(show iG "tuple" "tuple"=some true by decide +kernel),_,rfl,aW ?_⟩;obtain⟨a,xs,rfl,ha,hds⟩:=aN (b:=false) hx;have hl:=hds.length;refine⟨_,rfl,a,_,rfl,o7 ha,_,_,rfl,rfl,true,qK (by rw[<- hl];rfl),aW ?_⟩;have sh:∀ z:Rat,shB (rD z)=true:=λz=>(show Ok (z.num.natAbs+z.den) z.num z.den from⟨by have:=z.den_pos;lia,z.reduced,by unfold Sm;exact MG (Qu) (Pf (by decide) (PJ _ _)),by unfold Sm;exact MG (Qu) (Pf (by decide) (Nat.le_add_left _ _))⟩).shB
  refine⟨_,rfl,a,false,rfl,⟨_,ha⟩,kX (f:=λd=>.bool (shB d)) ha hds (by show 3<=1000;decide) (λi d x H2 hd s2 hx2 R kk S=>?_) (λys H2 s2 hys D hD=>?_)⟩
  ·exact aW (B:=S H2) ⟨_,rfl,x,d,rfl,hx2,kk _ _ ⟨af.refl _,.bl _⟩⟩
  ·have hys:az K H2 (([rD p,rD r,rD t].map shB).map Qv) ys:=by rw[P9];exact hys
   have e:=fG hys;subst e;refine⟨D,_,rfl,bH.of ae,?_⟩;have e:([rD p,rD r,rD t].map shB).all id=true:=by
    show(shB (rD p)&&(shB (rD r)&&(shB (rD t)&&true)))=true;rw[sh p,sh r,sh t];rfl
   rw[e];exact q _ (s2.trans (af.new hD))
theorem BL:ao uA0 uA0 (ah tN):=df
inductive B2 (K:HD)(vs:List V)(H:Hp)(Q:VK)(_:XK):Prop
 |mk (x k r) (_:vs=[x]) (_:ax K H (dk k r) x) (_:R3.In r 4000) (_:∀ H',af H H'->Q (.bl true) H')
theorem Ce (T:cZ K mg w):dN P w K mg base cP 3 "is_row" uA0 [] (B2 K):=by
  refine T.x1l.cal BL (bb:=λ_ _ _ _ _ H vs Q E hr h=>?_);obtain⟨x,k,r,rfl,hx,hin,q⟩:=h;refine⟨_,(cM.go (ab (a_ (WW.pt (dG (aX (aS (au (Ac (K:=K) rfl) (by rfl) T.x2 aK (aD (aj 0) (be (aD (bU (v:=.ty "list") rfl T.xa gX rfl) (bU (v:=.ty "tuple") rfl T.x5 cJ rfl))))))) (dB (aR mN (au (gU (K:=K) rfl) (by rfl) T.x3 dQ (aE (aj 0))) aa (aV _))))) (ag (ar gg)) aH)
   (ag (ar (au (mz (K:=K) rfl rfl) (by rfl) T.x9 jk (aE (aF ["number"] [] [] 1 (bx (K:=K) rfl (aj 0)) (λnd=>(ai 0 nd)) aA (ac ay (eY T) hr (ak (aj 0) (ak (wS wO (cB rfl T.xi)) (ak (cB rfl T.xi) aZ))))))))))),?_⟩
  refine⟨_,rfl,l7,λp hp=>?_⟩;have s1:af H (upd H p (.tup [.ty "list",.ty "tuple"])):=af.new hp;generalize hH1:upd H p (.tup [.ty "list",.ty "tuple"])=H1 at s1 ⊢;have hp1:H1 p=some (.tup [.ty "list",.ty "tuple"]):=by rw[<- hH1];exact ae
  have hx1:=ax.same s1 hx;obtain⟨T',ty,ek⟩:=Fm hx1;refine⟨_,_,p,_,_,true,rfl,ty,hp1,ek,_,rfl,bA ?_⟩;obtain⟨a,rfl,ha⟩:=jZ hx1;refine⟨_,rfl,a,_,rfl,o7 ha,_,_,rfl,rfl,_,rfl,bA ?_⟩;obtain⟨a',xs,e',hs',hds⟩:=aN hx1;cases e';refine⟨_,rfl,a,k,rfl,⟨_,hs'⟩,kX (f:=λd=>.bool (Fx (-4000) 4000 d)) hs' hds (by show 3<=1000;decide) (λi d x H2 hd s2 hx2 R kk S=>?_) (λys H2 s2 hys D hD=>?_)⟩
  ·exact aW (B:=S H2) ⟨_,rfl,_,rfl,x,d,-4000,4000,rfl,hx2,kk _ _ ⟨af.refl _,.bl _⟩⟩
  ·have hys:az K H2 ((r.ds.map (Fx (-4000) 4000)).map Qv) ys:=by rw[P9];exact hys
   have e:=fG hys;subst e;refine⟨D,_,rfl,bH.of ae,?_⟩;have e:(r.ds.map (Fx (-4000) 4000)).all id=true:=by
    obtain⟨a1,a2,b1,b2,c1,c2⟩:=hin;show((decide (-4000<=r.a)&&decide (r.a<=4000))&&((decide (-4000<=r.b)&&decide (r.b<=4000))&&((decide (-4000<=r.c)&&decide (r.c<=4000))&&true)))=true;rw[Ms a1,Ms a2,Ms b1,Ms b2,Ms c1,Ms c2];rfl
   rw[e];exact q _ ((s1.trans s2).trans (af.new hD))
theorem wn:ao uA0 uA0 (ah kF):=df
inductive wC (K:HD)(vs:List V)(H:Hp)(Q:VK)(_:XK):Prop
 |mk (x:V) (s:S9) (_:vs=[x]) (_:ax K H s.d x) (_:s.In) (_:∀ H',af H H'->Q (.bl true) H')
theorem wE (T:cZ K mg w):dN P w K mg base cP 4 "is_square" uA0 [] (wC K):=by
  refine T.x1m.cal wn (bb:=λ_ _ _ _ _ H vs Q E hr h=>?_);obtain⟨x,sq,rfl,hx,hin,q⟩:=h;refine⟨_,(cM.go (ag (ar (dX (au (Ac (K:=K) rfl) (by rfl) T.x2 aK (aD (aj 0) (be (aD (bU (v:=.ty "list") rfl T.xa gX rfl) (bU (v:=.ty "tuple") rfl T.x5 cJ rfl))))) (dX (cH eI (au (gU (K:=K) rfl) (by rfl) T.x3 dQ (aE (aj 0))) aa (aV _)) (gj (au (mz (K:=K) rfl rfl) (by rfl) T.x9 jk (aE (aF ["row"] [] [] 1 (bx (K:=K) rfl (aj 0)) (λnd=>(ai 0 nd)) aA (ac ay (Ce T) hr (aE (aj 0)))))))))))),?_⟩;refine⟨_,rfl,l7,λp hp=>?_⟩;have s1:af H (upd H p (.tup [.ty "list",.ty "tuple"])):=af.new hp;generalize hH1:upd H p (.tup [.ty "list",.ty "tuple"])=H1 at s1 ⊢;have hp1:H1 p=some (.tup [.ty "list",.ty "tuple"]):=by rw[<- hH1];exact ae
  have hx1:=ax.same s1 hx;obtain⟨T',ty,ek⟩:=Fm hx1;refine⟨_,_,p,_,_,true,rfl,ty,hp1,ek,_,rfl,aW ?_⟩;obtain⟨a,xs,rfl,ha,hds⟩:=aN hx1;have hl:=hds.length;refine⟨_,rfl,a,_,rfl,o7 ha,_,_,rfl,rfl,true,qK (by rw[<- hl];rfl),aW ?_⟩;refine⟨_,rfl,a,sq.k,rfl,⟨_,ha⟩,kX (f:=λ_=>.bool true) ha hds (by show 3<=1000;decide) (λi d x H2 hd s2 hx2 R kk S=>?_) (λys H2 s2 hys D hD=>?_)⟩
  ·refine aW (B:=S H2) ⟨_,rfl,?_⟩
   match i,hd with
   |0,hd=>cases(Mi hd);exact⟨x,_,_,rfl,hx2,hin.x,λH' s'=>kk _ _ ⟨s',.bl _⟩⟩
   |1,hd=>cases(Mi hd);exact⟨x,_,_,rfl,hx2,hin.y,λH' s'=>kk _ _ ⟨s',.bl _⟩⟩
   |2,hd=>cases(Mi hd);exact⟨x,_,_,rfl,hx2,hin.z,λH' s'=>kk _ _ ⟨s',.bl _⟩⟩
   |n+3,hd=>simp[S9.rows] at hd
  ·have e:=fG (bs:=[true,true,true]) hys;subst e;exact⟨D,[true,true,true],rfl,bH.of ae,q _ ((s1.trans s2).trans (af.new hD))⟩
theorem lY:ao uA0 uA0 (ah eW):=df
inductive mh (K:HD)(vs:List V)(H:Hp)(Q:VK)(_:XK):Prop
 |mk (x:V) (s:S9) (_:vs=[x]) (_:ax K H s.d x) (_:s.In) (_:∀ H',af H H'->Q .non H')
theorem gO (T:cZ K mg w):dN P w K mg base cP 5 "refuse_no_square" uA0 [] (mh K):=by
  refine T.x1n.cal lY (bb:=λ_ _ _ _ _ H vs Q E hr h=>?_);obtain⟨x,sq,rfl,hx,hin,q⟩:=h;refine⟨_,(cM.go (ag (a_ (aX (aS (ac ay (wE T) hr (aE (aj 0))))) (ag bE) aH))),?_⟩;exact⟨_,rfl,x,sq,rfl,hx,hin,λH' s'=>⟨_,rfl,bA (q _ s')⟩⟩
theorem l9:ao uA0 uA0 (ah e6):=df
inductive me (K:HD)(vs:List V)(H:Hp)(Q:VK)(_:XK):Prop
 |mk (x:V) (p r t:Rat) (_:vs=[x]) (_:ax K H (JZ p r t) x) (_:∀ H',af H H'->Q .non H')
theorem md (T:cZ K mg w):dN P w K mg base cP 4 "refuse_no_colour" uA0 [] (me K):=by
  refine T.x1o.cal l9 (bb:=λ_ _ _ _ _ H vs Q E hr h=>?_);obtain⟨x,p,r,t,rfl,hx,q⟩:=h;refine⟨_,(cM.go (ag (a_ (aX (aS (ac ay (oz T) hr (aE (aj 0))))) (ag bE) aH))),?_⟩;exact⟨_,rfl,x,p,r,t,rfl,hx,λH' s'=>⟨_,rfl,bA (q _ s')⟩⟩
theorem wd:ao uE0 uE0 (ah lI):=df
inductive so (K:HD)(vs:List V)(H:Hp)(Q:VK)(_:XK):Prop
 |mk (a b:Mz) (k j:Bool) (ns ms:List Int) (_:vs=[.ref a,.ref b]) (_:ck K H a (ns.map V.int) k) (_:ck K H b (ms.map V.int) j) (_:ns.length=ms.length) (_:ns.length<=1000) (_:(∀ n∈ns,Sm 8000 n)) (_:(∀ m∈ms,Sm 8000 m)) (_:∀ H',af H H'->Q (.int (QA (·*·) ns ms).sum) H')
theorem rG (T:cZ K mg w):dN P w K mg base cP 1 "whole_sum" uE0 [] (so K):=by
  refine T.x1p.cal wd (bb:=λ_ _ _ _ _ H vs Q E hr h=>?_);obtain⟨a,b,k,j,ns,ms,rfl,ha,hb,hl,h10,sn,sm,q⟩:=h;refine⟨_,(cM.go (ag (ar (au (DR (K:=K) rfl rfl) (by rfl) T.xo DS (aE (aF ["part","number"] [] [] 2 (iL (K:=K) rfl rfl T.x8 (aD (aj 0) (aj 1))) (λnd=>(cS (K:=K) (n:=2) rfl rfl (aw (ai 0 nd) (aw (ai 1 nd) bu)))) aA (ap aO (aj 0) (aj 1)))))))),?_⟩;refine⟨_,rfl,_,rfl,a,b,k,j,rfl,⟨_,ha⟩,⟨_,hb⟩,ic (fs:=(QA (·*·) ns ms).map NR) ha hb (jA ns) (jA ms) (by simp[hl]) (by simp[hl]) (by simp;lia) (λi d e g x y T H1 hd he hg s1 hx hy hT R kk S=>?_) (λzs H1 s1 hzs D hD=>?_)⟩
  ·rw[Mw] at hd he hg;obtain⟨n,en,rfl⟩:=MJ.mp hd;obtain⟨m,em,rfl⟩:=MJ.mp he;obtain⟨z,ez,rfl⟩:=MJ.mp hg;rw[Rs] at ez;obtain⟨n',m',en',em',rfl⟩:=ez;rw[en] at en';rw[em] at em';cases en';cases em';cases hx;cases hy;exact⟨T,_,rfl,dF.of hT,rfl,_,_,rfl,_,_,rfl,rfl,aW (B:=S H1) ⟨_,rfl,_,rfl,_,_,rfl,rfl,.inl ⟨sn _ (ME en),sm _ (ME em)⟩,kk _ _ ⟨af.refl _,.int _⟩⟩⟩
  ·have e:=dD hzs;subst e;exact⟨D,_,rfl,bH.of ae,q _ (s1.trans (af.new hD))⟩
theorem xB:ao uD9 uD9 (ah kN):=df
inductive nU (K:HD)(vs:List V)(H:Hp)(Q:VK)(_:XK):Prop
 |mk (x y:V) (k:Bool) (p c:Q3) (_:vs=[x,y]) (_:ax K H (xY k p.ds) x) (_:ax K H c.col y) (_:p.Bd 600) (_:c.Bd 600) (_:j0 K H (oG p c) Q)
theorem vz (T:cZ K mg w):dN P w K mg base cP 6 "share_sum" uD9 [] (nU K):=by
  refine T.x1q.cal xB (bb:=λ_ _ _ _ _ H vs Q E hr h=>?_);obtain⟨x,y,k,p,c,rfl,hx,hy,bp,bc,q⟩:=h;obtain⟨a,xs,rfl,ha,hxs⟩:=aN hx;obtain⟨b,ys,rfl,hb,hys⟩:=aN (b:=false) hy;refine⟨_,(cM.go (ag (ar (ac ay (uK T) hr (aE (aF ["part","number"] [] [] 2 (iL (K:=K) rfl rfl T.x8 (aD (aj 0) (aj 1))) (λnd=>(cS (K:=K) (n:=2) rfl rfl (aw (ai 0 nd) (aw (ai 1 nd) bu)))) aA (ac ay (jv T) hr (aD (aj 0) (aj 1))))))))),?_⟩;refine⟨_,rfl,_,rfl,a,b,k,false,rfl,⟨_,ha⟩,⟨_,hb⟩,ic (fs:=(Q3.mk (p.a*c.a) (p.b*c.b) (p.c*c.c)).ds) ha hb hxs hys rfl rfl (by show 3<=1000;decide) (λi d e f u v T H1 hd he hf s1 hu hv hT R kk S=>?_) (λzs H1 s1 hzs D hD=>?_)⟩
  ·refine⟨T,_,rfl,dF.of hT,rfl,_,_,rfl,_,_,rfl,rfl,aW (B:=S H1) ?_⟩;obtain⟨P,C,rfl,rfl,rfl,bP,bC⟩:∃ P C:Rat,d=rD P/\e=rD C/\f=rD (P*C)/\Bq 600 P/\Bq 600 C:=by
    rcases pJ hd with ⟨rfl,rfl⟩|⟨rfl,rfl⟩|⟨rfl,rfl⟩
    ·cases(Mi he);cases(Mi hf);exact⟨_,_,rfl,rfl,rfl,bp.a,bc.a⟩
    ·cases(Mi he);cases(Mi hf);exact⟨_,_,rfl,rfl,rfl,bp.b,bc.b⟩
    ·cases(Mi he);cases(Mi hf);exact⟨_,_,rfl,rfl,rfl,bp.c,bc.c⟩
   exact⟨_,rfl,_,rfl,_,_,_,_,_,_,rfl,hu,hv,bP.mono (by decide),bC.mono (by decide),j0.mul λv4 H4 s4 hv4=>kk _ _ ⟨s4,hv4⟩⟩
  ·refine⟨.ref D,true,1200,[p.a*c.a,p.b*c.b,p.c*c.c],rfl,ax.listN hD hzs,λr hr=>?_,by decide,by show 3*(1200+1)+1<=3900;decide,λv5 H5 s5 hv5=>q v5 H5 ((s1.trans (af.new hD)).trans s5) hv5⟩;rcases Mx.mp hr with rfl|hr
   ·exact bp.a.mul bc.a
   ·rcases Mx.mp hr with rfl|hr
    ·exact bp.b.mul bc.b
    ·cases Ml.mp hr;exact bp.c.mul bc.c
theorem HV:ao uD1 uD1 (ah Ea):=df
inductive Hh (K:HD)(vs:List V)(H:Hp)(Q:VK)(_:XK):Prop
 |mk (x y:V) (s:S9) (c:Q3) (_:vs=[x,y]) (_:ax K H s.d x) (_:s.In) (_:ax K H c.col y) (_:c.Bd 600) (_:∀ v H',af H H'->ax K H' (s.m.led c).col v->Q v H')
theorem HR (T:cZ K mg w):dN P w K mg base cP 7 "led" uD1 [] (Hh K):=by
  refine T.x1r.cal HV (bb:=λ_ _ _ _ _ H vs Q E hr h=>?_);obtain⟨x,y,sq,c,rfl,hx,hin,hy,bc,q⟩:=h;refine⟨_,(cM.go (ab (bG (ac ay (gO T) hr (aE (aj 0))))
   (ab (bG (ac ay (md T) hr (aE (aj 1))))
   (ag (ar (bV (i9 (K:=K) rfl) (by rfl) T.x5 cJ (aE (aF ["row"] ["colour"] [1] 1 (bx (K:=K) rfl (aj 0)) (λnd=>(ai 0 nd)) aA (ac ay (vz T) hr (aD (aF ["part"] [] [] 1 (bx (K:=K) rfl (aj 0)) (λnd=>(ai 0 nd)) aA (ac ay (dC T T.xb) hr (aD (aj 0) (cB rfl T.xj)))) (aj 1))))))))))),?_⟩
  refine⟨_,rfl,x,sq,rfl,hx,hin,λH1 s1=>?_⟩;refine⟨_,rfl,y,c.a,c.b,c.c,rfl,ax.same s1 hy,λH2 s2=>?_⟩;have s12:=s1.trans s2;have hx2:=ax.same s12 hx;have hy2:=ax.same s12 hy;obtain⟨a,xs,rfl,ha,hds⟩:=aN hx2;have u13:Sm 13 (1000:Int):=by unfold Sm;decide
  have row:∀ (k:Bool) (r:R3),r.In 4000->∀ (v:V) (H3:Hp) (Q4:VK),ax K H3 (dk k r) v->ax K H3 c.col y->j0 K H3 (oG r.q c) Q4 ->
    xN (nU K) [] E0 (mD (DO (IJ K (r0 0)) (y4 0) JQ (xN (yJ K) [] E0 (mD (r0 0) (mD (tC (.int 1000)) uC))) (Ah 1 [])) (mD (r0 1) uC)) [some v,some y] H3 Q4:=λk r ir v H3 Q4 hv hc hq=>by
   obtain⟨b,ys,rfl,hb,hys⟩:=aN hv;refine⟨_,rfl,b,k,rfl,⟨_,hb⟩,bX (es:=r.q.ds) hb hys rfl (by show 3<=1000;decide) (λi d e u H4 hd he s4 hu R kk S=>?_) (λzs H4 s4 hzs D hD=>?_)⟩
   ·refine aW (B:=S H4) ?_;rcases pJ hd with ⟨rfl,rfl⟩|⟨rfl,rfl⟩|⟨rfl,rfl⟩<;>(cases hu;cases(Mi he);exact⟨_,rfl,_,_,rfl,by decide,u13.mono (by decide),j0.sh (by decide) λv5 H5 s5 hv5=>kk _ _ ⟨s5,hv5⟩⟩)
   ·exact⟨_,rfl,.ref D,y,true,r.q,c,rfl,ax.listN hD hzs,ax.same (s4.trans (af.new hD)) hc,(AQ ir).mono (by decide),bc,λv5 H5 s5 hv5=>hq v5 H5 ((s4.trans (af.new hD)).trans s5) hv5⟩
  refine⟨_,rfl,a,sq.k,rfl,⟨_,ha⟩,bX (es:=(sq.m.led c).ds) ha hds rfl (by show 3<=1000;decide) (λi d e u H3 hd he s3 hu R kk S=>?_) (λys H3 s3 hys D hD=>?_)⟩
  ·refine aW (B:=S H3) ?_;have hy3:=ax.same s3 hy2;rcases pJ hd with ⟨rfl,rfl⟩|⟨rfl,rfl⟩|⟨rfl,rfl⟩
   ·cases(Mi he);exact row _ _ hin.x _ _ _ hu hy3 λv5 H5 s5 hv5=>kk _ _ ⟨s5,hv5⟩
   ·cases(Mi he);exact row _ _ hin.y _ _ _ hu hy3 λv5 H5 s5 hv5=>kk _ _ ⟨s5,hv5⟩
   ·cases(Mi he);exact row _ _ hin.z _ _ _ hu hy3 λv5 H5 s5 hv5=>kk _ _ ⟨s5,hv5⟩
  ·refine⟨D,ys,rfl,.inl ⟨bH.of ae,λl hl=>?_⟩⟩;exact q _ _ ((s12.trans s3).trans ((af.new hD).trans (af.new hl))) (ax.tupN (ds:=(sq.m.led c).ds) hl (az.same (af.new hD) hys))
theorem yh:ao uA0 uA0 (ah mW):=df
inductive y7 (K:HD)(vs:List V)(H:Hp)(Q:VK)(_:XK):Prop
 |mk (x:V) (d:M4) (_:vs=[x]) (_:ax K H d x) (_:Q (.bl (Fx 2 7 d)) H)
theorem y6 (T:cZ K mg w):dN P w K mg base cP 3 "is_knots" uA0 [] (y7 K):=by
  refine T.x1s.cal yh (bb:=λ_ _ _ _ _ H vs Q E hr h=>?_);obtain⟨x,d,rfl,hx,q⟩:=h;refine⟨_,(cM.go (ag (ar (ac ay (eY T) hr (ak (aj 0) (ak (cB rfl T.xq) (ak (cB rfl T.xv) aZ))))))),?_⟩;exact⟨_,rfl,x,d,2,7,rfl,hx,q⟩
theorem zK:ao uB1 uB1 (ah o_):=df
inductive Ag (K:HD)(vs:List V)(H:Hp)(Q:VK)(_:XK):Prop
 |mk (x:V) (ns:List Int) (n:Int) (_:vs=[x,.int n]) (_:ax K H (.tuple (ns.map NR)) x) (_:ns.length=3) (_:∀ H',af H H'->Q (.bl (ns.all λk=>decide (0<=k)&&decide (k<=n-1))) H')
theorem sO (T:cZ K mg w):dN P w K mg base cP 4 "is_knot" uB1 [] (Ag K):=by
  refine T.x1t.cal zK (bb:=λ_ _ _ _ _ H vs Q E hr h=>?_);obtain⟨x,ns,n,rfl,hx,hl,q⟩:=h;refine⟨_,(cM.go (ag (ar (ac ay (fh T) hr (ak (aj 0) (ak aa (ak aa (ak (ap cm (aj 1) aa) aZ)))))))),?_⟩;exact⟨_,rfl,_,rfl,_,_,rfl,rfl,x,ns,3,0,n-1,rfl,hx,by lia,by lia,q⟩
theorem ym:ao uA0 uA0 (ah mT):=df
inductive xP (K:HD)(vs:List V)(H:Hp)(Q:VK)(_:XK):Prop
 |mk (x:V) (ns:List Int) (_:vs=[x]) (_:ax K H (.tuple (ns.map NR)) x) (_:ns.length=3) (_:∀ H',af H H'->Q (.bl (ns.all λk=>decide (0<=k)&&decide (k<=1000))) H')
theorem lj (T:cZ K mg w):dN P w K mg base cP 4 "is_worth" uA0 [] (xP K):=by
  refine T.x1u.cal ym (bb:=λ_ _ _ _ _ H vs Q E hr h=>?_);obtain⟨x,ns,rfl,hx,hl,q⟩:=h;refine⟨_,(cM.go (ag (ar (ac ay (fh T) hr (ak (aj 0) (ak aa (ak aa (ak (cB rfl T.xu) aZ)))))))),?_⟩;exact⟨_,rfl,x,ns,3,0,1000,rfl,hx,by lia,by lia,q⟩
theorem EA:ao ["knots"] ["knots"] (ah vQ):=df
inductive Dz (K:HD)(vs:List V)(H:Hp)(Q:VK)(_:XK):Prop
 |mk (n:Nat) (_:vs=[.int n]) (_:2<=n) (_:n<=7) (_:Q (.int (t4 n)) H)
theorem C9 (T:cZ K mg w):dN P w K mg base cP 1 "apart" ["knots"] [] (Dz K):=by
  refine T.x1v.cal EA (bb:=λ_ _ _ _ _ H vs Q E hr h=>?_);obtain⟨n,rfl,h2,h7,q⟩:=h;refine⟨_,(cM.go (ag (ar (ap dR (cB rfl T.xe) (ap cm (aj 0) aa))))),?_⟩;refine⟨_,rfl,_,_,rfl,rfl,_,_,rfl,rfl,⟨by lia,Sm.mono (k:=20) (by unfold Sm;lia) (by decide)⟩,?_⟩;dsimp only;rw[Oq _ (by lia)];exact q
theorem yR:ao uB1 uB1 (ah m_):=df
inductive xV (K:HD)(vs:List V)(H:Hp)(Q:VK)(_:XK):Prop
 |mk (d:Mz) (n:Nat) (f:Kn->R3) (_:vs=[.ref d,.int n]) (_:Gr K H n f d) (_:Aw n f) (_:n<=7) (_:∀ H',af H H'->Q (.bl true) H')
theorem yr (T:cZ K mg w):dN P w K mg base cP 5 "is_table" uB1 [] (xV K):=by
  refine T.x1w.cal yR (bb:=λ_ _ _ _ _ H vs Q E hr h=>?_);obtain⟨d,n,f,rfl,hg,hw,h7,q⟩:=h;obtain⟨ts,pm,vs,hd,hvs⟩:=hg;have hlen:=A7.len hvs;have kl:(jV ts vs).length=n^3:=by rw[sU hlen,pm.length_eq,lN]
  have n3:n^3<=7^3:=RU h7 3;refine⟨_,(cM.go (ab (a_ (WW.pt (dG (aX (aS (au (kq (K:=K) rfl) (by rfl) T.x2 aK (aD (aj 0) (bU (v:=.ty "dict") rfl T.xl AC rfl))))) (dB (aR mN (au BM (by rfl) T.x3 dQ (aE (aj 0))) (ap EZ (aj 1) aa) (aV _))))) (ag (ar gg)) aH)
   (ag (ar (au (mz (K:=K) rfl rfl) (by rfl) T.x9 jk (aE (DQ (aF ["place","worth"] ["knots"] [1] 2 (Ca (aj 0)) (λnd=>(cS (K:=K) (n:=2) rfl rfl (aw (ai 0 nd) (aw (ai 1 nd) bu)))) aA (dX (ac ay (sO T) hr (aD (aj 0) (aj 2))) (gj (ac ay (lj T) hr (aE (aj 1))))))))))))),?_⟩
  refine⟨_,rfl,_,_,_,true,rfl,.dT hd,(show iG "dict" "dict"=some true by decide +kernel),_,rfl,bA ?_⟩;refine⟨_,rfl,d,_,rfl,.inl hd,_,rfl,_,_,rfl,rfl,⟨by decide,by decide,by lia⟩,_,_,rfl,rfl,false,?_,bA ?_⟩
  ·show V.bl (!decide (((jV ts vs).length:Int)=(n:Int)^(3:Int).toNat))=_;rw[kl,Ms (by show((n^3:Nat):Int)=(n:Int)^3;simp)];rfl
  refine⟨_,rfl,d,_,rfl,hd,λo=>As (d:=d) (bs:=MF (jV ts vs).length true) ae (by simp) (by lia) (λi k x ka T b H1 hk hb s1 hka hT R kk S=>?_) (λH1 s1 D hD=>?_)⟩
  ·obtain⟨t,e1,rfl,e2⟩:=EB hk;have hb:b=true:=by
    rw[QN] at hb
    split at hb
    ·exact(Mi hb).symm
    ·cases hb
   subst hb;have ht:t∈bf n:=pm.mem_iff.mp (ME e1);have hm:=eX.mp ht;have wt:=hw t ht;have hx:ax K H1 (wD (f t)) x:=by
    obtain⟨dd,ed,hx⟩:=hvs.get e2;rw[Mw,e1] at ed;cases ed;have hT':ax K (upd H d (.frz o (.dT (jV ts vs)))) (wD (f t)) x:=by
     obtain⟨a,xs,rfl,ha,hxs⟩:=aN (b:=false) (ds:=(f t).ds) hx;have hx':ax K H (.tuple (f t).ds) (.ref a):=hx;cases hx' with
     |tup h1 h2=>exact .tup (by rw[aq (λz=>by rw[z,hd] at h1;cases h1)];exact h1) (by cases h_ h2;exact .cons (.int _) (.cons (.int _) (.cons (.int _) .nil)))
    exact ax.same s1 hT'
   have e3:([(t.1:Int),(t.2.1:Int),(t.2.2:Int)].all λk=>decide (0<=k)&&decide (k<=(n:Int)-1))=true:=by
    simp only[RC,Vk,Ry,Nh,Rc];lia
   have e4:([(f t).a,(f t).b,(f t).c].all λk=>decide (0<=k)&&decide (k<=1000))=true:=by
    obtain⟨a0,a1,b0,b1,c0,c1⟩:=wt;simp only[RC,Vk,Ry,Nh,Rc];lia
   refine⟨T,_,rfl,dF.of hT,rfl,_,_,rfl,_,_,rfl,rfl,aW (B:=S H1) ?_⟩;refine⟨_,rfl,_,rfl,.ref ka,[(t.1:Int),(t.2.1:Int),(t.2.2:Int)],n,rfl,kE hka,rfl,λH2 s2=>⟨true,by rw[e3],aW ?_⟩⟩;exact⟨_,rfl,x,[(f t).a,(f t).b,(f t).c],rfl,ax.same s2 hx,rfl,λH3 s3=>by rw[e4];exact kk _ _ ⟨s2.trans s3,rfl⟩⟩
  ·have nd:D≠d:=λz=>by rw[z,s1 _ _ ae] at hD;cases hD
   refine⟨d,o,jV ts vs,hd,by rw[aq (OU nd)];exact s1 _ _ ae,D,_,rfl,bH.of (by rw[aq nd];exact ae),?_⟩;rw[show(MF (jV ts vs).length true).all id=true by simp];refine q _ λb u e=>?_
   by_cases hb:b=d
   ·subst hb;rw[hd] at e;cases e;exact ae
   ·rw[aq hb];have e':=s1 b u (by rw[aq hb];exact e);rw[aq (λz=>by rw[z,hD] at e';cases e')];exact e'
theorem iI:ao uA0 uA0 (ah cR):=df
inductive iD (K:HD)(vs:List V)(H:Hp)(Q:VK)(_:XK):Prop
 |mk (x:V) (c:Q3) (_:vs=[x]) (_:ax K H c.col x) (_:c.Wi ((60:Int):Rat)) (_:c.Bd 3000) (_:∀ H',af H H'->Q .non H')
theorem rZ {p:Rat}{m:Int}(h0:0<=p)(h1:p<=(m:Rat)):(decide (0*(p.den:Int)<=p.num)&&decide (p.num<=m*(p.den:Int)))=true:=by
 have e1:decide (0*(p.den:Int)<=p.num)=true:=Ms (by rw[Int.zero_mul];exact Sw.mpr h0);have e2:decide (p.num<=m*(p.den:Int))=true:=Ms (by
  have h:=(Rat.le_iff p (m:Rat)).mp h1;rw[R0,RY] at h
  simpa using h)
 rw[e1,e2];rfl
theorem cL (T:cZ K mg w):dN P w K mg base cP 4 "refuse_no_device_colour" uA0 [] (iD K):=by
  refine T.x1x.cal iI (bb:=λ_ _ _ _ _ H vs Q E hr h=>?_);obtain⟨x,c,rfl,hx,hw,hb,q⟩:=h;refine⟨_,(cM.go (ag (a_ (WW.pt (dG (aX (aS (ac ay (oz T) hr (aE (aj 0))))) (dB (aX (aS (au (mz (K:=K) rfl rfl) (by rfl) T.x9 jk (aE (aF ["number"] [] [] 1 (bx (K:=K) rfl (aj 0)) (λnd=>(ai 0 nd)) aA (ac ay (nN T) hr (ak (aj 0) (ak aa (ak (cB rfl T.xe) aZ)))))))))))) (ag bE) aH))),?_⟩;refine⟨_,rfl,x,c.a,c.b,c.c,rfl,hx,λH1 s1=>⟨_,rfl,bA ?_⟩⟩;obtain⟨a,xs,rfl,ha,hds⟩:=aN (b:=false) (ds:=c.ds) (ax.same s1 hx);have s60:Sm 60 (60:Int):=by unfold Sm;decide
  have s00:Sm 60 (0:Int):=by unfold Sm;decide
  refine⟨_,rfl,a,false,rfl,⟨_,ha⟩,bX (es:=[.bool true,.bool true,.bool true]) ha hds rfl (by show 3<=1000;decide) (λi d e u H2 hd he s2 hu R kk S=>?_) (λzs H2 s2 hzs D hD=>?_)⟩
  ·refine aW (B:=S H2) ⟨_,rfl,?_⟩;rcases pJ hd with ⟨rfl,rfl⟩|⟨rfl,rfl⟩|⟨rfl,rfl⟩
   ·cases(Mi he);exact⟨u,c.a,0,60,rfl,hu,hb.a.mono (by decide),s00,s60,by rw[rZ hw.a0 hw.a1];exact kk _ _ ⟨af.refl _,.bl _⟩⟩
   ·cases(Mi he);exact⟨u,c.b,0,60,rfl,hu,hb.b.mono (by decide),s00,s60,by rw[rZ hw.b0 hw.b1];exact kk _ _ ⟨af.refl _,.bl _⟩⟩
   ·cases(Mi he);exact⟨u,c.c,0,60,rfl,hu,hb.c.mono (by decide),s00,s60,by rw[rZ hw.c0 hw.c1];exact kk _ _ ⟨af.refl _,.bl _⟩⟩
  ·have e:=fG (bs:=[true,true,true]) hzs;subst e;exact⟨D,_,rfl,bH.of ae,_,rfl,bA (q _ ((s1.trans s2).trans (af.new hD)))⟩
theorem kf:ao ["many","numbers"] uD4 (ah ij):=df
inductive ql (K:HD)(vs:List V)(H:Hp)(Q:VK)(_:XK):Prop
 |mk (n:Nat) (_:vs=[.int n]) (_:n<=7) (_:∀ (D:Mz) (ys:List V) (H':Hp),af H H'->H' D=some (.lst ys)->az K H' ((bf n).map FZ) ys->Q (.ref D) H')
theorem qg (T:cZ K mg w):dN P w K mg base cP 1 "places_below" uD4 [] (ql K):=by
  refine T.x1y.cal kf (bb:=λ_ _ _ _ _ H vs Q E hr h=>?_);obtain⟨n,rfl,h7,q⟩:=h;refine⟨_,(cM.go (ab (av 1 kf.nd (bV (vy rfl) (by rfl) T.xa gX (ak (Bc rfl T.x1 (aE (aj 0))) aZ)))
   (ag (ar (BN rfl (bx (K:=K) rfl (aj 1)) (vq (by decide +kernel) (by rfl)) (zx (ts:=["a","b","c"]) (cs:=["numbers"]) (js:=[1]) (k:=3) (by rfl) rfl rfl) (λ_ _ _ _ _=>(ai 0 (show VM (α:=Str) uD6 by decide +kernel))) (λ_ _ _ _ _=>aA) (λ_ _ _ _ _=>(yY rfl rfl rfl (bx (K:=K) rfl (aj 3)) (ai 1 (show VM (α:=Str) uD6 by decide +kernel)) aA (yY rfl rfl rfl (bx (K:=K) rfl (aj 3)) (ai 2 (show VM (α:=Str) uD6 by decide +kernel)) aA (D6 rfl rfl (be (ak (aj 0) (ak (aj 1) (ak (aj 2) aZ))))))))))))),?_⟩
  refine⟨_,rfl,n,rfl,by lia,λp hp=>⟨p,n,rfl,ae,by lia,λl hl=>?_⟩⟩;have s0:af H (upd (upd H p (.rng 0 n)) l (.lst ((sM n).map V.int))):=(af.new hp).trans (af.new hl);have hl0:ck K (upd (upd H p (.rng 0 n)) l (.lst ((sM n).map V.int))) l ((sM n).map V.int) true:=bH.of ae;generalize upd (upd H p (.rng 0 n)) l (.lst ((sM n).map V.int))=H0 at s0 hl0 ⊢;refine⟨_,rfl,l,true,rfl,⟨_,hl0⟩,Br (xs:=(sM n).map V.int) (λi ys H'=>af H0 H'/\az K H' ((um n i).map FZ) ys) ⟨af.refl _,.nil⟩ (λi ys H' _ p=>ck.same p.1 hl0) (λi x ys H1 hx p R kk S=>?_) (λys H1 p=>?_)⟩
  ·obtain⟨hi,rfl⟩:=ww hx;obtain⟨s1,d1⟩:=p;refine aW (B:=S H1) ⟨_,rfl,l,true,rfl,⟨_,ck.same s1 hl0⟩,yL (xs:=(sM n).map V.int) (λj σ ys' H'=>(∃ o1 o2,σ=[some (.int i),o1,o2,some (.ref l)])/\af H0 H'/\az K H' ((um n i++t_ n i j).map FZ) ys') ⟨⟨none,none,rfl⟩,s1,by simpa [t_] using d1⟩ (λj σ ys' H' _ p=>ck.same p.2.1 hl0) (λj x σ ys' H2 hx p R2 kk2 S2=>?_) (λσ ys' H2 p=>?_)⟩
   ·obtain⟨hj,rfl⟩:=ww hx;obtain⟨⟨o1,o2,rfl⟩,s2,d2⟩:=p;refine aW (B:=S2 [some (.int i),some (.int j),o2,some (.ref l)] H2) ⟨_,rfl,l,true,rfl,⟨_,ck.same s2 hl0⟩,yL (xs:=(sM n).map V.int) (λk σ ys'' H'=>(∃ o2,σ=[some (.int i),some (.int j),o2,some (.ref l)])/\af H0 H'/\az K H' ((um n i++t_ n i j++uQ i j k).map FZ) ys'') ⟨⟨o2,rfl⟩,s2,by simpa [uQ] using d2⟩ (λj σ ys' H' _ p=>ck.same p.2.1 hl0) (λk x σ ys'' H3 hx p R3 kk3 S3=>?_) (λσ ys'' H3 p=>?_)⟩
    ·obtain⟨hk,rfl⟩:=ww hx;obtain⟨⟨o3,rfl⟩,s3,d3⟩:=p;have hlen:=d3.length;rw[Mq] at hlen;refine aW (B:=S3 [some (.int i),some (.int j),some (.int k),some (.ref l)] H3) ⟨bD (by rw[<- hlen];exact MQ (C6 h7 hi hj (Op hk)) (by decide)),_,rfl,_,rfl,_,rfl,Eo,λp hp=>kk3 _ _ _ ⟨⟨_,rfl⟩,s3.trans (af.new hp),?_⟩⟩;rw[yj,<- Ou,Og];exact(az.same (af.new hp) d3).snoc (kE (t:=(i,j,k)) ae)
    ·obtain⟨⟨o3,rfl⟩,s3,d3⟩:=p;rw[Mq,i'] at d3;exact kk2 _ _ _ ⟨⟨_,_,rfl⟩,s3,by rw[sF,<- Ou];exact d3⟩
   ·obtain⟨⟨o1,o2,rfl⟩,s2,d2⟩:=p;rw[Mq,i'] at d2;exact kk _ _ _ ⟨s2,by rw[sH];exact d2⟩
  ·obtain⟨s1,d1⟩:=p;rw[Mq,i',GD] at d1;have hlen:=d1.length;rw[Mq,lN] at hlen;refine⟨?_,λD hD=>q D ys _ ((s0.trans s1).trans (af.new hD)) ae (az.same (af.new hD) d1)⟩;have:n^3<=7^3:=RU h7 3;lia
theorem EJ:ao uD7 uD7 (ah vw):=df
inductive Et (K:HD)(vs:List V)(H:Hp)(Q:VK)(_:XK):Prop
 |mk (a b:Mz) (ns ms:List Int) (_:vs=[.ref a,.ref b]) (_:dF K H a (ns.map V.int)) (_:dF K H b (ms.map V.int)) (_:ns.length=ms.length) (_:ns.length<=10) (_:∀ (p:Mz) (H':Hp),af H H'->H' p=some (.tup ((QA (·+·) ns ms).map V.int))->Q (.ref p) H')
theorem rX (T:cZ K mg w):dN P w K mg base cP 1 "moved" uD7 [] (Et K):=by
  refine T.x1z.cal EJ (bb:=λ_ _ _ _ _ H vs Q E hr h=>?_);obtain⟨a,b,ns,ms,rfl,ha,hb,hl,h10,q⟩:=h;refine⟨_,(cM.go (ag (ar (bV (i9 (K:=K) rfl) (by rfl) T.x5 cJ (aE (aF ["number","step"] [] [] 2 (iL (K:=K) rfl rfl T.x8 (aD (aj 0) (aj 1))) (λnd=>(cS (K:=K) (n:=2) rfl rfl (aw (ai 0 nd) (aw (ai 1 nd) bu)))) aA (ap cQ (aj 0) (aj 1)))))))),?_⟩;refine⟨_,rfl,_,rfl,a,b,false,false,rfl,⟨_,ha⟩,⟨_,hb⟩,ic (fs:=(QA (·+·) ns ms).map NR) (show ck K H a (ns.map V.int) false from ha) (show ck K H b (ms.map V.int) false from hb) (jA ns) (jA ms) (by simp[hl]) (by simp[hl]) (by simp;lia) (λi d e g x y T H1 hd he hg s1 hx hy hT R kk S=>?_) (λzs H1 s1 hzs D hD=>?_)⟩
  ·rw[Mw] at hd he hg;obtain⟨n,en,rfl⟩:=MJ.mp hd;obtain⟨m,em,rfl⟩:=MJ.mp he;obtain⟨z,ez,rfl⟩:=MJ.mp hg;rw[Rs] at ez;obtain⟨n',m',en',em',rfl⟩:=ez;rw[en] at en';rw[em] at em';cases en';cases em';cases hx;cases hy;exact⟨T,_,rfl,dF.of hT,rfl,_,_,rfl,_,_,rfl,rfl,aW (B:=S H1) ⟨_,rfl,_,rfl,_,_,rfl,rfl,kk _ _ ⟨af.refl _,.int _⟩⟩⟩
  ·have e:=dD hzs;subst e;exact⟨D,_,rfl,.inl ⟨bH.of ae,λl hl=>q _ _ ((s1.trans (af.new hD)).trans (af.new hl)) ae⟩⟩
theorem bW:ao ["far","whole","corner","left","parts","way"] uC2 (ah cU):=df
inductive jK (K:HD)(vs:List V)(H:Hp)(Q:VK)(_:XK):Prop
 |mk (a:Mz) (x y z whole:Int) (_:vs=[.ref a,.int whole]) (_:bH K H a [.int x,.int y,.int z]) (_:Cw K "parts_by_four" H) (_:∀ (o:Nat×Nat×Nat) (D:Mz) (ys:List V) (H':Hp),o∈tP->aU x y z o.2.1<=aU x y z o.1->aU x y z o.2.2<=aU x y z o.2.1->af H H'->H' D=some (.lst ys)->az K H' ((iE (aU x y z) whole o.1 o.2.1 o.2.2).map DL) ys->Q (.ref D) H')
theorem oX (T:cZ K mg w):dN P w K mg base cP 2 "parts_by_four" uC2 [] (jK K):=by
  refine T.x3d.cal bW (bb:=λ_ _ _ _ _ H vs Q E hcv hr h=>?_);obtain⟨a,x,y,z,whole,rfl,ha,⟨Pt,tb,hP⟩,q⟩:=h;obtain⟨c,rfl,hcd⟩:=hcv Pt tb;refine⟨_,(cM.go (ab (av 2 bW.nd (be (ak aa (ak aa (ak aa aZ)))))
   (ab (av 3 bW.nd (aj 1))
   (ab (av 4 bW.nd (b9 aZ))
   (ab (eA Nr rfl (bx (K:=K) rfl (yE (K:=K) (i:=0) rfl rfl hr rfl T.xh rfl hcd rfl rfl (Bc rfl T.x1 (aE aa)))) (ai 5 bW.nd) (ab (bG (rj OP Of OK jD (aj 4) (aE (be (aD (aj 2) (ap cm (aj 3) (am K (aj 0) (aj 5))))))))
   (ab (av 2 bW.nd (ac ay (rX T) hr (aD (aj 2) (am K (AS (K:=K) (rows:=[[1,0,0],[0,1,0],[0,0,1]]) rfl T.x12) (aj 5)))))
   (ag (av 3 bW.nd (am K (aj 0) (aj 5)))))))
   (ab (bG (rj OP Of OK jD (aj 4) (aE (be (aD (aj 2) (aj 3))))))
   (ag (ar (aj 4))))))))),?_⟩
  refine⟨Eo,λc0 hc0=>⟨_,rfl,by decide,λPa hPa=>⟨3,rfl,by decide,λrg hrg=>?_⟩⟩⟩;have s0:af H (upd (upd (upd H c0 (.tup [.int 0,.int 0,.int 0])) Pa (.lst [])) rg (.rng 0 3)):=((af.new hc0).trans (af.new hPa)).trans (af.new hrg);have gc:upd (upd (upd H c0 (.tup [.int 0,.int 0,.int 0])) Pa (.lst [])) rg (.rng 0 3) c0=some (.tup (pX (0,0,0))):=af.new hrg _ _ (af.new hPa _ _ ae);have gP:upd (upd (upd H c0 (.tup [.int 0,.int 0,.int 0])) Pa (.lst [])) rg (.rng 0 3) Pa=some (.lst []):=af.new hrg _ _ ae;have gr:upd (upd (upd H c0 (.tup [.int 0,.int 0,.int 0])) Pa (.lst [])) rg (.rng 0 3) rg=some (.rng 0 3):=ae;have fP:H Pa=none:=(af.new (o:=.tup [.int 0,.int 0,.int 0]) hc0).free hPa;generalize upd (upd (upd H c0 (.tup [.int 0,.int 0,.int 0])) Pa (.lst [])) rg (.rng 0 3)=H1 at s0 gc gP gr ⊢;refine⟨rg,3,a,[x,y,z],rfl,gr,by decide,rfl,s0.seq ha,rfl,s0 _ _ hP,λH2 D order s2 hD perm pw=>?_⟩;obtain⟨⟨u,v,w⟩,ho,rfl⟩:=HE perm;obtain⟨u3,v3,w3⟩:=EM ho;have p1:aU x y z v<=aU x y z u:=by
   have:=(Oh.mp pw).1 (v:Int) (by simp)
   rwa [lS u3,lS v3] at this
  have p2:aU x y z w<=aU x y z v:=by
   have:=(Oh.mp (Oh.mp pw).2).1 (w:Int) (by simp)
   rwa [lS v3,lS w3] at this
  have s3:af H (upd H2 D (.lst ([(u:Int),(v:Int),(w:Int)].map V.int))):=(s0.trans s2).trans (af.new hD);have hD3:ck K (upd H2 D (.lst ([(u:Int),(v:Int),(w:Int)].map V.int))) D [.int (u:Int),.int (v:Int),.int (w:Int)] true:=bH.of ae;have gc3:=(s2.trans (af.new (o:=.lst ([(u:Int),(v:Int),(w:Int)].map V.int)) hD)) _ _ gc;have gP3:=(s2.trans (af.new (o:=.lst ([(u:Int),(v:Int),(w:Int)].map V.int)) hD)) _ _ gP;have DP:D≠Pa:=λz=>by rw[z,s2 _ _ gP] at hD;cases hD
  generalize upd H2 D (.lst ([(u:Int),(v:Int),(w:Int)].map V.int))=H3 at s3 hD3 gc3 gP3 ⊢;have fr:∀ {H':Hp},Mv [Pa] H3 H'->∀ b o,H3 b=some o->b≠Pa->H' b=some o:=λm b o e n=>m b o e (by simp[n])
  have sq:∀ {H':Hp},Mv [Pa] H3 H'->bH K H' a [.int x,.int y,.int z]:=λ{H'} m=>by
   have aP:∀ o,H a=some o->H' a=some o:=λo e=>m _ _ (s3 _ _ e) (λz=>by rw[Ml.mp z,fP] at e;cases e)
   rcases ha with (h|⟨o,h⟩)|h
   ·exact .inl (.inl (aP _ h))
   ·exact .inl (.inr ⟨o,aP _ h⟩)
   ·exact .inr h
  have hlD:∀ {H':Hp},Mv [Pa] H3 H'->ck K H' D [.int (u:Int),.int (v:Int),.int (w:Int)] true:=λ{H'} m=>by
   rcases hD3 with (h|⟨o,h⟩)|h
   ·exact .inl (.inl (fr m _ _ h DP))
   ·exact .inl (.inr ⟨o,fr m _ _ h DP⟩)
   ·exact .inr h
  have kY:∀ (g:Nat) (cc:Kn) (left:Int) (ps:List Pc) (H4:Hp) (ca:Mz) (ys:List V),g < 3->Mv [Pa] H3 H4->H4 ca=some (.tup (pX cc))->H4 Pa=some (.lst ys)->az K H4 (ps.map DL) ys->ps.length <= 10 ->
    ∀ R:Hp->Mz->List V->Prop,(∀ H5 cb zs,Mv [Pa] H3 H5->H5 cb=some (.tup (pX (aB cc (un g))))->H5 Pa=some (.lst zs)->az K H5 ((ps++[(cc,left-aU x y z g)]).map DL) zs->R H5 cb zs) ->
    ∀ p,H4 p=none->(∀ sa,EK K sa [[1,0,0],[0,1,0],[0,0,1]]->∃ (bs:List V) (b:Mz),KT K sa bs/\AD bs (g:Int)=some (.ref b)/\KT K b (pX (un g))) /\
     ∀ cb H5,af (upd (upd H4 p (.tup [.ref ca,.int (left-aU x y z g)])) Pa (.lst (ys++[.ref p]))) H5->H5 cb=some (.tup (pX (aB cc (un g))))->R H5 cb (ys++[.ref p]):=by
   intro g cc left ps H4 ca ys g3 m4 hca hPa4 hys hpl R kk p hp;refine⟨λsa hs=>CV hs g3,λcb H5 s5 hcb=>?_⟩;have pP:p≠Pa:=λz=>by rw[z,hPa4] at hp;cases hp
   have m5:Mv [Pa] H4 (upd (upd H4 p (.tup [.ref ca,.int (left-aU x y z g)])) Pa (.lst (ys++[.ref p]))):=λb o e n=>by
    rw[aq (λz=>n (by simp[z])),aq (aL e hp)];exact e
   have li:bR H4 [Pa]:=λb mm=>⟨ys,by rw[Ml.mp mm];exact hPa4⟩
   refine kk H5 cb _ ((m4.trans m5).trans (Mv.of s5)) hcb (s5 _ _ ae) ?_;rw[Og];refine az.same s5 ((az.mv m5 li (qS ps) hys).snoc (.tup (by rw[aq pP];exact ae) (.cons ?_ (.cons (.int _) .nil))));exact kE (m5 _ _ hca (λz=>by rw[Ml.mp z,hPa4] at hca;cases hca))
  refine ⟨D,true,rfl,⟨_,hD3⟩,ny (xs:=[.int (u:Int),.int (v:Int),.int (w:Int)]) (fun i σ H'=>∃ (ca:Mz) (ys:List V) (ow:Option V) (cc:Kn) (left:Int),σ=[some (.ref a),some (.int whole),some (.ref ca),some (.int left),some (.ref Pa),ow]/\Mv [Pa] H3 H'/\H' ca=some (.tup (pX cc))/\H' Pa=some (.lst ys) /\
    az K H' (((iE (aU x y z) whole u v w).take i).map DL) ys/\(cc=match i with|0=>(0,0,0)|1=>un u|2=>aB (un u) (un v)|_=>aB (aB (un u) (un v)) (un w))/\left=match i with|0=>whole|1=>aU x y z u|2=>aU x y z v|_=>aU x y z w)
   ⟨c0,[],none,(0,0,0),whole,rfl,Mv.refl,gc3,gP3,.nil,rfl,rfl⟩ (λi σ H' hi ⟨_,_,_,_,_,_,m,_⟩=>hlD m) ?_ ?_⟩
  ·rintro i wv σ H4 ew ⟨ca,ys,ow,cc,left,rfl,m4,hca,hPa4,hys,ecc,eleft⟩;have hpl:((iE (aU x y z) whole u v w).take i).length<=10:=by rw[M3];show min i 4<=10;lia
   obtain⟨g,rfl,g3,hg⟩:∃ g:Nat,wv=.int (g:Int)/\g<3/\((i=0/\g=u)\/(i=1/\g=v)\/(i=2/\g=w)):=by
    rcases pJ ew with ⟨rfl,rfl⟩|⟨rfl,rfl⟩|⟨rfl,rfl⟩
    ·exact⟨u,rfl,u3,.inl ⟨rfl,rfl⟩⟩
    ·exact⟨v,rfl,v3,.inr (.inl ⟨rfl,rfl⟩)⟩
    ·exact⟨w,rfl,w3,.inr (.inr ⟨rfl,rfl⟩)⟩
   have hl:=hys.length;rw[Mq] at hl;refine⟨_,rfl,.inl ⟨rfl,_,bH.of hPa4⟩,_,rfl,_,rfl,_,rfl,_,rfl,.inl ⟨a,_,_,_,rfl,rfl,sq m4,AY g3,_,_,rfl,rfl,l7,λp hp=>?_⟩⟩;have pP:p≠Pa:=λz=>by rw[z,hPa4] at hp;cases hp
   obtain⟨t1,t2⟩:=kY g cc left _ H4 ca ys g3 m4 hca hPa4 hys hpl (λH5 cb zs=>∃ (ca:Mz) (ys:List V) (ow:Option V) (cc:Kn) (left:Int),[some (V.ref a),some (V.int whole),some (V.ref cb),some (V.int (aU x y z g)),some (V.ref Pa),some (V.int (g:Int))]=[some (.ref a),some (.int whole),some (.ref ca),some (.int left),some (.ref Pa),ow]/\Mv [Pa] H3 H5/\H5 ca=some (.tup (pX cc))/\H5 Pa=some (.lst ys) /\
    az K H5 (((iE (aU x y z) whole u v w).take (i+1)).map DL) ys/\(cc=match i+1 with|0=>(0,0,0)|1=>un u|2=>aB (un u) (un v)|_=>aB (aB (un u) (un v)) (un w))/\left=match i+1 with|0=>whole|1=>aU x y z u|2=>aU x y z v|_=>aU x y z w) (λH5 cb zs m5 hcb hP5 hzs=>by
     refine⟨cb,zs,_,_,_,rfl,m5,hcb,hP5,?_,?_,?_⟩
     ·rcases hg with ⟨rfl,rfl⟩|⟨rfl,rfl⟩|⟨rfl,rfl⟩<;>(subst ecc;subst eleft;exact hzs)
     ·rcases hg with ⟨rfl,rfl⟩|⟨rfl,rfl⟩|⟨rfl,rfl⟩
      ·subst ecc;show aB (0,0,0) (un g)=un g;unfold aB;simp
      ·subst ecc;rfl
      ·subst ecc;rfl
     ·rcases hg with ⟨rfl,rfl⟩|⟨rfl,rfl⟩|⟨rfl,rfl⟩<;>rfl) p hp
   have gP5:upd H4 p (.tup [.ref ca,.int (left-aU x y z g)]) Pa=some (.lst ys):=by rw[aq (OU pP)];exact hPa4
   refine⟨Pa,ys,.ref p,rfl,rfl,gP5,bD (by lia),?_⟩;have m6:Mv [Pa] H4 (upd (upd H4 p (.tup [.ref ca,.int (left-aU x y z g)])) Pa (.lst (ys++[.ref p]))):=λb o e n=>by
    rw[aq (λz=>n (by simp[z])),aq (aL e hp)];exact e
   have ca6:upd (upd H4 p (.tup [.ref ca,.int (left-aU x y z g)])) Pa (.lst (ys++[.ref p])) ca=some (.tup (pX cc)):=m6 _ _ hca (λz=>by rw[Ml.mp z,hPa4] at hca;cases hca);have sq6:=sq (m4.trans m6);refine⟨_,rfl,λsa hsa=>?_⟩;obtain⟨bs,b,k1,k2,k3⟩:=t1 sa hsa;refine⟨_,rfl,.inr (.inl ⟨sa,bs,_,_,rfl,rfl,k1.sq,k2,ca,b,[(cc.1:Int),(cc.2.1:Int),(cc.2.2:Int)],[((un g).1:Int),((un g).2.1:Int),((un g).2.2:Int)],rfl,dF.of ca6,k3.sq,rfl,by show 3<=10;decide,λcb H5 s5 hcb=>?_⟩)⟩;rw[Ap] at hcb;exact⟨_,rfl,_,rfl,.inl ⟨a,_,_,_,rfl,rfl,s5.seq sq6,AY g3,t2 cb H5 s5 hcb⟩⟩
  ·rintro σ H4 ⟨ca,ys,ow,cc,left,rfl,m4,hca,hPa4,hys,ecc,eleft⟩;have hl:=hys.length;rw[Mq] at hl;refine⟨_,rfl,.inl ⟨rfl,_,bH.of hPa4⟩,_,rfl,_,rfl,l7,λp hp=>?_⟩;have pP:p≠Pa:=λz=>by rw[z,hPa4] at hp;cases hp
   refine⟨Pa,ys,.ref p,rfl,rfl,by rw[aq (OU pP)];exact hPa4,bD (by rw[<- hl];show 3<=1000;decide),_,rfl,?_⟩;have m6:Mv [Pa] H4 (upd (upd H4 p (.tup [.ref ca,.int left])) Pa (.lst (ys++[.ref p]))):=λb o e n=>by
    rw[aq (λz=>n (by simp[z])),aq (aL e hp)];exact e
   have li:bR H4 [Pa]:=λb mm=>⟨ys,by rw[Ml.mp mm];exact hPa4⟩
   subst ecc eleft;refine q (u,v,w) Pa _ _ ho p1 p2 (λb o e=>(m4.trans m6) b o (s3 _ _ e) (λz=>by rw[Ml.mp z,fP] at e;cases e)) ae ?_;refine(az.mv m6 li (qS _) hys).snoc (d:=DL (aB (aB (un u) (un v)) (un w),aU x y z w)) (.tup (by rw[aq pP];exact ae) (.cons ?_ (.cons (.int _) .nil)));exact kE (m6 _ _ hca (λz=>by rw[Ml.mp z,hPa4] at hca;cases hca))
theorem bM:ao ["far","whole","parts","corner","part","beyond","distance"] uC2 (ah fZ):=df
inductive iX (K:HD)(vs:List V)(H:Hp)(Q:VK)(_:XK):Prop
 |mk (a:Mz) (x y z whole:Int) (b:Nat) (_:vs=[.ref a,.int whole]) (_:bH K H a [.int x,.int y,.int z]) (_:Sm b x) (_:Sm b y) (_:Sm b z) (_:Sm b whole) (_:b<=2000) (_:∀ (D:Mz) (ys:List V) (H':Hp),af H H'->H' D=some (.lst ys)->az K H' ((c_ (aU x y z) whole).map DL) ys->Q (.ref D) H')
theorem nS (T:cZ K mg w):dN P w K mg base cP 2 "parts_by_eight" uC2 [] (iX K):=by
  refine T.x20.cal bM (bb:=λ_ _ _ _ _ H vs Q E hr h=>?_);obtain⟨a,x,y,z,whole,b,rfl,ha,sx,sy,sz,sw,hb,q⟩:=h;refine⟨_,(cM.go (ab (av 2 bM.nd (b9 aZ))
   (ab (eA Nr rfl (bx (K:=K) rfl (ac ay (qg T) hr (aE aa))) (ai 3 bM.nd) (ab (av 4 bM.nd aa)
   (ab (eA Nr rfl (iL (K:=K) rfl rfl T.x8 (aD (aj 3) (aj 0))) (cS (K:=K) (n:=2) rfl rfl (aw (ai 5 bM.nd) (aw (ai 6 bM.nd) bu))) (ag (xA (i:=4) bM.nd rfl (by first|exact Vo rfl|exact Uj rfl) (ib (aR eI (aj 5) aa (aV _)) (aj 6) (ap cm (aj 1) (aj 6))) CO)))
   (ag (bG (rj OP Of OK jD (aj 2) (aE (be (aD (aj 3) (aj 4))))))))))
   (ag (ar (aj 2)))))),?_⟩
  have fs:=DY sx sy sz sw;have gs:∀ k c,Sm 8000 (nr (aU x y z) whole k c):=λk c=>(fs k c).mono (by lia)
  have ps:∀ t j,Sm 8000 (dw (aU x y z) whole t j):=λt j=>(zg fs t j).mono (by lia)
  refine⟨by decide,λPa hPa=>⟨2,rfl,by decide,λD xs H1 s1 hD hxs=>?_⟩⟩;have gP:=s1 _ _ (ae (H:=H) (a:=Pa) (o:=.lst []));have s0:af H H1:=(af.new hPa).trans s1;have DP:D≠Pa:=λz=>by
   rw[z,gP] at hD;cases hD;have:=hxs.length;exact absurd this (by decide)
  have lx:=hxs.length;rw[Mq] at lx;refine⟨D,true,rfl,⟨_,bH.of hD⟩,ny (xs:=xs) (λi σ H'=>∃ (ys:List V) (o1 o2 o3 o4:Option V),σ=[some (.ref a),some (.int whole),some (.ref Pa),o1,o2,o3,o4]/\Mv [Pa] H1 H'/\H' Pa=some (.lst ys)/\az K H' (((c_ (aU x y z) whole).take i).map DL) ys)
   ⟨[],_,_,_,_,rfl,Mv.refl,gP,.nil⟩ (λi σ H' hi ⟨_,_,_,_,_,_,m,_⟩=>bH.of (m _ _ hD (by simp[DP]))) ?_ ?_⟩
  ·rintro i wv σ H4 ew ⟨ys,o1,o2,o3,o4,rfl,m4,hP4,hys⟩;obtain⟨d,ed,hd⟩:=hxs.get ew;rw[Mw] at ed;obtain⟨t,et,rfl⟩:=MJ.mp ed;obtain⟨ca,rfl,hca⟩:=qG hd;have hca4:H4 ca=some (.tup (pX t)):=m4 _ _ hca (λz=>by rw[Ml.mp z,gP] at hca;cases hca);have ha4:bH K H4 a [.int x,.int y,.int z]:=by
    have aP:∀ o,H a=some o->H4 a=some o:=λo e=>m4 _ _ (s0 _ _ e) (λz=>by rw[Ml.mp z,hPa] at e;cases e)
    rcases ha with (h|⟨o,h⟩)|h
    ·exact .inl (.inl (aP _ h))
    ·exact .inl (.inr ⟨o,aP _ h⟩)
    ·exact .inr h
   have hl:=hys.length;have e8:(c_ (aU x y z) whole).length=8:=by unfold c_;rw[Mq];rfl
   rw[Mq,M3,e8] at hl;refine⟨_,rfl,_,rfl,ca,a,false,true,rfl,⟨_,dF.of hca4⟩,⟨_,ha4⟩,Gp (K:=K) (xs:=pX t) (ys:=[.int x,.int y,.int z]) (λj σ H'=>(∃ o3 o4,σ=[some (.ref a),some (.int whole),some (.ref Pa),some (.ref ca),some (.int (dw (aU x y z) whole t j)),o3,o4])/\af H4 H')
    ⟨⟨_,_,rfl⟩,af.refl _⟩ rfl (λj σ H' _ ⟨_,s⟩=>⟨yS s (dF.of hca4),s.seq ha4⟩) ?_ ?_⟩
   ·rintro j u v T σ H5 eu ev ⟨⟨o3,o4,rfl⟩,s5⟩ hT;refine⟨T,_,rfl,dF.of ae,rfl,_,_,rfl,_,_,rfl,rfl,_,rfl,?_⟩;have sT:=s5.trans (af.new (o:=.tup [u,v]) hT);rcases pJ eu with ⟨rfl,rfl⟩|⟨rfl,rfl⟩|⟨rfl,rfl⟩
    ·cases(Mi ev);refine⟨_,rfl,_,_,rfl,rfl,_,rfl,f9 (λhc=>?_) (λhc=>?_)⟩
     ·have e:t.1=1:=by have:=Nx hc;lia
      have hf:nr (aU x y z) whole 0 t.1=x:=by unfold nr;rw[Nd e];rfl
      have g0:=gs 0 t.1;rw[hf] at g0;exact⟨_,rfl,_,_,rfl,rfl,.inl ⟨ps t 0,g0⟩,⟨_,_,by rw[show dw (aU x y z) whole t (0+1)=dw (aU x y z) whole t 0*x from(show _=dw (aU x y z) whole t 0*nr (aU x y z) whole 0 t.1 from rfl).trans (PZ _ hf)];rfl⟩,sT⟩
     ·have e:¬ t.1=1:=by have:=P0 (by simpa using hc);lia
      have hf:nr (aU x y z) whole 0 t.1=whole-x:=by unfold nr;rw[MT e];rfl
      have g0:=gs 0 t.1;rw[hf] at g0;exact⟨_,rfl,_,rfl,_,_,rfl,rfl,_,_,rfl,rfl,.inl ⟨ps t 0,g0⟩,⟨_,_,by rw[show dw (aU x y z) whole t (0+1)=dw (aU x y z) whole t 0*(whole-x) from(show _=dw (aU x y z) whole t 0*nr (aU x y z) whole 0 t.1 from rfl).trans (PZ _ hf)];rfl⟩,sT⟩
    ·cases(Mi ev);refine⟨_,rfl,_,_,rfl,rfl,_,rfl,f9 (λhc=>?_) (λhc=>?_)⟩
     ·have e:t.2.1=1:=by have:=Nx hc;lia
      have hf:nr (aU x y z) whole 1 t.2.1=y:=by unfold nr;rw[Nd e];rfl
      have g0:=gs 1 t.2.1;rw[hf] at g0;exact⟨_,rfl,_,_,rfl,rfl,.inl ⟨ps t 1,g0⟩,⟨_,_,by rw[show dw (aU x y z) whole t (1+1)=dw (aU x y z) whole t 1*y from(show _=dw (aU x y z) whole t 1*nr (aU x y z) whole 1 t.2.1 from rfl).trans (PZ _ hf)];rfl⟩,sT⟩
     ·have e:¬ t.2.1=1:=by have:=P0 (by simpa using hc);lia
      have hf:nr (aU x y z) whole 1 t.2.1=whole-y:=by unfold nr;rw[MT e];rfl
      have g0:=gs 1 t.2.1;rw[hf] at g0;exact⟨_,rfl,_,rfl,_,_,rfl,rfl,_,_,rfl,rfl,.inl ⟨ps t 1,g0⟩,⟨_,_,by rw[show dw (aU x y z) whole t (1+1)=dw (aU x y z) whole t 1*(whole-y) from(show _=dw (aU x y z) whole t 1*nr (aU x y z) whole 1 t.2.1 from rfl).trans (PZ _ hf)];rfl⟩,sT⟩
    ·cases(Mi ev);refine⟨_,rfl,_,_,rfl,rfl,_,rfl,f9 (λhc=>?_) (λhc=>?_)⟩
     ·have e:t.2.2=1:=by have:=Nx hc;lia
      have hf:nr (aU x y z) whole 2 t.2.2=z:=by unfold nr;rw[Nd e];rfl
      have g0:=gs 2 t.2.2;rw[hf] at g0;exact⟨_,rfl,_,_,rfl,rfl,.inl ⟨ps t 2,g0⟩,⟨_,_,by rw[show dw (aU x y z) whole t (2+1)=dw (aU x y z) whole t 2*z from(show _=dw (aU x y z) whole t 2*nr (aU x y z) whole 2 t.2.2 from rfl).trans (PZ _ hf)];rfl⟩,sT⟩
     ·have e:¬ t.2.2=1:=by have:=P0 (by simpa using hc);lia
      have hf:nr (aU x y z) whole 2 t.2.2=whole-z:=by unfold nr;rw[MT e];rfl
      have g0:=gs 2 t.2.2;rw[hf] at g0;exact⟨_,rfl,_,rfl,_,_,rfl,rfl,_,_,rfl,rfl,.inl ⟨ps t 2,g0⟩,⟨_,_,by rw[show dw (aU x y z) whole t (2+1)=dw (aU x y z) whole t 2*(whole-z) from(show _=dw (aU x y z) whole t 2*nr (aU x y z) whole 2 t.2.2 from rfl).trans (PZ _ hf)];rfl⟩,sT⟩
   ·rintro σ H5 ⟨⟨o3,o4,rfl⟩,s5⟩;have hP5:=s5 _ _ hP4;refine⟨_,rfl,.inl ⟨rfl,_,bH.of hP5⟩,_,rfl,_,rfl,l7,λp hp=>?_⟩;have pP:p≠Pa:=λz=>by rw[z,hP5] at hp;cases hp
    refine⟨Pa,ys,.ref p,rfl,rfl,by rw[aq (OU pP)];exact hP5,bD (by lia),?_⟩;have m6:Mv [Pa] H5 (upd (upd H5 p (.tup [.ref ca,.int (dw (aU x y z) whole t (pX t).length)])) Pa (.lst (ys++[.ref p]))):=λb o e n=>by
     rw[aq (λz=>n (by simp[z])),aq (aL e hp)];exact e
    have li:bR H5 [Pa]:=λb mm=>⟨ys,by rw[Ml.mp mm];exact hP5⟩
    refine⟨_,_,_,_,_,rfl,(m4.trans (Mv.of s5)).trans m6,ae,?_⟩;have et':(c_ (aU x y z) whole)[i]?=some (t,dw (aU x y z) whole t 3):=by
     unfold c_;rw[Mw,et];rfl
    rw[cw et',Og];refine(az.mv m6 li (qS _) (az.same s5 hys)).snoc (.tup (by rw[aq pP];exact ae) (.cons ?_ (.cons (.int _) .nil)));exact kE (m6 _ _ (s5 _ _ hca4) (λz=>by rw[Ml.mp z,hP4] at hca4;cases hca4))
  ·rintro σ H4 ⟨ys,o1,o2,o3,o4,rfl,m4,hP4,hys⟩;rw[Nf (by rw[<- lx];show(c_ (aU x y z) whole).length<=_;unfold c_;rw[Mq];exact Mm _)] at hys;exact⟨_,rfl,q Pa ys H4 (λb o e=>m4 b o (s0 _ _ e) (λz=>by rw[Ml.mp z,hPa] at e;cases e)) hP4 hys⟩
theorem BB:ao uA0 uA0 (ah rE):=df
def GU:List (Str×Str):=[("four","parts_by_four"),("eight","parts_by_eight")]
inductive Ci (K:HD)(vs:List V)(H:Hp)(Q:VK)(_:XK):Prop
 |mk (i:Str) (_:vs=[.str i]) (_:Q (.bl (GU.lookup i).isSome) H)
theorem BK (T:cZ K mg w):dN P w K mg base cP 1 "is_way" uA0 [] (Ci K):=by
  refine T.x21.cal BB (bb:=λ_ _ _ _ _ H vs Q E hr h=>?_);obtain⟨i,rfl,q⟩:=h;refine⟨_,(cM.go (ag (ar (dX (au (kq (K:=K) rfl) (by rfl) T.x2 aK (aD (aj 0) (bU (v:=.ty "str") rfl T.x13 HK rfl))) (gj (cH (Du (K:=K) (w:=w) (mg:=mg) (kvs:=[("four","parts_by_four"),("eight","parts_by_eight")]) rfl rfl) (aj 0) (AJ (K:=K) (w:=w) (mg:=mg) (kvs:=[("four","parts_by_four"),("eight","parts_by_eight")]) rfl T.xp) rfl)))))),?_⟩;refine⟨_,rfl,_,_,_,true,rfl,.str i,(show iG "str" "str"=some true by decide +kernel),_,rfl,aW ?_⟩;exact⟨_,rfl,λD hD=>⟨i,D,rfl,rfl,hD,q⟩⟩
theorem nh:ao uC4 uC4 (ah fC):=df
inductive mV (K:HD)(vs:List V)(H:Hp)(Q:VK)(_:XK):Prop
 |mk (a C dx d:Mz) (n:Nat) (f:Kn->R3) (_:vs=[.ref a,.int n,.ref d]) (_:cO K "Grid" C) (_:H a=some (.ins C dx [])) (_:Gr K H n f d) (_:Aw n f) (_:2<=n) (_:n<=7) (_:∀ (H':Hp) (L:Mz),Mv [a] H H'->H' a=some (.ins C dx [("knots",.int n),("table",.ref L)])->Gr K H' n f L->H L=none->Q .non H')
theorem ff (T:cZ K mg w):ky P w K mg base cP 6 "Grid" "__init__" uC4 [] (mV K):=by
  refine T.x22.cal nh (bb:=λ_ _ _ _ _ H vs Q E hr h=>?_);obtain⟨a,C,dx,d,n,f,rfl,hC,ha,hg,hw,h2,h7,q⟩:=h;refine⟨_,(cM.go (ab (a_ (aX (aS (ac ay (y6 T) hr (aE (aj 1))))) (ag bE) aH)
   (ab (a_ (aX (aS (ac ay (yr T) hr (aD (aj 2) (aj 1))))) (ag bE) aH)
   (ab (dP (K:=K) (x:="Grid") rfl T.x0 (.head _) (aj 0) (aj 1))
   (ag (dP (K:=K) (x:="Grid") rfl T.x0 (.tail _ (.head _)) (aj 0) (bV zo (by rfl) T.xl AC (aE (aj 2))))))))),?_⟩
  have e1:Fx 2 7 (.int (n:Int))=true:=by
   show(decide ((2:Int)<=n)&&decide ((n:Int)<=7))=true;rw[Ms (show(2:Int)<=n by lia),Ms (show(n:Int)<=7 by lia)];rfl
  refine⟨_,rfl,.int n,.int n,rfl,.int _,true,by rw[e1],bA ?_⟩;refine⟨_,rfl,_,rfl,d,n,f,rfl,hg,hw,h7,λH1 s1=>⟨_,rfl,bA ?_⟩⟩;have ha1:=s1 _ _ ha;have hg1:=hg.same s1;refine⟨_,rfl,_,rfl,a,C,dx,[],rfl,hC,ha1,by decide,?_⟩;obtain⟨ts,pm,vs,hd,hvs⟩:=id hg1;have hlen:=A7.len hvs;have na:d≠a:=λz=>by rw[z,ha1] at hd;cases hd
  have mv1:Mv [a] H1 (upd H1 a (.ins C dx (d_ "knots" (.int n) []))):=λb o e nb=>by rw[aq (λz=>nb (by simp[z]))];exact e
  have ne:jV ts vs≠[]:=λz=>by
   have:=PZ Uy z;rw[sU hlen,pm.length_eq,lN] at this;have:0<n^3:=Nat.pow_pos (by lia);rw[QO] at *;lia
  refine⟨_,rfl,d,_,rfl,.inl (mv1 _ _ hd (by simp[na])),ne,FI h7 pm hlen,λL hL=>?_⟩;refine⟨_,rfl,a,C,dx,_,rfl,hC,by rw[aq (λz=>by rw[<- z,ae] at hL;cases hL)];exact ae,by show 1<1000;decide,?_⟩;have La:L≠a:=λz=>by rw[z,ae] at hL;cases hL
  have mv2:Mv [a] H1 (upd (upd (upd H1 a (.ins C dx (d_ "knots" (.int n) []))) L (.dT (jV ts vs))) a (.ins C dx (d_ "table" (.ref L) (d_ "knots" (.int n) [])))):=λb o e nb=>by
   have nb:b≠a:=λz=>nb (by simp[z])
   rw[aq nb,aq (λz=>by rw[<- z,aq nb,e] at hL;cases hL),aq nb];exact e
  have wkeep:∀ {ts:List Kn}{ws:List V}{H':Hp},Mv [a] H1 H'->az K H1 (ts.map λt=>wD (f t)) ws->az K H' (ts.map λt=>wD (f t)) ws:=λ{ts ws H'} m h=>by
   induction ts generalizing ws with
   |nil=>cases h;exact .nil
   |cons t ts ih=>
    cases h with
    |cons h1 h2=>
     refine .cons ?_ (ih h2);have h1':ax K H1 (.tuple (f t).ds) _:=h1;cases h1' with
     |tup k1 k2=>
      cases h_ k2;exact .tup (m _ _ k1 (λz=>by rw[Ml.mp z,ha1] at k1;cases k1)) (.cons (.int _) (.cons (.int _) (.cons (.int _) .nil)))
  refine q _ L (λb o e nb=>mv2 b o (s1 _ _ e) nb) ae ⟨ts,pm,vs,?_,wkeep mv2 hvs⟩ ?_
  ·rw[aq La];exact ae
  ·cases z:H L with
   |none=>rfl
   |some o=>
    rw[aq La,s1 _ _ z] at hL;cases hL
theorem tH:ao uC0 uC0 (ah jh):=df
inductive sY (K:HD)(vs:List V)(H:Hp)(Q:VK)(_:XK):Prop
 |mk (v x:V) (n:Nat) (f:Kn->R3) (t:Kn) (_:vs=[v,x]) (_:j9 K H n f v) (_:ax K H (FZ t) x) (_:t∈bf n) (_:∀ (w:V) (H':Hp),af H H'->ax K H' (wD (f t)) w->Q w H')
theorem sk (T:cZ K mg w):ky P w K mg base cP 5 "Grid" "knot" uC0 [] (sY K):=by
  refine T.x23.cal tH (bb:=λ_ _ _ _ _ H vs Q E hr h=>?_);obtain⟨v,x,n,f,t,rfl,hv,hx,ht,q⟩:=h;obtain⟨a,C,dx,d,rfl,hC,ha,hg⟩:=id hv;refine⟨_,(cM.go (ab (a_ (aX (aS (ac ay (sO T) hr (aD (aj 1) (aY (K:=K) (x:="Grid") rfl T.x0 (.head _) (aj 0)))))) (ag bE) aH)
   (ag (ar (sN hr.u1 (aY (K:=K) (x:="Grid") rfl T.x0 (.tail _ (.head _)) (aj 0)) (aj 1) (λ_ _=>rfl)))))),?_⟩
  have hm:=eX.mp ht;have e:([(t.1:Int),(t.2.1:Int),(t.2.2:Int)].all λk=>decide (0<=k)&&decide (k<=(n:Int)-1))=true:=by
   simp only[RC,Vk,Ry,Nh,Rc];lia
  refine⟨_,rfl,_,rfl,a,C,dx,_,_,rfl,hC,ha,rfl,x,[(t.1:Int),(t.2.1:Int),(t.2.2:Int)],n,rfl,hx,rfl,λH1 s1=>⟨true,by rw[e],bA ?_⟩⟩;obtain⟨b,rfl,hb⟩:=qG (ax.same s1 hx);obtain⟨w,g1,g2⟩:=IE (hg.same s1) ht hb;exact⟨_,rfl,a,C,dx,_,_,rfl,hC,s1 _ _ ha,rfl,_,rfl,d,w,rfl,g1,q _ _ s1 g2⟩
theorem rO:ao uA5 uA5 (ah jc):=df
inductive sX (K:HD)(vs:List V)(H:Hp)(Q:VK)(_:XK):Prop
 |mk (v:V) (n:Nat) (f:Kn->R3) (_:vs=[v]) (_:j9 K H n f v) (_:2<=n) (_:n<=7) (_:∀ (w:V) (H':Hp),af H H'->ax K H' (.tuple [.int n,.int (t4 n)]) w->Q w H')
theorem kI (T:cZ K mg w):ky P w K mg base cP 2 "Grid" "size" uA5 [] (sX K):=by
  refine T.x24.cal rO (bb:=λ_ _ _ _ _ H vs Q E hr h=>?_);obtain⟨v,n,f,rfl,hv,h2,h7,q⟩:=h;obtain⟨a,C,dx,d,rfl,hC,ha,hg⟩:=hv;refine⟨_,(cM.go (ag (ar (be (aD (aY (K:=K) (x:="Grid") rfl T.x0 (.head _) (aj 0)) (ac ay (C9 T) hr (aE (aY (K:=K) (x:="Grid") rfl T.x0 (.head _) (aj 0))))))))),?_⟩;refine⟨_,rfl,a,C,dx,_,_,rfl,hC,ha,rfl,_,rfl,a,C,dx,_,_,rfl,hC,ha,rfl,n,rfl,h2,h7,l7,λp hp=>?_⟩;exact q _ _ (af.new hp) (ax.tupN hp (.cons (.int _) (.cons (.int _) .nil)))
theorem gH:ao ["self","least","parts","worths","amounts"] uD5 (ah iO):=df
inductive qz (K:HD)(vs:List V)(H:Hp)(Q:VK)(_:XK):Prop
 |mk (v x:V) (D:Mz) (ys:List V) (n:Nat) (f:Kn->R3) (base:Kn) (ps:List Pc) (_:vs=[v,x,.ref D]) (_:j9 K H n f v) (_:ax K H (FZ base) x) (_:H D=some (.lst ys)) (_:az K H (ps.map DL) ys) (_:ps.length<=10) (_:Aw n f) (_:(∀ p∈ps,aB base p.1∈bf n)) (_:(∀ p∈ps,Sm 7000 p.2)) (_:(ps.map (·.2)).sum≠0) (_:Sm 8000 (ps.map (·.2)).sum) (_:∀ (w:V) (H':Hp),af H H'->ax K H' (Cr f base ps).col w->Q w H')
theorem qE (T:cZ K mg w):ky P w K mg base cP 6 "Grid" "mixed" uD5 [] (qz K):=by
  refine T.x25.cal gH (bb:=λ_ _ _ _ _ H vs Q E hr h=>?_);obtain⟨v,x,D,ys,n,f,base,ps,rfl,hv,hx,hD,hys,hl,hw,hk,hp,h0,hS,q⟩:=h;refine⟨_,(cM.go (ab (av 3 gH.nd (aF ["corner","part"] ["self","least"] [0,1] 2 (bx (K:=K) rfl (aj 2)) (λnd=>(cS (K:=K) (n:=2) rfl rfl (aw (ai 0 nd) (aw (ai 1 nd) bu)))) aA (jR (K:=K) rfl ay (sk T) (hr.mono (by decide)) (aj 2) (aE (ac ay (rX T) hr (aD (aj 3) (aj 0)))))))
   (ab (av 4 gH.nd (aF ["corner","part"] [] [] 2 (bx (K:=K) rfl (aj 2)) (λnd=>(cS (K:=K) (n:=2) rfl rfl (aw (ai 0 nd) (aw (ai 1 nd) bu)))) aA (aj 1)))
   (ag (ar (bV (i9 (K:=K) rfl) (by rfl) T.x5 cJ (aE (aF ["k"] ["worths","amounts"] [3,4] 1 (bg rfl T.x1 (aE aa)) (λnd=>(ai 0 nd)) aA (ac ay (dC T T.xb) hr (aD (ac ay (rG T) hr (aD (aF ["worth"] ["k"] [0] 1 (bx (K:=K) rfl (aj 1)) (λnd=>(ai 0 nd)) aA (am K (aj 0) (aj 1))) (aj 2))) (au (DR (K:=K) rfl rfl) (by rfl) T.xo DS (aE (aj 2))))))))))))),?_⟩
  obtain⟨a,C,dx,d,rfl,hC,ha,hg⟩:=id hv;obtain⟨la,rfl,hla⟩:=qG hx;have lw:∀ {r:R3},r.Wt->∀ g:R3->Int,(∀ r:R3,g r=r.a\/g r=r.b\/g r=r.c)->Sm 8000 (g r):=λ{r} h g hgr=>by
   refine Sm.mono (k:=20) ?_ (by decide);obtain⟨a0,a1,b0,b1,c0,c1⟩:=h;unfold Sm;rcases hgr r with e|e|e<;>(rw[e];lia)
  refine⟨_,rfl,D,true,rfl,⟨_,bH.of hD⟩,bX (es:=ps.map λp=>wD (f (aB base p.1))) (show ck K H D ys true from bH.of hD) hys (by simp) (by simp;lia) (λi e e' u H1 hd he s1 hu R kk S=>?_) (λws H1 s1 hws W hW=>?_)⟩
  ·rw[Mw] at hd he;obtain⟨p,ep,rfl⟩:=MJ.mp hd;rw[ep] at he;cases he;obtain⟨ta,ca,rfl,hta,hca⟩:=Ed hu;refine⟨ta,_,rfl,dF.of hta,rfl,_,_,rfl,_,_,rfl,rfl,aW (B:=S H1) ?_⟩;refine⟨_,rfl,a,C,dx,_,rfl,hC,s1 _ _ ha,rfl,_,rfl,_,rfl,la,ca,[(base.1:Int),(base.2.1:Int),(base.2.2:Int)],[(p.1.1:Int),(p.1.2.1:Int),(p.1.2.2:Int)],rfl,dF.of (s1 _ _ hla),dF.of hca,rfl,by show 3<=10;decide,λpa H2 s2 hpa=>?_⟩;rw[Ap] at hpa;exact⟨.ref a,.ref pa,n,f,aB base p.1,rfl,hv.same (s1.trans s2),kE hpa,hk p (ME ep),λw H3 s3 hw3=>kk _ _ ⟨s2.trans s3,hw3⟩⟩
  have sW:af H1 (upd H1 W (.lst ws)):=af.new hW;have hW2:ck K (upd H1 W (.lst ws)) W ws true:=bH.of ae;have hws2:=az.same sW hws;have s2:=s1.trans sW;generalize upd H1 W (.lst ws)=H2 at sW hW2 hws2 s2 ⊢;refine⟨_,rfl,D,true,rfl,⟨_,bH.of (s2 _ _ hD)⟩,bX (es:=(ps.map (·.2)).map NR) (show ck K H2 D ys true from bH.of (s2 _ _ hD)) (az.same s2 hys) (by simp) (by simp;lia) (λi e e' u H3 hd he s3 hu R kk S=>?_) (λks H3 s3 hks L hL=>?_)⟩
  ·rw[Mw] at hd he;obtain⟨p,ep,rfl⟩:=MJ.mp hd;rw[Mw,ep] at he;cases he;obtain⟨ta,ca,rfl,hta,hca⟩:=Ed hu;exact⟨ta,_,rfl,dF.of hta,rfl,_,_,rfl,_,_,rfl,rfl,aW (B:=S H3) ⟨_,rfl,kk _ _ ⟨af.refl _,.int _⟩⟩⟩
  have eks:=dD hks;subst eks;have sL:af H3 (upd H3 L (.lst ((ps.map (·.2)).map V.int))):=af.new hL;have hL4:ck K (upd H3 L (.lst ((ps.map (·.2)).map V.int))) L ((ps.map (·.2)).map V.int) true:=bH.of ae;have s4:=s3.trans sL;generalize upd H3 L (.lst ((ps.map (·.2)).map V.int))=H4 at sL hL4 s4 ⊢;have hW4:=ck.same s4 hW2;have hws4:=az.same s4 hws2;refine⟨3,rfl,by decide,by decide,gq (K:=K) (lo:=0) (ds:=(Cr f base ps).ds) (n:=3) rfl (by decide) (λi e H5 he s5 R kk S=>?_) (λzs H5 s5 hzs Z hZ=>?_)⟩
  ·obtain⟨g,rfl,hi,hgv⟩:=K2 he;have hgr:∀ r:R3,g r=r.a\/g r=r.b\/g r=r.c:=λr=>by
    have:=hgv r;rcases pJ this with ⟨_,e⟩|⟨_,e⟩|⟨_,e⟩
    ·injection e with e;exact .inl e
    ·injection e with e;exact .inr (.inl e)
    ·injection e with e;exact .inr (.inr e)
   refine aW (B:=S H5) ⟨_,rfl,W,true,rfl,⟨_,ck.same s5 hW4⟩,bX (es:=(ps.map λp=>g (f (aB base p.1))).map NR) (ck.same s5 hW4) (az.same s5 hws4) (by simp) (by simp;lia) (λj e e' u H6 hd he s6 hu R2 kk2 S2=>?_) (λns H6 s6 hns N hN=>?_)⟩
   ·rw[Mw] at hd he;obtain⟨p,ep,rfl⟩:=MJ.mp hd;rw[Mw,ep] at he;cases he;obtain⟨wa,rfl,hwa⟩:=jZ (b:=false) hu;refine aW (B:=S2 H6) ⟨_,rfl,_,rfl,?_⟩;have:=pN (K:=K) (Q:=R2) hwa (hgv (f (aB base p.1))) (kk2 _ _ ⟨af.refl _,.int _⟩);rw[show((0:Int)+(i:Int))=(i:Int) from Sb _];exact this
   ·have ens:=dD hns;subst ens;have hL7:=ck.same ((s5.trans s6).trans (af.new (o:=.lst ((ps.map λp=>g (f (aB base p.1))).map V.int)) hN)) hL4;refine⟨_,rfl,N,L,true,true,_,_,rfl,bH.of ae,hL7,by simp,by simp;lia,λz hz=>?_,λz hz=>?_,λH7 s7=>?_⟩
    ·obtain⟨p,hp',rfl⟩:=Nc.mp hz;exact lw (hw _ (hk p hp')) g hgr
    ·obtain⟨p,hp',rfl⟩:=Nc.mp hz;exact(hp p hp').mono (by decide)
    ·refine⟨_,rfl,L,_,rfl,ck.same s7 hL7,_,_,rfl,h0,hS,?_⟩;refine j0.sh h0 λw H8 s8 hw8=>kk _ _ ⟨((s6.trans (af.new hN)).trans s7).trans s8,hw8⟩
  ·exact⟨Z,zs,rfl,.inl ⟨bH.of ae,λl hl=>q _ _ ((((s2.trans s4).trans s5).trans (af.new hZ)).trans (af.new hl)) (ax.tupN (ds:=(Cr f base ps).ds) hl (az.same (af.new hZ) hzs))⟩⟩
theorem ci:ao ["self","colour","way","parts_of","steps","least","tops","below","far"] uB9 (ah cD):=df
inductive qj (K:HD)(vs:List V)(H:Hp)(Q:VK)(_:XK):Prop
 |mk (v x:V) (CC:Str) (n:Nat) (f:Kn->R3) (c:Q3) (k:Nat) (_:vs=[v,x,.str CC]) (_:j9 K H n f v) (_:Aw n f) (_:2<=n) (_:n<=7) (_:ax K H c.col x) (_:c.Wi ((60:Int):Rat)) (_:c.Bd k) (_:k<=400) (_:Cw K "parts_by_four" H) (_:(CC="four"\/CC="eight")) (_:∀ (r:Q3) (w:V) (H':Hp),af H H'->(CC="four"->r=W4 n f c)->(CC="eight"->r=W8 n f c)->r.Bd (12*k+120)->ax K H' r.col w->Q w H')
theorem qD (T:cZ K mg w):pS P w K mg base cP 7 "Grid" "worth" uB9 [] 2 0 [.str "four"] (qj K):=by
  refine T.x3e.cal ci (bb:=λ_ _ _ _ _ H vs Q E hr h=>?_);obtain⟨v,x,CC,n,f,c,k,rfl,hv,hw,h2,h7,hx,wi,bd,hk,tb,hway,q⟩:=h;obtain⟨a,C,dx,d,rfl,hC,ha,hg⟩:=id hv;obtain⟨ap0,ap1,ap2⟩:=wX h2 h7;have hlk:∃ fnm,GU.lookup CC=some fnm:=by
   rcases hway with rfl|rfl
   ·exact⟨_,rfl⟩
   ·exact⟨_,rfl⟩
  obtain⟨fnm,hlk⟩:=hlk;have dva:Dv n c.a:=⟨h2,h7,wi.a0,wi.a1⟩
  have dvb:Dv n c.b:=⟨h2,h7,wi.b0,wi.b1⟩
  have dvc:Dv n c.c:=⟨h2,h7,wi.c0,wi.c1⟩
  have sap:Sm 6 (t4 n):=by unfold Sm;lia
  have bqs:∀ {y:Rat},Bq k y->Bq (k+6) (dU n y):=λ{y} h=>gN (Nz h.ne (by lia)) (h.sn.mono (by lia)) ((h.sd.mul sap))
  refine⟨_,(cM.go (ab (a_ (aX (aS (ac ay (BK T) hr (aE (aj 2))))) (ag bE) aH)
   (ab (bG (ac ay (cL T) hr (aE (aj 1))))
   (ab (av 3 ci.nd (C_ (HJ (K:=K) (w:=w) (mg:=mg) (kvs:=[("four","parts_by_four"),("eight","parts_by_eight")]) rfl rfl) (AJ (K:=K) (w:=w) (mg:=mg) (kvs:=[("four","parts_by_four"),("eight","parts_by_eight")]) rfl T.xp) (aj 2) (λ_ _=>rfl)))
   (ab (cn 4 uB5 uA5 [0] 2 ci.nd (bx (K:=K) rfl (aj 1)) (λnd=>(cS (K:=K) (n:=2) rfl rfl (aw (ai 0 nd) (aw (ai 1 nd) bu)))) aA (ac ay (dC T T.xb) hr (aD (aj 0) (ap aO (aj 1) (am K (cX (K:=K) rfl ay (kI T) (hr.mono (by decide)) (aj 2)) aa)))))
   (ab (av 5 ci.nd (bV (i9 (K:=K) rfl) (by rfl) T.x5 cJ (aE (aF ["step"] uA5 [0] 1 (bx (K:=K) rfl (aj 4)) (λnd=>(ai 0 nd)) aA (au (lW rfl) (by rfl) T.xg wP (aD (ac ay (y8 T) hr (aE (aj 0))) (ap cm (aY (K:=K) (x:="Grid") rfl T.x0 (.head _) (aj 1)) aa)))))))
   (ab (i7 (ac ay (iY T) hr (aE (aj 4))) (cS (K:=K) (n:=2) rfl rfl (aw (ai 6 ci.nd) (aw (ai 7 ci.nd) bu))))
   (ab (cn 8 ["top","number"] ["below"] [7] 2 ci.nd (iL (K:=K) rfl rfl T.x8 (aD (aj 6) (aj 5))) (λnd=>(cS (K:=K) (n:=2) rfl rfl (aw (ai 0 nd) (aw (ai 1 nd) bu)))) aA (ap cm (aj 0) (ap aO (aj 1) (aj 2))))
   (ag (ar (jR (K:=K) rfl ay (qE T) (hr.mono (by decide)) (aj 0) (aD (aj 5) (E3 (P:=P) (w:=w) (K:=K) (mg:=mg) (base:=base) (CX:=cP) (k:=2) rfl rfl rfl rfl rfl ay (hr.mono (by decide)) (aj 3) (aD (aj 8) (aj 7))))))))))))))),?_⟩
  refine⟨_,rfl,CC,rfl,true,by rw[hlk];rfl,bA ?_⟩;refine⟨_,rfl,x,c,rfl,hx,wi,bd.mono (by lia),λH1 s1=>?_⟩;refine λD hD=>⟨_,rfl,CC,fnm,D,rfl,rfl,hD,hlk,λfa hfa=>?_⟩
  have hx1:=ax.same s1 hx;obtain⟨ca,xs,rfl,hca,hxs⟩:=aN (b:=false) (ds:=c.ds) hx1;have hv1:=hv.same s1;refine⟨_,rfl,ca,false,rfl,⟨_,hca⟩,bX (es:=[rD (dU n c.a),rD (dU n c.b),rD (dU n c.c)]) hca hxs rfl (by show 3<=1000;decide) (λi e e' u H2 hd he s2 hu R kk S=>?_) (λss H2 s2 hss St hSt=>?_)⟩
  ·obtain⟨y,rfl,rfl,by_⟩:∃ y:Rat,e=rD y/\e'=rD (dU n y)/\Bq k y:=by
    rcases pJ hd with ⟨rfl,rfl⟩|⟨rfl,rfl⟩|⟨rfl,rfl⟩
    ·exact⟨c.a,rfl,(Mi he).symm,bd.a⟩
    ·exact⟨c.b,rfl,(Mi he).symm,bd.b⟩
    ·exact⟨c.c,rfl,(Mi he).symm,bd.c⟩
   obtain⟨wa,rfl,hwa⟩:=bn hu;refine⟨wa,_,rfl,dF.of hwa,rfl,_,_,rfl,_,_,rfl,rfl,aW (B:=S H2) ?_⟩;refine⟨_,rfl,_,rfl,_,rfl,a,C,dx,_,rfl,hC,(s1.trans s2) _ _ ha,rfl,.ref a,n,f,rfl,hv1.same s2,h2,h7,λw H3 s3 hw3=>?_⟩;obtain⟨wb,rfl,hwb⟩:=bn (n:=(n:Int)) (d:=t4 n) hw3;refine bN hwb ⟨_,_,rfl,rfl,.inl ⟨by_.sd.mono (by lia),sap.mono (by decide)⟩,_,_,rfl,Nz by_.ne (by lia),(by_.sd.mul sap).mono (by lia),?_⟩;exact j0.sh (Nz by_.ne (by lia)) λw H4 s4 hw4=>kk _ _ ⟨s3.trans s4,hw4⟩
  have sS:af H2 (upd H2 St (.lst ss)):=af.new hSt;have hS3:ax K (upd H2 St (.lst ss)) (.list [rD (dU n c.a),rD (dU n c.b),rD (dU n c.c)]) (.ref St):=ax.listN hSt hss;have s3:=(s1.trans s2).trans sS;generalize upd H2 St (.lst ss)=H3 at sS hS3 s3 ⊢;obtain⟨St',ss',eS,hSq,hss3⟩:=aN (b:=true) (ds:=[rD (dU n c.a),rD (dU n c.b),rD (dU n c.c)]) hS3;cases eS;refine⟨_,rfl,St,true,rfl,⟨_,hSq⟩,bX (es:=[.int ((eB n c.a:Nat):Int),.int ((eB n c.b:Nat):Int),.int ((eB n c.c:Nat):Int)]) hSq hss3 rfl (by show 3<=1000;decide) (λi e e' u H4 hd he s4 hu R kk S=>?_) (λls H4 s4 hls L hL=>?_)⟩
  ·obtain⟨y,rfl,rfl,by_,dv⟩:∃ y:Rat,e=rD (dU n y)/\e'=.int ((eB n y:Nat):Int)/\Bq k y/\Dv n y:=by
    rcases pJ hd with ⟨rfl,rfl⟩|⟨rfl,rfl⟩|⟨rfl,rfl⟩
    ·exact⟨c.a,rfl,(Mi he).symm,bd.a,dva⟩
    ·exact⟨c.b,rfl,(Mi he).symm,bd.b,dvb⟩
    ·exact⟨c.c,rfl,(Mi he).symm,bd.c,dvc⟩
   refine aW (B:=S H4) ⟨_,rfl,u,_,_,rfl,hu,(bqs by_).mono (by lia),_,rfl,a,C,dx,_,_,rfl,hC,(s3.trans s4) _ _ ha,rfl,_,_,rfl,rfl,_,_,rfl,?_⟩;have e:(if(n:Int)-2<(dU n y).num.fdiv ((dU n y).den:Int) then(n:Int)-2 else(dU n y).num.fdiv ((dU n y).den:Int))=((eB n y:Nat):Int):=by
    rw[CU,Bf dv];rfl
   rw[e];exact kk _ _ ⟨af.refl _,.int _⟩
  have els:=dD (ns:=[((eB n c.a:Nat):Int),((eB n c.b:Nat):Int),((eB n c.c:Nat):Int)]) hls;subst els;refine⟨L,_,rfl,.inl ⟨bH.of ae,λle hle=>?_⟩⟩;have s5:af H3 (upd (upd H4 L (.lst ([((eB n c.a:Nat):Int),((eB n c.b:Nat):Int),((eB n c.c:Nat):Int)].map V.int))) le (.tup ([((eB n c.a:Nat):Int),((eB n c.b:Nat):Int),((eB n c.c:Nat):Int)].map V.int))):=(s4.trans (af.new hL)).trans (af.new hle);have hle5:upd (upd H4 L (.lst ([((eB n c.a:Nat):Int),((eB n c.b:Nat):Int),((eB n c.c:Nat):Int)].map V.int))) le (.tup ([((eB n c.a:Nat):Int),((eB n c.b:Nat):Int),((eB n c.c:Nat):Int)].map V.int)) le=some (.tup (pX (AF n c))):=ae;generalize upd (upd H4 L (.lst ([((eB n c.a:Nat):Int),((eB n c.b:Nat):Int),((eB n c.c:Nat):Int)].map V.int))) le (.tup ([((eB n c.a:Nat):Int),((eB n c.b:Nat):Int),((eB n c.c:Nat):Int)].map V.int))=H5 at s5 hle5 ⊢;have brs:∀ r∈[dU n c.a,dU n c.b,dU n c.c],Bq (k+6) r:=λr hr=>by
   simp only[Mx,MM,Od] at hr;rcases hr with rfl|rfl|rfl
   ·exact bqs bd.a
   ·exact bqs bd.b
   ·exact bqs bd.c
  refine⟨_,rfl,.ref St,true,k+6,[dU n c.a,dU n c.b,dU n c.c],rfl,ax.same s5 hS3,brs,by show 3<=500;decide,by lia,by show 3*(k+6)+(k+6)+1<=7900;lia,λtv H6 s6 htv=>?_⟩;obtain⟨B0,BS⟩:=jx brs 3 (by show 3<=3;decide);rw[Nf (by show 3<=3;decide)] at B0 BS;have dvd:∀ r∈[dU n c.a,dU n c.b,dU n c.c],(r.den:Int)∣cW [dU n c.a,dU n c.b,dU n c.c]:=λr hr=>lX hr
  have ovs:∀ r∈[dU n c.a,dU n c.b,dU n c.c],Sm (3*(k+6)+(k+6)+1) (ov (cW [dU n c.a,dU n c.b,dU n c.c]) r):=λr hr=>J6 brs hr
  generalize cW [dU n c.a,dU n c.b,dU n c.c]=B at *;obtain⟨ta,ts,rfl,hta,hts⟩:=aN (b:=false) (ds:=[.list ([dU n c.a,dU n c.b,dU n c.c].map λr=>.int (ov B r)),.int B]) htv;obtain⟨t0,rfl,ht0⟩:∃ t0,ts=[t0,.int B]/\ax K H6 (.list ([dU n c.a,dU n c.b,dU n c.c].map λr=>.int (ov B r))) t0:=by
   cases hts with
   |cons k1 k2=>
    cases k2 with
    |cons k3 k4=>
     cases k3;cases k4;exact⟨_,rfl,k1⟩
  refine⟨ta,_,rfl,hta,rfl,_,_,rfl,_,_,rfl,rfl,?_⟩;obtain⟨tl,tls,rfl,htl,htls⟩:=aN (b:=true) (ds:=[dU n c.a,dU n c.b,dU n c.c].map λr=>.int (ov B r)) ht0;have hle6:=s6 _ _ hle5;refine⟨_,rfl,_,rfl,tl,le,true,false,rfl,⟨_,htl⟩,⟨_,dF.of hle6⟩,ic (fs:=[.int (ov B (dU n c.a)-((eB n c.a:Nat):Int)*B),.int (ov B (dU n c.b)-((eB n c.b:Nat):Int)*B),.int (ov B (dU n c.c)-((eB n c.c:Nat):Int)*B)]) htl (show ck K H6 le (pX (AF n c)) false from dF.of hle6) htls (jA [((eB n c.a:Nat):Int),((eB n c.b:Nat):Int),((eB n c.c:Nat):Int)]) rfl rfl (by show 3<=1000;decide) (λi e e' e'' u v T H7 hd he hf s7 hu hv' hT R kk S=>?_) (λfs H7 s7 hfs F hF=>?_)⟩
  ·have sle:∀ {m:Nat},m+2<=n->Sm 8000 (m:Int):=λh=>Sm.mono (k:=20) (by unfold Sm;lia) (by decide)
   have sB:Sm 8000 B:=BS.mono (by lia);have l1:=iK dva;have l2:=iK dvb;have l3:=iK dvc;rcases pJ hd with ⟨rfl,rfl⟩|⟨rfl,rfl⟩|⟨rfl,rfl⟩
   ·cases(Mi he);cases(Mi hf);cases hu;cases hv';exact⟨T,_,rfl,dF.of hT,rfl,_,_,rfl,_,_,rfl,rfl,aW (B:=S H7) ⟨_,rfl,_,rfl,_,rfl,_,_,rfl,rfl,.inl ⟨sle l1,sB⟩,_,_,rfl,rfl,kk _ _ ⟨af.refl _,.int _⟩⟩⟩
   ·cases(Mi he);cases(Mi hf);cases hu;cases hv';exact⟨T,_,rfl,dF.of hT,rfl,_,_,rfl,_,_,rfl,rfl,aW (B:=S H7) ⟨_,rfl,_,rfl,_,rfl,_,_,rfl,rfl,.inl ⟨sle l2,sB⟩,_,_,rfl,rfl,kk _ _ ⟨af.refl _,.int _⟩⟩⟩
   ·cases(Mi he);cases(Mi hf);cases hu;cases hv';exact⟨T,_,rfl,dF.of hT,rfl,_,_,rfl,_,_,rfl,rfl,aW (B:=S H7) ⟨_,rfl,_,rfl,_,rfl,_,_,rfl,rfl,.inl ⟨sle l3,sB⟩,_,_,rfl,rfl,kk _ _ ⟨af.refl _,.int _⟩⟩⟩
  have efs:=dD (ns:=[ov B (dU n c.a)-((eB n c.a:Nat):Int)*B,ov B (dU n c.b)-((eB n c.b:Nat):Int)*B,ov B (dU n c.c)-((eB n c.c:Nat):Int)*B]) hfs;subst efs;have BR:(B:Rat)≠0:=by
   intro z;have:B=0:=by exact_mod_cast z
   lia
  have ra:((ov B (dU n c.a)-((eB n c.a:Nat):Int)*B:Int):Rat)=lG n c.a*(B:Rat):=by
   rw[Nt,MY,vh (dvd _ (by simp))];unfold lG;grind
  have rb:((ov B (dU n c.b)-((eB n c.b:Nat):Int)*B:Int):Rat)=lG n c.b*(B:Rat):=by
   rw[Nt,MY,vh (dvd _ (by simp))];unfold lG;grind
  have rc:((ov B (dU n c.c)-((eB n c.c:Nat):Int)*B:Int):Rat)=lG n c.c*(B:Rat):=by
   rw[Nt,MY,vh (dvd _ (by simp))];unfold lG;grind
  have sf:∀ {y:Rat},y∈[c.a,c.b,c.c]->Dv n y->Sm (4*k+30) (ov B (dU n y)-((eB n y:Nat):Int)*B):=λ{y} hy dv=>by
   have h1:=ovs (dU n y) (by simp only[Mx,MM,Od] at hy ⊢;rcases hy with rfl|rfl|rfl<;>simp);have h2:Sm (3+(3*(k+6)+1)) (((eB n y:Nat):Int)*B):=(show Sm 3 ((eB n y:Nat):Int) by have:=iK dv;unfold Sm;lia).mul BS;have h3:Sm (4*k+29) (ov B (dU n y)):=h1.mono (by lia);have h4:Sm (4*k+29) (((eB n y:Nat):Int)*B):=h2.mono (by lia);exact h3.sub h4
  have sfa:=sf (by simp) dva;have sfb:=sf (by simp) dvb;have sfc:=sf (by simp) dvc;generalize ov B (dU n c.a)-((eB n c.a:Nat):Int)*B=fx at *;generalize ov B (dU n c.b)-((eB n c.b:Nat):Int)*B=fy at *;generalize ov B (dU n c.c)-((eB n c.c:Nat):Int)*B=fz at *;have s8:af H7 (upd H7 F (.lst ([fx,fy,fz].map V.int))):=af.new hF;have hF8:bH K (upd H7 F (.lst ([fx,fy,fz].map V.int))) F [.int fx,.int fy,.int fz]:=bH.of ae;have sAll:af H (upd H7 F (.lst ([fx,fy,fz].map V.int))):=(((s3.trans s5).trans s6).trans s7).trans s8;have hle8:=(s7.trans s8) _ _ hle6;generalize upd H7 F (.lst ([fx,fy,fz].map V.int))=H8 at s8 hF8 sAll hle8 ⊢;have hB8:Sm (4*k+30) B:=BS.mono (by lia);have cin:∀ t:Kn,t.1<=1->t.2.1<=1->t.2.2<=1->aB (AF n c) t∈bf n:=λt u1 u2 u3=>by
   rw[eX];have l1:=iK dva;have l2:=iK dvb;have l3:=iK dvc;show eB n c.a+t.1<n/\eB n c.b+t.2.1<n/\eB n c.c+t.2.2<n;lia
  have Iy:∀ j,Sm (4*k+30) (aU fx fy fz j):=λj=>by
   match j with
   |0=>exact sfa
   |1=>exact sfb
   |_+2=>exact sfc
  refine⟨_,rfl,a,C,dx,_,rfl,hC,sAll _ _ ha,rfl,_,rfl,?_⟩;rcases hway with rfl|rfl
  ·cases(Mi hlk);refine⟨_,rfl,jK K,(oX T).fnV hfa (by decide),_,rfl,_,rfl,F,fx,fy,fz,B,rfl,hF8,tb.same sAll,λo D9 ys H9 ho p1 p2 s9 hD9 hys=>?_⟩;have fall:xK (qc n c) o:=by
    have mono:∀ i j,aU fx fy fz i<=aU fx fy fz j->qc n c i<=qc n c j:=λi j h=>by
     have hp:∀ k,((aU fx fy fz k:Int):Rat)=qc n c k*(B:Rat):=λk=>by
      match k with
      |0=>exact ra
      |1=>exact rb
      |_+2=>exact rc
     have h':((aU fx fy fz i:Int):Rat)<=((aU fx fy fz j:Int):Rat):=by exact_mod_cast h
     rw[hp,hp] at h';exact NU h' (by exact_mod_cast B0)
    exact⟨ho,mono _ _ p1,mono _ _ p2⟩
   obtain⟨o1,o2,o3⟩:=EM ho;have un1:∀ {j:Nat},j<3->(un j).1<=1/\(un j).2.1<=1/\(un j).2.2<=1:=λ{j} h=>by
    match j,h with
    |0,_=>decide
    |1,_=>decide
    |2,_=>decide
   have u2:∀ {p:Pc},p∈iE (aU fx fy fz) B o.1 o.2.1 o.2.2->(p.1.1<=1/\p.1.2.1<=1/\p.1.2.2<=1)/\Sm (4*k+31) p.2:=λ{p} hp=>by
    simp only[tP,Mx,MM,Od] at ho;simp only[iE,Mx,MM,Od] at hp;refine⟨?_,?_⟩
    ·rcases ho with rfl|rfl|rfl|rfl|rfl|rfl<;>rcases hp with rfl|rfl|rfl|rfl<;>(dsimp only;decide)
    ·rcases hp with rfl|rfl|rfl|rfl
     ·exact hB8.sub (Iy _)
     ·exact(Iy _).sub (Iy _)
     ·exact(Iy _).sub (Iy _)
     ·exact(Iy _).mono (by lia)
   have wtp:∀ p∈iE (aU fx fy fz) B o.1 o.2.1 o.2.2,(f (aB (AF n c) p.1)).Wt:=λp hp=>hw _ (cin p.1 (u2 hp).1.1 (u2 hp).1.2.1 (u2 hp).1.2.2)
   refine⟨.ref a,.ref le,D9,ys,n,f,AF n c,_,rfl,hv.same (sAll.trans s9),kE (s9 _ _ hle8),hD9,hys,by show 4<=10;decide,hw,λp hp=>cin p.1 (u2 hp).1.1 (u2 hp).1.2.1 (u2 hp).1.2.2,λp hp=>(u2 hp).2.mono (by lia),by rw[rK];lia,by rw[rK];exact hB8.mono (by lia),λw Ha sa hwr=>?_⟩;refine q (Cr f (AF n c) (iE (aU fx fy fz) B o.1 o.2.1 o.2.2)) w Ha ((sAll.trans s9).trans sa) (λ_=>?_) (λz=>absurd z (by decide)) ?_ hwr
   ·refine Q3.ext ?_ ?_ ?_<;>exact(Fc BR ra rb rc).trans (Em fall)
   ·have h0:((iE (aU fx fy fz) B o.1 o.2.1 o.2.2).map (·.2)).sum≠0:=by rw[rK];lia
    have bb:∀ {g:R3->Int},(∀ p∈iE (aU fx fy fz) B o.1 o.2.1 o.2.2,Sm 10 (g (f (aB (AF n c) p.1))))->Bq (12*k+120) (rf f (AF n c) g (iE (aU fx fy fz) B o.1 o.2.1 o.2.2)):=λhg=>Ok.mono (EN (n:=n) hg (λp hp=>(u2 hp).2) h0) (by show 10+(4*k+31)+4<=12*k+120;lia)
    exact⟨bb λp hp=>(nG (wtp p hp)).1,bb λp hp=>(nG (wtp p hp)).2.1,bb λp hp=>(nG (wtp p hp)).2.2⟩
  ·cases(Mi hlk);refine⟨_,rfl,iX K,(nS T).fnV hfa (by decide),_,rfl,_,rfl,F,fx,fy,fz,B,4*k+30,rfl,hF8,sfa,sfb,sfc,hB8,by lia,λD9 ys H9 s9 hD9 hys=>?_⟩;have u2:∀ {p:Pc},p∈c_ (aU fx fy fz) B->(p.1.1<=1/\p.1.2.1<=1/\p.1.2.2<=1)/\Sm (12*k+94) p.2:=λ{p} hp=>by
    obtain⟨t,ht,rfl⟩:=Nc.mp hp;have:=eX.mp ht;exact⟨by show t.1<=1/\t.2.1<=1/\t.2.2<=1;lia,(zg (DY sfa sfb sfc hB8) t 3).mono (by lia)⟩
   have wtp:∀ p∈c_ (aU fx fy fz) B,(f (aB (AF n c) p.1)).Wt:=λp hp=>hw _ (cin p.1 (u2 hp).1.1 (u2 hp).1.2.1 (u2 hp).1.2.2)
   have l8:(c_ (aU fx fy fz) B).length=8:=by unfold c_;rw[Mq];rfl
   have h0:((c_ (aU fx fy fz) B).map (·.2)).sum≠0:=by
    rw[pA];exact Nz (Nz (by lia) (by lia)) (by lia)
   refine⟨.ref a,.ref le,D9,ys,n,f,AF n c,_,rfl,hv.same (sAll.trans s9),kE (s9 _ _ hle8),hD9,hys,by rw[l8];decide,hw,λp hp=>cin p.1 (u2 hp).1.1 (u2 hp).1.2.1 (u2 hp).1.2.2,λp hp=>(u2 hp).2.mono (by lia),h0,by rw[pA];exact((hB8.mul hB8).mul hB8).mono (by lia),λw Ha sa hwr=>?_⟩;refine q (Cr f (AF n c) (c_ (aU fx fy fz) B)) w Ha ((sAll.trans s9).trans sa) (λz=>absurd z (by decide)) (λ_=>?_) ?_ hwr
   ·refine Q3.ext ?_ ?_ ?_<;>exact Bu BR ra rb rc
   ·have bb:∀ {g:R3->Int},(∀ p∈c_ (aU fx fy fz) B,Sm 10 (g (f (aB (AF n c) p.1))))->Bq (12*k+120) (rf f (AF n c) g (c_ (aU fx fy fz) B)):=λhg=>Ok.mono (EN (n:=n) hg (λp hp=>(u2 hp).2) h0) (by rw[l8];lia)
    exact⟨bb λp hp=>(nG (wtp p hp)).1,bb λp hp=>(nG (wtp p hp)).2.1,bb λp hp=>(nG (wtp p hp)).2.2⟩
theorem cu:ao ["self","most","place","step","other"] uA5 (ah gI):=df
inductive oN (K:HD)(vs:List V)(H:Hp)(Q:VK)(_:XK):Prop
 |mk (v:V) (n:Nat) (f:Kn->R3) (_:vs=[v]) (_:j9 K H n f v) (_:Aw n f) (_:2<=n) (_:n<=7) (_:∀ (m:Int) (H':Hp),af H H'->jm ((bf n).flatMap (mX n f)) m->Q (.int m) H')
theorem jB (T:cZ K mg w):ky P w K mg base cP 2 "Grid" "widest" uA5 [] (oN K):=by
  refine T.x26.cal cu (bb:=λ_ _ _ _ _ H vs Q E hr h=>?_);obtain⟨v,n,f,rfl,hv,wt,n2,n7,q⟩:=h;obtain⟨a,C,dx,d,rfl,hC,ha,hg⟩:=id hv;refine⟨_,(cM.go (ab (av 1 cu.nd aa)
   (ab (Dk (eA Nr rfl (Fg (aY (K:=K) (x:="Grid") rfl T.x0 (.tail _ (.head _)) (aj 0))) (ai 2 cu.nd) (ag (eA Nr rfl (bx (K:=K) rfl (AS (K:=K) (rows:=[[1,0,0],[0,1,0],[0,0,1]]) rfl T.x12)) (ai 3 cu.nd) (ab (av 4 cu.nd (BG hr.u1 (aY (K:=K) (x:="Grid") rfl T.x0 (.tail _ (.head _)) (aj 0)) (ac ay (rX T) hr (aD (aj 2) (aj 3))) (sN hr.u1 (aY (K:=K) (x:="Grid") rfl T.x0 (.tail _ (.head _)) (aj 0)) (aj 2) (λ_ _=>rfl)) ⟨rfl,rfl,rfl,rfl⟩))
   (ag (av 1 cu.nd (au (wu (K:=K) rfl rfl) (by rfl) T.xd oC (aE (ap wV (b9 (aE (aj 1))) (aF ["one","two"] [] [] 2 (iL (K:=K) rfl rfl T.x8 (aD (sN hr.u1 (aY (K:=K) (x:="Grid") rfl T.x0 (.tail _ (.head _)) (aj 0)) (aj 2) (λ_ _=>rfl)) (aj 4))) (λnd=>(cS (K:=K) (n:=2) rfl rfl (aw (ai 0 nd) (aw (ai 1 nd) bu)))) aA (au nZ (by rfl) T.xf vN (aE (ap cm (aj 0) (aj 1)))))))))))))))
   (ag (ar (aj 1)))))),?_⟩
  obtain⟨ts,pm,vs,hd,hvs⟩:=hg;have hlen:=A7.len hvs;have lts:ts.length<=343:=by
   rw[pm.length_eq,lN];exact RU n7 3
  refine⟨d,_,hd,_,rfl,a,C,dx,_,_,rfl,hC,ha,rfl,d,_,rfl,hd,λob=>?_⟩;have sD:jG H (upd H d (.frz ob (.dT (jV ts vs)))):=λb o e nd=>by
   rw[aq (λz=>by rw[z,hd] at e;cases e;exact nd _ rfl)];exact e
  have fz:upd H d (.frz ob (.dT (jV ts vs))) d=some (.frz ob (.dT (jV ts vs))):=ae;have ha1:=sD _ _ ha (λ_ z=>nomatch z);have hvs1:=az.sameD sD hvs;have back:∀ {H':Hp},af (upd H d (.frz ob (.dT (jV ts vs)))) H'->af H (upd H' d (.dT (jV ts vs))):=λ{H'} s b o e=>by
   by_cases hb:b=d
   ·subst hb;rw[hd] at e;cases e;exact ae
   ·rw[aq hb];exact s _ _ (by rw[aq hb];exact e)
  generalize upd H d (.frz ob (.dT (jV ts vs)))=H1 at sD fz ha1 hvs1 back ⊢;have got:∀ {H':Hp}{b:Mz}{t:Kn},af H1 H'->H' b=some (.tup (pX t))->qe H' d (.ref b) (mn (jV ts vs) (cV t)):=λ{H' b t} s hb=>.inr ⟨jV ts vs,cV t,b,.inr ⟨ob,s _ _ fz⟩,rfl,by rw[zU];exact hb,rfl⟩
  refine Eu (λi σ H'=>(∃ (m:Int) (o1 o2 o3:Option V),σ=[some (.ref a),some (.int m),o1,o2,o3]/\jm ((ts.take i).flatMap (mX n f)) m)/\af H1 H')
   ⟨⟨0,_,_,_,rfl,jm.nil⟩,af.refl _⟩ (λi σ H' _ ⟨_,s⟩=>s _ _ fz) ?_ ?_
  ·rintro i k x ka σ H2 ek hka ⟨⟨m,o1,o2,o3,rfl,mx⟩,s2⟩;obtain⟨t,et,rfl,ex⟩:=EB ek;have htm:=pm.mem_iff.mp (ME et);rw[zU] at hka;obtain⟨xv,evx,hx⟩:=xE (f:=λt=>wD (f t)) hvs1 (ME et);refine λsa hs=>?_
   obtain⟨bs,hb1,hb2⟩:=id hs;obtain⟨b0,b1,b2,rfl,k0,k1,k2⟩:∃ b0 b1 b2,bs=[b0,b1,b2]/\KT K b0 (pX (un 0))/\KT K b1 (pX (un 1))/\KT K b2 (pX (un 2)):=by
    cases hb2 with
    |cons k0 h=>
     cases h with
     |cons k1 h=>
      cases h with
      |cons k2 h=>
       cases h;exact⟨_,_,_,rfl,k0,k1,k2⟩
   refine⟨sa,false,rfl,⟨_,KT.sq hb1⟩,ny (K:=K) (b:=false) (xs:=[.ref b0,.ref b1,.ref b2]) (λj σ H'=>(∃ (m:Int) (o2 o3:Option V),σ=[some (.ref a),some (.int m),some (.ref ka),o2,o3]/\jm ((ts.take i).flatMap (mX n f)++(mX n f t).take (3*j)) m)/\af H2 H')
    ⟨⟨m,_,_,rfl,by simpa using mx⟩,af.refl _⟩ (λj σ H' _ _=>KT.sq hb1) ?_ ?_⟩
   ·rintro j xw σ H3 ew ⟨⟨m,o2,o3,rfl,mx⟩,s3⟩;obtain⟨b,rfl,kb,hj⟩:∃ b,xw=.ref b/\KT K b (pX (un j))/\j<3:=by
     rcases pJ ew with ⟨rfl,rfl⟩|⟨rfl,rfl⟩|⟨rfl,rfl⟩
     ·exact⟨b0,rfl,k0,by decide⟩
     ·exact⟨b1,rfl,k1,by decide⟩
     ·exact⟨b2,rfl,k2,by decide⟩
    have s13:=s2.trans s3;have ha3:=s13 _ _ ha1;have hka3:=s3 _ _ hka;refine⟨_,rfl,a,C,dx,_,_,rfl,hC,ha3,rfl,d,rfl,.inr ⟨_,.inr ⟨ob,s13 _ _ fz⟩⟩,_,rfl,_,rfl,ka,b,[(t.1:Int),(t.2.1:Int),(t.2.2:Int)],[((un j).1:Int),((un j).2.1:Int),((un j).2.2:Int)],rfl,dF.of hka3,KT.sq kb,rfl,by show 3<=10;decide,λp H4 s4 hp=>?_⟩;rw[Ap] at hp;have s14:=s13.trans s4;have ha4:=s4 _ _ ha3;have hka4:=s4 _ _ hka3;have gx:qe H4 d (.ref ka) (some xv):=by rw[<- evx];exact got s14 hka4
    refine⟨_,rfl,a,C,dx,_,_,rfl,hC,ha4,rfl,_,rfl,d,xv,rfl,gx,_,got s14 hp,?_⟩;obtain⟨ov,eov,hov⟩:∃ ov,(mn (jV ts vs) (cV (aB t (un j)))).getD xv=ov/\ax K H1 (wD (f (AG n t j))) ov:=by
     by_cases hm:aB t (un j)∈bf n
     ·obtain⟨w,e,hw⟩:=xE (f:=λt=>wD (f t)) hvs1 (pm.mem_iff.mpr hm);refine⟨w,by rw[e];rfl,?_⟩;unfold AG;rw[Nd hm];exact hw
     ·refine⟨xv,by rw[vZ (λz=>hm (pm.mem_iff.mp z))];rfl,?_⟩;unfold AG;rw[MT hm];exact hx
    rw[eov];refine⟨_,rfl,Jj,λp1 hp1=>?_⟩;generalize e0:upd H4 p1 _=H5;have s5:=nv hp1 e0;have gp1:=iS e0;have s15:=s14.trans s5;have gx5:qe H5 d (.ref ka) (some xv):=by rw[<- evx];exact got s15 (s5 _ _ hka4)
    obtain⟨xa,rfl,hxa⟩:=jZ (b:=false) (ax.same s15 hx);obtain⟨oa,rfl,hoa⟩:=jZ (b:=false) (ax.same s15 hov);refine⟨_,rfl,a,C,dx,_,_,rfl,hC,s5 _ _ ha4,rfl,_,rfl,d,_,rfl,gx5,_,rfl,xa,oa,false,false,rfl,⟨_,hxa⟩,⟨_,hoa⟩,ic (K:=K) (fs:=(uk (f t) (f (AG n t j))).map NR) hxa hoa (rn _) (rn _) rfl rfl (by show 3<=1000;decide) (λl d1 d2 d3 x y T H6 h1 h2 h3 s6 hx6 hy6 hT R kk S=>?_) (λzs H6 s6 hzs Z hZ=>?_)⟩
    ·obtain⟨u,w,rfl,rfl,rfl⟩:∃ u w:Int,d1=.int u/\d2=.int w/\d3=.int (I_ u w):=by
      rcases pJ h1 with ⟨rfl,rfl⟩|⟨rfl,rfl⟩|⟨rfl,rfl⟩<;>(cases(Mi h2);cases(Mi h3);exact⟨_,_,rfl,rfl,rfl⟩)
     cases hx6;cases hy6;refine⟨T,_,rfl,dF.of hT,rfl,_,_,rfl,_,_,rfl,rfl,aW (B:=S H6) ⟨_,rfl,_,rfl,_,_,rfl,rfl,_,rfl,kk _ _ ⟨af.refl _,.int _⟩⟩⟩
    ·have ez:=dD hzs;subst ez;have sZ:af H6 (upd H6 Z (.lst ((uk (f t) (f (AG n t j))).map V.int))):=af.new hZ;refine⟨p1,Z,_,_,rfl,rfl,(s6.trans sZ) _ _ gp1,ae,by show 1+3<=MI;decide,λpc hpc=>⟨pc,m::uk (f t) (f (AG n t j)),rfl,bH.of ae,by simp,λm' mem le=>⟨⟨m',_,_,rfl,?_⟩,((((s3.trans s4).trans s5).trans s6).trans sZ).trans (af.new hpc)⟩⟩⟩;have e3:(mX n f t).take (3*(j+1))=(mX n f t).take (3*j)++uk (f t) (f (AG n t j)):=by
      match j,hj with
      |0,_=>rfl
      |1,_=>rfl
      |2,_=>rfl
     rw[e3,<- Ou];exact mx.app le mem
   ·rintro σ H3 ⟨⟨m,o2,o3,rfl,mx⟩,s3⟩;refine⟨⟨m,_,_,_,rfl,?_⟩,s2.trans s3⟩;have e9:(mX n f t).take (3*3)=mX n f t:=rfl;rw[cw et,Qt,List.flatMap_cons,List.flatMap_nil,QL,<- e9];exact mx
  ·rintro σ H2 ⟨⟨m,o1,o2,o3,rfl,mx⟩,s2⟩;refine⟨ob,s2 _ _ fz,_,rfl,q m _ (back s2) (mx.perm λx=>?_)⟩;rw[Nf (by rw[sU hlen];exact Mm _)];simp only[PH];constructor
   ·rintro⟨t,ht,h⟩;exact⟨t,pm.mem_iff.mp ht,h⟩
   ·rintro⟨t,ht,h⟩;exact⟨t,pm.mem_iff.mpr ht,h⟩
theorem yQ:ao uA0 uA0 (ah mR):=df
inductive xU (K:HD)(vs:List V)(H:Hp)(Q:VK)(_:XK):Prop
 |mk (x:V) (p:Pt) (_:vs=[x]) (_:ax K H (p9 p) x) (_:p.In) (_:∀ H',af H H'->Q (.bl true) H')
theorem xR (T:cZ K mg w):dN P w K mg base cP 4 "is_point" uA0 [] (xU K):=by
  refine T.x27.cal yQ (bb:=λ_ _ _ _ _ H vs Q E hr h=>?_);obtain⟨x,p,rfl,hx,ip,q⟩:=h;refine⟨_,(cM.go (ag (ar (ac ay (fh T) hr (ak (aj 0) (ak aa (ak aa (ak (cB rfl T.xt) aZ)))))))),?_⟩;refine⟨_,rfl,x,[p.1,p.2],2,0,1000,rfl,hx,rfl,by show 2<=1000;decide,λH' s=>?_⟩;have e:([p.1,p.2].all λk=>decide (0<=k)&&decide (k<=1000))=true:=by
   show((decide (0<=p.1)&&decide (p.1<=1000))&&((decide (0<=p.2)&&decide (p.2<=1000))&&true))=true;rw[Ms ip.a1,Ms ip.a2,Ms ip.b1,Ms ip.b2];rfl
  rw[e];exact q _ s
theorem wR:ao uC9 uC9 (ah kW):=df
inductive wQ (K:HD)(vs:List V)(H:Hp)(Q:VK)(_:XK):Prop
 |mk (x y:V) (p q:Pt) (_:vs=[x,y]) (_:ax K H (p9 p) x) (_:ax K H (p9 q) y) (_:Q (.bl (decide (p.1<q.1)&&decide (p.2<=q.2))) H)
theorem vo (T:cZ K mg w):dN P w K mg base cP 1 "is_onward" uC9 [] (wQ K):=by
  refine T.x28.cal wR (bb:=λ_ _ _ _ _ H vs Q E hr h=>?_);obtain⟨x,y,p,r,rfl,hx,hy,q⟩:=h;obtain⟨a,rfl,ha⟩:=bn hx;obtain⟨b,rfl,hb⟩:=bn hy;refine⟨_,(cM.go (ag (ar (dX (cH uZ (am K (aj 0) aa) (am K (aj 1) aa) (aV _)) (gj (cH pM (am K (aj 0) aa) (am K (aj 1) aa) (aV _))))))),?_⟩;refine⟨_,rfl,cr ha ⟨_,rfl,cr hb ⟨_,_,rfl,rfl,decide (p.1<r.1),rfl,?_⟩⟩⟩;cases hc:decide (p.1<r.1) with
  |true=>
   rw[hc,SS] at q;exact aW ⟨_,rfl,bN ha ⟨_,rfl,bN hb ⟨_,_,rfl,rfl,q⟩⟩⟩
  |false=>
   rw[hc,Qi] at q;exact bA q
theorem vT:ao uA0 uA0 (ah lC):=df
inductive wG (K:HD)(vs:List V)(H:Hp)(Q:VK)(_:XK):Prop
 |mk (x:V) (ps:List Pt) (_:vs=[x]) (_:ax K H (FG ps) x) (_:t9 ps) (_:∀ H',af H H'->Q (.bl true) H')
theorem wW (T:cZ K mg w):dN P w K mg base cP 5 "is_points" uA0 [] (wG K):=by
  refine T.x29.cal vT (bb:=λ_ _ _ _ _ H vs Q E hr h=>?_);obtain⟨x,ps,rfl,hx,hp,q⟩:=h;refine⟨_,(cM.go (ab (a_ (WW.pt (dG (aX (aS (au (kq (K:=K) rfl) (by rfl) T.x2 aK (aD (aj 0) (bU (v:=.ty "list") rfl T.xa gX rfl))))) (dB (aX (Cj pM pM (cB rfl T.xr) (au (gU (K:=K) rfl) (by rfl) T.x3 dQ (aE (aj 0))) (cB rfl T.xw)))))) (ag (ar gg)) aH)
   (ab (a_ (WW.pt (dG (aX (aS (au (mz (K:=K) rfl rfl) (by rfl) T.x9 jk (aE (aF ["point"] [] [] 1 (bx (K:=K) rfl (aj 0)) (λnd=>(ai 0 nd)) aA (ac ay (xR T) hr (aE (aj 0)))))))) (dB (aR mN (am K (am K (aj 0) aa) aa) aa (aV _))))) (ag (ar gg)) aH)
   (ag (ar (au (mz (K:=K) rfl rfl) (by rfl) T.x9 jk (aE (aF uC9 [] [] 2 (iL (K:=K) rfl rfl T.x8 (aD (aj 0) (jw (Im (K:=K) rfl) (aj 0) (lF aa) kA))) (λnd=>(cS (K:=K) (n:=2) rfl rfl (aw (ai 0 nd) (aw (ai 1 nd) bu)))) aA (ac ay (vo T) hr (aD (aj 0) (aj 1))))))))))),?_⟩
  refine⟨_,rfl,_,_,_,true,rfl,hx.ty,(show iG "list" "list"=some true by decide +kernel),_,rfl,bA ?_⟩;obtain⟨l,xs,rfl,hl,hds⟩:=aN (b:=true) hx;have hlen:=hds.length;rw[Mq] at hlen;have two:=hp.two;have few:=hp.few;refine⟨_,rfl,l,_,rfl,o7 hl,?_⟩;refine⟨_,_,rfl,rfl,true,qK (by lia),aW ⟨_,_,rfl,rfl,true,qK (by lia),bA ?_⟩⟩;have tr:∀ n:Nat,(MF n true).all id=true:=λn=>by induction n with
   |zero=>rfl
   |succ n ih=>rw[Ov,RC,ih];rfl
  refine⟨_,rfl,l,true,rfl,⟨_,hl⟩,kX (f:=λ_=>.bool true) hl hds (by rw[Mq];lia) (λi d x H2 hd s2 hx2 R kk S=>?_) (λys H2 s2 hys D hD=>?_)⟩
  ·rw[Mw] at hd;cases e:ps[i]? with
   |none=>rw[e] at hd;cases hd
   |some p=>
    rw[e] at hd;cases hd;exact aW (B:=S H2) ⟨_,rfl,x,p,rfl,hx2,hp.inn p (ME e),λH3 s3=>kk _ _ ⟨s3,.bl _⟩⟩
  have hys:az K H2 ((MF ps.length true).map Qv) ys:=by
   have e:(ps.map p9).map (λ_=>Qv true)=(MF ps.length true).map Qv:=by
    rw[P9,Sc];exact Tv.mpr ⟨by simp,λb hb=>by obtain⟨_,_,h⟩:=Nc.mp hb;exact h.symm⟩
   rw[<- e];exact hys
  have e:=fG hys;subst e;refine⟨D,_,rfl,bH.of ae,_,rfl,?_⟩;rw[tr];refine bA ?_;have s3:af H (upd H2 D (.lst ((MF ps.length true).map V.bl))):=s2.trans (af.new hD);generalize upd H2 D (.lst ((MF ps.length true).map V.bl))=H3 at s3 ⊢;clear hys s2 hD;have e0:ps[0]?=some ps[0]:=MC (by lia);obtain⟨v0,ev0,hv0⟩:=nO (az.same s3 hds) e0;obtain⟨p0,rfl,hp0⟩:=bn hv0;refine⟨_,rfl,pN (i:=0) (ck.same s3 hl) ev0 (cr hp0 ⟨_,_,rfl,rfl,_,rfl,Kc (hp.zero _ e0) ?_⟩)⟩;have l3:=ck.same s3 hl;refine⟨_,rfl,_,rfl,1,rfl,l,xs,rfl,l3,λL hL=>?_⟩;rw[yP xs (by lia)];have sL:af H3 (upd H3 L (.lst (xs.drop 1))):=af.new hL;have hL1:ck K (upd H3 L (.lst (xs.drop 1))) L (xs.drop 1) true:=bH.of ae;generalize upd H3 L (.lst (xs.drop 1))=H4 at sL hL1 ⊢;have d4:=az.same (s3.trans sL) hds;have d5:=az.drop 1 d4;refine⟨l,L,true,true,rfl,⟨_,ck.same sL l3⟩,⟨_,hL1⟩,?_⟩;refine uJ (fs:=MF (ps.length-1) (.bool true)) (ck.same sL l3) hL1 d4 d5 (by simp) (by simp) (by simp;lia) (λi d e f x y Z H5 hd he hf s5 hx5 hy5 hZ R kk S=>?_) (λzs H5 s5 hzs D2 hD2=>?_)
  ·have hf:f=.bool true:=(List.mem_replicate.mp (ME hf)).2;subst hf;rw[Mw] at hd;rw[QM,Mw] at he;cases e1:ps[i]? with
   |none=>rw[e1] at hd;cases hd
   |some p=>
    cases e2:ps[1+i]? with
    |none=>rw[e2] at he;cases he
    |some r=>
     rw[e1] at hd;rw[e2] at he;cases hd;cases he;obtain⟨u1,u2⟩:=hp.up i p r e1 (by rw[Pw];exact e2);refine⟨Z,_,rfl,dF.of hZ,rfl,_,_,rfl,_,_,rfl,rfl,?_⟩;refine aW (B:=S H5) ⟨_,rfl,_,rfl,x,y,p,r,rfl,hx5,hy5,?_⟩;rw[Ms u1,Ms u2];exact kk _ _ ⟨af.refl _,.bl _⟩
  ·have hzs:az K H5 ((MF (ps.length-1) true).map Qv) zs:=by rw[Sc];exact hzs
   have e:=fG hzs;subst e;refine⟨D2,_,rfl,bH.of ae,?_⟩;rw[tr];exact q _ (((s3.trans sL).trans s5).trans (af.new hD2))
theorem jg:ao ["pairs","at","k"] ["pairs","at"] (ah j_):=df
inductive ud (K:HD)(vs:List V)(H:Hp)(Q:VK)(_:XK):Prop
 |mk (x y:V) (ps:List Pt) (a:Rat) (z:Pt) (_:vs=[x,y]) (_:ax K H (FG ps) x) (_:ax K H (rD a) y) (_:2<=ps.length) (_:(∀ p∈ps,p.In)) (_:Bq 600 a) (_:ps.getLast?=some z) (_:a<=(z.1:Rat)) (_:∀ (v:V) (k:Nat) (p q:Pt) (H':Hp),af H H'->BJ ps a k p q->ax K H' (.tuple [p9 p,p9 q]) v->Q v H')
theorem uI (T:cZ K mg w):dN P w K mg base cP 3 "stretch_to" ["pairs","at"] [] (ud K):=by
  refine T.x2a.cal jg (bb:=λ_ _ _ _ _ H vs Q E hr h=>?_);obtain⟨x,y,ps,a,z,rfl,hx,hy,two,inn,oa,hz,ha,q⟩:=h;obtain⟨l,xs,rfl,hl,hds⟩:=aN (b:=true) hx;refine⟨_,(cM.go (ab (av 2 jg.nd aa)
   (ab (oY Nr (aS (ac ay (Af T) hr (aD (ac ay (dC T T.x1b) hr (aE (am K (am K (aj 0) (aj 2)) aa))) (aj 1)))) (ag (xA (i:=2) jg.nd rfl (by first|exact Vo rfl|exact Uj rfl) aa Hr)))
   (ag (ar (be (aD (am K (aj 0) (ap cm (aj 2) aa)) (am K (aj 0) (aj 2))))))))),?_⟩
  have hlast:ps[ps.length-1]?=some z:=by rw[<- NB];exact hz
  refine⟨λm σ H'=>∃ k:Nat,σ=[some (.ref l),some y,some (.int k)]/\af H H'/\1<=k/\k<ps.length/\(k=1\/∃ p,ps[k-1]?=some p/\(p.1:Rat)<a)/\m=ps.length-k,⟨_,1,rfl,af.refl _,by decide,by lia,.inl rfl,rfl⟩,?_⟩;rintro m σ H1 ⟨k,rfl,s1,k1,k2,hk,rfl⟩;have e1:ps[k]?=some ps[k]:=MC k2;obtain⟨v,ev,hv⟩:=nO (az.same s1 hds) e1;obtain⟨pa,rfl,hpa⟩:=bn hv;have ip:=inn _ (ME e1);have l1:=ck.same s1 hl;have st:Sm 20 (ps[k]).1:=by have:=ip.a1;have:=ip.a2;unfold Sm;lia
  refine⟨_,rfl,_,rfl,pN l1 ev (cr hpa ⟨_,_,rfl,by decide,Sm.mono (k:=4) (by unfold Sm;decide) (by decide),j0.sh (by decide) λv2 H2 s2 hv2=>?_⟩)⟩;have e2:((ps[k]).1:Rat)/((1:Int):Rat)=((ps[k]).1:Rat):=by
   rw[show((1:Int):Rat)=1 from rfl];grind
  rw[e2] at hv2;refine⟨_,rfl,v2,y,_,a,rfl,hv2,ax.same (s1.trans s2) hy,?_,oa.mono (by decide),_,rfl,?_⟩
  ·show Ok 3900 (((ps[k]).1:Rat)).num ((((ps[k]).1:Rat)).den:Int);rw[R0,RY];exact⟨by decide,by simp,st.mono (by decide),Sm.mono (k:=4) (by unfold Sm;decide) (by decide)⟩
  refine f9 (λhc=>?_) (λhc=>?_)
  ·have hc:((ps[k]).1:Rat)<a:=Nx hc;have kn:k+1<ps.length:=by
    by_cases e:k=ps.length-1
    ·exfalso;have ez:ps[k]?=some z:=by rw[e];exact hlast
     rw[e1] at ez;rw[Mi ez] at hc;grind
    ·lia
   refine⟨_,λ_ _ w=>w,?_⟩;refine⟨_,rfl,_,_,rfl,rfl,?_⟩;exact⟨ps.length-(k+1),by lia,k+1,rfl,s1.trans s2,by lia,kn,.inr ⟨ps[k],by rw[Nat.add_sub_cancel];exact e1,hc⟩,rfl⟩
  ·have hc:¬ ((ps[k]).1:Rat)<a:=λw=>hc (Ms w)
   have e0:ps[k-1]?=some ps[k-1]:=MC (by lia);obtain⟨v0,ev0,hv0⟩:=nO (az.same (s1.trans s2) hds) e0;have l2:=ck.same s2 l1;have ek:((k:Nat):Int)-1=((k-1:Nat):Int):=by lia
   refine⟨_,rfl,_,rfl,_,_,rfl,rfl,?_⟩;dsimp only;rw[ek];refine pN l2 ev0 ⟨_,rfl,_,rfl,pN l2 ev ⟨l7,λr hr=>?_⟩⟩;have sr:=s2.trans (af.new (o:=.tup [v0,.ref pa]) hr);refine q _ (k-1) ps[k-1] ps[k] _ (s1.trans sr) ⟨e0,by rw[Nat.sub_add_cancel k1];exact e1,?_,by grind⟩ (ax.tupN hr (.cons hv0 (.cons (ax.same s2 hv) .nil)));rcases hk with w|⟨p,w1,w2⟩
   ·exact .inl (by lia)
   ·rw[e0] at w1;cases w1;exact .inr w2
theorem iC:ao ["low","high","at","run","rise","top","below"] uE1 (ah oU):=df
inductive zG (K:HD)(vs:List V)(H:Hp)(Q:VK)(_:XK):Prop
 |mk (x y z:V) (p q:Pt) (a:Rat) (_:vs=[x,y,z]) (_:ax K H (p9 p) x) (_:ax K H (p9 q) y) (_:ax K H (rD a) z) (_:p.In) (_:q.In) (_:p.1<q.1) (_:Bq 600 a) (_:j0 K H (x_ p q a) Q)
theorem Ai (T:cZ K mg w):dN P w K mg base cP 3 "on_line" uE1 [] (zG K):=by
  refine T.x2b.cal iC (bb:=λ_ _ _ _ _ H vs Q E hr h=>?_);obtain⟨x,y,z,p,r,c,rfl,hx,hy,hz,ip,ir,hlt,oc,q⟩:=h;obtain⟨a,rfl,ha⟩:=bn hx;obtain⟨b,rfl,hb⟩:=bn hy;obtain⟨d,rfl,hd⟩:=bn hz;refine⟨_,(cM.go (ab (av 3 iC.nd (ap cm (am K (aj 1) aa) (am K (aj 0) aa)))
   (ab (av 4 iC.nd (ap cm (am K (aj 1) aa) (am K (aj 0) aa)))
   (ab (i7 (aj 2) (cS (K:=K) (n:=2) rfl rfl (aw (ai 5 iC.nd) (aw (ai 6 iC.nd) bu))))
   (ag (ar (ac ay (dC T T.xb) hr (aD (ap cQ (ap aO (ap aO (am K (aj 0) aa) (aj 3)) (aj 6)) (ap aO (ap cm (aj 5) (ap aO (am K (aj 0) aa) (aj 6))) (aj 4))) (ap aO (aj 3) (aj 6)))))))))),?_⟩
  have s11:∀ {i:Int},0<=i->i<=1000->Sm 10 i:=λh1 h2=>by unfold Sm;lia
  have s12:∀ {i j:Int},0<=i->i<=1000->0<=j->j<=1000->Sm 11 (i-j):=λh1 h2 h3 h4=>by unfold Sm;lia
  refine⟨_,rfl,cr hb ⟨_,rfl,cr ha ⟨_,_,rfl,rfl,?_⟩⟩⟩;refine⟨_,rfl,bN hb ⟨_,rfl,bN ha ⟨_,_,rfl,rfl,?_⟩⟩⟩;refine⟨_,rfl,d,_,rfl,dF.of hd,rfl,_,_,rfl,_,_,rfl,rfl,?_⟩;have sr:Sm 11 (r.1-p.1):=s12 ir.a1 ir.a2 ip.a1 ip.a2;have su:Sm 11 (r.2-p.2):=s12 ir.b1 ir.b2 ip.b1 ip.b2;refine⟨_,rfl,bN ha ⟨_,rfl,_,_,rfl,rfl,.inr ((s11 ip.b1 ip.b2).mono (by decide)),?_⟩⟩;refine⟨_,rfl,_,_,rfl,rfl,.inr (((s11 ip.b1 ip.b2).mul sr).mono (by decide)),?_⟩;refine⟨_,rfl,_,rfl,cr ha ⟨_,rfl,_,_,rfl,rfl,.inr ((s11 ip.a1 ip.a2).mono (by decide)),_,_,rfl,rfl,_,rfl,?_⟩⟩;refine⟨_,_,rfl,rfl,.inl ⟨?_,su.mono (by decide)⟩,_,_,rfl,rfl,?_⟩
  ·exact((oc.sn.mono (show 600<=610 by decide)).sub ((s11 ip.a1 ip.a2).mul oc.sd)).mono (by decide)
  refine⟨_,rfl,_,rfl,_,_,rfl,rfl,.inr (sr.mono (by decide)),_,_,rfl,?_,?_,?_⟩
  ·exact Nz (by lia) (by exact_mod_cast c.den_nz)
  ·exact(sr.mul oc.sd).mono (by decide)
  ·rw[Ef hlt] at q;exact j0.sh (Nz (by lia) (by exact_mod_cast c.den_nz)) q
theorem ma:ao uD8 uD8 (ah e_):=df
inductive mf (K:HD)(vs:List V)(H:Hp)(Q:VK)(_:XK):Prop
 |mk (a C dx:Mz) (x:V) (ps:List Pt) (_:vs=[.ref a,x]) (_:cO K "Curve" C) (_:H a=some (.ins C dx [])) (_:ax K H (FG ps) x) (_:t9 ps) (_:∀ H',Mv [a] H H'->kr K H' ps (.ref a)->(∀ T,bR H T->kr K (cut T H') ps (.ref a))->Q .non H')
theorem gQ (T:cZ K mg w):ky P w K mg base cP 6 "Curve" "__init__" uD8 [] (mf K):=by
  refine T.x2c.cal ma (bb:=λ_ _ _ _ _ H vs Q E hr h=>?_);obtain⟨a,C,dx,x,ps,rfl,hC,hH,hx,hp,q⟩:=h;refine⟨_,(cM.go (ab (a_ (aX (aS (ac ay (wW T) hr (aE (aj 1))))) (ag bE) aH)
   (ag (dP (K:=K) (x:="Curve") rfl T.x4 (.head _) (aj 0) (bV (tW (K:=K) rfl) (by rfl) T.xa gX (aE (aj 1))))))),?_⟩
  refine⟨_,rfl,x,ps,rfl,hx,hp,λH1 s1=>⟨_,rfl,bA ?_⟩⟩;have hx1:=ax.same s1 hx;obtain⟨l,xs,rfl,hl,hds⟩:=aN (b:=true) hx1;refine⟨_,rfl,l,xs,rfl,.inl hl,λL hL=>?_⟩;have sL:af H1 (upd H1 L (.lst xs)):=af.new hL;have ha:=sL _ _ (s1 _ _ hH);refine⟨_,rfl,a,C,dx,[],rfl,hC,ha,by decide,?_⟩;have na:L≠a:=λz=>by rw[z,s1 _ _ hH] at hL;cases hL
  have mv:Mv [a] (upd H1 L (.lst xs)) (upd (upd H1 L (.lst xs)) a (.ins C dx (d_ "points" (.ref L) []))):=λb o e nb=>by rw[aq (λz=>nb (by simp[z]))];exact e
  have tup:∀ p∈ps.map p9,uE p=true:=λp hp=>by obtain⟨r,_,rfl⟩:=Nc.mp hp;rfl
  have keep:∀ {ds:List M4}{ys:List V},(∀ p∈ds,∃ r:Pt,p=p9 r)->az K (upd H1 L (.lst xs)) ds ys->az K (upd (upd H1 L (.lst xs)) a (.ins C dx (d_ "points" (.ref L) []))) ds ys:=λ{ds ys} hd h=>by
   induction ds generalizing ys with
   |nil=>cases h;exact .nil
   |cons d ds ih=>
    cases h with
    |cons h1 h2=>
     refine .cons ?_ (ih (λp hp=>hd p (Mt _ hp)) h2);obtain⟨r,rfl⟩:=hd d (MO ..);obtain⟨pa,rfl,hpa⟩:=bn h1;exact pI (mv _ _ hpa (λz=>by rw[Ml.mp z,ha] at hpa;cases hpa))
  have kd:=keep (ds:=ps.map p9) (λp hp=>by obtain⟨r,_,rfl⟩:=Nc.mp hp;exact⟨r,rfl⟩) (az.same sL hds);have gL:upd (upd H1 L (.lst xs)) a (.ins C dx (d_ "points" (.ref L) [])) L=some (.lst xs):=by rw[aq na];exact ae
  refine q _ (λb o e nb=>mv b o (sL _ _ (s1 _ _ e)) nb) ⟨a,C,dx,L,rfl,hC,ae,.lst (.inl gL) kd⟩ λT lT=>?_
  have aT:a∉T:=lT.not hH λ_ z=>nomatch z
  have LT:L∉T:=λm=>by
   obtain⟨ys,e⟩:=lT L m;rw[s1 _ _ e] at hL;cases hL
  have lT':bR (upd (upd H1 L (.lst xs)) a (.ins C dx (d_ "points" (.ref L) []))) T:=λb m=>by
   obtain⟨ys,e⟩:=lT b m;exact⟨ys,mv _ _ (sL _ _ (s1 _ _ e)) (λz=>aT (Ml.mp z▸m))⟩
  exact⟨a,C,dx,L,rfl,hC,by rw[eJ aT];exact ae,.lst (.inl (by rw[eJ LT];exact gL)) (az.cutT lT' (Gy ps) kd)⟩
theorem qm:ao uA5 uA5 (ah iJ):=df
inductive qh (K:HD)(vs:List V)(H:Hp)(Q:VK)(_:XK):Prop
 |mk (v:V) (ps:List Pt) (z:Pt) (_:vs=[v]) (_:kr K H ps v) (_:ps.getLast?=some z) (_:Q (.int z.1) H)
theorem km (T:cZ K mg w):ky P w K mg base cP 1 "Curve" "last" uA5 [] (qh K):=by
  refine T.x2d.cal qm (bb:=λ_ _ _ _ _ H vs Q E hr h=>?_);obtain⟨v,ps,z,rfl,⟨a,C,dx,l,rfl,hC,hH,hd⟩,hz,q⟩:=h;refine⟨_,(cM.go (ag (ar (am K (am K (aY (K:=K) (x:="Curve") rfl T.x4 (.head _) (aj 0)) (wS wO aa)) aa)))),?_⟩;obtain⟨l',xs,e,hl,hds⟩:=aN (b:=true) hd;cases e;obtain⟨u,eu,hu⟩:=yw hds hz;obtain⟨pa,rfl,hpa⟩:=bn hu;exact⟨_,rfl,a,C,dx,_,_,rfl,hC,hH,rfl,_,rfl,.inl ⟨l,xs,_,_,rfl,rfl,hl,rF eu,cr hpa q⟩⟩
theorem f_:ao ["self","place","low","high"] uC0 (ah gE):=df
inductive oJ (K:HD)(vs:List V)(H:Hp)(Q:VK)(_:XK):Prop
 |mk (v x:V) (ps:List Pt) (a:Rat) (z:Pt) (_:vs=[v,x]) (_:kr K H ps v) (_:ax K H (rD a) x) (_:t9 ps) (_:Bq 600 a) (_:ps.getLast?=some z) (_:0<=a) (_:a<=(z.1:Rat)) (_:∀ (w:V) (c:Rat) (H':Hp),af H H'->zj ps a c->ax K H' (rD c) w->Q w H')
theorem oQ (T:cZ K mg w):ky P w K mg base cP 4 "Curve" "value" uC0 [] (oJ K):=by
  refine T.x2e.cal f_ (bb:=λ_ _ _ _ _ H vs Q E hr h=>?_);obtain⟨v,x,ps,c,z,rfl,hv,hx,hp,oc,hz,c0,cz,q⟩:=h;refine⟨_,(cM.go (ab (a_ (WW.pt (dG (aX (aS (ac ay (lE T) hr (aE (aj 1))))) (dB (aX (aS (ac ay (nN T) hr (ak (aj 1) (ak aa (ak (cX (K:=K) rfl ay (km T) (hr.mono (by decide)) (aj 0)) aZ))))))))) (ag bE) aH)
   (ab (i7 (ac ay (uI T) hr (aD (aY (K:=K) (x:="Curve") rfl T.x4 (.head _) (aj 0)) (aj 1))) (cS (K:=K) (n:=2) rfl rfl (aw (ai 2 f_.nd) (aw (ai 3 f_.nd) bu))))
   (ag (ar (ac ay (Ai T) hr (ak (aj 2) (ak (aj 3) (ak (aj 1) aZ))))))))),?_⟩
  refine⟨_,rfl,x,_,rfl,hx,_,rfl,?_⟩;rw[Gi];refine bA ?_;obtain⟨a,C,dx,l,rfl,hC,hH,hd⟩:=id hv;have iz:=hp.inn z (Pe hz);refine⟨_,rfl,_,rfl,a,C,dx,_,rfl,hC,hH,rfl,.ref a,ps,z,rfl,hv,hz,x,c,0,z.1,rfl,hx,oc.mono (by decide),?_,?_,?_⟩
  ·unfold Sm;decide
  ·refine Sm.mono (k:=20) ?_ (by decide);have:=iz.a1;have:=iz.a2;unfold Sm;lia
  have e1:decide (0*(c.den:Int)<=c.num)=true:=Ms (by rw[Int.zero_mul];exact Sw.mpr c0);have e2:decide (c.num<=z.1*(c.den:Int))=true:=Ms (by
   have h:=(Rat.le_iff c (z.1:Rat)).mp cz;rw[R0,RY] at h
   simpa using h)
  rw[e1,e2];refine⟨_,rfl,bA ?_⟩;refine⟨_,rfl,a,C,dx,_,_,rfl,hC,hH,rfl,_,rfl,.ref l,x,ps,c,z,rfl,hd,hx,hp.two,hp.inn,oc,hz,cz,λu k p r H1 s1 st hu=>?_⟩;obtain⟨tp,ys,rfl,ht,hys⟩:=aN (b:=false) hu;obtain⟨y0,y1,rfl,g0,g1⟩:∃ y0 y1,ys=[y0,y1]/\ax K H1 (p9 p) y0/\ax K H1 (p9 r) y1:=by
   cases hys with
   |cons h1 h2=>
    cases h2 with
    |cons h3 h4=>
     cases h4;exact⟨_,_,rfl,h1,h3⟩
  refine⟨tp,_,rfl,ht,rfl,_,_,rfl,_,_,rfl,rfl,?_⟩;have hlt:=(hp.up k p r st.lo st.hi).1;refine⟨_,rfl,_,rfl,_,rfl,y0,y1,x,p,r,c,rfl,g0,g1,ax.same s1 hx,hp.inn p (ME st.lo),hp.inn r (ME st.hi),hlt,oc,λw H2 s2 hw=>?_⟩;exact q w _ H2 (s1.trans s2) ⟨k,p,r,st,rfl⟩ hw
theorem l6:ao uA5 uA5 (ah fe):=df
inductive l0 (K:HD)(vs:List V)(H:Hp)(Q:VK)(_:XK):Prop
 |mk (v:V) (ps:List Pt) (_:vs=[v]) (_:kr K H ps v) (_:t9 ps) (_:∀ (w:V) (c:Rat) (H':Hp),af H H'->ly ps (ps.length-1) c->ax K H' (rD c) w->Q w H')
theorem eM (T:cZ K mg w):ky P w K mg base cP 4 "Curve" "steepest" uA5 [] (l0 K):=by
  refine T.x2f.cal l6 (bb:=λ_ _ _ _ _ H vs Q E hr h=>?_);obtain⟨v,ps,rfl,⟨a,C,dx,l,rfl,hC,hH,hd⟩,hp,q⟩:=h;refine⟨_,(cM.go (ag (ar (ac ay (rM T) hr (aE (aF uC9 [] [] 2 (iL (K:=K) rfl rfl T.x8 (aD (aY (K:=K) (x:="Curve") rfl T.x4 (.head _) (aj 0)) (jw (Im (K:=K) rfl) (aY (K:=K) (x:="Curve") rfl T.x4 (.head _) (aj 0)) (lF aa) kA))) (λnd=>(cS (K:=K) (n:=2) rfl rfl (aw (ai 0 nd) (aw (ai 1 nd) bu)))) aA (ac ay (dC T T.xb) hr (aD (ap cm (am K (aj 1) aa) (am K (aj 0) aa)) (ap cm (am K (aj 1) aa) (am K (aj 0) aa)))))))))),?_⟩;obtain⟨l',xs,e,hl,hds⟩:=aN (b:=true) hd;cases e;have hlen:=hds.length;rw[Mq] at hlen;have two:=hp.two;have few:=hp.few;refine⟨_,rfl,a,C,dx,_,_,rfl,hC,hH,rfl,_,rfl,a,C,dx,_,_,rfl,hC,hH,rfl,1,rfl,l,xs,rfl,hl,λL hL=>?_⟩;rw[yP xs (by lia)];have sL:af H (upd H L (.lst (xs.drop 1))):=af.new hL;have hL1:ck K (upd H L (.lst (xs.drop 1))) L (xs.drop 1) true:=bH.of ae;generalize upd H L (.lst (xs.drop 1))=H4 at sL hL1 ⊢;have d4:=az.same sL hds;have d5:=az.drop 1 d4;have bs:∀ {i:Nat}{p r:Pt},ps[i]?=some p->ps[i+1]?=some r->r.1-p.1≠0/\Sm 11 (r.1-p.1)/\Sm 11 (r.2-p.2):=λ{i p r} e1 e2=>by
   have ip:=hp.inn p (ME e1);have ir:=hp.inn r (ME e2);obtain⟨u1,u2⟩:=hp.up i p r e1 e2;have:=ip.a1;have:=ip.a2;have:=ir.a1;have:=ir.a2;have:=ip.b1;have:=ip.b2;have:=ir.b1;have:=ir.b2;exact⟨by lia,by unfold Sm;lia,by unfold Sm;lia⟩
  refine⟨l,L,true,true,rfl,⟨_,ck.same sL hl⟩,⟨_,hL1⟩,?_⟩;refine uJ (fs:=(slopes ps).map rD) (ck.same sL hl) hL1 d4 d5 (by simp) (by simp[slopes]) (by simp;lia) (λi d e f x y Z H5 hd he hf s5 hx5 hy5 hZ R kk S=>?_) (λzs H5 s5 hzs D2 hD2=>?_)
  ·rw[Mw] at hd;rw[QM,Mw] at he;cases e1:ps[i]? with
   |none=>rw[e1] at hd;cases hd
   |some p=>
    cases e2:ps[1+i]? with
    |none=>rw[e2] at he;cases he
    |some r=>
     rw[e1] at hd;rw[e2] at he;cases hd;cases he;have hf:f=rD (iW p r):=by
      rw[Mw,rW e1 (by rw[Pw];exact e2)] at hf;cases hf;rfl
     subst hf;obtain⟨nz,sa,sb⟩:=bs e1 (by rw[Pw];exact e2);obtain⟨pa,rfl,hpa⟩:=bn hx5;obtain⟨ra,rfl,hra⟩:=bn hy5;refine⟨Z,_,rfl,dF.of hZ,rfl,_,_,rfl,_,_,rfl,rfl,?_⟩;exact aW (B:=S H5) ⟨_,rfl,bN hra ⟨_,rfl,bN hpa ⟨_,_,rfl,rfl,_,rfl,cr hra ⟨_,rfl,cr hpa ⟨_,_,rfl,rfl,_,_,rfl,nz,sa.mono (by decide),j0.sh nz λv5 H6 s6 hv5=>kk _ _ ⟨s6,hv5⟩⟩⟩⟩⟩⟩
  ·have ls:(slopes ps).length=ps.length-1:=by simp[slopes]
   refine⟨.ref D2,true,11,slopes ps,rfl,ax.listN hD2 hzs,λr hr=>?_,λz=>?_,by lia,by decide,by lia,λm hm hx v6 H6 s6 hv6=>q v6 m H6 (((sL.trans s5).trans (af.new hD2)).trans s6) (EC hp hm hx) hv6⟩
   ·obtain⟨i,p,r',e1,e2,rfl⟩:=rJ hr;obtain⟨nz,sa,sb⟩:=bs e1 e2;exact gN nz sb sa
   ·rw[z] at ls;simp only[QO] at ls;lia
theorem qi:ao uA5 uA5 (ah iy):=df
inductive qt (K:HD)(vs:List V)(H:Hp)(Q:VK)(_:XK):Prop
 |mk (v:V) (ps:List Pt) (y z:Pt) (_:vs=[v]) (_:kr K H ps v) (_:ps[0]?=some y) (_:ps.getLast?=some z) (_:∀ u H',af H H'->ax K H' (.tuple [.int y.2,.int z.2]) u->Q u H')
theorem qB (T:cZ K mg w):ky P w K mg base cP 1 "Curve" "ends" uA5 [] (qt K):=by
  refine T.x2g.cal qi (bb:=λ_ _ _ _ _ H vs Q E hr h=>?_);obtain⟨v,ps,y,z,rfl,⟨a,C,dx,l,rfl,hC,hH,hd⟩,hy,hz,q⟩:=h;refine⟨_,(cM.go (ag (ar (be (aD (am K (am K (aY (K:=K) (x:="Curve") rfl T.x4 (.head _) (aj 0)) aa) aa) (am K (am K (aY (K:=K) (x:="Curve") rfl T.x4 (.head _) (aj 0)) (wS wO aa)) aa)))))),?_⟩;obtain⟨l',xs,e,hl,hds⟩:=aN (b:=true) hd;cases e;obtain⟨u0,eu0,hu0⟩:=nO hds hy;obtain⟨pb,rfl,hpb⟩:=bn hu0;obtain⟨u,eu,hu⟩:=yw hds hz;obtain⟨pa,rfl,hpa⟩:=bn hu;refine⟨_,rfl,a,C,dx,_,_,rfl,hC,hH,rfl,pN (i:=0) hl eu0 (bN hpb ?_)⟩;refine⟨_,rfl,a,C,dx,_,_,rfl,hC,hH,rfl,_,rfl,.inl ⟨l,xs,_,_,rfl,rfl,hl,rF eu,bN hpa ⟨l7,λp hp=>?_⟩⟩⟩;exact q _ _ (af.new hp) (ax.tupN hp (.cons (.int _) (.cons (.int _) .nil)))
theorem mF:ao uB6 uB6 (ah b8):=df
inductive mE (K:HD)(vs:List V)(H:Hp)(Q:VK)(_:XK):Prop
 |mk (a C dx:Mz) (x y:V) (e:En) (_:vs=[.ref a,x,y]) (_:cO K "Ends" C) (_:H a=some (.ins C dx [])) (_:ax K H (dk false e.w) x) (_:ax K H (dk false e.b) y) (_:e.In) (_:∀ H',Mv [a] H H'->eR K H' e (.ref a)->Q .non H')
theorem ik (T:cZ K mg w):pS P w K mg base cP 5 "Ends" "__init__" uB6 uC8 1 2 [] (mE K):=by
  refine T.x3f.cal mF (bb:=λ_ _ _ _ _ H vs Q E hr h=>?_);obtain⟨a,C,dx,x,y,e,rfl,hC,hH,hx,hy,ie,q⟩:=h;refine⟨_,(cM.go (ab (a_ (WW.pt (dG (aX (aS (ac ay (lj T) hr (aE (aj 1))))) (dB (aX (aS (ac ay (lj T) hr (aE (aj 2)))))))) (ag bE) aH)
   (ab (a_ (aX (aS (au (mz (K:=K) rfl rfl) (by rfl) T.x9 jk (aE (aF ["high","low"] [] [] 2 (iL (K:=K) rfl rfl T.x8 (aD (aj 1) (aj 2))) (λnd=>(cS (K:=K) (n:=2) rfl rfl (aw (ai 0 nd) (aw (ai 1 nd) bu)))) aA (cH u8 (aj 0) (aj 1) (aV _))))))) (ag bE) aH)
   (ab (dP (K:=K) (x:="Ends") rfl T.xc (.head _) (aj 0) (aj 1))
   (ag (dP (K:=K) (x:="Ends") rfl T.xc (.tail _ (.head _)) (aj 0) (aj 2))))))),?_⟩
  have ok:∀ {i j k:Int},0<=i->i<=1000->0<=j->j<=1000->0<=k->k<=1000->([i,j,k].all λz=>decide (0<=z)&&decide (z<=1000))=true:=λ{i j k} h1 h2 h3 h4 h5 h6=>by
   simp[h1,h2,h3,h4,h5,h6]
  have⟨a0,a1,a2,b0,b1,b2,c0,c1,c2⟩:=ie;refine⟨_,rfl,x,[e.w.a,e.w.b,e.w.c],rfl,hx,rfl,λH1 s1=>⟨_,rfl,?_⟩⟩;rw[ok (by lia) (by lia) (by lia) (by lia) (by lia) (by lia)];refine bA ?_;refine⟨_,rfl,y,[e.b.a,e.b.b,e.b.c],rfl,ax.same s1 hy,rfl,λH2 s2=>⟨_,rfl,?_⟩⟩;rw[ok (by lia) (by lia) (by lia) (by lia) (by lia) (by lia)];refine bA ?_;have s12:=s1.trans s2;obtain⟨p,xs,rfl,hp,hds⟩:=aN (b:=false) (ax.same s12 hx);obtain⟨r,ys,rfl,hr',hes⟩:=aN (b:=false) (ax.same s12 hy);refine⟨_,rfl,_,rfl,p,r,false,false,rfl,⟨_,hp⟩,⟨_,hr'⟩,ic (fs:=[.bool true,.bool true,.bool true]) hp hr' hds hes rfl rfl (by show 3<=1000;decide) (λi d e' f x y T H3 hd he hf s3 hx3 hy3 hT R kk S=>?_) (λzs H3 s3 hzs D hD=>?_)⟩
  ·obtain⟨n,rfl,hn⟩:=R3.at (r:=e.w) hd;obtain⟨m,rfl,hm⟩:=R3.at (r:=e.b) he;have hf:f=.bool true:=by rcases pJ hf with ⟨_,rfl⟩|⟨_,rfl⟩|⟨_,rfl⟩<;>rfl
   subst hf;cases hx3;cases hy3;refine⟨T,_,rfl,dF.of hT,rfl,_,_,rfl,_,_,rfl,rfl,?_⟩;refine aW (B:=S H3) ⟨_,rfl,_,rfl,_,_,rfl,rfl,?_⟩;rw[Ms (show m<n by lia)];exact kk _ _ ⟨af.refl _,.bl _⟩
  ·have ez:=fG (bs:=[true,true,true]) hzs;subst ez;refine⟨D,[true,true,true],rfl,bH.of ae,_,rfl,bA ?_⟩;have sD:af H (upd H3 D (.lst ([true,true,true].map V.bl))):=(s12.trans s3).trans (af.new hD);generalize upd H3 D (.lst ([true,true,true].map V.bl))=G at sD ⊢;have hx':=ax.same sD hx;have hy':=ax.same sD hy;have ha:=sD _ _ hH;refine⟨_,rfl,_,rfl,a,C,dx,[],rfl,hC,ha,by decide,?_⟩;refine⟨_,rfl,_,rfl,a,C,dx,_,rfl,hC,ae,(by show 1<1000;decide),?_⟩;rw[Fz];have mv:∀ {o:HO},Mv [a] G (upd G a o):=λb u z nb=>by rw[aq (λw=>nb (by simp[w]))];exact z
   refine q _ (λb u z nb=>mv b u (sD _ _ z) nb) ⟨a,C,dx,_,_,rfl,hC,ae,ax.sameI (fQ.put ha) hx',ax.sameI (fQ.put ha) hy'⟩
theorem sQ:ao uA7 uA7 (ah je):=df
inductive sg (K:HD)(vs:List V)(H:Hp)(Q:VK)(_:XK):Prop
 |mk (v:V) (ps:List Pt) (y z:Pt) (most:Int) (_:vs=[v,.int most]) (_:kr K H ps v) (_:ps[0]?=some y) (_:ps.getLast?=some z) (_:z.1=60) (_:z.2<=most) (_:∀ H',af H H'->Q (.bl true) H')
theorem tm (T:cZ K mg w):dN P w K mg base cP 2 "is_curve_to" uA7 [] (sg K):=by
  refine T.x2h.cal sQ (bb:=λ_ _ _ _ _ H vs Q E hr h=>?_);obtain⟨v,ps,y,z,most,rfl,hv,e0,ez,z1,z2,q⟩:=h;refine⟨_,(cM.go (ag (ar (dX (au (D0 (K:=K) (x:="Curve") rfl T.x4 T.xx) (by rfl) T.x2 aK (aD (aj 0) (nW (K:=K) (x:="Curve") rfl rfl (jz T.x4)))) (dX (cH (GS (K:=K) rfl hr.units) (cX (K:=K) rfl ay (km T) (hr.mono (by decide)) (aj 0)) (cB rfl T.xe) (aV _)) (gj (cH pM (am K (cX (K:=K) rfl ay (qB T) (hr.mono (by decide)) (aj 0)) aa) (aj 1) (aV _)))))))),?_⟩;obtain⟨a,C,dx,l,rfl,hC,ha,hl⟩:=id hv;refine⟨_,rfl,λD hD=>?_⟩;cases bB hD hC;refine⟨_,_,rfl,hC,.inl ⟨a,dx,_,rfl,ha,_,rfl,aW ?_⟩⟩;refine⟨_,rfl,a,C,dx,_,rfl,hC,ha,rfl,.ref a,ps,z,rfl,hv,ez,.int z.1,.int 60,.int _,.int _,rfl,rfl,true,by rw[z1];rfl,aW ?_⟩;refine⟨_,rfl,a,C,dx,_,rfl,hC,ha,rfl,.ref a,ps,y,z,rfl,hv,e0,ez,λu H1 s1 hu=>?_⟩;obtain⟨p,rfl,hp⟩:=bn hu;refine pN (b:=false) (i:=1) (dF.of hp) rfl ⟨_,rfl,_,_,rfl,rfl,?_⟩;dsimp only;rw[Ms z2];exact q _ s1
theorem xF:ao uA7 uA7 (ah lf):=df
inductive vD (K:HD)(vs:List V)(H:Hp)(Q:VK)(_:XK):Prop
 |mk (l:Mz) (ws:List V) (P:C3) (most:Int) (_:vs=[.ref l,.int most]) (_:H l=some (.lst ws)) (_:im K H P ws) (_:P.In most) (_:∀ H',af H H'->Q (.bl true) H')
theorem xH (T:cZ K mg w):dN P w K mg base cP 3 "is_curves" uA7 [] (vD K):=by
  refine T.x2i.cal xF (bb:=λ_ _ _ _ _ H vs Q E hr h=>?_);obtain⟨l,ws,P,most,rfl,hl,hw,hp,q⟩:=h;refine⟨_,(cM.go (ab (a_ (WW.pt (dG (aX (aS (au (Ac (K:=K) rfl) (by rfl) T.x2 aK (aD (aj 0) (be (aD (bU (v:=.ty "list") rfl T.xa gX rfl) (bU (v:=.ty "tuple") rfl T.x5 cJ rfl))))))) (dB (aR mN (au (gU (K:=K) rfl) (by rfl) T.x3 dQ (aE (aj 0))) aa (aV _))))) (ag (ar gg)) aH)
   (ag (ar (au (mz (K:=K) rfl rfl) (by rfl) T.x9 jk (aE (aF ["curve"] ["most"] [1] 1 (bx (K:=K) rfl (aj 0)) (λnd=>(ai 0 nd)) aA (ac ay (tm T) hr (aD (aj 0) (aj 1)))))))))),?_⟩
  refine⟨_,rfl,l7,λp hpp=>?_⟩;generalize e0:upd H p _=H1;have s1:=nv hpp e0;have g1:=iS e0;obtain⟨T0,ty0,ek0⟩:∃ T,Ty K H1 (.ref l) T/\tV T ["list","tuple"]=some true:=⟨"list",.lst (s1 _ _ hl),by decide +kernel⟩
  refine⟨_,T0,p,_,_,true,rfl,ty0,g1,ek0,_,rfl,bA ?_⟩;refine⟨_,rfl,l,ws,rfl,.inl (bH.of (s1 _ _ hl)),_,_,rfl,rfl,false,by rw[hw.1];rfl,bA ?_⟩;refine⟨_,rfl,l,true,rfl,⟨_,bH.of (s1 _ _ hl)⟩,lR (K:=K) (b:=true) (xs:=ws) (λi ys H'=>af H1 H'/\ys.length=i/\∀ v∈ys,v=.bl true) ⟨af.refl _,rfl,λ_ h=>nomatch h⟩ (by rw[hw.1];decide) (λi ys H' hi ⟨s',e,_⟩=>⟨bH.of (s' _ _ (s1 _ _ hl)),by lia⟩) (λi x ys H' hx ⟨s',e,hb⟩ R S kk _=>?_) (λys H' ⟨s',e,hb⟩ D hD=>?_)⟩
  ·have hi:i<3:=by rw[<- hw.1];exact(Mu.mp hx).1
   obtain⟨pp,y,z,e0,ez,z1,z2⟩:=hp i hi;refine aW (B:=S H') ⟨_,rfl,_,rfl,x,_,y,z,most,rfl,(hw.2 i x hx).same (s1.trans s'),e0,ez,z1,z2,λH2 s2=>kk _ _ ⟨s'.trans s2,by rw[ML,e];rfl,λv hv=>?_⟩⟩;rcases M_.mp hv with hv|hv
   ·exact hb v hv
   ·exact Ml.mp hv
  ·rw[hw.1] at e;have ey:=zS e hb;subst ey;exact⟨D,_,rfl,bH.of ae,q _ ((s1.trans s').trans (af.new hD))⟩
theorem mi:ao uA7 uA7 (ah fb):=df
inductive l4 (K:HD)(vs:List V)(H:Hp)(Q:VK)(_:XK):Prop
 |mk (l:Mz) (ws:List V) (P:C3) (most:Int) (_:vs=[.ref l,.int most]) (_:H l=some (.lst ws)) (_:im K H P ws) (_:P.In most) (_:∀ H',af H H'->Q .non H')
theorem gM (T:cZ K mg w):dN P w K mg base cP 4 "refuse_no_curves" uA7 [] (l4 K):=by
  refine T.x2j.cal mi (bb:=λ_ _ _ _ _ H vs Q E hr h=>?_);obtain⟨l,ws,P,most,rfl,hl,hw,hp,q⟩:=h;refine⟨_,(cM.go (ag (a_ (aX (aS (ac ay (xH T) hr (aD (aj 0) (aj 1))))) (ag bE) aH))),?_⟩;exact⟨_,rfl,_,rfl,l,ws,P,most,rfl,hl,hw,hp,λH1 s1=>⟨_,rfl,bA (q _ s1)⟩⟩
theorem l_:ao uA0 uA0 (ah eV):=df
inductive lZ (K:HD)(vs:List V)(H:Hp)(Q:VK)(_:XK):Prop
 |mk (v:V) (e:En) (_:vs=[v]) (_:eR K H e v) (_:Q .non H)
theorem gW (T:cZ K mg w):dN P w K mg base cP 1 "refuse_no_bounds" uA0 [] (lZ K):=by
  refine T.x2k.cal l_ (bb:=λ_ _ _ _ _ H vs Q E hr h=>?_);obtain⟨v,e,rfl,hv,q⟩:=h;refine⟨_,(cM.go (ag (a_ (aX (aS (au (D0 (K:=K) (x:="Ends") rfl T.xc T.xy) (by rfl) T.x2 aK (aD (aj 0) (nW (K:=K) (x:="Ends") rfl rfl (jz T.xc)))))) (ag bE) aH))),?_⟩;obtain⟨a,C,dx,x,y,rfl,hC,ha,_⟩:=hv;refine⟨_,rfl,λD hD=>?_⟩;cases bB hD hC;exact⟨_,_,rfl,hC,.inl ⟨a,dx,_,rfl,ha,_,rfl,bA q⟩⟩
theorem oZ:ao ["curves"] ["curves"] (ah gG):=df
inductive oF (K:HD)(vs:List V)(H:Hp)(Q:VK)(_:XK):Prop
 |mk (l:Mz) (ws:List V) (P:C3) (most:Int) (_:vs=[.ref l]) (_:H l=some (.lst ws)) (_:im K H P ws) (_:P.In most) (_:∀ (D:Mz) (us:List V) (H':Hp),af H H'->H D=none->H' D=some (.lst us)->im K H' P us->(∀ T,bR H T->im K (cut T H') P us)->Q (.ref D) H')
theorem jE (T:cZ K mg w):dN P w K mg base cP 8 "copied_curves" ["curves"] [] (oF K):=by
  refine T.x2l.cal oZ (bb:=λ_ _ _ _ _ H vs Q E hr h=>?_);obtain⟨l,ws,P,most,rfl,hl,hw,hp,q⟩:=h;refine⟨_,(cM.go (ag (ar (aF ["curve"] [] [] 1 (bx (K:=K) rfl (aj 0)) (λnd=>(ai 0 nd)) aA (oh (K:=K) rfl ay (gQ T) (hr.mono (by decide)) rfl (aE (aY (K:=K) (x:="Curve") rfl T.x4 (.head _) (aj 0)))))))),?_⟩;refine⟨_,rfl,l,true,rfl,⟨_,bH.of hl⟩,lR (K:=K) (b:=true) (xs:=ws) (λi us H'=>af H H'/\us.length=i/\(∀ (j:Nat) (v:V),us[j]?=some v->kr K H' (P.at j) v)/\∀ T,bR H T->∀ (j:Nat) (v:V),us[j]?=some v->kr K (cut T H') (P.at j) v) ⟨af.refl _,rfl,λj v e=>by simp at e,λ_ _ j v e=>by simp at e⟩ (by rw[hw.1];decide) (λi us H' hi ⟨s',e,_⟩=>⟨bH.of (s' _ _ hl),by lia⟩) (λi x us H' hx ⟨s',e,hc,hcT⟩ R S kk _=>?_) (λus H' ⟨s',e,hc,hcT⟩=>?_)⟩
  ·have hi:i<3:=by rw[<- hw.1];exact(Mu.mp hx).1
   obtain⟨pp,_⟩:=hp i hi;obtain⟨a,C,dx,l2,rfl,hC,ha,hl2⟩:=(hw.2 i x hx).same s';refine aW (B:=S H') ⟨_,rfl,a,C,dx,_,_,rfl,hC,ha,rfl,λC2 b dy hC2 hb hdy hne=>?_⟩;have s5:af H' (upd (upd H' dy (.own b)) b (.ins C2 dy [])):=(af.new hdy).trans (af.new (by rw[aq hne.symm];exact hb));have gv:upd (upd H' dy (.own b)) b (.ins C2 dy []) b=some (.ins C2 dy []):=ae;generalize upd (upd H' dy (.own b)) b (.ins C2 dy [])=H5 at s5 gv ⊢;refine⟨b,C2,dy,_,P.at i,rfl,hC2,gv,ax.same s5 hl2,pp,λH6 mv6 cv6 cT6=>⟨rfl,kk _ _ ?_⟩⟩;have s6:af H' H6:=λb' o e=>mv6 _ _ (s5 _ _ e) (λz=>by rw[Ml.mp z,hb] at e;cases e)
   refine⟨s'.trans s6,by rw[ML,e];rfl,λj v ej=>?_,λT lT j v ej=>?_⟩
   ·rcases gY ej with ⟨_,ej⟩|⟨rfl,rfl⟩
    ·exact(hc j v ej).same s6
    ·rw[e];exact cv6
   ·rcases gY ej with ⟨_,ej⟩|⟨rfl,rfl⟩
    ·exact(hcT T lT j v ej).same (af.cut s6)
    ·rw[e];exact cT6 T ((lT.same s').same s5)
  ·intro D hD;rw[hw.1] at e;refine q D us _ (s'.trans (af.new hD)) ?_ ae ⟨e,λj v ej=>(hc j v ej).same (af.new hD)⟩ λT lT=>⟨e,λj v ej=>(hcT T lT j v ej).same (af.cut (af.new hD))⟩
   cases z:H D with
   |none=>rfl
   |some o=>rw[s' _ _ z] at hD;cases hD
theorem sJ:ao uD0 uD0 (ah ji):=df
inductive tu (K:HD)(vs:List V)(H:Hp)(Q:VK)(_:XK):Prop
 |mk (v:V) (e:En) (_:vs=[v]) (_:eR K H e v) (_:e.In) (_:∀ (u:V) (H':Hp),af H H'->eR K H' e u->Q u H')
theorem kB (T:cZ K mg w):dN P w K mg base cP 7 "copied_ends" uD0 [] (tu K):=by
  refine T.x2m.cal sJ (bb:=λ_ _ _ _ _ H vs Q E hr h=>?_);obtain⟨v,e,rfl,hv,ie,q⟩:=h;refine⟨_,(cM.go (ag (ar (yc (K:=K) rfl ay (ik T) (hr.mono (by decide)) rfl (jM (aY (K:=K) (x:="Ends") rfl T.xc (.head _) (aj 0)) (jM (aY (K:=K) (x:="Ends") rfl T.xc (.tail _ (.head _)) (aj 0)) n_)))))),?_⟩;obtain⟨a,C,dx,x,y,rfl,hC,ha,hx,hy⟩:=hv;refine⟨_,rfl,a,C,dx,_,_,rfl,hC,ha,rfl,_,rfl,a,C,dx,_,_,rfl,hC,ha,rfl,λC2 b dy hC2 hb hdy hne=>?_⟩;generalize e0:upd (upd H dy _) b _=H5;have s5:=yF hb hdy hne e0;have gv:=iS e0;refine⟨b,C2,dy,x,y,e,rfl,hC2,gv,ax.same s5 hx,ax.same s5 hy,ie,λH6 mv6 en6=>⟨rfl,q _ _ (λb' o e=>mv6 _ _ (s5 _ _ e) (λz=>by rw[Ml.mp z,hb] at e;cases e)) en6⟩⟩
theorem vA:ao uD2 uD2 (ah kP):=df
inductive vC (K:HD)(vs:List V)(H:Hp)(Q:VK)(_:XK):Prop
 |mk (l:Mz) (x:V) (ws:List V) (P:C3) (most:Int) (c:Q3) (_:vs=[.ref l,x]) (_:H l=some (.lst ws)) (_:im K H P ws) (_:P.In most) (_:ax K H c.col x) (_:c.Bd 17) (_:c.Wi ((60:Int):Rat)) (_:∀ (r:Q3) (u:V) (H':Hp),af H H'->pF P c r->ax K H' r.col u->Q u H')
theorem nA (T:cZ K mg w):dN P w K mg base cP 5 "values_at" uD2 [] (vC K):=by
  refine T.x2n.cal vA (bb:=λ_ _ _ _ _ H vs Q E hr h=>?_);obtain⟨l,x,ws,P,most,c,rfl,hl,hw,hp,hx,bd,wi,q⟩:=h;refine⟨_,(cM.go (ag (ar (bV (i9 (K:=K) rfl) (by rfl) T.x5 cJ (aE (aF ["curve","number"] [] [] 2 (iL (K:=K) rfl rfl T.x8 (aD (aj 0) (aj 1))) (λnd=>(cS (K:=K) (n:=2) rfl rfl (aw (ai 0 nd) (aw (ai 1 nd) bu)))) aA (jR (K:=K) rfl ay (oQ T) (hr.mono (by decide)) (aj 0) (aE (aj 1))))))))),?_⟩;obtain⟨ca,xs,rfl,hca,hxs⟩:=aN (b:=false) (ds:=c.ds) hx;have hxl:xs.length=3:=by rw[<- hxs.length];rfl
  refine⟨_,rfl,_,rfl,l,ca,true,false,rfl,⟨_,bH.of hl⟩,⟨_,hca⟩,u4 (K:=K) (b1:=true) (b2:=false) (xs:=ws) (ys:=xs) (λi us H'=>af H H'/\us.length=i/\∀ (j:Nat) (v:V),us[j]?=some v->∃ r:Rat,zj (P.at j) (cq c.a c.b c.c j) r/\ax K H' (rD r) v) ⟨af.refl _,rfl,λj v e=>by simp at e⟩ (by rw[hw.1,hxl]) (by rw[hw.1];decide) (λi us H' ⟨s',e,_⟩=>⟨bH.of (s' _ _ hl),ck.same s' hca,by lia⟩) (λi x y us T H' hx hy ⟨s',e,hc⟩ hT R kk S=>?_) (λus H' ⟨s',e,hc⟩ D hD=>?_)⟩
  ·have hi:i<3:=by rw[<- hw.1];exact(Mu.mp hx).1
   generalize e0:upd H' T _=H2;have sT:=nv hT e0;have gT:=iS e0;obtain⟨pp,yy,z,e0,ez,z1,z2⟩:=hp i hi;obtain⟨yv,ey,hyv⟩:=He hxs hi;rw[hy] at ey;cases ey;have hcv:=(hw.2 i x hx).same (s'.trans sT);obtain⟨a,C,dx,l2,rfl,hC,ha,hl2⟩:=id hcv;refine⟨T,_,rfl,dF.of gT,rfl,_,_,rfl,_,_,rfl,rfl,aW (B:=S H2) ⟨_,rfl,a,C,dx,_,rfl,hC,ha,rfl,_,rfl,.ref a,y,P.at i,_,z,rfl,hcv,ax.same (s'.trans sT) hyv,pp,Ok.mono (GH bd hi) (by decide),ez,(A6 wi hi).1,by rw[z1];exact(A6 wi hi).2,λw r H3 s3 on hw3=>kk _ _ ⟨(s'.trans sT).trans s3,by rw[ML,e];rfl,λj v ej=>?_⟩⟩⟩;rcases gY ej with ⟨_,ej⟩|⟨rfl,rfl⟩
   ·obtain⟨r',o',h'⟩:=hc j v ej;exact⟨r',o',ax.same (sT.trans s3) h'⟩
   ·rw[e];exact⟨r,on,hw3⟩
  ·rw[hw.1] at e;obtain⟨u0,u1,u2,rfl⟩:=Ds e;obtain⟨x0,o0,h0⟩:=hc 0 u0 rfl;obtain⟨x1,o1,h1⟩:=hc 1 u1 rfl;obtain⟨x2,o2,h2⟩:=hc 2 u2 rfl;refine⟨D,_,rfl,.inl ⟨bH.of ae,λy hy=>?_⟩⟩;have sD:=af.new (o:=.lst [u0,u1,u2]) hD;exact q ⟨x0,x1,x2⟩ (.ref y) _ ((s'.trans sD).trans (af.new hy)) ⟨o0,o1,o2⟩ (ax.tupN (ds:=(Q3.mk x0 x1 x2).ds) hy (az.same sD (.cons h0 (.cons h1 (.cons h2 .nil)))))
theorem hO:ao uA8 uA8 (ah bh):=df
inductive hU (K:HD)(vs:List V)(H:Hp)(Q:VK)(_:XK):Prop
 |mk (a C dx l:Mz) (x y:V) (ws:List V) (P:C3) (s:S9) (e:En) (_:vs=[.ref a,.ref l,x,y]) (_:cO K "SquareProfile" C) (_:H a=some (.ins C dx [])) (_:H l=some (.lst ws)) (_:im K H P ws) (_:P.In 1000) (_:ax K H s.d x) (_:s.In) (_:eR K H e y) (_:e.In) (_:∀ H',Mv [a] H H'->(∀ T,bR H T->uc K (cut T H') P s.cp e (.ref a))->Q .non H')
theorem gZ (T:cZ K mg w):pS P w K mg base cP 9 "SquareProfile" "__init__" uA8 uD0 3 1 [] (hU K):=by
  refine T.x3g.cal hO (bb:=λ_ _ _ _ _ H vs Q E hr h=>?_);obtain⟨a,C,dx,l,x,y,ws,P,s,e,rfl,hC,hH,hl,hw,hp,hx,hs,hy,ie,q⟩:=h;refine⟨_,(cM.go (ab (bG (ac ay (gM T) hr (aD (aj 1) (cB rfl T.xs))))
   (ab (bG (ac ay (gW T) hr (aE (aj 3))))
   (ab (bG (ac ay (gO T) hr (aE (aj 2))))
   (ab (dP (K:=K) (x:="SquareProfile") rfl T.x7 (.head _) (aj 0) (ac ay (jE T) hr (aE (aj 1))))
   (ab (dP (K:=K) (x:="SquareProfile") rfl T.x7 (.tail _ (.head _)) (aj 0) (aF ["row"] [] [] 1 (bx (K:=K) rfl (aj 2)) (λnd=>(ai 0 nd)) aA (bV (tW (K:=K) rfl) (by rfl) T.xa gX (aE (aj 0)))))
   (ag (dP (K:=K) (x:="SquareProfile") rfl T.x7 (.tail _ (.tail _ (.head _))) (aj 0) (ac ay (kB T) hr (aE (aj 3))))))))))),?_⟩
  refine⟨_,rfl,l,ws,P,1000,rfl,hl,hw,hp,λH1 s1=>?_⟩;refine⟨_,rfl,y,e,rfl,hy.same s1,?_⟩;refine⟨_,rfl,x,s,rfl,ax.same s1 hx,hs,λH2 s2=>?_⟩;have s12:=s1.trans s2;refine⟨_,rfl,l,ws,P,1000,rfl,s12 _ _ hl,hw.same s12,hp,λD us H3 s3 hD gD c3 cT=>?_⟩;have s13:=s12.trans s3;have ha:=s13 _ _ hH;refine⟨_,rfl,a,C,dx,[],rfl,hC,ha,by decide,?_⟩;generalize hG:upd H3 a (.ins C dx (d_ "curves" (.ref D) []))=G;have ga:G a=some (.ins C dx [("curves",.ref D)]):=by rw[<- hG];exact ae
  have sI:fQ H3 G:=by rw[<- hG];exact fQ.put ha
  have mG:Mv [a] H G:=λb o z nb=>by rw[<- hG,aq (λw=>nb (by simp[w]))];exact s13 _ _ z
  have gD':G D=some (.lst us):=sI _ _ gD λ_ _ _ z=>nomatch z
  have yG:eR K G e y:=by rw[<- hG];exact(hy.same s13).put ha (by decide)
  have cG:∀ T,bR H T->im K (cut T G) P us:=λT lT=>by
   have aT:a∉T:=lT.not hH λ_ z=>nomatch z
   have e:cut T G=upd (cut T H3) a (.ins C dx (d_ "curves" (.ref D) [])):=by rw[<- hG];exact lO aT
   rw[e];exact(cT T (lT.same s12)).put (by rw[eJ aT];exact ha) (by decide)
  have xG:=ax.sameI sI (ax.same s13 hx);have hD0:H D=none:=kZ (T:=[]) (l:=D) (Mv.of s12) hD (by simp);clear hG sI s1 s2 s3 s12 s13 ha hl hw hx hy gD c3 cT;obtain⟨xa,xs,rfl,hxa,hxs⟩:=aN xG;have hxl:xs.length=3:=by rw[<- hxs.length];rfl
  refine⟨_,rfl,xa,s.k,rfl,⟨_,hxa⟩,lR (K:=K) (xs:=xs) (λi zs H'=>af G H'/\zs.length=i/\∀ (j:Nat) (v:V),zs[j]?=some v->∃ l,v=.ref l/\H l=none/\H' l=some (.lst (s.row j).vs)) ⟨af.refl _,rfl,λj v e=>by simp at e⟩ (by rw[hxl];decide) (λi zs H' hi ⟨s',el,_⟩=>⟨ck.same s' hxa,by lia⟩) (λi x zs H' hx ⟨s',el,hz⟩ R S kk _=>?_) (λzs H' ⟨s',el,hz⟩=>?_)⟩
  ·obtain⟨hi,k,hr⟩:=IF (az.same s' hxs) hx;obtain⟨ra,rfl,hra⟩:=jZ hr;refine aW (B:=S H') ⟨_,rfl,ra,_,rfl,o7 hra,λl hl=>kk _ _ ⟨s'.trans (af.new hl),by rw[ML,el];rfl,λj v ej=>?_⟩⟩;rcases gY ej with ⟨_,ej⟩|⟨rfl,rfl⟩
   ·obtain⟨l',h1,h2,h3⟩:=hz j v ej;exact⟨l',h1,h2,af.new hl _ _ h3⟩
   ·rw[el];refine⟨l,rfl,kZ (T:=[a]) (λb o z nb=>s' _ _ (mG _ _ z nb)) hl (λz=>?_),ae⟩;rw[Ml.mp z,s' _ _ ga] at hl;cases hl
  intro D2 hD2;have sZ:=s'.trans (af.new (o:=.lst zs) hD2);have eZ:upd H' D2 (.lst zs) D2=some (.lst zs):=ae;have hD20:H D2=none:=kZ (T:=[a]) (λb o z nb=>s' _ _ (mG _ _ z nb)) hD2 (λz=>by rw[Ml.mp z,s' _ _ ga] at hD2;cases hD2);replace hz:∀ (j:Nat) (v:V),zs[j]?=some v->∃ l,v=.ref l/\H l=none/\upd H' D2 (.lst zs) l=some (.lst (s.row j).vs):=λj v ej=>let ⟨l,h1,h2,h3⟩:=hz j v ej;⟨l,h1,h2,af.new hD2 _ _ h3⟩
  generalize upd H' D2 (.lst zs)=H4 at sZ eZ hz ⊢;rw[hxl] at el;obtain⟨z0,z1,z2,rfl⟩:∃ z0 z1 z2,zs=[z0,z1,z2]:=by
   match zs,el with
   |[z0,z1,z2],_=>exact⟨z0,z1,z2,rfl⟩
  have ga4:=sZ _ _ ga;refine⟨_,rfl,a,C,dx,_,rfl,hC,ga4,(by show 1<1000;decide),?_⟩;generalize hG2:upd H4 a (.ins C dx (d_ "square" (.ref D2) [("curves",.ref D)]))=G2;have ga2:G2 a=some (.ins C dx [("curves",.ref D),("square",.ref D2)]):=by rw[<- hG2];exact ae
  have sI2:fQ H4 G2:=by rw[<- hG2];exact fQ.put ga4
  have mG2:Mv [a] H G2:=λb o z nb=>by rw[<- hG2,aq (λw=>nb (by simp[w]))];exact sZ _ _ (mG _ _ z nb)
  have yG2:eR K G2 e y:=by rw[<- hG2];exact(yG.same sZ).put ga4 (by show([("curves":Str)]:List Str)≠[("white":Str),("black":Str)];decide)
  have cG2:∀ T,bR H T->im K (cut T G2) P us:=λT lT=>by
   have aT:a∉T:=lT.not hH λ_ z=>nomatch z
   have e:cut T G2=upd (cut T H4) a (.ins C dx (d_ "square" (.ref D2) [("curves",.ref D)])):=by rw[<- hG2];exact lO aT
   rw[e];exact((cG T lT).same (af.cut sZ)).put (by rw[eJ aT];exact ga4) (by show([("curves":Str)]:List Str)≠[("points":Str)];decide)
  refine⟨_,rfl,y,e,rfl,yG2,ie,λu H5 s5 en5=>?_⟩;have ga5:=s5 _ _ ga2;refine⟨_,rfl,a,C,dx,_,rfl,hC,ga5,(by show 2<1000;decide),?_⟩;have aT:∀ {T},bR H T->a∉T:=λlT=>lT.not hH λ_ z=>nomatch z
  have m5:Mv [a] H H5:=λb o z nb=>s5 _ _ (mG2 _ _ z nb)
  refine q _ (λb o z nb=>by rw[aq (λw=>nb (by simp[w]))];exact m5 _ _ z nb) λT lT=>?_
  have aT:=aT lT;have lT5:bR H5 T:=λb m=>let ⟨w,e⟩:=lT b m;⟨w,m5 _ _ e (λz=>aT (Ml.mp z▸m))⟩
  rw[lO aT];have hcut:cut T H5 a=some (.ins C dx [("curves",.ref D),("square",.ref D2)]):=by rw[eJ aT];exact ga5
  have at5:∀ {l:Mz}{o:HO},H l=none->H4 l=some o->(∀ C dx fs,o≠.ins C dx fs)->upd (cut T H5) a (.ins C dx (d_ "bounds" u [("curves",.ref D),("square",.ref D2)])) l=some o:=λ{l o} h0 h4 hn=>by
   rw[aq (λz=>by rw[z,hH] at h0;cases h0),eJ (lT.new h0)];exact s5 _ _ (sI2 _ _ h4 hn)
  have rows:∀ (j:Nat) (v:V),[z0,z1,z2][j]?=some v->ax K (upd (cut T H5) a (.ins C dx (d_ "bounds" u [("curves",.ref D),("square",.ref D2)]))) (dk true (s.row j)) v:=λj v ej=>by
   obtain⟨l,rfl,h0,h4⟩:=hz j v ej;exact .lst (.inl (at5 h0 h4 λ_ _ _ z=>nomatch z)) (rn _)
  exact⟨a,C,dx,D,us,.ref D2,u,rfl,hC,ae,at5 hD0 (sZ _ _ gD') (λ_ _ _ z=>nomatch z),((cG2 T lT).same (af.cut s5)).put hcut (by show([("curves":Str),("square":Str)]:List Str)≠[("points":Str)];decide),
   .lst (.inl (at5 hD20 eZ λ_ _ _ z=>nomatch z)) (.cons (rows 0 z0 rfl) (.cons (rows 1 z1 rfl) (.cons (rows 2 z2 rfl) .nil))),(en5.mv Mv.self lT5).put hcut (by show([("curves":Str),("square":Str)]:List Str)≠[("white":Str),("black":Str)];decide)⟩
theorem hJ:ao uB2 uB2 (ah cC):=df
inductive dH (K:HD)(vs:List V)(H:Hp)(Q:VK)(_:XK):Prop
 |mk (v x:V) (P:C3) (s:S9) (e:En) (c:Q3) (_:vs=[v,x]) (_:uc K H P s e v) (_:P.In 1000) (_:s.In) (_:ax K H c.col x) (_:c.Wi ((60:Int):Rat)) (_:c.Bd 17) (_:∀ (r:Q3) (u:V) (H':Hp),af H H'->pF P c r->r.Bd 400->ax K H' (s.m.led r).col u->Q u H')
theorem dI (T:cZ K mg w):ky P w K mg base cP 8 "SquareProfile" "to_worth" uB2 [] (dH K):=by
  refine T.x2o.cal hJ (bb:=λ_ _ _ _ _ H vs Q E hr h=>?_);obtain⟨v,x,P,s,e,c,rfl,hv,hp,hs,hx,wi,bd,q⟩:=h;refine⟨_,(cM.go (ab (bG (ac ay (cL T) hr (aE (aj 1))))
   (ag (ar (ac ay (HR T) hr (aD (aY (K:=K) (x:="SquareProfile") rfl T.x7 (.tail _ (.head _)) (aj 0)) (ac ay (nA T) hr (aD (aY (K:=K) (x:="SquareProfile") rfl T.x7 (.head _) (aj 0)) (aj 1))))))))),?_⟩
  refine⟨_,rfl,x,c,rfl,hx,wi,bd.mono (by decide),λH1 s1=>?_⟩;obtain⟨a,C,dx,cl,us,qv,en,rfl,hC,ha,hcl,h3,hq,he⟩:=hv.same s1;refine⟨_,rfl,a,C,dx,_,_,rfl,hC,ha,rfl,_,rfl,a,C,dx,_,_,rfl,hC,ha,rfl,_,rfl,cl,x,us,P,1000,c,rfl,hcl,h3,hp,ax.same s1 hx,bd,wi,λr u H2 s2 on hu=>?_⟩;have rb:=D_ hp on bd;exact⟨qv,u,s,r,rfl,ax.same s2 hq,hs,hu,rb.mono (by decide),λv H3 s3 hv3=>q r v H3 ((s1.trans s2).trans s3) on rb hv3⟩
theorem eD:ao ["self","parts"] uA5 (ah c7):=df
inductive eC (K:HD)(vs:List V)(H:Hp)(Q:VK)(_:XK):Prop
 |mk (v:V) (P:C3) (s:S9) (e:En) (_:vs=[v]) (_:uc K H P s e v) (_:P.In 1000) (_:s.In) (_:∀ (q:Q3) (u:V) (H':Hp),af H H'->Am (.inl s) P q->q.Bd 25->ax K H' (.list q.ds) u->Q u H')
theorem eF (T:cZ K mg w):ky P w K mg base cP 5 "SquareProfile" "slopes" uA5 [] (eC K):=by
  refine T.x2p.cal eD (bb:=λ_ _ _ _ _ H vs Q E hr h=>?_);obtain⟨v,P,s,e,rfl,hv,hp,hs,q⟩:=h;refine⟨_,(cM.go (ab (cn 1 ["way"] uA5 [0] 1 eD.nd (bg rfl T.x1 (aE aa)) (λnd=>(ai 0 nd)) aA (ac ay (dC T T.xb) hr (aD (au (wu (K:=K) rfl rfl) (by rfl) T.xd oC (aE (aF ["row"] ["way"] [0] 1 (bx (K:=K) rfl (aY (K:=K) (x:="SquareProfile") rfl T.x7 (.tail _ (.head _)) (aj 1))) (λnd=>(ai 0 nd)) aA (au nZ (by rfl) T.xf vN (aE (am K (aj 0) (aj 1))))))) (cB rfl T.xj))))
   (ag (ar (aF ["part","curve"] [] [] 2 (iL (K:=K) rfl rfl T.x8 (aD (aj 1) (aY (K:=K) (x:="SquareProfile") rfl T.x7 (.head _) (aj 0)))) (λnd=>(cS (K:=K) (n:=2) rfl rfl (aw (ai 0 nd) (aw (ai 1 nd) bu)))) aA (ac ay (jv T) hr (aD (aj 0) (cX (K:=K) rfl ay (eM T) (hr.mono (by decide)) (aj 1))))))))),?_⟩
  obtain⟨a,C,dx,cl,us,qv,en,rfl,hC,ha,hcl,h3,hq,he⟩:=hv;obtain⟨qa,xs,rfl,hqa,hxs⟩:=aN hq;refine⟨3,rfl,by decide,by decide,qd (lo:=0) (n:=3) (λi zs H'=>af H H'/\zs.length=i/\∀ (j:Nat) (v:V),zs[j]?=some v->∃ L:Rat,fu (.inl s) j L/\ax K H' (rD L) v) ⟨af.refl _,rfl,λj v e=>by simp at e⟩ (by decide) (λi zs H' _ ⟨_,e,_⟩=>by lia) (λi zs H' hi ⟨s',e,hz⟩ R S kk _=>?_) (λzs H' ⟨s',e,hz⟩=>?_)⟩
  ·refine aW (B:=S H') ?_;refine⟨_,rfl,a,C,dx,_,_,rfl,hC,s' _ _ ha,rfl,qa,s.k,rfl,⟨_,ck.same s' hqa⟩,bX (es:=(jU s i).map NR) (ck.same s' hqa) (az.same s' hxs) rfl (by show 3<=1000;decide) (λj d e x H2 hd he s2 hx R2 kk2 S2=>?_) (λys H2 s2 hys D hD=>?_)⟩
   ·obtain⟨hj,k,r,er,hr⟩:j<3/\∃ k r,(jU s i)[j]?=some (qk (r.nth i))/\ax K H2 (dk k r) x:=by
     rcases pJ hd with ⟨rfl,rfl⟩|⟨rfl,rfl⟩|⟨rfl,rfl⟩
     ·exact⟨by decide,_,s.x,rfl,hx⟩
     ·exact⟨by decide,_,s.y,rfl,hx⟩
     ·exact⟨by decide,_,s.z,rfl,hx⟩
    rw[Mw,er] at he;cases he;obtain⟨ra,rfl,hra⟩:=jZ hr;exact aW (B:=S2 H2) ⟨_,rfl,_,rfl,pN (i:=0+i) hra (by rw[MX];exact EU hi) ⟨_,rfl,kk2 _ _ ⟨af.refl _,.int _⟩⟩⟩
   ·have ey:=qY hys;subst ey;have s3:=s2.trans (af.new (o:=.lst ((jU s i).map V.int)) hD);refine⟨D,jU s i,rfl,bH.of ae,by simp[jU],λm hm hle=>?_⟩;have mx:jm (jU s i) m:=⟨(vt hs m hm).1,hle,.inr hm⟩
    refine⟨m,1000,rfl,by decide,Sm.mono (k:=20) (by unfold Sm;decide) (by decide),j0.sh (by decide) λv H4 s4 hv=>kk _ _ ⟨(s'.trans s3).trans s4,by rw[ML,e];rfl,λj w ej=>?_⟩⟩;rcases gY ej with ⟨_,ej⟩|⟨rfl,rfl⟩
    ·obtain⟨L,h1,h2⟩:=hz j w ej;exact⟨L,h1,ax.same (s3.trans s4) h2⟩
    ·rw[e];exact⟨_,⟨m,mx,rfl⟩,hv⟩
  ·intro D hD;have sD:=s'.trans (af.new (o:=.lst zs) hD);have gD:upd H' D (.lst zs) D=some (.lst zs):=ae;replace hz:∀ (j:Nat) (v:V),zs[j]?=some v->∃ L:Rat,fu (.inl s) j L/\ax K (upd H' D (.lst zs)) (rD L) v:=λj v ej=>let ⟨L,h1,h2⟩:=hz j v ej;⟨L,h1,ax.same (af.new hD) h2⟩
   generalize upd H' D (.lst zs)=H1 at sD gD hz ⊢;refine⟨_,rfl,_,rfl,a,C,dx,_,_,rfl,hC,sD _ _ ha,rfl,D,cl,true,true,rfl,⟨_,bH.of gD⟩,⟨_,bH.of (sD _ _ hcl)⟩,u4 (K:=K) (b1:=true) (b2:=true) (xs:=zs) (ys:=us) (λi ys H'=>af H1 H'/\ys.length=i/\∀ (j:Nat) (v:V),ys[j]?=some v->∃ r:Rat,Jh (.inl s) P j r/\Bq 25 r/\ax K H' (rD r) v) ⟨af.refl _,rfl,λj v e=>by simp at e⟩ (by rw[e,h3.1]) (by rw[e];decide) (λi ys H' ⟨s',e,_⟩=>⟨bH.of (s' _ _ gD),bH.of (s' _ _ (sD _ _ hcl)),by lia⟩) (λi x y ys T H' hx hy ⟨s',e,hc⟩ hT R kk S=>?_) (λys H' ⟨s',e',hc⟩ E hE=>?_)⟩
   ·have hi:i<3:=by rw[<- h3.1];exact(Mu.mp hy).1
    generalize e0:upd H' T _=H2;have sT:=nv hT e0;have gT:=iS e0;have s12:=s'.trans sT;obtain⟨L,hL,hx2⟩:=hz i x hx;have hcv:=(h3.2 i y hy).same (sD.trans s12);obtain⟨c,D',dy,l2,rfl,hD',hc',hl2⟩:=id hcv;have pp:=(hp i hi).1;refine⟨T,_,rfl,dF.of gT,rfl,_,_,rfl,_,_,rfl,rfl,aW (B:=S H2) ⟨_,rfl,_,rfl,c,D',dy,_,rfl,hD',hc',rfl,.ref c,P.at i,rfl,hcv,pp,λw st H3 s3 hst hw=>?_⟩⟩;have bL:=lK (b:=.inl s) hs hL;have bS:=tR pp hst;refine⟨_,_,_,_,_,_,rfl,ax.same (s12.trans s3) hx2,hw,bL.mono (by decide),bS.mono (by decide),j0.mul λv4 H4 s4 hv4=>kk _ _ ⟨(s12.trans s3).trans s4,by rw[ML,e];rfl,λj v ej=>?_⟩⟩;rcases gY ej with ⟨_,ej⟩|⟨rfl,rfl⟩
    ·obtain⟨r',o',b',h'⟩:=hc j v ej;exact⟨r',o',b',ax.same ((sT.trans s3).trans s4) h'⟩
    ·rw[e];exact⟨_,⟨L,st,hL,hst,rfl⟩,Bq.mul bL bS,hv4⟩
   ·rw[e] at e';obtain⟨u0,u1,u2,rfl⟩:=Ds e';obtain⟨x0,o0,b0,g0⟩:=hc 0 u0 rfl;obtain⟨x1,o1,b1,g1⟩:=hc 1 u1 rfl;obtain⟨x2,o2,b2,g2⟩:=hc 2 u2 rfl;have sE:=af.new (o:=.lst [u0,u1,u2]) hE;refine q ⟨x0,x1,x2⟩ (.ref E) _ ((sD.trans s').trans sE) (λk hk=>?_) ⟨b0,b1,b2⟩ (.lst (.inl ae) (az.same sE (.cons g0 (.cons g1 (.cons g2 .nil)))))
    match k,hk with
    |0,_=>exact o0
    |1,_=>exact o1
    |2,_=>exact o2
theorem iT:ao uB0 uB0 (ah bt):=df
inductive iV (K:HD)(vs:List V)(H:Hp)(Q:VK)(_:XK):Prop
 |mk (a C dx l:Mz) (x y:V) (ws:List V) (P:C3) (f:Kn->R3) (e:En) (_:vs=[.ref a,.ref l,x,y]) (_:cO K "GridProfile" C) (_:H a=some (.ins C dx [])) (_:H l=some (.lst ws)) (_:im K H P ws) (_:P.In 60) (_:j9 K H 2 f x) (_:Aw 2 f) (_:eR K H e y) (_:e.In) (_:∀ H',Mv [a] H H'->(∀ T,bR H T->ui K (cut T H') P f e (.ref a))->Q .non H')
theorem iU (T:cZ K mg w):pS P w K mg base cP 9 "GridProfile" "__init__" uB0 uD0 3 1 [] (iV K):=by
  refine T.x3h.cal iT (bb:=λ_ _ _ _ _ H vs Q E hr h=>?_);obtain⟨a,C,dx,l,x,y,ws,P,f,e,rfl,hC,hH,hl,hw,hp,hx,wt,hy,ie,q⟩:=h;refine⟨_,(cM.go (ab (bG (ac ay (gM T) hr (aD (aj 1) (cB rfl T.xe))))
   (ab (bG (ac ay (gW T) hr (aE (aj 3))))
   (ab (a_ (aX (aS (au (D0 (K:=K) (x:="Grid") rfl T.x0 T.xz) (by rfl) T.x2 aK (aD (aj 2) (nW (K:=K) (x:="Grid") rfl rfl (jz T.x0)))))) (ag bE) aH)
   (ab (dP (K:=K) (x:="GridProfile") rfl T.x6 (.head _) (aj 0) (ac ay (jE T) hr (aE (aj 1))))
   (ab (dP (K:=K) (x:="GridProfile") rfl T.x6 (.tail _ (.head _)) (aj 0) (oh (K:=K) rfl ay (ff T) (hr.mono (by decide)) rfl (aD (aY (K:=K) (x:="Grid") rfl T.x0 (.head _) (aj 2)) (aY (K:=K) (x:="Grid") rfl T.x0 (.tail _ (.head _)) (aj 2)))))
   (ag (dP (K:=K) (x:="GridProfile") rfl T.x6 (.tail _ (.tail _ (.head _))) (aj 0) (ac ay (kB T) hr (aE (aj 3))))))))))),?_⟩
  refine⟨_,rfl,l,ws,P,60,rfl,hl,hw,hp,λH1 s1=>?_⟩;refine⟨_,rfl,y,e,rfl,hy.same s1,?_⟩;obtain⟨g,Cg,dy,Lt,rfl,hCg,hg,gLt⟩:=hx.same s1;refine⟨_,rfl,λD hD=>?_⟩;cases bB hD hCg;refine⟨_,_,rfl,hCg,.inl ⟨g,dy,_,rfl,hg,_,rfl,bA ?_⟩⟩;refine⟨_,rfl,l,ws,P,60,rfl,s1 _ _ hl,hw.same s1,hp,λD us H3 s3 hD gD c3 cT=>?_⟩;have s13:=s1.trans s3;have ha:=s13 _ _ hH;refine⟨_,rfl,a,C,dx,[],rfl,hC,ha,by decide,?_⟩;generalize hG:upd H3 a (.ins C dx (d_ "curves" (.ref D) []))=G;have ga:G a=some (.ins C dx [("curves",.ref D)]):=by rw[<- hG];exact ae
  have sI:fQ H3 G:=by rw[<- hG];exact fQ.put ha
  have mG:Mv [a] H G:=λb o z nb=>by rw[<- hG,aq (λw=>nb (by simp[w]))];exact s13 _ _ z
  have gD':G D=some (.lst us):=sI _ _ gD λ_ _ _ z=>nomatch z
  have yG:eR K G e y:=by rw[<- hG];exact(hy.same s13).put ha (by decide)
  have cG:∀ T,bR H T->im K (cut T G) P us:=λT lT=>by
   have aT:a∉T:=lT.not hH λ_ z=>nomatch z
   have e:cut T G=upd (cut T H3) a (.ins C dx (d_ "curves" (.ref D) [])):=by rw[<- hG];exact lO aT
   rw[e];exact(cT T (lT.same s1)).put (by rw[eJ aT];exact ha) (by decide)
  have xG:j9 K G 2 f (.ref g):=by rw[<- hG];exact(hx.same s13).put ha (by decide)
  have hD0:H D=none:=kZ (T:=[]) (l:=D) (Mv.of s1) hD (by simp);clear hG s1 s3 s13 ha hl hw hx hy gD c3 cT hg gLt hCg sI;obtain⟨_,Cg,dy,Lt,eg,hCg,hg,gLt⟩:=id xG;cases eg;refine⟨_,rfl,g,Cg,dy,_,_,rfl,hCg,hg,rfl,_,rfl,g,Cg,dy,_,_,rfl,hCg,hg,rfl,λC3 b dz hC3 hb hdz hne=>?_⟩;generalize e0:upd (upd G dz _) b _=H5;have s5:=yF hb hdz hne e0;have gv:=iS e0;refine⟨b,C3,dz,Lt,2,f,rfl,hC3,gv,gLt.same s5,wt,by decide,by decide,λH4 L4 mv4 hb4 gL4 hL4=>⟨rfl,?_⟩⟩;have sZ:af G H4:=λb' o e=>mv4 _ _ (s5 _ _ e) (λz=>by rw[Ml.mp z,hb] at e;cases e)
  have gr4:j9 K H4 2 f (.ref b):=⟨b,C3,dz,L4,rfl,hC3,hb4,gL4⟩
  clear s5 gv mv4 hb4 gL4 hL4 hg gLt xG;have ga4:=sZ _ _ ga;refine⟨_,rfl,a,C,dx,_,rfl,hC,ga4,(by show 1<1000;decide),?_⟩;generalize hG2:upd H4 a (.ins C dx (d_ "grid" (.ref b) [("curves",.ref D)]))=G2;have ga2:G2 a=some (.ins C dx [("curves",.ref D),("grid",.ref b)]):=by rw[<- hG2];exact ae
  have sI2:fQ H4 G2:=by rw[<- hG2];exact fQ.put ga4
  have mG2:Mv [a] H G2:=λb o z nb=>by rw[<- hG2,aq (λw=>nb (by simp[w]))];exact sZ _ _ (mG _ _ z nb)
  have yG2:eR K G2 e y:=by rw[<- hG2];exact(yG.same sZ).put ga4 (by show([("curves":Str)]:List Str)≠[("white":Str),("black":Str)];decide)
  have gr2:j9 K G2 2 f (.ref b):=by rw[<- hG2];exact gr4.put ga4 (by show([("curves":Str)]:List Str)≠[("knots":Str),("table":Str)];decide)
  have cG2:∀ T,bR H T->im K (cut T G2) P us:=λT lT=>by
   have aT:a∉T:=lT.not hH λ_ z=>nomatch z
   have e:cut T G2=upd (cut T H4) a (.ins C dx (d_ "grid" (.ref b) [("curves",.ref D)])):=by rw[<- hG2];exact lO aT
   rw[e];exact((cG T lT).same (af.cut sZ)).put (by rw[eJ aT];exact ga4) (by show([("curves":Str)]:List Str)≠[("points":Str)];decide)
  refine⟨_,rfl,y,e,rfl,yG2,ie,λu H5 s5 en5=>?_⟩;have ga5:=s5 _ _ ga2;refine⟨_,rfl,a,C,dx,_,rfl,hC,ga5,(by show 2<1000;decide),?_⟩;have aT:∀ {T},bR H T->a∉T:=λlT=>lT.not hH λ_ z=>nomatch z
  have m5:Mv [a] H H5:=λb o z nb=>s5 _ _ (mG2 _ _ z nb)
  refine q _ (λb o z nb=>by rw[aq (λw=>nb (by simp[w]))];exact m5 _ _ z nb) λT lT=>?_
  have aT:=aT lT;have lT5:bR H5 T:=λb m=>let ⟨w,e⟩:=lT b m;⟨w,m5 _ _ e (λz=>aT (Ml.mp z▸m))⟩
  rw[lO aT];have hcut:cut T H5 a=some (.ins C dx [("curves",.ref D),("grid",.ref b)]):=by rw[eJ aT];exact ga5
  refine⟨a,C,dx,D,us,.ref b,u,rfl,hC,ae,?_,((cG2 T lT).same (af.cut s5)).put hcut (by show([("curves":Str),("grid":Str)]:List Str)≠[("points":Str)];decide),((gr2.same s5).mv Mv.self lT5).put hcut (by show([("curves":Str),("grid":Str)]:List Str)≠[("knots":Str),("table":Str)];decide),(en5.mv Mv.self lT5).put hcut (by show([("curves":Str),("grid":Str)]:List Str)≠[("white":Str),("black":Str)];decide)⟩;rw[aq (λz=>by rw[z,hH] at hD0;cases hD0),eJ (lT.new hD0)];exact s5 _ _ (sI2 _ _ (sZ _ _ gD') λ_ _ _ z=>nomatch z)
theorem iR:ao uB2 uB2 (ah c9):=df
inductive eE (K:HD)(vs:List V)(H:Hp)(Q:VK)(_:XK):Prop
 |mk (v x:V) (P:C3) (f:Kn->R3) (e:En) (c:Q3) (_:vs=[v,x]) (_:ui K H P f e v) (_:P.In 60) (_:Aw 2 f) (_:ax K H c.col x) (_:c.Wi ((60:Int):Rat)) (_:c.Bd 17) (_:Cw K "parts_by_four" H) (_:∀ (r:Q3) (u:V) (H':Hp),af H H'->pF P c r->r.Wi ((60:Int):Rat)->r.Bd 400->ax K H' (W4 2 f r).col u->(W4 2 f r).Bd 3900->Q u H')
theorem eG (T:cZ K mg w):ky P w K mg base cP 8 "GridProfile" "to_worth" uB2 [] (eE K):=by
  refine T.x2q.cal iR (bb:=λ_ _ _ _ _ H vs Q E hr h=>?_);obtain⟨v,x,P,f,e,c,rfl,hv,hp,wt,hx,wi,bd,tb,q⟩:=h;refine⟨_,(cM.go (ab (bG (ac ay (cL T) hr (aE (aj 1))))
   (ag (ar (Dd (K:=K) rfl ay (qD T) (hr.mono (by decide)) (aY (K:=K) (x:="GridProfile") rfl T.x6 (.tail _ (.head _)) (aj 0)) (aE (ac ay (nA T) hr (aD (aY (K:=K) (x:="GridProfile") rfl T.x6 (.head _) (aj 0)) (aj 1)))) n_))))),?_⟩
  refine⟨_,rfl,x,c,rfl,hx,wi,bd.mono (by decide),λH1 s1=>?_⟩;obtain⟨a,C,dx,cl,us,gv,en,rfl,hC,ha,hcl,h3,hq,he⟩:=hv.same s1;obtain⟨g,C2,dy,L,rfl,hC2,hg,gL⟩:=id hq;refine⟨_,rfl,a,C,dx,_,_,rfl,hC,ha,rfl,g,C2,dy,_,rfl,hC2,hg,rfl,_,rfl,a,C,dx,_,_,rfl,hC,ha,rfl,_,rfl,cl,x,us,P,60,c,rfl,hcl,h3,hp,ax.same s1 hx,bd,wi,λr u H2 s2 on hu=>?_⟩;have rb:=D_ (cap:=60) hp on bd;have rw:=AU hp on wi;exact⟨.ref g,u,"four",2,f,r,60,rfl,hq.same s2,wt,by decide,by decide,hu,rw,EV hp on bd,by decide,(tb.same s1).same s2,.inl rfl,λr4 v H3 s3 e4 _ b4 hv3=>by
   rw[e4 rfl] at hv3 b4;exact q r v H3 ((s1.trans s2).trans s3) on rw rb hv3 (b4.mono (by decide))⟩
theorem fm:ao ["self","part"] uA5 (ah dA):=df
inductive fk (K:HD)(vs:List V)(H:Hp)(Q:VK)(_:XK):Prop
 |mk (v:V) (P:C3) (f:Kn->R3) (e:En) (_:vs=[v]) (_:ui K H P f e v) (_:P.In 60) (_:Aw 2 f) (_:∀ (q:Q3) (u:V) (H':Hp),af H H'->Am (.inr f) P q->q.Bd 25->ax K H' (.list q.ds) u->Q u H')
theorem fq (T:cZ K mg w):ky P w K mg base cP 5 "GridProfile" "slopes" uA5 [] (fk K):=by
  refine T.x2r.cal fm (bb:=λ_ _ _ _ _ H vs Q E hr h=>?_);obtain⟨v,P,f,e,rfl,hv,hp,wt,q⟩:=h;refine⟨_,(cM.go (ab (av 1 fm.nd (ac ay (dC T T.xb) hr (aD (cX (K:=K) rfl ay (jB T) (hr.mono (by decide)) (aY (K:=K) (x:="GridProfile") rfl T.x6 (.tail _ (.head _)) (aj 0))) (am K (cX (K:=K) rfl ay (kI T) (hr.mono (by decide)) (aY (K:=K) (x:="GridProfile") rfl T.x6 (.tail _ (.head _)) (aj 0))) aa))))
   (ag (ar (aF ["curve"] ["part"] [1] 1 (bx (K:=K) rfl (aY (K:=K) (x:="GridProfile") rfl T.x6 (.head _) (aj 0))) (λnd=>(ai 0 nd)) aA (ac ay (jv T) hr (aD (aj 1) (cX (K:=K) rfl ay (eM T) (hr.mono (by decide)) (aj 0))))))))),?_⟩
  obtain⟨a,C,dx,cl,us,gv,en,rfl,hC,ha,hcl,h3,hq,he⟩:=hv;obtain⟨g,C2,dy,L,rfl,hC2,hg,gL⟩:=id hq;refine⟨_,rfl,a,C,dx,_,_,rfl,hC,ha,rfl,g,C2,dy,_,rfl,hC2,hg,rfl,.ref g,2,f,rfl,hq,wt,by decide,by decide,λm H1 s1 mx=>?_⟩;refine⟨_,rfl,a,C,dx,_,_,rfl,hC,s1 _ _ ha,rfl,g,C2,dy,_,rfl,hC2,s1 _ _ hg,rfl,.ref g,2,f,rfl,hq.same s1,by decide,by decide,λw H2 s2 hw=>?_⟩;obtain⟨wa,ws,rfl,hwa,hws⟩:=aN (b:=false) (ds:=[.int 2,.int (t4 2)]) hw;obtain⟨w0,w1,rfl,hw0,hw1⟩:=Be hws;cases hw1;refine pN (b:=false) (i:=1) hwa rfl ⟨m,60,rfl,by decide,Sm.mono (k:=20) (by unfold Sm;decide) (by decide),j0.sh (by decide) λpt H3 s3 hpt=>?_⟩;have s13:=(s1.trans s2).trans s3;have hL:fu (.inr f) 0 ((m:Rat)/((60:Int):Rat)):=⟨m,mx,rfl⟩
  generalize (m:Rat)/((60:Int):Rat)=L at hL hpt;have hL':∀ k,fu (.inr f) k L:=λk=>hL
  have bL:=lK (b:=.inr f) wt hL;refine⟨_,rfl,a,C,dx,_,_,rfl,hC,s13 _ _ ha,rfl,cl,true,rfl,⟨_,bH.of (s13 _ _ hcl)⟩,lR (K:=K) (xs:=us) (λi ys H'=>af H3 H'/\ys.length=i/\∀ (j:Nat) (v:V),ys[j]?=some v->∃ r:Rat,Jh (.inr f) P j r/\Bq 25 r/\ax K H' (rD r) v) ⟨af.refl _,rfl,λj v e=>by simp at e⟩ (by rw[h3.1];decide) (λi ys H' hi ⟨s',e,_⟩=>⟨bH.of (s' _ _ (s13 _ _ hcl)),by lia⟩) (λi y ys H' hy ⟨s',e,hc⟩ R S kk _=>?_) (λys H' ⟨s',e,hc⟩ E hE=>?_)⟩
  ·have hi:i<3:=by rw[<- h3.1];exact(Mu.mp hy).1
   have hcv:=(h3.2 i y hy).same (s13.trans s');obtain⟨c,D',dz,l2,rfl,hD',hc',hl2⟩:=id hcv;have pp:=(hp i hi).1;refine aW (B:=S H') ⟨_,rfl,_,rfl,c,D',dz,_,rfl,hD',hc',rfl,.ref c,P.at i,rfl,hcv,pp,λw st H4 s4 hst hw=>?_⟩;have bS:=tR pp hst;refine⟨_,_,_,_,_,_,rfl,ax.same (s'.trans s4) hpt,hw,bL.mono (by decide),bS.mono (by decide),j0.mul λv4 H5 s5 hv4=>kk _ _ ⟨(s'.trans s4).trans s5,by rw[ML,e];rfl,λj v ej=>?_⟩⟩;rcases gY ej with ⟨_,ej⟩|⟨rfl,rfl⟩
   ·obtain⟨r',o',b',h'⟩:=hc j v ej;exact⟨r',o',b',ax.same (s4.trans s5) h'⟩
   ·rw[e];exact⟨_,⟨L,st,hL' i,hst,rfl⟩,Bq.mul bL bS,hv4⟩
  ·rw[h3.1] at e;obtain⟨u0,u1,u2,rfl⟩:=Ds e;obtain⟨x0,o0,b0,g0⟩:=hc 0 u0 rfl;obtain⟨x1,o1,b1,g1⟩:=hc 1 u1 rfl;obtain⟨x2,o2,b2,g2⟩:=hc 2 u2 rfl;have sE:=af.new (o:=.lst [u0,u1,u2]) hE;refine q ⟨x0,x1,x2⟩ (.ref E) _ ((s13.trans s').trans sE) (λk hk=>?_) ⟨b0,b1,b2⟩ (.lst (.inl ae) (az.same sE (.cons g0 (.cons g1 (.cons g2 .nil)))))
   match k,hk with
   |0,_=>exact o0
   |1,_=>exact o1
   |2,_=>exact o2
theorem k9:ao uA0 uA0 (ah eK):=df
inductive ll (K:HD)(vs:List V)(H:Hp)(Q:VK)(_:XK):Prop
 |mk (v:V) (_:vs=[v]) (_:Gq K H v) (_:∀ H',af H H'->Q .non H')
theorem lH (T:cZ K mg w):dN P w K mg base cP 1 "refuse_no_profile" uA0 [] (ll K):=by
  refine T.x2s.cal k9 (bb:=λ_ _ _ _ _ H vs Q E hr h=>?_);obtain⟨v,rfl,⟨a,E,dx,fs,rfl,ha,hE⟩,q⟩:=h;refine⟨_,(cM.go (ag (a_ (aX (aS (au (Ip (K:=K) (x:="SquareProfile") (y:="GridProfile") rfl T.x7 T.x11 T.x6 T.x10 T.x14) (by rfl) T.x2 aK (aD (aj 0) (be (aD (nW (K:=K) (x:="SquareProfile") rfl rfl (jz T.x7)) (nW (K:=K) (x:="GridProfile") rfl rfl (jz T.x6)))))))) (ag bE) aH))),?_⟩;refine⟨_,rfl,λC hC D hD=>⟨l7,λp hp=>?_⟩⟩;have s1:=af.new (o:=.tup [.ref C,.ref D]) hp;refine⟨_,C,D,p,rfl,hC,hD,ae,.inl ⟨a,dx,fs,rfl,?_,_,rfl,bA (q _ s1)⟩⟩;rcases hE with z|z
  ·cases bB hC z;exact .inl (s1 _ _ ha)
  ·cases bB hD z;exact .inr (s1 _ _ ha)
theorem wM:ao ["profile"] ["profile"] (ah kS):=df
theorem Ak.slopes {K:HD}{H:Hp}{P:C3}{b:S9 ⊕ (Kn->R3)}{e:En}{v:V}{k:Nat}{σ:L2.St}{Q:VK} (h:Ak K H P b e v) (h0:σ[k]?=some (some v)) (q:∀ (q:Q3) (u:V) (H':Hp),af H H'->Am b P q->q.Bd 25->ax K H' (.list q.ds) u->Q u H') :
  uX K "SquareProfile" "slopes" (eC K) [] E0 (r0 k) uC σ H Q\/uX K "GridProfile" "slopes" (fk K) [] E0 (r0 k) uC σ H Q:=by
 cases b with
 |inl s=>
  obtain⟨a,C,dx,l,vs,q1,en,rfl,hC,ha,r1⟩:=id h.1;exact .inl ⟨_,h0,a,C,dx,_,rfl,hC,ha,rfl,.ref a,P,s.cp,e,rfl,h.1,h.2.2,h.2.1.cp,q⟩
 |inr f=>
  obtain⟨a,C,dx,l,vs,q1,en,rfl,hC,ha,r1⟩:=id h.1;exact .inr ⟨_,h0,a,C,dx,_,rfl,hC,ha,rfl,.ref a,P,f,e,rfl,h.1,h.2.2,h.2.1,q⟩
inductive wK (K:HD)(vs:List V)(H:Hp)(Q:VK)(_:XK):Prop
 |mk (v:V) (P:C3) (b:S9 ⊕ (Kn->R3)) (e:En) (_:vs=[v]) (_:Ak K H P b e v) (_:∀ (q:Q3) (u:V) (H':Hp),af H H'->Am b P q->q.Bd 25->ax K H' (rD (q.a+q.b+q.c)) u->Q u H')
theorem og (T:cZ K mg w):dN P w K mg base cP 6 "slope_sum" ["profile"] [] (wK K):=by
  refine T.x2t.cal wM (bb:=λ_ _ _ _ _ H vs Q E hr h=>?_);obtain⟨v,P,b,e,rfl,hv,q⟩:=h;refine⟨_,(cM.go (ab (bG (ac ay (lH T) hr (aE (aj 0))))
   (ag (ar (ac ay (uK T) hr (aE (jN (cX (K:=K) rfl ay (eF T) (hr.mono (by decide)) (aj 0)) (cX (K:=K) rfl ay (fq T) (hr.mono (by decide)) (aj 0))))))))),?_⟩
  refine⟨_,rfl,v,rfl,hv.pr,λH1 s1=>?_⟩;refine(hv.same s1).slopes rfl λsl u H2 s2 hs bs hu=>?_
  refine⟨u,true,25,[sl.a,sl.b,sl.c],rfl,hu,λr hr=>?_,by decide,by show 3*(25+1)+1<=3900;decide,λw H3 s3 hw=>?_⟩
  ·simp only[Mx,MM,Od] at hr;rcases hr with rfl|rfl|rfl
   ·exact bs.a
   ·exact bs.b
   ·exact bs.c
  ·refine q sl w H3 ((s1.trans s2).trans s3) hs bs ?_;have e:ye [sl.a,sl.b,sl.c]=sl.a+sl.b+sl.c:=by simp only[ye,Tw,List.foldl_nil];grind
   rw[<- e];exact hw
theorem wH:ao uB3 uB3 (ah kL):=df
inductive w6 (K:HD)(vs:List V)(H:Hp)(Q:VK)(_:XK):Prop
 |mk (a:Mz) (ns:List Int) (_:vs=[.ref a]) (_:bH K H a (ns.map V.int)) (_:ns.length<=63) (_:∀ t r H',af H H'->H t=none->H r=none->bQ H' t r->Q (.ref t) H')
theorem wU (T:cZ K mg w):dN P w K mg base cP 1 "_law_town" uB3 [] (w6 K):=by
  refine T.x2u.cal wH (bb:=λ_ _ _ _ _ H vs Q E hr h=>?_);obtain⟨a,ns,rfl,hS,hl,q⟩:=h;refine⟨_,(cM.go (ag (ar (b9 (aD (ib (aR (Gv (K:=K) rfl hr.units) (aj 0) (b9 aZ) (aV _)) (bV (tW (K:=K) rfl) (by rfl) T.xa gX (aE (aj 0))) (b9 (aE aa))) aa))))),?_⟩;refine⟨_,rfl,by decide,λp hp=>⟨a,p,ns,rfl,rfl,(af.new hp).seq hS,ae,_,rfl,?_⟩⟩;have s1:af H (upd H p (.lst [])):=af.new hp
  by_cases hn:ns=[]
  ·rw[Ms hn];refine bA ⟨by decide,λr hr=>⟨l7,λt ht=>?_⟩⟩;have s2:=s1.trans (af.new (o:=.lst [.int 0]) hr);exact q t r _ (s2.trans (af.new ht)) (s2.free ht) (s1.free hr) ⟨[0],0,ae,by rw[aq (aL ae ht)];exact ae,by decide,by decide⟩
  ·rw[Na hn];refine aW ⟨_,rfl,a,ns.map V.int,rfl,.inl (s1.seq hS),λr hr=>⟨l7,λt ht=>?_⟩⟩;have s2:=s1.trans (af.new (o:=.lst (ns.map V.int)) hr);exact q t r _ (s2.trans (af.new ht)) (s2.free ht) (s1.free hr) ⟨ns,0,ae,by rw[aq (aL ae ht)];exact ae,hn,hl⟩
theorem eh:ao ["_law_town_here","_law_many","_law_row","_law_at","_law_cell","_law_mixed"] uC5 (ah kR):=df
inductive wA (_:HD)(vs:List V)(H:Hp)(Q:VK)(_:XK):Prop
 |mk (t r:Mz) (many:Int) (_:vs=[.ref t,.int many]) (_:bQ H t r) (_:0<many) (_:Sm 8000 many) (_:∀ (d:Int) (H':Hp),0<=d->d<many->bQ H' t r->Mv [t,r] H H'->Q (.int d) H')
theorem aI (T:cZ K mg w):dN P w K mg base cP 1 "_law_draw" uC5 [] (wA K):=by
  refine T.x2v.cal eh (bb:=λ_ _ _ _ _ H vs Q E hr h=>?_);obtain⟨t,r,many,rfl,tw,hm,sm,q⟩:=h;have htr:=tw.ne;obtain⟨cells,k,ht,hw,hne,hlen⟩:=tw;refine⟨_,(cM.go (ab (av 2 eh.nd (am K (aj 0) aa))
   (ab (i7 (ap cQ (am K (aj 0) aa) aa) (AV (aj 0) aa xX))
   (ab (av 3 eh.nd (ap lh (am K (aj 0) aa) (au (gU (K:=K) rfl) (by rfl) T.x3 dQ (aE (aj 2)))))
   (ab (av 4 eh.nd (am K (aj 2) (aj 3)))
   (ab (a_ (aR ET (aj 4) aa (aV _)) (ab (i7 (ap dR (aj 4) (aj 1)) (AV (aj 2) (aj 3) xX))
   (ag (ar (ap lh (aj 4) (aj 1))))) aH)
   (ab (av 5 eh.nd (ap lh (ap cQ (aj 4) (ap aO aa (am K (aj 0) aa))) aa))
   (ab (av 5 eh.nd (ap lh (ap EZ (aj 5) aa) aa))
   (ag (ar (ap lh (ap dR (ap lh (ap cQ (ap aO (ap dR (aj 5) aa) aa) (aj 5)) aa) aa) (aj 1)))))))))))),?_⟩
  have nz:0<cells.length:=RP.mpr hne;have hw1:∀ o,upd H t o r=some (.lst (cells.map V.int)):=λo=>by rw[aq htr.symm];exact hw
  refine⟨_,rfl,HC ht ?_⟩;refine⟨_,rfl,zR ht ⟨_,_,rfl,rfl,_,rfl,t,_,1,1,rfl,rfl,ht,rfl,?_⟩⟩;refine⟨_,rfl,zR (x:=.ref r) (y:=.int (k+1)) ae ⟨_,rfl,r,cells.map V.int,rfl,.inl (bH.of (hw1 _)),_,_,rfl,rfl,?_,?_⟩⟩
  ·show(0:Int)<((cells.map V.int).length:Int);rw[Mq];lia
  have e0:((cells.map V.int).length:Int)=(cells.length:Int):=by rw[Mq]
  obtain⟨j,hj⟩:∃ j:Nat,(k+1)%((cells.map V.int).length:Int)=(j:Int):=⟨_,(Int.toNat_of_nonneg (Pj _ (by lia))).symm⟩
  have hjl:j<cells.length:=by
   have:=OI (k+1) (show 0<((cells.map V.int).length:Int) by lia);lia
  simp only[hj];refine⟨_,rfl,_,rfl,.inl ⟨r,_,_,.int cells[j],rfl,rfl,bH.of (hw1 _),nK (by simp[hjl]),?_⟩⟩;generalize cells[j]=c;refine⟨_,rfl,_,_,rfl,rfl,_,rfl,?_⟩;refine f9 (λhc=>?_) (λhc=>?_)
  ·refine⟨_,rfl,_,rfl,_,_,rfl,rfl,⟨by lia,sm⟩,_,rfl,_,rfl,r,_,_,j,rfl,rfl,hw1 _,?_,?_⟩
   ·rw[Mq];unfold CL;rw[Nd (show(0:Int)<=(j:Int) by lia),Nd (show(j:Int)<(cells.length:Int) by lia)];rfl
   refine⟨_,rfl,_,rfl,_,_,rfl,rfl,hm,?_⟩;refine q _ _ (Pj _ (by lia)) (OI _ hm) ⟨cells.set j (c.fdiv many),k+1,?_,?_,?_,?_⟩ ?_
   ·rw[aq htr];exact ae
   ·rw[ae,List.map_set]
   ·intro z;have:=PZ Uy z;rw[TF] at this;exact absurd this (by rw[QO];lia)
   ·rw[TF];exact hlen
   ·exact(Mv.upd (by simp)).trans (Mv.upd (by simp))
  ·refine⟨_,rfl,_,rfl,zR (x:=.ref r) (y:=.int (k+1)) ae ⟨_,_,rfl,rfl,.inr (by unfold Sm;decide),_,_,rfl,rfl,_,_,rfl,rfl,(by show(0:Int)<4294967291;decide),?_⟩⟩;dsimp only;have b1:=Pj (c+104729*(k+1)) (show(4294967291:Int)≠0 by decide);have b2:=OI (c+104729*(k+1)) (show(0:Int)<4294967291 by decide);generalize (c+104729*(k+1))%4294967291=m1 at b1 b2 ⊢;refine⟨_,rfl,_,_,rfl,rfl,⟨by decide,by decide,by lia⟩,_,_,rfl,rfl,(by show(0:Int)<4294967279;decide),?_⟩;dsimp only;have b3:=Pj (m1^(5:Int).toNat) (show(4294967279:Int)≠0 by decide);have b4:=OI (m1^(5:Int).toNat) (show(0:Int)<4294967279 by decide);generalize m1^(5:Int).toNat%4294967279=m2 at b3 b4 ⊢;have b5:Sm 64 (m2.fdiv 64):=by
    rw[Oq _ (by decide)];unfold Sm;lia
   refine⟨_,rfl,_,_,rfl,rfl,⟨by decide,by unfold Sm;decide⟩,_,_,rfl,rfl,.inr b5,_,rfl,_,_,rfl,rfl,_,_,rfl,rfl,(by show(0:Int)<4294967231;decide),_,_,rfl,rfl,⟨by decide,by unfold Sm;decide⟩,_,rfl,_,_,rfl,rfl,hm,?_⟩;exact q _ _ (Pj _ (by lia)) (OI _ hm) ⟨cells,k+1,ae,hw1 _,hne,hlen⟩ (Mv.upd (by simp))
theorem wk:ao uB7 uB7 (ah kQ):=df
inductive wJ (K:HD)(vs:List V)(H:Hp)(Q:VK)(_:XK):Prop
 |mk (t r p:Mz) (xs:List V) (_:vs=[.ref t,.ref p]) (_:bQ H t r) (_:H p=some (.lst xs)) (_:p≠t) (_:p≠r) (_:xs≠[]) (_:xs.length<=1000) (_:∀ (i:Nat) (v:V) (H':Hp),xs[i]?=some v->bQ H' t r->Mv [t,r] H H'->Q v H')
theorem fV (T:cZ K mg w):dN P w K mg base cP 2 "_law_pick" uB7 [] (wJ K):=by
  refine T.x2w.cal wk (bb:=λ_ _ _ _ _ H vs Q E hr h=>?_);obtain⟨t,r,p,xs,rfl,tw,hp,n1,n2,hne,hl,q⟩:=h;refine⟨_,(cM.go (ag (ar (am K (aj 1) (ac ay (aI T) hr (aD (aj 0) (au (gU (K:=K) rfl) (by rfl) T.x3 dQ (aE (aj 1))))))))),?_⟩;have nz:0<xs.length:=RP.mpr hne;refine⟨_,rfl,_,rfl,_,rfl,p,xs,rfl,.inl (bH.of hp),t,r,_,rfl,tw,by lia,?_,λd H' h0 h1 tw' mv=>?_⟩
  ·refine Sm.mono (k:=64) ?_ (by decide);unfold Sm;lia
  obtain⟨j,rfl⟩:=Pz h0;have hj:j<xs.length:=by lia
  exact .inl ⟨p,xs,_,xs[j],rfl,rfl,bH.of (mv p _ hp (by simp[n1,n2])),nK (by simp[hj]),q j _ _ (by simp[hj]) tw' mv⟩
theorem uy:ao uC1 uC1 (ah jQ):=df
inductive ux (K:HD)(vs:List V)(H:Hp)(Q:VK)(_:XK):Prop
 |mk (x T) (_:vs=[x]) (_:Ty K H x T) (_:Q (.bl (xI x)) H)
theorem my (T:cZ K mg w):dN P w K mg base cP 1 "_law_whole" uC1 [] (ux K):=by
  refine T.x2x.cal uy (bb:=λ_ _ _ _ _ H vs Q E hr h=>?_);obtain⟨x,S,rfl,ty,q⟩:=h;refine⟨_,(cM.go (ag (ar (dX (au (kq (K:=K) rfl) (by rfl) T.x2 aK (aD (aj 0) (bU (v:=.ty "int") rfl T.xm ER rfl))) (gj (AA (au (kq (K:=K) rfl) (by rfl) T.x2 aK (aD (aj 0) (bU (v:=.ty "bool") rfl T.xk AR rfl))))))))),?_⟩;obtain⟨b,e1,e2⟩:=DW ty;refine⟨_,rfl,_,_,_,b,rfl,ty,e1,b,rfl,?_⟩;cases b with
  |false=>
   refine bA ?_;rw[show xI x=false from e2] at q;exact q
  |true=>
   obtain⟨c,e3,e4⟩:=(show ∃ c,iG S "bool"=some c/\xI x=!c from e2)
   refine aW ⟨_,rfl,_,_,_,c,rfl,ty,e3,c,rfl,?_⟩;rw[e4] at q;exact q
theorem i_:ao ["_law_one","_law_two","_law_a","_law_b"] uA1 (ah mH):=df
inductive yW (K:HD)(vs:List V)(H:Hp)(Q:VK)(_:XK):Prop
 |mk (t b:Int) (_:vs=[.int t,.int b]) (_:b≠0) (_:Sm 8000 b) (_:Sh K H t b Q)
theorem dS (T:cZ K mg w):dN P w K mg base cP 1 "_law_low" uA1 [] (yW K):=by
  refine T.x2y.cal i_ (bb:=λ_ _ _ _ _ H vs Q E hr h=>?_);obtain⟨t,b,rfl,hb,sb,q⟩:=h;refine⟨_,(cM.go (ab (a_ (aR uZ (aj 1) aa (aV _)) (ag (lU (i:=0) (j:=1) rfl i_.nd rfl rfl (by decide) rfl rfl (aD (ap cm aa (aj 0)) (ap cm aa (aj 1))) rfl)) aH)
   (ab (lU (i:=2) (j:=3) rfl i_.nd rfl rfl (by decide) rfl rfl (aD (au (uN rfl) (by rfl) T.xd oC (aD (aj 0) (ap cm aa (aj 0)))) (aj 1)) rfl)
   (ab (oY Nr (aR u8 (aj 3) aa (aV _)) (ag (lU (i:=2) (j:=3) rfl i_.nd rfl rfl (by decide) rfl rfl (aD (aj 3) (ap lh (aj 2) (aj 3))) rfl)))
   (ag (ar (be (aD (ap dR (aj 0) (aj 2)) (ap dR (aj 1) (aj 2)))))))))),?_⟩
  have core:∃ t' b':Int,(b<0->t'=0-t/\b'=0-b)/\(¬ b<0->t'=t/\b'=b)/\0<b'/\Sm 8000 b'/\∀ n d,Co t' b' n d->Co t b n d:=by
   by_cases hc:b<0
   ·refine⟨0-t,0-b,λ_=>⟨rfl,rfl⟩,λz=>absurd hc z,by lia,by rw[Tu];exact sb.neg,λn d z=>⟨z.1,z.2.1,?_⟩⟩;have:=z.2.2;rw[Tu,Tu,Vz,Int.neg_mul] at this;lia
   ·exact⟨t,b,λz=>absurd z hc,λ_=>⟨rfl,rfl⟩,by lia,sb,λ_ _ z=>z⟩
  obtain⟨t',b',c1,c2,hb',sb',lw⟩:=core;refine⟨_,rfl,_,_,rfl,rfl,_,rfl,?_⟩
  suffices eO:Kx _ _ _ [some (.int t'),some (.int b'),none,none] H by
   refine f9 (λhc=>?_) (λhc=>?_)
   ·obtain⟨rfl,rfl⟩:=c1 (Nx hc);exact⟨_,rfl,_,_,rfl,rfl,_,rfl,_,_,rfl,rfl,_,_,rfl,eO⟩
   ·obtain⟨rfl,rfl⟩:=c2 (λz=>hc (Ms z));exact eO
  refine⟨_,rfl,_,rfl,_,_,rfl,rfl,_,_,rfl,_,rfl,_,_,rfl,?_⟩;refine⟨λm σ H'=>∃ x y:Int,σ=[some (.int t'),some (.int b'),some (.int x),some (.int y)]/\H'=H/\0<=x/\0<=y/\NV x y=NV t' b'/\m=y.toNat,⟨_,_,_,rfl,rfl,?_,?_,?_,rfl⟩,?_⟩
  ·split<;>lia
  ·lia
  ·rw[<- Bl t' b',show(if b'<0 then -b' else b')=b' from MT (by lia)]
   congr 1
   by_cases h1:t'<0
   ·rw[Nd h1,Nd (show 0-t'>t' by lia)];lia
   ·rw[MT h1]
    split<;>lia
  ·rintro m σ H' ⟨x,y,rfl,rfl,hx,hy,hg,rfl⟩;refine⟨_,rfl,_,_,rfl,rfl,_,rfl,?_⟩;refine f9 (λhc=>?_) (λhc=>?_)
   ·have hc:=Nx hc;refine⟨_,λ_ _ z=>z,?_⟩;refine⟨_,rfl,_,rfl,_,rfl,_,_,rfl,rfl,hc,_,_,rfl,?_⟩;have h1:=Pj x (show y≠0 by lia);have h2:=OI x hc;exact⟨(x%y).toNat,by lia,y,x%y,rfl,rfl,hy,h1,by rw[xJ hx hc];exact hg,rfl⟩
   ·have hc:¬ (0<y):=λz=>hc (Ms z)
    have hy0:y=0:=by lia
    subst hy0;have e:x=(NV t' b':Int):=by
     rw[<- hg,UG];lia
    subst e;have gb:Sm 8000 (NV t' b':Int):=sb'.le (DF (by lia));have gn:(NV t' b':Int)≠0:=by
     have:=PU t' (show b'≠0 by lia);lia
    refine⟨_,rfl,_,rfl,_,_,rfl,rfl,⟨gn,gb⟩,_,rfl,_,rfl,_,_,rfl,rfl,⟨gn,gb⟩,l7,λp hp=>?_⟩;exact q _ _ _ _ (af.new hp) (pI ae) (lw _ _ (zV (by lia) rfl (by rw[MT (by lia)])))
theorem wL:ao uA1 uA1 (ah lB):=df
inductive vJ (K:HD)(vs:List V)(H:Hp)(Q:VK)(_:XK):Prop
 |mk (x y n d m e) (_:vs=[x,y]) (_:ax K H (qA n d) x) (_:ax K H (qA m e) y) (_:Ok 3900 n d) (_:Ok 3900 m e) (_:Sh K H (n*e+m*d) (d*e) Q)
theorem nC (T:cZ K mg w):dN P w K mg base cP 2 "_law_plus" uA1 [] (vJ K):=by
  refine T.x2z.cal wL (bb:=λ_ _ _ _ _ H vs Q E hr h=>?_);obtain⟨x,y,n,d,m,e,rfl,hx,hy,ox,oy,q⟩:=h;obtain⟨a,rfl,ha⟩:=bn hx;obtain⟨b,rfl,hb⟩:=bn hy;refine⟨_,(cM.go (ag (ar (ac ay (dS T) hr (aD (ap cQ (ap aO (am K (aj 0) aa) (am K (aj 1) aa)) (ap aO (am K (aj 1) aa) (am K (aj 0) aa))) (ap aO (am K (aj 0) aa) (am K (aj 1) aa))))))),?_⟩;have c:∀ {i j:Int},Sm 3900 i->Sm 3900 j->n0 i j:=λh1 h2=>.inl ⟨h1.mono (by decide),h2.mono (by decide)⟩
  refine⟨_,rfl,cr ha ⟨_,rfl,bN hb ⟨_,_,rfl,rfl,c ox.sn oy.sd,?_⟩⟩⟩;refine⟨_,rfl,cr hb ⟨_,rfl,bN ha ⟨_,_,rfl,rfl,c oy.sn ox.sd,_,_,rfl,rfl,?_⟩⟩⟩;refine⟨_,rfl,bN ha ⟨_,rfl,bN hb ⟨_,_,rfl,rfl,c ox.sd oy.sd,?_⟩⟩⟩;exact⟨_,_,rfl,Nz ox.ne oy.ne,(ox.sd.mul oy.sd).mono (by decide),q⟩
theorem wY:ao uA1 uA1 (ah lg):=df
inductive vV (K:HD)(vs:List V)(H:Hp)(Q:VK)(_:XK):Prop
 |mk (x y n d m e) (_:vs=[x,y]) (_:ax K H (qA n d) x) (_:ax K H (qA m e) y) (_:Ok 3900 n d) (_:Ok 3900 m e) (_:Sh K H (n*e-m*d) (d*e) Q)
theorem nF (T:cZ K mg w):dN P w K mg base cP 2 "_law_less" uA1 [] (vV K):=by
  refine T.x30.cal wY (bb:=λ_ _ _ _ _ H vs Q E hr h=>?_);obtain⟨x,y,n,d,m,e,rfl,hx,hy,ox,oy,q⟩:=h;obtain⟨a,rfl,ha⟩:=bn hx;obtain⟨b,rfl,hb⟩:=bn hy;refine⟨_,(cM.go (ag (ar (ac ay (dS T) hr (aD (ap cm (ap aO (am K (aj 0) aa) (am K (aj 1) aa)) (ap aO (am K (aj 1) aa) (am K (aj 0) aa))) (ap aO (am K (aj 0) aa) (am K (aj 1) aa))))))),?_⟩;have c:∀ {i j:Int},Sm 3900 i->Sm 3900 j->n0 i j:=λh1 h2=>.inl ⟨h1.mono (by decide),h2.mono (by decide)⟩
  refine⟨_,rfl,cr ha ⟨_,rfl,bN hb ⟨_,_,rfl,rfl,c ox.sn oy.sd,?_⟩⟩⟩;refine⟨_,rfl,cr hb ⟨_,rfl,bN ha ⟨_,_,rfl,rfl,c oy.sn ox.sd,_,_,rfl,rfl,?_⟩⟩⟩;refine⟨_,rfl,bN ha ⟨_,rfl,bN hb ⟨_,_,rfl,rfl,c ox.sd oy.sd,?_⟩⟩⟩;exact⟨_,_,rfl,Nz ox.ne oy.ne,(ox.sd.mul oy.sd).mono (by decide),q⟩
theorem uq:ao uA1 uA1 (ah jP):=df
inductive uw (K:HD)(vs:List V)(H:Hp)(Q:VK)(_:XK):Prop
 |mk (x y n d m e) (_:vs=[x,y]) (_:ax K H (qA n d) x) (_:ax K H (qA m e) y) (_:Ok 3900 n d) (_:Ok 3900 m e) (_:Sh K H (n*m) (d*e) Q)
theorem jr (T:cZ K mg w):dN P w K mg base cP 2 "_law_times" uA1 [] (uw K):=by
  refine T.x31.cal uq (bb:=λ_ _ _ _ _ H vs Q E hr h=>?_);obtain⟨x,y,n,d,m,e,rfl,hx,hy,ox,oy,q⟩:=h;obtain⟨a,rfl,ha⟩:=bn hx;obtain⟨b,rfl,hb⟩:=bn hy;refine⟨_,(cM.go (ag (ar (ac ay (dS T) hr (aD (ap aO (am K (aj 0) aa) (am K (aj 1) aa)) (ap aO (am K (aj 0) aa) (am K (aj 1) aa))))))),?_⟩;have c:∀ {i j:Int},Sm 3900 i->Sm 3900 j->n0 i j:=λh1 h2=>.inl ⟨h1.mono (by decide),h2.mono (by decide)⟩
  refine⟨_,rfl,cr ha ⟨_,rfl,cr hb ⟨_,_,rfl,rfl,c ox.sn oy.sn,?_⟩⟩⟩;refine⟨_,rfl,bN ha ⟨_,rfl,bN hb ⟨_,_,rfl,rfl,c ox.sd oy.sd,?_⟩⟩⟩;exact⟨_,_,rfl,Nz ox.ne oy.ne,(ox.sd.mul oy.sd).mono (by decide),q⟩
theorem uB:ao uA1 uA1 (ah kc):=df
inductive uo (K:HD)(vs:List V)(H:Hp)(Q:VK)(_:XK):Prop
 |mk (x y:V) (p q:Rat) (_:vs=[x,y]) (_:ax K H (rD p) x) (_:ax K H (rD q) y) (_:Bq 3900 p) (_:Bq 3900 q) (_:Q (.bl (decide (p<q))) H)
theorem uu (T:cZ K mg w):dN P w K mg base cP 1 "_law_below" uA1 [] (uo K):=by
  refine T.x32.cal uB (bb:=λ_ _ _ _ _ H vs Q E hr h=>?_);obtain⟨x,y,p,r,rfl,hx,hy,ox,oy,q⟩:=h;obtain⟨a,rfl,ha⟩:=bn hx;obtain⟨b,rfl,hb⟩:=bn hy;refine⟨_,(cM.go (ag (ar (cH uZ (ap aO (am K (aj 0) aa) (am K (aj 1) aa)) (ap aO (am K (aj 1) aa) (am K (aj 0) aa)) (aV _))))),?_⟩;have c:∀ {i j:Int},Sm 3900 i->Sm 3900 j->n0 i j:=λh1 h2=>.inl ⟨h1.mono (by decide),h2.mono (by decide)⟩
  refine⟨_,rfl,cr ha ⟨_,rfl,bN hb ⟨_,_,rfl,rfl,c ox.sn oy.sd,?_⟩⟩⟩;refine⟨_,rfl,cr hb ⟨_,rfl,bN ha ⟨_,_,rfl,rfl,c oy.sn ox.sd,_,_,rfl,rfl,?_⟩⟩⟩;rw[show decide (p<r)=decide (p.num*(r.den:Int)<r.num*(p.den:Int)) from Te.mpr (Rat.lt_iff p r)] at q;exact q
theorem mB:ao ["_law_town_here","_law_cap","_law_below_here"] uA2 (ah j7):=df
inductive ug (K:HD)(vs:List V)(H:Hp)(Q:VK)(_:XK):Prop
 |mk (t r:Mz) (cap:Int) (_:vs=[.ref t,.int cap]) (_:bQ H t r) (_:0<cap) (_:cap<=1000) (_:∀ (v:V) (q:Rat) (H':Hp),ax K H' (rD q) v->0<=q->q<=(cap:Rat)->Bq 17 q->bQ H' t r->Mv [t,r] H H'->Q v H')
theorem eQ (T:cZ K mg w):dN P w K mg base cP 3 "_law_share" uA2 [] (ug K):=by
  refine T.x33.cal mB (bb:=λ_ _ _ _ _ H vs Q E hr h=>?_);obtain⟨t,r,cap,rfl,tw,c0,c1,q⟩:=h;refine⟨_,(cM.go (ab (av 2 mB.nd (ac ay (fV T) hr (aD (aj 0) (b9 (ak aa (ak aa (ak aa (ak aa (ak aa (ak aa aZ))))))))))
   (ag (ar (ac ay (fV T) hr (aD (aj 0) (ap wV (ap E_ (b9 (aE (ac ay (dS T) hr (aD (ac ay (aI T) hr (aD (aj 0) (ap cQ (ap aO (aj 1) (aj 2)) aa))) (aj 2))))) aa) (b9 (aD (be (aD aa aa)) (be (aD (aj 1) aa))))))))))),?_⟩
  have s64:∀ {n:Int},0<n->n<100000->Sm 8000 n:=λh1 h2=>Sm.mono (k:=20) (by unfold Sm;lia) (by decide)
  refine⟨_,rfl,(by show 6<=MI;decide),λp hp=>?_⟩;have sp:=af.new (o:=.lst [.int 1,.int 1,.int 2,.int 3,.int 7,.int 60]) hp;have np:=tw.not hp;refine⟨t,r,p,_,rfl,tw.same sp,ae,λz=>np (by simp[z]),λz=>np (by simp[z]),by simp,by show 6<=1000;decide,λj v G hv tw1 mv1=>?_⟩;obtain⟨b,rfl,b0,b1⟩:∃ b:Int,v=.int b/\0<b/\b<=60:=by
   match j,hv with
   |0,hv=>exact⟨1,(Mi hv).symm,by decide,by decide⟩
   |1,hv=>exact⟨1,(Mi hv).symm,by decide,by decide⟩
   |2,hv=>exact⟨2,(Mi hv).symm,by decide,by decide⟩
   |3,hv=>exact⟨3,(Mi hv).symm,by decide,by decide⟩
   |4,hv=>exact⟨7,(Mi hv).symm,by decide,by decide⟩
   |5,hv=>exact⟨60,(Mi hv).symm,by decide,by decide⟩
  have cb:cap*b<=60000:=Sa (Int.mul_le_mul_of_nonneg_right c1 (by lia)) (by lia);have cb0:0<=cap*b:=O7 (by lia) (by lia);have mv1:=(Mv.of sp).trans mv1;clear hv sp np hp;refine⟨_,rfl,_,rfl,_,rfl,_,rfl,_,_,rfl,rfl,.inr ((Kt (by lia) c1).mono (by decide)),_,_,rfl,rfl,?_⟩;refine⟨t,r,_,rfl,tw1,by lia,s64 (by lia) (by lia),λd H2 d0 d1 tw2 mv2=>?_⟩;have bq:Bq 17 ((d:Rat)/(b:Rat)):=gN (by lia) (by unfold Sm;lia) (by unfold Sm;lia);have bp:(0:Rat)<(b:Rat):=Rat.intCast_pos.mpr b0;have hd0:(0:Rat)<=(d:Rat):=QT.mpr d0;have hd1:(d:Rat)<=(cap:Rat)*(b:Rat):=by rw[<- MY];exact NL.mpr (by lia)
  have nb:=Io (n:=b) (by lia);have eq:(d:Rat)=(d:Rat)/(b:Rat)*(b:Rat):=by grind
  have q0:0<=(d:Rat)/(b:Rat):=Rat.not_lt.mp λz=>by
   have:=RZ z bp;grind
  have q1:(d:Rat)/(b:Rat)<=(cap:Rat):=Rat.not_lt.mp λz=>by
   have:=RZ z bp;grind
  refine⟨_,rfl,_,_,rfl,by lia,s64 (by lia) (by lia),j0.sh (by lia) λv3 H3 s3 hv3=>?_⟩;refine⟨Jj,λp1 hp1=>?_⟩;have s4:=af.new (o:=.lst [v3]) hp1;refine FY (n:=4) rfl (by decide) ae λp2 hp2=>?_
  have s5:=af.new (o:=.lst (MF 4 v3)) hp2;refine⟨l7,λp3 hp3=>?_⟩;have s6:=af.new (o:=.tup [.int 0,.int 1]) hp3;refine⟨_,rfl,l7,λp4 hp4=>?_⟩;have s7:=af.new (o:=.tup [.int cap,.int 1]) hp4;refine⟨l7,λp5 hp5=>?_⟩;have s8:=af.new (o:=.lst [.ref p3,.ref p4]) hp5;have s67:=s6.trans (s7.trans s8);refine⟨p2,p5,_,_,rfl,rfl,s67 _ _ ae,ae,(by show 4+2<=MI;decide),λp6 hp6=>?_⟩;have s9:=af.new (o:=.lst (MF 4 v3++[.ref p3,.ref p4])) hp6;have g3:=s9 _ _ (s8 _ _ (s7 _ _ (ae (H:=upd (upd H3 p1 (.lst [v3])) p2 (.lst (MF 4 v3))) (a:=p3) (o:=.tup [.int 0,.int 1]))));have g4:=s9 _ _ (s8 _ _ (ae (H:=upd (upd (upd H3 p1 (.lst [v3])) p2 (.lst (MF 4 v3))) p3 (.tup [.int 0,.int 1])) (a:=p4) (o:=.tup [.int cap,.int 1])));have sA:af H3 _:=((s4.trans s5).trans s67).trans s9;have hv:=ax.same sA hv3;have twA:=(tw2.same s3).same sA;have n6:p6∉[t,r]:=((tw2.same s3).same ((s4.trans s5).trans s67)).not hp6;have mvA:=(mv1.trans mv2).trans (Mv.of (s3.trans sA));have gA:upd (upd (upd (upd (upd (upd H3 p1 (.lst [v3])) p2 (.lst (MF 4 v3))) p3 (.tup [.int 0,.int 1])) p4 (.tup [.int cap,.int 1])) p5 (.lst [.ref p3,.ref p4])) p6 (.lst (MF 4 v3++[.ref p3,.ref p4])) p6=some (.lst (MF 4 v3++[.ref p3,.ref p4])):=ae;generalize upd (upd (upd (upd (upd (upd H3 p1 (.lst [v3])) p2 (.lst (MF 4 v3))) p3 (.tup [.int 0,.int 1])) p4 (.tup [.int cap,.int 1])) p5 (.lst [.ref p3,.ref p4])) p6 (.lst (MF 4 v3++[.ref p3,.ref p4]))=GA at g3 g4 sA hv twA mvA gA ⊢;refine⟨t,r,p6,_,rfl,twA,gA,λz=>n6 (by simp[z]),λz=>n6 (by simp[z]),by simp,by show 6<=1000;decide,λj v H7 hj tw7 mv7=>?_⟩;have one:∀ {n:Int}{a:Mz},GA a=some (.tup [.int n,.int 1])->ax K GA (rD (n:Rat)) (.ref a):=λ{n a} h=>by rw[Hn];exact pI h
  obtain⟨z,hz,z0,z1,bz⟩:∃ z:Rat,ax K GA (rD z) v/\0<=z/\z<=(cap:Rat)/\Bq 17 z:=by
   have cp:(0:Rat)<=(cap:Rat):=QT.mpr (by lia)
   match j,hj with
   |0,hj=>cases hj;exact⟨_,hv,q0,q1,bq⟩
   |1,hj=>cases hj;exact⟨_,hv,q0,q1,bq⟩
   |2,hj=>cases hj;exact⟨_,hv,q0,q1,bq⟩
   |3,hj=>cases hj;exact⟨_,hv,q0,q1,bq⟩
   |4,hj=>cases hj;exact⟨_,one g3,P_,cp,(tJ (n:=0) (k:=17) (by unfold Sm;decide) (by decide))⟩
   |5,hj=>cases hj;exact⟨_,one g4,cp,P_,(tJ (Kt (by lia) c1) (by decide)).mono (by decide)⟩
  exact q v z H7 (ax.mv mv7 twA.lists rfl hz) z0 z1 bz tw7 (mvA.trans mv7)
theorem uf:ao uA2 uA2 (ah j5):=df
inductive uG (K:HD)(vs:List V)(H:Hp)(Q:VK)(_:XK):Prop
 |mk (t r:Mz) (cap:Int) (_:vs=[.ref t,.int cap]) (_:bQ H t r) (_:0<cap) (_:cap<=1000) (_:∀ (v:V) (c:Q3) (H':Hp),ax K H' c.col v->c.Wi cap->c.Bd 17->bQ H' t r->Mv [t,r] H H'->Q v H')
theorem ue (T:cZ K mg w):dN P w K mg base cP 4 "_law_three" uA2 [] (uG K):=by
  refine T.x34.cal uf (bb:=λ_ _ _ _ _ H vs Q E hr h=>?_);obtain⟨t,r,cap,rfl,tw,c0,c1,q⟩:=h;refine⟨_,(cM.go (ab (a_ (aR eI (ac ay (aI T) hr (aD (aj 0) aa)) aa (aV _)) (ag (ar (ap FR (be (aE (ac ay (eQ T) hr (aD (aj 0) (aj 1))))) aa))) aH)
   (ag (ar (be (ak (ac ay (eQ T) hr (aD (aj 0) (aj 1))) (ak (ac ay (eQ T) hr (aD (aj 0) (aj 1))) (ak (ac ay (eQ T) hr (aD (aj 0) (aj 1))) aZ)))))))),?_⟩
  refine⟨_,rfl,t,r,6,rfl,tw,by decide,by unfold Sm;decide,λd H1 d0 d1 tw1 mv1=>⟨_,_,rfl,rfl,_,rfl,?_⟩⟩;refine f9 (λ_=>?_) (λ_=>?_)
  ·refine⟨_,rfl,_,rfl,t,r,cap,rfl,tw1,c0,c1,λv z H2 hv z0 z1 bz tw2 mv2=>⟨Jj,λp hp=>?_⟩⟩;have s3:=af.new (o:=.tup [v]) hp;refine⟨p,_,rfl,rfl,ae,λp2 hp2=>?_⟩;have s4:=af.new (o:=.tup [v,v,v]) hp2;have hv:=ax.same (s3.trans s4) hv;exact q _ ⟨z,z,z⟩ _ (.tup ae (.cons hv (.cons hv (.cons hv .nil)))) ⟨z0,z1,z0,z1,z0,z1⟩ ⟨bz,bz,bz⟩ (tw2.same (s3.trans s4)) ((mv1.trans mv2).trans (Mv.of (s3.trans s4)))
  ·refine⟨_,rfl,_,rfl,t,r,cap,rfl,tw1,c0,c1,λv1 z1 H2 hv1 a0 a1 ba tw2 mv2=>?_⟩;refine⟨_,rfl,_,rfl,t,r,cap,rfl,tw2,c0,c1,λv2 z2 H3 hv2 b0 b1 bb nB mv3=>?_⟩;refine⟨_,rfl,_,rfl,t,r,cap,rfl,nB,c0,c1,λv3 z3 H4 hv3 k0 k1 bk tw4 mv4=>⟨Eo,λp hp=>?_⟩⟩;have s:=af.new (o:=.tup [v1,v2,v3]) hp;exact q _ ⟨z1,z2,z3⟩ _ (ax.tupN hp (.cons (ax.mv (mv3.trans mv4) tw2.lists rfl hv1) (.cons (ax.mv mv4 nB.lists rfl hv2) (.cons hv3 .nil)))) ⟨a0,a1,b0,b1,k0,k1⟩ ⟨ba,bb,bk⟩ (tw4.same s) ((((mv1.trans mv2).trans mv3).trans mv4).trans (Mv.of s))
theorem pE:ao uC1 uC1 (ah gz):=df
inductive oS (K:HD)(vs:List V)(H:Hp)(Q:VK)(_:XK):Prop
 |mk (x n d) (_:vs=[x]) (_:ax K H (qA n d) x) (_:Ok 8000 n d) (_:∀ H',af H H'->Q (.bl true) H')
theorem oK (T:cZ K mg w):dN P w K mg base cP 2 "_law_is_share" uC1 [] (oS K):=by
  refine T.x35.cal pE (bb:=λ_ _ _ _ _ H vs Q E hr h=>?_);obtain⟨x,n,d,rfl,hx,ox,q⟩:=h;obtain⟨a,rfl,ha⟩:=bn hx;refine⟨_,(cM.go (ab (a_ (WW.pt (dG (aX (aS (au (kq (K:=K) rfl) (by rfl) T.x2 aK (aD (aj 0) (bU (v:=.ty "tuple") rfl T.x5 cJ rfl))))) (dG (aR mN (au (gU (K:=K) rfl) (by rfl) T.x3 dQ (aE (aj 0))) aa (aV _)) (dG (aX (aS (ac ay (my T) hr (aE (am K (aj 0) aa))))) (dB (aX (aS (ac ay (my T) hr (aE (am K (aj 0) aa)))))))))) (ag (ar gg)) aH)
   (ag (ar (dX (cH u8 (am K (aj 0) aa) aa (aV _)) (gj (cH (GS (K:=K) rfl hr.units) (ac ay (dS T) hr (aD (am K (aj 0) aa) (am K (aj 0) aa))) (aj 0) (aV _)))))))),?_⟩
  refine⟨_,rfl,_,_,_,true,rfl,.tup ha,by decide +kernel,_,rfl,bA ?_⟩;refine⟨_,rfl,a,_,rfl,.inr (dF.of ha),_,_,rfl,rfl,_,rfl,bA ?_⟩;refine⟨_,rfl,cr ha ⟨_,_,rfl,.int n,_,rfl,bA ?_⟩⟩;refine⟨_,rfl,bN ha ⟨_,_,rfl,.int d,_,rfl,bA ?_⟩⟩;refine⟨_,rfl,bN ha ⟨_,_,rfl,rfl,_,rfl,?_⟩⟩;rw[Ms ox.pos];refine aW ⟨_,rfl,cr ha ⟨_,rfl,bN ha ⟨n,d,rfl,ox.ne,ox.sd,λv m e H1 s1 hv lw=>?_⟩⟩⟩;refine⟨_,rfl,_,_,hv,ax.same s1 hx,rfl,rfl,?_⟩;rw[yV (mO ox.ne lw (Dn ox.pos ox.co))];exact q _ s1
theorem bZ:ao ["_law_town_here","_law_last","_law_cap","_law_climbs","_law_size","_law_places","_law_values"] uA9 (ah ju):=df
inductive tT (K:HD)(vs:List V)(H:Hp)(Q:VK)(_:XK):Prop
 |mk (t r:Mz) (last cap:Int) (c:Bool) (_:vs=[.ref t,.int last,.int cap,.bl c]) (_:bQ H t r) (_:1<=last) (_:last<=1000) (_:1<=cap) (_:cap<=1000) (_:∀ (D:Mz) (ps:List Pt) (z:Pt) (xs:List V) (H':Hp),H' D=some (.lst xs)->az K H' (ps.map p9) xs->t9 ps->ps.getLast?=some z->z.1=last->z.2<=cap->D∉[t,r]->bQ H' t r->Mv [t,r] H H'->Q (.ref D) H')
theorem rq (T:cZ K mg w):dN P w K mg base cP 2 "_law_points" uA9 [] (tT K):=by
  refine T.x36.cal bZ (bb:=λ_ _ _ _ _ H vs Q E hr h=>?_);obtain⟨t,r,last,cap,c,rfl,tw,l1,l2,c1,c2,q⟩:=h;refine⟨_,(cM.go (ab (av 4 bZ.nd (ap cQ aa (ac ay (aI T) hr (aD (aj 0) aa))))
   (ab (av 5 bZ.nd (pR (K:=K) rfl rfl (by rfl) T.xh (by rfl) T.xn (aE (ap wV (b9 (aD aa (aj 1))) (aF uB8 ["_law_town_here","_law_last"] [0,1] 1 (bg rfl T.x1 (aE (aj 4))) (λnd=>(ai 0 nd)) aA (ac ay (aI T) hr (aD (aj 1) (ap cQ (aj 2) aa))))))))
   (ab (av 6 bZ.nd (au (Dp (K:=K) rfl) (by rfl) T.xh oW (aE (aF uB8 uA2 [0,2] 1 (bg rfl T.x1 (aE (au (gU (K:=K) rfl) (by rfl) T.x3 dQ (aE (aj 5))))) (λnd=>(ai 0 nd)) aA (ac ay (aI T) hr (aD (aj 1) (ap cQ (aj 2) aa)))))))
   (ab (a_ (aS (aj 3)) (ab (av 6 bZ.nd (aF uB8 ["_law_cap","_law_values"] [2,6] 1 (bg rfl T.x1 (aE (au (gU (K:=K) rfl) (by rfl) T.x3 dQ (aE (aj 5))))) (λnd=>(ai 0 nd)) aA (au (lW rfl) (by rfl) T.xg wP (aD (aj 1) (ap cQ (am K (aj 2) (aj 0)) (aj 0))))))
   (ab (av 6 bZ.nd (pR (K:=K) rfl rfl (by rfl) T.xh (by rfl) T.xn (aE (aj 6))))
   (ab (av 5 bZ.nd (ib (aR u8 (au (gU (K:=K) rfl) (by rfl) T.x3 dQ (aE (aj 6))) aa (aV _)) (ap wV (jw (Im (K:=K) rfl) (aj 5) kA (lF (ap cm (au (gU (K:=K) rfl) (by rfl) T.x3 dQ (aE (aj 6))) aa))) (b9 (aE (aj 1)))) (b9 (aD aa (aj 1)))))
   (ag (av 6 bZ.nd (ib (aR u8 (au (gU (K:=K) rfl) (by rfl) T.x3 dQ (aE (aj 6))) aa (aV _)) (aj 6) (b9 (aD aa (aj 2))))))))) aH)
   (ag (ar (aF uB8 ["_law_places","_law_values"] [5,6] 1 (bg rfl T.x1 (aE (au (gU (K:=K) rfl) (by rfl) T.x3 dQ (aE (aj 5))))) (λnd=>(ai 0 nd)) aA (be (aD (am K (aj 1) (aj 0)) (am K (aj 2) (aj 0)))))))))))),?_⟩
  have s64:∀ {n:Int},0<n->n<100000->Sm 8000 n:=λh1 h2=>Sm.mono (k:=20) (by unfold Sm;lia) (by decide)
  refine⟨_,rfl,t,r,5,rfl,tw,by decide,s64 (by decide) (by decide),λd H1 d0 d1 tw1 mv1=>⟨_,_,rfl,rfl,?_⟩⟩;refine⟨_,rfl,l7,λp hp=>?_⟩;generalize e0:upd H1 p _=H2;have sp:=nv hp e0;have gp:=iS e0;have np:=tw1.not hp;have tw2:=tw1.same sp;have mv2:=mv1.trans (Mv.of sp);refine⟨_,rfl,_,rfl,by lia,by lia,pT (t:=t) (r:=r) (lo:=0) (m:=last) tw2 (by lia) (λi H3 hi nB mv3 R kk S=>?_) (λks H3 hk hP nB mv3 D hD=>?_)⟩
  ·exact aW (B:=S H3) ⟨_,rfl,_,rfl,_,_,rfl,rfl,t,r,_,rfl,nB,by lia,s64 (by lia) (by lia),λd3 H4 a3 b3 tw4 mv4=>kk _ _ ⟨d3,rfl,a3,by lia,tw4,mv4⟩⟩
  generalize e0:upd H3 D _=H4;have sD:=nv hD e0;have gD:=iS e0;have tw4:=nB.same sD;have mv4:=(mv2.trans mv3).trans (Mv.of sD);have gp4:=sD _ _ (mv3 _ _ gp np);have hk':ks.length<=6:=by lia
  refine⟨p,D,_,_,rfl,rfl,gp4,gD,by rw[Mq,N7];simp;lia,λp5 hp5=>?_⟩;have s5:af H4 (upd H4 p5 (.lst ([.int 0,.int last]++ks.map V.int))):=af.new hp5;have g5:upd H4 p5 (.lst ([.int 0,.int last]++ks.map V.int)) p5=some (.lst (([0,last]++ks).map V.int)):=by rw[ae,Og];rfl
  have tw5:=tw4.same s5;have mv5:=mv4.trans (Mv.of s5);generalize upd H4 p5 (.lst ([.int 0,.int last]++ks.map V.int))=H5 at s5 g5 tw5 mv5 ⊢;refine⟨p5,[0,last]++ks,rfl,bH.of g5,by simp;lia,λL ns hL up mem len=>?_⟩;have pl:Pl last ns:=JT l1 up ((mem 0).mpr (by simp)) ((mem last).mpr (by simp)) (λx hx=>by
   have:=(mem x).mp hx;simp only[M_,Mx,MM,Od] at this;rcases this with (e|e)|e
   ·lia
   ·lia
   ·exact hP x e) (by simp at len;lia)
  have few8:ns.length<=8:=by simp at len;lia
  generalize e0:upd H5 L _=H6;have s6:=nv hL e0;have g6:=iS e0;have nL:=tw5.not hL;have tw6:=tw5.same s6;have mv6:=mv5.trans (Mv.of s6);have two:=pl.two;have len6:(ns.map V.int).length=ns.length:=Mq _;refine⟨_,rfl,L,_,rfl,.inl (bH.of g6),_,rfl,by lia,by lia,pT (t:=t) (r:=r) (lo:=0) (m:=cap) tw6 (by lia) (λi H7 hi tw7 mv7 R kk S=>?_) (λvs H7 hv iv tw7 mv7 D7 hD7=>?_)⟩
  ·exact aW (B:=S H7) ⟨_,rfl,_,rfl,_,_,rfl,rfl,t,r,_,rfl,tw7,by lia,s64 (by lia) (by lia),λd3 H4 a3 b3 tw4 mv4=>kk _ _ ⟨d3,rfl,a3,by lia,tw4,mv4⟩⟩
  have hv:vs.length=ns.length:=by lia
  generalize e0:upd H7 D7 _=H8;have s8:=nv hD7 e0;have g8:=iS e0;have tw8:=tw7.same s8;have mv8:=(mv6.trans mv7).trans (Mv.of s8);have gL8:=s8 _ _ (mv7 _ _ g6 nL);refine⟨D7,vs,rfl,bH.of g8,by lia,λL9 ws hL9 up9 pe9=>?_⟩;have lw:ws.length=ns.length:=by rw[pe9.length_eq];exact hv
  have iw:∀ x∈ws,0<=x/\x<=cap:=λx hx=>iv x (pe9.mem_iff.mp hx)
  generalize e0:upd H8 L9 _=H9;have s9:=nv hL9 e0;have g9:=iS e0;have nL9:=tw8.not hL9;have tw9:=tw8.same s9;have mv9:=mv8.trans (Mv.of s9);have gL9:=s9 _ _ gL8;have out:∀ (ps:List Pt) (z:Pt) (G:Hp) (ys:List V) (D:Mz),t9 ps->ps.getLast?=some z->z.1=last->z.2<=cap->bQ G t r->Mv [t,r] H G->az K G (ps.map p9) ys->G D=none->Q (.ref D) (upd G D (.lst ys)):=
   λps z G ys D h1 h2 h3 h4 twG mvG hys hD=>q D ps z ys _ ae (az.same (af.new hD) hys) h1 h2 h3 h4 (twG.not hD) (twG.same (af.new hD)) (mvG.trans (Mv.of (af.new hD)))
  refine⟨_,rfl,_,rfl,?_⟩;refine f9 (λhc=>?_) (λhc=>?_)
  ·let cl:List Int:=(On ns.length).map λk:Nat=>if ws.getD k 0+(k:Int)<cap then ws.getD k 0+(k:Int) else cap
   have icl:∀ x∈cl,0<=x/\x<=cap:=λx hx=>by
    obtain⟨k,hk,rfl⟩:=Nc.mp hx;rw[OQ] at hk;have:ws.getD k 0=ws[k]:=by simp[List.getD,show k<ws.length by lia]
    have:=iw ws[k] (OM _)
    split<;>lia
   have lcl:cl.length=ns.length:=by simp[cl]
   refine⟨_,rfl,L,_,rfl,.inl (bH.of gL9),_,rfl,by lia,by lia,gq (K:=K) (lo:=0) (ds:=cl.map NR) (by rw[Mq,lcl];lia) (by lia) (λi d G hd sG R kk S=>?_) (λys G sG hys D hD=>?_)⟩
   ·rw[Mw] at hd;obtain⟨m,em,rfl⟩:=MJ.mp hd;have hi:i<ns.length:=by have:=(Mu.mp em).1;lia
    have em':m=if ws.getD i 0+(i:Int)<cap then ws.getD i 0+(i:Int) else cap:=by
     simp only[cl,Mw,List.getElem?_range hi,VD,U9] at em;exact em.symm
    have ew:(ws.map V.int)[i]?=some (.int (ws.getD i 0)):=by simp[List.getD,show i<ws.length by lia]
    exact aW (B:=S G) ⟨_,rfl,_,rfl,_,rfl,Hw (sG _ _ g9) (j:=i) ew (by lia) ⟨_,rfl,_,_,rfl,rfl,_,_,rfl,kk _ _ ⟨af.refl _,by rw[em',Sb];exact .int _⟩⟩⟩
   cases qY hys;have s10:af H9 (upd G D (.lst (cl.map V.int))):=sG.trans (af.new hD);have g10:upd G D (.lst (cl.map V.int)) D=some (.lst (cl.map V.int)):=ae;clear hys;generalize upd G D (.lst (cl.map V.int))=G at s10 g10 ⊢;refine⟨_,rfl,D,cl,rfl,bH.of g10,by lia,λL2 us hL2 up2 mem2 len2=>?_⟩;have iu:∀ x∈us,0<=x/\x<=cap:=λx hx=>icl x ((mem2 x).mp hx)
   have s11:af H9 (upd G L2 (.lst (us.map V.int))):=s10.trans (af.new hL2);have g11:upd G L2 (.lst (us.map V.int)) L2=some (.lst (us.map V.int)):=ae;generalize upd G L2 (.lst (us.map V.int))=G at s11 g11 ⊢;have lu:(us.map V.int).length=us.length:=Mq _;have gL11:=s11 _ _ gL9;refine⟨_,rfl,L2,_,rfl,.inl (bH.of g11),_,_,rfl,rfl,_,rfl,?_⟩
   by_cases hu:1<us.length
   ·rw[Ms (show((us.map V.int).length:Int)>1 by lia)];refine aW ?_;refine⟨_,rfl,_,rfl,L2,_,rfl,.inl (bH.of g11),_,_,rfl,rfl,_,rfl,L,_,rfl,bH.of gL11,λp1 hp1=>⟨_,rfl,Jj,λp2 hp2=>?_⟩⟩;rw[lu,Fb (ns.map V.int) us.length (by lia),<- List.map_take] at hp2 ⊢;have s12:af G (upd (upd G p1 (.lst ((ns.take (us.length-1)).map V.int))) p2 (.lst [.int last])):=(af.new hp1).trans (af.new hp2);have ga:upd (upd G p1 (.lst ((ns.take (us.length-1)).map V.int))) p2 (.lst [.int last]) p1=some (.lst ((ns.take (us.length-1)).map V.int)):=af.new hp2 _ _ ae;have gb:upd (upd G p1 (.lst ((ns.take (us.length-1)).map V.int))) p2 (.lst [.int last]) p2=some (.lst [.int last]):=ae;generalize upd (upd G p1 (.lst ((ns.take (us.length-1)).map V.int))) p2 (.lst [.int last])=G2 at s12 ga gb ⊢;refine⟨p1,p2,_,_,rfl,rfl,ga,gb,by rw[Mq,M3,N7];simp;lia,λp3 hp3=>?_⟩;rw[show(ns.take (us.length-1)).map V.int++[V.int last]=(ns.take (us.length-1)++[last]).map V.int by simp];obtain⟨pl2,len2'⟩:=IZ pl hu (by lia);generalize ns.take (us.length-1)++[last]=ms at pl2 len2' ⊢;have s13:af H9 (upd G2 p3 (.lst (ms.map V.int))):=(s11.trans s12).trans (af.new hp3);have g13:upd G2 p3 (.lst (ms.map V.int)) p3=some (.lst (ms.map V.int)):=ae;have gu13:upd G2 p3 (.lst (ms.map V.int)) L2=some (.lst (us.map V.int)):=af.new hp3 _ _ (s12 _ _ g11);generalize upd G2 p3 (.lst (ms.map V.int))=G3 at s13 g13 gu13 ⊢;have lm:(ms.map V.int).length=ms.length:=Mq _;refine⟨_,rfl,L2,_,rfl,.inl (bH.of gu13),_,_,rfl,rfl,_,rfl,?_⟩;rw[Ms (show((us.map V.int).length:Int)>1 by lia)];refine aW ⟨_,rfl,?_⟩;obtain⟨hp1,z,hz,ez⟩:=Ao pl2 l2 (up2.imp (λh=>R_ h)) (λx hx=>by have:=iu x hx;lia) (by lia);have lz:(ms.zip us).length=ms.length:=by rw[RQ];lia
    refine⟨_,rfl,p3,_,rfl,.inl (bH.of g13),_,rfl,by lia,by lia,gq (K:=K) (lo:=0) (ds:=(ms.zip us).map p9) (by rw[Mq];lia) (by lia) (λi d G' hd sG R kk S=>?_) (λys G' sG hys D hD=>?_)⟩
    ·rw[Mw] at hd;obtain⟨pt,ept,rfl⟩:=MJ.mp hd;obtain⟨ea,eb⟩:=M8.mp ept;exact aW (B:=S G') ⟨_,rfl,_,rfl,Hw (sG _ _ g13) (j:=i) (v:=.int pt.1) (by rw[Mw,ea];rfl) (by lia) ⟨_,rfl,_,rfl,Hw (sG _ _ gu13) (j:=i) (v:=.int pt.2) (by rw[Mw,eb];rfl) (by lia) ⟨l7,λp hp=>kk _ _ ⟨af.new hp,ax.tupN hp (.cons (.int _) (.cons (.int _) .nil))⟩⟩⟩⟩
    ·exact out _ z G' ys D hp1 hz ez (iu z.2 (Po (Pe hz)).2).2 ((tw9.same s13).same sG) ((mv9.trans (Mv.of s13)).trans (Mv.of sG)) hys hD
   ·rw[Na (show ¬ ((us.map V.int).length:Int)>1 by lia)];refine bA ⟨_,rfl,l7,λp1 hp1=>?_⟩;have s12:af H9 (upd G p1 (.lst [.int 0,.int last])):=s11.trans (af.new hp1);have g12:upd G p1 (.lst [.int 0,.int last]) p1=some (.lst ([0,last].map V.int)):=ae;have gu12:upd G p1 (.lst [.int 0,.int last]) L2=some (.lst (us.map V.int)):=af.new hp1 _ _ g11;generalize upd G p1 (.lst [.int 0,.int last])=G2 at s12 g12 gu12 ⊢;refine⟨_,rfl,L2,_,rfl,.inl (bH.of gu12),_,_,rfl,rfl,_,rfl,?_⟩;rw[Na (show ¬ ((us.map V.int).length:Int)>1 by lia)];refine bA ⟨_,rfl,l7,λp2 hp2=>?_⟩;have s13:af H9 (upd G2 p2 (.lst [.int 0,.int cap])):=s12.trans (af.new hp2);have g13:upd G2 p2 (.lst [.int 0,.int cap]) p1=some (.lst ([0,last].map V.int)):=af.new hp2 _ _ g12;have gu13:upd G2 p2 (.lst [.int 0,.int cap]) p2=some (.lst ([0,cap].map V.int)):=ae;generalize upd G2 p2 (.lst [.int 0,.int cap])=G3 at s13 g13 gu13 ⊢;have lm:([0,last].map V.int).length=2:=rfl;have lm2:[0,last].length=2:=rfl;have lm3:[0,cap].length=2:=rfl;obtain⟨hp1,z,hz,ez⟩:=Ao (IT l1) l2 (show[0,cap].Pairwise (·<=·) by simp;lia) (λx hx=>by simp at hx;lia) rfl;have lz:([0,last].zip [0,cap]).length=[0,last].length:=by rw[RQ];lia
    refine⟨_,rfl,p1,_,rfl,.inl (bH.of g13),_,rfl,by lia,by lia,gq (K:=K) (lo:=0) (ds:=([0,last].zip [0,cap]).map p9) (by rw[Mq];lia) (by lia) (λi d G' hd sG R kk S=>?_) (λys G' sG hys D hD=>?_)⟩
    ·rw[Mw] at hd;obtain⟨pt,ept,rfl⟩:=MJ.mp hd;obtain⟨ea,eb⟩:=M8.mp ept;exact aW (B:=S G') ⟨_,rfl,_,rfl,Hw (sG _ _ g13) (j:=i) (v:=.int pt.1) (by rw[Mw,ea];rfl) (by lia) ⟨_,rfl,_,rfl,Hw (sG _ _ gu13) (j:=i) (v:=.int pt.2) (by rw[Mw,eb];rfl) (by lia) ⟨l7,λp hp=>kk _ _ ⟨af.new hp,ax.tupN hp (.cons (.int _) (.cons (.int _) .nil))⟩⟩⟩⟩
    ·exact out _ z G' ys D hp1 hz ez (by have m:=(Po (Pe hz)).2;simp at m;lia) ((tw9.same s13).same sG) ((mv9.trans (Mv.of s13)).trans (Mv.of sG)) hys hD
  ·obtain⟨hp1,z,hz,ez⟩:=Ao pl l2 up9 (λx hx=>by have:=iw x hx;lia) lw;have lz:(ns.zip ws).length=ns.length:=by rw[RQ];lia
   refine⟨_,rfl,L,_,rfl,.inl (bH.of gL9),_,rfl,by lia,by lia,gq (K:=K) (lo:=0) (ds:=(ns.zip ws).map p9) (by rw[Mq];lia) (by lia) (λi d G hd sG R kk S=>?_) (λys G sG hys D hD=>?_)⟩
   ·rw[Mw] at hd;obtain⟨pt,ept,rfl⟩:=MJ.mp hd;obtain⟨ea,eb⟩:=M8.mp ept;exact aW (B:=S G) ⟨_,rfl,_,rfl,Hw (sG _ _ gL9) (j:=i) (v:=.int pt.1) (by rw[Mw,ea];rfl) (by lia) ⟨_,rfl,_,rfl,Hw (sG _ _ g9) (j:=i) (v:=.int pt.2) (by rw[Mw,eb];rfl) (by lia) ⟨l7,λp hp=>kk _ _ ⟨af.new hp,ax.tupN hp (.cons (.int _) (.cons (.int _) .nil))⟩⟩⟩⟩
   ·exact out _ z G ys D hp1 hz ez (iw z.2 (Po (Pe hz)).2).2 (tw9.same sG) (mv9.trans (Mv.of sG)) hys hD
theorem fH:ao ["_law_town_here","_law_kind","_law_first","_law_cap"] uA3 (ah jj):=df
inductive rN (K:HD)(vs:List V)(H:Hp)(Q:VK)(_:XK):Prop
 |mk (t r:Mz) (_:vs=[.ref t]) (_:bQ H t r) (_:∀ (v:V) (s:S9) (H':Hp),ax K (cut [t,r] H') s.d v->s.In->bQ H' t r->Mv [t,r] H H'->Q v H')
def K_ (d:M4):Prop:=∃ i:Int,d=.int i/\-4000<=i/\i<=4000
theorem DG {ds:List M4}(hl:ds.length=3)(h:∀ d∈ds,K_ d):∃ r:R3,ds=r.ds/\r.In 4000:=by
 match ds,hl,h with
 |[x,y,z],_,h=>
  obtain⟨a,rfl,a1,a2⟩:=h x (by simp);obtain⟨b,rfl,b1,b2⟩:=h y (by simp);obtain⟨c,rfl,c1,c2⟩:=h z (by simp);exact⟨⟨a,b,c⟩,rfl,a1,a2,b1,b2,c1,c2⟩
theorem tF (T:cZ K mg w):dN P w K mg base cP 3 "_law_square" uA3 [] (rN K):=by
  refine T.x37.cal fH (bb:=λ_ _ _ _ _ H vs Q E hr h=>?_);obtain⟨t,r,rfl,tw,q⟩:=h;refine⟨_,(cM.go (ab (av 1 fH.nd (ac ay (aI T) hr (aD (aj 0) aa)))
   (ab (a_ (aR eI (aj 1) aa (aV _)) (ag (ar (be (ak (be (ak aa (ak aa (ak aa aZ)))) (ak (be (ak aa (ak aa (ak aa aZ)))) (ak (be (ak aa (ak aa (ak aa aZ)))) aZ)))))) aH)
   (ab (a_ (aR eI (aj 1) aa (aV _)) (ab (cn 2 uB8 uA3 [0] 1 fH.nd (bg rfl T.x1 (aE aa)) (λnd=>(ai 0 nd)) aA (ap cm (ac ay (aI T) hr (aD (aj 1) aa)) aa))
   (ag (ar (b9 (ak (aj 2) (ak (aF ["_law_one"] [] [] 1 (bx (K:=K) rfl (aj 2)) (λnd=>(ai 0 nd)) aA (ap aO aa (aj 0))) (ak (aF uB8 uA3 [0] 1 (bg rfl T.x1 (aE aa)) (λnd=>(ai 0 nd)) aA (ac ay (aI T) hr (aD (aj 1) aa))) aZ))))))) aH)
   (ab (av 3 fH.nd (ac ay (fV T) hr (aD (aj 0) (b9 (ak aa (ak aa (ak aa aZ)))))))
   (ag (ar (aF ["_law_j"] uA2 [0,3] 1 (bg rfl T.x1 (aE aa)) (λnd=>(ai 0 nd)) aA (aF uB8 uA2 [1,2] 1 (bg rfl T.x1 (aE aa)) (λnd=>(ai 0 nd)) aA (ap cm (ac ay (aI T) hr (aD (aj 1) (ap cQ (ap aO aa (aj 2)) aa))) (aj 2))))))))))),?_⟩
  have s64:∀ {n:Int},0<n->n<100000->Sm 8000 n:=λh1 h2=>Sm.mono (k:=20) (by unfold Sm;lia) (by decide)
  refine⟨_,rfl,t,r,4,rfl,tw,by decide,s64 (by decide) (by decide),λd1 H1 a1 b1 tw1 mv1=>?_⟩;refine⟨_,rfl,_,_,rfl,rfl,_,rfl,?_⟩;refine f9 (λ_=>?_) (λ_=>?_)
  ·refine⟨Eo,λp hp=>⟨Eo,λp2 hp2=>⟨Eo,λp3 hp3=>⟨Eo,λp4 hp4=>?_⟩⟩⟩⟩;have t1:ax K (upd H1 p (.tup [.int 412,.int 357,.int 180])) (dk false ⟨412,357,180⟩) (.ref p):=ax.tupN hp (.cons (.int _) (.cons (.int _) (.cons (.int _) .nil)));have sa:af H1 (upd H1 p (.tup [.int 412,.int 357,.int 180])):=af.new hp;generalize upd H1 p (.tup [.int 412,.int 357,.int 180])=H2 at t1 sa hp2 hp3 hp4 ⊢;have t2:ax K (upd H2 p2 (.tup [.int 212,.int 715,.int 72])) (dk false ⟨212,715,72⟩) (.ref p2):=ax.tupN hp2 (.cons (.int _) (.cons (.int _) (.cons (.int _) .nil)));have sb:af H2 (upd H2 p2 (.tup [.int 212,.int 715,.int 72])):=af.new hp2;generalize upd H2 p2 (.tup [.int 212,.int 715,.int 72])=H3 at t2 sb hp3 hp4 ⊢;have t3:ax K (upd H3 p3 (.tup [.int 19,.int 119,.int 950])) (dk false ⟨19,119,950⟩) (.ref p3):=ax.tupN hp3 (.cons (.int _) (.cons (.int _) (.cons (.int _) .nil)));have sc:af H3 (upd H3 p3 (.tup [.int 19,.int 119,.int 950])):=af.new hp3;generalize upd H3 p3 (.tup [.int 19,.int 119,.int 950])=H4 at t3 sc hp4 ⊢;have sd:af H4 (upd H4 p4 (.tup [.ref p,.ref p2,.ref p3])):=af.new hp4;have s4:af H1 (upd H4 p4 (.tup [.ref p,.ref p2,.ref p3])):=(sa.trans sb).trans (sc.trans sd);have tw4:=tw1.same s4;have hh:ax K (upd H4 p4 (.tup [.ref p,.ref p2,.ref p3])) (S9.d ⟨false,false,false,false,⟨412,357,180⟩,⟨212,715,72⟩,⟨19,119,950⟩⟩) (.ref p4):=
    ax.tupN hp4 (.cons (ax.same (sb.trans sc) t1) (.cons (ax.same sc t2) (.cons t3 .nil)))
   refine q _ ⟨false,false,false,false,⟨412,357,180⟩,⟨212,715,72⟩,⟨19,119,950⟩⟩ _ (ax.cutT tw4.lists rfl hh) ?_ tw4 (mv1.trans (Mv.of s4));exact⟨⟨by decide,by decide,by decide,by decide,by decide,by decide⟩,⟨by decide,by decide,by decide,by decide,by decide,by decide⟩,⟨by decide,by decide,by decide,by decide,by decide,by decide⟩⟩
  refine⟨_,rfl,_,_,rfl,rfl,_,rfl,?_⟩;refine f9 (λ_=>?_) (λ_=>?_)
  ·refine⟨3,rfl,by decide,by decide,dO (K:=K) (lo:=0) (n:=3) (Pd:=λd=>∃ i:Int,d=.int i/\-2000<=i/\i<=2000) tw1 (by decide) (λi H2 hi tw2 mv2 R kk S=>?_) (λds ys H2 hl hP tw2 mv2 hys D hD=>?_)⟩
   ·refine aW (B:=S H2) ⟨_,rfl,t,r,9,rfl,tw2,by decide,s64 (by decide) (by decide),λd2 H3 a2 b2 nB mv3=>⟨_,_,rfl,rfl,kk _ _ ⟨nB,mv3,.int (d2-4),⟨_,rfl,by lia,by lia⟩,.int _⟩⟩⟩
   obtain⟨r1,rfl,i1⟩:∃ r1:R3,ds=r1.ds/\r1.In 2000:=by
    match ds,hl,hP with
    |[x,y,z],_,h=>
     obtain⟨a,rfl,a1,a2⟩:=h x (by simp);obtain⟨b,rfl,b1,b2⟩:=h y (by simp);obtain⟨c,rfl,c1,c2⟩:=h z (by simp);exact⟨⟨a,b,c⟩,rfl,a1,a2,b1,b2,c1,c2⟩
   have sD:af H2 (upd H2 D (.lst ys)):=af.new hD;have c1:=gu tw2 hD hys;have nB:=tw2.same sD;have mv3:=(mv1.trans mv2).trans (Mv.of sD);generalize upd H2 D (.lst ys)=H3 at sD c1 nB mv3 ⊢;have g1:=ax.uncut c1;obtain⟨b,xs,eb,hb,hxs⟩:=aN (b:=true) g1;cases eb;refine⟨_,rfl,_,rfl,D,true,rfl,⟨_,hb⟩,bX (es:=(R3.mk (2*r1.a) (2*r1.b) (2*r1.c)).ds) hb hxs rfl (by show 3<=1000;decide) (λi d e u H4 hd he s4 hu R kk S=>?_) (λzs H4 s4 hzs D2 hD2=>?_)⟩
   ·refine aW (B:=S H4) ?_;rcases pJ hd with ⟨rfl,rfl⟩|⟨rfl,rfl⟩|⟨rfl,rfl⟩<;>(cases hu;cases(Mi he);exact⟨_,rfl,_,_,rfl,rfl,.inr (by unfold Sm;decide),kk _ _ ⟨af.refl _,.int _⟩⟩)
   have tw4:=nB.same s4;have sD2:af H4 (upd H4 D2 (.lst zs)):=af.new hD2;have zz:=h_ hzs;subst zz;have c2:ax K (cut [t,r] (upd H4 D2 (.lst (R3.mk (2*r1.a) (2*r1.b) (2*r1.c)).vs))) (dk true ⟨2*r1.a,2*r1.b,2*r1.c⟩) (.ref D2):=gu tw4 hD2 (.cons (.int _) (.cons (.int _) (.cons (.int _) .nil)));have c1':=ax.same (af.cut (T:=[t,r]) (s4.trans sD2)) c1;have tw5:=tw4.same sD2;have mv5:=(mv3.trans (Mv.of s4)).trans (Mv.of sD2);generalize upd H4 D2 (.lst (R3.mk (2*r1.a) (2*r1.b) (2*r1.c)).vs)=H5 at c2 c1' tw5 mv5 ⊢;refine⟨3,rfl,by decide,by decide,dO (K:=K) (lo:=0) (n:=3) (Pd:=K_) tw5 (by decide) (λi H6 hi tw6 mv6 R kk S=>?_) (λds ys H6 hl hP tw6 mv6 hys D3 hD3=>?_)⟩
   ·refine aW (B:=S H6) ⟨_,rfl,t,r,99,rfl,tw6,by decide,s64 (by decide) (by decide),λd2 H7 a2 b2 tw7 mv7=>kk _ _ ⟨tw7,mv7,.int d2,⟨_,rfl,by lia,by lia⟩,.int _⟩⟩
   obtain⟨r3,rfl,i3⟩:=DG hl hP;have c3:=gu tw6 hD3 hys;have sD3:af H6 (upd H6 D3 (.lst ys)):=af.new hD3;have c1'':=ax.same ((mv6.trans (Mv.of sD3)).cut) c1';have c2':=ax.same ((mv6.trans (Mv.of sD3)).cut) c2;have tw7:=tw6.same sD3;have mv7:=(mv5.trans mv6).trans (Mv.of sD3);generalize upd H6 D3 (.lst ys)=H7 at c3 c1'' c2' tw7 mv7 ⊢;refine⟨Eo,λL hL=>?_⟩;refine q _ ⟨true,true,true,true,r1,⟨2*r1.a,2*r1.b,2*r1.c⟩,r3⟩ _ (gu (ds:=[dk true r1,dk true ⟨2*r1.a,2*r1.b,2*r1.c⟩,dk true r3]) tw7 hL (.cons c1'' (.cons c2' (.cons c3 .nil)))) ⟨?_,?_,i3⟩ (tw7.same (af.new hL)) (mv7.trans (Mv.of (af.new hL)))
   ·obtain⟨a1,a2,b1,b2,c1,c2⟩:=i1;exact⟨by show -4000<=r1.a;lia,by show r1.a<=4000;lia,by show -4000<=r1.b;lia,by show r1.b<=4000;lia,by show -4000<=r1.c;lia,by show r1.c<=4000;lia⟩
   ·obtain⟨a1,a2,b1,b2,c1,c2⟩:=i1;exact⟨by show -4000<=2*r1.a;lia,by show 2*r1.a<=4000;lia,by show -4000<=2*r1.b;lia,by show 2*r1.b<=4000;lia,by show -4000<=2*r1.c;lia,by show 2*r1.c<=4000;lia⟩
  refine⟨_,rfl,Eo,λp hp=>?_⟩;obtain⟨_,_,k1,k2,_⟩:=id tw1;refine⟨t,r,p,_,rfl,tw1.same (af.new hp),ae,(aL k1 hp).symm,(aL k2 hp).symm,by simp,by decide,λi v H2 hv tw2 mv2=>?_⟩;obtain⟨cap,rfl,h1,h2⟩:∃ cap:Int,v=.int cap/\0<cap/\cap<=4000:=by
   rcases pJ hv with ⟨_,rfl⟩|⟨_,rfl⟩|⟨_,rfl⟩<;>exact⟨_,rfl,by decide,by decide⟩
  have mv2':=(mv1.trans (Mv.of (af.new hp))).trans mv2;refine⟨3,rfl,by decide,by decide,dO (K:=K) (lo:=0) (n:=3) (Pd:=λd=>∃ r:R3,d=dk true r/\r.In 4000) tw2 (by decide) (λi H3 hi nB mv3 R kk S=>?_) (λds ys H3 hl hP nB mv3 hys D hD=>?_)⟩
  ·refine aW (B:=S H3) ?_;refine⟨3,rfl,by decide,by decide,dO (K:=K) (lo:=0) (n:=3) (Pd:=K_) nB (by decide) (λi H4 hi tw4 mv4 R kk S=>?_) (λds ys H4 hl hP tw4 mv4 hys D hD=>?_)⟩
   ·refine aW (B:=S H4) ⟨_,rfl,_,rfl,_,_,rfl,rfl,.inr (by unfold Sm;decide),_,_,rfl,rfl,t,r,2*cap+1,rfl,tw4,by lia,s64 (by lia) (by lia),λd2 H5 a2 b2 tw5 mv5=>⟨_,rfl,_,_,rfl,rfl,kk _ _ ⟨tw5,mv5,.int (d2-cap),⟨_,rfl,by lia,by lia⟩,.int _⟩⟩⟩
   obtain⟨r3,rfl,i3⟩:=DG hl hP;exact kk _ _ ⟨tw4.same (af.new hD),mv4.trans (Mv.of (af.new hD)),dk true r3,⟨_,rfl,i3⟩,gu tw4 hD hys⟩
  obtain⟨r1,r2,r3,rfl,i1,i2,i3⟩:∃ r1 r2 r3:R3,ds=[dk true r1,dk true r2,dk true r3]/\r1.In 4000/\r2.In 4000/\r3.In 4000:=by
   match ds,hl,hP with
   |[x,y,z],_,h=>
    obtain⟨a,rfl,a1⟩:=h x (by simp);obtain⟨b,rfl,b1⟩:=h y (by simp);obtain⟨c,rfl,c1⟩:=h z (by simp);exact⟨a,b,c,rfl,a1,b1,c1⟩
  exact q _ ⟨true,true,true,true,r1,r2,r3⟩ _ (gu nB hD hys) ⟨i1,i2,i3⟩ (nB.same (af.new hD)) ((mv2'.trans mv3).trans (Mv.of (af.new hD)))
theorem bJ:ao ["_law_town_here","_law_size","_law_table","_law_kind","_law_rows","_law_a","_law_b","_law_c","_law_worth"] uC6 (ah kM):=df
inductive w_ (K:HD)(vs:List V)(H:Hp)(Q:VK)(_:XK):Prop
 |mk (t r:Mz) (n:Nat) (_:vs=[.ref t,.int n]) (_:bQ H t r) (_:2<=n) (_:n<=7) (_:∀ (d:Mz) (f:Kn->R3) (H':Hp),A7 K H' (bf n) f d->Aw n f->bQ H' t r->Mv [t,r] H H'->H d=none->Q (.ref d) H')
structure R4 where
 w:Int
 x:Int
 y:Int
 z:Int
def R4.ds (r:R4):List M4:=[.int r.w,.int r.x,.int r.y,.int r.z]
structure R4.In (r:R4):Prop where
 w0:0<=r.w
 w1:r.w<200
 x0:0<=r.x
 x1:r.x<90
 y0:0<=r.y
 y1:r.y<90
 z0:0<=r.z
 z1:r.z<90
theorem Ez {K:HD}{H:Hp}{r:R4}{v:V}(h:ax K H (.list r.ds) v):∃ a,v=.ref a/\bH K H a [.int r.w,.int r.x,.int r.y,.int r.z]:=by
 obtain⟨a,xs,rfl,ha,hx⟩:=aN (b:=true) (ds:=r.ds) h;have e:xs=[r.w,r.x,r.y,r.z].map V.int:=dD (ns:=[r.w,r.x,r.y,r.z]) hx;subst e;exact⟨a,rfl,ha⟩
structure R3.Up (r:R3):Prop where
 a:0<=r.a
 b:0<=r.b
 c:0<=r.c
theorem Jm {ds:List M4}(hl:ds.length=3)(h:∀ d∈ds,∃ i:Int,d=.int i/\0<=i):∃ r:R3,ds=r.ds/\r.Up:=by
 match ds,hl,h with
 |[x,y,z],_,h=>
  obtain⟨a,rfl,a1⟩:=h x (by simp);obtain⟨b,rfl,b1⟩:=h y (by simp);obtain⟨c,rfl,c1⟩:=h z (by simp);exact⟨⟨a,b,c⟩,rfl,a1,b1,c1⟩
structure kj (K:HD)(t r d R:Mz)(rs:M4)(H1:Hp)(ts:List Kn)(H':Hp):Prop where
 tw:bQ H' t r
 mv:Mv [t,r,d] H1 H'
 rs:ax K (cut [t,r] H') rs (.ref R)
 gr:∃ f,A7 K H' ts f d/\∀ u∈ts,(f u).Wt
theorem kj.same {K:HD}{t r d R:Mz}{rs:M4}{H1 H2 H3:Hp}{ts:List Kn}(h:kj K t r d R rs H1 ts H2)(s:af H2 H3):kj K t r d R rs H1 ts H3:=
 ⟨h.tw.same s,h.mv.trans (Mv.of s),ax.same (af.cut s) h.rs,let ⟨f,a,b⟩:=h.gr;⟨f,a.same s,b⟩⟩
theorem kj.draw {K:HD}{t r d R:Mz}{rs:M4}{H1 H2 H3:Hp}{ts:List Kn}(h:kj K t r d R rs H1 ts H2)(tw:bQ H3 t r)(m:Mv [t,r] H2 H3):kj K t r d R rs H1 ts H3:=
 ⟨tw,h.mv.trans m.wide,ax.same m.cut h.rs,let ⟨f,a,b⟩:=h.gr;⟨f,a.mv m h.tw.lists,b⟩⟩
theorem vU (T:cZ K mg w):dN P w K mg base cP 2 "_law_grid" uC6 [] (w_ K):=by
  refine T.x38.cal bJ (bb:=λ_ _ _ _ _ H vs Q E hr h=>?_);obtain⟨t,r,n,rfl,tw,h2,h7,q⟩:=h;refine⟨_,(cM.go (ab (av 2 bJ.nd Cy)
   (ab (av 3 bJ.nd (ac ay (aI T) hr (aD (aj 0) aa)))
   (ab (cn 4 uB8 uA3 [0] 1 bJ.nd (bg rfl T.x1 (aE aa)) (λnd=>(ai 0 nd)) aA (b9 (ak (ac ay (aI T) hr (aD (aj 1) aa)) (ak (ac ay (aI T) hr (aD (aj 1) aa)) (ak (ac ay (aI T) hr (aD (aj 1) aa)) (ak (ac ay (aI T) hr (aD (aj 1) aa)) aZ))))))
   (ab (eA Nr rfl (bg rfl T.x1 (aE (aj 1))) (ai 5 bJ.nd) (ag (eA Nr rfl (bg rfl T.x1 (aE (aj 1))) (ai 6 bJ.nd) (ag (eA Nr rfl (bg rfl T.x1 (aE (aj 1))) (ai 7 bJ.nd) (ab (a_ (aR eI (aj 3) aa (aV _)) (ag (cn 8 uD3 ["_law_a","_law_b","_law_c"] [5,6,7] 4 bJ.nd (bx (K:=K) rfl (aj 4)) (λnd=>(Eg (K:=K) (n:=4) rfl rfl (aw (ai 0 nd) (aw (ai 1 nd) (aw (ai 2 nd) (aw (ai 3 nd) bu)))))) aA (ap cQ (ap cQ (ap cQ (aj 0) (ap aO (aj 1) (aj 4))) (ap aO (aj 2) (aj 5))) (ap aO (aj 3) (aj 6))))) (ag (a_ (aR eI (aj 3) aa (aV _)) (ag (cn 8 uB8 uA3 [0] 1 bJ.nd (bg rfl T.x1 (aE aa)) (λnd=>(ai 0 nd)) aA (ac ay (aI T) hr (aD (aj 1) aa)))) (ag (cn 8 uD3 ["_law_a","_law_size","_law_b","_law_c"] [5,1,6,7] 4 bJ.nd (bx (K:=K) rfl (aj 4)) (λnd=>(Eg (K:=K) (n:=4) rfl rfl (aw (ai 0 nd) (aw (ai 1 nd) (aw (ai 2 nd) (aw (ai 3 nd) bu)))))) aA (au (lW rfl) (by rfl) T.xg wP (aD aa (ap cQ (ap cQ (ap cQ (aj 0) (ap dR (ap aO (ap aO (aj 1) (aj 4)) (aj 4)) (aj 5))) (ap aO aa (aj 6))) (ap aO aa (aj 7))))))))))
   (ab (a_ (WW.pt (Bg (aR eI (aj 5) (aj 6) (aV _)) (Bg (aR eI (aj 6) (aj 7) (aV _)) (Fq (aR eI (aj 3) aa (aV _)))))) (ag (av 8 bJ.nd (ap E_ (b9 (aE (am K (aj 8) aa))) aa))) aH)
   (ag (Ei hr.u1 (aj 2) (be (ak (aj 5) (ak (aj 6) (ak (aj 7) aZ)))) (bV (i9 (K:=K) rfl) (by rfl) T.x5 cJ (aE (aF ["_law_one"] [] [] 1 (bx (K:=K) rfl (aj 8)) (λnd=>(ai 0 nd)) aA (au (lW rfl) (by rfl) T.xg wP (aD aa (aj 0)))))) rfl)))))))))
   (ag (ar (aj 2)))))))),?_⟩
  have s64:∀ {n:Int},0<n->n<100000->Sm 8000 n:=λh1 h2=>Sm.mono (k:=20) (by unfold Sm;lia) (by decide)
  refine λd hd=>?_
  have sd:af H (upd H d (.dT [])):=af.new hd;have tw0:=tw.same sd;have gd0:upd H d (.dT []) d=some (.dT []):=ae;generalize hH0:upd H d (.dT [])=H0 at sd tw0 gd0 ⊢;refine⟨_,rfl,t,r,3,rfl,tw0,by decide,s64 (by decide) (by decide),λkd H1 k0 k3 tw1 mv1=>?_⟩;refine⟨3,rfl,by decide,by decide,dO (K:=K) (lo:=0) (n:=3) (Pd:=λd=>∃ r:R4,d=.list r.ds/\r.In) tw1 (by decide) (λi H2 hi tw2 mv2 R kk S=>?_) (λds ys H2 hl hP tw2 mv2 hys R hR=>?_)⟩
  ·refine aW (B:=S H2) ⟨_,rfl,t,r,200,rfl,tw2,by decide,s64 (by decide) (by decide),λx1 H3 a1 b1 nB mv3=>?_⟩;refine⟨_,rfl,t,r,90,rfl,nB,by decide,s64 (by decide) (by decide),λx2 H4 a2 b2 tw4 mv4=>?_⟩;refine⟨_,rfl,t,r,90,rfl,tw4,by decide,s64 (by decide) (by decide),λx3 H5 a3 b3 tw5 mv5=>?_⟩;refine⟨_,rfl,t,r,90,rfl,tw5,by decide,s64 (by decide) (by decide),λx4 H6 a4 b4 tw6 mv6=>⟨L7,λL hL=>?_⟩⟩;exact kk _ _ ⟨tw6.same (af.new hL),(((mv3.trans mv4).trans mv5).trans mv6).trans (Mv.of (af.new hL)),_,⟨⟨x1,x2,x3,x4⟩,rfl,a1,b1,a2,b2,a3,b3,a4,b4⟩,gu tw6 hL (.cons (.int _) (.cons (.int _) (.cons (.int _) (.cons (.int _) .nil))))⟩
  obtain⟨r1,r2,r3,rfl,i1,i2,i3⟩:∃ r1 r2 r3:R4,ds=[.list r1.ds,.list r2.ds,.list r3.ds]/\r1.In/\r2.In/\r3.In:=by
   match ds,hl,hP with
   |[x,y,z],_,h=>
    obtain⟨a,rfl,a1⟩:=h x (by simp);obtain⟨b,rfl,b1⟩:=h y (by simp);obtain⟨c,rfl,c1⟩:=h z (by simp);exact⟨a,b,c,rfl,a1,b1,c1⟩
  have nd:d∉[t,r]:=λm=>by
   obtain⟨xs,e⟩:=tw0.lists d m;rw[gd0] at e;cases e
  have gi0:kj K t r d R (.list [.list r1.ds,.list r2.ds,.list r3.ds]) H0 [] (upd H2 R (.lst ys)):=⟨tw2.same (af.new hR),((mv1.trans mv2).trans (Mv.of (af.new hR))).wide,gu tw2 hR hys,λ_=>⟨0,0,0⟩,⟨[],af.new hR _ _ (mv2 _ _ (mv1 _ _ gd0 nd) nd),.nil⟩,λ_ m=>nomatch m⟩
  generalize upd H2 R (.lst ys)=H3 at gi0 ⊢;have lt:∀ {x:Int}{m:Nat},0<=x->x<200->m<7->Sm 64 x:=λh1 h2 _=>by unfold Sm;lia
  have inr:∀ {rr:R4},rr=r1\/rr=r2\/rr=r3->rr.In:=λh=>by rcases h with rfl|rfl|rfl<;>assumption
  refine⟨_,rfl,(n:Int),rfl,by lia,by lia,ia (lo:=0) (n:=(n:Int).toNat) (λi σ H'=>(∃ oa ob oc ow,σ=[some (.ref t),some (.int n),some (.ref d),some (.int kd),some (.ref R),oa,ob,oc,ow])/\kj K t r d R (.list [.list r1.ds,.list r2.ds,.list r3.ds]) H0 (um n i) H')
   ⟨⟨_,_,_,_,rfl⟩,gi0⟩ ?_ ?_⟩
  ·rintro i σ H4 hi ⟨⟨oa,ob,oc,ow,rfl⟩,gi1⟩;have hi:i<n:=by lia
   refine⟨_,rfl,(n:Int),rfl,by lia,by lia,ia (lo:=0) (n:=(n:Int).toNat) (λj σ H'=>(∃ ob oc ow,σ=[some (.ref t),some (.int n),some (.ref d),some (.int kd),some (.ref R),some (.int (0+i)),ob,oc,ow])/\kj K t r d R (.list [.list r1.ds,.list r2.ds,.list r3.ds]) H0 (um n i++t_ n i j) H')
    ⟨⟨_,_,_,rfl⟩,by simpa [t_] using gi1⟩ ?_ ?_⟩
   ·rintro j σ H5 hj ⟨⟨ob,oc,ow,rfl⟩,gi2⟩;have hj:j<n:=by lia
    refine⟨_,rfl,(n:Int),rfl,by lia,by lia,ia (lo:=0) (n:=(n:Int).toNat) (λk σ H'=>(∃ oc ow,σ=[some (.ref t),some (.int n),some (.ref d),some (.int kd),some (.ref R),some (.int (0+i)),some (.int (0+j)),oc,ow])/\kj K t r d R (.list [.list r1.ds,.list r2.ds,.list r3.ds]) H0 (um n i++t_ n i j++uQ i j k) H')
     ⟨⟨_,_,rfl⟩,by simpa [uQ] using gi2⟩ ?_ ?_⟩
    ·rintro k σ H6 hk ⟨⟨oc,ow,rfl⟩,gi3⟩;have hk:k<n:=by lia
     obtain⟨b0,xs,eb,hb,hxs⟩:=aN (b:=true) (ds:=[.list r1.ds,.list r2.ds,.list r3.ds]) (ax.uncut gi3.rs);cases eb;apply KO (I:=λwv H'=>∃ (W:Mz) (wr:R3),wv=.ref W/\kj K t r d R (.list [.list r1.ds,.list r2.ds,.list r3.ds]) H0 (um n i++t_ n i j++uQ i j k) H'/\H' W=some (.lst wr.vs)/\wr.Up)
     case main=>
      intro rest1;refine⟨_,rfl,_,_,rfl,rfl,_,rfl,f9 (λhc=>?k0) (λhc=>?kx)⟩
      case' k0=>
       refine⟨_,rfl,R,true,rfl,⟨_,hb⟩,bX (es:=[.int (r1.w+r1.x*(0+i)+r1.y*(0+j)+r1.z*(0+k)),.int (r2.w+r2.x*(0+i)+r2.y*(0+j)+r2.z*(0+k)),.int (r3.w+r3.x*(0+i)+r3.y*(0+j)+r3.z*(0+k))]) hb hxs rfl (by show 3<=1000;decide) (λii dd ee u H7 hd he s7 hu RR kk S=>?_) (λzs H7 s7 hzs W hW=>?_)⟩
       ·obtain⟨rr,hrr,rfl,rfl⟩:∃ rr:R4,(rr=r1\/rr=r2\/rr=r3)/\dd=.list rr.ds/\ee=.int (rr.w+rr.x*(0+i)+rr.y*(0+j)+rr.z*(0+k)):=by
         rcases pJ hd with ⟨rfl,rfl⟩|⟨rfl,rfl⟩|⟨rfl,rfl⟩
         ·exact⟨r1,.inl rfl,rfl,(Mi he).symm⟩
         ·exact⟨r2,.inr (.inl rfl),rfl,(Mi he).symm⟩
         ·exact⟨r3,.inr (.inr rfl),rfl,(Mi he).symm⟩
        obtain⟨w0,w1,x0,x1,y0,y1,z0,z1⟩:=inr hrr;obtain⟨ra,rfl,hra⟩:=Ez hu;refine⟨ra,_,rfl,.inl hra,rfl,_,_,rfl,_,_,rfl,_,_,rfl,_,_,rfl,rfl,aW (B:=S H7) ?_⟩;exact⟨_,rfl,_,rfl,_,rfl,_,_,rfl,rfl,.inr (by unfold Sm;lia),_,_,rfl,rfl,_,rfl,_,rfl,_,_,rfl,rfl,.inr (by unfold Sm;lia),_,_,rfl,rfl,_,rfl,_,rfl,_,_,rfl,rfl,.inr (by unfold Sm;lia),_,_,rfl,rfl,kk _ _ ⟨af.refl _,.int _⟩⟩
       have zz:=dD (ns:=[r1.w+r1.x*(0+i)+r1.y*(0+j)+r1.z*(0+k),r2.w+r2.x*(0+i)+r2.y*(0+j)+r2.z*(0+k),r3.w+r3.x*(0+i)+r3.y*(0+j)+r3.z*(0+k)]) hzs;subst zz;have gi4:=(gi3.same s7).same (af.new (o:=.lst ([r1.w+r1.x*(0+i)+r1.y*(0+j)+r1.z*(0+k),r2.w+r2.x*(0+i)+r2.y*(0+j)+r2.z*(0+k),r3.w+r3.x*(0+i)+r3.y*(0+j)+r3.z*(0+k)].map V.int)) hW);have pos:∀ {rr:R4},rr.In->0<=rr.w+rr.x*(0+(i:Int))+rr.y*(0+(j:Int))+rr.z*(0+(k:Int)):=λh=>by
        have p1:=O7 h.x0 (show(0:Int)<=0+i by lia);have p2:=O7 h.y0 (show(0:Int)<=0+j by lia);have p3:=O7 h.z0 (show(0:Int)<=0+k by lia);have p4:=h.w0;lia
       obtain⟨wr,ewr,up⟩:∃ wr:R3,upd H7 W (.lst ([r1.w+r1.x*(0+i)+r1.y*(0+j)+r1.z*(0+k),r2.w+r2.x*(0+i)+r2.y*(0+j)+r2.z*(0+k),r3.w+r3.x*(0+i)+r3.y*(0+j)+r3.z*(0+k)].map V.int)) W=some (.lst wr.vs)/\wr.Up:=⟨⟨_,_,_⟩,ae,pos i1,pos i2,pos i3⟩
       generalize upd H7 W (.lst ([r1.w+r1.x*(0+i)+r1.y*(0+j)+r1.z*(0+k),r2.w+r2.x*(0+i)+r2.y*(0+j)+r2.z*(0+k),r3.w+r3.x*(0+i)+r3.y*(0+j)+r3.z*(0+k)].map V.int))=H8 at gi4 ewr ⊢
      case' kx=>
       refine⟨_,rfl,_,_,rfl,rfl,_,rfl,f9 (λhc1=>?k1) (λhc1=>?k2)⟩
      case' k1=>
       refine⟨3,rfl,by decide,by decide,dO (K:=K) (lo:=0) (n:=3) (Pd:=λd=>∃ i:Int,d=.int i/\0<=i) gi3.tw (by decide) (λii H7 hii tw7 mv7 RR kk S=>aW (B:=S H7) ⟨_,rfl,t,r,1001,rfl,tw7,by decide,s64 (by decide) (by decide),λx1 H9 a1 b1 tw9 mv9=>kk _ _ ⟨tw9,mv9,_,⟨x1,rfl,a1⟩,.int _⟩⟩) (λds ws H7 hl hP tw7 mv7 hws W hW=>?_)⟩;obtain⟨wr,rfl,up⟩:=Jm hl hP;have zz:=h_ hws;subst zz;have gi4:=(gi3.draw tw7 mv7).same (af.new (o:=.lst wr.vs) hW);have ewr:upd H7 W (.lst wr.vs) W=some (.lst wr.vs):=ae;generalize upd H7 W (.lst wr.vs)=H8 at gi4 ewr ⊢
      case' k2=>
       have e2:∃ g:R4->Int,g=λrr=>if rr.w+(rr.x*(0+(i:Int))*(0+(i:Int))).fdiv n+40*(0+(j:Int))+30*(0+(k:Int))<1000 then rr.w+(rr.x*(0+(i:Int))*(0+(i:Int))).fdiv n+40*(0+(j:Int))+30*(0+(k:Int)) else 1000:=⟨_,rfl⟩
       obtain⟨g,hg⟩:=e2;refine⟨_,rfl,R,true,rfl,⟨_,hb⟩,bX (es:=[.int (g r1),.int (g r2),.int (g r3)]) hb hxs rfl (by show 3<=1000;decide) (λii dd ee u H7 hd he s7 hu RR kk S=>?_) (λzs H7 s7 hzs W hW=>?_)⟩
       ·obtain⟨rr,hrr,rfl,rfl⟩:∃ rr:R4,(rr=r1\/rr=r2\/rr=r3)/\dd=.list rr.ds/\ee=.int (g rr):=by
         rcases pJ hd with ⟨rfl,rfl⟩|⟨rfl,rfl⟩|⟨rfl,rfl⟩
         ·exact⟨r1,.inl rfl,rfl,(Mi he).symm⟩
         ·exact⟨r2,.inr (.inl rfl),rfl,(Mi he).symm⟩
         ·exact⟨r3,.inr (.inr rfl),rfl,(Mi he).symm⟩
        obtain⟨w0,w1,x0,x1,y0,y1,z0,z1⟩:=inr hrr;obtain⟨ra,rfl,hra⟩:=Ez hu;have sx:Sm 64 (rr.x*(0+(i:Int))):=((show Sm 10 rr.x by unfold Sm;lia).mul (show Sm 10 (0+(i:Int)) by unfold Sm;lia)).mono (by decide);refine⟨ra,_,rfl,.inl hra,rfl,_,_,rfl,_,_,rfl,_,_,rfl,_,_,rfl,rfl,aW (B:=S H7) ?_⟩;refine⟨_,rfl,_,rfl,_,rfl,_,_,rfl,rfl,.inr (by unfold Sm;lia),_,rfl,_,_,rfl,rfl,.inr sx,_,rfl,_,_,rfl,rfl,⟨by lia,Sm.mono (k:=20) (by unfold Sm;lia) (by decide)⟩,_,_,rfl,rfl,_,rfl,_,_,rfl,rfl,.inr (by unfold Sm;decide),_,_,rfl,rfl,_,rfl,_,_,rfl,rfl,.inr (by unfold Sm;decide),_,_,rfl,rfl,_,_,rfl,kk _ _ ⟨af.refl _,?_⟩⟩;rw[hg];exact .int _
       have zz:=dD (ns:=[g r1,g r2,g r3]) hzs;subst zz;have gi4:=(gi3.same s7).same (af.new (o:=.lst ([g r1,g r2,g r3].map V.int)) hW);have pos:∀ {rr:R4},rr.In->0<=g rr:=λ{rr} h=>by
        have p1:=O7 (O7 h.x0 (show(0:Int)<=0+i by lia)) (show(0:Int)<=0+i by lia);have p2:0<=(rr.x*(0+(i:Int))*(0+(i:Int))).fdiv n:=by
         rw[Oq _ (by lia)];exact Ts p1 (by lia)
        have p4:=h.w0;rw[hg];dsimp only
        split<;>lia
       obtain⟨wr,ewr,up⟩:∃ wr:R3,upd H7 W (.lst ([g r1,g r2,g r3].map V.int)) W=some (.lst wr.vs)/\wr.Up:=⟨⟨_,_,_⟩,ae,pos i1,pos i2,pos i3⟩
       generalize upd H7 W (.lst ([g r1,g r2,g r3].map V.int))=H8 at gi4 ewr ⊢
      all_goals
       obtain⟨wv,ewv⟩:∃ wv,wv=V.ref W:=⟨_,rfl⟩
       rw[<- ewv];exact rest1 wv H8 ⟨W,wr,ewv,gi4,ewr,up⟩
     clear gi3 hb hxs;rintro wv H8 ⟨W,wr,rfl,gi4,ewr,up⟩;apply KO (I:=λwv H'=>∃ (W:Mz) (wr:R3),wv=.ref W/\kj K t r d R (.list [.list r1.ds,.list r2.ds,.list r3.ds]) H0 (um n i++t_ n i j++uQ i j k) H'/\H' W=some (.lst wr.vs)/\wr.Up)
     case main=>
      intro rest2;refine⟨_,rfl,_,rfl,_,_,rfl,rfl,_,rfl,f9 (λc1=>?c1t) (λc1=>bA ?c1f)⟩
      case c1t=>
       refine⟨_,rfl,_,rfl,_,_,rfl,rfl,_,rfl,f9 (λc2=>?c2t) (λc2=>bA ?c2f)⟩
       case c2t=>
        refine⟨_,rfl,_,_,rfl,rfl,_,rfl,f9 (λc3=>?c3t) (λc3=>?c3f)⟩
        case c3t=>
         refine⟨_,rfl,.inl ⟨W,_,0,.int wr.a,rfl,rfl,bH.of ewr,rfl,Jj,λp hp=>⟨p,3,_,rfl,rfl,ae,by decide,by decide,by show 3<=MI;decide,λp2 hp2=>?_⟩⟩⟩;have gi4:=(gi4.same (af.new (o:=.lst [.int wr.a]) hp)).same (af.new (o:=.lst (MF (3:Int).toNat [V.int wr.a]).flatten) hp2);have ewr2:upd (upd H8 p (.lst [.int wr.a])) p2 (.lst (MF (3:Int).toNat [V.int wr.a]).flatten) p2=some (.lst (R3.mk wr.a wr.a wr.a).vs):=ae;generalize upd (upd H8 p (.lst [.int wr.a])) p2 (.lst (MF (3:Int).toNat [V.int wr.a]).flatten)=H9 at gi4 ewr2 ⊢;obtain⟨wv,ewv⟩:∃ wv,wv=V.ref p2:=⟨_,rfl⟩
         rw[<- ewv];exact rest2 wv H9 ⟨p2,_,ewv,gi4,ewr2,up.a,up.a,up.a⟩
        case c3f=>exact rest2 (.ref W) H8 ⟨W,wr,rfl,gi4,ewr,up⟩
       case c2f=>exact rest2 (.ref W) H8 ⟨W,wr,rfl,gi4,ewr,up⟩
      case c1f=>exact rest2 (.ref W) H8 ⟨W,wr,rfl,gi4,ewr,up⟩
     clear gi4 ewr up;rintro wv H8 ⟨W,wr,rfl,gi4,ewr,up⟩;refine⟨_,rfl,_,true,rfl,⟨_,bH.of ewr⟩,bX (es:=[.int (min 1000 wr.a),.int (min 1000 wr.b),.int (min 1000 wr.c)]) (K:=K) (b:=true) (bH.of ewr) (.cons (.int wr.a) (.cons (.int wr.b) (.cons (.int wr.c) .nil))) rfl (by show 3<=1000;decide) (λii dd ee u H9 hd he s9 hu RR kk S=>?_) (λzs H9 s9 hzs D9 hD9=>?_)⟩
     ·refine aW (B:=S H9) ?_;rcases pJ hd with ⟨rfl,rfl⟩|⟨rfl,rfl⟩|⟨rfl,rfl⟩<;>(cases hu;cases(Mi he);exact⟨_,rfl,_,_,rfl,by rw[CU];exact kk _ _ ⟨af.refl _,.int _⟩⟩)
     ·have zz:=dD (ns:=[min 1000 wr.a,min 1000 wr.b,min 1000 wr.c]) hzs;subst zz;refine⟨D9,_,rfl,.inl ⟨bH.of ae,λl hl=>?_⟩⟩;have wtl:(R3.mk (min 1000 wr.a) (min 1000 wr.b) (min 1000 wr.c)).Wt:=by
       obtain⟨u1,u2,u3⟩:=up;exact⟨by show 0<=min 1000 wr.a;lia,by show min 1000 wr.a<=1000;lia,by show 0<=min 1000 wr.b;lia,by show min 1000 wr.b<=1000;lia,by show 0<=min 1000 wr.c;lia,by show min 1000 wr.c<=1000;lia⟩
      have gi5:=((gi4.same s9).same (af.new (o:=.lst ([min 1000 wr.a,min 1000 wr.b,min 1000 wr.c].map V.int)) hD9)).same (af.new (o:=.tup ([min 1000 wr.a,min 1000 wr.b,min 1000 wr.c].map V.int)) hl);have hlt:ax K (upd (upd H9 D9 (.lst ([min 1000 wr.a,min 1000 wr.b,min 1000 wr.c].map V.int))) l (.tup ([min 1000 wr.a,min 1000 wr.b,min 1000 wr.c].map V.int))) (wD ⟨min 1000 wr.a,min 1000 wr.b,min 1000 wr.c⟩) (.ref l):=ax.tupN hl (.cons (.int _) (.cons (.int _) (.cons (.int _) .nil)));generalize upd (upd H9 D9 (.lst ([min 1000 wr.a,min 1000 wr.b,min 1000 wr.c].map V.int))) l (.tup ([min 1000 wr.a,min 1000 wr.b,min 1000 wr.c].map V.int))=Ha at gi5 hlt ⊢;generalize R3.mk (min 1000 wr.a) (min 1000 wr.b) (min 1000 wr.c)=wf at wtl hlt;refine⟨_,rfl,_,rfl,_,rfl,_,rfl,Eo,λkt hkt=>?_⟩;have ek:[V.int (0+(i:Int)),V.int (0+(j:Int)),V.int (0+(k:Int))]=(cV (i,j,k)).map kV:=by rw[Sb,Sb,Sb];rfl
      have gi6:=gi5.same (af.new (o:=.tup [V.int (0+(i:Int)),V.int (0+(j:Int)),V.int (0+(k:Int))]) hkt);have hlt:=ax.same (af.new (o:=.tup [V.int (0+(i:Int)),V.int (0+(j:Int)),V.int (0+(k:Int))]) hkt) hlt;have hkt':upd Ha kt (.tup [V.int (0+(i:Int)),V.int (0+(j:Int)),V.int (0+(k:Int))]) kt=some (.tup ((cV (i,j,k)).map kV)):=by rw[<- ek];exact ae
      generalize upd Ha kt (.tup [V.int (0+(i:Int)),V.int (0+(j:Int)),V.int (0+(k:Int))])=Hb at gi6 hlt hkt' ⊢;obtain⟨f,⟨vs,gd,gv⟩,gw⟩:=gi6.gr;have hlen:=A7.len gv;have fresh:((i,j,k):Kn)∉um n i++t_ n i j++uQ i j k:=λm=>by
       rcases M_.mp m with m|m
       ·rcases M_.mp m with m|m
        ·have:=(GM.mp m).1;exact absurd this (Nl _)
        ·have:=(A9.mp m).2.1;exact absurd this (Nl _)
       ·have:=(Bi.mp m).2.2;exact absurd this (Nl _)
      refine⟨d,_,rfl,Fa.t (k:=cV (i,j,k)) gd hkt' (by rw[sU hlen];exact bD (MQ (C6 h7 hi hj (Op hk)) (by decide))),⟨_,_,rfl⟩,?_⟩;rw[IX hlen fresh,yj,<- Ou];have sdb:jG Hb (upd Hb d (.dT (jV (um n i++t_ n i j++uQ i j k++[(i,j,k)]) (vs++[.ref l])))):=jG.put gd;refine⟨gi6.tw.sameD sdb,gi6.mv.trans λb o e nb=>?_,ax.sameD (jG.cut sdb) gi6.rs,λu=>if u=(i,j,k) then wf else f u,⟨_,ae,?_⟩,λu hu=>?_⟩
      ·rw[aq (λz=>nb (by simp[z]))];exact e
      ·rw[Og];refine(az.sameD sdb (show az K Hb _ _ from ?_)).snoc ?_
       ·have cg:(um n i++t_ n i j++uQ i j k).map (λu=>wD (if u=(i,j,k) then wf else f u))=(um n i++t_ n i j++uQ i j k).map (λu=>wD (f u)):=List.map_congr_left λu hu=>by
         have nu:u≠(i,j,k):=λz=>fresh (z▸hu)
         rw[MT nu]
        rw[cg];exact gv
       ·show ax K _ (wD (if((i,j,k):Kn)=(i,j,k) then wf else f (i,j,k))) _;rw[Nd rfl];exact ax.sameD sdb hlt
      ·show(if u=(i,j,k) then wf else f u).Wt;rcases M_.mp hu with hu|hu
       ·have nu:u≠(i,j,k):=λz=>fresh (z▸hu)
        rw[MT nu];exact gw u hu
       ·rw[Nd (Ml.mp hu)];exact wtl
    ·rintro σ H6 ⟨⟨oc,ow,rfl⟩,gi3⟩;refine⟨⟨_,_,_,rfl⟩,?_⟩;rw[sF,<- Ou];exact gi3
   ·rintro σ H5 ⟨⟨ob,oc,ow,rfl⟩,gi2⟩;refine⟨⟨_,_,_,_,rfl⟩,?_⟩;rw[sH];exact gi2
  ·rintro σ H4 ⟨⟨oa,ob,oc,ow,rfl⟩,gi1⟩;obtain⟨f,g1,g2⟩:=gi1.gr;refine⟨_,rfl,q d f H4 g1 (λu hu=>g2 u hu) gi1.tw (λb o e nb=>?_) hd⟩;refine gi1.mv b o (sd _ _ e) λz=>?_
   simp only[Mx,MM,Od] at z nb;rcases z with z|z|z
   ·exact nb (.inl z)
   ·exact nb (.inr z)
   ·rw[z,hd] at e;cases e
theorem nM:ao ["_law_town_here","_law_dark"] uA3 (ah lv):=df
inductive vP (K:HD)(vs:List V)(H:Hp)(Q:VK)(_:XK):Prop
 |mk (t r:Mz) (_:vs=[.ref t]) (_:bQ H t r) (_:∀ (v:V) (e:En) (H':Hp),ax K H' (.tuple [dk false e.w,dk false e.b]) v->e.In->bQ H' t r->Mv [t,r] H H'->Q v H')
theorem vI (T:cZ K mg w):dN P w K mg base cP 3 "_law_ends" uA3 [] (vP K):=by
  refine T.x39.cal nM (bb:=λ_ _ _ _ _ H vs Q E hr h=>?_);obtain⟨t,r,rfl,tw,q⟩:=h;refine⟨_,(cM.go (ab (cn 1 uB8 uA3 [0] 1 nM.nd (bg rfl T.x1 (aE aa)) (λnd=>(ai 0 nd)) aA (ac ay (fV T) hr (aD (aj 1) (b9 (ak aa (ak aa (ak (ac ay (aI T) hr (aD (aj 1) aa)) aZ)))))))
   (ag (ar (be (aD (bV (i9 (K:=K) rfl) (by rfl) T.x5 cJ (aE (aF ["_law_one"] uA3 [0] 1 (bx (K:=K) rfl (aj 1)) (λnd=>(ai 0 nd)) aA (ap cQ (ap cQ (aj 0) aa) (ac ay (aI T) hr (aD (aj 1) (ap cm aa (aj 0)))))))) (bV (i9 (K:=K) rfl) (by rfl) T.x5 cJ (aE (aj 1))))))))),?_⟩
  have s64:∀ {n:Int},0<n->n<100000->Sm 8000 n:=λh1 h2=>Sm.mono (k:=20) (by unfold Sm;lia) (by decide)
  refine⟨3,rfl,by decide,by decide,dO (K:=K) (lo:=0) (n:=3) (Pd:=λd=>∃ i:Int,d=.int i/\0<=i/\i<=399) tw (by decide) (λi H2 hi tw2 mv2 R kk S=>?_) (λds ys H2 hl hP tw2 mv2 hys D hD=>?_)⟩
  ·refine aW (B:=S H2) ⟨_,rfl,_,rfl,t,r,400,rfl,tw2,by decide,s64 (by decide) (by decide),λd2 H3 a2 b2 nB mv3=>⟨Eo,λp hp=>?_⟩⟩;have sp:af H3 (upd H3 p (.lst [.int 0,.int 0,.int d2])):=af.new hp;have np:=nB.not hp;refine⟨t,r,p,_,rfl,nB.same sp,ae,λz=>np (by simp[z]),λz=>np (by simp[z]),by simp,by show 3<=1000;decide,λj v H4 hv tw4 mv4=>?_⟩;refine kk _ _ ⟨tw4,(mv3.trans (Mv.of sp)).trans mv4,?_⟩;rcases pJ hv with ⟨rfl,rfl⟩|⟨rfl,rfl⟩|⟨rfl,rfl⟩
   ·exact⟨_,⟨0,rfl,by decide,by decide⟩,.int _⟩
   ·exact⟨_,⟨0,rfl,by decide,by decide⟩,.int _⟩
   ·exact⟨_,⟨d2,rfl,a2,by lia⟩,.int _⟩
  obtain⟨b,rfl,bi⟩:∃ b:R3,ds=b.ds/\(0<=b.a/\b.a<=399/\0<=b.b/\b.b<=399/\0<=b.c/\b.c<=399):=by
   match ds,hl,hP with
   |[x,y,z],_,h=>
    obtain⟨a,rfl,a1,a2⟩:=h x (by simp);obtain⟨b,rfl,b1,b2⟩:=h y (by simp);obtain⟨c,rfl,c1,c2⟩:=h z (by simp);exact⟨⟨a,b,c⟩,rfl,a1,a2,b1,b2,c1,c2⟩
  cases h_ hys;generalize e0:upd H2 D _=G;have sD:=nv hD e0;have gD:=iS e0;have nD:=tw2.not hD;have nB:=tw2.same sD;have mv3:=mv2.trans (Mv.of sD);refine⟨_,rfl,D,true,rfl,⟨_,bH.of gD⟩,zn (K:=K) (xs:=b.vs) (Pn:=λi n=>∃ m,b.vs[i]?=some (.int m)/\m<n/\n<=1000) nB gD nD (by show 3<=1000;decide) (λi x H4 hx tw4 mv4 R kk S=>?_) (λns H4 hn hP4 tw4 mv4 D2 hD2=>?_)⟩
  ·obtain⟨m,rfl,m1,m2⟩:∃ m:Int,x=.int m/\0<=m/\m<=399:=by
    rcases pJ hx with ⟨rfl,rfl⟩|⟨rfl,rfl⟩|⟨rfl,rfl⟩
    ·exact⟨_,rfl,by lia,by lia⟩
    ·exact⟨_,rfl,by lia,by lia⟩
    ·exact⟨_,rfl,by lia,by lia⟩
   refine aW (B:=S H4) ⟨_,rfl,_,_,rfl,rfl,_,rfl,_,rfl,_,_,rfl,rfl,t,r,_,rfl,tw4,by lia,s64 (by lia) (by lia),λd5 H5 a5 b5 tw5 mv5=>⟨_,_,rfl,rfl,kk _ _ ⟨tw5,mv5,_,⟨m,hx,by lia,by lia⟩,rfl⟩⟩⟩
  obtain⟨w,ew,wi⟩:∃ w:R3,ns.map V.int=w.vs/\(b.a<w.a/\w.a<=1000/\b.b<w.b/\w.b<=1000/\b.c<w.c/\w.c<=1000):=by
   match ns,hn,hP4 with
   |[x,y,z],_,h=>
    obtain⟨a,ea,a1,a2⟩:=h 0 x rfl;obtain⟨b',eb,b1,b2⟩:=h 1 y rfl;obtain⟨c,ec,c1,c2⟩:=h 2 z rfl;cases ea;cases eb;cases ec;exact⟨⟨x,y,z⟩,rfl,a1,a2,b1,b2,c1,c2⟩
  rw[ew];have sD2:af H4 (upd H4 D2 (.lst w.vs)):=af.new hD2;refine⟨D2,_,rfl,.inl ⟨bH.of ae,λl hl=>?_⟩⟩;have sl:af (upd H4 D2 (.lst w.vs)) (upd (upd H4 D2 (.lst w.vs)) l (.tup w.vs)):=af.new hl;have gl:upd (upd H4 D2 (.lst w.vs)) l (.tup w.vs) l=some (.tup w.vs):=ae;have s5:=sD2.trans sl;have g5:=s5 _ _ (mv4 _ _ gD nD);generalize upd (upd H4 D2 (.lst w.vs)) l (.tup w.vs)=G5 at gl s5 g5 ⊢;refine⟨_,rfl,D,_,rfl,.inl ⟨bH.of g5,λl2 hl2=>⟨l7,λp hp=>?_⟩⟩⟩;have s6:af G5 (upd G5 l2 (.tup b.vs)):=af.new hl2;have s7:af (upd G5 l2 (.tup b.vs)) (upd (upd G5 l2 (.tup b.vs)) p (.tup [.ref l,.ref l2])):=af.new hp;refine q _ ⟨w,b⟩ _ (.tup ae (.cons (ax.same (s6.trans s7) (.tup gl (.cons (.int _) (.cons (.int _) (.cons (.int _) .nil))))) (.cons (ax.same s7 (.tup ae (.cons (.int _) (.cons (.int _) (.cons (.int _) .nil))))) .nil))) ⟨bi.1,wi.1,wi.2.1,bi.2.2.1,wi.2.2.1,wi.2.2.2.1,bi.2.2.2.2.1,wi.2.2.2.2.1,wi.2.2.2.2.2⟩ (tw4.same (s5.trans (s6.trans s7))) ((mv3.trans mv4).trans (Mv.of (s5.trans (s6.trans s7))))
theorem tK:ao uA6 uA6 (ah jo):=df
inductive rC (K:HD)(vs:List V)(H:Hp)(Q:VK)(_:XK):Prop
 |mk (t r:Mz) (cap:Int) (c:Bool) (_:vs=[.ref t,.int cap,.bl c]) (_:bQ H t r) (_:1<=cap) (_:cap<=1000) (_:∀ (D:Mz) (us:List V) (P:C3) (H':Hp),H D=none->H' D=some (.lst us)->D∉[t,r]->im K (cut [t,r] H') P us->P.In cap->bQ H' t r->Mv [t,r] H H'->Q (.ref D) H')
theorem kD (T:cZ K mg w):dN P w K mg base cP 8 "_law_curves" uA6 [] (rC K):=by
  refine T.x3a.cal tK (bb:=λ_ _ _ _ _ H vs Q E hr h=>?_);obtain⟨t,r,cap,c,rfl,tw,c1,c2,q⟩:=h;refine⟨_,(cM.go (ag (ar (aF uB8 uA6 [0,1,2] 1 (bg rfl T.x1 (aE aa)) (λnd=>(ai 0 nd)) aA (oh (K:=K) rfl ay (gQ T) (hr.mono (by decide)) rfl (aE (ac ay (rq T) hr (ak (aj 1) (ak aa (ak (aj 2) (ak (aj 3) aZ))))))))))),?_⟩;refine⟨3,rfl,by decide,by decide,qd (lo:=0) (n:=3) (λi us H'=>bQ H' t r/\Mv [t,r] H H'/\us.length=i/\∀ (j:Nat) (v:V),us[j]?=some v->∃ ps y z,kr K (cut [t,r] H') ps v/\t9 ps/\ps[0]?=some y/\ps.getLast?=some z/\z.1=60/\z.2<=cap) ⟨tw,Mv.refl,rfl,λj v e=>by simp at e⟩ (by decide) (λi us H' _ ⟨_,_,e,_⟩=>by lia) (λi us H' hi ⟨tw',mv',e,hc⟩ R S kk _=>?_) (λus H' ⟨tw',mv',e,hc⟩=>?_)⟩
  ·refine aW (B:=S H') ⟨_,rfl,_,rfl,_,rfl,t,r,60,cap,c,rfl,tw',by decide,by decide,c1,c2,λL ps z xs H1 hL hxs hp hz z1 z2 nL tw1 mv1=>?_⟩;refine λC a dx hC ha hdx hne=>?_
   generalize e0:upd (upd H1 dx _) a _=H5;have s5:=yF ha hdx hne e0;have gv:=iS e0;refine⟨a,C,dx,.ref L,ps,rfl,hC,gv,ax.same s5 (.lst (.inl hL) hxs),hp,λH6 mv6 cv6 cT6=>⟨rfl,kk _ _ ?_⟩⟩;have s6:af H1 H6:=λb' o e=>mv6 _ _ (s5 _ _ e) (λz=>by rw[Ml.mp z,ha] at e;cases e)
   refine⟨tw1.same s6,(mv'.trans mv1).trans (Mv.of s6),by rw[ML,e];rfl,λj v ej=>?_⟩;rcases gY ej with ⟨_,ej⟩|⟨rfl,rfl⟩
   ·obtain⟨ps',y,z',h1,h2⟩:=hc j v ej;exact⟨ps',y,z',(h1.same mv1.cut).same (af.cut s6),h2⟩
   ·exact⟨ps,ps[0]'(by have:=hp.two;lia),z,cT6 [t,r] (tw1.lists.same s5),hp,MC _,hz,z1,z2⟩
  ·intro D hD;obtain⟨u0,u1,u2,rfl⟩:=Ds e;obtain⟨p0,y0,z0,a0,b0,c0,d0,e0,f0⟩:=hc 0 u0 rfl;obtain⟨p1,y1,z1,a1,b1,c1',d1,e1,f1⟩:=hc 1 u1 rfl;obtain⟨p2,y2,z2,a2,b2,c2',d2,e2,f2⟩:=hc 2 u2 rfl;have sD:=af.new (o:=.lst [u0,u1,u2]) hD;refine q D [u0,u1,u2] ⟨p0,p1,p2⟩ _ (kZ mv' hD (tw'.not hD)) ae (tw'.not hD) ⟨rfl,λi v ei=>?_⟩ (λi hi=>?_) (tw'.same sD) (mv'.trans (Mv.of sD))
   ·rcases pJ ei with ⟨rfl,rfl⟩|⟨rfl,rfl⟩|⟨rfl,rfl⟩
    ·exact a0.same (af.cut sD)
    ·exact a1.same (af.cut sD)
    ·exact a2.same (af.cut sD)
   ·match i,hi with
    |0,_=>exact⟨b0,y0,z0,c0,d0,e0,f0⟩
    |1,_=>exact⟨b1,y1,z1,c1',d1,e1,f1⟩
    |2,_=>exact⟨b2,y2,z2,c2',d2,e2,f2⟩
theorem bO:ao ["_law_town_here","_law_bright","_law_dark","_law_edges","_law_curves_here","_law_square_here","_law_table"] uA3 (ah iN):=df
structure LP (K:HD)(t r:Mz)(P:C3)(b:S9 ⊕ (Kn->R3))(e:En)(cl:Mz)(us:List V)(pv sv dv:V)(H:Hp):Prop where
 tw:bQ H t r
 nc:cl∉[t,r]
 hl:H cl=some (.lst us)
 hc:im K (cut [t,r] H) P us
 hb:match b with
  |.inl s=>uc K (cut [t,r,cl] H) P s.cp e pv/\ax K (cut [t,r] H) s.d sv/\s.In/\P.In 1000
  |.inr f=>ui K (cut [t,r,cl] H) P f e pv/\sv=.non/\(∃ d,dv=.ref d/\Gr K H 2 f d)/\Aw 2 f/\P.In 60
inductive qx (K:HD)(vs:List V)(H:Hp)(Q:VK)(_:XK):Prop
 |mk (t r:Mz) (_:vs=[.ref t]) (_:bQ H t r) (_:∀ (Tp cl:Mz) (us:List V) (P:C3) (b:S9 ⊕ (Kn->R3)) (e:En) (pv sv dv ev:V) (H':Hp),H' Tp=some (.tup [pv,.ref cl,sv,dv,ev])->LP K t r P b e cl us pv sv dv H'->ax K H' (.tuple [dk false e.w,dk false e.b]) ev->e.In->Mv [t,r] H H'->Q (.ref Tp) H')
theorem qu (T:cZ K mg w):dN P w K mg base cP 11 "_law_profile" uA3 [] (qx K):=by
  refine T.x3b.cal bO (bb:=λ_ _ _ _ _ H vs Q E hr h=>?_);obtain⟨t,r,rfl,tw,q⟩:=h;refine⟨_,(cM.go (ab (i7 (ac ay (vI T) hr (aE (aj 0))) (cS (K:=K) (n:=2) rfl rfl (aw (ai 1 bO.nd) (aw (ai 2 bO.nd) bu))))
   (ab (av 3 bO.nd (yc (K:=K) rfl ay (ik T) (hr.mono (by decide)) rfl (jM (aj 1) (jM (aj 2) n_))))
   (ab (a_ (aR eI (ac ay (aI T) hr (aD (aj 0) aa)) aa (aV _)) (ab (av 4 bO.nd (ac ay (kD T) hr (ak (aj 0) (ak (ac ay (fV T) hr (aD (aj 0) (b9 (aD aa aa)))) (ak (cH eI (ac ay (aI T) hr (aD (aj 0) aa)) aa (aV _)) aZ)))))
   (ab (av 5 bO.nd (ac ay (tF T) hr (aE (aj 0))))
   (ag (ar (be (ak (vc (K:=K) rfl ay (gZ T) (hr.mono (by decide)) rfl (aD (aj 4) (aj 5)) (jM (aj 3) n_)) (ak (aj 4) (ak (aj 5) (ak vX (ak (be (aD (aj 1) (aj 2))) aZ)))))))))) aH)
   (ab (av 4 bO.nd (ac ay (kD T) hr (ak (aj 0) (ak aa (ak (cH eI (ac ay (aI T) hr (aD (aj 0) aa)) aa (aV _)) aZ)))))
   (ab (av 6 bO.nd (ac ay (vU T) hr (aD (aj 0) aa)))
   (ag (ar (be (ak (vc (K:=K) rfl ay (iU T) (hr.mono (by decide)) rfl (aD (aj 4) (oh (K:=K) rfl ay (ff T) (hr.mono (by decide)) rfl (aD aa (aj 6)))) (jM (aj 3) n_)) (ak (aj 4) (ak vX (ak (aj 6) (ak (be (aD (aj 1) (aj 2))) aZ)))))))))))))),?_⟩
  refine⟨_,rfl,t,r,rfl,tw,λv e H1 hv ie tw1 mv1=>?_⟩;obtain⟨ea,xs,rfl,hea,hes⟩:=aN (b:=false) (ds:=[dk false e.w,dk false e.b]) hv;obtain⟨x,y,rfl,hx,hy⟩:=Be hes;refine⟨ea,_,rfl,hea,rfl,_,_,rfl,_,_,rfl,rfl,_,rfl,_,rfl,λC1 a1 dx1 hC1 ha1 hdx1 hne1=>?_⟩;generalize e0:upd (upd H1 dx1 _) a1 _=H2;have s2:=yF ha1 hdx1 hne1 e0;have gv:=iS e0;refine⟨a1,C1,dx1,x,y,e,rfl,hC1,gv,ax.same s2 hx,ax.same s2 hy,ie,λH3 mv3 en=>⟨rfl,?_⟩⟩;have s3:af H1 H3:=λb' o z=>mv3 _ _ (s2 _ _ z) (λw=>by rw[Ml.mp w,ha1] at z;cases z)
  replace tw:=tw1.same s3;have mv:=mv1.trans (Mv.of s3);replace hx:=ax.same s3 hx;replace hy:=ax.same s3 hy;clear s2 gv mv3 s3 tw1 mv1 hv hea hes ha1 hdx1 hne1;have s64:∀ {n:Int},0<n->n<100000->Sm 8000 n:=λh1 h2=>Sm.mono (k:=20) (by unfold Sm;lia) (by decide)
  refine⟨_,rfl,t,r,2,rfl,tw,by decide,s64 (by decide) (by decide),λx0 H4 a0 b0 tw4 mv4=>⟨_,_,rfl,rfl,_,rfl,?_⟩⟩;replace en:=en.mv mv4 tw.lists;replace hx:=ax.mv mv4 tw.lists rfl hx;replace hy:=ax.mv mv4 tw.lists rfl hy;replace mv:=mv.trans mv4;clear tw mv4;refine f9 (λhc=>?_) (λhc=>?_)
  ·refine⟨_,rfl,_,rfl,l7,λp hp=>?_⟩;generalize e0:upd H4 p _=H5;have s5:=nv hp e0;have gp:=iS e0;have np:=tw4.not hp;refine⟨t,r,p,_,rfl,tw4.same s5,gp,λz=>np (by simp[z]),λz=>np (by simp[z]),by simp,by show 2<=1000;decide,λi v H6 ev tw6 mv6=>?_⟩;obtain⟨cap,rfl,c1,c2⟩:∃ cap:Int,v=.int cap/\1<=cap/\cap<=1000:=by
    have m:=ME ev;simp only[Mx,MM,Od] at m;rcases m with rfl|rfl
    ·exact⟨60,rfl,by decide,by decide⟩
    ·exact⟨1000,rfl,by decide,by decide⟩
   have mv6':=(Mv.of (T:=[t,r]) s5).trans mv6;refine⟨_,rfl,t,r,2,rfl,tw6,by decide,s64 (by decide) (by decide),λx1 H7 a2 b2 tw7 mv7=>⟨_,_,rfl,rfl,t,r,cap,_,rfl,tw7,c1,c2,λD us P H8 hD gD nD c3 pin tw8 mv8=>?_⟩⟩;refine⟨_,rfl,t,r,rfl,tw8,λsv s H9 hs si tw9 mv9=>?_⟩;have m49:=((mv6'.trans mv7).trans mv8).trans mv9;replace en:=en.mv m49 tw4.lists;replace hx:=ax.mv m49 tw4.lists rfl hx;replace hy:=ax.mv m49 tw4.lists rfl hy;replace mv:=mv.trans m49;replace gD:=mv9 _ _ gD nD;replace c3:=c3.same mv9.cut;clear s5 gp np tw6 mv6 mv6' tw7 mv7 tw8 mv8 mv9 m49 tw4 ev hD;refine⟨_,rfl,_,rfl,_,rfl,λC a dx hC ha hdx hne=>?_⟩;generalize e0:upd (upd H9 dx _) a _=H10;have s10:=yF ha hdx hne e0;have gv:=iS e0;refine⟨a,C,dx,D,sv,.ref a1,us,P,s,e,rfl,hC,gv,s10 _ _ gD,(c3.same fK).same s10,pin.mono c2,ax.same s10 (ax.uncut hs),si,en.same s10,ie,λH11 mv11 sp11=>⟨rfl,?_⟩⟩;have s11:af H9 H11:=λb' o z=>mv11 _ _ (s10 _ _ z) (λw=>by rw[Ml.mp w,ha] at z;cases z)
   refine⟨_,rfl,_,rfl,_,rfl,_,rfl,l7,λp1 hp1=>⟨by show 5<=MI;decide,λp2 hp2=>?_⟩⟩;have s12:=af.new (o:=.tup [x,y]) hp1;have ge:ax K (upd H11 p1 (.tup [x,y])) (.tuple [dk false e.w,dk false e.b]) (.ref p1):=ax.tupN (ds:=[dk false e.w,dk false e.b]) hp1 (.cons (ax.same s11 hx) (.cons (ax.same s11 hy) .nil));have s13:=af.new (o:=.tup [.ref a,.ref D,sv,.non,.ref p1]) hp2;have sA:=(s11.trans s12).trans s13;have sC:=af.cut (T:=[t,r,D]) (s12.trans s13);have lD:bR H10 [t,r,D]:=λb m=>by
    simp only[Mx,MM,Od] at m;rcases m with rfl|rfl|rfl
    ·exact(tw9.lists.same s10) _ (by simp)
    ·exact(tw9.lists.same s10) _ (by simp)
    ·exact⟨_,s10 _ _ gD⟩
   exact q p2 D us P (.inl s) e (.ref a) sv .non (.ref p1) _ ae ⟨tw9.same sA,nD,sA _ _ gD,c3.same (af.cut sA),⟨(sp11 [t,r,D] lD).same sC,ax.same (af.cut sA) hs,si,pin.mono c2⟩⟩ (ax.same s13 ge) ie (mv.trans (Mv.of sA))
  ·refine⟨_,rfl,_,rfl,t,r,2,rfl,tw4,by decide,s64 (by decide) (by decide),λx1 H7 a2 b2 tw7 mv7=>⟨_,_,rfl,rfl,t,r,60,_,rfl,tw7,by decide,by decide,λD us P H8 hD gD nD c3 pin tw8 mv8=>?_⟩⟩;refine⟨_,rfl,t,r,2,rfl,tw8,by decide,by decide,λd f H9 gp wt tw9 mv9 nd=>?_⟩;have m49:=(mv7.trans mv8).trans mv9;replace en:=en.mv m49 tw4.lists;replace hx:=ax.mv m49 tw4.lists rfl hx;replace hy:=ax.mv m49 tw4.lists rfl hy;replace mv:=mv.trans m49;replace gD:=mv9 _ _ gD nD;replace c3:=c3.same mv9.cut;have gr:Gr K H9 2 f d:=⟨_,.refl _,gp⟩
   clear tw7 mv7 tw8 mv8 mv9 m49 tw4 hD nd;refine⟨_,rfl,_,rfl,λC2 g dy hC2 hg hdy hne2=>?_⟩;generalize e0:upd (upd H9 dy _) g _=H5;have s5:=yF hg hdy hne2 e0;have gv2:=iS e0;refine⟨g,C2,dy,d,2,f,rfl,hC2,gv2,gr.same s5,wt,by decide,by decide,λH6 L mv6 hg6 gL hL=>⟨rfl,_,rfl,λC a dx hC ha hdx hne=>?_⟩⟩;have s6:af H9 H6:=λb' o z=>mv6 _ _ (s5 _ _ z) (λw=>by rw[Ml.mp w,hg] at z;cases z)
   generalize e0:upd (upd H6 dx _) a _=H10;have s10':=yF ha hdx hne e0;have gv:=iS e0;have s10:=s6.trans s10';refine⟨a,C,dx,D,.ref g,.ref a1,us,P,f,e,rfl,hC,gv,s10 _ _ gD,(c3.same fK).same s10,pin,⟨g,C2,dy,L,rfl,hC2,s10' _ _ hg6,gL.same s10'⟩,wt,en.same s10,ie,λH11 mv11 sp11=>⟨rfl,?_⟩⟩;have s11:af H9 H11:=λb' o z=>mv11 _ _ (s10 _ _ z) (λw=>by rw[Ml.mp w] at z;rw[s6 _ _ z] at ha;cases ha)
   refine⟨_,rfl,_,rfl,_,rfl,_,rfl,l7,λp1 hp1=>⟨by show 5<=MI;decide,λp2 hp2=>?_⟩⟩;have s12:=af.new (o:=.tup [x,y]) hp1;have ge:ax K (upd H11 p1 (.tup [x,y])) (.tuple [dk false e.w,dk false e.b]) (.ref p1):=ax.tupN (ds:=[dk false e.w,dk false e.b]) hp1 (.cons (ax.same s11 hx) (.cons (ax.same s11 hy) .nil));have s13:=af.new (o:=.tup [.ref a,.ref D,.non,.ref d,.ref p1]) hp2;have sA:=(s11.trans s12).trans s13;have sC:=af.cut (T:=[t,r,D]) (s12.trans s13);have lD:bR H10 [t,r,D]:=λb m=>by
    simp only[Mx,MM,Od] at m;rcases m with rfl|rfl|rfl
    ·exact(tw9.lists.same s10) _ (by simp)
    ·exact(tw9.lists.same s10) _ (by simp)
    ·exact⟨_,s10 _ _ gD⟩
   exact q p2 D us P (.inr f) e (.ref a) .non (.ref d) (.ref p1) _ ae ⟨tw9.same sA,nD,sA _ _ gD,c3.same (af.cut sA),⟨(sp11 [t,r,D] lD).same sC,rfl,⟨d,rfl,gr.same sA⟩,wt,pin⟩⟩ (ax.same s13 ge) ie (mv.trans (Mv.of sA))
theorem gm:ao ["_law_parts","_law_found","_law_k","_law_steep","_law_cap"] ["_law_parts"] (ah nj):=df
inductive xQ (K:HD)(vs:List V)(H:Hp)(Q:VK)(_:XK):Prop
 |mk (Tp cl:Mz) (ws us:List V) (sv dv:V) (P:C3) (b:S9 ⊕ (Kn->R3)) (_:vs=[.ref Tp]) (_:H Tp=some (.tup ws)) (_:ws[1]?=some (.ref cl)) (_:ws[2]?=some sv) (_:ws[3]?=some dv) (_:H cl=some (.lst us)) (_:im K H P us) (_:P.In 1000) (_:E8 K H P sv dv b) (_:∀ (q:Q3) (u:V) (H':Hp),af H H'->Am b P q->ax K H' (.list q.ds) u->Q u H')
theorem yp (T:cZ K mg w):dN P w K mg base cP 8 "_law_due" ["_law_parts"] [] (xQ K):=by
  refine T.x3c.cal gm (bb:=λ_ _ _ _ _ H vs Q E hr h=>?_);obtain⟨Tp,cl,ws,us,sv,dv,P,b,rfl,hT,e1,e2,e3,hcl,h3,hp,hb,q⟩:=h;refine⟨_,(cM.go (ab (av 1 gm.nd (b9 aZ))
   (ab (eA Nr rfl (bg rfl T.x1 (aE aa)) (ai 2 gm.nd) (ab (av 3 gm.nd (cX (K:=K) rfl ay (eM T) (hr.mono (by decide)) (am K (am K (aj 0) aa) (aj 2))))
   (ag (a_ (aR GO (am K (aj 0) aa) vX (aV _)) (ab (av 4 gm.nd (au (wu (K:=K) rfl rfl) (by rfl) T.xd oC (aE (aF ["_law_row"] uB8 [2] 1 (bx (K:=K) rfl (am K (aj 0) aa)) (λnd=>(ai 0 nd)) aA (au (uN rfl) (by rfl) T.xd oC (aD (am K (aj 0) (aj 1)) (ap cm aa (am K (aj 0) (aj 1)))))))))
   (ag (bG (rj OP Of OK jD (aj 1) (aE (ac ay (jr T) hr (aD (ac ay (dS T) hr (aD (aj 4) aa)) (aj 3)))))))) (ag (bG (rj OP Of OK jD (aj 1) (aE (ac ay (jr T) hr (aD (ac ay (dS T) hr (aD (cX (K:=K) rfl ay (jB T) (hr.mono (by decide)) (oh (K:=K) rfl ay (ff T) (hr.mono (by decide)) rfl (aD aa (am K (aj 0) aa)))) aa)) (aj 3)))))))))))
   (ag (ar (aj 1)))))),?_⟩
  refine⟨by decide,λF hF=>?_⟩;have s0:af H (upd H F (.lst [])):=af.new hF;refine⟨3,rfl,by decide,by decide,ia (lo:=0) (n:=3) (λj σ H'=>∃ zs o2 o3 o4,σ=[some (.ref Tp),some (.ref F),o2,o3,o4]/\af H H'/\H' F=some (.lst zs)/\zs.length=j/\∀ (k:Nat) (v:V),zs[k]?=some v->∃ r:Rat,Jh b P k r/\ax K H' (rD r) v)
   ⟨[],_,_,_,rfl,s0,ae,rfl,λk v e=>by simp at e⟩ ?_ ?_⟩
  ·rintro j σ H1 hj ⟨zs,o2,o3,o4,rfl,s1,hF1,el,hz⟩;have hu:j<us.length:=by rw[h3.1];exact hj
   have eu:=MC hu;generalize us[j]=uv at eu;have hcv:=(h3.2 j uv eu).same s1;obtain⟨a,C,dx,l2,rfl,hC,ha,hl2⟩:=id hcv;have eu':us[0+j]?=some (.ref a):=by rw[MX];exact eu
   have pp:=(hp j hj).1;refine⟨_,rfl,pN (b:=false) (i:=1) (dF.of (s1 _ _ hT)) e1 ⟨_,rfl,pN (b:=true) (bH.of (s1 _ _ hcl)) eu' ⟨a,C,dx,_,rfl,hC,ha,rfl,.ref a,P.at j,rfl,hcv,pp,λw st H2 s2 hst hw=>?_⟩⟩⟩;have s12:=s1.trans s2;have bS:=tR pp hst;have fin:∀ {L:Rat}{x:Option V}{v:V}{H5:Hp},af H2 H5->fu b j L->ax K H5 (rD (L*st)) v->∃ ys o2 o3 o4,[some (.ref Tp),some (.ref F),some (.int (0+j)),some w,x]=[some (.ref Tp),some (.ref F),o2,o3,o4]/\af H (upd H5 F (.lst (zs++[v])))/\upd H5 F (.lst (zs++[v])) F=some (.lst ys)/\ys.length=j+1/\∀ (k:Nat) (v':V),ys[k]?=some v'->∃ r:Rat,Jh b P k r/\ax K (upd H5 F (.lst (zs++[v]))) (rD r) v':=λ{L x v H5} s5 hL hv=>by
    have hF5:=s5 _ _ (s2 _ _ hF1);have li:bR H5 [F]:=λb mb=>by cases Ml.mp mb;exact⟨_,hF5⟩
    have mv:Mv [F] H5 (upd H5 F (.lst (zs++[v]))):=λb o e nb=>by rw[aq (show b≠F from λz=>nb (z▸List.mem_singleton_self _))];exact e
    refine⟨zs++[v],_,_,_,rfl,λb o e=>?_,ae,by rw[ML,el];rfl,λk v' ek=>?_⟩
    ·rw[aq (λz=>by rw[z,hF] at e;cases e)];exact s5 _ _ (s12 _ _ e)
    ·rcases gY ek with ⟨_,ek⟩|⟨rfl,rfl⟩
     ·obtain⟨r,h1,h2⟩:=hz k v' ek;exact⟨r,h1,ax.mv mv li rfl (ax.same (s2.trans s5) h2)⟩
     ·rw[el];exact⟨_,⟨L,st,hL,hst,rfl⟩,ax.mv mv li rfl hv⟩
   cases b with
   |inl s=>
    obtain⟨hs,si⟩:=hb;obtain⟨sa,ss,rfl,hsa,hss⟩:=aN hs;refine⟨_,rfl,pN (b:=false) (i:=2) (dF.of (s12 _ _ hT)) e2 ⟨rfl,_,rfl,aW ?_⟩⟩;refine⟨_,rfl,pN (b:=false) (i:=2) (dF.of (s12 _ _ hT)) e2 ⟨sa,s.k,rfl,⟨_,ck.same s12 hsa⟩,bX (es:=(jU s j).map NR) (ck.same s12 hsa) (az.same s12 hss) rfl (by show 3<=1000;decide) (λi d e x H3 hd he s3 hx R2 kk2 S2=>?_) (λys H3 s3 hys D hD=>?_)⟩⟩
    ·obtain⟨k,r,er,hr⟩:∃ k r,(jU s j)[i]?=some (qk (r.nth j))/\ax K H3 (dk k r) x:=by
      rcases pJ hd with ⟨rfl,rfl⟩|⟨rfl,rfl⟩|⟨rfl,rfl⟩
      ·exact⟨_,s.x,rfl,hx⟩
      ·exact⟨_,s.y,rfl,hx⟩
      ·exact⟨_,s.z,rfl,hx⟩
     rw[Mw,er] at he;cases he;obtain⟨ra,rfl,hra⟩:=jZ hr;have ea:r.vs[0+j]?=some (.int (r.nth j)):=by rw[MX];exact EU hj
     refine aW (B:=S2 H3) ⟨_,rfl,_,rfl,pN (i:=0+j) hra ea ⟨_,rfl,_,rfl,pN (i:=0+j) hra ea ⟨_,_,rfl,rfl,_,_,rfl,kk2 _ _ ⟨af.refl _,?_⟩⟩⟩⟩;rw[show qk (r.nth j)=(if 0-r.nth j>r.nth j then 0-r.nth j else r.nth j) by unfold qk;split<;>split<;>lia];exact .int _
    ·have ey:=qY hys;subst ey;have s4:=s3.trans (af.new (o:=.lst ((jU s j).map V.int)) hD);refine⟨D,jU s j,rfl,bH.of ae,by simp[jU],λm hm hle=>?_⟩;generalize upd H3 D (.lst ((jU s j).map V.int))=H4 at s4 ⊢;have hL:fu (.inl s) j ((m:Rat)/((1000:Int):Rat)):=⟨m,⟨(vt si m hm).1,hle,.inr hm⟩,rfl⟩
     have hF4:=s4 _ _ (s2 _ _ hF1);refine⟨_,rfl,.inl ⟨rfl,_,bH.of hF4⟩,_,rfl,m,1000,rfl,by decide,Sm.mono (k:=20) (by unfold Sm;decide) (by decide),j0.sh (by decide) λv5 H5 s5 hv5=>⟨_,rfl,_,_,_,_,_,_,rfl,hv5,ax.same (s4.trans s5) hw,(lK (b:=.inl s) si hL).mono (by decide),bS.mono (by decide),j0.mul λv6 H6 s6 hv6=>?_⟩⟩;exact⟨F,zs,v6,rfl,rfl,s6 _ _ (s5 _ _ hF4),bD (by lia),fin ((s4.trans s5).trans s6) hL hv6⟩
   |inr f=>
    obtain⟨rfl,⟨d,rfl,hd⟩,wt,h60⟩:=hb;refine⟨_,rfl,pN (b:=false) (i:=2) (dF.of (s12 _ _ hT)) e2 ⟨rfl,_,rfl,bA ?_⟩⟩;refine⟨_,rfl,.inl ⟨rfl,_,bH.of (s2 _ _ hF1)⟩,_,rfl,pN (b:=false) (i:=3) (dF.of (s12 _ _ hT)) e3 λC2 g dy hC2 hg hdy hne=>?_⟩;generalize e0:upd (upd H2 dy _) g _=H3;have s3:=yF hg hdy hne e0;have gv:=iS e0;refine⟨g,C2,dy,d,2,f,rfl,hC2,gv,(hd.same s12).same s3,wt,by decide,by decide,λH4 L mv4 hg4 gL hL=>⟨rfl,?_⟩⟩;have s4:af H2 H4:=λb' o z=>mv4 _ _ (s3 _ _ z) (λw=>by rw[Ml.mp w,hg] at z;cases z)
    refine⟨g,C2,dy,_,rfl,hC2,hg4,rfl,.ref g,2,f,rfl,⟨g,C2,dy,L,rfl,hC2,hg4,gL⟩,wt,by decide,by decide,λm H5 s5 mx=>?_⟩;have hL:fu (.inr f) j ((m:Rat)/((60:Int):Rat)):=⟨m,mx,rfl⟩
    refine⟨m,60,rfl,by decide,Sm.mono (k:=20) (by unfold Sm;decide) (by decide),j0.sh (by decide) λv6 H6 s6 hv6=>⟨_,rfl,_,_,_,_,_,_,rfl,hv6,ax.same ((s4.trans s5).trans s6) hw,(lK (b:=.inr f) wt hL).mono (by decide),bS.mono (by decide),j0.mul λv7 H7 s7 hv7=>?_⟩⟩;have s27:=((s4.trans s5).trans s6).trans s7;exact⟨F,zs,v7,rfl,rfl,s27 _ _ (s2 _ _ hF1),bD (by lia),fin s27 hL hv7⟩
  ·rintro σ H1 ⟨zs,o2,o3,o4,rfl,s1,hF1,el,hz⟩;obtain⟨u0,u1,u2,rfl⟩:=Ds el;obtain⟨x0,o0,g0⟩:=hz 0 u0 rfl;obtain⟨x1,o1,g1⟩:=hz 1 u1 rfl;obtain⟨x2,o2,g2⟩:=hz 2 u2 rfl;refine⟨_,rfl,q ⟨x0,x1,x2⟩ _ _ s1 (λk hk=>?_) (.lst (.inl hF1) (.cons g0 (.cons g1 (.cons g2 .nil))))⟩
   match k,hk with
   |0,_=>exact o0
   |1,_=>exact o1
   |2,_=>exact o2
theorem fj:ao ["_law_script","_law_town_here","_law_parts","_law_profile_here","_law_told","_law_turn","_law_colour","_law_road","_law_other","_law_far","_law_one","_law_two","_law_k","_law_off"] uB3 (ah nH):=df
structure G_ (K:HD)(t r:Mz)(P:C3)(b:S9 ⊕ (Kn->R3))(e:En)(sl:Q3)(pv told:V)(H:Hp):Prop where
 tw:bQ H t r
 tb:Cw K "parts_by_four" H
 pr:Ak K (cut [t,r] H) P b e pv
 td:ax K (cut [t,r] H) (.list sl.ds) told
section
variable {K:HD}{t r:Mz}{P:C3}{b:S9 ⊕ (Kn->R3)}{e:En}{sl:Q3}{pv told:V}{H H':Hp}
theorem G_.mv (h:G_ K t r P b e sl pv told H)(m:Mv [t,r] H H')(tw:bQ H' t r):G_ K t r P b e sl pv told H':=⟨tw,h.tb.mv m h.tw.lists,h.pr.same m.cut,ax.same m.cut h.td⟩
theorem G_.same (h:G_ K t r P b e sl pv told H)(s:af H H'):G_ K t r P b e sl pv told H':=⟨h.tw.same s,h.tb.same s,h.pr.same (af.cut s),ax.same (af.cut s) h.td⟩
end
theorem Ak.worth {K:HD}{H:Hp}{P:C3}{b:S9 ⊕ (Kn->R3)}{e:En}{v:V}{k:Nat}{ta:TA}{σ:L2.St}{Q:VK}{c:Q3} (h:Ak K H P b e v) (tb:Cw K "parts_by_four" H) (h0:σ[k]?=some (some v)) (hta:∀ R:List V->Hp->Prop,(∀ x H',af H H'->ax K H' c.col x->R [x] H')->ta σ H R) (wi:c.Wi ((60:Int):Rat)) (bd:c.Bd 17)
  (q:∀ (r:Q3) (u:V) (H':Hp),af H H'->pF P c r->ax K H' (Aa b r).col u->(Aa b r).Bd 3900->Q u H'):
  uX K "SquareProfile" "to_worth" (dH K) [] E0 (r0 k) ta σ H Q\/uX K "GridProfile" "to_worth" (eE K) [] E0 (r0 k) ta σ H Q:=by
 cases b with
 |inl s=>
  obtain⟨a,C,dx,l,vs,q1,en,rfl,hC,ha,r1⟩:=id h.1;refine .inl ⟨_,h0,a,C,dx,_,rfl,hC,ha,rfl,hta _ λx H1 s1 hx=>?_⟩;exact⟨.ref a,x,P,s.cp,e,c,rfl,h.1.same s1,h.2.2,h.2.1.cp,hx,wi,bd,λr u H2 s2 on rb hu=>q r u H2 (s1.trans s2) on hu ((EY (G8 h.2.1) rb).mono (by decide))⟩
 |inr f=>
  obtain⟨a,C,dx,l,vs,q1,en,rfl,hC,ha,r1⟩:=id h.1;refine .inr ⟨_,h0,a,C,dx,_,rfl,hC,ha,rfl,hta _ λx H1 s1 hx=>?_⟩;exact⟨.ref a,x,P,f,e,c,rfl,h.1.same s1,h.2.2,h.2.1,hx,wi,bd,tb.same s1,λr u H2 s2 on _ _ hu b4=>q r u H2 (s1.trans s2) on hu b4⟩
theorem I9 (T:cZ K mg w){f:Mz}{fd:NW}(F:KC K "law" "law" nH f fd):jp P w K mg base cP 12 f fd uB3 (tL ["parts_by_four"] K):=by
 refine KC.okX F fj (λvs H Q E h=>?_) (λcdv A outer s H vs Q E hr h=>?_)
 ·obtain⟨a,ns,rfl,_⟩:=h;rfl
 ·obtain⟨a,ns,rfl,hS,hl,hT,q⟩:=h;refine⟨_,(cM.go (ab (av 1 fj.nd (ac ay (wU T) hr (aE (aj 0))))
   (ab (av 2 fj.nd (ac ay (qu T) hr (aE (aj 1))))
   (ab (av 3 fj.nd (am K (aj 2) aa))
   (ab (av 4 fj.nd (jN (cX (K:=K) rfl ay (eF T) (hr.mono (by decide)) (aj 3)) (cX (K:=K) rfl ay (fq T) (hr.mono (by decide)) (aj 3))))
   (ab (a_ (WW.pt (dG (aX (aS (au (kq (K:=K) rfl) (by rfl) T.x2 aK (aD (aj 4) (bU (v:=.ty "list") rfl T.xa gX rfl))))) (dB (aR (G6 (K:=K) rfl hr.units) (aj 4) (ac ay (yp T) hr (aE (aj 2))) (aV _))))) (ag (ar gg)) aH)
   (ab (a_ (WW.pt (dG (aR (G6 (K:=K) rfl hr.units) (ac ay (og T) hr (aE (aj 3))) (ac ay (nC T) hr (aD (ac ay (nC T) hr (aD (am K (aj 4) aa) (am K (aj 4) aa))) (am K (aj 4) aa))) (aV _)) (dB (aX (aS (ac ay (oK T) hr (aE (ac ay (og T) hr (aE (aj 3)))))))))) (ag (ar gg)) aH)
   (ab (eA Nr rfl (bg rfl T.x1 (aE aa)) (ai 5 fj.nd) (ab (av 6 fj.nd (ac ay (ue T) hr (aD (aj 1) aa)))
   (ab (av 7 fj.nd (ac ay (aI T) hr (aD (aj 1) aa)))
   (ab (av 8 fj.nd (ap E9 (ap E9 (jw (GV (K:=K) rfl) (aj 6) kA (lF (aj 7))) (be (aE (ac ay (eQ T) hr (aD (aj 1) aa))))) (jw (GV (K:=K) rfl) (aj 6) (lF (ap cQ (aj 7) aa)) kA)))
   (ab (av 9 fj.nd (ac ay (nF T) hr (aD (am K (aj 8) (aj 7)) (am K (aj 6) (aj 7)))))
   (ab (av 9 fj.nd (ib (aR ET (am K (aj 9) aa) aa (aV _)) (aj 9) (be (aD (ap cm aa (am K (aj 9) aa)) (am K (aj 9) aa)))))
   (ab (lU (i:=10) (j:=11) rfl fj.nd rfl rfl (by decide) rfl rfl (aD (jN (jR (K:=K) rfl ay (dI T) (hr.mono (by decide)) (aj 3) (aE (aj 6))) (jR (K:=K) rfl ay (eG T) (hr.mono (by decide)) (aj 3) (aE (aj 6)))) (jN (jR (K:=K) rfl ay (dI T) (hr.mono (by decide)) (aj 3) (aE (aj 8))) (jR (K:=K) rfl ay (eG T) (hr.mono (by decide)) (aj 3) (aE (aj 8))))) rfl)
   (ag (eA Nr rfl (bg rfl T.x1 (aE aa)) (ai 12 fj.nd) (ab (av 13 fj.nd (ac ay (nF T) hr (aD (am K (aj 10) (aj 12)) (am K (aj 11) (aj 12)))))
   (ab (av 13 fj.nd (ib (aR ET (am K (aj 13) aa) aa (aV _)) (aj 13) (be (aD (ap cm aa (am K (aj 13) aa)) (am K (aj 13) aa)))))
   (ag (a_ (aS (ac ay (uu T) hr (aD (ac ay (jr T) hr (aD (am K (aj 4) (aj 7)) (aj 9))) (aj 13)))) (ag (ar gg)) aH)))))))))))))
   (ag (ar gg)))))))))),?_⟩
  refine⟨_,rfl,a,ns,rfl,hS,hl,λt r H0 s0 _ _ tw0=>?_⟩;have tb0:=(hT "parts_by_four" (by simp)).same s0;clear hT hS hl s0;refine⟨_,rfl,t,r,rfl,tw0,λTp cl us P b e pv sv dv ev H1 hT lp _ ie mv1=>?_⟩;have tb1:=tb0.mv mv1 tw0.lists;clear tb0 mv1 tw0;have pr:Ak K (cut [t,r] H1) P b e pv:=by
   have h:=lp.hb;cases b with
   |inl s=>exact⟨h.1.same y_,h.2.2.1,h.2.2.2⟩
   |inr f=>exact⟨h.1.same y_,h.2.2.2.1,h.2.2.2.2⟩
  have own:E8 K H1 P sv dv b:=by
   have h:=lp.hb;cases b with
   |inl s=>exact⟨ax.uncut h.2.1,h.2.2.1⟩
   |inr f=>exact h.2
  refine⟨_,rfl,pN (b:=false) (i:=0) (dF.of hT) rfl ?_⟩;refine(pr.same fK).slopes rfl λsl told H2 s2 hs bs hu=>?_
  have V:G_ K t r P b e sl pv told H2:=⟨lp.tw.same s2,tb1.same s2,pr.same (af.cut s2),zY (lp.tw.same s2) hu⟩
  refine⟨_,rfl,_,_,_,true,rfl,hu.ty,(show iG "list" "list"=some true by decide +kernel),_,rfl,bA ?_⟩;refine⟨_,rfl,_,rfl,Tp,cl,_,us,sv,dv,P,b,rfl,s2 _ _ hT,rfl,rfl,rfl,s2 _ _ lp.hl,(lp.hc.same fK).same s2,pr.pin,own.same s2,λsl' u' H3 s3 hs' hu'=>?_⟩;obtain rfl:=yM hs hs';refine⟨_,_,ax.same s3 hu,hu',rfl,rfl,false,by rw[show Q8 (.list sl.ds) (.list sl.ds)=true from GB sl];rfl,bA ?_⟩;replace V:=V.same s3;clear hs' hu' own lp tb1 pr hT hu s2 s3;refine⟨_,rfl,pv,P,b,e,rfl,V.pr.same fK,λsl1 w1 H4 s4 hs1 _ hw1=>?_⟩;obtain rfl:=yM hs hs1;replace V:=V.same s4;obtain⟨la,xs,e0,hla,hxs⟩:=aN (b:=true) (ds:=sl.ds) (ax.uncut V.td);subst e0;obtain⟨x0,x1,x2,rfl,g0,g1,g2⟩:=jJ hxs;refine⟨_,rfl,pN (b:=true) (i:=0) hla rfl ⟨_,rfl,pN (b:=true) (i:=1) hla rfl ⟨_,_,_,_,_,_,rfl,g0,g1,bs.a.mono (by decide),bs.b.mono (by decide),j0.add λv5 H5 s5 hv5=>?_⟩⟩⟩;refine⟨_,rfl,pN (b:=true) (i:=2) (ck.same s5 hla) rfl ⟨_,_,_,_,_,_,rfl,hv5,ax.same s5 g2,Ok.mono (Bq.add bs.a bs.b) (by decide),bs.c.mono (by decide),j0.add λv6 H6 s6 hv6=>?_⟩⟩;have s46:=s5.trans s6;refine⟨_,_,ax.same s46 hw1,hv6,rfl,rfl,false,by rw[Ba];rfl,bA ?_⟩;replace V:=V.same s46;refine⟨_,rfl,pv,P,b,e,rfl,V.pr.same fK,λsl2 w2 H7 s7 hs2 bs2 hw2=>?_⟩;have bsum:Bq 8000 (sl2.a+sl2.b+sl2.c):=Ok.mono (Bq.add (Bq.add bs2.a bs2.b) bs2.c) (by decide);refine⟨_,_,_,rfl,hw2,bsum,λH8 s8=>⟨_,rfl,bA ?_⟩⟩;replace V:=V.same (s7.trans s8);clear hs1 hw1 s4 hla hxs g0 g1 g2 hv5 s5 hv6 s6 s46 hs2 bs2 hw2 bsum s7 s8;have s64:∀ {n:Int},0<n->n<100000->Sm 8000 n:=λh1 h2=>Sm.mono (k:=20) (by unfold Sm;lia) (by decide)
  have hb60:∀ f,b=.inr f->P.In 60:=λf z=>by
   subst z;exact V.pr.2.2
  refine⟨6,rfl,by decide,by decide,ia (lo:=0) (n:=6) (λj σ H'=>(∃ p0 p1 p2 p3 p4 p5 p6 p7 p8,σ=[some (.ref a),some (.ref t),some (.ref Tp),some pv,some (.ref la),p0,p1,p2,p3,p4,p5,p6,p7,p8])/\G_ K t r P b e sl pv (.ref la) H') ⟨⟨_,_,_,_,_,_,_,_,_,rfl⟩,V⟩ ?_ ?_⟩
  ·clear V;rintro j σ H1 hj ⟨⟨p0,p1,p2,p3,p4,p5,p6,p7,p8,rfl⟩,V⟩;refine⟨_,rfl,t,r,60,rfl,V.tw,by decide,by decide,λcv c H2 hc wi bd tw2 mv2=>?_⟩;replace V:=V.mv mv2 tw2;refine⟨_,rfl,t,r,3,rfl,V.tw,by decide,s64 (by decide) (by decide),λx H3 x0 x1 nB mv3=>?_⟩;replace hc:=ax.mv mv3 V.tw.lists rfl hc;replace V:=V.mv mv3 nB;obtain⟨i,rfl⟩:=Pz x0;have hi:i<3:=by lia
   clear mv2 tw2 mv3 nB x0 x1;obtain⟨ca,cs,rfl,hca,hcs⟩:∃ ca cs,cv=.ref ca/\H3 ca=some (.tup cs)/\az K H3 c.ds cs:=by
    cases hc with
    |tup h1 h2=>exact⟨_,_,rfl,h1,h2⟩
   have lc:cs.length=3:=by rw[<- hcs.length];rfl
   refine⟨_,rfl,_,rfl,(i:Int),rfl,ca,cs,rfl,dF.of hca,by rw[lc,HT.sIx_nat];lia,λp hp=>?_⟩;rw[HU];generalize e0:upd H3 p _=H4;have s4:=nv hp e0;have g4:=iS e0;replace V:=V.same s4;refine⟨_,rfl,t,r,60,rfl,V.tw,by decide,by decide,λwv y H5 hw y0 y1 byq tw5 mv5=>⟨Jj,λp1 hp1=>?_⟩⟩;replace g4:=mv5 _ _ g4 (V.tw.lists.not g4 λ_ z=>nomatch z);have hca5:=mv5 _ _ (s4 _ _ hca) (V.tw.lists.not (s4 _ _ hca) λ_ z=>nomatch z);have hcs5:=az.mv mv5 V.tw.lists rfl (az.same s4 hcs);replace V:=V.mv mv5 tw5;generalize e0:upd H5 p1 _=H6;have s6:=nv hp1 e0;have g6:=iS e0;refine⟨p,p1,_,_,rfl,rfl,s6 _ _ g4,g6,MQ (Ud (List.length_take_le i cs) 1) (MQ (show i+1<=3 by lia) (by decide)),λp2 H7 s7 h7=>?_⟩;have s57:=s6.trans s7;refine⟨_,rfl,_,rfl,_,_,rfl,rfl,((i+1:Nat):Int),rfl,ca,cs,rfl,dF.of (s57 _ _ hca5),by rw[lc,HT.sIx_nat];lia,λp3 hp3=>?_⟩;rw[Df (by lia)];generalize e0:upd H7 p3 _=H8;have s8:=nv hp3 e0;have g8:=iS e0;refine⟨p2,p3,_,_,rfl,rfl,s8 _ _ h7,g8,by simp only[ML,M3,OZ,TH];exact MQ (show _<=9 by lia) (by decide),λp4 H9 s9 h9=>?_⟩;have s59:=(s57.trans s8).trans s9;replace V:=V.same s59;have hcs9:=az.same s59 hcs5;have hw9:=ax.same s59 hw;have ho:ax K H9 (bw c i y).col (.ref p4):=.tup h9 (Iu hi hcs9 hw9);have hca9:=s59 _ _ hca5;have wo:=Hi (i:=i) wi y0 y1;have bo:=Hf (i:=i) bd byq;clear s4 g4 hca hcs s6 g6 s7 h7 s57 s8 g8 s9 s59 hca5 hcs5 hw tw5 mv5 hp hp1 hp3 hc;obtain⟨xi,exi,hxi⟩:=vp hi hcs9;have hcc:ax K H9 c.col (.ref ca):=.tup hca9 hcs9;refine⟨_,rfl,_,rfl,pN (b:=false) (i:=i) (dF.of h9) (FF (by lia)) ⟨_,rfl,_,rfl,pN (b:=false) (i:=i) (dF.of hca9) exi ⟨_,_,_,_,_,_,rfl,hw9,hxi,byq.mono (by decide),(pZ bd).mono (by decide),j0.sub λfv H10 s10 hf=>?_⟩⟩⟩;have bq:Bq 40 (y-c.at i):=Ok.mono (Bq.sub byq (pZ bd)) (by decide);obtain⟨fa,rfl,hfa⟩:=bn hf;replace V:=V.same s10;have ho10:=ax.same s10 ho;have hc10:=ax.same s10 hcc;clear hcs9 hw9 ho hca9 exi hxi hcc h9 s10;apply KO (I:=λfv H11=>af H10 H11/\ax K H11 (rD (jS (y-c.at i))) fv)
   case main=>
    intro eO;refine⟨_,rfl,cr hfa ⟨_,_,rfl,rfl,_,rfl,f9 (λhc=>?k1) (λhc=>?k2)⟩⟩
    case k2=>
     have hc:¬ 0<=(y-c.at i).num:=λz=>hc (Ms z)
     refine⟨_,rfl,cr hfa ⟨_,_,rfl,rfl,_,rfl,bN hfa ⟨l7,λp5 hp5=>?_⟩⟩⟩;have h5:af H10 (upd H10 p5 (.tup [.int (0-(y-c.at i).num),.int ((y-c.at i).den:Int)]))/\ax K (upd H10 p5 (.tup [.int (0-(y-c.at i).num),.int ((y-c.at i).den:Int)])) (rD (jS (y-c.at i))) (.ref p5):=⟨af.new hp5,by rw[xD hc,Bj];exact pI ae⟩
     generalize upd H10 p5 (.tup [.int (0-(y-c.at i).num),.int ((y-c.at i).den:Int)])=H11 at h5 ⊢;generalize L2.V.ref p5=fv at h5 ⊢;exact eO fv H11 h5
    have hc:=Nx hc;rw[<- vv hc] at hf;exact⟨_,rfl,eO _ _ ⟨af.refl _,hf⟩⟩
   rintro fv H11 ⟨s11,hfv⟩;replace V:=V.same s11;have hc11:=ax.same s11 hc10;have ho11:=ax.same s11 ho10;clear s11 hc10 ho10 hf hfa;refine(V.pr.same fK).worth V.tb rfl (λR k=>⟨_,rfl,k _ _ (af.refl _) hc11⟩) wi bd λr1 u1 H12 s12 on1 hu1 _=>?_
   replace V:=V.same s12;refine(V.pr.same fK).worth V.tb rfl (λR k=>⟨_,rfl,k _ _ (af.refl _) (ax.same s12 ho11)⟩) wo bo λr2 u2 H13 s13 on2 hu2 _=>?_
   replace V:=V.same s13;replace hu1:=ax.same s13 hu1;replace hfv:=ax.same (s12.trans s13) hfv;have bw1:=E6 V.pr on1 wi bd;have bw2:=E6 V.pr on2 wo bo;clear s12 s13 hc11 ho11;refine⟨_,_,rfl,?_⟩;obtain⟨a1,ys1,rfl,ha1,hy1⟩:=aN (b:=false) (ds:=(Aa b r1).ds) hu1;obtain⟨a2,ys2,rfl,ha2,hy2⟩:=aN (b:=false) (ds:=(Aa b r2).ds) hu2;refine⟨3,rfl,by decide,by decide,ia (lo:=0) (n:=3) (λk σ H'=>(∃ p0 p1,σ=[some (.ref a),some (.ref t),some (.ref Tp),some pv,some (.ref la),some (.int (0+j)),some (.ref ca),some (.int i),some (.ref p4),some fv,some (.ref a1),some (.ref a2),p0,p1])/\af H13 H') ⟨⟨_,_,rfl⟩,af.refl _⟩ ?_ ?_⟩
   ·rintro k σ H14 hk ⟨⟨p0,p1,rfl⟩,s14⟩;obtain⟨z1,ez1,hz1⟩:=vp hk (az.same s14 hy1);obtain⟨z2,ez2,hz2⟩:=vp hk (az.same s14 hy2);have ez1':ys1[0+k]?=some z1:=by rw[MX];exact ez1
    have ez2':ys2[0+k]?=some z2:=by rw[MX];exact ez2
    refine⟨_,rfl,_,rfl,pN (b:=false) (i:=0+k) (ck.same s14 ha1) ez1' ⟨_,rfl,_,rfl,pN (b:=false) (i:=0+k) (ck.same s14 ha2) ez2' ⟨_,_,_,_,_,_,rfl,hz1,hz2,(pZ bw1).mono (by decide),(pZ bw2).mono (by decide),j0.sub λov H15 s15 hov=>?_⟩⟩⟩;obtain⟨oa,rfl,hoa⟩:=bn hov;have le:=C7 (j:=k) V.pr.pin hb60 (hs i hi) hi wi wo on1 on2;have bo':Bq 3900 (jS ((Aa b r1).at k-(Aa b r2).at k)):=zq (Ok.mono (Bq.sub (pZ bw1) (pZ bw2)) (by decide));generalize (Aa b r1).at k-(Aa b r2).at k=off at hov hoa le bo';apply KO (I:=λov H16=>af H15 H16/\ax K H16 (rD (jS off)) ov)
    case main=>
     intro eO;refine⟨_,rfl,cr hoa ⟨_,_,rfl,rfl,_,rfl,f9 (λhc=>?k3) (λhc=>?k4)⟩⟩
     case k4=>
      have hc:¬ 0<=off.num:=λz=>hc (Ms z)
      refine⟨_,rfl,cr hoa ⟨_,_,rfl,rfl,_,rfl,bN hoa ⟨l7,λp5 hp5=>?_⟩⟩⟩;have h5:af H15 (upd H15 p5 (.tup [.int (0-off.num),.int (off.den:Int)]))/\ax K (upd H15 p5 (.tup [.int (0-off.num),.int (off.den:Int)])) (rD (jS off)) (.ref p5):=⟨af.new hp5,by rw[xD hc,Bj];exact pI ae⟩
      generalize upd H15 p5 (.tup [.int (0-off.num),.int (off.den:Int)])=H16 at h5 ⊢;generalize L2.V.ref p5=ov at h5 ⊢;exact eO ov H16 h5
     have hc:=Nx hc;rw[<- vv hc] at hov;exact⟨_,rfl,eO _ _ ⟨af.refl _,hov⟩⟩
    rintro ov H16 ⟨s16,hov⟩;have s316:=(s14.trans s15).trans s16;obtain⟨la',xs',e0,hla,hxs⟩:=aN (b:=true) (ds:=sl.ds) (ax.same s316 (ax.uncut V.td));cases e0;obtain⟨sx,esx,hsx⟩:=vp hi hxs;refine⟨_,rfl,_,rfl,pN (b:=true) (i:=i) hla esx ⟨_,rfl,_,_,_,_,_,_,rfl,hsx,ax.same s316 hfv,(pZ bs).mono (by decide),(zq bq).mono (by decide),j0.mul λtv H17 s17 htv=>?_⟩⟩;refine⟨_,rfl,tv,ov,_,_,rfl,htv,ax.same s17 hov,Ok.mono (Bq.mul (pZ bs) (zq bq)) (by decide),bo',_,rfl,?_⟩;rw[Na (Rat.not_lt.mpr le)];exact bA ⟨⟨_,_,rfl⟩,s316.trans s17⟩
   ·rintro σ H14 ⟨⟨p0,p1,rfl⟩,s14⟩;exact⟨⟨_,_,_,_,_,_,_,_,_,rfl⟩,V.same s14⟩
  ·rintro σ H1 ⟨⟨p0,p1,p2,p3,p4,p5,p6,p7,p8,rfl⟩,V1⟩;exact q _
end
structure LA (K:HD):Prop where
 xf:MA K Mo "abs"=some none
 x9:MA K Mo "all"=some none
 xk:MA K Mo "bool"=some none
 xl:MA K Mo "dict"=some none
 xm:MA K Mo "int"=some none
 x2:MA K Mo "isinstance"=some none
 x3:MA K Mo "len"=some none
 xa:MA K Mo "list"=some none
 xd:MA K Mo "max"=some none
 xg:MA K Mo "min"=some none
 x1:MA K Mo "range"=some none
 xn:MA K Mo "set"=some none
 xh:MA K Mo "sorted"=some none
 x13:MA K Mo "str"=some none
 xo:MA K Mo "sum"=some none
 x5:MA K Mo "tuple"=some none
 x8:MA K Mo "zip"=some none
structure Ll (K:HD):Prop where
 xq:∃ t,MA K Mo "FEWEST_KNOTS"=some (some (.int 2 t))
 xr:∃ t,MA K Mo "FEWEST_POINTS"=some (some (.int 2 t))
 xs:∃ t,MA K Mo "GREATEST_TO_SQUARE"=some (some (.int 1000 t))
 xt:∃ t,MA K Mo "GREATEST_curves"=some (some (.int 1000 t))
 xu:∃ t,MA K Mo "GREATEST_grids"=some (some (.int 1000 t))
 xi:∃ t,MA K Mo "GREATEST_squares"=some (some (.int 4000 t))
 xv:∃ t,MA K Mo "MOST_KNOTS"=some (some (.int 7 t))
 xw:∃ t,MA K Mo "MOST_POINTS"=some (some (.int 12 t))
 xe:∃ t,MA K Mo "REACH"=some (some (.int 60 t))
 xj:∃ t,MA K Mo "UNIT"=some (some (.int 1000 t))
structure Lc (K:HD):Prop where
 x4:f8 K "Curve" ["points"]=true
 xc:f8 K "Ends" uC8=true
 x0:f8 K "Grid" ["knots","table"]=true
 x6:f8 K "GridProfile" ["curves","grid","bounds"]=true
 x7:f8 K "SquareProfile" ["curves","square","bounds"]=true
 xx:B1 K "Curve"=true
 xy:B1 K "Ends"=true
 xz:B1 K "Grid"=true
 x10:B1 K "GridProfile"=true
 x11:B1 K "SquareProfile"=true
 x14:ID K "GridProfile" "SquareProfile"=true
structure RawD (K:HD):Prop where
 x15:AtD K "is_whole" mP
 x16:AtD K "is_whole_within" fS
 x17:AtD K "is_tuple_within" fw
 x18:AtD K "greatest_measure" fg
 x19:AtD K "is_share" m7
 x1a:AtD K "refuse_no_share" fW
 x1c:AtD K "added" vn
 x1d:AtD K "multiplied" j8
 x1e:AtD K "floor_of" mI
 x1f:AtD K "is_less" oB
 x1g:AtD K "sum_of" sV
 x1h:AtD K "is_within" kG
 x1i:AtD K "over_one_below" f6
 x1j:AtD K "greatest_of" jd
 x1k:AtD K "is_colour" k7
 x1l:AtD K "is_row" tN
 x1m:AtD K "is_square" kF
 x1n:AtD K "refuse_no_square" eW
 x1o:AtD K "refuse_no_colour" e6
 x1p:AtD K "whole_sum" lI
 x1q:AtD K "share_sum" kN
 x1r:AtD K "led" Ea
 x1s:AtD K "is_knots" mW
 x1t:AtD K "is_knot" o_
 x1u:AtD K "is_worth" mT
 x1v:AtD K "apart" vQ
 x1w:AtD K "is_table" m_
 x1x:AtD K "refuse_no_device_colour" cR
 x1y:AtD K "places_below" ij
 x1z:AtD K "moved" vw
 x20:AtD K "parts_by_eight" fZ
 x21:AtD K "is_way" rE
 x27:AtD K "is_point" mR
 x28:AtD K "is_onward" kW
 x29:AtD K "is_points" lC
 x2a:AtD K "stretch_to" j_
 x2b:AtD K "on_line" oU
 x2h:AtD K "is_curve_to" je
 x2i:AtD K "is_curves" lf
 x2j:AtD K "refuse_no_curves" fb
 x2k:AtD K "refuse_no_bounds" eV
 x2l:AtD K "copied_curves" gG
 x2m:AtD K "copied_ends" ji
 x2n:AtD K "values_at" kP
 x2s:AtD K "refuse_no_profile" eK
 x2t:AtD K "slope_sum" kS
 x2u:AtD K "_law_town" kL
 x2v:AtD K "_law_draw" kR
 x2w:AtD K "_law_pick" kQ
 x2x:AtD K "_law_whole" jQ
 x2y:AtD K "_law_low" mH
 x2z:AtD K "_law_plus" lB
 x30:AtD K "_law_less" lg
 x31:AtD K "_law_times" jP
 x32:AtD K "_law_below" kc
 x33:AtD K "_law_share" j7
 x34:AtD K "_law_three" j5
 x35:AtD K "_law_is_share" gz
 x36:AtD K "_law_points" ju
 x37:AtD K "_law_square" jj
 x38:AtD K "_law_grid" kM
 x39:AtD K "_law_ends" lv
 x3a:AtD K "_law_curves" jo
 x3b:AtD K "_law_profile" iN
 x3c:AtD K "_law_due" nj
structure Ln (K:HD):Prop where
 x22:AtM K "Grid" "__init__" "Grid.__init__" fC
 x23:AtM K "Grid" "knot" "Grid.knot" jh
 x24:AtM K "Grid" "size" "Grid.size" jc
 x25:AtM K "Grid" "mixed" "Grid.mixed" iO
 x26:AtM K "Grid" "widest" "Grid.widest" gI
 x2c:AtM K "Curve" "__init__" "Curve.__init__" e_
 x2d:AtM K "Curve" "last" "Curve.last" iJ
 x2e:AtM K "Curve" "value" "Curve.value" gE
 x2f:AtM K "Curve" "steepest" "Curve.steepest" fe
 x2g:AtM K "Curve" "ends" "Curve.ends" iy
 x2o:AtM K "SquareProfile" "to_worth" "SquareProfile.to_worth" cC
 x2p:AtM K "SquareProfile" "slopes" "SquareProfile.slopes" c7
 x2q:AtM K "GridProfile" "to_worth" "GridProfile.to_worth" c9
 x2r:AtM K "GridProfile" "slopes" "GridProfile.slopes" dA
set_option autoImplicit true in
set_option relaxedAutoImplicit true in
theorem all_mk {l:TL}{w:No}{K:HD}{h:Os}{mg:Str->Option Mj}{fa:Mz}{tA:List Mz} (X:K.In h) (G:h.Ns Mo mg) (hfa:mg "law"=some (.ref fa))
  (RN:LA K)
  (RG:Ll K)
  (RB:Lc K)
  (RD:RawD K)
  (RM:Ln K)
  (o6:MA K Mo "Grid"=some (some (.ref Iz)))
  (wj:MA K Mo "Ends"=some (some (.ref IQ)))
  (eT:MA K Mo "SquareProfile"=some (some (.ref qp)))
  (gi:MA K Mo "GridProfile"=some (some (.ref uz)))
  (q9:MA K Mo "share"=some (some (.ref Bh)))
  (qR:K.lookup Bh=some ⟨Kh,KD,.func (MK "share" "share" (aQ g_) (aJ g_) (ah g_) (.ref Gz) JB JG Jr KF DV JI),JW⟩)
  (qU:M' K DV "share"=true)
  (qP:MZ K (.ref Bh)=true)
  (qZ:K.lookup Gz=some C8)
  (qH:C8.data=.seq #[.int 1 Ec] KP)
  (b_:MA K Mo "parts_by_four"=some (some (.ref gK)))
  (eU:K.lookup gK=some ⟨Cp,B7,.func (MK "parts_by_four" "parts_by_four" (aQ cU) (aJ cU) (ah cU) .none Cc Bt Bv BX (.ref gh) BY),BO⟩)
  (gB:M' K (.ref gh) "parts_by_four"=true)
  (gJ:MZ K (.ref gK)=true)
  (dY:K.lookup gh=some ⟨.type "code",Az,.fields oI,A8⟩)
  (dZ:DA oI gh dW)
  (f7:K.lookup dW=none)
  (fX:dW∈tA)
  (fB:MV K (.ref Iz) "worth"=some (some (.ref il)))
  (fU:K.lookup il=some ⟨CD,CK,.func (MK "worth" "Grid.worth" (aQ cD) (aJ cD) (ah cD) .none (.ref qy) CJ CG CH qo CI),CF⟩)
  (fF:M' K qo "Grid.worth"=true)
  (fA:MZ K (.ref il)=true)
  (fJ:OF K (.ref il)=true)
  (gC:K.lookup qy=some ⟨.type "dict",none,.dict #[⟨Bx,.str "way" BA,.str "four" oP⟩] Bz,#[]⟩)
  (fI:MV K (.ref IQ) "__init__"=some (some (.ref fO)))
  (fN:K.lookup fO=some ⟨zy,Ad,.func (MK "__init__" "Ends.__init__" (aQ b8) (aJ b8) (ah b8) .none Av An zt zk mK At),Ae⟩)
  (fE:M' K mK "Ends.__init__"=true)
  (fR:MZ K (.ref fO)=true)
  (fM:OF K (.ref fO)=true)
  (cE:MV K (.ref qp) "__init__"=some (some (.ref cx)))
  (cI:K.lookup cx=some ⟨qT,qI,.func (MK "__init__" "SquareProfile.__init__" (aQ bh) (aJ bh) (ah bh) .none qO re qJ qL hV qM),qX⟩)
  (cF:M' K hV "SquareProfile.__init__"=true)
  (cA:MZ K (.ref cx)=true)
  (cy:OF K (.ref cx)=true)
  (c8:MV K (.ref uz) "__init__"=some (some (.ref c6)))
  (dc:K.lookup c6=some ⟨tX,tY,.func (MK "__init__" "GridProfile.__init__" (aQ bt) (aJ bt) (ah bt) .none t5 ua t7 tZ iQ ub),t6⟩)
  (c5:M' K iQ "GridProfile.__init__"=true)
  (de:MZ K (.ref c6)=true)
  (da:OF K (.ref c6)=true)
  (a_law:MA K Mo "law"=some (some (.ref f_law)))
  (l_law:K.lookup f_law=some ⟨Lu,LC,.func (MK "law" "law" (aQ nH) (aJ nH) (ah nH) .none Is IP HZ Jf D4 IR),KY⟩)
  (c_law:M' K D4 "law"=true)
  (k_law:MZ K (.ref f_law)=true)
  (gf:MA K Mo "parts_by_eight"=some (some (.ref pC)))
  (xC:MA K Mo "WAYS"=some (some (.ref zW)))
  (wF:K.lookup zW=some ⟨.type "dict",none,.dict wT F0,#[]⟩)
  (v8:VE w.params wT.toList)
  (wl:SJ (λ(e:N9) (p:Str×Mz)=>∃ t,e.key=.str p.1 t/\e.val=.ref p.2) wT.toList [("four",gK),("eight",pC)])
  (wN:(zW==N2)=false)
  (z_k_STEPS:MA K Mo "STEPS"=some (some (.ref TA_STEPS)))
  (rB:K.lookup TA_STEPS=some oTA_STEPS)
  (tU:oTA_STEPS.cls=.type "tuple"/\oTA_STEPS.data=.seq iTA_STEPS nTA_STEPS/\iTA_STEPS.size<=MI/\aM [.ref TA_STEPS_0,.ref TA_STEPS_1,.ref TA_STEPS_2] iTA_STEPS.toList)
  (kt_STEPS_0:K.lookup TA_STEPS_0=some oTA_STEPS_0)
  (ku_STEPS_0:oTA_STEPS_0.cls=.type "tuple"/\oTA_STEPS_0.data=.seq iTA_STEPS_0 nTA_STEPS_0/\iTA_STEPS_0.size<=MI/\aM ([1,0,0].map V.int) iTA_STEPS_0.toList)
  (kt_STEPS_1:K.lookup TA_STEPS_1=some oTA_STEPS_1)
  (ku_STEPS_1:oTA_STEPS_1.cls=.type "tuple"/\oTA_STEPS_1.data=.seq iTA_STEPS_1 nTA_STEPS_1/\iTA_STEPS_1.size<=MI/\aM ([0,1,0].map V.int) iTA_STEPS_1.toList)
  (kt_STEPS_2:K.lookup TA_STEPS_2=some oTA_STEPS_2)
  (ku_STEPS_2:oTA_STEPS_2.cls=.type "tuple"/\oTA_STEPS_2.data=.seq iTA_STEPS_2 nTA_STEPS_2/\iTA_STEPS_2.size<=MI/\aM ([0,0,1].map V.int) iTA_STEPS_2.toList)
  : ∃ (ts:List (Str×Mz)) (fd:NW),vR K tA ts/\(∀ (s:Mp) (v:Mj),Us s fd ⟨[v],[]⟩ [("_law_script",v)])/\∀ base:Os,K.In base->base.Ns Mo mg->jp l.prog w K mg base cP 12 fa fd uB3 (tL (ts.map (·.1)) K):=by
 have tabs:vR K tA [("parts_by_four",dW)]:=⟨by simp,λp m=>by
  simp only[Mx,MM,Od] at m;subst m;exact⟨fX,f7,HS dY dZ,IL b_ eU rfl rfl dY dZ⟩⟩
 refine⟨[("parts_by_four",dW)],MK "law" "law" (aQ nH) (aJ nH) (ah nH) .none Is IP HZ Jf D4 IR,tabs,λs v=>.of_eq rfl,?_⟩;show ∀ base:Os,K.In base->base.Ns Mo mg->jp l.prog w K mg base cP 12 fa _ uB3 (tL ["parts_by_four"] K);have e:=hfa.symm.trans (Nu X G a_law);cases e;have Gn:du K mg "share" g_ uB5 []:=A2 (ds:=[]) qR qU qP (Nu X G q9) qZ qH .nil λus hl=>match us,hl with|[_,_],_=>⟨_,rfl,rfl⟩
 have D_share_d:du K mg "share" g_ uB5 [.int 1]:=A2 (ds:=[.int 1 Ec]) qR qU qP (Nu X G q9) qZ qH (.cons ⟨_,rfl⟩ (.nil)) λus hl=>match us,(show us.length=1 by simpa using hl) with|[_],_=>⟨_,rfl,rfl⟩
 have qC:FP K mg "parts_by_four" cU uC2:=⟨Ee eU gB gJ (Nu X G b_) λus hl=>match us,hl with|[_,_],_=>rfl,_,b_,Nu X G b_⟩
 have n5:jI K mg "Grid" "worth" "Grid.worth" cD uB9 [] 2 0 [.str "four"]:=Ct (t:=oP) fU fF fA fJ o6 fB RB.x0 (Nu X G o6) gC λus ws h1 h2=>match us,h1,ws,h2 with|[_,_],_,[],_=>⟨_,_,rfl,rfl⟩
 have Eb:jI K mg "Grid" "worth" "Grid.worth" cD uB9 ["way"] 2 1 []:=n9 fU fF fA fJ o6 fB RB.x0 (Nu X G o6) λus ws h1 h2=>match us,h1,ws,h2 with|[_,_],_,[_],_=>rfl
 have nY:jI K mg "Ends" "__init__" "Ends.__init__" b8 uB6 uC8 1 2 []:=n9 fN fE fR fM wj fI RB.xc (Nu X G wj) λus ws h1 h2=>match us,h1,ws,h2 with|[_],_,[_,_],_=>rfl
 have ix:jI K mg "SquareProfile" "__init__" "SquareProfile.__init__" bh uA8 uD0 3 1 []:=n9 cI cF cA cy eT cE RB.x7 (Nu X G eT) λus ws h1 h2=>match us,h1,ws,h2 with|[_,_,_],_,[_],_=>rfl
 have jq:jI K mg "GridProfile" "__init__" "GridProfile.__init__" bt uB0 uD0 3 1 []:=n9 dc c5 de da gi c8 RB.x6 (Nu X G gi) λus ws h1 h2=>match us,h1,ws,h2 with|[_,_,_],_,[_],_=>rfl
 have T:cZ K mg w:=⟨RB.x4,RB.xc,RB.x0,RB.x6,RB.x7,⟨zW,Nu X G xC,⟨wT,F0,wF,v8,yA wl (.cons ⟨rfl,Nu X G b_⟩ (.cons ⟨rfl,Nu X G gf⟩ (.nil)))⟩,wN⟩,Fw X G RG.xq,Fw X G RG.xr,Fw X G RG.xs,Fw X G RG.xt,Fw X G RG.xu,Fw X G RG.xi,Fw X G RG.xv,Fw X G RG.xw,Fw X G RG.xe,Fw X G RG.xj,RB.xx,RB.xy,RB.xz,RB.x10,RB.x11,⟨_,Nu X G z_k_STEPS,[TA_STEPS_0,TA_STEPS_1,TA_STEPS_2],AO rB tU,.cons (AO kt_STEPS_0 ku_STEPS_0) (.cons (AO kt_STEPS_1 ku_STEPS_1) (.cons (AO kt_STEPS_2 ku_STEPS_2) (.nil)))⟩,M5 X G RN.xf,M5 X G RN.x9,M5 X G RN.xk,M5 X G RN.xl,M5 X G RN.xm,M5 X G RN.x2,M5 X G RN.x3,M5 X G RN.xa,M5 X G RN.xd,M5 X G RN.xg,M5 X G RN.x1,M5 X G RN.xn,M5 X G RN.xh,M5 X G RN.x13,M5 X G RN.xo,M5 X G RN.x5,M5 X G RN.x8,RB.x14,RD.x15.d1 X G λ_ _ _ _ _ _ _=>rfl,RD.x16.d3 X G λ_ _ _ _ _ _ _ _ _=>rfl,RD.x17.d4 X G λ_ _ _ _ _ _ _ _ _ _=>rfl,RD.x18.d2 X G λ_ _ _ _ _ _ _ _=>rfl,RD.x19.d1 X G λ_ _ _ _ _ _ _=>rfl,RD.x1a.d1 X G λ_ _ _ _ _ _ _=>rfl,Gn,D_share_d,RD.x1c.d2 X G λ_ _ _ _ _ _ _ _=>rfl,RD.x1d.d2 X G λ_ _ _ _ _ _ _ _=>rfl,RD.x1e.d1 X G λ_ _ _ _ _ _ _=>rfl,RD.x1f.d2 X G λ_ _ _ _ _ _ _ _=>rfl,RD.x1g.d1 X G λ_ _ _ _ _ _ _=>rfl,RD.x1h.d3 X G λ_ _ _ _ _ _ _ _ _=>rfl,RD.x1i.d1 X G λ_ _ _ _ _ _ _=>rfl,RD.x1j.d1 X G λ_ _ _ _ _ _ _=>rfl,RD.x1k.d1 X G λ_ _ _ _ _ _ _=>rfl,RD.x1l.d1 X G λ_ _ _ _ _ _ _=>rfl,RD.x1m.d1 X G λ_ _ _ _ _ _ _=>rfl,RD.x1n.d1 X G λ_ _ _ _ _ _ _=>rfl,RD.x1o.d1 X G λ_ _ _ _ _ _ _=>rfl,RD.x1p.d2 X G λ_ _ _ _ _ _ _ _=>rfl,RD.x1q.d2 X G λ_ _ _ _ _ _ _ _=>rfl,RD.x1r.d2 X G λ_ _ _ _ _ _ _ _=>rfl,RD.x1s.d1 X G λ_ _ _ _ _ _ _=>rfl,RD.x1t.d2 X G λ_ _ _ _ _ _ _ _=>rfl,RD.x1u.d1 X G λ_ _ _ _ _ _ _=>rfl,RD.x1v.d1 X G λ_ _ _ _ _ _ _=>rfl,RD.x1w.d2 X G λ_ _ _ _ _ _ _ _=>rfl,RD.x1x.d1 X G λ_ _ _ _ _ _ _=>rfl,RD.x1y.d1 X G λ_ _ _ _ _ _ _=>rfl,RD.x1z.d2 X G λ_ _ _ _ _ _ _ _=>rfl,qC,RD.x20.d2 X G λ_ _ _ _ _ _ _ _=>rfl,RD.x21.d1 X G λ_ _ _ _ _ _ _=>rfl,RM.x22.d3 X G RB.x0 λ_ _ _ _ _ _ _ _ _=>rfl,RM.x23.d2 X G RB.x0 λ_ _ _ _ _ _ _ _=>rfl,RM.x24.d1 X G RB.x0 λ_ _ _ _ _ _ _=>rfl,RM.x25.d3 X G RB.x0 λ_ _ _ _ _ _ _ _ _=>rfl,n5,RM.x26.d1 X G RB.x0 λ_ _ _ _ _ _ _=>rfl,RD.x27.d1 X G λ_ _ _ _ _ _ _=>rfl,RD.x28.d2 X G λ_ _ _ _ _ _ _ _=>rfl,RD.x29.d1 X G λ_ _ _ _ _ _ _=>rfl,RD.x2a.d2 X G λ_ _ _ _ _ _ _ _=>rfl,RD.x2b.d3 X G λ_ _ _ _ _ _ _ _ _=>rfl,RM.x2c.d2 X G RB.x4 λ_ _ _ _ _ _ _ _=>rfl,RM.x2d.d1 X G RB.x4 λ_ _ _ _ _ _ _=>rfl,RM.x2e.d2 X G RB.x4 λ_ _ _ _ _ _ _ _=>rfl,RM.x2f.d1 X G RB.x4 λ_ _ _ _ _ _ _=>rfl,RM.x2g.d1 X G RB.x4 λ_ _ _ _ _ _ _=>rfl,nY,RD.x2h.d2 X G λ_ _ _ _ _ _ _ _=>rfl,RD.x2i.d2 X G λ_ _ _ _ _ _ _ _=>rfl,RD.x2j.d2 X G λ_ _ _ _ _ _ _ _=>rfl,RD.x2k.d1 X G λ_ _ _ _ _ _ _=>rfl,RD.x2l.d1 X G λ_ _ _ _ _ _ _=>rfl,RD.x2m.d1 X G λ_ _ _ _ _ _ _=>rfl,RD.x2n.d2 X G λ_ _ _ _ _ _ _ _=>rfl,ix,RM.x2o.d2 X G RB.x7 λ_ _ _ _ _ _ _ _=>rfl,RM.x2p.d1 X G RB.x7 λ_ _ _ _ _ _ _=>rfl,jq,RM.x2q.d2 X G RB.x6 λ_ _ _ _ _ _ _ _=>rfl,RM.x2r.d1 X G RB.x6 λ_ _ _ _ _ _ _=>rfl,RD.x2s.d1 X G λ_ _ _ _ _ _ _=>rfl,RD.x2t.d1 X G λ_ _ _ _ _ _ _=>rfl,RD.x2u.d1 X G λ_ _ _ _ _ _ _=>rfl,RD.x2v.d2 X G λ_ _ _ _ _ _ _ _=>rfl,RD.x2w.d2 X G λ_ _ _ _ _ _ _ _=>rfl,RD.x2x.d1 X G λ_ _ _ _ _ _ _=>rfl,RD.x2y.d2 X G λ_ _ _ _ _ _ _ _=>rfl,RD.x2z.d2 X G λ_ _ _ _ _ _ _ _=>rfl,RD.x30.d2 X G λ_ _ _ _ _ _ _ _=>rfl,RD.x31.d2 X G λ_ _ _ _ _ _ _ _=>rfl,RD.x32.d2 X G λ_ _ _ _ _ _ _ _=>rfl,RD.x33.d2 X G λ_ _ _ _ _ _ _ _=>rfl,RD.x34.d2 X G λ_ _ _ _ _ _ _ _=>rfl,RD.x35.d1 X G λ_ _ _ _ _ _ _=>rfl,RD.x36.d4 X G λ_ _ _ _ _ _ _ _ _ _=>rfl,RD.x37.d1 X G λ_ _ _ _ _ _ _=>rfl,RD.x38.d2 X G λ_ _ _ _ _ _ _ _=>rfl,RD.x39.d1 X G λ_ _ _ _ _ _ _=>rfl,RD.x3a.d3 X G λ_ _ _ _ _ _ _ _ _=>rfl,RD.x3b.d1 X G λ_ _ _ _ _ _ _=>rfl,RD.x3c.d1 X G λ_ _ _ _ _ _ _=>rfl⟩
 intro base _ _;exact I9 T (HW (st:=nH) l_law c_law k_law)
theorem walk {l:TL}{qq:MS}{loose:List Str}{XP:(Str->Option Mj)->Os->Prop}{YP:No->Os->Prop}{d:DefRec}{K:Params->HD} (hn:l.most=some 63) (hdf:d.params.defaults=[])
  {tA:List Mz}(hY:∀ (w:No) (h:Os),YP w h->(K w.params).In h)(hY2:∀ (w:No) (h:Os),YP w h->∀ P∈tA,h.get? P=some { cls:=.none,data:=.fields #[] })
  (F:∀ (w:No) (mg:Str->Option Mj) (fa:Mz) (h:Os),(K w.params).In h->h.Ns Mo mg->mg d.name=some (.ref fa) ->
   ∃ (ts:List (Str×Mz)) (fd:NW),vR (K w.params) tA ts/\(∀ (s:Mp) (u:Mj),Us s fd ⟨[u],[]⟩ [("_law_script",u)])/\∀ base:Os,(K w.params).In base->base.Ns Mo mg->jp l.prog w (K w.params) mg base cP 12 fa fd uB3 (tL (ts.map (·.1)) (K w.params))) :
  PySem.W.WalkO qq loose XP YP l.row.toRowW d [] (λf vs=>VO f vs):=
 DE (k:=12) (x:="_law_script") (CX:=λw=>cP) (sp:=tL) hn hdf ⟨rfl,by decide,by decide⟩ hY hY2 F (λ_ _ _ a ns hl hS hx=>⟨a,ns,rfl,hS,hl,hx,λ_=>rfl⟩) λ_ _ _ _ _ z=>z
end TR
namespace PySem.W.Fast
def tw11478763561133210654:=0
def tw13131027396908501727:=0
def tw12169765575316412939:=0
def tw14491729459980734074:=0
def tw1588283843778343468:=0
def tw455556081554247314:=0
def tw12479364163904468087:=0
def tw2550767967068180017:=0
def tw11812591200776028098:=0
def tw3861747204127006237:=0
def tw6817697270625854370:=0
def tw17287658310219784295:=0
def tw8213249665572368751:=0
def tw5209879903704906344:=0
def tw11753954011677882120:=0
def tw1743323838377843462:=0
def tw13450954551883517331:=0
def tw10028576335287966087:=0
def tw6657328292665527867:=0
def tw15441715665466577101:=0
def tw1683178385168739704:=0
def tw12689897818388253510:=0
def tw11768859158948790492:=0
def tw17757111073383860745:=0
def tw8176842531801155818:=0
def tw8340324978796883150:=0
def tw9273825920344868206:=0
def tw11766626252557686339:=0
def tw11050973350110184917:=0
def tw185538123003240920:=0
def tw11201014363691009280:=0
def tw12066547564955983741:=0
def tw332756345712137554:=0
def tw8167354116743950487:=0
def tw4675626749389839766:=0
def tw18365510136486488284:=0
def tw14803958587298835938:=0
def tw15233189691016928644:=0
def tw1482090340622820817:=0
def tw6408293324563350301:=0
def tw9723455472884343355:=0
def tw8117584695611338187:=0
def tw4406956720047834251:=0
def tw1255613222300121003:=0
def tw1127124865341121107:=0
def tw11532468347303928779:=0
def tw8450020207491865630:=0
def tw8353101433706151191:=0
def tw9418376518127021849:=0
def tw12296871919629415902:=0
def tw8135177738604478413:=0
def tw10366769611842333409:=0
def tw1886076014550730962:=0
def tw4420048675918295339:=0
def tw16115172695915835444:=0
def tw1193764770248485685:=0
def tw16013606361466575652:=0
def tw9145464339830802176:=0
def tw15413190814478714953:=0
def tw13269870902581119989:=0
def tw1240260254788563173:=0
def tw6314290443041827360:=0
def tw8176652762328994001:=0
def tw9357579943002450960:=0
def tw11199453244115078762:=0
def tw2107282645080167544:=0
def tw18427565898597684023:=0
def tw379118878536772110:=0
def tw2181118862602374119:=0
def tw3715365934319322018:=0
def tw15384308886416137144:=0
def tw11273804383217567077:=0
def tw8639130671734454848:=0
def tw11244108458499330025:=0
def tw11030519008418144311:=0
def tw13190622201146846830:=0
def tw11771655410712583087:=0
def tw17390047024997896504:=0
def tw14974738213403628117:=0
def tw7920155295300469676:=0
def tw8762334526752413243:=0
def tw9208428549029469250:=0
def tw1114823033358764658:=0
def tw11264351779249989680:=0
def tw740004674497862756:=0
def tw10828719506960536060:=0
def tw5077947906380347533:=0
def tw17454411220387851774:=0
def tw2112306537428070968:=0
def tw14866750207310619827:=0
def tw11408303770094726175:=0
def tw9766409311150634551:=0
def tw112893660367855420:=0
def tw15935765311657551959:=0
def tw14827190825928274669:=0
def tw2989452759984990627:=0
def tw9206942609623513636:=0
def tw14516633390726325148:=0
def tw16849606068615421591:=0
def tw15092623741750107056:=0
def tw12038161618897963960:=0
def tw12795946279421459663:=0
def tw11602003595703936176:=0
def tw18272309251323979758:=0
def tw7159239393350618351:=0
def tw6448347152618725414:=0
def tw628900538465822280:=0
def tw6070414773251652438:=0
def tw9052160529538019954:=0
def tw13912316855384918142:=0
def tw18312260410129988653:=0
def tw6147518736641820844:=0
def tw1968272512159104477:=0
def tw3043198765890789722:=0
def tw6155862347433130682:=0
def tw5117551321270702253:=0
def tw4271415445881619489:=0
def tw10197486472743734519:=0
def tw13724118858128155944:=0
def tw17345189996584886448:=0
def tw1506013937709153581:=0
def tw12278502914715869058:=0
def tw5253117123948360753:=0
def tw6764808269380360887:=0
def tw5064107218074686855:=0
def tw16336474166078377149:=0
def tw14145399299065977879:=0
def tw15187133663895967138:=0
def tw17666378355448300258:=0
def tw12298797154383840268:=0
def tw12138381298005052171:=0
def tw4775493797181830515:=0
def tw14722258889524397691:=0
def tw16300947789619149276:=0
def tw12540838040259148171:=0
def tw11296158153016281358:=0
def tw6948967850993092241:=0
def tw2691801300462563872:=0
def tw17340731369998611980:=0
def tw4083032210568194219:=0
def tw8084688501330331654:=0
def tw12404680320554713129:=0
def tw13020364833226552300:=0
def tw16779527254796229701:=0
def tw5977771828537665716:=0
def tw3422302137469581515:=0
def tw18424901737011539573:=0
def tw5942609430262597395:=0
def tw5103587925333181573:=0
def tw6512706972005539622:=0
def tw15075771380625356317:=0
def tw8836033095154279676:=0
def tw1191604919685195471:=0
def tw11253978726077329131:=0
def tw5437599850678299159:=0
def tw695126476818263330:=0
def tw3117349103155201238:=0
def tw15393287294677334069:=0
def tw8289383985395077387:=0
def tw4002724386111721323:=0
def tw11087176307384735226:=0
def tw9753231499335076347:=0
def tw12326874750233573393:=0
def tw3718435545386221515:=0
def tw5174933493658167263:=0
def tw16652415370906877248:=0
def tw11489353819679751378:=0
def tw32153790719454724:=0
def tw5972279482309066705:=0
def tw6444761156380772765:=0
def tw1787888208712963036:=0
def tw8605853606033175499:=0
def tw1986958344272850480:=0
def tw1897039905069117143:=0
def tw1627778745373060014:=0
def tw12228372957941628990:=0
def tw4949094475580426991:=0
def tw3850596805073685771:=0
def tw5324864619511988552:=0
def tw3761648024057717250:=0
def tw11122217028340937833:=0
def tw5725491877547263765:=0
def tw13501554289572048485:=0
def tw4903363726299740671:=0
def tw8499049899693649780:=0
def tw12503791952274449048:=0
def tw17511743876976696988:=0
def tw3860641431884645322:=0
def tw13278322793288409940:=0
def tw1191052580268030231:=0
def tw3431618675218606906:=0
def tw14670786203183936072:=0
def tw9287657175905242807:=0
def tw7689552742803519757:=0
def tw17907750614047486704:=0
def tw5998293658419078554:=0
def tw15933272760952199482:=0
def tw11465873845683826137:=0
def tw18099832025130811276:=0
def tw15948846069103697897:=0
def tw16612870878927382143:=0
def tw8584974296127214851:=0
def tw1428701108629097239:=0
def tw6493243796436581286:=0
def tw12015659209862934084:=0
def tw3051937055939939054:=0
def tw14341256758372248566:=0
def tw8550385004873757456:=0
def tw10413586575540447328:=0
def tw14239056153226851620:=0
def tw16009359201685932425:=0
def tw3757102345143737767:=0
def tw3488666324635398474:=0
def tw2518353611019048609:=0
def tw8956793644231099367:=0
def tw10213731454672276580:=0
def tw8729331473745642958:=0
def tw13315668827442113130:=0
def tw4068696530064698223:=0
def tw10286601782319767113:=0
def tw5042032152501844412:=0
def tw1628255003412715239:=0
def tw9461805210033408094:=0
def tw17529823409823302478:=0
def tw10033657464813594881:=0
def tw7272058838006874039:=0
def tw14854619539102881448:=0
def tw14977106677803767750:=0
def tw16927480676599861729:=0
def tw6894964701866846101:=0
def tw16059254776494153884:=0
def tw18221796240813644953:=0
def tw18444050081348743917:=0
def tw7263108817836628076:=0
def tw15358377068804594767:=0
def tw672681680741379767:=0
def tw11097084786455520845:=0
def tw9091154590720627488:=0
def tw9560701116349956904:=0
def tw14949375654199130154:=0
def tw12254190119151980184:=0
def tw17183019692112682984:=0
def tw14537522934555562721:=0
def tw1193386267774229819:=0
def tw4723761196693238738:=0
def tw8498200152038384852:=0
def tw11043955787989347446:=0
def tw10638833992453113731:=0
def tw7677274428096406189:=0
def tw5085230631456897461:=0
def tw1101682877879266055:=0
def tw6068990625796477990:=0
def tw5845951033926151632:=0
def tw9723901487155242130:=0
def tw8468565908432157832:=0
def tw13134317960334662766:=0
def tw16060884201159740536:=0
def tw1764078475628150103:=0
def tw17662038612246144261:=0
def tw6130806126855133014:=0
def tw12065004388483161174:=0
def tw17363658897954806001:=0
def tw9808349281362764821:=0
def tw7964417246597770394:=0
def tw6966177783662398255:=0
def tw25150687749482515:=0
def tw15083431154547960678:=0
def tw10593913623392616034:=0
def tw3149462901340584590:=0
def tw4991607088871249072:=0
def tw6784883889946814944:=0
def tw14104155549694400035:=0
def tw11303211024536611671:=0
def tw1647550775787342690:=0
def tw13384576231722870408:=0
def tw4476249718375983790:=0
def tw6319094903302006236:=0
def tw10077797110317690594:=0
def tw15028211870043970054:=0
def tw12133957247697508126:=0
def tw11532769357353817994:=0
def tw15194728434571137448:=0
def tw9285027972878372352:=0
def tw10775483749044505791:=0
def tw9757635503408093228:=0
def tw9585508388755940038:=0
def tw9986425543158555546:=0
def tw5578521341470949718:=0
def tw12594153885513085923:=0
def tw5108287675338393931:=0
def tw6395774178806516428:=0
def tw14415436880623605186:=0
def tw14733923699525596364:=0
def tw12664377160476560769:=0
def tw5184052024998766796:=0
def tw13359674985588685941:=0
def tw5042278836018715358:=0
def tw4982930591086604863:=0
def tw13267103836353115666:=0
def tw1263188096066451644:=0
def tw3055208819590954799:=0
def tw1232939866525961758:=0
def tw8006565992396118851:=0
def tw11523517513127815108:=0
def tw6913888841488152110:=0
def tw12568418582133260855:=0
def tw13584451921445885446:=0
def tw17304464083610866885:=0
def tw18201439126467736867:=0
def tw16621938454384715988:=0
def tw18091447673109621296:=0
def tw9454727460260918889:=0
def tw3501248124538318816:=0
def tw4901621303968089616:=0
def tw11149271834393979393:=0
def tw10810090695517067577:=0
def tw1367643571624708790:=0
def tw8285035850432191417:=0
def tw11692179332900427937:=0
def tw16649275897557845520:=0
def tw4688796963025037149:=0
def tw527171194586292971:=0
def tw8879584532612198773:=0
def tw5570491360874336262:=0
def tw12317597106161257383:=0
def tw13009906983275389226:=0
def tw7641413920410536292:=0
def tw10554407842838930278:=0
def tw10286759547803966236:=0
def tw4090823897766998006:=0
def tw2684323758803524429:=0
def tw12665769911102073510:=0
def tw3617573486628453429:=0
def tw13320612741291482039:=0
def tw14646769786363888294:=0
def tw7521684707514396980:=0
def tw3877620860481109536:=0
def tw17746609103905081542:=0
def tw4398326830516155952:=0
def tw10646278801689831895:=0
def tw4540640762720058226:=0
def tw8151345701538715975:=0
def tw16762183524583363341:=0
def tw14026695735512766851:=0
def tw12783220491051878159:=0
def tw7939708344013924467:=0
def tw8053049108832046495:=0
def tw17592534207783707152:=0
def tw10797667902980621182:=0
def tw3902407930201989927:=0
def tw16196956264263090726:=0
def tw1325735792530460520:=0
def tw5772149845833969634:=0
def tw7259427574896607026:=0
def tw14528140762521137181:=0
def tw16154971087149055932:=0
def tw11868828099385502271:=0
def tw17754533418182603220:=0
def tw2067076591926993373:=0
def tw15543595362165516425:=0
def tw18445329870878040974:=0
def tw4310620665651244379:=0
def tw10020851412801969611:=0
def tw12167888942116213527:=0
def tw3796396236118981771:=0
def tw14348078526322254066:=0
def tw3003460453409954132:=0
def tw8406704518152562396:=0
def tw13337049886373022911:=0
def tw2596063872896876058:=0
def tw10829923525745956501:=0
def tw3836441584606197113:=0
def tw8736489430881605462:=0
def tw18432786344831547017:=0
def tw1118331563930187154:=0
def tw6259961192823169049:=0
def tw14122789953360062882:=0
def tw3944490145818885363:=0
def tw10706220991405260369:=0
def tw16386189183813822691:=0
def tw9252403227007859202:=0
def tw17531373696099018092:=0
def tw18199666440676395749:=0
def tw12320188405469964886:=0
def tw11326666598725517747:=0
def tw3327713396371269951:=0
def tw15227910542633055233:=0
def tw12392702662494521223:=0
def tw11902459937405312332:=0
def tw1279534232739171258:=0
def tw2013924882031281729:=0
def tw11905455696789189695:=0
def tw16802835256469822451:=0
def tw10307276079496728375:=0
def tw2334710592967190544:=0
def tw2652266193564939739:=0
def tw11406312845073449335:=0
def tw3210615684691182607:=0
def tw4865957756198196397:=0
def tw18411352638480282537:=0
def tw6152613313029214386:=0
def tw9746434159306462599:=0
def tw13120798316134654631:=0
def tw15394889728704662195:=0
def tw2353346561554504149:=0
def tw10702638726163461588:=0
def tw5811010182223801697:=0
def tw10475427152554227959:=0
def tw2095461056491645185:=0
def tw6722051075745649042:=0
def tw2788810059406271225:=0
def tw11509031908067860524:=0
def tw17757061897570301422:=0
def tw15907566814379672003:=0
def tw17599792438496455766:=0
def tw4551167691211673215:=0
def tw16396257433494378304:=0
end PySem.W.Fast
open PySem PySem.W PyProof.Rows
set_option maxRecDepth 100000 in
set_option maxHeartbeats 0 in
theorem PySem.Challenge.cw_tintroads_k21_whole_slopes_holds : PySem.Challenge.rw_tintroads_k21_whole_slopes.Holds := by
  w_on;o_law;k_head;(case hw=>w_witness2)
  k_fill
  refine TR.walk (l:=PySem.Challenge.rw_tintroads_k21_whole_slopes) rfl rfl (fun w h Y=>PySem.W.km_in_of Y) (fun w h Y=>PySem.W.km_tabs_of Y) ?F
  case F=>
    intro w mg fa h KX G hmg
    refine' TR.all_mk KX G hmg ?RN ?RG ?RB ?RD ?RM ?o6 ?wj ?eT ?gi ?q9 ?qR ?qU ?qP ?qZ ?qH ?b_ ?eU ?gB ?gJ ?dY ?dZ ?f7 ?fX ?fB ?fU ?fF ?fA ?fJ ?gC ?fI ?fN ?fE ?fR ?fM ?cE ?cI ?cF ?cA ?cy ?c8 ?dc ?c5 ?de ?da ?a_law ?l_law ?c_law ?k_law ?gf ?xC ?wF ?v8 ?wl ?wN ?z_k_STEPS ?rB ?tU ?kt_STEPS_0 ?ku_STEPS_0 ?kt_STEPS_1 ?ku_STEPS_1 ?kt_STEPS_2 ?ku_STEPS_2
    (case RN=>constructor <;> k_is)
    (case RG=>constructor <;> (refine' TR.gOf ?a;(case a=>k_is)))
    (case RB=>constructor <;> kernel_rfl)
    (case RD=>constructor <;> (refine' TR.AtD.of ?a ?b ?c ?d;(case a=>k_is);(case b=>k_is);(case c=>k_is);(case d=>k_is)))
    (case RM=>constructor <;> (refine' TR.AtM.of ?a ?b ?c ?d ?e ?f;(case a=>k_is);(case b=>k_is);(case c=>k_is);(case d=>k_is);(case e=>k_is);(case f=>k_is)))
    (case o6=>k_is)
    (case wj=>k_is)
    (case eT=>k_is)
    (case gi=>k_is)
    (case q9=>k_is)
    (case qR=>k_is)
    (case qU=>k_is)
    (case qP=>k_is)
    (case qZ=>k_is)
    (case qH=>first | rfl | k_is)
    (case b_=>k_is)
    (case eU=>k_is)
    (case gB=>k_is)
    (case gJ=>k_is)
    (case dY=>k_is)
    (case dZ=>exact ⟨_,_,_,_,_,_,_,rfl,rfl,rfl,rfl,rfl,rfl,by decide⟩)
    (case f7=>kernel_rfl)
    (case fX=>decide)
    (case gf=>k_is)
    (case fB=>k_is)
    (case fU=>k_is)
    (case fF=>k_is)
    (case fA=>k_is)
    (case fJ=>k_is)
    (case gC=>k_is)
    (case fI=>k_is)
    (case fN=>k_is)
    (case fE=>k_is)
    (case fR=>k_is)
    (case fM=>k_is)
    (case cE=>k_is)
    (case cI=>k_is)
    (case cF=>k_is)
    (case cA=>k_is)
    (case cy=>k_is)
    (case c8=>k_is)
    (case dc=>k_is)
    (case c5=>k_is)
    (case de=>k_is)
    (case da=>k_is)
    (case a_law=>k_is)
    (case l_law=>k_is)
    (case c_law=>k_is)
    (case k_law=>k_is)
    (case xC=>k_is)
    (case wF=>k_is)
    (case v8=>first | exact ⟨⟨_,_,rfl,rfl⟩,⟨_,_,rfl,rfl⟩,trivial⟩ | (k_is;exact ⟨⟨_,_,rfl,rfl⟩,⟨_,_,rfl,rfl⟩,trivial⟩))
    (case wl=>exact .cons ⟨_,rfl,rfl⟩ (.cons ⟨_,rfl,rfl⟩ (.nil)))
    (case wN=>first | rfl | decide)
    (case z_k_STEPS=>k_is)
    (case rB=>k_is)
    (case tU=>exact ⟨rfl,rfl,by decide,.cons rfl (.cons rfl (.cons rfl (.nil)))⟩)
    (case kt_STEPS_0=>k_is)
    (case ku_STEPS_0=>exact ⟨rfl,rfl,by decide,.cons ⟨_,rfl⟩ (.cons ⟨_,rfl⟩ (.cons ⟨_,rfl⟩ .nil))⟩)
    (case kt_STEPS_1=>k_is)
    (case ku_STEPS_1=>exact ⟨rfl,rfl,by decide,.cons ⟨_,rfl⟩ (.cons ⟨_,rfl⟩ (.cons ⟨_,rfl⟩ .nil))⟩)
    (case kt_STEPS_2=>k_is)
    (case ku_STEPS_2=>exact ⟨rfl,rfl,by decide,.cons ⟨_,rfl⟩ (.cons ⟨_,rfl⟩ (.cons ⟨_,rfl⟩ .nil))⟩)
#print axioms PySem.Challenge.cw_tintroads_k21_whole_slopes_holds
