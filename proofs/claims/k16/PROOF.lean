import PyProof.Rows.All
import Wide.All
import OpenK.AllK
import Wide.FinOn
import Lean
import PyProof.EqAt
import PyProof.EqKinds
import PyProof.TupleCall
import KE.KTryMore
import PyProof.ExcAttrAll.ValueError
import PyProof.NsDelKeeps
import KE.KDictOf
import KE.KPairComp
import KE.KSortKey
import KE.KLam
import KE.KRevSl
import PyProof.ListRange
import KE.KSortTup
import KE.KDictSum
import KE.KIntText
import PySem.Challenge.RW_tintroads_k16_nearest_refused
open PySem.W renaming Frag->HD,nsIn->Nw,fnOf->NF,keepIn->NM,codeIn->NU,findIn->NV,mg_none_of->NW,mg_of->N1,subIn->OD,kitOne->O4,emptyDict->O_,Looks->Pj,typeIn->PY,instObj->P3,isFn->Qw,clsIn->QA,cellsFrom_some->QF,callWith_K->QI,kla_obj->QO,looks_findIn->Q2,kla_fn->Q6,plainGet->Rc,excIn->RE,mroIn->RF,hasDictIn->R0,specialIn->R1,CodeHd->Sa,KasT->Sk,methodCall_KW->Sl,hideAll_none->SE,callWith_KW->SZ,hideAll->S0,hideAll_get->S4,isClsIn->S5,makesIn->S6,plainGet_of->S7,takesIn->S8,lookIn->TL,methodObj->T9,plainOver->T_,OpenLaw->U6,kia_one->U7,takerIn->U8,kla_callFunE->Vo,kla_codeExpr->Vp,kitAny->Vr,looks_mroIn->VB,kitx_tuple->VS,of_hideAll->VT,kas_place->Wb,kitx_dict->Wc,kitx_list->Wd,handedIn->WL,kas_sort->WM,KeysLit->W3,kitMeta->W5,InstAt->W_,exmOne->Xa,tabObj->Xb
open PySem renaming wpAny_bind->KE,wpAny_pure->Nc,Value->Nd,Shared->Nh,mainGlobals->Nk,Addr->Nn,wpAny->Nu,sizeLine->Nv,Program->ND,starEach->NG,model->NI,PyData->NQ,wpAny_callSpecial?_slot->N2,wpAny_setField_rec->N3,wpAny_newObj_type->N4,World->N6,wpAny_field->N_,Around->Oa,wpAny_seqItems->Of,bootBuiltins->Oh,wpAny_mono->Oi,wpAny_call_entry->Oj,wpAny_holding->Ox,wpAny_Call_Name_kw->OA,sysModules->OB,bindArgs->OE,FuncData->OK,foldedSetIterable->OQ,wpAny_dictEntries->OR,wpAny_pyIter_list->OS,wpAny_truthy_bool->OT,keywordEach->OW,Heap->OZ,DictEntry->O2,compareOp->Pk,wpAny_attempt->Pm,Expr->Po,mem_of_lookup->Pp,Stmt->Pr,wpAny_typeNameOfWhole_itemiter->Py,wpAny_pyIter_tuple->PC,wpAny_isInstance->PF,wpAny_letGo->PH,wpAny_typeNameOfWhole_keyiter->PJ,wpAny_loadName_local->PM,Builtin->PN,wpAny_standAt->PP,codeAny_builtin->P4,sizeLine_eq->P5,assignEach->P9,wpAny_typeNameOf_itemiter->Qi,backToKw->Qk,wpAny_comprehension_free->Qq,wpAny_passesOwn->Qr,wpAny_rule->Qs,wpAny_specialOf->Qt,wpAny_typeNameOf_keyiter->Qu,codeAny->QB,wpAny_onRaise->QC,NameKind->QH,compEnvC->QK,tupleKeyHash->QQ,tupleKind->QR,wpAny_dictEpoch->QS,eval->QT,binaryOp->QW,wpAny_call->QX,backTo->Q0,pyNext->Q1,lookup_relabel_local->Q4,Scope->Q7,firstArgMember->Q8,wpAny_forIn_list->Rf,codeAny_mono->Rn,wpAny_Name->Ro,Comprehension->Rp,cellsFrom->RI,letOwnedTupleGo->RJ,plainId_quiet->RK,rawInt->RL,wpAny_execs_nil->RO,wpAny_isOneOf_itemiter->RT,IsItemIter->RX,builtinsNs->R5,call_meets->R6,sliceBounds->R7,wpAny_assign_Name->R8,wpAny_setField->Sb,wpAny_tryCatch->Sc,codeAmong->So,isSubtype_tuple_tuple->Sq,wpAny_notOrdered_dict->Sr,wpAny_storeName_local->Ss,wpAny_pyIter_zip->SB,codeAny_call_builtin->SF,wpAny_newFunctionEnv->SG,wpAny_updateSeq_pair->SH,isInstance->SM,argBest->Tc,swapsWith->Td,wpAny_loadName_free->Te,wpAny_updateSeq->Tf,Paired->Tt,intItems->Tw,wpAny_tupleItemsOf->Tx,Keyword->TH,isSubtype_stop->TM,newFunctionEnv->TN,wpAny_binaryOp_repeat_ref->TQ,wpAny_fieldsOf->TU,wpAny_letOwnedTupleGo_zip->TV,wpAny_newTuple->TW,IsZip->TZ,attributeBase->Uw,behindInMarks->Ux,wpAny_newList->Uz,wpAny_of_eq->UA,IsPair->UE,checkBuiltinCall->UI,wpAny_Dict_empty->UJ,codeAny_compStart_list->US,wpAny_Assign_Subscript->UU,getItem->U',pushCells_keeps->U_,seqItems?->Va,size_of_entries->Vb,standAt->Vc,IsTupleKey->Vd,entryOfKey->Ve,typeIs_int->Vf,argsOk->Vs,BindsTo->Vu,Arguments->VE,IsItemIterOut->VJ,TriplesOk->VY,assignInOrder->V0,eval_ListComp->V1,rangeSize_one->V2,wpAny_handled->V4,numAt->Wj,valueAt->Wk,Within->WD,seqSlot_of->WN,HeapKind->WP,bindName->WQ,IsPart->WY,callerA->W7,pyIter->W9,atKey->Xc,call->Xf
open PySem.Heap renaming get?_push_of_some->Na,lt_size->Nf,get?_push_size->Ng,size_push->Oe,get?_update_other->OJ,SameBut->OL,get?_update_self->OM,IsList->SQ,IsTuple->Tl,ExtBut->Uh,get?_none_of_le->Vk,get?_push_ne->V7
open Option.some renaming inj->Nb
open List renaming length_map->Ni,mem_cons->Nl,mem_singleton->Nm,size_toArray->No,replicate->Np,mem_cons_of_mem->Nr,getElem?_eq_some_iff->Nt,mem_append_right->Ny,getElem?_map->NB,mem_cons_self->NC,map_cons->NE,not_mem_nil->NH,mem_of_getElem?->NJ,length_append->NL,take_of_length_le->NR,length_cons->N5,getElem?_eq_getElem->N7,length_take->N8,all_eq_true->Og,lookup_cons->Oq,map_append->Ot,mem_append->Ou,mem_map->Ov,mem_append_left->OI,mem_range->OO,range->OP,getElem?_append_right->OU,mem_filterMap->OX,replicate_succ->O6,getElem?_append_left->Pq,find?_cons->Pu,nodup_cons->Pw,map_map->PR,map_nil->PU,append_assoc->PZ,flatten_cons->P0,flatMap_append->Qx,zipWith->QN,getD_eq_getElem?_getD->QZ,mem_flatMap->Q_,take_length->Ra,lookup->Rj,all_cons->Ru,forIn_cons->Rv,getElem?_replicate->Rx,length_nil->Ry,range_succ->RA,sum_cons->RC,zipWith_cons_cons->RQ,Nodup->RY,forIn_nil->R_,length_singleton->Sg,zipWith_nil_left->Si,getElem?_zipWith_eq_some->Sw,getElem_mem->Sx,zipIdx_cons->Sy,getElem?_set_ne->SD,append_nil->SR,filterMap_cons->SS,getElem_of_mem->SU,length->SV,length_set->SW,zipIdx_nil->SX,mem_replicate->Tp,pairwise_cons->Tq,sum_nil->Tr,drop_eq_getElem_cons->TJ,getElem?_zip_eq_some->TK,filterMap_cons_some->T2,foldl_append->T4,length_range->T5,any_cons->Uj,length_eq_zero_iff->Uk,any_eq_true->UF,cons_append->UG,length_drop->UH,drop_of_length_le->UO,getElem?_set_self->UP,getElem?_toArray->U0,length_replicate->U1,of_mem_zip->U2,toArray->U3,getElem?_of_mem->Vl,length_pos_iff->Vx,map_congr_left->Vy,toList_toArray->Vz,filterMap_map->VL,find?_toArray->VM,flatMap_cons->V',push_toArray->V_,all_nil->Ws,foldl->Xe
open Nat renaming le_refl->Nj,lt_of_lt_of_le->Nx,ne_of_lt->NA,le_trans->NP,lt_irrefl->N0,zero_le->Om,lt_succ_of_lt->OG,not_lt->O0,ne_of_gt->O8,le_of_lt->PV,lt_of_le_of_lt->Qb,pow_le_pow_right->Qj,pow_le_pow_left->Qz,le_add_right->QD,lt_succ_self->Rb,lt_two_pow_self->Rk,le_of_succ_le->RZ,add_assoc->SK,succ_mul->Ts,le_mul_of_pos_right->Um,eq_of_beq_eq_true->U4,mul_le_mul->Vq,le_succ->VA,add_zero->Wu,le_of_eq->Wv,lt_or_ge->Ww,mul_comm->Wx,pow_succ->Wy,sub_self->Wz,zero_add->WC,beq->W0,log2_lt->W1
open Option renaming map_eq_some_iff->Nz,isSome_iff_exists->O9,mem_toList->T6,isSome_some->VO,isSome_map->Wa,getD_none->WJ
open Bool renaming false_ne_true->NK,and_eq_true->NO,false_eq_true->NY,not_true->QU,false_and->R9,beq_eq_decide_eq->Sd,true_and->Ue,or_eq_true->UW,and_true->VF,not_eq_true'->V5
open PySem.Value renaming ref->NN,none->Od,isStrOf->Qd,bool->QE,type->QV,int->RH,str->Ua,builtin->VZ,float->W6
open PySem.Builtin.SmallTypes renaming nextOf->NT,ownedTupleIsFree->NX,ownedTupleHandOut->O1
open Rat renaming intCast_mul->N9,le_of_mul_le_mul_right->P7,intCast_sub->QP,intCast_add->S_,mul_lt_mul_of_pos_right->Ta,div_mul_cancel->Tu,intCast_nonneg->VU
open PySem.AutoSeq1 renaming wpAny_loadPart'->Ob
open PySem.NameKind renaming free->Oc,cell->OC
open PySem.Heap.SameBut renaming update->Ol
open PySem.Str renaming ofString->Oo
open Int renaming toNat_natCast->Op,gcd->O3,mul_ne_zero->Pf,fdiv_eq_ediv_of_nonneg->Pn,emod_lt_of_pos->Pz,mul_nonneg->Qg,emod_nonneg->Qn,mul_fdiv_cancel_left->Qo,pow_succ->Qv,gcd_pos_of_ne_zero_right->QG,mul_comm->Rm,eq_ofNat_of_zero_le->Rs,mul_assoc->Rt,pow_zero->To,eq_of_mul_eq_mul_left->TD,natAbs_mul->TF,mul_left_comm->TX,ofNat_ne_zero->TY,one_mul->Ui,ediv_nonneg->UX,natAbs_dvd_natAbs->UY,zero_add->UZ,gcd_zero_right->VI,gcd_comm->Wp,le_of_lt->Wq,zero_sub->Wr,le_refl->WU,mul_neg->WV
open PySem.PassesOwn renaming never->Ow
open Array renaming length_toList->Oy,forIn_toList->P_,getElem?_toList->Qa,getElem?_eq_some_iff->QY,toArray_toList->SC,perm_iff_toList_perm->Tg,getElem?_eq_getElem->Tz,getElem?_eq_none->UK,toList_append->Vt
open PySem.Obj renaming mapSeq->Oz,data_mapFields->Qc,isFreed_of_fields->Sj,data_mapDictKeys->Vm,mapFields->VN
open PySem.Builtin.Tuple renaming tupleHashOf->OF,tupleExact->Qm,tupleItemsOf->Ti
open PyProof.Rows renaming seqObj->OV,callWith_type1->Pg,IntsAre->Ps,slot_tuple_getitem->PX,assignInOrder_cons->QJ,assign_Tuple_tuple->Tv,assignInOrder_nil->Ub,listUpdate_at->Uy,call_function_entry_kw->UR,subscriptTail_builtinR->UT,AllBare->UV,get?_update_seq->U9,subscriptTail->V3,Subscript_->We
open PySem.F renaming slot_dict_itemiterator_next->O5,slot_dict_keyiterator_next->Pe,plainAttrs_list->Ph,slot_list_append->PQ,slot_zip_next->P2,slot_tuple_iterator_next->P6,plain_max_loop->P8,type_list_append->Qp,slot_int_rmul->Rq,slot_tuple_eq->Rr,slot_tuple_mul->RS,args_dict_itemiterator_next_1->RU,args_zip_next_1->RV,slot_tuple_hash->RW,args_dict_keyiterator_next_1->Se,entry_dict_itemiterator_next->Sf,entry_dict_keyiterator_next->Su,entry_zip_next->Sv,args_tuple_iterator_next_1->SJ,entry_tuple_iterator_next->SO,excBase_ValueError->Tk,args_tuple_add_2->T8,attr_ValueError->Uq,entry_tuple_add->Ur,slot_dict_items->Us,slot_list_count->Ut,slot_list_index->Uu,slot_tuple_rmul->Uv,entry_max_loop->UB,slot_dict_iter->UC,slot_dict_items_iter->UN,slot_tuple_add->UQ,args_int_rmul_2->Vj,slot_list_lt->Vn,entry_int_rmul->Vv,slot_int_index->Vw,fills_int_mul->VH
open False renaming elim->O7
open PySem.Builtin.Dict_items renaming ownsTuple->Pb,ownedTupleFields->Rg,ownedTupleIsFree->Rh,pairFromOwner->RP,newIterator->Wm,dictOf->W'
open Ne renaming symm->Px
open PySem.Around renaming under_plainId->PL,under->Wl
open PySem.PyData renaming int->P1,eqv->SL,bool->SY
open PySem.Builtin.Slice renaming slicePlaces->Qf,sliceAdjust->Q5,sliceApplied->Th
open PySem.Shared renaming heap->Qh
open PySem.MeetsSeq3 renaming plain_eq_loop->Qy,entry_eq_loop->Ul
open PySem.Builtin.Dict renaming showsAll->QL,entriesForEmpty->SI,updateFrom->Uf,mergeDict->UL,quietEq->Vg
open ForInStep renaming yield->QM
open PySem.Heap.IsList renaming push->Q9
open PySem.Builtin.Int renaming intBits->Ri
open PySem.Builtin.List renaming listTooLong->Rl
open PySem.SeqAt renaming shaped->Sn
open PySem.W.Looks renaming ld->Sz,andThen->U5
open Sum renaming inl->SA,inr->Wf
open PySem.Builtin.Builtins renaming bindParams->SN
open PySem.Calls renaming Name_function_global->Tj,callWith_builtin->UM,evalArgs_plain->Vi
open PySem.Builtin.ObjectAttr renaming bindTo->TC,dataDescriptor?->VD,takesStores->Wn,getOf->Xd,find->Xg
open PyProof renaming noPylong_of_log2->T7
open PySem.Builtin.Getset_descriptor renaming descrCheckInstance->Ud,descrNameAndClass->Ug,descrGetter->Vh,descrGet->VC
open PySem.Paired renaming length->Uo
open PySem.IntMulOk renaming of_bits->UD,of_left->WH
open PySem.Code renaming quiet_builtin->VG,isFrame->Wo
open Or renaming inr->VP,inl->W2
open Prod.mk renaming injEq->VQ
open PySem.W.KF renaming slot_gs->VR
open PySem.ScopeKind renaming function->VV
open PySem.SeqAt.EqAt renaming int_str->VW,str_int->VX
open PySem.Heap.IsTuple renaming push->V6
open List.Pairwise renaming nil->V9
open PySem.Walks renaming list->Wg
open PySem.Sem renaming wp_bind'->WF
open And renaming intro->WR
open PyProof.Rows.IsTup renaming new->WZ
open PySem.Value.ref renaming inj->Xh
abbrev Nq:=@decide_eq_true
abbrev NS:=@if_neg
abbrev NZ:=@if_pos
abbrev On:=@decide_eq_false
abbrev Os:=@of_decide_eq_true
abbrev OH:=@beq_iff_eq
abbrev ON:=@beq_eq_false_iff_ne
abbrev OY:=@or_false
abbrev Pl:=@if_false
abbrev PD:=@if_true
abbrev Qe:=@of_decide_eq_false
abbrev Ql:=@congrArg
abbrev Re:=@beq_self_eq_true
abbrev Uc:=@decide_eq_true_eq
set_option autoImplicit true
set_option relaxedAutoImplicit true
set_option Elab.async false
set_option linter.all false
set_option maxRecDepth 100000
namespace L2
open PySem PySem.Spec PyProof.Rows
abbrev fb:=Sum Int Str
def tV:fb->Nd->Bool
 |.inl k,v=>Value.isInt k v
 |.inr x,v=>Qd x v
def Mt (w:N6):fb->Int
 |.inl k=>hashInt k
 |.inr x=>hashStr w x
theorem cD:∀ {k:fb}{v:Nd},tV k v=true->(∃ i t,k=SA i/\v=RH i t)\/(∃ x t,k=Wf x/\v=Ua x t)
 |.inl i,v,h=>by
  obtain⟨t,e⟩:=Value.isInt_shape (k:=i) (v:=v) h;exact .inl ⟨i,t,rfl,e⟩
 |.inr x,v,h=>by
  obtain⟨t,e⟩:=Value.isStrOf_shape (x:=x) (v:=v) h;exact .inr ⟨x,t,rfl,e⟩
theorem Bt (i:Int)(t:Tok):tV (.inl i) (.int i t)=true:=by simp[tV,Value.isInt]
theorem BU (x:Str)(t:Tok):tV (.inr x) (.str x t)=true:=by simp[tV,Qd]
theorem IF (a b:Int):decide ((SA a:fb)=SA b)=(a==b):=by
 by_cases e:a=b
 ·subst e;simp
 ·have h:¬ (SA a:fb)=SA b:=λq=>e (Sum.inl.inj q)
  rw[On h];exact(ON.mpr e).symm
theorem Ii (a b:Str):decide ((Wf a:fb)=Wf b)=decide (a=b):=by
 by_cases e:a=b
 ·subst e;simp
 ·have h:¬ (Wf a:fb)=Wf b:=λq=>e (Sum.inr.inj q)
  rw[On h,On e]
theorem IW (a:Int)(b:Str):decide ((SA a:fb)=Wf b)=false:=On (λq=>nomatch q)
theorem Hu (a:Str)(b:Int):decide ((Wf a:fb)=SA b)=false:=On (λq=>nomatch q)
def bC (prog:ND)(w:N6):PySem.KeyKind prog w fb where
 is:=tV
 hash:=Mt w
 inj:=λv a b ha hb=>by
  rcases cD ha with ⟨i,t,rfl,rfl⟩|⟨x,t,rfl,rfl⟩
  ·rcases cD hb with ⟨j,u,rfl,e⟩|⟨y,u,rfl,e⟩
   ·injection e with e1 _;rw[e1]
   ·exact nomatch e
  ·rcases cD hb with ⟨j,u,rfl,e⟩|⟨y,u,rfl,e⟩
   ·exact nomatch e
   ·injection e with e1 _;rw[e1]
 byValue:=λk v h=>by
  rcases cD h with ⟨i,t,rfl,rfl⟩|⟨x,t,rfl,rfl⟩<;>rfl
 pyHash:=λhv h=>by
  rcases cD hv with ⟨i,t,rfl,rfl⟩|⟨x,t,rfl,rfl⟩
  ·exact wpAny_pyHash_int h
  ·exact wpAny_pyHash_str h
 eqBool:=λhu hv h=>by
  rcases cD hu with ⟨i,t,rfl,rfl⟩|⟨x,t,rfl,rfl⟩
  ·rcases cD hv with ⟨j,u,rfl,rfl⟩|⟨y,u,rfl,rfl⟩
   ·rw[IF] at h;exact wpAny_eqBool_int h
   ·rw[IW] at h;exact VW i t y u _ _ _ _ h
  ·rcases cD hv with ⟨j,u,rfl,rfl⟩|⟨y,u,rfl,rfl⟩
   ·rw[Hu] at h;exact VX x t j u _ _ _ _ h
   ·rw[Ii] at h;exact wpAny_eqBool_str h
 «strs»:=λk x t v h=>by
  rcases cD h with ⟨i,u,rfl,e⟩|⟨y,u,rfl,e⟩
  ·exact nomatch e
  ·injection e with e1 _
   subst e1;cases v<;>rfl
theorem vV (prog:ND)(w:N6)(i:Int)(t:Tok):(bC prog w).is (.inl i) (.int i t)=true:=Bt i t
theorem vX (prog:ND)(w:N6)(x:Str)(t:Tok):(bC prog w).is (.inr x) (.str x t)=true:=BU x t
inductive V where
 |non|bl (b:Bool)|int (i:Int)|str (x:Str)|byt (b:Array UInt8)|flt (b:UInt64)|ref (a:Nn)|ty (n:String)
 deriving DecidableEq
def bj:V->Nd->Prop
 |.non,u=>u=Od
 |.bl b,u=>u=QE b
 |.int i,u=>∃ t,u=RH i t
 |.str x,u=>∃ t,u=Ua x t
 |.byt b,u=>∃ t,u=Value.bytes b t
 |.flt b,u=>∃ t,u=W6 b t
 |.ref a,u=>u=NN a
 |.ty n,u=>u=QV n
abbrev aM:List V->List Nd->Prop:=Tt bj
theorem aM.length (r:aM xs us):xs.length=us.length:=Uo r
theorem aM.get:∀ {xs:List V}{us:List Nd}{i:Nat}{x:V},aM xs us->xs[i]?=some x->∃ u,us[i]?=some u/\bj x u
 |_,_,_,_,.nil,e=>by simp at e
 |_,_,0,_,.cons r _,e=>by simp at e;subst e;exact⟨_,rfl,r⟩
 |_,_,i+1,x,.cons _ t,e=>by
  obtain⟨u,h1,h2⟩:=aM.get (i:=i) (x:=x) t (by simpa using e);exact⟨u,by simpa using h1,h2⟩
theorem aM.set (r:bj x u):∀ {xs:List V}{us:List Nd} (i:Nat),aM xs us->aM (xs.set i x) (us.set i u)
 |_,_,_,.nil=>.nil
 |_,_,0,.cons _ t=>.cons r t
 |_,_,i+1,.cons q t=>.cons q (aM.set r i t)
theorem aM.append:∀ {xs ys:List V}{us ws:List Nd},aM xs us->aM ys ws->aM (xs++ys) (us++ws)
 |_,_,_,_,.nil,s=>s
 |_,_,_,_,.cons r t,s=>.cons r (aM.append t s)
theorem aM.take:∀ {xs:List V}{us:List Nd} (n:Nat),aM xs us->aM (xs.take n) (us.take n)
 |_,_,0,_=>.nil
 |_,_,_+1,.nil=>.nil
 |_,_,n+1,.cons r t=>.cons r (aM.take n t)
theorem aM.drop:∀ {xs:List V}{us:List Nd} (n:Nat),aM xs us->aM (xs.drop n) (us.drop n)
 |_,_,0,r=>r
 |_,_,_+1,.nil=>.nil
 |_,_,n+1,.cons _ t=>aM.drop n t
def kP:Option V->Option Nd->Prop
 |some v,some u=>bj v u
 |none,none=>True
 |_,_=>False
def KV {κ:Type}:List (κ×V)->List (κ×Nd)->Prop:=Tt λ(p:κ×V) (q:κ×Nd)=>p.1=q.1/\bj p.2 q.2
def kV:fb->V
 |.inl i=>.int i
 |.inr x=>.str x
inductive HO where
  |lst (xs:List V)
  |tup (xs:List V)
  |dK (kvs:List (fb×V))|dT (kvs:List (List fb×V))
  |set (S:Int->Bool) (n:Nat)
  |ins (C dx:Nn) (fs:List (Str×V))
  |own (x:Nn)
  |xd (fs:List (Str×V))
  |met (f x:Nn)
  |rng (lo hi:Int)
  |frz (o:Obj) (u:HO)
  |tbl (ps:Array Nd)
  |ext (φ:OZ->Prop)
abbrev Hp:=Nn->Option HO
def upd (H:Hp)(a:Nn)(o:HO):Hp:=λb=>if b=a then some o else H b
theorem ai:upd H a o a=some o:=by unfold upd;rw[NZ rfl]
theorem az (h:b≠a):upd H a o b=H b:=by unfold upd;rw[NS h]
theorem GB {H:Hp}{a b:Nn}{o u:HO}(h:H a=some o)(h':H b=some u)(d:o≠u):a≠b:=by
 intro e;subst e;rw[h] at h';exact d (Nb h')
theorem aS {H:Hp}{a b:Nn}{o:HO}(h:H a=some o)(h':H b=none):a≠b:=by
 intro e;subst e;rw[h] at h';cases h'
section
variable (P:ND)(w:N6)
def bA (H:Hp)(h:OZ)(a:Nn):HO->Prop
 |.lst xs=>xs.length<=Nv/\∃ (its:List Nd) (n:Nat),aM xs its/\h.get? a=some { cls:=.type "list",data:=.seq its.toArray n }
 |.tup xs=>xs.length<=Nv/\∃ its:List Nd,aM xs its/\IsTup h a its.toArray
 |.dK kvs=>kvs.length<=Nv/\(a==OB)=false/\∃ vs,KV kvs vs/\h.DictOf (bC P w) a vs
 | .dT kvs=>kvs.length <= Nv/\(a == OB)=false/\∃ xs:List (List fb × Nn × Nd),
   Tt (λ(p:List fb×V) (q:List fb×Nn×Nd)=>p.1=q.1/\H q.2.1=some (.tup (p.1.map kV))/\bj p.2 q.2.2) kvs xs /\
   ∃ o es ep,h.get? a=some o/\o.ExactDict/\o.data=.dict es ep/\es.toList=xs.map (Ve (QR (bC P w)))/\(xs.map (·.1)).Nodup
 |.set S n=>h.SetOf (intKind P w) a S n
 | .ins C dx fs=>H dx=some (.own a)/\fs.length <= 1000/\dx ≠ a/\h.get? a=some (P3 C dx) /\
   ∃ mA,h.Ns1 dx mA/\(∀ f,kP (fs.lookup f) (mA f))/\WD mA (fs.map (·.1))
 |.own _=>∃ o,h.get? a=some o
 |.xd fs=>∃ mA,h.Ns1 a mA/\∀ f,kP (fs.lookup f) (mA f)
 |.rng lo hi=>∃ t u v,h.get? a=some { cls:=.type "range",data:=.fields #[.int lo t,.int hi u,.int 1 v] }
 |.frz o u=>h.get? a=some o/\bA H h a u
 |.tbl qs=>∃ ps:Array Nd,h.get? a=some { cls:=.none,data:=.fields ps }/\VY ps.toList/\∃ (q:Str) (t:Nat),qs[0]?=some (.str q t)/\∀ pos cv,So pos ps.toList=some cv->∃ c o vs t',cv=.ref c/\H c=some (.own a)/\h.get? c=some o/\o.data=.fields vs/\vs[1]?=some (.str q t')
 |.met f x=>h.get? a=some (T9 (.ref f) (.ref x))
 |.ext φ=>φ h/\(∃ o,h.get? a=some o)/\∀ h1 h2:OZ,φ h1->(∀ o,h1.get? a=some o->h2.get? a=some o)->φ h2
def jl (H:Hp)(h:OZ):Prop:=∀ a o,H a=some o->bA P w H h a o
end
section
variable {P:ND}{w:N6}{H H':Hp}{h h':OZ}{a:Nn}{o:HO}
theorem bA.lt (x:bA P w H h a o):a<h.objs.size:=by
 cases o with
 |lst xs=>obtain⟨_,_,_,_,e⟩:=x;exact Nf e
 |tup xs=>obtain⟨_,_,_,p⟩:=x;exact p.lt
 |dK kvs=>obtain⟨_,_,_,_,o,_,_,e,_⟩:=x;exact Nf e
 |dT kvs=>obtain⟨_,_,_,_,o,_,_,e,_⟩:=x;exact Nf e
 |set S n=>obtain⟨o,_,_,_,e,_⟩:=x;exact Nf e
 |ins C dx fs=>obtain⟨_,_,_,e,_⟩:=x;exact Nf e
 |own y=>obtain⟨_,e⟩:=x;exact Nf e
 |xd fs=>obtain⟨_,⟨_,_,_,e,_⟩,_⟩:=x;exact Nf e
 |rng lo hi=>obtain⟨_,_,_,e⟩:=x;exact Nf e
 |frz ob u=>obtain⟨e,_⟩:=x;exact Nf e
 |tbl qs=>obtain⟨_,e,_⟩:=x;exact Nf e
 |met f y=>exact Nf (show h.get? a=some _ from x)
 |ext φ=>obtain⟨_,⟨_,e⟩,_⟩:=x;exact Nf e
theorem Paired.mapP:∀ {l₁:List α}{l₂:List β},Tt F l₁ l₂->(∀ a b,F a b->G a b)->Tt G l₁ l₂
 |_,_,.nil,_=>.nil
 |_,_,.cons r t,f=>.cons (f _ _ r) (Paired.mapP t f)
theorem bA.stay (x:bA P w H h a o) (k:∀ b u,(b=a\/H b=some (.own a))->h.get? b=some u->h'.get? b=some u)
  (ho:∀ b,H b=some (.own a)->H' b=some (.own a))(ht:∀ b xs,H b=some (.tup xs)->H' b=some (.tup xs)):bA P w H' h' a o:=by
 induction o with
 |lst xs=>obtain⟨z,its,n,r,e⟩:=x;exact⟨z,its,n,r,k _ _ (.inl rfl) e⟩
 |tup xs=>obtain⟨z,its,r,ob,e,c⟩:=x;exact⟨z,its,r,ob,k _ _ (.inl rfl) e,c⟩
 |dK kvs=>obtain⟨z,y,vs,r,ob,es,ep,e,c⟩:=x;exact⟨z,y,vs,r,ob,es,ep,k _ _ (.inl rfl) e,c⟩
 |dT kvs=>
  obtain⟨z,y,xs,r,ob,es,ep,e,c⟩:=x;exact⟨z,y,xs,Paired.mapP r λp q z=>⟨z.1,ht _ _ z.2.1,z.2.2⟩,ob,es,ep,k _ _ (.inl rfl) e,c⟩
 |set S n=>obtain⟨ob,es,ep,t,e,c⟩:=x;exact⟨ob,es,ep,t,k _ _ (.inl rfl) e,c⟩
 |ins C dx fs=>
  obtain⟨d,z,ne,e,mA,⟨od,es,ep,e2,c⟩,r⟩:=x;exact⟨ho _ d,z,ne,k _ _ (.inl rfl) e,mA,⟨od,es,ep,k _ _ (.inr d) e2,c⟩,r⟩
 |own y=>obtain⟨ob,e⟩:=x;exact⟨ob,k _ _ (.inl rfl) e⟩
 |xd fs=>obtain⟨mA,⟨od,es,ep,e,c⟩,r⟩:=x;exact⟨mA,⟨od,es,ep,k _ _ (.inl rfl) e,c⟩,r⟩
 |rng lo hi=>obtain⟨t,u,v,e⟩:=x;exact⟨t,u,v,k _ _ (.inl rfl) e⟩
 |frz ob u ih=>obtain⟨e,q⟩:=x;exact⟨k _ _ (.inl rfl) e,ih q⟩
 |tbl qs=>
  obtain⟨ps,e,tr,q,tq,e0,f⟩:=x;refine⟨ps,k _ _ (.inl rfl) e,tr,q,tq,e0,λpos cv z=>?_⟩;obtain⟨c,oc,vs,tc,z1,z2,z3,z4⟩:=f pos cv z;exact⟨c,oc,vs,tc,z1,ho _ z2,k _ _ (.inr z2) z3,z4⟩
 |met f y=>
  have e:h.get? a=some (T9 (.ref f) (.ref y)):=x;show h'.get? a=some (T9 (.ref f) (.ref y));exact k a _ (.inl rfl) e
 |ext φ=>obtain⟨p,⟨o,e⟩,st⟩:=x;exact⟨st _ _ p λo q=>k _ _ (.inl rfl) q,⟨o,k _ _ (.inl rfl) e⟩,st⟩
theorem jl.lt (x:jl P w H h)(e:H a=some o):a<h.objs.size:=(x a o e).lt
theorem jl.fresh (x:jl P w H h)(e:h.objs.size<=a):H a=none:=by
 cases q:H a with
 |none=>rfl
 |some u=>exact absurd (Nx (x.lt q) e) (N0 _)
theorem jl.kept (x:jl P w H h)(k:∀ b u,h.get? b=some u->h'.get? b=some u):jl P w H h':=λa o e=>
 (x a o e).stay (λb u _ q=>k b u q) (λ_ q=>q) λ_ _ q=>q
theorem jl.laid (x:jl P w H h)(k:∀ b u,h.get? b=some u->h'.get? b=some u)(hp:h.objs.size<=a)(new:bA P w (upd H a o) h' a o):jl P w (upd H a o) h':=λb u e=>by
 have hn:=x.fresh hp
 by_cases hb:b=a
 ·subst hb;rw[ai] at e;cases e;exact new
 ·rw[az hb] at e;exact(x b u e).stay (λc v _ q=>k c v q) (λc q=>by rw[az (aS q hn)];exact q) λc xs q=>by rw[az (aS q hn)];exact q
end
def Rd (H:Hp)(a:Nn)(u:HO):Prop:=H a=some u\/∃ o,H a=some (.frz o u)
theorem Rd.ok (r:Rd H a u)(x:jl P w H h):bA P w H h a u:=by
 rcases r with r|⟨o,r⟩
 ·exact x a u r
 ·obtain⟨_,q⟩:=x a _ r;exact q
def Lv:Option HO->Prop
 |some (.lst _)=>True
 |some (.dK _)=>True
 |some (.dT _)=>True
 |some (.set _ _)=>True
 |some (.ins _ _ _)=>True
 |some (.ext _)=>True
 |_=>False
section
variable {P:ND}{w:N6}{H:Hp}{h h':OZ}{x e:Nn}{o':HO}
theorem jl.write (ok:jl P w H h) (mu:Lv (H x)) (he:e=x\/H e=some (.own x)) (k:∀ b u,b ≠ e->h.get? b=some u->h'.get? b=some u) (heo:∃ u,h'.get? e=some u)
  (new:bA P w (upd H x o') h' x o'):jl P w (upd H x o') h':=λb u q=>by
 have nown:∀ c y,H c=some (.own y)->c≠x:=λc y r z=>by subst z;rw[r] at mu;exact mu
 have ntup:∀ c xs,H c=some (.tup xs)->c≠x:=λc xs r z=>by subst z;rw[r] at mu;exact mu
 by_cases hb:b=x
 ·subst hb;rw[ai] at q;cases q;exact new
 ·rw[az hb] at q
  by_cases hbe:b=e
  ·have q':H b=some (.own x):=by
    rcases he with z|z
    ·exact absurd (hbe.trans z) hb
    ·rw[hbe];exact z
   rw[q] at q';cases q';obtain⟨v,hv⟩:=heo;exact⟨v,by rw[hbe];exact hv⟩
  ·refine(ok b u q).stay (λc v hc r=>k c v ?_ r) (λc r=>by rw[az (nown c b r)];exact r) λc xs r=>by rw[az (ntup c xs r)];exact r
   rcases hc with rfl|hc
   ·exact hbe
   ·rintro rfl;rcases he with z|z
    ·exact nown c b hc z
    ·rw[hc] at z;cases z;exact hb rfl
end
structure Un (fs ex:List Nn)(H H':Hp)(h h':OZ):Prop where
 keep:∀ b o,h.get? b=some o->H b=none->b∉fs->b∉ex->h'.get? b=some o
 slot:∀ b o,h.get? b=some o->H b=none->b∈fs->b∉ex->∃ sl,h'.get? b=some { o with slots:=sl }
 free:∀ b o,h.get? b=some o->H b=none->b∉ex->H' b=none
 there:∀ b o,h.get? b=some o->b∉ex->∃ o',h'.get? b=some o'
 tups:∀ b xs,H b=some (.tup xs)->H' b=some (.tup xs)
 frzs:∀ b o u,H b=some (.frz o u)->H' b=some (.frz o u)
 tbls:∀ b ps,H b=some (.tbl ps)->∃ more,H' b=some (.tbl (ps++more))
section
variable {fs fs' ex ex':List Nn}{H H1 H2:Hp}{h h1 h2 h':OZ}{a x e:Nn}{o:HO}
theorem Un.any (u:Un fs ex H H1 h h1)(q:h.get? b=some ob)(n:H b=none)(hx:b∉ex):∃ sl,h1.get? b=some { ob with slots:=sl }:=by
 by_cases hb:b∈fs
 ·exact u.slot b ob q n hb hx
 ·exact⟨ob.slots,u.keep b ob q n hb hx⟩
theorem Un.kept (k:∀ b u,h.get? b=some u->h'.get? b=some u):Un fs ex H H h h':=
 ⟨λb ob q _ _ _=>k b ob q,λb ob q _ _ _=>⟨ob.slots,k b ob q⟩,λ_ _ _ n _=>n,λb ob q _=>⟨ob,k b ob q⟩,λ_ _ q=>q,λ_ _ _ q=>q,λ_ ps q=>⟨#[],by rw[q];simp⟩⟩
theorem Un.refl:Un fs ex H H h h:=Un.kept λ_ _ q=>q
theorem Un.laid (k:∀ b u,h.get? b=some u->h'.get? b=some u)(hp:h.objs.size<=a)(hn:H a=none):Un fs ex H (upd H a o) h h' where
 keep:=λb u q _ _ _=>k b u q
 slot:=λb u q _ _ _=>⟨u.slots,k b u q⟩
 free:=λb u q n _=>by rw[az (NA (Nx (Nf q) hp))];exact n
 there:=λb u q _=>⟨u,k b u q⟩
 tups:=λb xs q=>by rw[az (aS q hn)];exact q
 frzs:=λb u xs q=>by rw[az (aS q hn)];exact q
 tbls:=λb ps q=>⟨#[],by rw[az (aS q hn),q];simp⟩
theorem Un.write (mu:Lv (H x))(he:e=x\/H e=some (.own x))(k:∀ b u,b≠e->h.get? b=some u->h'.get? b=some u)(heo:∃ u,h'.get? e=some u):Un fs ex H (upd H x o) h h':=by
 have hx:∀ b,H b=none->b≠x:=λb n z=>by subst z;rw[n] at mu;exact mu
 have hb:∀ b,H b=none->b≠e:=λb n z=>by
  subst z;rcases he with r|r
  ·exact hx b n r
  ·rw[n] at r;cases r
 have hm:∀ b u,H b=some u->¬ Lv (some u)->b≠x:=λb u q nm z=>by subst z;rw[q] at mu;exact nm mu
 refine⟨λb u q n _ _=>k b u (hb b n) q,λb u q n _ _=>⟨u.slots,k b u (hb b n) q⟩,λb u q n _=>by rw[az (hx b n)];exact n,λb u q _=>?_,
  λb xs q=>by rw[az (hm b _ q λz=>z)];exact q,λb u xs q=>by rw[az (hm b _ q λz=>z)];exact q,λb ps q=>⟨#[],by rw[az (hm b _ q λz=>z),q];simp⟩⟩
 by_cases hbe:b=e
 ·subst hbe;exact heo
 ·exact⟨u,k b u hbe q⟩
end
def LF (h:OZ)(H:Hp):List Nn:=(OP h.objs.size).filter λa=>(H a).isSome
def vP (h:OZ)(H:Hp):OZ:=S0 h (LF h H)
theorem A3 (h:OZ)(H:Hp):(vP h H).objs.size=h.objs.size:=PySem.W.hideAll_size _ _
theorem qO (e:h.get? b=some o)(n:H b=none):(vP h H).get? b=some o:=
 S4 _ e λhm=>by
  have q:(H b).isSome=true:=(List.mem_filter.mp hm).2;rw[n] at q;simp at q
theorem FZ (e:(vP h H).get? b=some o):h.get? b=some o/\H b=none:=by
 have e':h.get? b=some o:=VT (LF h H) e;refine⟨e',?_⟩;cases q:H b with
 |none=>rfl
 |some x=>
  have hm:b∈LF h H:=List.mem_filter.mpr ⟨OO.mpr (Nf e'),by simp[q]⟩;have z:(vP h H).get? b=none:=SE (LF h H) hm;rw[z] at e;cases e
def ky (g h:OZ)(L:Nn):List (Nn×Obj):=(OP h.objs.size).filterMap λa=>if a=L\/(g.get? a).isSome=true then none else(h.get? a).map λo=>(a,o)
theorem we (h1:a≠L)(h2:g.get? a=none)(h3:h.get? a=some o):(a,o)∈ky g h L:=
 OX.mpr ⟨a,OO.mpr (Nf h3),by simp[h1,h2,h3]⟩
theorem p_ (hp:p∈ky g h L):p.1≠L/\g.get? p.1=none/\h.get? p.1=some p.2:=by
 obtain⟨b,_,e⟩:=OX.mp hp
 split at e
 ·cases e
 ·rename_i hn
  cases q:h.get? b with
  |none=>rw[q] at e;simp at e
  |some u=>
   rw[q] at e;simp only[Option.map_some,Option.some.injEq] at e;subst e;refine⟨λz=>hn (.inl z),?_,q⟩;show g.get? b=none;cases r:g.get? b with
   |none=>rfl
   |some v=>exact(hn (.inr (by simp[r]))).elim
def c6 (g h:OZ)(L d:Nn):List (Nn×Obj):=(ky g h L).filter λp=>decide (p.1≠d)
theorem EF:News g L h (ky g h L):=λp hp=>let ⟨a,b,c⟩:=p_ hp;⟨c,a,b⟩
structure Mod (K:HD)(mg:Str->Option Nd)(base:OZ):Prop where
 kin:K.In base
 glob:base.Ns Nk mg
 blt:∃ mb,base.Ns R5 mb/\∀ x:Str,x≠"__name__"->mb x=Oh x
 nolimit:base.NoLimit
 bm:∃ bm o,mg "__builtins__"=some (.ref bm)/\bm≠R5/\base.get? bm=some o/\o.cls=.type "module"/\o.dict=some R5/\o.data=.plain
structure Cx where
 prog:ND
 w:N6
 K:HD
 mg:Str->Option Nd
 base:OZ
 A:Oa
 N:List Str
 s₀:Nh
 H₀:Hp
 env:Env
 outer:List Env
 stack:List Env
 ex:List Nn
 fn:Str->Bool
 calm:Bool
 pn:List (Nn×Obj)
 xe:Nd->Nh->Prop
def kH (l:List Env):List Nn:=l.filterMap (·.frame)
abbrev Cx.fs (X:Cx):List Nn:=kH X.outer
def JG (sc:Q7)(x:Str):Prop:=sc.names.lookup x=some .local\/sc.names.lookup x=some .cell\/sc.names.lookup x=some .free
def Iw (sc:Q7)(x:Str):Prop:=sc.names.lookup x=some .local\/sc.names.lookup x=some .cell
def LV (env:Env)(h:OZ)(m:Str->Option Nd)(x:Str)(u:Nd):Prop:=
 (env.kindOf x=some .local/\m x=some u)\/((env.kindOf x=some .cell\/env.kindOf x=some .free)/\∃ c,env.cells.lookup x=some c/\h.IsCell c (some u))
structure Cx.Ok (X:Cx):Prop where
 mod:Mod X.K X.mg X.base
 kind:X.env.scope.kind=.function
 glob:X.env.globals=Nk
 blt:X.env.builtins=R5
 above:X.s₀.heap.objs.size<=X.env.locals
 inj:∀ x y c,X.env.cells.lookup x=some c->X.env.cells.lookup y=some c->x=y
 has:∀ x,(X.env.kindOf x=some .cell\/X.env.kindOf x=some .free)->∃ c,X.env.cells.lookup x=some c
 cab:∀ x c,X.fn x=true->X.env.cells.lookup x=some c->X.s₀.heap.objs.size<=c
 hd:X.calm=true->X.A.handled=none
 frames:X.A.frames=some X.stack
 stk:X.stack=X.outer\/(X.stack=X.env::X.outer/\X.env.frame=some X.env.locals)
 exf:∀ b∈X.ex,b≠X.env.locals/\∀ x c,X.env.cells.lookup x=some c->c≠b
 bs:∀ b o,X.base.get? b=some o->X.s₀.heap.get? b=some o/\X.H₀ b=none
 bsz:X.base.objs.size<=X.s₀.heap.objs.size
 noex:∀ b o,X.base.get? b=some o->b∉X.ex
 exfs:∀ b∈X.ex,b∉X.fs
 funs:X.s₀.heap.FunFrames X.base X.outer
 frf:∀ b∈X.fs,X.H₀ b=none
structure aD (X:Cx)(pins:List (Nn×Obj))(σ:List (Option V))(H:Hp)(s:Nh):Prop where
 ok:X.Ok
 os:s.os=X.s₀.os
 bare:UV s.gens
 base:Un X.fs X.ex X.H₀ H X.s₀.heap s.heap
 loc:∃ m,s.heap.Ns X.env.locals m/\∀ (i:Nat) (x:Str) (v:V),X.N[i]?=some x->σ[i]?=some (some v)->JG X.env.scope x->∃ u,bj v u/\LV X.env s.heap m x u
 cell:∀ x c,X.env.cells.lookup x=some c->∃ v,s.heap.IsCell c v
 free:H X.env.locals=none
 freeC:∀ x c,X.env.cells.lookup x=some c->H c=none
 pin:∀ p∈X.pn++pins,s.heap.get? p.1=some p.2/\H p.1=none/\p.1≠X.env.locals/\p.1∉X.fs/\∀ v,p.2.data≠.cell v
 hok:jl X.prog X.w H s.heap
 len:σ.length=X.N.length
section
variable {X:Cx}{pins:List (Nn×Obj)}{σ:List (Option V)}{H H':Hp}{s:Nh}{h':OZ}
theorem Cx.Ok.nofr (ok:X.Ok)(e:X.base.get? b=some o):b∉X.fs:=λhb=>by
 have:=(ok.funs.mem hb).1;rw[e] at this;cases this
theorem aD.bs (I:aD X pins σ H s):∀ b o,X.base.get? b=some o->s.heap.get? b=some o/\H b=none:=λb o e=>
 ⟨I.base.keep b o (I.ok.bs b o e).1 (I.ok.bs b o e).2 (I.ok.nofr e) (I.ok.noex b o e),I.base.free b o (I.ok.bs b o e).1 (I.ok.bs b o e).2 (I.ok.noex b o e)⟩
theorem aD.bk (I:aD X pins σ H s):∀ b o,X.base.get? b=some o->s.heap.get? b=some o:=λb o e=>(I.bs b o e).1
theorem aD.mod (I:aD X pins σ H s):Mod X.K X.mg X.base:=I.ok.mod
theorem aD.kIn (I:aD X pins σ H s):X.K.In s.heap:=I.ok.mod.kin.keeps I.bk
theorem aD.lt (I:aD X pins σ H s):X.env.locals<s.heap.objs.size:=let ⟨_,hn,_⟩:=I.loc;hn.lt
theorem aD.sz (I:aD X pins σ H s):X.s₀.heap.objs.size<=s.heap.objs.size:=NP I.ok.above (PV I.lt)
theorem aD.nofs (I:aD X pins σ H s)(h:s.heap.objs.size<=a):a∉X.fs:=λhb=>by
 obtain⟨_,o,ho,_⟩:=I.ok.funs.mem hb;exact absurd (Nx (Nf ho) (NP I.sz h)) (N0 _)
theorem aD.cne (I:aD X pins σ H s):∀ x c,X.env.cells.lookup x=some c->c≠X.env.locals:=λx c e z=>by
 obtain⟨v,o,ho,hd⟩:=I.cell x c e;obtain⟨m,⟨o',es,ep,ho',hd',_⟩,_⟩:=I.loc;rw[z,ho'] at ho;cases ho;rw[hd'] at hd;cases hd
theorem aD.funs (I:aD X pins σ H s):s.heap.FunFrames X.base X.outer:=by
 have all:∀ (l:List Env),(∀ b∈kH l,b∈X.fs)->X.s₀.heap.FunFrames X.base l->s.heap.FunFrames X.base l:=by
  intro l
  induction l with
  |nil=>intro _ _;trivial
  |cons env r ih=>
   intro hs hl;obtain⟨hk,⟨L,o,hf,hn,ho,hd⟩,hr⟩:=hl;have hL:L∈X.fs:=hs L (by unfold kH;rw[SS,hf];exact NC);obtain⟨sl,e⟩:=I.base.slot L o ho (I.ok.frf L hL) hL λz=>I.ok.exfs L z hL
   exact⟨hk,⟨L,_,hf,hn,e,hd⟩,ih (λb hb=>hs b (by unfold kH;rw[SS,hf];exact Nr _ hb)) hr⟩
 exact all X.outer (λ_ hb=>hb) I.ok.funs
theorem aD.stack (I:aD X pins σ H s):s.heap.FunFrames X.base X.stack:=by
 rcases I.ok.stk with e|⟨e,hf⟩
 ·rw[e];exact I.funs
 ·rw[e];obtain⟨m,hn,_⟩:=I.loc;refine .cons (by rw[I.ok.kind];decide) hf hn ?_ I.funs;exact Vk (NP I.ok.bsz I.ok.above)
theorem aD.stkSub (I:aD X pins σ H s):∀ b∈kH X.stack,b∈X.env.locals::X.fs:=λb hb=>by
 rcases I.ok.stk with e|⟨e,hf⟩
 ·rw[e] at hb;exact Nr _ hb
 ·rw[e] at hb;unfold kH at hb;rw[SS,hf] at hb;exact hb
theorem aD.stkFree (I:aD X pins σ H s):∀ b∈kH X.stack,H b=none:=λb hb=>by
 rcases Nl.mp (I.stkSub b hb) with e|hb
 ·rw[e];exact I.free
 ·obtain⟨_,o,ho,_⟩:=I.ok.funs.mem hb;exact I.base.free b o ho (I.ok.frf b hb) λz=>I.ok.exfs b z hb
theorem aD.step {g':Array GenState}{t':Nat}{d':Drawn}{ch:List Nn} (I:aD X pins σ H s)
  (hch:∀ b∈ch,(b∈X.ex\/X.s₀.heap.objs.size<=b)/\b≠X.env.locals/\(∀ x c,X.env.cells.lookup x=some c->c≠b)/\∀ p∈X.pn++pins,p.1≠b)
  (keep:∀ b o,b≠X.env.locals->b∉X.fs->b∉ch->s.heap.get? b=some o->H b=none->h'.get? b=some o)
  (slot:∀ b o,b≠X.env.locals->b∈X.fs->b∉ch->s.heap.get? b=some o->H b=none->∃ sl,h'.get? b=some { o with slots:=sl })(free:∀ b o,b∉ch->s.heap.get? b=some o->H b=none->H' b=none)
  (there:∀ b o,b∉ch->s.heap.get? b=some o->∃ o',h'.get? b=some o')
  (tups:∀ b xs,H b=some (.tup xs)->H' b=some (.tup xs))(frzs:∀ b o u,H b=some (.frz o u)->H' b=some (.frz o u))(tbls:∀ b ps,H b=some (.tbl ps)->∃ more,H' b=some (.tbl (ps++more)))
  (ns:∀ m,s.heap.Ns X.env.locals m->h'.Ns X.env.locals m)(hok:jl X.prog X.w H' h')(hg:UV g'):
  aD X pins σ H' { s with heap:=h',gens:=g',drawn:=d',toks:=t' }:=by
 have neL:∀ b o,X.s₀.heap.get? b=some o->b≠X.env.locals:=λb o e=>NA (Nx (Nf e) I.ok.above)
 have neC:∀ b o,X.s₀.heap.get? b=some o->b∉X.ex->b∉ch:=λb o e hx hb=>by
  rcases(hch b hb).1 with z|z
  ·exact hx z
  ·exact absurd (Nx (Nf e) z) (N0 _)
 have cellK:∀ x c,X.env.cells.lookup x=some c->∀ v,s.heap.IsCell c v->h'.IsCell c v:=λx c e v ⟨o,ho,hd⟩=>by
  have nch:c∉ch:=λz=>(hch c z).2.2.1 x c e rfl
  by_cases hc:c∈X.fs
  ·obtain⟨sl,q⟩:=slot c o (I.cne x c e) hc nch ho (I.freeC x c e);exact⟨_,q,hd⟩
  ·exact⟨o,keep c o (I.cne x c e) hc nch ho (I.freeC x c e),hd⟩
 refine⟨I.ok,I.os,hg,⟨λb o e n hb hx=>?_,λb o e n hb hx=>?_,λb o e n hx=>?_,λb o e hx=>?_,λb xs e=>tups b xs (I.base.tups b xs e),λb o xs e=>frzs b o xs (I.base.frzs b o xs e),λb ps e=>?_⟩,?_,λx c e=>?_,?_,λx c e=>?_,λp hp=>?_,hok,I.len⟩
 ·exact keep b o (neL b o e) hb (neC b o e hx) (I.base.keep b o e n hb hx) (I.base.free b o e n hx)
 ·obtain⟨sl,e1⟩:=I.base.slot b o e n hb hx;obtain⟨sl',e2⟩:=slot b _ (neL b o e) hb (neC b o e hx) e1 (I.base.free b o e n hx);exact⟨sl',e2⟩
 ·obtain⟨o',e1⟩:=I.base.there b o e hx;exact free b o' (neC b o e hx) e1 (I.base.free b o e n hx)
 ·obtain⟨o',e1⟩:=I.base.there b o e hx;exact there b o' (neC b o e hx) e1
 ·obtain⟨m1,e1⟩:=I.base.tbls b ps e;obtain⟨m2,e2⟩:=tbls b _ e1;exact⟨m1++m2,by rw[e2,Array.append_assoc]⟩
 ·obtain⟨m,hn,hl⟩:=I.loc;refine⟨m,ns m hn,λi x v e1 e2 e3=>?_⟩;obtain⟨u,r,l⟩:=hl i x v e1 e2 e3;refine⟨u,r,?_⟩;rcases l with l|⟨k,c,e,z⟩
  ·exact .inl l
  ·exact .inr ⟨k,c,e,cellK x c e _ z⟩
 ·obtain⟨v,z⟩:=I.cell x c e;exact⟨v,cellK x c e v z⟩
 ·obtain⟨m,⟨o,_,_,ho,_⟩,_⟩:=I.loc;exact free _ o (λz=>(hch _ z).2.1 rfl) ho I.free
 ·obtain⟨v,o,ho,hd⟩:=I.cell x c e;exact free c o (λz=>(hch c z).2.2.1 x c e rfl) ho (I.freeC x c e)
 ·obtain⟨e,n,ne,nf,d⟩:=I.pin p hp;have nch:p.1∉ch:=λz=>(hch p.1 z).2.2.2 p hp rfl
  exact⟨keep p.1 p.2 ne nf nch e n,free p.1 p.2 nch e n,ne,nf,d⟩
theorem aD.un {t':Nat}(I:aD X pins σ H s)(u:Un X.fs [] H H' s.heap h')(hok:jl X.prog X.w H' h'):aD X pins σ H' { s with heap:=h',toks:=t' }:=by
 obtain⟨m,⟨o,es,ep,ho,r⟩,_⟩:=id I.loc;obtain⟨sl,hL⟩:=u.any ho I.free (by simp);exact I.step (g':=s.gens) (d':=s.drawn) (ch:=[]) (λ_ z=>nomatch z) (λb o _ hb _ e n=>u.keep b o e n hb (by simp)) (λb o _ hb _ e n=>u.slot b o e n hb (by simp)) (λb o _ e n=>u.free b o e n (by simp)) (λb o _ e=>u.there b o e (by simp)) u.tups u.frzs u.tbls (λm' hm=>by
  obtain⟨o',es',ep',ho',r'⟩:=hm;rw[ho] at ho';cases ho';exact⟨_,es',ep',hL,r'⟩) hok I.bare
theorem aD.call {g':Array GenState}{t':Nat}{d':Drawn}{ch:List Nn} (I:aD X pins σ H s) (u:Un (kH X.stack) ch H H' s.heap h') (hok:jl X.prog X.w H' h') (hg:UV g')
  (hch:∀ b∈ch,(b∈X.ex\/X.s₀.heap.objs.size<=b)/\b≠X.env.locals/\(∀ x c,X.env.cells.lookup x=some c->c≠b)/\∀ p∈X.pn++pins,p.1≠b):
  aD X pins σ H' { s with heap:=h',gens:=g',drawn:=d',toks:=t' }:=by
 obtain⟨m,⟨o,es,ep,ho,r⟩,_⟩:=id I.loc;obtain⟨sl,hL⟩:=u.any ho I.free λz=>(hch _ z).2.1 rfl
 exact I.step (ch:=ch) hch (λb o hL hb hc e n=>u.keep b o e n (λz=>(Nl.mp (I.stkSub b z)).elim hL hb) hc) (λb o _ _ hc e n=>u.any e n hc) (λb o hc e n=>u.free b o e n hc) (λb o hc e=>u.there b o e hc) u.tups u.frzs u.tbls (λm' hm=>by
  obtain⟨o',es',ep',ho',r'⟩:=hm;rw[ho] at ho';cases ho';exact⟨_,es',ep',hL,r'⟩) hok hg
theorem aD.turned {t':Nat}{it:Nn} (I:aD X pins σ H s) (k:∀ b o,b ≠ it->s.heap.get? b=some o->h'.get? b=some o) (hn:H it=none) (hL:it ≠ X.env.locals)
  (h1:it∈X.ex\/X.s₀.heap.objs.size<=it)(h2:∀ x c,X.env.cells.lookup x=some c->c≠it)(h3:∀ p∈X.pn++pins,p.1≠it):aD X pins σ H { s with heap:=h',toks:=t' }:=by
 have nit:∀ b u,H b=some u->b≠it:=λb u e z=>by rw[z,hn] at e;cases e
 refine I.step (g':=s.gens) (d':=s.drawn) (ch:=[it]) (λb hb=>?_) (λb o _ _ hc e _=>k b o (λz=>hc (by simp[z])) e) (λb o _ _ hc e _=>⟨o.slots,k b o (λz=>hc (by simp[z])) e⟩) (λ_ _ _ _ n=>n)
  (λb o hc e=>⟨o,k b o (λz=>hc (by simp[z])) e⟩) (λ_ _ e=>e) (λ_ _ _ e=>e) (λb ps e=>⟨#[],by rw[e];simp⟩) (λm hm=>?_) (λb u e=>?_) I.bare
 ·have e:b=it:=by simpa using hb
  subst e;exact⟨h1,hL,h2,h3⟩
 ·obtain⟨o,es,ep,ho,r⟩:=hm;exact⟨o,es,ep,k _ o (Px hL) ho,r⟩
 ·refine(I.hok b u e).stay (λc v hc q=>k c v ?_ q) (λ_ q=>q) λ_ _ q=>q
  rcases hc with z|z
  ·rw[z];exact nit b u e
  ·exact nit c _ z
theorem aD.tok (I:aD X pins σ H s)(t:Nat):aD X pins σ H { s with toks:=t }:=I.un (h':=s.heap) (t':=t) Un.refl I.hok
theorem aD.kept {t':Nat}(I:aD X pins σ H s)(k:∀ b u,s.heap.get? b=some u->h'.get? b=some u):aD X pins σ H { s with heap:=h',toks:=t' }:=I.un (Un.kept k) (I.hok.kept k)
theorem aD.laid {t':Nat} (I:aD X pins σ H s) (k:∀ b u,s.heap.get? b=some u->h'.get? b=some u) (hp:s.heap.objs.size <= a) (new:bA X.prog X.w (upd H a o) h' a o) :
  aD X pins σ (upd H a o) { s with heap:=h',toks:=t' }:=I.un (Un.laid k hp (I.hok.fresh hp)) (I.hok.laid k hp new)
theorem aD.write {t':Nat} (I:aD X pins σ H s) (mu:Lv (H x)) (he:e=x\/H e=some (.own x)) (k:∀ b u,b ≠ e->s.heap.get? b=some u->h'.get? b=some u) (heo:∃ u,h'.get? e=some u)
  (new:bA X.prog X.w (upd H x o) h' x o):aD X pins σ (upd H x o) { s with heap:=h',toks:=t' }:=I.un (Un.write mu he k heo) (I.hok.write mu he k heo new)
theorem aD.pins_of (I:aD X pins σ H s)(h:∀ p∈pins',s.heap.get? p.1=some p.2/\H p.1=none/\p.1≠X.env.locals/\p.1∉X.fs/\∀ v,p.2.data≠.cell v):aD X pins' σ H s:=
 ⟨I.ok,I.os,I.bare,I.base,I.loc,I.cell,I.free,I.freeC,λp hp=>(Ou.mp hp).elim (λz=>I.pin p (OI _ z)) (h p),I.hok,I.len⟩
theorem qv {N:List Str}(hN:N.Nodup){i j:Nat}{x:Str}(a:N[i]?=some x)(b:N[j]?=some x):i=j:=by
 obtain⟨h1,e1⟩:=Nt.mp a;obtain⟨h2,e2⟩:=Nt.mp b;exact(List.getElem_inj hN).mp (e1.trans e2.symm)
theorem sY {M:Model}{A:Oa}{E:Nd->Nh->Prop}{i:Nat}{x:Str}{v:V}{u:Nd}{Q:Unit->Nh->Prop} (I:aD X pins σ H s) (hN:X.N.Nodup) (hi:X.N[i]?=some x) (hx:Iw X.env.scope x) (r:bj v u)
  (h:∀ s',aD X pins (σ.set i (some v)) H s'->(∃ a,OL a s.heap s'.heap/\(a=X.env.locals\/X.env.cells.lookup x=some a))->Q () s')(hf:X.fn x=true\/X.env.scope.names.lookup x=some .local:=by first|exact .inl rfl|exact .inr rfl|assumption):Nu M A (storeName X.env x u) Q E s:=by
 obtain⟨m,hn,hl⟩:=id I.loc;have hcls:(X.env.scope.kind==.class||(X.env.scope.kind==.module&&X.env.locals != X.env.globals))=false:=by rw[I.ok.kind];rfl
 have hiσ:i<σ.length:=by rw[I.len];exact(Nt.mp hi).1
 have cne:=I.cne;have tracked:∀ {a:Nn}{h':OZ},(∃ o,s.heap.get? a=some o/\H a=none)->OL a s.heap h'->jl X.prog X.w H h':=λ{a h'} ha hs b ob e=>by
  obtain⟨_,_,hfree⟩:=ha;refine(I.hok b ob e).stay (λc w' hc q=>(hs.2 c ?_).trans q) (λ_ q=>q) λ_ _ q=>q
  rintro rfl;rcases hc with rfl|hc
  ·rw[hfree] at e;cases e
  ·rw[hfree] at hc;cases hc
 rcases hx with hk|hk
 ·refine Ss hk hn (λh' hn' hs=>?_) hcls;obtain⟨oL,_,_,hoL,_⟩:=id hn;refine h _ ⟨I.ok,I.os,I.bare,⟨λb o e n hb hx=>?_,λb o e n hb hx=>?_,I.base.free,λb o e hx=>?_,I.base.tups,I.base.frzs,I.base.tbls⟩,⟨_,hn',λj y v' e1 e2 e3=>?_⟩,λy c e=>?_,I.free,I.freeC,λp hp=>?_,tracked ⟨oL,hoL,I.free⟩ hs,by simpa using I.len⟩ ⟨_,hs,.inl rfl⟩
  ·exact(hs.2 b (NA (Nx (Nf e) I.ok.above))).trans (I.base.keep b o e n hb hx)
  ·obtain⟨sl,e1⟩:=I.base.slot b o e n hb hx;exact⟨sl,(hs.2 b (NA (Nx (Nf e) I.ok.above))).trans e1⟩
  ·obtain⟨o',e1⟩:=I.base.there b o e hx;exact⟨o',(hs.2 b (NA (Nx (Nf e) I.ok.above))).trans e1⟩
  ·by_cases hj:j=i
   ·subst hj;rw[hi] at e1;cases e1;rw[UP hiσ] at e2;cases e2;exact⟨u,r,.inl ⟨hk,by simp⟩⟩
   ·rw[SD (Px hj)] at e2;obtain⟨u',r',q⟩:=hl j y v' e1 e2 e3;refine⟨u',r',?_⟩;rcases q with ⟨k,e⟩|⟨k,c,e,z⟩
    ·refine .inl ⟨k,?_⟩;have:y≠x:=λe=>hj (qv hN e1 (e▸hi))
     simp[this,e]
    ·exact .inr ⟨k,c,e,z.sameBut hs (cne y c e)⟩
  ·obtain⟨w',z⟩:=I.cell y c e;exact⟨w',z.sameBut hs (cne y c e)⟩
  ·obtain⟨e,n,ne,nf,d⟩:=I.pin p hp;exact⟨(hs.2 p.1 ne).trans e,n,ne,nf,d⟩
 ·have hfn:X.fn x=true:=by
   rcases hf with z|z
   ·exact z
   ·rw[z] at hk;cases hk
  obtain⟨c,hc⟩:=I.ok.has x (.inl hk);obtain⟨w',z⟩:=I.cell x c hc;refine wpAny_storeName_cell I.ok.kind hk hc z (λh' hc' hs=>?_);obtain⟨oc,hoc,hocd⟩:=id z;refine h { s with heap:=h' } ⟨I.ok,I.os,I.bare,⟨λb o e n hb hx=>?_,λb o e n hb hx=>?_,I.base.free,λb o e hx=>?_,I.base.tups,I.base.frzs,I.base.tbls⟩,⟨m,hn.sameBut hs (Px (cne x c hc)),λj y v' e1 e2 e3=>?_⟩,λy c' e=>?_,I.free,I.freeC,λp hp=>?_,tracked ⟨oc,hoc,I.freeC x c hc⟩ hs,by simpa using I.len⟩ ⟨c,hs,.inr hc⟩
  ·exact(hs.2 b (NA (Nx (Nf e) (I.ok.cab x c hfn hc)))).trans (I.base.keep b o e n hb hx)
  ·obtain⟨sl,e1⟩:=I.base.slot b o e n hb hx;exact⟨sl,(hs.2 b (NA (Nx (Nf e) (I.ok.cab x c hfn hc)))).trans e1⟩
  ·obtain⟨o',e1⟩:=I.base.there b o e hx;exact⟨o',(hs.2 b (NA (Nx (Nf e) (I.ok.cab x c hfn hc)))).trans e1⟩
  ·by_cases hj:j=i
   ·subst hj;rw[hi] at e1;cases e1;rw[UP hiσ] at e2;cases e2;exact⟨u,r,.inr ⟨.inl hk,c,hc,hc'⟩⟩
   ·rw[SD (Px hj)] at e2;obtain⟨u',r',q⟩:=hl j y v' e1 e2 e3;refine⟨u',r',?_⟩;rcases q with q|⟨k,c',e,z'⟩
    ·exact .inl q
    ·refine .inr ⟨k,c',e,z'.sameBut hs ?_⟩;rintro rfl;exact hj (qv hN e1 (I.ok.inj _ _ _ e hc▸hi))
  ·by_cases hcc:c'=c
   ·subst hcc;exact⟨_,hc'⟩
   ·obtain⟨w2,z2⟩:=I.cell y c' e;exact⟨w2,z2.sameBut hs hcc⟩
  ·obtain⟨e,n,ne,nf,d⟩:=I.pin p hp;refine⟨(hs.2 p.1 ?_).trans e,n,ne,nf,d⟩;intro q;rw[q,hoc] at e;have q':oc=p.2:=Nb e;exact d w' (by rw[<- q'];exact hocd)
theorem iG {i:Nat} (I:aD X pins σ H s) (hN:X.N.Nodup) (hi:X.N[i]?=some x) (hx:Iw X.env.scope x) (r:bj v u)
  (h:∀ s',aD X pins (σ.set i (some v)) H s'->Q () s')(hf:X.fn x=true\/X.env.scope.names.lookup x=some .local:=by first|exact .inl rfl|exact .inr rfl|assumption):Nu M A (storeName X.env x u) Q E s:=
 sY I hN hi hx r (λs' I' _=>h s' I') hf
theorem aD.call' (I:aD X pins σ H s) (ho:s'.os=s.os) (u:Un (kH X.stack) ch H H' s.heap s'.heap) (hok:jl X.prog X.w H' s'.heap) (hg:UV s'.gens)
  (hch:∀ b∈ch,(b∈X.ex\/X.s₀.heap.objs.size<=b)/\b≠X.env.locals/\(∀ x c,X.env.cells.lookup x=some c->c≠b)/\∀ p∈X.pn++pins,p.1≠b):aD X pins σ H' s':=by
 obtain⟨h',g',d',t',o'⟩:=s';have e:o'=s.os:=ho;subst e;exact I.call (g':=g') (t':=t') (d':=d') u hok hg hch
end
abbrev XK:=Nd->Option Nn->Hp->Prop
abbrev St:=List (Option V)
abbrev VK:=V->Hp->Prop
abbrev TE:=St->Hp->VK->Prop
abbrev TT:=St->Hp->(Bool->Hp->Prop)->Prop
abbrev TA:=St->Hp->(List V->Hp->Prop)->Prop
structure nQ where
 nx:St->Hp->Prop
 rt:VK
 bk:St->Hp->Prop:=λ_ _=>False
 ct:St->Hp->Prop:=λ_ _=>False
abbrev TS:=nQ->St->Hp->Prop
def EP (X:Cx)(pins:List (Nn×Obj))(σ:St)(Q:VK)(u:Nd)(s':Nh):Prop:=∃ v H',aD X pins σ H' s'/\bj v u/\Q v H'
def TP (X:Cx)(pins:List (Nn×Obj))(σ:St)(Q:Bool->Hp->Prop)(b:Bool)(s':Nh):Prop:=∃ H',aD X pins σ H' s'/\Q b H'
def AP (X:Cx)(pins:List (Nn×Obj))(σ:St)(Q:List V->Hp->Prop)(us:List Nd)(s':Nh):Prop:=∃ vs H',aD X pins σ H' s'/\aM vs us/\Q vs H'
def SP (X:Cx)(pins:List (Nn×Obj))(D:nQ)(f:Flow)(s':Nh):Prop:=
 match f with
 |.next=>∃ σ' H',aD X pins σ' H' s'/\D.nx σ' H'
 |.brk=>∃ σ' H',aD X pins σ' H' s'/\D.bk σ' H'
 |.cont=>∃ σ' H',aD X pins σ' H' s'/\D.ct σ' H'
 |.ret u=>∃ v σ' H',aD X pins σ' H' s'/\bj v u/\D.rt v H'
def PE (X:Cx)(e:Po)(t:TE):Prop:=
 ∀ (pins:List (Nn×Obj)) (s:Nh) (σ:St) (H:Hp) (Q:VK),aD X pins σ H s->t σ H Q->Nu (NI X.prog X.w) X.A (QT e X.env) (EP X pins σ Q) X.xe s
structure WE (X:Cx)(e:Po)(t:TE):Prop where
 go:PE X e t
def PT (X:Cx)(e:Po)(t:TT):Prop:=
 ∀ (pins:List (Nn×Obj)) (s:Nh) (σ:St) (H:Hp) (Q:Bool->Hp->Prop),aD X pins σ H s->t σ H Q->Nu (NI X.prog X.w) X.A (isTrue e X.env (QT e X.env)) (TP X pins σ Q) X.xe s
structure WT (X:Cx)(e:Po)(t:TT):Prop where
 go:PT X e t
def PW (X:Cx)(e:Po)(t:TT):Prop:=
 ∀ (whole:Sem Nd) (pins:List (Nn×Obj)) (s:Nh) (σ:St) (H:Hp) (Q:Bool->Hp->Prop),aD X pins σ H s->t σ H Q->Nu (NI X.prog X.w) X.A (isTrue e X.env whole) (TP X pins σ Q) X.xe s
structure WW (X:Cx)(e:Po)(t:TT):Prop where
 go:PW X e t
theorem PW.pt (h:PW X e t):PT X e t:=h _
def PA (X:Cx)(es:List Po)(t:TA):Prop:=
 ∀ (pos:Pos) (pins:List (Nn×Obj)) (s:Nh) (σ:St) (H:Hp) (Q:List V->Hp->Prop),aD X pins σ H s->t σ H Q->Nu (NI X.prog X.w) X.A (spliced (Q0 pos (NG es X.env))) (AP X pins σ Q) X.xe s
structure WA (X:Cx)(e:List Po)(t:TA):Prop where
 go:PA X e t
def PS (X:Cx)(st:Pr)(t:TS):Prop:=
 ∀ (pins:List (Nn×Obj)) (s:Nh) (σ:St) (H:Hp) (D:nQ),aD X pins σ H s->t D σ H->Nu (NI X.prog X.w) X.A (exec st X.env) (SP X pins D) X.xe s
structure WS (X:Cx)(e:Pr)(t:TS):Prop where
 go:PS X e t
def xS (X:Cx)(st:List Pr)(t:TS):Prop:=
 ∀ (pins:List (Nn×Obj)) (s:Nh) (σ:St) (H:Hp) (D:nQ),aD X pins σ H s->t D σ H->Nu (NI X.prog X.w) X.A (execs st X.env) (SP X pins D) X.xe s
structure cO (X:Cx)(e:List Pr)(t:TS):Prop where
 go:xS X e t
theorem bM (h:Nu M A t Q E s)(hQ:∀ a s,Q a s->Q' a s):Nu M A t Q' E s:=Oi h hQ λ_ _ x=>x
section
variable {X:Cx}
inductive FO (i:Nat)(σ:St)(H:Hp)(Q:VK):Prop
 |mk (v:V) (_:σ[i]?=some (some v)) (_:Q v H)
def tC (v:V):TE:=λ_ H Q=>Q v H
theorem Hn {i:Nat}(hN:X.N[i]?=some x)(hv:JG X.env.scope x)(hd:(x==("__debug__":Str))=false:=by decide)(hcd:(x==("__classdict__":Str))=false:=by decide):PE X (.Name x pos) (FO i):=by
 intro pins s σ H Q I h;obtain⟨v,e,h⟩:=h;obtain⟨m,hn,hl⟩:=I.loc;obtain⟨u,r,l⟩:=hl i x v hN e hv;have fin:EP X pins σ Q u s:=⟨v,H,I,r,h⟩
 rcases l with ⟨hk,hm⟩|⟨hk,c,hc,hcell⟩
 ·exact Ro (PM I.ok.kind hk hn hm fin) hd
 ·rcases hk with hk|hk
  ·exact Ro (wpAny_loadName_cell I.ok.kind hk hc hcell fin) hd
  ·exact Ro (Te I.ok.kind hk hc hcell fin hcd) hd
theorem ac {i j pos}:WE X (.Constant (.int i) j pos) (tC (.int i)):=by
 exact⟨λ_ _ _ H _ I h=>wpAny_Constant_int ⟨.int i,H,I.tok _,⟨_,rfl⟩,h⟩⟩
theorem dk {b j pos}:WE X (.Constant (.bool b) j pos) (tC (.bl b)):=by
 exact⟨λ_ _ _ H _ I h=>Constant_bool ⟨.bl b,H,I,rfl,h⟩⟩
theorem dF {j pos}:WE X (.Constant .none j pos) (tC .non):=by
 exact⟨λ_ _ _ H _ I h=>Constant_none ⟨.non,H,I,rfl,h⟩⟩
theorem bB {x j pos}:WE X (.Constant (.str x) j pos) (tC (.str x)):=by
 exact⟨λ_ _ _ H _ I h=>Calls.Constant_str ⟨.str x,H,I.tok _,⟨_,rfl⟩,h⟩⟩
def Gl (X:Cx)(x:Str):Prop:=X.env.kindOf x=some .globalImplicit
theorem eG (I:aD X pins σ H s) (hg:Gl X x) (hm:X.mg x=some u) (h:Q u s)
  (hd:(x==("__debug__":Str))=false:=by decide):Nu (NI X.prog X.w) X.A (QT (.Name x pos) X.env) Q E s:=
 Tj I.ok.kind hg (Calls.loadGlobal_global (by rw[I.ok.glob];exact I.mod.glob.keeps I.bk) hm h) hd
theorem iE (I:aD X pins σ H s) (hg:Gl X x) (hm:X.mg x=none) (hv:Oh x=some u) (h:Q u s)
  (hn:x≠"__name__":=by decide)(hd:(x==("__debug__":Str))=false:=by decide):Nu (NI X.prog X.w) X.A (QT (.Name x pos) X.env) Q E s:=by
 obtain⟨mb,h1,h2⟩:=I.mod.blt;exact Tj I.ok.kind hg (Calls.loadGlobal_builtin (by rw[I.ok.glob];exact I.mod.glob.keeps I.bk) hm (by rw[I.ok.blt];exact h1.keeps I.bk) ((h2 x hn).trans hv) h) hd
theorem Fs (hg:Gl X x)(hm:X.mg x=some u)(r:bj v u)(hd:(x==("__debug__":Str))=false:=by decide):PE X (.Name x pos) (tC v):=
 λ_ _ _ H _ I h=>eG I hg hm ⟨v,H,I,r,h⟩ hd
theorem cF (hg:Gl X x)(hm:X.mg x=none)(hv:Oh x=some u)(r:bj v u)(hn:x≠"__name__":=by decide)(hd:(x==("__debug__":Str))=false:=by decide):WE X (.Name x pos) (tC v):=by
 exact⟨λ_ _ _ H _ I h=>iE I hg hm hv ⟨v,H,I,r,h⟩ hn hd⟩
variable {a b:Po}{ta tb:TE}{pos:Pos}
inductive MN (x:V)(H:Hp)(Q:Bool->Hp->Prop):Prop
 |mk (c:Bool) (_:x=.bl c) (_:Q c H)
def tB (t:TE):TT:=λσ H Q=>t σ H λx H1=>MN x H1 Q
theorem bD (h:WE X e t)(he:∀ whole,isTrue e X.env whole=(do let v <- whole;Vc e.pos;holding [v] (truthy v)):=by intro _;rfl):WT X e (tB t):=by
 have h:=h.go;refine⟨?_⟩;intro pins s σ H Q I hw;refine isTrue_plain (bM (h pins s σ H _ I hw) λv s1 ⟨x,H1,I1,r1,q1⟩=>?_) (he _);obtain⟨d,rfl,q⟩:=q1;cases r1;exact OT ⟨H1,I1,q⟩
variable {tA tB':TT}{c6:List Po}
def LR (t u:TT):TT:=λσ H Q=>t σ H λc H1=>if c=true then u σ H1 Q else Q false H1
def MV (t u:TT):TT:=λσ H Q=>t σ H λc H1=>if c=true then Q true H1 else u σ H1 Q
def LX (t:TT):TT:=λσ H Q=>t σ H λc H1=>Q (!c) H1
theorem Eh (ha:WT X a tA):WW X (.BoolOp .And [a] pos) tA:=by
 have ha:=ha.go;refine⟨?_⟩;intro wh pins s σ H Q I h;refine isTrue_and (bM (ha pins s σ H Q I h) λc s1 e=>?_);cases c with
 |true=>exact isTrue_and_nil e
 |false=>exact e
theorem ff (ha:WT X a tA):WW X (.BoolOp .Or [a] pos) tA:=by
 have ha:=ha.go;refine⟨?_⟩;intro wh pins s σ H Q I h;refine isTrue_or (bM (ha pins s σ H Q I h) λc s1 e=>?_);cases c with
 |false=>exact isTrue_or_nil e
 |true=>exact e
theorem zQ (ha:WT X a tA)(hb:WW X (.BoolOp .And (b::c6) pos) tB'):WW X (.BoolOp .And (a::b::c6) pos) (LR tA tB'):=by
 have ha:=ha.go;have hb:=hb.go;refine⟨?_⟩;intro wh pins s σ H Q I h;refine isTrue_and (bM (ha pins s σ H _ I h) λc s1 ⟨H1,I1,q1⟩=>?_);cases c with
 |true=>exact hb wh pins s1 σ H1 Q I1 q1
 |false=>exact⟨H1,I1,q1⟩
theorem fF (ha:WT X a tA)(hb:WW X (.BoolOp .Or (b::c6) pos) tB'):WW X (.BoolOp .Or (a::b::c6) pos) (MV tA tB'):=by
 have ha:=ha.go;have hb:=hb.go;refine⟨?_⟩;intro wh pins s σ H Q I h;refine isTrue_or (bM (ha pins s σ H _ I h) λc s1 ⟨H1,I1,q1⟩=>?_);cases c with
 |true=>exact⟨H1,I1,q1⟩
 |false=>exact hb wh pins s1 σ H1 Q I1 q1
theorem bE (ha:WT X a tA):WT X (.UnaryOp .Not a pos) (LX tA):=by
 have ha:=ha.go;refine⟨?_⟩;intro pins s σ H Q I h;exact isTrue_not (ha pins s σ H (λc H1=>Q (!c) H1) I h)
def Lm (ta tb:TE):TE:=λσ H Q=>ta σ H λx H1=>∃ c,x=.bl c/\if c=true then tb σ H1 Q else Q (.bl false) H1
def Kl (ta:TE):TE:=λσ H Q=>ta σ H λx H1=>∃ c,x=.bl c/\Q (.bl (!c)) H1
theorem je {op}(h:WE X a t):WE X (.BoolOp op [a] pos) t:=by
 have h:=h.go;exact⟨λpins s σ H Q I hw=>BoolOp_one (h pins s σ H Q I hw)⟩
theorem fg (ha:WE X a ta)(hb:WE X (.BoolOp .And (b::c6) pos) tb):WE X (.BoolOp .And (a::b::c6) pos) (Lm ta tb):=by
 have ha:=ha.go;have hb:=hb.go;refine⟨?_⟩;intro pins s σ H Q I h;refine BoolOp_and (bM (ha pins s σ H _ I h) λv s1 ⟨x,H1,I1,r1,q1⟩=>?_);obtain⟨c,rfl,q1⟩:=q1;cases r1;refine OT ?_;cases c with
 |true=>exact hb pins s1 σ H1 Q I1 q1
 |false=>exact⟨.bl false,H1,I1,rfl,q1⟩
theorem Ai (ha:WE X a ta):WE X (.UnaryOp .Not a pos) (Kl ta):=by
 have ha:=ha.go;refine⟨?_⟩;intro pins s σ H Q I h;refine UnaryOp_ (bM (ha pins s σ H _ I h) λv s1 ⟨x,H1,I1,r1,q1⟩=>?_);obtain⟨c,rfl,q1⟩:=q1;cases r1;exact not_of (OT ⟨.bl (!c),H1,I1,rfl,q1⟩)
def MU (t:TT)(ta tb:TE):TE:=λσ H Q=>t σ H λc H1=>if c=true then ta σ H1 Q else tb σ H1 Q
theorem kL (hc:WT X c tA)(ha:WE X a ta)(hb:WE X b tb):WE X (.IfExp c a b pos) (MU tA ta tb):=by
 have hc:=hc.go;have ha:=ha.go;have hb:=hb.go;refine⟨?_⟩;intro pins s σ H Q I h;refine wpAny_IfExp (bM (hc pins s σ H _ I h) λd s1 ⟨H1,I1,q1⟩=>?_);cases d with
 |true=>exact ha pins s1 σ H1 Q I1 q1
 |false=>exact hb pins s1 σ H1 Q I1 q1
end
def bI (K:HD)(H:Hp)(a:Nn)(xs:List V):Prop:=
 Rd H a (.lst xs) \/
  ∃ (o:Obj) (its:Array Nd) (n:Nat),K.lookup a=some o/\o.cls=.type "list"/\o.dict=none/\o.data=.seq its n/\its.size<=Nv/\aM xs its.toList
def cW (K:HD)(H:Hp)(a:Nn)(xs:List V):Prop:=
 Rd H a (.tup xs) \/
  ∃ (o:Obj) (its:Array Nd) (n:Nat),K.lookup a=some o/\o.cls=.type "tuple"/\o.data=.seq its n/\its.size<=Nv/\aM xs its.toList
def LK:Nd->Option V
 |.none=>some .non
 |.bool b=>some (.bl b)
 |.int i _=>some (.int i)
 |.str x _=>some (.str x)
 |.bytes b _=>some (.byt b)
 |.float b _=>some (.flt b)
 |.ref a=>some (.ref a)
 |.type n=>some (.ty n)
 |_=>none
theorem bj.abs (r:bj x u):LK u=some x:=by
 cases x with
 |non=>cases r;rfl
 |bl _=>cases r;rfl
 |int _=>obtain⟨t,rfl⟩:=r;rfl
 |str _=>obtain⟨t,rfl⟩:=r;rfl
 |byt _=>obtain⟨t,rfl⟩:=r;rfl
 |flt _=>obtain⟨t,rfl⟩:=r;rfl
 |ref _=>cases r;rfl
 |ty _=>cases r;rfl
theorem bj.inj (r:bj x u)(q:bj y u):x=y:=Nb (r.abs.symm.trans q.abs)
theorem aM.inj:∀ {xs ys:List V}{us:List Nd},aM xs us->aM ys us->xs=ys
 |_,_,_,.nil,.nil=>rfl
 |_,_,_,.cons r t,.cons r' t'=>by rw[r.inj r',aM.inj t t']
section
variable {X:Cx}{pins:List (Nn×Obj)}{σ:St}{H:Hp}{s:Nh}{a:Nn}{xs ys:List V}
theorem bI.of {K:HD}(h:H a=some (.lst xs)):bI K H a xs:=.inl (.inl h)
theorem cW.of {K:HD}(h:H a=some (.tup xs)):cW K H a xs:=.inl (.inl h)
theorem aD.list (I:aD X pins σ H s)(h:bI X.K H a xs):∃ its:List Nd,aM xs its/\PlainL s.heap a its.toArray/\xs.length<=Nv:=by
 rcases h with h|⟨o,its,n,hk,hc,hd,hs,hz,r⟩
 ·obtain⟨z,its,n,r,e⟩:=h.ok I.hok;exact⟨its,r,⟨_,n,e,rfl,rfl,rfl⟩,z⟩
 ·refine⟨its.toList,r,⟨o,n,I.kIn a o hk,hc,hd,by simpa using hs⟩,?_⟩;have e:=r.length;simp only[Oy] at e;lia
theorem aD.tuple (I:aD X pins σ H s)(h:cW X.K H a xs):∃ its:List Nd,aM xs its/\IsTup s.heap a its.toArray/\xs.length<=Nv:=by
 rcases h with h|⟨o,its,n,hk,hc,hs,hz,r⟩
 ·obtain⟨z,its,r,p⟩:=h.ok I.hok;exact⟨its,r,p,z⟩
 ·refine⟨its.toList,r,⟨o,I.kIn a o hk,hc,n,by simpa using hs⟩,?_⟩;have e:=r.length;simp only[Oy] at e;lia
theorem aD.list_inj (I:aD X pins σ H s)(h:bI X.K H a xs)(h':bI X.K H a ys):xs=ys:=by
 obtain⟨its,r,⟨o,n,e,_,_,d⟩,_⟩:=I.list h;obtain⟨its',r',⟨o',n',e',_,_,d'⟩,_⟩:=I.list h';rw[e] at e';cases e';rw[d] at d';injection d' with d1 _
 have:its=its':=by simpa using Ql Array.toList d1
 subst this;exact r.inj r'
theorem aD.tuple_inj (I:aD X pins σ H s)(h:cW X.K H a xs)(h':cW X.K H a ys):xs=ys:=by
 obtain⟨its,r,⟨o,e,_,n,d⟩,_⟩:=I.tuple h;obtain⟨its',r',⟨o',e',_,n',d'⟩,_⟩:=I.tuple h';rw[e] at e';cases e';rw[d] at d';injection d' with d1 _
 have:its=its':=by simpa using Ql Array.toList d1
 subst this;exact r.inj r'
end
abbrev Cx.wish (X:Cx)(E:Nd->Nh->Prop):Cx:={ X with xe:=E }
abbrev Cx.nox (X:Cx):Cx:=X.wish λ_ _=>False
theorem Cx.Ok.wish {X:Cx}(ok:X.Ok)(E:Nd->Nh->Prop):(X.wish E).Ok:=
 ⟨ok.mod,ok.kind,ok.glob,ok.blt,ok.above,ok.inj,ok.has,ok.cab,ok.hd,ok.frames,ok.stk,ok.exf,ok.bs,ok.bsz,ok.noex,ok.exfs,ok.funs,ok.frf⟩
theorem Cx.Ok.unwish {X:Cx}{E:Nd->Nh->Prop}(ok:(X.wish E).Ok):X.Ok:=
 ⟨ok.mod,ok.kind,ok.glob,ok.blt,ok.above,ok.inj,ok.has,ok.cab,ok.hd,ok.frames,ok.stk,ok.exf,ok.bs,ok.bsz,ok.noex,ok.exfs,ok.funs,ok.frf⟩
section
variable {X:Cx}{pins:List (Nn×Obj)}{σ:St}{H:Hp}{s:Nh}{E:Nd->Nh->Prop}
theorem aD.wish (I:aD X pins σ H s)(E:Nd->Nh->Prop):aD (X.wish E) pins σ H s:=⟨I.ok.wish E,I.os,I.bare,I.base,I.loc,I.cell,I.free,I.freeC,I.pin,I.hok,I.len⟩
theorem aD.unwish (I:aD (X.wish E) pins σ H s):aD X pins σ H s:=⟨I.ok.unwish,I.os,I.bare,I.base,I.loc,I.cell,I.free,I.freeC,I.pin,I.hok,I.len⟩
theorem SP.unwish (h:SP (X.wish E) pins D f s'):SP X pins D f s':=by
 cases f with
 |next=>obtain⟨σ',H',I,q⟩:=h;exact⟨σ',H',I.unwish,q⟩
 |brk=>obtain⟨σ',H',I,q⟩:=h;exact⟨σ',H',I.unwish,q⟩
 |cont=>obtain⟨σ',H',I,q⟩:=h;exact⟨σ',H',I.unwish,q⟩
 |ret u=>obtain⟨v,σ',H',I,r,q⟩:=h;exact⟨v,σ',H',I.unwish,r,q⟩
theorem xS.nox {st:List Pr}{t:TS}(h:xS X.nox st t):xS X st t:=λpins s σ H D I hw=>
 Oi (h pins s σ H D (I.wish _) hw) (λ_ _ q=>q.unwish) λ_ _ z=>O7 z
end
section
variable {X:Cx}{st:Pr}{c6:List Pr}{t u:TS}{e:Po}{te:TE}{pos:Pos}
def Ll:TS:=λD σ H=>D.nx σ H
def Km (t u:TS):TS:=λD σ H=>t { D with nx:=u D } σ H
theorem aN:cO X [] Ll:=by
 exact⟨λ_ _ σ H _ I h=>RO ⟨σ,H,I,h⟩⟩
theorem af (h1:WS X st t)(h2:cO X c6 u):cO X (st::c6) (Km t u):=by
 have h1:=h1.go;have h2:=h2.go;refine⟨?_⟩;intro pins s σ H D I h;refine wpAny_execs_cons (bM (h1 pins s σ H { D with nx:=u D } I h) λf s1 q=>?_);cases f with
 |next=>
  obtain⟨σ',H',I',q⟩:=q;exact h2 pins s1 σ' H' D I' q
 |ret v=>exact q
 |brk=>exact q
 |cont=>exact q
theorem ah (h1:WS X st t):cO X [st] t:=by
 have h1:=h1.go;refine⟨?_⟩;intro pins s σ H D I h;refine wpAny_execs_cons (bM (h1 pins s σ H D I h) λf s1 q=>?_);cases f with
 |next=>exact RO q
 |ret v=>exact q
 |brk=>exact q
 |cont=>exact q
theorem aD.quiet (I:aD X pins σ H s):interactive X.env=false:=by simp[interactive,I.ok.kind]
def LB (te:TE):TS:=λD σ H=>te σ H λ_ H1=>D.nx σ H1
theorem bo (he:WE X e te)(hs:Td e none pos.line X.env=pure false:=by rfl):WS X (.Expr e pos) (LB te):=by
 have he:=he.go;refine⟨?_⟩;intro pins s σ H D I h;exact wpAny_Expr_any (bM (he pins s σ H _ I h) λv s1 ⟨x,H1,I1,r1,q1⟩=>⟨σ,H1,I1,q1⟩) I.quiet hs
def Mn (te:TE):TS:=λD σ H=>te σ H D.rt
theorem au (he:WE X e te):WS X (.Return (some e) pos) (Mn te):=by
 have he:=he.go;refine⟨?_⟩;intro pins s σ H D I h;exact wpAny_Return_some (bM (he pins s σ H _ I h) λv s1 ⟨x,H1,I1,r1,q1⟩=>⟨x,σ,H1,I1,r1,q1⟩)
def Mh (c:TT)(t u:TS):TS:=λD σ H=>c σ H λb H1=>if b=true then t D σ H1 else u D σ H1
theorem bg (hc:WT X c tc)(ha:cO X a t)(hb:cO X b u):WS X (.If c a b pos) (Mh tc t u):=by
 have hc:=hc.go;have ha:=ha.go;have hb:=hb.go;refine⟨?_⟩;intro pins s σ H D I h;refine wpAny_If (bM (hc pins s σ H _ I h) λd s1 ⟨H1,I1,q1⟩=>?_);cases d with
 |true=>exact ha pins s1 σ H1 D I1 q1
 |false=>exact hb pins s1 σ H1 D I1 q1
def Hm:TS:=λ_ _ _=>False
theorem cQ:WS X st Hm:=by
 exact⟨λ_ _ _ _ _ _ h=>h.elim⟩
end
abbrev TG:=V->St->Hp->(St->Hp->Prop)->Prop
abbrev IM:=List V->St->Hp->(St->Hp->Prop)->Prop
def PG (X:Cx)(target:Po)(t:TG):Prop:=
 ∀ (pins:List (Nn×Obj)) (s:Nh) (σ:St) (H:Hp) (v:V) (u:Nd) (Q:St->Hp->Prop),aD X pins σ H s->bj v u->t v σ H Q ->
  Nu (NI X.prog X.w) X.A (assign target X.env u) (λ_ s'=>∃ σ' H',aD X pins σ' H' s'/\Q σ' H') X.xe s
structure WG (X:Cx)(e:Po)(t:TG):Prop where
 go:PG X e t
def Mb (X:Cx)(ts:List Po)(t:IM):Prop:=
 ∀ (pins:List (Nn×Obj)) (s:Nh) (σ:St) (H:Hp) (vs:List V) (us:List Nd) (Q:St->Hp->Prop),aD X pins σ H s->aM vs us->t vs σ H Q ->
  Nu (NI X.prog X.w) X.A (V0 ((P9 ts X.env).map (·.2)) us) (λ_ s'=>∃ σ' H',aD X pins σ' H' s'/\Q σ' H') X.xe s
structure K4 (X:Cx)(e:List Po)(t:IM):Prop where
 go:Mb X e t
abbrev HK:=V->V->V->Hp->(Hp->Prop)->Prop
def Jz (X:Cx)(t:HK):Prop:=
 ∀ (pins:List (Nn×Obj)) (s:Nh) (σ:St) (H:Hp) (o i v:V) (ov iv u:Nd) (Q:Hp->Prop),aD X pins σ H s->bj o ov->bj i iv->bj v u->t o i v H Q ->
  Nu (NI X.prog X.w) X.A (setItem ov iv u) (λ_ s'=>∃ H',aD X pins σ H' s'/\Q H') X.xe s
abbrev J7:=V->V->Hp->VK->Prop
def LJ (X:Cx)(op:Operator)(t:J7):Prop:=
 ∀ (pins:List (Nn×Obj)) (s:Nh) (σ:St) (H:Hp) (x y:V) (v u:Nd) (Q:VK),aD X pins σ H s->bj x v->bj y u->t x y H Q ->
  Nu (NI X.prog X.w) X.A (inplaceOp op v u) (EP X pins σ Q) X.xe s
section
variable {X:Cx}{pos:Pos}
def zF (i:Nat):TG:=λv σ H Q=>Q (σ.set i (some v)) H
theorem EA {i:Nat}(hN:X.N.Nodup)(hi:X.N[i]?=some x)(hx:Iw X.env.scope x)(hf:X.fn x=true\/X.env.scope.names.lookup x=some .local:=by first|exact .inl rfl|exact .inr rfl|assumption):WG X (.Name x pos) (zF i):=by
 refine⟨?_⟩;intro pins s σ H v u Q I r h;exact R8 (iG I hN hi hx r (λs' I'=>⟨_,H,I',h⟩) hf)
def L9:IM:=λvs σ H Q=>vs=[]/\Q σ H
def Kc (t:TG)(u:IM):IM:=λvs σ H Q=>∃ v r,vs=v::r/\t v σ H λσ' H'=>u r σ' H' Q
theorem aY:K4 X [] L9:=by
 refine⟨?_⟩;intro pins s σ H vs us Q I r h;obtain⟨e,h⟩:=h;subst e;cases r;exact Ub ⟨σ,H,I,h⟩
theorem aq (h1:WG X e t) (h2:K4 X es u)
  (hs:(P9 (e::es) X.env).map (·.2)=assign e X.env::(P9 es X.env).map (·.2):=by rfl):K4 X (e::es) (Kc t u):=by
 have h1:=h1.go;have h2:=h2.go;refine⟨?_⟩;intro pins s σ H vs us Q I r h;obtain⟨v,vr,e1,h⟩:=h;subst e1;cases r with
 |cons r rr=>
  rw[hs];refine QJ (bM (h1 pins s σ H _ _ _ I r h) λ_ s1 ⟨σ1,H1,I1,q1⟩=>?_);exact h2 pins s1 σ1 H1 _ _ Q I1 rr q1
def KO (K:HD)(n:Nat)(t:IM):TG:=λv σ H Q=>∃ a xs,v=.ref a/\cW K H a xs/\xs.length=n/\t xs σ H Q
theorem Je {k:Nat}{n:Nat} (hc:X.calm=true) (h:Mb X es t)
  (hn:(P9 es X.env).length=n:=by rfl)(hst:(P9 es X.env).findIdx? (·.1)=none:=by rfl):PG X (.Tuple es k pos) (KO X.K n t):=by
 intro pins s σ H v u Q I r hw;obtain⟨a,xs,e1,hq,hl,hw⟩:=hw;subst e1;cases r;obtain⟨its,rv,ht,hz⟩:=I.tuple hq;refine Tv (I.ok.hd hc) ht (by simp[hn,<- hl,rv.length]) hst λh' hx=>?_
 have I1:aD X pins σ H { s with heap:=h' }:=I.kept (t':=s.toks) λb o e=>hx b o (NA (Nf e)) e
 exact h pins _ σ H xs _ Q I1 (by simpa using rv) hw
def LO (to ti:TE)(t:HK):TG:=λv σ H Q=>to σ H λo H1=>ti σ H1 λi H2=>t o i v H2 λH3=>Q σ H3
theorem uG (ho:WE X o to) (hi:WE X i ti) (hs:Jz X t)
  (ha:∀ v,assign (.Subscript o i pos) X.env v=(do
   let ov <- holding [v] (QT o X.env)
   let iv <- holding [v,ov] (QT i X.env)
   Vc pos
   holding [v,ov,iv] (setItem ov iv v)
   release [v,ov,iv] []):=by intro _;rfl):WG X (.Subscript o i pos) (LO to ti t):=by
 have ho:=ho.go;have hi:=hi.go;refine⟨?_⟩;intro pins s σ H v u Q I r h;rw[ha];refine KE (Ox (bM (ho pins s σ H _ I h) λov s1 ⟨x,H1,I1,r1,q1⟩=>?_));refine KE (Ox (bM (hi pins s1 σ H1 _ I1 q1) λiv s2 ⟨y,H2,I2,r2,q2⟩=>?_));refine KE (PP (KE (Ox (bM (hs pins s2 σ H2 x y v ov iv u _ I2 r1 r2 r q2) λ_ s3 ⟨H3,I3,q3⟩=>?_))));exact wpAny_release ⟨σ,H3,I3,q3⟩
def Jk (te:TE)(g:TG):TS:=λD σ H=>te σ H λx H1=>g x σ H1 D.nx
theorem fi (he:WE X e te) (hg:WG X tg g) (hs:swapsWithSole [tg] e pos.line X.env=pure false:=by rfl) (hw:swappedStores [tg] e X.env=pure none:=by rfl)
  (h1:(P9 [tg] X.env).map (·.2)=[assign tg X.env]:=by rfl):WS X (.Assign [tg] e pos) (Jk te g):=by
 have he:=he.go;have hg:=hg.go;refine⟨?_⟩;intro pins s σ H D I h;refine wpAny_Assign_stores (bM (he pins s σ H _ I h) λv s1 ⟨x,H1,I1,r1,q1⟩=>?_) hs hw;rw[h1];exact bM (hg pins s1 σ H1 x v _ I1 r1 q1) λ_ s2 q=>q
theorem Ff {i:Nat} (hN:X.N.Nodup) (hi:X.N[i]?=some x) (hx:Iw X.env.scope x) (he:WE X e te) (hs:Td e (some (.Name x pos')) pos.line X.env=pure false:=by rfl) (hf:X.fn x=true\/X.env.scope.names.lookup x=some .local:=by first | exact .inl rfl | exact .inr rfl | assumption) :
  WS X (.Assign [.Name x pos'] e pos) (Jk te (zF i)):=by
 have he:=he.go;refine⟨?_⟩;intro pins s σ H D I h;refine wpAny_Assign_Name (bM (he pins s σ H _ I h) λv s1 ⟨y,H1,I1,r1,q1⟩=>?_) hs;exact iG I1 hN hi hx r1 (λs2 I2=>⟨_,H1,I2,q1⟩) hf
def L6 (i j:Nat)(ta:TA):TS:=λD σ H=>ta σ H λvs H1=>∃ v w,vs=[v,w]/\D.nx ((σ.set i (some v)).set j (some w)) H1
theorem mS {i j:Nat}{kt k2 pt2} (hc:X.calm=true) (hN:X.N.Nodup) (hi:X.N[i]?=some x) (hj:X.N[j]?=some y) (hij:i ≠ j)
  (hx:X.env.scope.names.lookup x=some .local)(hy:X.env.scope.names.lookup y=some .local)(ha:WA X [a,b] ta)
  (hw:swappedStores [.Tuple [.Name x px,.Name y py] kt pt] (.Tuple [a,b] k2 pt2) X.env=pure (some [x,y]))
  (hs:swapsWithSole [.Tuple [.Name x px,.Name y py] kt pt] (.Tuple [a,b] k2 pt2) pos.line X.env=pure false:=by rfl):
  WS X (.Assign [.Tuple [.Name x px,.Name y py] kt pt] (.Tuple [a,b] k2 pt2) pos) (L6 i j ta):=by
 have ha:=ha.go;refine⟨?_⟩;intro pins s σ H D I h;rw[exec_Assign_arm];refine KE (PP ?_);rw[hs];refine KE (Nc ?_);rw[NS (by decide)];refine KE (Tuple_ (bM (ha _ pins s σ H _ I h) λus s1 ⟨vs,H1,I1,r1,q1⟩=>?_));obtain⟨v,w,e1,q1⟩:=q1;subst e1;obtain⟨u1,u2,rfl,rv,rw'⟩:∃ u1 u2,us=[u1,u2]/\bj v u1/\bj w u2:=by
  cases r1 with
  |cons p q=>
   cases q with
   |cons p' q'=>
    cases q';exact⟨_,_,rfl,p,p'⟩
 refine N4 ?_ (by show 2<=Nv;decide);have I2:aD X pins σ H1 { s1 with heap:=s1.heap.push { cls:=.type "tuple",data:=.seq [u1,u2].toArray } }:=I1.kept (t':=s1.toks) λb o e=>Na _ e
 rw[hw];refine KE (Nc ?_);show Nu (NI X.prog X.w) X.A (do rule "assign.swapped-stores";let items <- unpackItems (.ref s1.heap.objs.size) 2 none;V0 [λv=>WQ X.env y v,λv=>WQ X.env x v] items.reverse;pure Flow.next) _ _ _;refine KE (Qs (KE (unpackItems_tuple (items:=#[u1,u2]) (I.ok.hd hc) (WZ s1.heap _) λh' hx'=>?_)));have I3:=I2.kept (h':=h') (t':=s1.toks) λb o e=>hx' b o (NA (Nf e)) e
 show Nu _ _ (V0 [λv=>WQ X.env y v,λv=>WQ X.env x v] [u2,u1]>>=λ_=>pure Flow.next) _ _ _;refine KE (QJ (wpAny_bindName (iG I3 hN hj (.inl hy) rw' (λs2 I4=>?_) (.inr hy))));refine QJ (wpAny_bindName (iG I4 hN hi (.inl hx) rv (λs3 I5=>Ub (Nc ?_)) (.inr hx)));rw[List.set_comm _ _ (Px hij)] at I5;exact⟨_,H1,I5,q1⟩
def ME (i:Nat)(te:TE)(ti:J7):TS:=λD σ H=>∃ x,σ[i]?=some (some x)/\te σ H λy H1=>ti x y H1 λz H2=>D.nx (σ.set i (some z)) H2
theorem As {i:Nat} (hN:X.N.Nodup) (hi:X.N[i]?=some x) (hx:Iw X.env.scope x) (he:WE X e te) (ho:LJ X op ti) (hf:X.fn x=true\/X.env.scope.names.lookup x=some .local:=by first | exact .inl rfl | exact .inr rfl | assumption) :
  WS X (.AugAssign (.Name x pos') op e pos) (ME i te ti):=by
 have he:=he.go;refine⟨?_⟩;intro pins s σ H D I h;obtain⟨v,e1,h⟩:=h;obtain⟨m,hn,hl⟩:=I.loc;have vis:JG X.env.scope x:=by rcases hx with k|k;exact .inl k;exact .inr (.inl k)
 obtain⟨u,r,l⟩:=hl i x v hi e1 vis;refine wpAny_AugAssign_Name ?_;have go:Nu (NI X.prog X.w) X.A (QT e X.env) (λw s₂=>Nu (NI X.prog X.w) X.A (inplaceOp op u w) (λr s₃=>Nu (NI X.prog X.w) X.A (storeName X.env x r) (λ_=>SP X pins D .next) X.xe s₃) X.xe s₂) X.xe s:=by
  refine bM (he pins s σ H _ I h) λw s1 ⟨y,H1,I1,r1,q1⟩=>?_
  refine bM (ho pins s1 σ H1 v y u w _ I1 r r1 q1) λz s2 ⟨zv,H2,I2,r2,q2⟩=>?_
  exact iG I2 hN hi hx r2 (λs3 I3=>⟨_,H2,I3,q2⟩) hf
 rcases l with ⟨hk,hm⟩|⟨hk,c,hc,hcell⟩
 ·exact PM I.ok.kind hk hn hm go
 ·rcases hk with hk|hk
  ·exact wpAny_loadName_cell I.ok.kind hk hc hcell go
  ·rcases hx with k|k
   ·have:X.env.scope.names.lookup x=some .free:=hk;rw[k] at this;cases this
   ·have:X.env.scope.names.lookup x=some .free:=hk;rw[k] at this;cases this
def KA (to ti te:TE)(tget:V->V->Hp->VK->Prop)(tip:J7)(tset:HK):TS:=λD σ H=>to σ H λo H1=>ti σ H1 λi H2=>tget o i H2 λx H3=>te σ H3 λy H4=>tip x y H4 λz H5=>tset o i z H5 λH6=>D.nx σ H6
def Le (X:Cx)(t:V->V->Hp->VK->Prop):Prop:=
 ∀ (pins:List (Nn×Obj)) (s:Nh) (σ:St) (H:Hp) (o i:V) (ov iv:Nd) (Q:VK),aD X pins σ H s->bj o ov->bj i iv->t o i H Q ->
  Nu (NI X.prog X.w) X.A (U' ov iv) (EP X pins σ Q) X.xe s
theorem Dd (ho:WE X o to) (hi:WE X i ti) (hg:Le X tget) (he:WE X e te) (hp:LJ X op tip) (hs:Jz X tset)
  (ha:∀ ov iv new,augStore i ov iv new=(do holding [new,ov,iv] (setItem ov iv new);release [new,ov,iv] [];pure .next):=by intros;rfl):WS X (.AugAssign (.Subscript o i tpos) op e pos) (KA to ti te tget tip tset):=by
 have ho:=ho.go;have hi:=hi.go;have he:=he.go;refine⟨?_⟩;intro pins s σ H D I h;refine wpAny_AugAssign_SubscriptAny (bM (ho pins s σ H _ I h) λov s1 ⟨x1,H1,I1,r1,q1⟩=>?_) ha;refine bM (hi pins s1 σ H1 _ I1 q1) λiv s2 ⟨x2,H2,I2,r2,q2⟩=>?_
 refine bM (hg pins s2 σ H2 x1 x2 ov iv _ I2 r1 r2 q2) λold s3 ⟨x3,H3,I3,r3,q3⟩=>?_
 refine bM (he pins s3 σ H3 _ I3 q3) λv s4 ⟨x4,H4,I4,r4,q4⟩=>?_
 refine bM (hp pins s4 σ H4 x3 x4 old v _ I4 r3 r4 q4) λnew s5 ⟨x5,H5,I5,r5,q5⟩=>?_
 exact bM (hs pins s5 σ H5 x1 x2 x5 ov iv new _ I5 r1 r2 r5 q5) λ_ s6 ⟨H6,I6,q6⟩=>⟨σ,H6,I6,q6⟩
def MT (f:Int->Int->Int):J7:=λx y H Q=>∃ i j,x=.int i/\y=.int j/\Q (.int (f i j)) H
theorem I_:LJ X .Add (MT λi j=>i+j):=by
 intro pins s σ H x y v u Q I r1 r2 h;obtain⟨i,j,e1,e2,q⟩:=h;subst e1;subst e2;obtain⟨t,rfl⟩:=r1;obtain⟨t',rfl⟩:=r2;exact iadd_int ⟨.int _,H,I.tok _,⟨_,rfl⟩,q⟩
end
section
variable {X:Cx}{pos:Pos}
def JC (c:TT)(tb:TS):TS:=λD σ H=>∃ W:Nat->St->Hp->Prop,(∃ m,W m σ H)/\∀ m σ H,W m σ H ->
 c σ H λb H1=>if b=true then ∃ N:St->Hp->Prop,(∀ σ' H',N σ' H'->∃ m',m'<m/\W m' σ' H')/\tb { D with nx:=N,ct:=N,bk:=D.nx } σ H1 else D.nx σ H1
theorem tY (hp:PassesOwn (NI X.prog X.w) X.A X.env X.xe)(hc:WT X c tc)(hb:cO X body tb):WS X (.While c body [] pos) (JC tc tb):=by
 have hc:=hc.go;have hb:=hb.go;refine⟨?_⟩;intro pins s σ H D I h;obtain⟨W,⟨m0,w0⟩,iC⟩:=h;refine wpAny_While (codeAny_whileLoop (λn s'=>∃ σ' H',aD X pins σ' H' s'/\W n σ' H') ?_ m0 ⟨σ,H,I,w0⟩);rintro n s1 ⟨σ1,H1,I1,w1⟩;refine Qr hp (bM (hc pins s1 σ1 H1 _ I1 (iC n σ1 H1 w1)) λb s2 ⟨H2,I2,q2⟩=>?_);cases b with
 |true=>
  obtain⟨N,hN,q2⟩:=q2;rw[NZ rfl];refine Qr hp (bM (hb pins s2 σ1 H2 _ I2 q2) λf s3 q3=>?_);cases f with
  |next=>
   obtain⟨σ3,H3,I3,n3⟩:=q3;obtain⟨m',hm,w3⟩:=hN σ3 H3 n3;exact⟨m',hm,σ3,H3,I3,w3⟩
  |cont=>
   obtain⟨σ3,H3,I3,n3⟩:=q3;obtain⟨m',hm,w3⟩:=hN σ3 H3 n3;exact⟨m',hm,σ3,H3,I3,w3⟩
  |brk=>exact q3
  |ret v=>exact q3
 |false=>
  rw[NS NK];exact RO ⟨σ1,H2,I2,q2⟩
end
structure It where
 go:Nat->Hp->Prop
 yld:Nat->Hp->V->Hp->Prop
 stop:Nat->Hp->Prop
def l4 (X:Cx)(pins:List (Nn×Obj))(H:Hp)(b:Nn):Prop:=
 H b=none/\b≠X.env.locals/\b∉X.fs/\(b∈X.ex\/X.s₀.heap.objs.size<=b)/\(∀ x c,X.env.cells.lookup x=some c->c≠b)/\∀ p∈X.pn++pins,p.1≠b
theorem aD.fpOk (I:aD X pins σ H s)(hb:s.heap.objs.size<=b)(hn:H' b=none):l4 X pins H' b:=by
 refine⟨hn,O8 (Nx I.lt hb),I.nofs hb,.inr (NP I.sz hb),λx c e z=>?_,λp hp z=>?_⟩
 ·obtain⟨v,q⟩:=I.cell x c e;exact absurd (Nx q.lt (by rw[z];exact hb)) (N0 _)
 ·exact absurd (Nx (Nf (I.pin p hp).1) (by rw[z];exact hb)) (N0 _)
structure ug (P:ND)(w:N6)(K:HD)(tg:Po)(J:It)(fp:List Nn)(it:Nn)(tn:Nat->OZ->Prop):Prop where
 mem:it∈fp
 obj:∀ i h,tn i h->∀ b∈fp,∃ o,h.get? b=some o/\∀ v,o.data≠.cell v
 keep:∀ i h h',tn i h->(∀ b∈fp,∀ o,h.get? b=some o->h'.get? b=some o)->tn i h'
 item:∀ (X:Cx),X.prog=P->X.w=w->X.K=K->X.calm=true->∀ (i:Nat) (pins:List (Nn×Obj)) (s:Nh) (σ:St) (H:Hp) (E:Nd->Nh->Prop),aD X pins σ H s->(∀ b∈fp,l4 X pins H b)->tn i s.heap->J.go i H ->
  Nu (NI P w) X.A (Q1 (.ref it)) (λr s1=>∃ u,r=some u /\
   Nu (NI P w) X.A (RJ tg (.ref it) u) (λ_ s2=>∃ x H',aD X pins σ H' s2/\bj x u/\J.yld i H x H'/\tn (i+1) s2.heap/\∀ b∈fp,H' b=none) E s1) E s
 done:∀ (X:Cx),X.prog=P->X.w=w->X.K=K->X.calm=true->∀ (i:Nat) (pins:List (Nn×Obj)) (s:Nh) (σ:St) (H:Hp) (E:Nd->Nh->Prop),aD X pins σ H s->(∀ b∈fp,l4 X pins H b)->tn i s.heap->J.stop i H ->
  Nu (NI P w) X.A (Q1 (.ref it)) (λr s1=>r=none/\aD X pins σ H s1) E s
 self:∀ (A:Oa) (i:Nat) (s:Nh) (Q:Nd->Nh->Prop) (E:Nd->Nh->Prop),tn i s.heap->Q (.ref it) s->Nu (NI P w) A (W9 (.ref it)) Q E s
abbrev TI:=St->Hp->(It->Hp->Prop)->Prop
def ML (X:Cx)(pins:List (Nn×Obj))(σ:St)(tg:Po)(R:It->Hp->Prop)(itv:Nd)(s2:Nh):Prop:=
 ∃ (it:Nn) (fp:List Nn) (tn:Nat->OZ->Prop) (J:It) (H':Hp),itv=.ref it/\aD X pins σ H' s2/\ug X.prog X.w X.K tg J fp it tn/\tn 0 s2.heap/\(∀ b∈fp,l4 X pins H' b)/\R J H'
def PI (X:Cx)(tg iter:Po)(wi:TI):Prop:=
 ∀ (pins:List (Nn×Obj)) (s:Nh) (σ:St) (H:Hp) (R:It->Hp->Prop),aD X pins σ H s->wi σ H R ->
  Nu (NI X.prog X.w) X.A (QT iter X.env) (λv s1=>Nu (NI X.prog X.w) X.A (W9 v) (ML X pins σ tg R) X.xe s1) X.xe s
structure WI (X:Cx)(tg e:Po)(t:TI):Prop where
 go:PI X tg e t
theorem zM (ho:s.heap.get? it=some o) (hc:o.cls=.type n) (hd:o.data=.fields vs)
  (hn:["enumerate","zip","dict_itemiterator","dict_reverseitemiterator","odict_iterator","itertools.zip_longest","itertools.pairwise"].contains n=false)(hQ:Q () s):Nu M A (RJ tg (.ref it) u) Q E s:=by
 unfold RJ;cases tg<;>first
  |exact Nc hQ
  | (cases u <;> first
    |exact Nc hQ
    | (refine KE (wpAny_load ho ?_)
       rw[hc,hd];show Nu M A (if(["enumerate","zip","dict_itemiterator","dict_reverseitemiterator","odict_iterator","itertools.zip_longest","itertools.pairwise"].contains n&&vs[0]?==some (RL _))=true then _ else _) Q E s;rw[NS (by intro h;rw[hn,R9] at h;cases h)];exact Nc hQ))
def JW (K:HD)(a:Nn):It:=
 ⟨λi H=>∃ xs x,bI K H a xs/\xs[i]?=some x,λi H x H'=>H'=H/\∀ xs,bI K H a xs->xs[i]?=some x,λi H=>∃ xs,bI K H a xs/\xs.length<=i⟩
def KI (K:HD)(a:Nn):It:=
 ⟨λi H=>∃ xs x,cW K H a xs/\xs[i]?=some x,λi H x H'=>H'=H/\∀ xs,cW K H a xs->xs[i]?=some x,λi H=>∃ xs,cW K H a xs/\xs.length<=i⟩
def Gv (lo:Int)(n:Nat):It:=⟨λi _=>i<n,λi H x H'=>H'=H/\x=.int (lo+i),λi _=>n<=i⟩
theorem BF {P:ND}{w:N6}{K:HD}{tg:Po}(a it:Nn):ug P w K tg (JW K a) [it] it (λi h=>h.IsListIter it a i) where
 mem:=by simp
 obj:=λi h st b hb=>by
  have e:b=it:=by simpa using hb
  subst e;obtain⟨o,e,c,d⟩:=st;exact⟨o,e,λv z=>by rw[d] at z;cases z⟩
 keep:=λi h h' st k=>st.at λo e=>k it (by simp) o e
 item:=by
  intro X hP hw hK hc i pins s σ H E I hf st hg;subst hP hw hK;obtain⟨xs,x,hq,hx⟩:=hg;obtain⟨its,rv,p,hz⟩:=I.list hq;obtain⟨u,hu,ru⟩:=rv.get hx;obtain⟨f0,f1,f2,f3,f4,f5⟩:=hf it (by simp);refine wpAny_pyNext_list_item st p.isList (x:=u) (by simpa using hu) λh' st' sb=>?_
  have I1:aD X pins σ H { s with heap:=h' }:=I.turned (t':=s.toks) (λb o hb e=>(sb.2 b hb).trans e) f0 f1 f3 f4 f5;obtain⟨o,e,c,d⟩:=id st';exact⟨u,rfl,zM (s:={ s with heap:=h' }) e c d (by decide) ⟨x,H,I1,ru,⟨rfl,λys hy=>by rw[I.list_inj hy hq];exact hx⟩,st',λb hb=>(hf b hb).1⟩⟩
 done:=by
  intro X hP hw hK hc i pins s σ H E I hf st hg;subst hP hw hK;obtain⟨xs,hq,hx⟩:=hg;obtain⟨its,rv,p,hz⟩:=I.list hq;obtain⟨f0,f1,f2,f3,f4,f5⟩:=hf it (by simp);have hl:=rv.length;exact wpAny_pyNext_list_end (I.ok.hd hc) st p.isList (by simp;lia) λh' eb=>⟨rfl,I.turned (t':=s.toks) (λb o hb e=>eb b o hb e) f0 f1 f3 f4 f5⟩
 self:=λ_ _ _ _ _ st h=>wpAny_pyIter_listiter st h
theorem yK {P:ND}{w:N6}{K:HD}{tg:Po}(a it:Nn):ug P w K tg (KI K a) [it] it (λi h=>h.IsTupleIter it a i) where
 mem:=by simp
 obj:=λi h st b hb=>by
  have e:b=it:=by simpa using hb
  subst e;obtain⟨o,e,c,d⟩:=st;exact⟨o,e,λv z=>by rw[d] at z;cases z⟩
 keep:=λi h h' st k=>st.at λo e=>k it (by simp) o e
 item:=by
  intro X hP hw hK hc i pins s σ H E I hf st hg;subst hP hw hK;obtain⟨xs,x,hq,hx⟩:=hg;obtain⟨its,rv,p,hz⟩:=I.tuple hq;obtain⟨u,hu,ru⟩:=rv.get hx;obtain⟨f0,f1,f2,f3,f4,f5⟩:=hf it (by simp);refine wpAny_pyNext_tuple_item st (show s.heap.IsTuple a its.toArray from p) (x:=u) (by simpa using hu) λh' st' sb=>?_
  have I1:aD X pins σ H { s with heap:=h' }:=I.turned (t':=s.toks) (λb o hb e=>(sb.2 b hb).trans e) f0 f1 f3 f4 f5;obtain⟨o,e,c,d⟩:=id st';exact⟨u,rfl,zM (s:={ s with heap:=h' }) e c d (by decide) ⟨x,H,I1,ru,⟨rfl,λys hy=>by rw[I.tuple_inj hy hq];exact hx⟩,st',λb hb=>(hf b hb).1⟩⟩
 done:=by
  intro X hP hw hK hc i pins s σ H E I hf st hg;subst hP hw hK;obtain⟨xs,hq,hx⟩:=hg;obtain⟨its,rv,p,hz⟩:=I.tuple hq;obtain⟨f0,f1,f2,f3,f4,f5⟩:=hf it (by simp);have hl:=rv.length;exact wpAny_pyNext_tuple_end (I.ok.hd hc) st (show s.heap.IsTuple a its.toArray from p) (by simp;lia) λh' eb=>⟨rfl,I.turned (t':=s.toks) (λb o hb e=>eb b o hb e) f0 f1 f3 f4 f5⟩
 self:=λ_ _ _ _ _ st h=>wpAny_pyIter_tupleiter st h
theorem yb {P:ND}{w:N6}{K:HD}{tg:Po}(it:Nn)(lo:Int)(n:Nat):ug P w K tg (Gv lo n) [it] it (λi h=>IsRangeIter h it (lo+(i:Nat)*1) ((n:Int)-(i:Nat)) 1) where
 mem:=by simp
 obj:=λi h st b hb=>by
  have e:b=it:=by simpa using hb
  subst e;exact⟨_,st,λv z=>by
   have z':Data.fields _=Data.cell v:=z;cases z'⟩
 keep:=λi h h' st k=>k it (by simp) _ st
 item:=by
  intro X hP hw hK hc i pins s σ H E I hf st hg;subst hP hw hK;obtain⟨f0,f1,f2,f3,f4,f5⟩:=hf it (by simp);have W:=Walks.range (prog:=X.prog) (w:=X.w) (I.ok.hd hc) it lo 1 n;refine W.item i s _ _ hg st λv h' tk hv st' kk=>?_
  obtain⟨t,rfl⟩:=hv;have I1:aD X pins σ H { s with heap:=h',toks:=tk }:=I.turned (λb o hb e=>kk b o (by simpa using hb) e) f0 f1 f3 f4 f5;refine⟨_,rfl,zM (s:={ s with heap:=h',toks:=tk }) (n:="range_iterator") st' rfl rfl (by decide) ⟨.int (lo+i),H,I1,⟨t,?_⟩,⟨rfl,rfl⟩,st',λb hb=>(hf b hb).1⟩⟩;rw[Int.mul_one]
 done:=by
  intro X hP hw hK hc i pins s σ H E I hf st hg;subst hP hw hK;obtain⟨f0,f1,f2,f3,f4,f5⟩:=hf it (by simp);exact wpAny_pyNext_range_end (I.ok.hd hc) st (by have:n<=i:=hg;lia) λh' eb=>⟨rfl,I.turned (t':=s.toks) (λb o hb e=>eb b o hb e) f0 f1 f3 f4 f5⟩
 self:=λ_ _ _ _ _ st h=>wpAny_pyIter_rangeiter st h
section
variable {X:Cx}{tg:Po}
theorem C5 {lo hi:Int}{tk:Nat} (I:aD X pins σ H s) (h1:-(2 ^ 62) <= lo) (h2:lo < 2 ^ 62) (h3:-(2 ^ 62) <= hi) (h4:hi < 2 ^ 62)
  (q:R (Gv lo (hi-lo).toNat) H):Nu (NI X.prog X.w) X.A (W9 (.ref s.heap.objs.size)) (ML X pins σ tg R) E { s with heap:=s.heap.push { cls:=.type "range",data:=.fields #[.int lo t,.int hi u,.int 1 v] },toks:=tk }:=by
 refine wpAny_pyIter_range (IsRange.new ..) (small_one h1 h2 h3 h4) ?_;have I1:aD X pins σ H { s with heap:=s.heap.push { cls:=.type "range",data:=.fields #[.int lo t,.int hi u,.int 1 v] },toks:=tk }:=I.kept λb o e=>Na _ e
 refine⟨(s.heap.push { cls:=.type "range",data:=.fields #[.int lo t,.int hi u,.int 1 v] }).objs.size,[(s.heap.push { cls:=.type "range",data:=.fields #[.int lo t,.int hi u,.int 1 v] }).objs.size],_,_,H,rfl,
  I1.kept (t':=tk) λb o e=>Na _ e,yb _ lo (hi-lo).toNat,?_,λb hb=>?_,q⟩
 ·have e1:lo+((0:Nat):Int)*1=lo:=by simp
  have e2:(((hi-lo).toNat:Nat):Int)-((0:Nat):Int)=Builtin.Range.rangeSize lo hi 1:=by rw[V2];split<;>lia
  show IsRangeIter _ _ (lo+((0:Nat):Int)*1) ((((hi-lo).toNat:Nat):Int)-((0:Nat):Int)) 1;rw[e1,e2];exact Ng _ rfl
 ·have e:b=(s.heap.push { cls:=.type "range",data:=.fields #[.int lo t,.int hi u,.int 1 v] }).objs.size:=by simpa using hb
  subst e;exact I1.fpOk (Nj _) (I1.hok.fresh (Nj _))
def KM (ta:TA):TI:=λσ H R=>ta σ H λvs H1=>∃ j:Int,vs=[.int j]/\-(2^62)<=j/\j<2^62/\R (Gv 0 j.toNat) H1
theorem b8 (hg:Gl X "range")(hm:X.mg "range"=none)(ha:WA X [a] ta)(hs:NG [a] X.env=[(false,QT a X.env)]:=by rfl):WI X tg (.Call (.Name "range" p) [a] [] pos) (KM ta):=by
 have ha:=ha.go;refine⟨?_⟩;intro pins s σ H R I h;refine Call_ (iE I hg hm boot_range (Pg (bM (ha pos pins s σ H _ I h) λus s1 ⟨vs,H1,I1,r1,q1⟩=>?_) hs rfl));obtain⟨j,e,q1,q2,q⟩:=q1;subst e;cases r1 with
 |cons r rr=>
  cases rr;obtain⟨t,rfl⟩:=r;exact call_range_1 (C5 I1 (by lia) (by lia) q1 q2 (by simpa using q))
def Mo (wi:TI)(g:TG)(tb:TS):TS:=λD σ H=>wi σ H λJ H1=>∃ W:Nat->Nat->St->Hp->Prop,(∃ m,W 0 m σ H1)/\∀ i m σ H,W i m σ H ->
 (J.stop i H/\D.nx σ H)\/(J.go i H/\∃ N:St->Hp->Prop,(∀ σ' H',N σ' H'->∃ m',m'<m/\W (i+1) m' σ' H')/\∀ x H',J.yld i H x H'->g x σ H' λσ2 H2=>tb { D with nx:=N,ct:=N,bk:=D.nx } σ2 H2)
def iT (fp:List Nn)(h:OZ):List (Nn×Obj):=fp.filterMap λb=>(h.get? b).map λo=>(b,o)
theorem eU (hb:b∈fp)(e:h.get? b=some o):(b,o)∈iT fp h:=OX.mpr ⟨b,hb,by rw[e];rfl⟩
theorem ny (hp:p∈iT fp h):p.1∈fp/\h.get? p.1=some p.2:=by
 obtain⟨b,hb,e⟩:=OX.mp hp;cases q:h.get? b with
 |none=>rw[q] at e;cases e
 |some o=>
  rw[q] at e;have e':(b,o)=p:=Nb e;subst e';exact⟨hb,q⟩
theorem aD.pinned (I:aD X pins σ H s)(hf:∀ b∈fp,l4 X pins H b)(ho:∀ b∈fp,∃ o,s.heap.get? b=some o/\∀ v,o.data≠.cell v):aD X (pins++iT fp s.heap) σ H s:=
 I.pins_of λp hp=>(Ou.mp hp).elim (λz=>I.pin p (Ny _ z)) λz=>by
  obtain⟨hb,e⟩:=ny z;obtain⟨f0,f1,f2,_⟩:=hf p.1 hb;obtain⟨o,e',d⟩:=ho p.1 hb;rw[e] at e';cases e';exact⟨e,f0,f1,f2,d⟩
theorem aD.unpinned (I:aD X (pins++pl) σ H s):aD X pins σ H s:=I.pins_of λp hp=>I.pin p (Ny _ (OI _ hp))
theorem dn (hp:PassesOwn (NI X.prog X.w) X.A X.env X.xe) (hc:X.calm=true) (hi:WI X tg iter wi) (hg:WG X tg g) (hb:cO X body tb)
  (hs:∀ x,OQ iter X.env x=pure x:=by intro _;rfl):WS X (.For tg iter body [] pos) (Mo wi g tb):=by
 have hi:=hi.go;have hg:=hg.go;have hb:=hb.go;refine⟨?_⟩;intro pins s σ H D I h;refine wpAny_For (bM (hi pins s σ H _ I h) λv s1 h1=>bM h1 λitv s2 h2=>?_) hs;obtain⟨it,fp,tn,J,H2,e,I2,T,st2,f2,W,⟨m0,w0⟩,iC⟩:=h2;subst e;have stat:∀ {H':Hp},(∀ b∈fp,H' b=none)->∀ b∈fp,l4 X pins H' b:=λhn b hb=>⟨hn b hb,(f2 b hb).2⟩
 refine codeAny_forLoop_any (λn s'=>∃ i σ' H',aD X pins σ' H' s'/\tn i s'.heap/\(∀ b∈fp,H' b=none)/\W i n σ' H') ?_ m0 ⟨0,σ,H2,I2,st2,λb hb=>(f2 b hb).1,w0⟩;rintro n s3 ⟨i,σ3,H3,I3,st3,fr3,w3⟩;rcases iC i n σ3 H3 w3 with ⟨stop,qn⟩|⟨go,N,hN,step⟩
 ·refine Qr hp (bM (T.done X rfl rfl rfl hc i pins s3 σ3 H3 X.xe I3 (stat fr3) st3 stop) λr s4 ⟨hr,I4⟩=>?_);subst hr;exact RO ⟨σ3,H3,I4,qn⟩
 ·refine Qr hp (bM (T.item X rfl rfl rfl hc i pins s3 σ3 H3 X.xe I3 (stat fr3) st3 go) λr s4 ⟨u,hr,h4⟩=>?_);subst hr;refine Qr hp (bM h4 λ_ s5 ⟨x,H5,I5,r5,y5,st5,fr5⟩=>?_);have I5':=I5.pinned (stat fr5) (T.obj _ _ st5);refine Qr hp (bM (hg _ s5 σ3 H5 x u _ I5' r5 (step x H5 y5)) λ_ s6 ⟨σ6,H6,I6,q6⟩=>?_);refine Qr hp (bM (hb _ s6 σ6 H6 _ I6 q6) λf s7 q7=>?_);have again:∀ {σ7:St}{H7:Hp},aD X (pins++iT fp s5.heap) σ7 H7 s7->N σ7 H7->∃ m,m<n/\∃ i σ' H',aD X pins σ' H' s7/\tn i s7.heap/\(∀ b∈fp,H' b=none)/\W i m σ' H':=λ{σ7 H7} I7 n7=>by
   obtain⟨m',hm,w7⟩:=hN σ7 H7 n7;refine⟨m',hm,i+1,σ7,H7,I7.unpinned,T.keep _ _ _ st5 λb hb o e=>(I7.pin (b,o) (Ny _ (Ny _ (eU hb e)))).1,λb hb=>?_,w7⟩;obtain⟨o,e,d⟩:=T.obj _ _ st5 b hb;exact(I7.pin (b,o) (Ny _ (Ny _ (eU hb e)))).2.1
  cases f with
  |next=>obtain⟨σ7,H7,I7,n7⟩:=q7;exact again I7 n7
  |cont=>obtain⟨σ7,H7,I7,n7⟩:=q7;exact again I7 n7
  |brk=>obtain⟨σ7,H7,I7,q7⟩:=q7;exact⟨σ7,H7,I7.unpinned,q7⟩
  |ret v=>obtain⟨x7,σ7,H7,I7,r7,q7⟩:=q7;exact⟨x7,σ7,H7,I7.unpinned,r7,q7⟩
end
theorem DJ {K:HD}{a:Nn}{xs:List V}{g:TG}{tb:TS}{D:nQ}{σ:St}{H:Hp} (Pv:Nat->St->Hp->Prop) (h0:Pv 0 σ H) (hl:∀ i σ H,i <= xs.length->Pv i σ H->bI K H a xs)
  (hs:∀ i x σ H,xs[i]?=some x->Pv i σ H->g x σ H λσ2 H2=>tb { D with nx:=Pv (i+1),ct:=Pv (i+1),bk:=D.nx } σ2 H2)(hd:∀ σ H,Pv xs.length σ H->D.nx σ H):
  ∃ W:Nat->Nat->St->Hp->Prop,(∃ m,W 0 m σ H)/\∀ i m σ H,W i m σ H ->
   ((JW K a).stop i H/\D.nx σ H)\/((JW K a).go i H/\∃ N:St->Hp->Prop,(∀ σ' H',N σ' H'->∃ m',m'<m/\W (i+1) m' σ' H')/\∀ x H',(JW K a).yld i H x H'->g x σ H' λσ2 H2=>tb { D with nx:=N,ct:=N,bk:=D.nx } σ2 H2):=by
 refine⟨λi m σ H=>m=xs.length-i/\i<=xs.length/\Pv i σ H,⟨xs.length,by simp,Om _,h0⟩,?_⟩;rintro i m σ H ⟨rfl,hi,p⟩;have q:=hl i σ H hi p
 by_cases hlt:i<xs.length
 ·refine .inr ⟨⟨xs,xs[i],q,by simp[hlt]⟩,Pv (i+1),λσ' H' p'=>⟨xs.length-(i+1),by lia,rfl,hlt,p'⟩,λx H' y=>?_⟩;obtain⟨e,y⟩:=y;subst e;exact hs i x σ _ (y xs q) p
 ·have e:i=xs.length:=by lia
  subst e;exact .inl ⟨⟨xs,q,Nj _⟩,hd σ H p⟩
theorem E_ {K:HD}{a:Nn}{xs:List V}{g:TG}{tb:TS}{D:nQ}{σ:St}{H:Hp} (Pv:Nat->St->Hp->Prop) (h0:Pv 0 σ H) (hl:∀ i σ H,i <= xs.length->Pv i σ H->cW K H a xs)
  (hs:∀ i x σ H,xs[i]?=some x->Pv i σ H->g x σ H λσ2 H2=>tb { D with nx:=Pv (i+1),ct:=Pv (i+1),bk:=D.nx } σ2 H2)(hd:∀ σ H,Pv xs.length σ H->D.nx σ H):
  ∃ W:Nat->Nat->St->Hp->Prop,(∃ m,W 0 m σ H)/\∀ i m σ H,W i m σ H ->
   ((KI K a).stop i H/\D.nx σ H)\/((KI K a).go i H/\∃ N:St->Hp->Prop,(∀ σ' H',N σ' H'->∃ m',m'<m/\W (i+1) m' σ' H')/\∀ x H',(KI K a).yld i H x H'->g x σ H' λσ2 H2=>tb { D with nx:=N,ct:=N,bk:=D.nx } σ2 H2):=by
 refine⟨λi m σ H=>m=xs.length-i/\i<=xs.length/\Pv i σ H,⟨xs.length,by simp,Om _,h0⟩,?_⟩;rintro i m σ H ⟨rfl,hi,p⟩;have q:=hl i σ H hi p
 by_cases hlt:i<xs.length
 ·refine .inr ⟨⟨xs,xs[i],q,by simp[hlt]⟩,Pv (i+1),λσ' H' p'=>⟨xs.length-(i+1),by lia,rfl,hlt,p'⟩,λx H' y=>?_⟩;obtain⟨e,y⟩:=y;subst e;exact hs i x σ _ (y xs q) p
 ·have e:i=xs.length:=by lia
  subst e;exact .inl ⟨⟨xs,q,Nj _⟩,hd σ H p⟩
theorem iO {lo:Int}{n:Nat}{g:TG}{tb:TS}{D:nQ}{σ:St}{H:Hp} (Pv:Nat->St->Hp->Prop) (h0:Pv 0 σ H)
  (hs:∀ i σ H,i<n->Pv i σ H->g (.int (lo+i)) σ H λσ2 H2=>tb { D with nx:=Pv (i+1),ct:=Pv (i+1),bk:=D.nx } σ2 H2)(hd:∀ σ H,Pv n σ H->D.nx σ H):
  ∃ W:Nat->Nat->St->Hp->Prop,(∃ m,W 0 m σ H)/\∀ i m σ H,W i m σ H ->
   ((Gv lo n).stop i H/\D.nx σ H)\/((Gv lo n).go i H/\∃ N:St->Hp->Prop,(∀ σ' H',N σ' H'->∃ m',m'<m/\W (i+1) m' σ' H')/\∀ x H',(Gv lo n).yld i H x H'->g x σ H' λσ2 H2=>tb { D with nx:=N,ct:=N,bk:=D.nx } σ2 H2):=by
 refine⟨λi m σ H=>m=n-i/\i<=n/\Pv i σ H,⟨n,by simp,Om _,h0⟩,?_⟩;rintro i m σ H ⟨rfl,hi,p⟩
 by_cases hlt:i<n
 ·refine .inr ⟨hlt,Pv (i+1),λσ' H' p'=>⟨n-(i+1),by lia,rfl,hlt,p'⟩,λx H' y=>?_⟩;obtain⟨e,y⟩:=y;subst e y;exact hs i σ _ hlt p
 ·have e:i=n:=by lia
  subst e;exact .inl ⟨Nj _,hd σ H p⟩
abbrev R2:=V->V->Hp->VK->Prop
def j7 (X:Cx)(f:Nd->Nd->Sem Nd)(r:R2):Prop:=
 ∀ (pins:List (Nn×Obj)) (s:Nh) (σ:St) (H:Hp) (x y:V) (v u:Nd) (Q:VK),aD X pins σ H s->bj x v->bj y u->r x y H Q ->
  Nu (NI X.prog X.w) X.A (f v u) (EP X pins σ Q) X.xe s
def LS (X:Cx)(f:Nd->Sem Nd)(r:V->Hp->VK->Prop):Prop:=
 ∀ (pins:List (Nn×Obj)) (s:Nh) (σ:St) (H:Hp) (x:V) (v:Nd) (Q:VK),aD X pins σ H s->bj x v->r x H Q ->
  Nu (NI X.prog X.w) X.A (f v) (EP X pins σ Q) X.xe s
def cq (X:Cx)(f:Nd)(r:List V->Hp->VK->Prop):Prop:=
 ∀ (pins:List (Nn×Obj)) (s:Nh) (σ:St) (H:Hp) (xs:List V) (us:List Nd) (Q:VK),aD X pins σ H s->aM xs us->r xs H Q ->
  Nu (NI X.prog X.w) X.A (call f us) (EP X pins σ Q) X.xe s
def KP (r:R2)(ta tb:TE):TE:=λσ H Q=>ta σ H λx H1=>tb σ H1 λy H2=>r x y H2 Q
def M8 (r:V->Hp->VK->Prop)(ta:TE):TE:=λσ H Q=>ta σ H λx H1=>r x H1 Q
inductive rI (C:Int->Int->Prop)(g:Int->Int->V)(x y:V)(H:Hp)(Q:VK):Prop
 |mk (i j:Int) (_:x=.int i) (_:y=.int j) (_:C i j) (_:Q (g i j) H)
inductive E2 (g:Int->Int->V)(x y:V)(H:Hp)(Q:VK):Prop
 |mk (i j:Int) (_:x=.int i) (_:y=.int j) (_:Q (g i j) H)
def rU (g:Int->V):V->Hp->VK->Prop:=λx H Q=>∃ i,x=.int i/\Q (g i) H
section
variable {X:Cx}{a b c:Po}{ta tb tc:TE}{pos:Pos}
theorem IT (ha:PE X a ta) (hb:PE X b tb) {pins:List (Nn × Obj)}{s:Nh}{σ:St}{H:Hp}{R:V->V->Hp->Prop} (I:aD X pins σ H s)
  (h:ta σ H λx H1=>tb σ H1 λy H2=>R x y H2){Q:Nd->Nh->Prop}{f:Nd->Nd->Sem Nd}
  (hf:∀ v u s2 x y H2,aD X pins σ H2 s2->bj x v->bj y u->R x y H2->Nu (NI X.prog X.w) X.A (f v u) Q X.xe s2):
  Nu (NI X.prog X.w) X.A (QT a X.env) (λv s₁=>Nu (NI X.prog X.w) X.A (QT b X.env) (λu s₂=>Nu (NI X.prog X.w) X.A (f v u) Q X.xe s₂) X.xe s₁) X.xe s:=by
 refine bM (ha pins s σ H _ I h) λv s1 ⟨x,H1,I1,r1,q1⟩=>?_
 refine bM (hb pins s1 σ H1 _ I1 q1) λu s2 ⟨y,H2,I2,r2,q2⟩=>?_
 exact hf v u s2 x y H2 I2 r1 r2 q2
theorem ar {op:Operator}{r:R2}(ho:j7 X (QW op) r)(ha:WE X a ta)(hb:WE X b tb):WE X (.BinOp a op b pos) (KP r ta tb):=by
 have ha:=ha.go;have hb:=hb.go;refine⟨?_⟩;intro pins s σ H Q I h;exact wpAny_BinOp (IT ha hb I h λv u s2 x y H2 I2 rx ry q=>ho pins s2 σ H2 x y v u Q I2 rx ry q)
theorem Co (ho:LS X (unaryOp op) r)(ha:WE X a ta):WE X (.UnaryOp op a pos) (M8 r ta):=by
 have ha:=ha.go;refine⟨?_⟩;intro pins s σ H Q I h;exact UnaryOp_ (bM (ha pins s σ H _ I h) λv s1 ⟨x,H1,I1,r1,q1⟩=>ho pins s1 σ H1 x v Q I1 r1 q1)
theorem LA {f:Nd->Nd->Sem Nd}{C:Int->Int->Prop}{g:Int->Int->Int}
  (rule:∀ (i j:Int) (t u:Tok) (s:Nh) (Q:Nd->Nh->Prop) (E:Nd->Nh->Prop),C i j->Q (.int (g i j) s.toks) { s with toks:=s.toks+1 }->Nu (NI X.prog X.w) X.A (f (.int i t) (.int j u)) Q E s):
  j7 X f (rI C λi j=>.int (g i j)):=by
 intro pins s σ H x y v u Q I rx ry h;obtain⟨i,j,rfl,rfl,hc,q⟩:=h;obtain⟨t,rfl⟩:=rx;obtain⟨t',rfl⟩:=ry;exact rule i j t t' s _ _ hc ⟨.int (g i j),H,I.tok _,⟨_,rfl⟩,q⟩
theorem KQ {f:Nd->Nd->Sem Nd}{g:Int->Int->Int}
  (rule:∀ (i j:Int) (t u:Tok) (s:Nh) (Q:Nd->Nh->Prop) (E:Nd->Nh->Prop),Q (.int (g i j) s.toks) { s with toks:=s.toks+1 }->Nu (NI X.prog X.w) X.A (f (.int i t) (.int j u)) Q E s):
  j7 X f (E2 λi j=>.int (g i j)):=by
 intro pins s σ H x y v u Q I rx ry h;obtain⟨i,j,rfl,rfl,q⟩:=h;obtain⟨t,rfl⟩:=rx;obtain⟨t',rfl⟩:=ry;exact rule i j t t' s _ _ ⟨.int (g i j),H,I.tok _,⟨_,rfl⟩,q⟩
theorem BD {f:Nd->Nd->Sem Nd}{g:Int->Int->Bool}
  (rule:∀ (i j:Int) (t u:Tok) (s:Nh) (Q:Nd->Nh->Prop) (E:Nd->Nh->Prop),Q (.bool (g i j)) s->Nu (NI X.prog X.w) X.A (f (.int i t) (.int j u)) Q E s):
  j7 X f (E2 λi j=>.bl (g i j)):=by
 intro pins s σ H x y v u Q I rx ry h;obtain⟨i,j,rfl,rfl,q⟩:=h;obtain⟨t,rfl⟩:=rx;obtain⟨t',rfl⟩:=ry;exact rule i j t t' s _ _ ⟨.bl (g i j),H,I,rfl,q⟩
def LZ (i j:Int):Prop:=0<=j/\j<=1000000/\i.natAbs<2^64
theorem fG:j7 X (QW .Add) (E2 λi j=>.int (i+j)):=KQ λ_ _ _ _ _ _ _ q=>add_int q
theorem cT:j7 X (QW .Sub) (E2 λi j=>.int (i-j)):=KQ λ_ _ _ _ _ _ _ q=>sub_int q
theorem jB:j7 X (QW .Mod) (rI (λ_ j=>0<j) λi j=>.int (i%j)):=LA λi j _ _ _ _ _ hc q=>by
 have h1:(0:Int)<j:=hc;exact mod_int' (by lia) (by rw[Int.fmod_eq_emod_of_nonneg i (by lia)];exact q)
theorem CS:j7 X (QW .Pow) (rI LZ λi j=>.int (i^j.toNat)):=LA λ_ _ _ _ _ _ _ hc q=>pow_int_small hc.1 hc.2.1 hc.2.2 q
theorem M1 {f:Nd->Sem Nd}{g:Int->Int}
  (rule:∀ (i:Int) (t:Tok) (s:Nh) (Q:Nd->Nh->Prop) (E:Nd->Nh->Prop),Q (.int (g i) s.toks) { s with toks:=s.toks+1 }->Nu (NI X.prog X.w) X.A (f (.int i t)) Q E s):
  LS X f (rU λi=>.int (g i)):=by
 intro pins s σ H x v Q I rx h;obtain⟨i,rfl,q⟩:=h;obtain⟨t,rfl⟩:=rx;exact rule i t s _ _ ⟨.int (g i),H,I.tok _,⟨_,rfl⟩,q⟩
theorem Ez:LS X (unaryOp .USub) (rU λi=>.int (-i)):=M1 λ_ _ _ _ _ q=>neg_int q
end
section
variable {X:Cx}{a b c:Po}{ta tb tc:TE}{pos:Pos}
theorem yh (I:aD X pins σ H s)(q:Q (.bl k) H)(e:k=k'):EP X pins σ Q (.bool k') s:=by
 subst e;exact⟨.bl k,H,I,rfl,q⟩
theorem zR:j7 X (Pk .Lt) (E2 λi j=>.bl (decide (i<j))):=BD λ_ _ _ _ _ _ _ q=>lt_int q
theorem zu:j7 X (Pk .LtE) (E2 λi j=>.bl (decide (i<=j))):=BD λ_ _ _ _ _ _ _ q=>le_int q
theorem CN:j7 X (Pk .Gt) (E2 λi j=>.bl (decide (j<i))):=BD λ_ _ _ _ _ _ _ q=>gt_int q
theorem KZ:j7 X (Pk .GtE) (E2 λi j=>.bl (decide (j<=i))):=BD λ_ _ _ _ _ _ _ q=>ge_int q
theorem Cd:j7 X (Pk .Is) (λx y H Q=>y=.non/\Q (.bl (decide (x=.non))) H):=by
 intro pins s σ H x y v u Q I rx ry h;obtain⟨rfl,q⟩:=h;cases ry;refine is_none_gen (yh I q ?_);cases x<;>first
  |(cases rx;rfl)
  |(obtain⟨t,rfl⟩:=rx;rfl)
theorem Fe:j7 X (Pk .IsNot) (λx y H Q=>y=.non/\Q (.bl (!decide (x=.non))) H):=by
 intro pins s σ H x y v u Q I rx ry h;obtain⟨rfl,q⟩:=h;cases ry;refine isnot_none_gen (yh I q ?_);cases x<;>first
  |(cases rx;rfl)
  |(obtain⟨t,rfl⟩:=rx;rfl)
theorem bh (b:Po)(h:op≠.In:=by decide)(h2:op≠.NotIn:=by decide):Ux op b=false:=by
 have e1:(op==CmpOp.In)=false:=by cases op<;>first|rfl|exact absurd rfl h
 have e2:(op==CmpOp.NotIn)=false:=by cases op<;>first|rfl|exact absurd rfl h2
 cases b<;>simp[Ux,e1,e2]
theorem fq (ho:j7 X (Pk op) r)(ha:WE X a ta)(hb:WE X b tb)(hm:Ux op b=false):WE X (.Compare a [op] [b] pos) (KP r ta tb):=by
 have ha:=ha.go;have hb:=hb.go;refine⟨?_⟩;intro pins s σ H Q I h;exact wpAny_Compare1 (IT ha hb I h λv u s2 x y H2 I2 rx ry q=>ho pins s2 σ H2 x y v u Q I2 rx ry q) hm
def KB (t:TE):TT:=λσ H Q=>t σ H λx H'=>MN x H' Q
theorem aQ (ho:j7 X (Pk op) r)(ha:WE X a ta)(hb:WE X b tb)(hm:Ux op b=false):WT X (.Compare a [op] [b] pos) (KB (KP r ta tb)):=by
 have ha:=ha.go;have hb:=hb.go;refine⟨?_⟩;intro pins s σ H Q I h;refine wpAny_isTrue_Compare1 (bM (ha pins s σ H _ I h) λv s1 ⟨x,H1,I1,r1,q1⟩=>bM (hb pins s1 σ H1 _ I1 q1) λu s2 ⟨y,H2,I2,r2,q2⟩=>
  bM (ho pins s2 σ H2 x y v u _ I2 r1 r2 q2) λc s3 ⟨z,H3,I3,r3,k,e,q3⟩=>?_) hm
 subst e;cases r3;exact OT ⟨H3,I3,q3⟩
def Hd (r r':R2)(ta tb tc:TE):TE:=λσ H Q=>ta σ H λx H1=>tb σ H1 λy H2=>r x y H2 λz H3=>∃ k,z=.bl k /\
 (if k=true then tc σ H3 λw' H4=>r' y w' H4 Q else Q (.bl false) H3)
theorem tD (ho:j7 X (Pk op) r) (ho':j7 X (Pk op') r') (ha:WE X a ta) (hb:WE X b tb) (hc:WE X c tc)
  (hm:lastMarks [op,op'] [b,c]=false:=by with_unfolding_all rfl):WE X (.Compare a [op,op'] [b,c] pos) (Hd r r' ta tb tc):=by
 have ha:=ha.go;have hb:=hb.go;have hc:=hc.go;refine⟨?_⟩;intro pins s σ H Q I h;refine Compare_chain (bM (ha pins s σ H _ I h) λv s1 ⟨x,H1,I1,r1,q1⟩=>chain_link (bM (hb pins s1 σ H1 _ I1 q1) λu s2 ⟨y,H2,I2,r2,q2⟩=>
  bM (ho pins s2 σ H2 x y v u _ I2 r1 r2 q2) λd s3 ⟨z,H3,I3,r3,k,e,q3⟩=>?_)) hm
 subst e;cases r3;refine OT ?_;cases k with
 |false=>exact ite_ff ⟨.bl false,H3,I3,rfl,q3⟩
 |true=>exact ite_tt (chain_last (bM (hc pins s3 σ H3 _ I3 q3) λw' s4 ⟨z',H4,I4,r4,q4⟩=>ho' pins s4 σ H4 y z' u w' Q I4 r2 r4 q4))
theorem lN:(Nv:Nat)<2^63:=by rw[P5];decide
theorem fN (r:aM [x] us):∃ u,us=[u]/\bj x u:=by
 cases r with
 |cons r1 r2=>cases r2;exact⟨_,rfl,r1⟩
theorem jW (r:aM [x,y] us):∃ u w',us=[u,w']/\bj x u/\bj y w':=by
 cases r with
 |cons r1 r2=>
  cases r2 with
  |cons r3 r4=>cases r4;exact⟨_,_,rfl,r1,r3⟩
theorem vT:cq X (.builtin "abs") (λxs H Q=>∃ i,xs=[.int i]/\Q (.int (if i<0 then -i else i)) H):=by
 intro pins s σ H xs us Q I r h;obtain⟨i,rfl,q⟩:=h;obtain⟨u,rfl,t,rfl⟩:=fN r;exact call_abs_int λu tk=>⟨.int (if i<0 then -i else i),H,I.tok _,⟨_,rfl⟩,q⟩
theorem AN (hc:X.calm=true):cq X (.builtin "max") (λxs H Q=>∃ i j,xs=[.int i,.int j]/\Q (.int (if j>i then j else i)) H):=by
 intro pins s σ H xs us Q I r h;obtain⟨i,j,rfl,q⟩:=h;obtain⟨u,w',rfl,⟨t,rfl⟩,⟨t',rfl⟩⟩:=jW r;refine max_two_ints (I.ok.hd hc) λh' tk k=>⟨_,H,I.kept k,?_,q⟩
 by_cases hj:j>i
 ·rw[NZ hj,NZ hj];exact⟨_,rfl⟩
 ·rw[NS hj,NS hj];exact⟨_,rfl⟩
theorem om (hc:X.calm=true):cq X (.builtin "min") (λxs H Q=>∃ i j,xs=[.int i,.int j]/\Q (.int (if j<i then j else i)) H):=by
 intro pins s σ H xs us Q I r h;obtain⟨i,j,rfl,q⟩:=h;obtain⟨u,w',rfl,⟨t,rfl⟩,⟨t',rfl⟩⟩:=jW r;refine min_two_ints (I.ok.hd hc) λh' tk k=>⟨_,H,I.kept k,?_,q⟩
 by_cases hj:j<i
 ·rw[NZ hj,NZ hj];exact⟨_,rfl⟩
 ·rw[NS hj,NS hj];exact⟨_,rfl⟩
end
structure xQ (h:OZ)(x dx C:Nn)(mA:Str->Option Nd):Prop where
 obj:h.get? x=some (P3 C dx)
 ns:h.Ns1 dx mA
 ne:dx≠x
theorem BE {h:OZ}{dx:Nn}{mA:Str->Option Nd}(n:h.Ns1 dx mA):∃ od,h.get? dx=some od/\∀ name,TL name od=some (mA name):=by
 obtain⟨o,es,ep,ho,hd,hk,_,hm⟩:=n;refine⟨o,ho,λname=>?_⟩;have e:=hm name;unfold nsFind findBy at e;rw[<- Array.find?_toList] at e;unfold TL;rw[hd];dsimp only
 split
 ·rename_i y q
  rw[q] at e;exact Ql some e
 ·rename_i q
  rw[q] at e;have a:es.toList.any (·.refKey)=false:=by
   rw[List.any_eq_false];intro y hy;obtain⟨z,t,hkey⟩:=hk y (Array.mem_toList_iff.mp hy);simp[DictEntry.refKey,hkey]
  have a':¬ es.toList.any (·.refKey)=true:=by rw[a];exact NK
  rw[NS a'];exact Ql some e
theorem xQ.look (I:xQ h x dx C mA):∃ od,W_ h x (P3 C dx) C (some od)/\∀ name,TL name od=some (mA name):=
 let ⟨od,ho,hl⟩:=BE I.ns
 ⟨od,⟨I.obj,rfl,rfl,ho⟩,hl⟩
section
variable {prog:ND}{w:N6}{A:Oa}{E:Nd->Nh->Prop}{s:Nh}{K:HD}{x dx C f:Nn}{mA:Str->Option Nd}{name:Str}{v:Nd}
theorem Gd (X:K.In s.heap) (I:xQ s.heap x dx C mA) (hg:Rc K C name=true) (hh:R0 K C=true)
  (ha:NV K (.ref C) name=some none)(hv:mA name=some v)(hv':WL v=true)(h:Q v { s with toks:=s.toks+1 }):
  Nu (NI prog w) A (getAttr (.ref x) name expr) Q E s:=by
 obtain⟨od,J,hl⟩:=I.look;exact PySem.W.get_value X J (S7 hg).1 (PySem.W.findObj_own hh ha rfl (by rw[hl,hv])) hv' h
theorem C2 (X:K.In s.heap) (I:xQ s.heap x dx C mA) (hg:Rc K C name=true)
  (hf:NV K (.ref C) name=some (some (.ref f)))(ht:Qw K (.ref f)=true)(hv:mA name=none)(h:Q (.ref f,[.ref x]) s):
  Nu (NI prog w) A (getMethod (.ref x) name pl) Q E s:=by
 obtain⟨od,J,hl⟩:=I.look;exact PySem.W.method_fn X J (S7 hg).1 (S7 hg).2 hf (OH.mp ht) (by show(TL name od).map (·.isSome)=some false;rw[hl,hv];rfl) h
theorem Gu (X:K.In s.heap) (I:xQ s.heap x dx C mA)
  (hs:NV K (.ref C) "__setattr__"=some (some (.builtin "object.__setattr__")))(hp:T_ K C=true)(ht:U8 K C name=some none)(hh:R0 K C=true)
  (hw:WD mA ns)(hsz:ns.length<=Nv)
  (h:∀ h',xQ h' x dx C (λy=>if y=name then some v else mA y)->OL dx s.heap h'->Q () { s with heap:=h',toks:=s.toks+2 }):
  Nu (NI prog w) A (setAttr (.ref x) name v) Q E s:=by
 obtain⟨od,J,hl⟩:=I.look;refine PySem.W.set_plain X J hs (PySem.W.osa_open (s:={ s with toks:=s.toks+1 }) (r:=none) X J hp ht λb=>?_);obtain⟨cd,hc,hd'⟩:=PySem.W.any_some hh;have hx:s.heap.get? x=some ⟨.ref C,some dx,.plain,#[]⟩:=I.obj;refine KE (Nc (KE (KE (wpAny_loadPart hx (KE (PySem.W.Looks.here (s:={ s with toks:=s.toks+1 }) (PySem.W.looks_clsIn X hc) ?_))))));rw[hd'];refine Nc (a:=some dx) (KE (Nc (KE ?_)));refine wpAny_nsSet1 (s:={ s with toks:=s.toks+1 }) I.ns λh' hn2 hs2=>?_
 obtain⟨oD,esD,epD,hoD,hdD,hcD⟩:=hn2.count (PySem.Within.cons name v hw);refine KE (wpAny_lookBehind hoD (by rw[hdD];exact pastItsLine_dict (NP hcD (by rw[N5];lia))) ?_);exact Nc (h _ ⟨(hs2.2 _ (Px I.ne)).trans I.obj,hn2,I.ne⟩ hs2)
theorem DB (X:K.In s.heap) (hm:S6 K C=true)
  (hi:NV K (.ref C) "__init__"=some (some (.ref f)))(hf:PY K (.ref f)=some (.type "function"))
  (h:QB (NI prog w) (A.under (.builtin "type.__call__" ⟨.ref C::vs,kw⟩)) (.call (.ref f) ⟨.ref (s.heap.objs.size+1)::vs,kw⟩) (PySem.W.InitBack (s.heap.objs.size+1) R)
   { s with heap:=(s.heap.push O_).push (P3 C s.heap.objs.size) }) :
  QB (NI prog w) A (.call (.ref C) ⟨vs,kw⟩) R s:=by
 obtain⟨hh,g,d,t,os⟩:=s;exact PySem.W.make_core (PySem.W.makes_of X hm) (Q2 X hi) (λself=>PySem.W.bind_fn X self hf) (.inl rfl) h
end
def iI (f:Str)(v:V):List (Str×V)->List (Str×V)
 |[]=>[(f,v)]
 |(g,x)::r=>if g=f then(g,v)::r else(g,x)::iI f v r
theorem oH (f g:Str)(v:V):∀ fs:List (Str×V),(iI f v fs).lookup g=if g=f then some v else fs.lookup g
 |[]=>by
  show Rj g [(f,v)]=_
  by_cases h:g=f
  ·have hb:(g==f)=true:=OH.mpr h;simp only[Rj,hb,NZ h]
  ·have hb:(g==f)=false:=ON.mpr h;simp only[Rj,hb,NS h]
 |(k,x)::r=>by
  have ih:=oH f g v r;rw[show iI f v ((k,x)::r)=(if k=f then(k,v)::r else(k,x)::iI f v r) from rfl]
  by_cases hk:k=f
  ·rw[NZ hk]
   by_cases h:g=k
   ·have hb:(g==k)=true:=OH.mpr h;simp only[Rj,hb,NZ (h.trans hk)]
   ·have hb:(g==k)=false:=ON.mpr h;simp only[Rj,hb,NS (λe:g=f=>h (e.trans hk.symm))]
  ·rw[NS hk]
   by_cases h:g=k
   ·have hb:(g==k)=true:=OH.mpr h;simp only[Rj,hb,NS (λe:g=f=>hk (h.symm.trans e))]
   ·have hb:(g==k)=false:=ON.mpr h;simp only[Rj,hb];exact ih
theorem nX (f:Str)(v:V):∀ fs:List (Str×V),f∈(iI f v fs).map (·.1)/\∀ g,g∈fs.map (·.1)->g∈(iI f v fs).map (·.1)
 |[]=>⟨by simp[iI],λg h=>by simp at h⟩
 |(k,x)::r=>by
  obtain⟨i1,i2⟩:=nX f v r;rw[show iI f v ((k,x)::r)=(if k=f then(k,v)::r else(k,x)::iI f v r) from rfl]
  by_cases hk:k=f
  ·rw[NZ hk];subst hk;exact⟨by simp,λg h=>by simpa using h⟩
  ·rw[NS hk];refine⟨?_,λg h=>?_⟩
   ·rw[NE];exact Nr _ i1
   ·rw[NE] at h ⊢;rcases Nl.mp h with e|e
    ·exact Nl.mpr (.inl e)
    ·exact Nr _ (i2 g e)
theorem oN (f:Str)(v:V):∀ fs:List (Str×V),(iI f v fs).length<=fs.length+1
 |[]=>by simp[iI]
 |(k,x)::r=>by
  have ih:=oN f v r;rw[show iI f v ((k,x)::r)=(if k=f then(k,v)::r else(k,x)::iI f v r) from rfl]
  by_cases hk:k=f
  ·rw[NZ hk,N5,N5];lia
  ·rw[NS hk,N5,N5];lia
theorem kP.some_of (r:kP (some v) o):∃ u,o=some u/\bj v u:=by
 cases o with
 |none=>exact(show False from r).elim
 |some u=>exact⟨u,rfl,r⟩
theorem kP.none_of (r:kP none o):o=none:=by
 cases o with
 |none=>rfl
 |some u=>exact(show False from r).elim
theorem AA (r:bj v u):WL u=true:=by
 cases v with
 |non=>cases(show u=Od from r);rfl
 |bl b=>cases(show u=QE b from r);rfl
 |int i=>obtain⟨t,e⟩:=(show ∃ t,u=RH i t from r);cases e;rfl
 |str x=>obtain⟨t,e⟩:=(show ∃ t,u=Ua x t from r);cases e;rfl
 |byt b=>obtain⟨t,e⟩:=(show ∃ t,u=Value.bytes b t from r);cases e;rfl
 |flt b=>obtain⟨t,e⟩:=(show ∃ t,u=W6 b t from r);cases e;rfl
 |ref a=>cases(show u=NN a from r);rfl
 |ty n=>cases(show u=QV n from r);rfl
section
variable {P:ND}{w:N6}{H H':Hp}{h h':OZ}{a C dx:Nn}{fs fs':List (Str×V)}
theorem pR (hok:jl P w H h)(e:H a=some (.ins C dx fs)):∃ mA,xQ h a dx C mA/\(∀ f,kP (fs.lookup f) (mA f))/\WD mA (fs.map (·.1))/\fs.length<=1000/\H dx=some (.own a):=by
 obtain⟨d,z,ne,ob,mA,n,r,q⟩:=(show bA P w H h a (.ins C dx fs) from hok a _ e)
 exact⟨mA,⟨ob,n,ne⟩,r,q,z,d⟩
end
structure Iv (K:HD)(C:Nn):Prop where
 pg:Rc K C Str.empty=true
 hd:R0 K C=true
 po:T_ K C=true
 sa:NV K (.ref C) "__setattr__"=some (some (.builtin "object.__setattr__"))
theorem Iv.get {K:HD}{C:Nn}(c:Iv K C)(f:Str):Rc K C f=true:=c.pg
def rp (K:HD)(C:Nn)(f:Str):Prop:=NV K (.ref C) f=some none
theorem rp.taker {K:HD}{C:Nn}{f:Str}(n:rp K C f):U8 K C f=some none:=by
 unfold U8;rw[show NV K (.ref C) f=some none from n];rfl
structure Cp (K:HD)(C:Nn)(m:Str)(f:Nn):Prop where
 at_:NV K (.ref C) m=some (some (.ref f))
 fn:Qw K (.ref f)=true
 kp:NM K (.ref f)=true
section
variable {X:Cx}{pins:List (Nn×Obj)}{σ:St}{H:Hp}{s:Nh}{a C dx:Nn}{fs:List (Str×V)}{f:Str}{v:V}{A:Oa}{E:Nd->Nh->Prop}
theorem xW (I:aD X pins σ H s) (e:H a=some (.ins C dx fs)) (c:Iv X.K C) (n:rp X.K C f) (l:fs.lookup f=some v)
  (h:∀ u s',aD X pins σ H s'->bj v u->Q u s'):Nu (NI X.prog X.w) A (getAttr (.ref a) f b) Q E s:=by
 obtain⟨mA,O,r,_,_,_⟩:=pR I.hok e;obtain⟨u,hu,ru⟩:=kP.some_of (v:=v) (o:=mA f) (by rw[<- l];exact r f);exact Gd I.kIn O (c.get f) c.hd n hu (AA ru) (h u _ (I.tok _) ru)
theorem l_ (I:aD X pins σ H s) (e:H a=some (.ins C dx fs)) (c:Iv X.K C) (k:Cp X.K C m g) (l:fs.lookup m=none)
  (h:Q (.ref g,[.ref a]) s):Nu (NI X.prog X.w) A (getMethod (.ref a) m pl) Q E s:=by
 obtain⟨mA,O,r,_,_,_⟩:=pR I.hok e;have hn:mA m=none:=kP.none_of (by rw[<- l];exact r m);exact C2 I.kIn O (c.get m) k.at_ k.fn hn h
theorem yo (I:aD X pins σ H s) (e:H a=some (.ins C dx fs)) (c:Iv X.K C) (n:rp X.K C f) (hl:fs.length < 1000) (ry:bj y u)
  (h:∀ s',aD X pins σ (upd H a (.ins C dx (iI f y fs))) s'->Q () s'):Nu (NI X.prog X.w) A (setAttr (.ref a) f u) Q E s:=by
 obtain⟨mA,O,r,wi,_,ho⟩:=pR I.hok e;have hz:(fs.map (·.1)).length<=Nv:=by rw[Ni,P5];lia
 refine Gu I.kIn O c.sa c.po n.taker c.hd wi hz λh' O' sb=>h _ ?_
 have hd:∃ o,h'.get? dx=some o:=let ⟨o,_,_,e',_⟩:=O'.ns;⟨o,e'⟩
 refine I.write (x:=a) (e:=dx) (by rw[e];exact True.intro) (.inr ho) (λb q hb z=>(sb.2 b hb).trans z) hd ?_;refine⟨by rw[az O.ne];exact ho,?_,O.ne,O'.obj,_,O'.ns,λg=>?_,λg hg=>?_⟩
 ·have:=oN f y fs;lia
 ·show kP ((iI f y fs).lookup g) (if g=f then some u else mA g);rw[oH]
  by_cases q:g=f
  ·rw[NZ q,NZ q];exact ry
  ·rw[NS q,NS q];exact r g
 ·by_cases q:g=f
  ·rw[q];exact(nX f y fs).1
  ·refine(nX f y fs).2 g (wi g λz=>hg ?_);show(if g=f then some u else mA g)=none;rw[NS q];exact z
theorem aD.made (I:aD X pins σ H s):aD X pins σ (upd (upd H s.heap.objs.size (.own (s.heap.objs.size + 1))) (s.heap.objs.size + 1) (.ins C s.heap.objs.size []))
  { s with heap:=(s.heap.push O_).push (P3 C s.heap.objs.size) }:=by
 have e1:(s.heap.push O_).get? s.heap.objs.size=some O_:=Ng s.heap rfl;have e2:((s.heap.push O_).push (P3 C s.heap.objs.size)).get? (s.heap.objs.size+1)=some (P3 C s.heap.objs.size):=by
  have:=Ng (s.heap.push O_) (o:=P3 C s.heap.objs.size) rfl
  rwa [Oe] at this
 have e3:(s.heap.push O_).Ns s.heap.objs.size (λ_=>none):=⟨O_,#[],_,e1,rfl,(λe he=>absurd he (by simp)),λ_=>rfl⟩
 have I1:=I.laid (a:=s.heap.objs.size) (o:=.own (s.heap.objs.size+1)) (h':=s.heap.push O_) (t':=s.toks) (λb u q=>Na _ q) (Nj _) ⟨_,e1⟩;refine I1.laid (a:=s.heap.objs.size+1) (o:=.ins C s.heap.objs.size []) (t':=s.toks) (λb u q=>Na _ q) (Wv (Oe _ _)) ?_;have ne:s.heap.objs.size≠s.heap.objs.size+1:=NA (Rb _);refine⟨by rw[az ne,ai],Om _,ne,e2,λ_=>none,(Heap.Ns1.of_empty e3).at λo q=>Na _ q,λ_=>True.intro,λy hy=>absurd rfl hy⟩
theorem F0 (hb:Uw e f env (QT e env)=QT e env)
  (h:Nu (NI prog w) A (QT e env) (λo s₁=>Nu (NI prog w) A (getAttr o f true) Q E s₁) E s):Nu (NI prog w) A (QT (.Attribute e f pos) env) Q E s:=
 Attribute_any_ h (by rw[arm_eval_Attribute,hb])
end
section
variable {X:Cx}{pins:List (Nn×Obj)}{σ:St}{H:Hp}{s:Nh}{A:Oa}{E:Nd->Nh->Prop}{Q:Nd->Nh->Prop}{c:Nd}{b:Bool}
inductive lC (K:HD)(H:Hp):V->Nd->Prop where
 |non:lC K H .non (.type "NoneType")
 |bl (x:Bool):lC K H (.bl x) (.type "bool")
 |int (i:Int):lC K H (.int i) (.type "int")
 |str (x:Str):lC K H (.str x) (.type "str")
 |flt (x:UInt64):lC K H (.flt x) (.type "float")
 |lst {a:Nn}{xs:List V} (e:H a=some (.lst xs)):lC K H (.ref a) (.type "list")
 |frz {a:Nn}{o:Obj}{xs:List V} (e:H a=some (.frz o (.lst xs))):lC K H (.ref a) (.type "list")
 |tup {a:Nn}{xs:List V} (e:H a=some (.tup xs)):lC K H (.ref a) (.type "tuple")
 |dK {a:Nn}{kvs:List (fb×V)} (e:H a=some (.dK kvs)):lC K H (.ref a) (.type "dict")
 |dT {a:Nn}{kvs:List (List fb×V)} (e:H a=some (.dT kvs)):lC K H (.ref a) (.type "dict")
 | ins {a C dx:Nn}{fs:List (Str × V)} (e:H a=some (.ins C dx fs)) (cl:Iv K C) (ha:NV K (.ref C) "__class__"=some (some (.builtin "object.__class__")))
   (hn:R1 K (.builtin "object.__class__") "__get__"=some (some (.builtin "getset_descriptor.__get__")))(htk:S8 K (.builtin "object.__class__")=some true)
   (hm:RF K C (.type "object")=some true):lC K H (.ref a) (.ref C)
theorem CF (I:aD X pins σ H s)(rx:bj x u)(ty:lC X.K H x t):∃ Z,PySem.W.KitX X.K u t Z/\Z s.heap/\u≠.builtin "__main__.__loader__#opaque":=by
 cases ty with
 |non=>cases(show u=Od from rx);exact⟨_,PySem.W.kitx_none,True.intro,λz=>nomatch z⟩
 |bl y=>cases(show u=QE y from rx);exact⟨_,PySem.W.kitx_bool,True.intro,λz=>nomatch z⟩
 |int i=>obtain⟨t,q⟩:=(show ∃ t,u=RH i t from rx);cases q;exact⟨_,PySem.W.kitx_int,True.intro,λz=>nomatch z⟩
 |str y=>obtain⟨t,q⟩:=(show ∃ t,u=Ua y t from rx);cases q;exact⟨_,PySem.W.kitx_str,True.intro,λz=>nomatch z⟩
 |flt y=>obtain⟨t,q⟩:=(show ∃ t,u=W6 y t from rx);cases q;exact⟨_,PySem.W.kitx_float,True.intro,λz=>nomatch z⟩
 |@lst a xs ea=>
  cases(show u=NN a from rx);obtain⟨_,_,n,_,h1⟩:=(show bA X.prog X.w H s.heap a (.lst xs) from I.hok a _ ea)
  exact⟨_,Wd,⟨_,h1,rfl⟩,λz=>nomatch z⟩
 |@frz a ob xs ea=>
  cases(show u=NN a from rx);obtain⟨_,_,_,n,_,h1⟩:=(show bA X.prog X.w H s.heap a (.frz ob (.lst xs)) from I.hok a _ ea)
  exact⟨_,Wd,⟨_,h1,rfl⟩,λz=>nomatch z⟩
 |@tup a xs ea=>
  cases(show u=NN a from rx);obtain⟨_,_,_,p⟩:=(show bA X.prog X.w H s.heap a (.tup xs) from I.hok a _ ea)
  obtain⟨o,h1,h2,_⟩:=p;exact⟨_,VS,⟨o,h1,h2⟩,λz=>nomatch z⟩
 |@dK a kvs ea=>
  cases(show u=NN a from rx);obtain⟨_,_,vs,_,p⟩:=(show bA X.prog X.w H s.heap a (.dK kvs) from I.hok a _ ea)
  obtain⟨o,es,ep,h1,h2,_⟩:=p;exact⟨_,Wc,⟨o,h1,h2.1⟩,λz=>nomatch z⟩
 |@dT a kvs ea=>
  cases(show u=NN a from rx);obtain⟨_,_,xs,_,o,es,ep,h1,h2,_⟩:=(show bA X.prog X.w H s.heap a (.dT kvs) from I.hok a _ ea)
  exact⟨_,Wc,⟨o,h1,h2.1⟩,λz=>nomatch z⟩
 |@ins a C dx fs ea cl ha hn htk hm=>
  cases(show u=NN a from rx);obtain⟨mA,O,_⟩:=pR I.hok ea;obtain⟨od,J,_⟩:=O.look;exact⟨_,(PySem.W.kitx_own (cl.get _) cl.hd ha hn htk hm),J,λz=>nomatch z⟩
theorem nH (I:aD X pins σ H s) (rx:bj x u) (ty:lC X.K H x t) (e:O4 X.K t c=some b) (h:∀ tk,Q (.bool b) { s with toks:=tk }) :
  Nu (NI X.prog X.w) A (call (.builtin "isinstance") [u,c]) Q E s:=by
 obtain⟨Z,a,b,c⟩:=CF I rx ty;exact U7 a I.kIn b e c h
end
structure Room (k:Nat)(A:Oa):Prop where
 hd:A.handled=none
 dp:A.depth+3*k+5<recursionLimit
 un:A.units+16*k+200<cLine
theorem Room.mono {j k:Nat}(r:Room k A)(h:j<=k):Room j A:=⟨r.hd,by have:=r.dp;lia,by have:=r.un;lia⟩
theorem Room.deeper {k:Nat}(r:Room (k+1) A)(env:Env):Room k (A.deeper env):=
 ⟨r.hd,by have:=r.dp;show A.depth+1+3*k+5<_;lia,by have:=r.un;show A.units+3+16*k+200<_;lia⟩
theorem yR {A:Oa}{C:Nn}{us:List Nd}{kw:List (Str×Nd)}:(A.under (.builtin "type.__call__" ⟨.ref C::us,kw⟩)).depth=A.depth+1:=by
 first|rfl|simp[Wl,Code.weight,Code.isCreation,Code.isGuard,Code.isCaller,Code.frames,Wo,guardIds]
theorem yQ {A:Oa}{C:Nn}{us:List Nd}{kw:List (Str×Nd)}:(A.under (.builtin "type.__call__" ⟨.ref C::us,kw⟩)).units=A.units+1:=by
 first|rfl|simp[Wl,Code.cUnits,Code.frames,Wo]
theorem Room.make {k:Nat}(r:Room (k+1) A)(C:Nn)(us:List Nd)(kw:List (Str×Nd)):Room k (A.under (.builtin "type.__call__" ⟨.ref C::us,kw⟩)):=
 ⟨r.hd,by have:=r.dp;rw[yR];lia,by have:=r.un;rw[yQ];lia⟩
theorem Room.depth {k:Nat}(r:Room k A):A.depth<recursionLimit:=by have:=r.dp;lia
theorem Room.units {k:Nat}(r:Room k A):A.units+64<cLine:=by have:=r.un;lia
def AY:TA:=λ_ H Q=>Q [] H
def tL (ta:TE)(tr:TA):TA:=λσ H Q=>ta σ H λx H1=>tr σ H1 λxs H2=>Q (x::xs) H2
section
variable {X:Cx}{e:Po}{es:List Po}{te:TE}{t:TA}{pos:Pos}
theorem uL:PA X [] AY:=λ_ _ _ _ H Q I h=>Calls.spliced_nil ⟨[],H,I,.nil,h⟩
theorem pT (ha:PE X e te)(hr:PA X es t)(hs:NG (e::es) X.env=(false,QT e X.env)::NG es X.env:=by rfl):PA X (e::es) (tL te t):=by
 intro pos pins s σ H Q I h;rw[hs];show Nu _ _ (spliced ((false,QT e X.env)::Q0 pos (NG es X.env))) _ _ s;refine Calls.spliced_cons (bM (ha pins s σ H _ I h) λu s1 ⟨x,H1,I1,r1,q1⟩=>?_);exact bM (hr pos pins s1 σ H1 _ I1 q1) λus s2 ⟨xs,H2,I2,r2,q2⟩=>⟨x::xs,H2,I2,.cons r1 r2,q2⟩
def LN (t:TA):TE:=λσ H Q=>t σ H λxs H1=>xs.length<=Nv/\∀ p,H1 p=none->Q (.ref p) (upd H1 p (.tup xs))
def LM (t:TA):TE:=λσ H Q=>t σ H λxs H1=>xs.length<=Nv/\∀ p,H1 p=none->Q (.ref p) (upd H1 p (.lst xs))
theorem aX {x1}(h:WA X es t):WE X (.Tuple es x1 pos) (LN t):=by
 have h:=h.go;refine⟨?_⟩;intro pins s σ H Q I hq;refine wpAny_Tuple_spliced (bM (h pos pins s σ H _ I hq) λus s1 ⟨xs,H1,I1,r,z,q⟩=>⟨by rw[<- r.length];exact z,?_⟩);have hf:H1 s1.heap.objs.size=none:=I1.hok.fresh (Nj _);refine⟨.ref s1.heap.objs.size,upd H1 s1.heap.objs.size (.tup xs),I1.laid (t':=s1.toks) (λb u e=>Na _ e) (Nj _) ?_,rfl,q _ hf⟩;exact⟨z,us,r,⟨_,Ng _ rfl,rfl,_,rfl⟩⟩
theorem aV (h:WA X es t):WE X (.List es pos) (LM t):=by
 have h:=h.go;refine⟨?_⟩;intro pins s σ H Q I hq;refine wpAny_List_spliced (bM (h pos pins s σ H _ I hq) λus s1 ⟨xs,H1,I1,r,z,q⟩=>⟨by rw[<- r.length];exact z,?_⟩);have hf:H1 s1.heap.objs.size=none:=I1.hok.fresh (Nj _);refine⟨.ref s1.heap.objs.size,upd H1 s1.heap.objs.size (.lst xs),I1.laid (t':=s1.toks) (λb u e=>Na _ e) (Nj _) ?_,rfl,q _ hf⟩;exact⟨z,us,0,r,Ng _ rfl⟩
end
abbrev Sp:=List V->Hp->VK->XK->Prop
abbrev jy:=List Env->Hp->Nh->XK->Nd->Nh->Prop
structure yT (P:ND)(w:N6)(K:HD)(mg:Str->Option Nd)(base:OZ)(A:Oa)(outer:List Env)(s:Nh)(H:Hp):Prop where
 frames:A.frames=some outer
 mod:Mod K mg base
 bs:∀ b o,base.get? b=some o->s.heap.get? b=some o/\H b=none
 bsz:base.objs.size<=s.heap.objs.size
 funs:s.heap.FunFrames base outer
 frf:∀ b∈kH outer,H b=none
 hok:jl P w H s.heap
 bare:UV s.gens
def CE (outer:List Env)(P:ND)(w:N6)(H:Hp)(s:Nh)(Q:VK)(u:Nd)(s':Nh):Prop:=
 ∃ v H',s'.os=s.os/\UV s'.gens/\Un (kH outer) [] H H' s.heap s'.heap/\jl P w H' s'.heap/\bj v u/\Q v H'
def CR (CX:jy)(outer:List Env)(P:ND)(w:N6)(H:Hp)(s:Nh)(Q:VK)(E:XK)(r:Result)(s':Nh):Prop:=
 match r with
 |.ok (.ret u)=>CE outer P w H s Q u s'
 |.ok _=>False
 |.error e=>CX outer H s E e s'
structure gt (P:ND)(w:N6)(K:HD)(mg:Str->Option Nd)(base:OZ)(CX:jy)(k:Nat)(f:Nn)(fd:OK)(ps:List Str)(sp:Sp):Prop where
 len:∀ vs H Q E,sp vs H Q E->vs.length=ps.length
 run:∀ (A:Oa) (outer:List Env) (s:Nh) (H:Hp) (args:Args) (us:List Nd) (vs:List V) (Q:VK) (E:XK),Room k A->yT P w K mg base A outer s H->Vu s fd args (ps.zip us)->aM vs us->sp vs H Q E ->
  QB (NI P w) A (.call (.ref f) args) (CR CX outer P w H s Q E) s
theorem gt.mono {P:ND}{w:N6}{K:HD}{mg:Str->Option Nd}{base:OZ}{CX:jy}{j k:Nat}{f:Nn}{fd:OK}{ps:List Str}{sp:Sp} (F:gt P w K mg base CX j f fd ps sp) (h:j <= k) :
  gt P w K mg base CX k f fd ps sp:=⟨F.len,λA outer s H args us vs Q E hr=>F.run A outer s H args us vs Q E (hr.mono h)⟩
theorem yT.make {P:ND}{w:N6}{K:HD}{mg:Str->Option Nd}{base:OZ}{A:Oa}{outer:List Env}{s:Nh}{H:Hp} (e:yT P w K mg base A outer s H) (C:Nn) (us:List Nd) (kw:List (Str × Nd)) :
  yT P w K mg base (A.under (.builtin "type.__call__" ⟨.ref C::us,kw⟩)) outer s H:=⟨by first|exact e.frames|(simpa [Wl,Code.envs,Wo,pushEnvs] using e.frames),e.mod,e.bs,e.bsz,e.funs,e.frf,e.hok,e.bare⟩
section
variable {X:Cx}{pins:List (Nn×Obj)}{σ:St}{H:Hp}{s s':Nh}
theorem aD.env0 (I:aD X pins σ H s):yT X.prog X.w X.K X.mg X.base X.A X.stack s H:=
 ⟨I.ok.frames,I.ok.mod,I.bs,NP I.ok.bsz I.sz,I.stack,I.stkFree,I.hok,I.bare⟩
theorem aD.after (I:aD X pins σ H s)(h:CE X.stack X.prog X.w H s Q u s'):EP X pins σ Q u s':=by
 obtain⟨v,H',os,bare,un,hok,r,q⟩:=h;obtain⟨hh,g,d,t,os'⟩:=s';obtain rfl:os'=s.os:=os;exact⟨v,H',I.call (h':=hh) (g':=g) (d':=d) (t':=t) (ch:=[]) un hok bare (λb z=>absurd z (by simp)),r,q⟩
end
def ES (sp:Sp)(dvs:List V)(E:XK)(t:TA):TE:=λσ H Q=>t σ H λvs H1=>sp (vs++dvs) H1 Q E
def ki (K:HD)(fd:OK)(ps:List Str)(ds:List Nd):Prop:=
 ∀ (s:Nh) (us:List Nd),K.In s.heap->(us++ds).length=ps.length->Vu s fd ⟨us,[]⟩ (ps.zip (us++ds))
theorem ki.all {K:HD}{fd:OK}{ps:List Str}(h:∀ us:List Nd,us.length=ps.length->OE fd ⟨us,[]⟩=pure (ps.zip us)):ki K fd ps []:=λs us _ hl=>by
 rw[SR] at hl ⊢;exact .of_eq (h us hl)
def mY (CX:jy)(X:Cx)(E:XK):Prop:=∀ (pins:List (Nn×Obj)) (σ:St) (H:Hp) (s:Nh) (e:Nd) (s':Nh),aD X pins σ H s->CX X.stack H s E e s'->X.xe e s'
section
variable {X:Cx}{CX:jy}{k:Nat}{f C:Nn}{fd:OK}{ps:List Str}{sp:Sp}{dvs:List V}{ds:List Nd}{E:XK}{x m:Str}{p pos apos:Pos}{e o:Po}{es:List Po}{ta:TE}{t:TA}
theorem uJ (F:gt X.prog X.w X.K X.mg X.base CX k f fd ps sp) (hr:Room k X.A) (hb:ki X.K fd ps ds) (hd:aM dvs ds) (hx:mY CX X E)
  (I:aD X pins σ H s)(r:aM vs us)(h:sp (vs++dvs) H Q E):Nu (NI X.prog X.w) X.A (call (.ref f) us) (EP X pins σ Q) X.xe s:=by
 have r2:aM (vs++dvs) (us++ds):=r.append hd;have hl:(us++ds).length=ps.length:=by rw[<- r2.length];exact F.len _ _ _ _ h
 refine QX (Rn (F.run X.A X.stack s H ⟨us,[]⟩ (us++ds) (vs++dvs) Q E hr I.env0 (hb s us I.kIn hl) r2 h) λr s' hq=>?_);cases r with
 |error e=>exact hx pins σ H s e s' I hq
 |ok fl=>
  cases fl with
  |ret u=>exact I.after hq
  |next=>exact O7 hq
  |brk=>exact O7 hq
  |cont=>exact O7 hq
theorem Gh (F:gt X.prog X.w X.K X.mg X.base CX k f fd ps sp) (hr:Room k X.A) (hg:Gl X x) (hm:X.mg x=some (.ref f)) (hk:NM X.K (.ref f)=true) (hb:ki X.K fd ps ds) (hd:aM dvs ds) (hx:mY CX X E)
  (ha:PA X (e::es) t)(hdb:(x==("__debug__":Str))=false:=by decide)(he:NG (e::es) X.env=(false,QT e X.env)::NG es X.env:=by rfl)(hpl:(Q0 pos (NG es X.env)).any (·.1)=false:=by rfl):
  PE X (.Call (.Name x p) (e::es) [] pos) (ES sp dvs E t):=by
 intro pins s σ H Q I h;refine OA (eG I hg hm ?_ hdb);refine QI (h₀:=X.base) I.ok.mod.kin hk (bM (ha pos pins s σ H _ I h) λus s1 ⟨vs,H1,I1,r,q⟩=>⟨I1.kIn,?_⟩) he hpl;exact uJ F hr hb hd hx I1 r q
structure Mk (K:HD)(C f:Nn):Prop where
 makes:S6 K C=true
 init:NV K (.ref C) "__init__"=some (some (.ref f))
 fn:Qw K (.ref f)=true
 kp:NM K (.ref C)=true
theorem Cq (M:Mk X.K C f) (F:gt X.prog X.w X.K X.mg X.base CX k f fd ps sp) (hr:Room (k + 1) X.A) (hb:ki X.K fd ps ds) (hd:aM dvs ds)
  (hx:mY CX X E)(I:aD X pins σ H s)(r:aM vs us)
  (h:∀ x dx,H x=none->H dx=none->dx≠x->sp (.ref x::(vs++dvs)) (upd (upd H dx (.own x)) x (.ins C dx [])) (λv H2=>v=.non/\Q (.ref x) H2) E):
  Nu (NI X.prog X.w) X.A (call (.ref C) us) (EP X pins σ Q) X.xe s:=by
 have hq:=h (s.heap.objs.size+1) s.heap.objs.size (I.hok.fresh (VA _)) (I.hok.fresh (Nj _)) (NA (Rb _));have I2:=aD.made (C:=C) I;have r2:aM (V.ref (s.heap.objs.size+1)::(vs++dvs)) (NN (s.heap.objs.size+1)::(us++ds)):=.cons rfl (r.append hd);have hl:(NN (s.heap.objs.size+1)::us++ds).length=ps.length:=by
  have e:=r2.length;rw[F.len _ _ _ _ hq] at e;exact e.symm
 refine QX (DB (f:=f) I.kIn M.makes M.init (OH.mp M.fn) (Rn (F.run _ X.stack _ _ ⟨NN (s.heap.objs.size+1)::us,[]⟩ (NN (s.heap.objs.size+1)::(us++ds)) _ _ E (hr.make C us [])
  (I2.env0.make C us []) (hb _ (NN (s.heap.objs.size+1)::us) I2.kIn hl) r2 hq) λr s' hq'=>?_))
 cases r with
 |error e=>exact hx pins σ _ _ e s' I2 hq'
 |ok fl=>
  cases fl with
  |ret u=>
   obtain⟨v,H',I3,rv,ev,q3⟩:=I2.after hq';subst ev;exact⟨rv,⟨V.ref (s.heap.objs.size+1),H',I3,rfl,q3⟩⟩
  |next=>exact O7 hq'
  |brk=>exact O7 hq'
  |cont=>exact O7 hq'
end
def PK (X:Cx)(kws:List TH)(t:TA):Prop:=
 ∀ (pos:Pos) (pins:List (Nn×Obj)) (s:Nh) (σ:St) (H:Hp) (Q:List V->Hp->Prop),aD X pins σ H s->t σ H Q->Nu (NI X.prog X.w) X.A (evalAll ((Qk pos (OW kws X.env)).map (·.2))) (AP X pins σ Q) X.xe s
structure WK (X:Cx)(e:List TH)(t:TA):Prop where
 go:PK X e t
section
variable {X:Cx}{CX:jy}{k:Nat}{f C:Nn}{fd:OK}{ps ks:List Str}{sp:Sp}{E:XK}{x m:Str}{p pos apos kpos:Pos}{e o:Po}{es:List Po}{kws:List TH}{te ta:TE}{t tk:TA}{nm:Option Str}
theorem iW:WK X [] AY:=by
 exact⟨λ_ _ _ _ H Q I h=>wpAny_evalAll_nil ⟨[],H,I,.nil,h⟩⟩
theorem fu (ha:WE X e te)(hr:WK X kws t):WK X (⟨nm,e,kpos⟩::kws) (tL te t):=by
 have ha:=ha.go;have hr:=hr.go;refine⟨?_⟩;intro pos pins s σ H Q I h;show Nu _ _ (evalAll ((do let v <- QT e X.env;Vc pos;pure v)::(Qk pos (OW kws X.env)).map (·.2))) _ _ s;refine wpAny_evalAll_cons (KE (bM (ha pins s σ H _ I h) λu s1 ⟨x,H1,I1,r1,q1⟩=>KE (PP (Nc ?_))));exact bM (hr pos pins s1 σ H1 _ I1 q1) λus s2 ⟨xs,H2,I2,r2,q2⟩=>⟨x::xs,H2,I2,.cons r1 r2,q2⟩
structure iZ (K:HD)(fd:OK)(ps ks:List Str)(g:List Nd->List Nd->List Nd)(gV:List V->List V->List V):Prop where
 to:∀ (s:Nh) (us ws:List Nd),K.In s.heap->(g us ws).length=ps.length->Vu s fd ⟨us,ks.zip ws⟩ (ps.zip (g us ws))
 rel:∀ {vs:List V}{us:List Nd}{zs:List V}{ws:List Nd},aM vs us->aM zs ws->aM (gV vs zs) (g us ws)
def C9 (sp:Sp)(gV:List V->List V->List V)(E:XK)(t tk:TA):TE:=λσ H Q=>t σ H λvs H1=>tk σ H1 λzs H2=>sp (gV vs zs) H2 Q E
variable {g:List Nd->List Nd->List Nd}{gV:List V->List V->List V}
theorem zT (F:gt X.prog X.w X.K X.mg X.base CX k f fd ps sp) (hr:Room k X.A) (hb:iZ X.K fd ps ks g gV) (hx:mY CX X E)
  (I:aD X pins σ H s)(r:aM vs us)(rz:aM zs ws)(h:sp (gV vs zs) H Q E):Nu (NI X.prog X.w) X.A (call (.ref f) us (ks.zip ws)) (EP X pins σ Q) X.xe s:=by
 have r2:=hb.rel r rz;have hl:(g us ws).length=ps.length:=by rw[<- r2.length];exact F.len _ _ _ _ h
 refine QX (Rn (F.run X.A X.stack s H ⟨us,ks.zip ws⟩ (g us ws) (gV vs zs) Q E hr I.env0 (hb.to s us ws I.kIn hl) r2 h) λr s' hq=>?_);cases r with
 |error e=>exact hx pins σ H s e s' I hq
 |ok fl=>
  cases fl with
  |ret u=>exact I.after hq
  |next=>exact O7 hq
  |brk=>exact O7 hq
  |cont=>exact O7 hq
theorem EG (F:gt X.prog X.w X.K X.mg X.base CX k f fd ps sp) (hr:Room k X.A) (hg:Gl X x) (hm:X.mg x=some (.ref f)) (hk:NM X.K (.ref f)=true) (hb:iZ X.K fd ps ks g gV) (hx:mY CX X E)
  (ha:PA X (e::es) t)(hkw:PK X kws tk)(hall:(Qk pos (OW kws X.env)).all (·.1.isSome)=true:=by rfl)(hks:(Qk pos (OW kws X.env)).filterMap (·.1)=ks:=by rfl)
  (hdb:(x==("__debug__":Str))=false:=by decide)(he:NG (e::es) X.env=(false,QT e X.env)::NG es X.env:=by rfl)
  (hpl:((Q0 pos (NG (e::es) X.env)).any (·.1)||(Qk pos (OW kws X.env)).any (·.1.isNone))=false:=by rfl):
  PE X (.Call (.Name x p) (e::es) kws pos) (C9 sp gV E t tk):=by
 intro pins s σ H Q I h;refine OA (eG I hg hm ?_ hdb);refine SZ (h₀:=X.base) I.ok.mod.kin hk hall (bM (ha pos pins s σ H _ I h) λus s1 ⟨vs,H1,I1,r,q⟩=>?_) hpl he;refine bM (hkw pos pins s1 σ H1 _ I1 q) λws s2 ⟨zs,H2,I2,rz,q2⟩=>⟨I2.kIn,?_⟩
 rw[hks];exact zT F hr hb hx I2 r rz q2
end
structure ay (N P:List Str)(sc:Q7):Prop where
 kind:sc.kind=.function
 co:sc.isCoroutine=false
 gen:sc.isGenerator=false
 nd:N.Nodup
 pre:N.take P.length=P
 par:∀ x∈P,sc.names.lookup x=some .local\/sc.names.lookup x=some .cell
 nofree:∀ y∈sc.names,y.2≠.free
theorem tu {kindOf:Str->Option QH}{x:Str}:∀ {binds:List (Str×Nd)}{m:Str->Option Nd},(∀ v,(x,v)∉binds)->bindL kindOf binds m x=m x
 |[],_,_=>rfl
 |(n,v)::r,m,h=>by
  unfold bindL;rw[tu λw hw=>h w (Nr _ hw)]
  split
  ·have:x≠n:=by rintro rfl;exact h v NC
   simp[this]
  ·rfl
theorem s_ {kindOf:Str->Option QH}{x:Str}:∀ {binds:List (Str×Nd)}{m:Str->Option Nd},(∀ v,(x,v)∉binds)->bindC kindOf binds m x=m x
 |[],_,_=>rfl
 |(n,v)::r,m,h=>by
  unfold bindC;rw[s_ λw hw=>h w (Nr _ hw)]
  split
  ·rfl
  ·have:x≠n:=by rintro rfl;exact h v NC
   simp[this]
theorem tE {kindOf:Str->Option QH}{x:Str}{v:Nd}:∀ {P:List Str}{vs:List Nd}{i:Nat}{m:Str->Option Nd},P.Nodup->P[i]?=some x->vs[i]?=some v->kindOf x=some .local ->
  bindL kindOf (P.zip vs) m x=some v
 |[],_,_,_,_,h,_,_=>by simp at h
 |_::_,[],_,_,_,_,h,_=>by simp at h
 |p::P,w::vs,0,m,nd,h1,h2,hk=>by
  simp at h1 h2;subst h1;subst h2;show bindL kindOf ((p,w)::P.zip vs) m p=_;unfold bindL;rw[tu λv hv=>(Pw.mp nd).1 (U2 hv).1,NZ hk];simp
 |p::P,w::vs,i+1,m,nd,h1,h2,hk=>by
  show bindL kindOf ((p,w)::P.zip vs) m x=_;unfold bindL;exact tE (i:=i) (Pw.mp nd).2 (by simpa using h1) (by simpa using h2) hk
theorem tQ {kindOf:Str->Option QH}{x:Str}{v:Nd}:∀ {P:List Str}{vs:List Nd}{i:Nat}{m:Str->Option Nd},P.Nodup->P[i]?=some x->vs[i]?=some v->kindOf x ≠ some .local ->
  bindC kindOf (P.zip vs) m x=some v
 |[],_,_,_,_,h,_,_=>by simp at h
 |_::_,[],_,_,_,_,h,_=>by simp at h
 |p::P,w::vs,0,m,nd,h1,h2,hk=>by
  simp at h1 h2;subst h1;subst h2;show bindC kindOf ((p,w)::P.zip vs) m p=_;unfold bindC;rw[s_ λv hv=>(Pw.mp nd).1 (U2 hv).1,NS hk];simp
 |p::P,w::vs,i+1,m,nd,h1,h2,hk=>by
  show bindC kindOf ((p,w)::P.zip vs) m x=_;unfold bindC;exact tQ (i:=i) (Pw.mp nd).2 (by simpa using h1) (by simpa using h2) hk
def f_ (N:List Str)(vs:List V):St:=vs.map some++Np (N.length-vs.length) none
def mi (CX:jy)(P:ND)(w:N6)(K:HD)(mg:Str->Option Nd)(base:OZ)(N:List Str)(qual:Str)(scope:Q7)(f:Nn)(cd:Nd)(A:Oa)(outer:List Env)(s:Nh)(H:Hp)(E:XK):Cx where
 prog:=P
 w:=w
 K:=K
 mg:=mg
 base:=base
 A:=A.deeper (envOfC qual scope s.heap.objs.size f cd)
 N:=N
 s₀:=s
 H₀:=H
 env:=envOfC qual scope s.heap.objs.size f cd
 outer:=outer
 stack:=envOfC qual scope s.heap.objs.size f cd::outer
 ex:=[]
 calm:=true
 fn:=λ_=>true
 pn:=[]
 xe:=λe s'=>Nu (NI P w) (A.deeper (envOfC qual scope s.heap.objs.size f cd)) (leaving (envOfC qual scope s.heap.objs.size f cd) e) (λ_ s''=>CX outer H s E e s'') (λe' s''=>CX outer H s E e' s'') s'
theorem wy {sc:Q7}{n:Nat}{x:Str}(h:sc.names.lookup x=some .cell):∃ c,(RI n sc.names []).lookup x=some c:=by
 have q:=QF sc.names n [] (.inl h);exact O9.mp q
theorem BM {CX:jy}{P:ND}{w:N6}{K:HD}{mg:Str->Option Nd}{base:OZ}{N ps:List Str}{qual:Str}{scope:Q7}{f:Nn}{cd:Nd}{A:Oa}{outer:List Env}{s s1:Nh}{H:Hp}{E:XK}{us:List Nd}{vs:List V}
  (S:ay N ps scope)(hd:A.handled=none)(e0:yT P w K mg base A outer s H)(hl:vs.length=ps.length)(r:aM vs us)
  (x:InCallC s s.heap.objs.size (bindL (envOfC qual scope s.heap.objs.size f cd).kindOf (ps.zip us) λ_=>none) (RI (s.heap.objs.size+1) scope.names []) (bindC (envOfC qual scope s.heap.objs.size f cd).kindOf (ps.zip us) λ_=>none) s1):
  aD (mi CX P w K mg base N qual scope f cd A outer s H E) [] (f_ N vs) H s1:=by
 have hpl:ps.length<=N.length:=by have:=Ql SV S.pre;rw[N8] at this;lia
 obtain⟨h1,tk,rfl,hk⟩:=x.done;have noA:∀ b:Nn,b∉(mi CX P w K mg base N qual scope f cd A outer s H E).ex:=λb z=>absurd (show b∈([]:List Nn) from z) (by simp)
 refine⟨⟨e0.mod,S.kind,rfl,rfl,Nj _,λy z c h1 h2=>?_,λy hy=>?_,λy c _ h=>?_,λ_=>hd,Around.frames_deeper e0.frames,.inr ⟨rfl,rfl⟩,λb z=>absurd z (noA b),e0.bs,e0.bsz,λb _ _=>noA b,λb z=>absurd z (noA b),e0.funs,e0.frf⟩,
  rfl,e0.bare,Un.kept hk,⟨_,x.toInCall.ns,λi y v h1 h2 h3=>?_⟩,λy c h=>⟨_,x.cell y c h⟩,e0.hok.fresh (Nj _),λy c h=>?_,λp hp=>absurd (show p∈([]:List (Nn×Obj)) from hp) (by simp),e0.hok.kept hk,?_⟩
 ·exact name_of_addr x.apart (Pp h1) (Pp h2)
 ·have hy:scope.names.lookup y=some .cell\/scope.names.lookup y=some .free:=hy;rcases hy with hy|hy
  ·exact wy hy
  ·exact absurd rfl (S.nofree _ (Pp hy))
 ·exact PV (x.above y c (Pp h))
 ·have hi:i<vs.length:=by
   unfold f_ at h2
   by_cases hi:i<vs.length
   ·exact hi
   ·rw[OU (by simpa using hi)] at h2;rw[Rx] at h2
    split at h2<;>cases h2
  have ha:vs[i]?=some v:=by
   unfold f_ at h2;rw[Pq (by simpa using hi),NB] at h2;cases e:vs[i]? with
   |none=>rw[e] at h2;cases h2
   |some a=>rw[e] at h2;cases h2;rfl
  obtain⟨u,hu,rv⟩:=r.get ha;have hp:ps[i]?=some y:=by
   rw[<- S.pre,List.getElem?_take_of_lt (by lia)];exact h1
  have ndP:ps.Nodup:=by rw[<- S.pre];exact S.nd.sublist (List.take_sublist _ _)
  refine⟨u,rv,?_⟩;rcases S.par y (NJ hp) with k|k
  ·exact .inl ⟨k,tE ndP hp hu k⟩
  ·obtain⟨c,e⟩:=wy (n:=s.heap.objs.size+1) k;refine .inr ⟨.inl k,c,e,?_⟩;have q:=x.cell y c e;rw[tQ ndP hp hu (by show scope.names.lookup y≠_;rw[k];decide)] at q;exact q
 ·exact e0.hok.fresh (PV (x.above y c (Pp h)))
 ·unfold f_;show _=N.length;rw[NL,Ni,U1];lia
theorem oG {CX:jy}{P:ND}{w:N6}{K:HD}{mg:Str->Option Nd}{base:OZ}{k:Nat}{f:Nn}{name qual:Str}{params:VE}{body:List Pr}{scope:Q7}{dV kV doc pm cdv ct oc:Nd}{an od:Option Nn}
  {osl:Array (Option Nd)}{N ps:List Str}{sp:Sp}(lk:K.lookup f=some ⟨oc,od,.func (NF name qual params body scope dV kV doc pm an cdv ct),osl⟩)(hcd:NU K cdv qual=true)(S:ay N ps scope)
  (len:∀ vs H Q E,sp vs H Q E->vs.length=ps.length)
  (bb:∀ (A:Oa) (outer:List Env) (s:Nh) (H:Hp) (vs:List V) (Q:VK) (E:XK),Room k (A.deeper (envOfC qual scope s.heap.objs.size f cdv))->sp vs H Q E ->
   ∃ t,xS (mi CX P w K mg base N qual scope f cdv A outer s H E) body t/\t { nx:=λ_ H'=>Q .non H',rt:=Q } (f_ N vs) H) :
  gt P w K mg base CX (k+1) f (NF name qual params body scope dV kV doc pm an cdv ct) ps sp:=by
 refine⟨len,λA outer s H args us vs Q E hr e0 hb r hsp=>?_⟩;have hl:=len _ _ _ _ hsp;have KX:K.In s.heap:=e0.mod.kin.keeps λb o e=>(e0.bs b o e).1
 have lim:s.heap.NoLimit:=e0.mod.nolimit.keeps λb o e=>(e0.bs b o e).1
 have hkind:∀ y∈ps.zip us,scope.names.lookup y.1=some .local\/(scope.names.lookup y.1=some .cell/\((RI (s.heap.objs.size+1) scope.names []).lookup y.1).isSome=true):=λ⟨n,v⟩ hy=>by
  rcases S.par n (U2 hy).1 with q|q
  ·exact .inl q
  ·exact .inr ⟨q,QF _ _ _ (.inl q)⟩
 refine codeAny_call_function hr.depth (KX _ _ lk) rfl S.co S.gen rfl (PySem.W.codeRec_of KX hcd) (hb _ _ _ _ ?_);refine wpAny_newFunctionEnv_cells S.kind hkind λenv he s1 x=>?_
 subst he;refine⟨lim.keeps x.toInCall.keep,codeAny_func ?_⟩;obtain⟨t,ht,hq⟩:=bb A outer s H vs Q E (hr.deeper _) hsp;have I:aD (mi CX P w K mg base N qual scope f cdv A outer s H E) [] (f_ N vs) H s1:=BM S hr.hd e0 hl r x;refine Oi (ht [] s1 (f_ N vs) H _ I hq) (λfl s' hs=>?_) λe s' hs=>hs
 have fin:∀ {σ':St}{H':Hp}{v:V}{u:Nd},aD (mi CX P w K mg base N qual scope f cdv A outer s H E) [] σ' H' s'->bj v u->Q v H'->CE outer P w H s Q u s':=
  λ{σ' H' v u} J rv q=>⟨v,H',J.os,J.bare,J.base,J.hok,rv,q⟩
 cases fl with
 |ret u=>
  obtain⟨v,σ',H',J,rv,q⟩:=hs;exact fin J rv q
 |next=>
  obtain⟨σ',H',J,q⟩:=hs;exact fin (v:=V.non) (u:=Od) J rfl q
 |brk=>
  obtain⟨_,_,_,q⟩:=hs;exact O7 q
 |cont=>
  obtain⟨_,_,_,q⟩:=hs;exact O7 q
section
variable {X:Cx}{x:Str}{p pos:Pos}{e:Po}{es:List Po}{t:TA}{id T:String}{r:List V->Hp->VK->Prop}
def MK (r:List V->Hp->VK->Prop)(t:TA):TE:=λσ H Q=>t σ H λvs H1=>r vs H1 Q
theorem ax (hc:cq X (.builtin id) r) (hg:Gl X x) (hm:X.mg x=none) (hv:Oh x=some (.builtin id)) (ha:WA X (e :: es) t) (hn:x ≠ "__name__":=by decide) (hdb:(x == ("__debug__":Str))=false:=by decide)
  (he:NG (e::es) X.env=(false,QT e X.env)::NG es X.env:=by rfl)(hpl:(Q0 pos (NG es X.env)).any (·.1)=false:=by rfl):WE X (.Call (.Name x p) (e::es) [] pos) (MK r t):=by
 have ha:=ha.go;refine⟨?_⟩;intro pins s σ H Q I h;refine OA (iE I hg hm hv ?_ hn hdb);exact PyProof.Rows.callWith_builtin1 (bM (ha pos pins s σ H _ I h) λus s1 ⟨vs,H1,I1,r1,q1⟩=>hc pins s1 σ H1 vs us Q I1 r1 q1) he hpl
theorem bN (hc:cq X (.type T) r) (hg:Gl X x) (hm:X.mg x=none) (hv:Oh x=some (.type T)) (ha:WA X (e :: es) t) (hn:x ≠ "__name__":=by decide) (hdb:(x == ("__debug__":Str))=false:=by decide)
  (he:NG (e::es) X.env=(false,QT e X.env)::NG es X.env:=by rfl)(hpl:(Q0 pos (NG es X.env)).any (·.1)=false:=by rfl):WE X (.Call (.Name x p) (e::es) [] pos) (MK r t):=by
 have ha:=ha.go;refine⟨?_⟩;intro pins s σ H Q I h;refine OA (iE I hg hm hv ?_ hn hdb);exact Pg (bM (ha pos pins s σ H _ I h) λus s1 ⟨vs,H1,I1,r1,q1⟩=>hc pins s1 σ H1 vs us Q I1 r1 q1) he hpl
end
end L2
namespace HT
open PySem PyProof.Rows
section
variable {prog:ND}{w:N6}{A:Oa}{E:Nd->Nh->Prop}{s:Nh}
theorem cat_tup (ht:IsTup s.heap t vs.toArray) (hb:IsTup s.heap b ws.toArray) (hv:vs ≠ [])
  (h1:ws=[]->Q (.ref t) s)(h2:ws≠[]->Q (.ref s.heap.objs.size) { s with heap:=s.heap.push { cls:=.type "tuple",data:=.seq (vs++ws).toArray } })
  (hsz:vs.length+ws.length<=Nv):Nu (NI prog w) A (QW .Add (.ref t) (.ref b)) Q E s:=by
 obtain⟨⟨cls,dd,data,sl⟩,ho,hc,n,hd⟩:=id ht;obtain⟨⟨cls2,dd2,data2,sl2⟩,ho2,hc2,n2,hd2⟩:=id hb;simp only at hc hd hc2 hd2;subst hc hd hc2 hd2;have e:vs.toArray++ws.toArray=(vs++ws).toArray:=by simp
 by_cases hw:ws=[]
 ·exact concat_meets ⟨_,ho,rfl⟩ ⟨_,ho2,rfl⟩ noFill_tuple_add seq_tuple_add UQ Ur (T8 _ _)
   (tuple_addW1 t b vs.toArray ws.toArray n n2 dd dd2 sl sl2 (by simpa using hv) (by simp[hw])) ⟨ho,ho2,h1 hw⟩
 ·refine concat_meets ⟨_,ho,rfl⟩ ⟨_,ho2,rfl⟩ noFill_tuple_add seq_tuple_add UQ Ur (T8 _ _)
   (tuple_addW2 t b vs.toArray ws.toArray n n2 dd dd2 sl sl2 (by simpa using hv) (by simpa using hw) (by rw[No,No];exact hsz)) ⟨ho,ho2,?_⟩
  rw[e];exact h2 hw
def sIx (n d:Nat):Option Int->Nat
 |none=>d
 |some v=>if v<0 then(v+(n:Int)).toNat else min v.toNat n
theorem IQ (n d:Nat)(hd:d<=n)(o:Option Int):sIx n d o<=n:=by
 cases o with
 |none=>exact hd
 |some v=>
  show(if v<0 then(v+(n:Int)).toNat else min v.toNat n)<=n
  by_cases hv:v<0
  ·rw[NZ hv];lia
  ·rw[NS hv];exact Nat.min_le_right _ _
theorem Ab (v:Int)(n d:Nat):(if v<0 then max (v+(n:Int)) 0 else min v (n:Int))=((sIx n d (some v):Nat):Int):=by
 show(if v<0 then max (v+(n:Int)) 0 else min v (n:Int))=(((if v<0 then(v+(n:Int)).toNat else min v.toNat n):Nat):Int)
 by_cases hv:v<0
 ·simp only[NZ hv];lia
 ·simp only[NS hv];lia
theorem yJ (lo hi:Option Int)(n:Nat):Q5 lo hi 1 (n:Int)=(((sIx n 0 lo:Nat):Int),((sIx n n hi:Nat):Int)):=by
 have h1:¬ ((1:Int)<0):=by lia
 unfold Q5;simp only[h1,Pl];refine Prod.ext ?_ ?_
 ·cases lo with
  |none=>rfl
  |some v=>exact Ab v n 0
 ·cases hi with
  |none=>rfl
  |some v=>exact Ab v n n
theorem yZ (i j:Nat):Qf (i:Int) (j:Int) 1=j-i:=by
 unfold Qf;have h1:(1:Int)>0:=by lia
 simp only[h1,PD,Int.ediv_one]
 split<;>lia
theorem rA (p:WY v o)(h:Q o s):Nu (NI prog w) A (Builtin.Slice.slicePartIndex v) Q E s:=by
 cases p with
 |none=>exact slicePart_none h
 |int i t=>exact slicePart_int h
theorem nG {sl:Nn}{vl vu:Nd}{lo hi:Option Int}{n:Nat}{Q:Int × Int × Nat->Nh->Prop} (hs:s.heap.IsSliceOf sl vl vu .none) (pl:WY vl lo) (pu:WY vu hi)
  (h:Q (((sIx n 0 lo:Nat):Int),1,sIx n n hi-sIx n 0 lo) s):Nu (NI prog w) A (Th (.ref sl) (pure (n:Int))) Q E s:=by
 obtain⟨os,hos,hcs,hds⟩:=id hs;unfold Th Builtin.Slice.sliceFields;refine KE (KE (N_ hos hds (x:=vl) rfl (KE (N_ hos hds (x:=vu) rfl (KE (N_ hos hds (x:=.none) rfl (Nc ?_)))))));refine KE (slicePart_none ?_);show Nu _ _ (if((1:Int)==0)=true then _ else _) _ _ s;rw[NS (by decide)];refine KE (rA pl (KE (rA pu (KE (Nc ?_)))));show Nu _ _ (match Q5 lo hi 1 (n:Int) with|(lo,hi)=>pure (lo,(1:Int),Qf lo hi 1)) _ _ s;rw[yJ lo hi n];show Nu _ _ (pure (((sIx n 0 lo:Nat):Int),(1:Int),Qf ((sIx n 0 lo:Nat):Int) ((sIx n n hi:Nat):Int) 1)) _ _ s;rw[yZ];exact Nc h
theorem Eo (xs:Array Nd)(i k:Nat):((OP k).filterMap λ(m:Nat)=>xs[((i:Int)+(m:Int)*1).toNat]?).toArray=((xs.toList.drop i).take k).toArray:=by
 have e:(λ(m:Nat)=>xs[((i:Int)+(m:Int)*1).toNat]?)=λm=>xs[i+m]?:=by
  funext m
  have:((i:Int)+(m:Int)*1).toNat=i+m:=by lia
  rw[this]
 rw[e];have:=pick_run xs i k;rw[VL] at this;have e2:((λx=>xs[x]?) ∘ λx=>i+x)=λm=>xs[i+m]?:=rfl
 rw[e2] at this;rw[this]
theorem getItem_tuple_cut {t sl:Nn}{items:Array Nd}{vl vu:Nd}{lo hi:Option Int}{Q:Nd->Nh->Prop} (ht:IsTup s.heap t items) (hs:s.heap.IsSliceOf sl vl vu .none) (pl:WY vl lo) (pu:WY vu hi)
  (hw:¬ (sIx items.size 0 lo=0/\sIx items.size items.size hi=items.size))
  (h:Q (.ref s.heap.objs.size) { s with heap:=s.heap.push { cls:=.type "tuple",data:=.seq ((items.toList.drop (sIx items.size 0 lo)).take (sIx items.size items.size hi-sIx items.size 0 lo)).toArray } })
  (hsz:items.size<=Nv):Nu (NI prog w) A (U' (.ref t) (.ref sl)) Q E s:=by
 have htake:sizeOk (.seq ((items.toList.drop (sIx items.size 0 lo)).take (sIx items.size items.size hi-sIx items.size 0 lo)).toArray):=by
  show((items.toList.drop (sIx items.size 0 lo)).take (sIx items.size items.size hi-sIx items.size 0 lo)).toArray.size<=Nv;rw[No,N8,UH,Oy];lia
 have hj:sIx items.size items.size hi<=items.size:=IQ _ _ (Nj _) hi;obtain⟨os,hos,hcs,hds⟩:=id hs;have hTs:s.TypeIs (.ref sl) "slice":=⟨os,hos,hcs⟩
 unfold U'
 try with_reducible refine Ox ?_
 first|refine KE (Nc ?_)|skip
 refine KE (wpAny_sequenceKey ht.typeIs (by decide) ?_);refine KE (N2 (name:=Oo "__getitem__") ht.typeIs PX
  (Oj PX ht.typeIs entry_tuple_getitem ?_ (args_tuple_getitem _ _)))
 show Nu _ _ (Ti (.ref t)>>=_) _ _ s;refine KE (tupleItemsOf_ ht ?_);refine KE (wpAny_typeOf hTs ?_);rw[NZ (by decide)];refine KE (nG hs pl pu ?_);have hno:¬ ((((sIx items.size 0 lo:Nat):Int)==0&&(1:Int)==1&&(sIx items.size items.size hi-sIx items.size 0 lo)==items.size)=true):=by
  intro q;rw[NO,NO] at q;have q1:((sIx items.size 0 lo:Nat):Int)=0:=eq_of_beq q.1.1;have q2:sIx items.size items.size hi-sIx items.size 0 lo=items.size:=eq_of_beq q.2;exact hw ⟨by lia,by lia⟩
 show Nu _ _ (if(((sIx items.size 0 lo:Nat):Int)==0&&(1:Int)==1&&(sIx items.size items.size hi-sIx items.size 0 lo)==items.size)=true then _ else _) _ _ s;rw[NS hno,Eo]
 first
  |exact KE (m:=Qm _) (N4 (Nc ⟨_,rfl,Nc h⟩) htake)
  |exact KE (m:=Qm _) (N4 (KE (Nc (Nc ⟨_,rfl,Nc h⟩))) htake)
  |exact KE (KE (m:=Qm _) (N4 (Nc (Nc ⟨_,rfl,Nc h⟩)) htake))
  |exact KE (KE (m:=Qm _) (N4 (Nc ⟨_,rfl,Nc h⟩) htake))
end
end HT
namespace L2
open PySem PySem.Spec PyProof.Rows
abbrev TO:=St->Hp->(Option Int->Hp->Prop)->Prop
def PO (X:Cx)(e:Option Po)(t:TO):Prop:=
 ∀ (pins:List (Nn×Obj)) (s:Nh) (σ:St) (H:Hp) (Q:Option Int->Hp->Prop),aD X pins σ H s->t σ H Q ->
  Nu (NI X.prog X.w) X.A (evalPart e X.env) (λu s'=>∃ o H',aD X pins σ H' s'/\WY u o/\Q o H') X.xe s
structure WO (X:Cx)(e:Option Po)(t:TO):Prop where
 go:PO X e t
def FK:TO:=λ_ H Q=>Q none H
def Kr (t:TE):TO:=λσ H Q=>t σ H λx H1=>∃ i,x=.int i/\Q (some i) H1
theorem qe:∀ {us:List Nd},aM (ns.map V.int) us->Ps us ns:=by
 induction ns with
 |nil=>intro us r;rw[PU] at r;cases r;exact .nil
 |cons n ns ih=>
  intro us r;rw[NE] at r;cases r with
  |cons r1 r2=>
   obtain⟨t,e⟩:=r1;subst e;exact .cons n t (ih r2)
section
variable {X:Cx}{e:Po}{te:TE}{lo hi:Option Po}{tl th:TO}{pos p2:Pos}
theorem ge:WO X none FK:=by
 refine⟨?_⟩;intro pins s σ H Q I h;rw[evalPart_none];exact Nc ⟨none,H,I,.none,h⟩
theorem gU (h:WE X e te):WO X (some e) (Kr te):=by
 have h:=h.go;refine⟨?_⟩;intro pins s σ H Q I hw;rw[evalPart_some];refine bM (h pins s σ H _ I hw) λu s1 ⟨x,H1,I1,r1,q1⟩=>?_
 obtain⟨i,rfl,q⟩:=q1;obtain⟨t,rfl⟩:=r1;exact⟨some i,H1,I1,.int i t,q⟩
def Ks (X:Cx)(r:V->Option Int->Option Int->Hp->VK->Prop):Prop:=
 ∀ (pins:List (Nn×Obj)) (s:Nh) (σ:St) (H:Hp) (x:V) (v vl vu:Nd) (lo hi:Option Int) (sl:Nn) (Q:VK),aD X pins σ H s->bj x v->s.heap.IsSliceOf sl vl vu .none->WY vl lo->WY vu hi->r x lo hi H Q ->
  ∃ T id,typeLookup (.type T) "__getitem__"=pure (some (.builtin id))/\s.TypeIs v T/\Nu (NI X.prog X.w) X.A (U' v (.ref sl)) (EP X pins σ Q) X.xe s
def MY (r:V->Option Int->Option Int->Hp->VK->Prop)(te:TE)(tl th:TO):TE:=λσ H Q=>te σ H λx H1=>tl σ H1 λl H2=>th σ H2 λu H3=>r x l u H3 Q
theorem eQ (hr:Ks X r)(he:WE X e te)(hl:WO X lo tl)(hu:WO X hi th):WE X (.Subscript e (.Slice lo hi none p2) pos) (MY r te tl th):=by
 have he:=he.go;have hl:=hl.go;have hu:=hu.go;refine⟨?_⟩;intro pins s σ H Q I h;refine We (bM (he pins s σ H _ I h) λv s1 ⟨x,H1,I1,r1,q1⟩=>?_);refine wpAny_Slice (bM (hl pins s1 σ H1 _ I1 q1) λvl s2 ⟨l,H2,I2,pl,q2⟩=>bM (hu pins s2 σ H2 _ I2 q2) λvu s3 ⟨u,H3,I3,pu,q3⟩=>?_);rw[evalPart_none];refine Nc ?_;have I4:aD X pins σ H3 { s3 with heap:=s3.heap.push { cls:=.type "slice",data:=.fields #[vl,vu,.none] } }:=I3.kept (t':=s3.toks) λb ob q=>Na _ q
 obtain⟨T,id,hT,ht,hg⟩:=hr pins { s3 with heap:=s3.heap.push { cls:=.type "slice",data:=.fields #[vl,vu,.none] } } σ H3 x v vl vu l u s3.heap.objs.size Q I4 r1 (Heap.IsSliceOf.new ..) pl pu q3;show Nu (NI X.prog X.w) X.A (V3 e (.Slice lo hi none p2) v (.ref s3.heap.objs.size)) (EP X pins σ Q) X.xe { s3 with heap:=s3.heap.push { cls:=.type "slice",data:=.fields #[vl,vu,.none] } };exact tail_any (ops:=[.ref s3.heap.objs.size,v]) ht hT hg (by with_unfolding_all rfl)
def qL (xs:List V)(lo hi:Option Int):List V:=(xs.drop (HT.sIx xs.length 0 lo)).take (HT.sIx xs.length xs.length hi-HT.sIx xs.length 0 lo)
theorem oP (xs:List V)(lo hi:Option Int):(qL xs lo hi).length<=xs.length:=by
 unfold qL;rw[N8,UH];lia
def KR (K:HD):V->Option Int->Option Int->Hp->VK->Prop:=λx lo hi H Q=>∃ a xs,x=.ref a/\cW K H a xs /\
 ¬ (HT.sIx xs.length 0 lo=0/\HT.sIx xs.length xs.length hi=xs.length)/\∀ p,H p=none->Q (.ref p) (upd H p (.tup (qL xs lo hi)))
theorem Jg:Ks X (KR X.K):=by
 intro pins s σ H x v vl vu lo hi sl Q I rx hs pl pu h;obtain⟨a,xs,rfl,hx,hw,q⟩:=h;cases rx;obtain⟨its,r,ht,hz⟩:=I.tuple hx;have hlen:its.toArray.size=xs.length:=by rw[No];exact r.length.symm
 refine⟨"tuple",_,PX.lookup,ht.typeIs,?_⟩;refine HT.getItem_tuple_cut ht hs pl pu (by rw[hlen];exact hw) ?_ (by rw[hlen];exact hz);rw[hlen];refine⟨.ref s.heap.objs.size,_,I.laid (t':=s.toks) (o:=.tup (qL xs lo hi)) (λb ob q=>Na _ q) (Nj _) ?_,rfl,q _ (I.hok.fresh (Nj _))⟩;exact⟨NP (oP xs lo hi) hz,_,(r.drop (HT.sIx xs.length 0 lo)).take (HT.sIx xs.length xs.length hi-HT.sIx xs.length 0 lo),WZ _ _⟩
def GL (K:HD):R2:=λx y H Q=>∃ a b xs ys,x=.ref a/\y=.ref b/\cW K H a xs/\cW K H b ys/\xs≠[]/\xs.length+ys.length<=Nv /\
 (ys=[]->Q (.ref a) H)/\(ys≠[]->∀ p,H p=none->Q (.ref p) (upd H p (.tup (xs++ys))))
theorem aM.nil_iff (r:aM xs us):us=[]↔xs=[]:=by
 cases r with
 |nil=>simp
 |cons _ _=>simp
theorem FW:j7 X (QW .Add) (GL X.K):=by
 intro pins s σ H x y v u Q I rx ry h;obtain⟨a,b,xs,ys,rfl,rfl,ha,hb,hx,hz,q1,q2⟩:=h;cases rx;cases ry;obtain⟨its,r1,p1,_⟩:=I.tuple ha;obtain⟨its2,r2,p2,_⟩:=I.tuple hb;refine HT.cat_tup p1 p2 (λz=>hx (r1.nil_iff.mp z)) (λz=>⟨.ref a,H,I,rfl,q1 (r2.nil_iff.mp z)⟩) (λz=>?_) (by rw[<- r1.length,<- r2.length];exact hz);refine⟨.ref s.heap.objs.size,_,I.laid (t':=s.toks) (o:=.tup (xs++ys)) (λb ob q=>Na _ q) (Nj _) ?_,rfl,q2 (λw=>z (r2.nil_iff.mpr w)) _ (I.hok.fresh (Nj _))⟩;exact⟨by rw[NL];exact hz,_,r1.append r2,WZ _ _⟩
end
def EX (n:Nat)(i:Int):Option Nat:=if 0<=i then(if i<n then some i.toNat else none) else if -(n:Int)<=i then some (i+n).toNat else none
def EW {α:Type}(xs:List α)(i:Int):Option α:=(EX xs.length i).bind λj=>xs[j]?
theorem At {n:Nat}{i:Int}{j:Nat}(h:EX n i=some j):seqIndex? i n=some j/\j<n/\-(n:Int)<=i/\i<n:=by
 unfold EX at h
 by_cases h0:0<=i
 ·rw[NZ h0] at h
  by_cases h1:i<n
  ·rw[NZ h1] at h;have e:i.toNat=j:=Nb h;exact⟨by rw[seqIndex_of h0 h1,e],by lia,by lia,h1⟩
  ·rw[NS h1] at h;cases h
 ·rw[NS h0] at h
  by_cases h1:-(n:Int)<=i
  ·rw[NZ h1] at h;have e:(i+n).toNat=j:=Nb h;exact⟨by rw[seqIndex_neg (by lia) h1,e],by lia,h1,by lia⟩
  ·rw[NS h1] at h;cases h
theorem vt {i:Int}(h:EW xs i=some v):∃ j,seqIndex? i xs.length=some j/\xs[j]?=some v/\j<xs.length/\-(xs.length:Int)<=i/\i<xs.length:=by
 unfold EW at h;cases e:EX xs.length i with
 |none=>rw[e] at h;cases h
 |some j=>
  rw[e] at h;obtain⟨h1,h2,h3,h4⟩:=At e;exact⟨j,h1,h,h2,h3,h4⟩
theorem mz {α:Type}{xs:List α}{j:Nat}{v:α}(h:xs[j]?=some v):EW xs (j:Int)=some v:=by
 have hj:j<xs.length:=(Nt.mp h).1;have e:EX xs.length (j:Int)=some j:=by
  unfold EX;rw[NZ (by lia),NZ (by lia)];simp
 unfold EW;rw[e];exact h
def zV (b:Po):Prop:=∀ o i,subscripted b false o i=operate [o,i] (U' o i)
def DY (X:Cx)(r:R2):Prop:=
 ∀ (value slice:Po) (pins:List (Nn×Obj)) (s:Nh) (σ:St) (H:Hp) (x y:V) (v u:Nd) (Q:VK),aD X pins σ H s->bj x v->bj y u->r x y H Q ->
  subscripted slice false v u=operate [v,u] (U' v u)->Nu (NI X.prog X.w) X.A (V3 value slice v u) (EP X pins σ Q) X.xe s
def Mp (X:Cx)(id:String)(r:V->List V->Hp->VK->Prop):Prop:=
 ∀ (pins:List (Nn×Obj)) (s:Nh) (σ:St) (H:Hp) (x:V) (xs:List V) (v:Nd) (us:List Nd) (Q:VK),aD X pins σ H s->bj x v->aM xs us->r x xs H Q ->
  Nu (NI X.prog X.w) X.A (call (.builtin id) (v::us)) (EP X pins σ Q) X.xe s
section
variable {X:Cx}{a b:Po}{ta tb:TE}{pos:Pos}
theorem DY.or (h:DY X r)(h':DY X r'):DY X (λx y H Q=>r x y H Q\/r' x y H Q):=by
 intro value slice pins s σ H x y v u Q I rx ry q hs;rcases q with q|q
 ·exact h value slice pins s σ H x y v u Q I rx ry q hs
 ·exact h' value slice pins s σ H x y v u Q I rx ry q hs
theorem EU (hr:DY X r)(ha:WE X a ta)(hb:WE X b tb)(hs:zV b):WE X (.Subscript a b pos) (KP r ta tb):=by
 have ha:=ha.go;have hb:=hb.go;refine⟨?_⟩;intro pins s σ H Q I h;exact We (IT ha hb I h λv u s2 x y H2 I2 rx ry q=>hr a b pins s2 σ H2 x y v u Q I2 rx ry q (hs _ _))
inductive Kx (K:HD)(x y:V)(H:Hp)(Q:VK):Prop
 |mk (p:Nn) (xs:List V) (i:Int) (v:V) (_:x=.ref p) (_:y=.int i) (_:bI K H p xs) (_:EW xs i=some v) (_:Q v H)
inductive Ky (K:HD)(x y:V)(H:Hp)(Q:VK):Prop
 |mk (p:Nn) (xs:List V) (i:Int) (v:V) (_:x=.ref p) (_:y=.int i) (_:cW K H p xs) (_:EW xs i=some v) (_:Q v H)
def Kh:R2:=λx y H Q=>∃ z i c,x=.str z/\y=.int i/\z.length<=Nv/\EW z.cps.toList i=some c/\Q (.str ⟨#[c]⟩) H
theorem Fz:DY X (Kx X.K):=by
 intro value slice pins s σ H x y v u Q I rx ry h hs;obtain⟨p,xs,i,z,rfl,rfl,hq,he,q⟩:=h;cases rx;obtain⟨t,rfl⟩:=ry;obtain⟨its,r,pl,hz⟩:=I.list hq;obtain⟨j,h1,h2,h3,h4,h5⟩:=vt he;obtain⟨w,ew,rw'⟩:=r.get h2;have hl:=r.length;have hn:=lN;have fin:EP X pins σ Q w s:=⟨z,H,I,rw',q⟩
 by_cases h0:0<=i
 ·have hj:i.toNat=j:=by
   rw[seqIndex_of h0 h5] at h1;exact Nb h1
  exact item_listR pl.isList h0 (by lia) (by rw[hj];simpa using ew) fin hs
 ·have hj:(i+(its.toArray.size:Int)).toNat=j:=by
   rw[seqIndex_neg (by lia) h4] at h1;rw[No,<- hl];exact Nb h1
  exact UT (x:=w) pl.isList.typeIs slot_list_getitem.lookup
   (wpAny_getItem_list_neg (Q:=λr s'=>r=w/\EP X pins σ Q r s') pl.isList (by lia) (by rw[No]<;>lia) (by lia) (by rw[hj];simpa using ew) ⟨rfl,fin⟩) hs
theorem IG:DY X (Ky X.K):=by
 intro value slice pins s σ H x y v u Q I rx ry h hs;obtain⟨p,xs,i,z,rfl,rfl,hq,he,q⟩:=h;cases rx;obtain⟨t,rfl⟩:=ry;obtain⟨its,r,pl,hz⟩:=I.tuple hq;obtain⟨j,h1,h2,h3,h4,h5⟩:=vt he;obtain⟨w,ew,rw'⟩:=r.get h2;have hl:=r.length;have hn:=lN;have fin:EP X pins σ Q w s:=⟨z,H,I,rw',q⟩
 exact UT (x:=w) pl.typeIs PX.lookup
  (getItem_tuple (j:=j) (Q:=λr s'=>r=w/\EP X pins σ Q r s') pl (by lia) (by lia) (by rw[No,<- hl];exact h1) (by simpa using ew) ⟨rfl,fin⟩) hs
theorem HP:DY X Kh:=by
 intro value slice pins s σ H x y v u Q I rx ry h hs;obtain⟨z,i,c,rfl,rfl,hz,he,q⟩:=h;obtain⟨t,rfl⟩:=rx;obtain⟨t',rfl⟩:=ry;obtain⟨j,h1,h2,h3,h4,h5⟩:=vt he;have hl:z.cps.toList.length=z.length:=by simp[Str.length]
 rw[hl] at h1 h4 h5;have hn:=lN;exact tail_any (typeIs_str s z t) slot_str_getitem.lookup (getItem_str (c:=c) (by
  have e1:decide (i < -(2^63:Int))=false:=On (by lia);have e2:decide (i>=2^63)=false:=On (by lia);rw[e1,e2,Bool.or_false]) (by rw[h1];simpa using h2) ⟨.str ⟨#[c]⟩,H,I.tok _,⟨_,rfl⟩,q⟩) hs
def GK (K:HD):R2:=λx y H Q=>Kx K x y H Q\/Ky K x y H Q\/Kh x y H Q
theorem Ht:DY X (GK X.K):=Fz.or (IG.or HP)
theorem yk (its:List Nd)(n j:Nat)(u:Nd):Oz (·.setIfInBounds j u) { cls:=.type "list",data:=.seq its.toArray n }={ cls:=.type "list",data:=.seq (its.set j u).toArray n }:=by
 simp[Oz]
theorem aD.lst {pins:List (Nn × Obj)}{σ:St}{H:Hp}{s:Nh}{p:Nn}{xs:List V} (I:aD X pins σ H s) (h:H p=some (.lst xs)) :
  ∃ (its:List Nd) (n:Nat),aM xs its/\s.heap.get? p=some { cls:=.type "list",data:=.seq its.toArray n }/\xs.length<=Nv:=by
 obtain⟨z,its,n,r,e⟩:=I.hok p _ h;exact⟨its,n,r,e,z⟩
theorem aD.lstUpd {pins:List (Nn × Obj)}{σ:St}{H:Hp}{s:Nh}{p:Nn}{xs ys:List V}{its its':List Nd}{n n':Nat}{f:Obj->Obj} (I:aD X pins σ H s) (h:H p=some (.lst xs))
  (ho:s.heap.get? p=some { cls:=.type "list",data:=.seq its.toArray n })(hf:f { cls:=.type "list",data:=.seq its.toArray n }={ cls:=.type "list",data:=.seq its'.toArray n' })(r:aM ys its')(hz:ys.length<=Nv)(t:Nat):
  aD X pins σ (upd H p (.lst ys)) { s with heap:=s.heap.update p f,toks:=t }:=by
 have e:(s.heap.update p f).get? p=some { cls:=.type "list",data:=.seq its'.toArray n' }:=by
  rw[OM f ho (by rw[hf]<;>rfl),hf]
 refine I.write (x:=p) (e:=p) (by rw[h];trivial) (.inl rfl) (λb u hb q=>(OJ _ _ (Px hb)).trans q) ⟨_,e⟩ ?_;exact⟨hz,its',n',r,e⟩
def JO:V->V->V->Hp->(Hp->Prop)->Prop:=λo i v H Q=>∃ p xs k j,o=.ref p/\i=.int k/\H p=some (.lst xs)/\EX xs.length k=some j/\Q (upd H p (.lst (xs.set j v)))
theorem mH:Jz X JO:=by
 intro pins s σ H o i v ov iv u Q I ro ri rv h;obtain⟨p,xs,k,j,rfl,rfl,hp,hj,q⟩:=h;cases ro;obtain⟨t,rfl⟩:=ri;obtain⟨its,n,r,ho,hz⟩:=I.lst hp;obtain⟨h1,h2,h3,h4⟩:=At hj;have hl:=r.length;have hn:=lN;have I':aD X pins σ (upd H p (.lst (xs.set j v))) { s with heap:=s.heap.update p (Oz (·.setIfInBounds j u)) }:=
  I.lstUpd hp ho (yk its n j u) (r.set rv j) (by rw[SW];exact hz) s.toks
 by_cases h0:0<=k
 ·have hk:k.toNat=j:=by
   rw[seqIndex_of h0 h4] at h1;exact Nb h1
  exact PySem.W.ki_setAt ho h0 (by lia) (by rw[No,<- hl];exact h4) (by rw[hk];exact⟨_,I',q⟩)
 ·have hk:(k+(its.toArray.size:Int)).toNat=j:=by
   rw[seqIndex_neg (by lia) h3] at h1;rw[No,<- hl];exact Nb h1
  exact PySem.W.ki_setBack ho (by lia) (by rw[No,<- hl];exact h3) (by lia) (by rw[hk];exact⟨_,I',q⟩)
theorem uk (lo hi:Option Int)(n:Nat):(R7 lo hi none n).1=((HT.sIx n 0 lo:Nat):Int)/\(R7 lo hi none n).2.1=((HT.sIx n n hi:Nat):Int)/\(R7 lo hi none n).2.2=1:=by
 refine⟨?_,?_,rfl⟩
 ·cases lo with
  |none=>simp[R7,HT.sIx]
  |some i=>
   simp only[R7,HT.sIx,WJ,show(1:Int)>0 by decide,PD]
   by_cases h:i<0
   ·simp only[h,PD]<;>lia
   ·simp only[h,Pl]<;>lia
 ·cases hi with
  |none=>simp[R7,HT.sIx]
  |some i=>
   simp only[R7,HT.sIx,WJ,show(1:Int)>0 by decide,PD]
   by_cases h:i<0
   ·simp only[h,PD]<;>lia
   ·simp only[h,Pl]<;>lia
theorem sK (its:List Nd)(lo hi:Option Int):slicePick its.toArray lo hi none=((its.drop (HT.sIx its.length 0 lo)).take (HT.sIx its.length its.length hi-HT.sIx its.length 0 lo)).toArray:=by
 obtain⟨h1,h2,h3⟩:=uk lo hi its.toArray.size;unfold slicePick;rw[h1,h2,h3];simp only[sliceRange_one,pick_run,No]<;>rfl
def K8 (K:HD):V->Option Int->Option Int->Hp->VK->Prop:=λx lo hi H Q=>∃ a xs,x=.ref a/\bI K H a xs/\∀ p,H p=none->Q (.ref p) (upd H p (.lst (qL xs lo hi)))
theorem F6:Ks X (K8 X.K):=by
 intro pins s σ H x v vl vu lo hi sl Q I rx hs pl pu h;obtain⟨a,xs,rfl,hx,q⟩:=h;cases rx;obtain⟨its,r,ht,hz⟩:=I.list hx;have hlen:=r.length;refine⟨"list",_,slot_list_getitem.lookup,ht.isList.typeIs,?_⟩;refine wpAny_getItem_list_slice ht.isList hs pl pu .none (by simp) ?_ (by rw[No]<;>lia);rw[sK,<- hlen];refine⟨.ref s.heap.objs.size,_,I.laid (t':=s.toks) (o:=.lst (qL xs lo hi)) (λb ob q=>Na _ q) (Nj _) ?_,rfl,q _ (I.hok.fresh (Nj _))⟩;exact⟨NP (oP xs lo hi) hz,_,0,(r.drop (HT.sIx xs.length 0 lo)).take (HT.sIx xs.length xs.length hi-HT.sIx xs.length 0 lo),Ng _ rfl⟩
def jo:V->Bool
 |.non=>true
 |.bl _=>true
 |.int _=>true
 |.str _=>true
 |_=>false
def eqV:V->V->Bool
 |.non,.non=>true
 |.bl a,.bl b=>a==b
 |.bl a,.int b=>(if a then 1 else 0)==b
 |.int a,.bl b=>a==(if b then 1 else 0)
 |.int a,.int b=>a==b
 |.str a,.str b=>a==b
 |_,_=>false
theorem HZ (ry:bj y u)(rx:bj x v)(fy:jo y=true)(fx:jo x=true):SeqAt.EqAt A s u v (eqV y x):=by
 cases y with
 |non=>
  cases ry;cases x with
  |non=>cases rx;exact SeqAt.EqAt.same _
  |bl b=>cases rx;exact SeqAt.EqAt.none_bool b
  |int b=>obtain⟨t,rfl⟩:=rx;exact SeqAt.EqAt.none_int b t
  |str b=>obtain⟨t,rfl⟩:=rx;exact SeqAt.EqAt.none_str b t
  |_=>exact absurd (show false=true from fx) NK
 |bl a=>
  cases ry;cases x with
  |non=>cases rx;exact SeqAt.EqAt.bool_none a
  |bl b=>cases rx;exact SeqAt.EqAt.bool_bool a b
  |int b=>obtain⟨t,rfl⟩:=rx;exact SeqAt.EqAt.bool_int a b t
  |str b=>obtain⟨t,rfl⟩:=rx;exact SeqAt.EqAt.bool_str a b t
  |_=>exact absurd (show false=true from fx) NK
 |int a=>
  obtain⟨t',rfl⟩:=ry;cases x with
  |non=>cases rx;exact SeqAt.EqAt.int_none a t'
  |bl b=>cases rx;exact SeqAt.EqAt.int_bool a t' b
  |int b=>obtain⟨t,rfl⟩:=rx;exact SeqAt.EqAt.int_int a t' b t
  |str b=>obtain⟨t,rfl⟩:=rx;exact VW a t' b t
  |_=>exact absurd (show false=true from fx) NK
 |str a=>
  obtain⟨t',rfl⟩:=ry;cases x with
  |non=>cases rx;exact SeqAt.EqAt.str_none a t'
  |bl b=>cases rx;exact SeqAt.EqAt.str_bool a t' b
  |int b=>obtain⟨t,rfl⟩:=rx;exact VX a t' b t
  |str b=>obtain⟨t,rfl⟩:=rx;exact SeqAt.EqAt.str_str a t' b t
  |_=>exact absurd (show false=true from fx) NK
 |_=>exact absurd (show false=true from fy) NK
def JF (x:V)(u:Nd):Bool:=match u with
 |.none=>eqV .non x
 |.bool b=>eqV (.bl b) x
 |.int i _=>eqV (.int i) x
 |.str z _=>eqV (.str z) x
 |_=>false
theorem yH (r:bj y u)(f:jo y=true):JF x u=eqV y x:=by
 cases y with
 |non=>cases r;rfl
 |bl b=>cases r;rfl
 |int i=>obtain⟨t,rfl⟩:=r;rfl
 |str z=>obtain⟨t,rfl⟩:=r;rfl
 |_=>exact absurd (show false=true from f) NK
theorem qQ (rx:bj x v)(fx:jo x=true):∀ {xs:List V}{us:List Nd},aM xs us->xs.all jo=true->∀ u∈us,SeqAt.EqAt A s u v (JF x u)
 |_,_,.nil,_=>λu hu=>by cases hu
 |y::xs,u::us,.cons r t,f=>λu' hu=>by
  rw[Ru,NO] at f;rcases Nl.mp hu with rfl|hu
  ·rw[yH r f.1];exact HZ r rx f.1 fx
  ·exact qQ rx fx t f.2 u' hu
theorem uh:cq X (.builtin "len") (λxs H Q=>∃ p ys,xs=[.ref p]/\(bI X.K H p ys\/cW X.K H p ys)/\Q (.int ys.length) H):=by
 intro pins s σ H xs us Q I r h;obtain⟨p,ys,rfl,hq,q⟩:=h;obtain⟨u,rfl,rx⟩:=fN r;cases rx;have hn:=lN;rcases hq with hq|hq
 ·obtain⟨its,r',pl,hz⟩:=I.list hq;have hlen:=r'.length;exact Calls.call_len_list pl.isList (by simp only[No]<;>lia) ⟨.int ys.length,H,I.tok _,⟨s.toks+1,by rw[No,hlen]⟩,q⟩
 ·obtain⟨its,r',pl,hz⟩:=I.tuple hq;have hlen:=r'.length;exact len_tuple pl (by simp only[No]<;>lia) ⟨.int ys.length,H,I.tok _,⟨s.toks+1,by rw[No,hlen]⟩,q⟩
theorem ue:cq X (.type "list") (λxs H Q=>∃ p ys,xs=[.ref p]/\(bI X.K H p ys\/cW X.K H p ys)/\∀ l,H l=none->Q (.ref l) (upd H l (.lst ys))):=by
 intro pins s σ H xs us Q I r h;obtain ⟨p,ys,rfl,hq,q⟩:=h;obtain ⟨u,rfl,rx⟩:=fN r;cases rx;have fin:∀ (its:List Nd),aM ys its->ys.length <= Nv->∀ (h':OZ) (c':Nat),(∀ b o',s.heap.get? b=some o'->h'.get? b=some o') ->
   h'.get? s.heap.objs.size=some { cls:=.type "list",dict:=none,data:=.seq its.toArray c',slots:=#[] }->EP X pins σ Q (.ref s.heap.objs.size) { s with heap:=h' }:=λits r' hz h' c' kp e=>
  ⟨.ref s.heap.objs.size,_,I.laid (t':=s.toks) kp (Nj _) (show bA X.prog X.w _ h' _ (.lst ys) from⟨hz,its,c',r',e⟩),rfl,q _ (I.hok.fresh (Nj _))⟩
 rcases hq with hq|hq
 ·obtain⟨its,r',pl,hz⟩:=I.list hq;have hlen:=r'.length;obtain⟨o,ho,hc,n,hd⟩:=pl.isList;exact call_list_seq p (.inl rfl) ho hc hd (λh' c' kp e=>fin its r' hz h' c' kp e) (by simp only[No]<;>lia)
 ·obtain⟨its,r',pl,hz⟩:=I.tuple hq;have hlen:=r'.length;obtain⟨o,ho,hc,n,hd⟩:=pl;exact call_list_seq p (.inr rfl) ho hc hd (λh' c' kp e=>fin its r' hz h' c' kp e) (by simp only[No]<;>lia)
theorem rY:cq X (.type "tuple") (λxs H Q=>∃ p ys,xs=[.ref p]/\((bI X.K H p ys/\∀ l,H l=none->Q (.ref l) (upd H l (.tup ys)))\/(cW X.K H p ys/\Q (.ref p) H))):=by
 intro pins s σ H xs us Q I r h;obtain⟨p,ys,rfl,h⟩:=h;obtain⟨u,rfl,rx⟩:=fN r;cases rx;rcases h with ⟨hq,q⟩|⟨hq,q⟩
 ·obtain⟨its,r',pl,hz⟩:=I.list hq;have hlen:=r'.length;refine call_tuple_list pl.isList (λh' kp=>?_) (by simp only[No]<;>lia);have I1:aD X pins σ H { s with heap:=h' }:=I.kept (t':=s.toks) kp;have I2:aD X pins σ (upd H h'.objs.size (.tup ys)) { s with heap:=h'.push { cls:=.type "tuple",data:=.seq its.toArray } }:=
   I1.laid (t':=s.toks) (λb o e=>Na _ e) (Nj _) (show bA X.prog X.w _ _ _ (.tup ys) from⟨hz,its,r',WZ _ _⟩)
  exact⟨.ref h'.objs.size,_,I2,rfl,q _ (I1.hok.fresh (Nj _))⟩
 ·obtain⟨its,r',pl,hz⟩:=I.tuple hq;exact call_tuple_same pl ⟨.ref p,H,I,rfl,q⟩
def MP (K:HD)(T:String)(x:V)(H:Hp):Prop:=match x with
 |.str _=>T="str"
 |.int _=>T="int"
 | .ref p=>(T="list"/\∃ xs,bI K H p xs)\/(T="tuple"/\∃ o,K.lookup p=some o/\o.cls=.type "tuple"/\o.dict=none) \/
   (T="dict"/\((∃ kvs,H p=some (.dK kvs))\/∃ kvs,H p=some (.dT kvs)))\/(T="set"/\∃ S n,H p=some (.set S n))
 |_=>False
theorem Ce (I:aD X pins σ H s) (r:bj x v) (ty:MP X.K T x H) :
  s.TypeIs v T/\∀ a,v=.ref a->∃ ob,s.heap.get? a=some ob/\ob.dict=none:=by
 cases x with
 |str z=>
  obtain⟨t,rfl⟩:=r;cases(show T="str" from ty);exact⟨typeIs_str s z t,λ_ e=>nomatch e⟩
 |int i=>
  obtain⟨t,rfl⟩:=r;cases(show T="int" from ty);exact⟨Vf s i t,λ_ e=>nomatch e⟩
 |ref p=>
  cases r;rcases ty with ⟨rfl,xs,hq⟩|⟨rfl,o,hk,hc,hd⟩|⟨rfl,hk⟩|⟨rfl,S,n,hk⟩
  ·obtain⟨its,_,pl,_⟩:=I.list hq;refine⟨pl.isList.typeIs,λa e=>?_⟩;cases e;obtain⟨o,n,e,c,hd,_⟩:=pl;exact⟨o,e,hd⟩
  ·refine⟨⟨o,I.kIn p o hk,hc⟩,λa e=>?_⟩;cases e;exact⟨o,I.kIn _ o hk,hd⟩
  ·have z:∃ o,s.heap.get? p=some o/\o.ExactDict:=by
    rcases hk with ⟨kvs,hk⟩|⟨kvs,hk⟩
    ·obtain⟨_,_,_,_,o,_,_,e,ex,_⟩:=I.hok p _ hk;exact⟨o,e,ex⟩
    ·obtain⟨_,_,_,_,o,_,_,e,ex,_⟩:=I.hok p _ hk;exact⟨o,e,ex⟩
   obtain⟨o,e,ex⟩:=z;refine⟨⟨o,e,ex.1⟩,λa e2=>?_⟩;cases e2;exact⟨o,e,ex.2.1⟩
  ·obtain⟨o,_,_,_,e,ex,_⟩:=I.hok p _ hk;refine⟨⟨o,e,ex.1⟩,λa e2=>?_⟩;cases e2;exact⟨o,e,ex.2.1⟩
 |_=>exact O7 ty
def M6 (K:HD)(T:String)(r:V->List V->Hp->VK->Prop)(to:TE)(t:TA):TE:=λσ H Q=>to σ H λx H1=>MP K T x H1/\t σ H1 λxs H2=>r x xs H2 Q
variable {o e:Po}{es:List Po}{to:TE}{t:TA}{name:Str}{apos cpos:Pos}{T id:String}{r:V->List V->Hp->VK->Prop}
theorem on (pa:PlainAttrs T) (slot:Slot T name id) (hty:typeOf (.builtin id)=pure (.type "method_descriptor")) (hm:Mp X id r) (ho:WE X o to) (ha:WA X (e :: es) t)
  (hbase:Uw o name X.env (QT o X.env)=QT o X.env:=by rfl)
  (hfew:((Q0 cpos (NG (e::es) X.env)).all (λx=>!x.1)&&(Qk cpos (OW [] X.env)).all (λx=>x.1.isSome)
   &&decide ((e::es).length+([]:List TH).length+(if([]:List TH).isEmpty then 0 else 1)<30))=true:=by rfl)
  (hline:(apos.endLine==cpos.line)=true:=by rfl)(hs:NG (e::es) X.env=(false,QT e X.env)::NG es X.env:=by rfl)(hplain:(Q0 cpos (NG es X.env)).any (·.1)=false:=by rfl):
  WE X (.Call (.Attribute o name apos) (e::es) [] cpos) (M6 X.K T r to t):=by
 have ho:=ho.go;have ha:=ha.go;refine⟨?_⟩;intro pins s σ H Q I h;refine wpAny_Call_method_late hbase hfew hline rfl (bM (ho pins s σ H _ I h) λv s1 ⟨x,H1,I1,r1,ty,q1⟩=>?_);obtain⟨h1,h2⟩:=Ce I1 r1 ty;refine⟨T,id,pa,slot,hty,h1,h2,?_⟩;have hA:=ha cpos pins s1 σ H1 _ I1 q1;rw[hs] at hA ⊢;refine UM (by show(false||(Q0 cpos (NG es X.env)).any (·.1))=false;rw[hplain]<;>rfl) (Vi ?_);exact bM hA λus s2 ⟨vs,H2,I2,r2,q2⟩=>hm pins s2 σ H2 x vs v us Q I2 r1 r2 q2
end
def MX (X:Cx)(id:String)(r:V->List V->Hp->VK->Prop):Prop:=
 ∀ (pins:List (Nn×Obj)) (s:Nh) (σ:St) (H:Hp) (x:V) (xs:List V) (v:Nd) (us:List Nd) (Q:VK),aD X pins σ H s->bj x v->aM xs us->r x xs H Q ->
  Nu (NI X.prog X.w) X.A (call (.builtin id) (v::us)) (EP X pins σ Q) X.xe s
theorem aM.one:∀ {x:V}{us:List Nd},aM [x] us->∃ u,us=[u]/\bj x u
 |_,_,.cons r .nil=>⟨_,rfl,r⟩
theorem aM.rep (h:aM xs us):∀ k:Nat,aM (Np k xs).flatten (Np k us).flatten
 |0=>.nil
 |k+1=>by
  rw[O6,O6,P0,P0];exact aM.append h (aM.rep h k)
theorem tX (its:List Nd):∀ (k:Nat) (acc:List Nd),
  Xe (λx1 x2=>x1++x2) acc.toArray (Np k its.toArray)=(acc++(Np k its).flatten).toArray
 |0,acc=>by simp
 |k+1,acc=>by
  have e:acc.toArray++its.toArray=(acc++its).toArray:=by simp
  have e2:(acc++its)++(Np k its).flatten=acc++(Np (k+1) its).flatten:=by
   rw[O6,P0,PZ]
  rw[<- e2,<- tX its k (acc++its),<- e,O6,List.foldl_cons]
section
variable {X:Cx}{pins:List (Nn×Obj)}{σ:St}{H:Hp}{s:Nh}{l b:Nn}{xs ys zs:List V}
theorem aD.lset {its its':List Nd}{n:Nat}{f:Array Nd->Array Nd}{t':Nat} (I:aD X pins σ H s) (hH:H l=some (.lst xs))
  (e:s.heap.get? l=some { cls:=.type "list",data:=.seq its.toArray n })(hf:f its.toArray=its'.toArray)(hv:aM ys its')(hz:ys.length<=Nv):
  aD X pins σ (upd H l (.lst ys)) { s with heap:=s.heap.update l (Oz f),toks:=t' }:=by
 have q:=PySem.IsL.update e f;rw[hf] at q;refine I.write (x:=l) (e:=l) (by rw[hH];exact trivial) (.inl rfl) (λb' u hb hu=>(OJ s.heap (Oz f) (Px hb)).trans hu) ⟨_,q⟩ ?_;exact⟨hz,its',_,hv,q⟩
theorem aD.lnew {t':Nat} (I:aD X pins σ H s) (hv:aM ys its) (hz:ys.length <= Nv) :
  aD X pins σ (upd H s.heap.objs.size (.lst ys)) { s with heap:=s.heap.push { cls:=.type "list",data:=.seq its.toArray },toks:=t' }:=
 I.laid (λ_ _ q=>Na _ q) (Nj _) ⟨hz,its,0,hv,Ng _ rfl⟩
theorem aD.fresh (I:aD X pins σ H s):H s.heap.objs.size=none:=I.hok.fresh (Nj _)
theorem aD.lstM (I:aD X pins σ H s)(hH:H l=some (.lst xs)):xs.length<=Nv/\∃ (its:List Nd) (n:Nat),aM xs its/\xs.length=its.length/\s.heap.get? l=some { cls:=.type "list",data:=.seq its.toArray n }:=by
 obtain⟨z,its,n,r,e⟩:=I.hok l _ hH;exact⟨z,its,n,r,r.length,e⟩
theorem D_ {n:Nat}(h:n<=Nv):Rl n=false:=by
 unfold Rl;exact On (by lia)
end
section
variable {X:Cx}
def Fd:V->List V->Hp->VK->Prop:=λx vs H Q=>∃ l xs y,x=.ref l/\vs=[y]/\H l=some (.lst xs)/\xs.length<Nv/\Q .non (upd H l (.lst (xs++[y])))
theorem kB:MX X "list.append" Fd:=by
 intro pins s σ H x vs v us Q I rx rv h;obtain⟨l,xs,y,rfl,rfl,hH,hz,q⟩:=h;cases rx;obtain⟨u,rfl,ru⟩:=rv.one;obtain⟨z,its,n,r,hl,e⟩:=I.lstM hH;refine R6 PQ ⟨_,e,rfl⟩ F.entry_list_append (F.args_list_append_2 _ _) (PySem.list_append l its.toArray n u (by rw[No];lia)) ⟨e,?_⟩;refine⟨.non,_,I.lset (its':=its++[u]) hH e (by simp) (r.append (.cons ru .nil)) ?_,rfl,q⟩;rw[NL,Sg];lia
def LU:R2:=λx y H Q=>∃ l b xs zs,x=.ref l/\y=.ref b/\H l=some (.lst xs)/\H b=some (.lst zs)/\xs.length+zs.length<=Nv/\∀ p,H p=none->Q (.ref p) (upd H p (.lst (xs++zs)))
theorem lS:j7 X (QW .Add) LU:=by
 intro pins s σ H x y v u Q I rx ry h;obtain⟨l,b,xs,zs,rfl,rfl,hH,hB,hz,q⟩:=h;cases rx;cases ry;obtain⟨z,its,n,r,hl,e⟩:=I.lstM hH;obtain⟨z2,its2,n2,r2,hl2,e2⟩:=I.lstM hB;refine PySem.P.add_list e e2 ?_ (by rw[No,No];lia);have ea:its.toArray++its2.toArray=(its++its2).toArray:=by simp
 rw[ea];exact⟨.ref _,_,I.lnew (t':=s.toks) (r.append r2) (by rw[NL];lia),rfl,q _ I.fresh⟩
def Ch:R2:=λx y H Q=>∃ l k xs,x=.ref l/\y=.int k/\H l=some (.lst xs)/\-(2^63)<=k/\k<2^63/\xs.length*k.toNat<=Nv /\
 ∀ p,H p=none->Q (.ref p) (upd H p (.lst (Np k.toNat xs).flatten))
theorem Gf (xs:List α)(k:Nat):(Np k xs).flatten.length=k*xs.length:=by
 induction k with
 |zero=>simp
 |succ k ih=>rw[O6,P0,NL,ih,Ts,Nat.add_comm]
theorem nJ:j7 X (QW .Mult) Ch:=by
 intro pins s σ H x y v u Q I rx ry h;obtain⟨l,k,xs,rfl,rfl,hH,h1,h2,hz,q⟩:=h;cases rx;obtain⟨t,rfl⟩:=ry;obtain⟨z,its,n,r,hl,e⟩:=I.lstM hH;have hlen:its.toArray.size*k.toNat<=Nv:=by rw[No,<- hl];exact hz
 have hcap:¬ its.toArray.size*k.toNat>(2^63-1)/8:=by
  have:(Nv:Nat)<=(2^63-1)/8:=by decide
  lia
 have hfit:¬ (!Builtin.List.listFitsIndex k)=true:=by
  rw[fitsIndex_both h1 h2];exact NK
 have hlong:¬ Rl (its.toArray.size*k.toNat)=true:=by
  rw[D_ hlen];exact NK
 have hnew:Xe (λx1 x2=>x1++x2) #[] (Np (if its.toArray.isEmpty=true then 0 else k.toNat) its.toArray)=(Np k.toNat its).flatten.toArray:=by
  have f0:∀ m:Nat,Xe (λx1 x2=>x1++x2) #[] (Np m its.toArray)=(Np m its).flatten.toArray:=λm=>by
   have:=tX its m [];rw[List.nil_append] at this;exact this
  rw[f0];cases its with
  |nil=>simp
  |cons a r'=>rw[NS (by simp)]
 refine TQ (T:="list") (U:="int") (by decide) ⟨_,e,rfl⟩ (λs'=>Vf s' k t) noFill_list_mul VH Rq repeat_list Vw.lookup
  (R6 Rq (Vf s k t) Vv (Vj _ _) (int___rmul___int_list k t l its.toArray n)
   ⟨e,rfl,⟨_,e,rfl⟩,R6 F.slot_list_mul ⟨_,e,rfl⟩ F.entry_list_mul (F.args_list_mul_2 _ _) (AutoListH.list___mul___list_int_3 l its.toArray n k t hfit hcap hlong) ⟨e,?_⟩⟩)
 rw[hnew];exact⟨.ref _,_,I.lnew (t':=s.toks) (r.rep k.toNat) (by rw[Gf,Wx];exact hz),rfl,q _ I.fresh⟩
end
end L2
namespace Att
open PySem PySem.W PySem.Calls PyProof.Rows
theorem pj:∀ (ns:List Int) (vs:List Nd),WellAll P h vs (ns.map WData.int)->Ps vs ns:=by
 intro ns
 induction ns with
 |nil=>
  intro vs w;rw[PU] at w;cases w;exact .nil
 |cons n ns ih=>
  intro vs w;rw[NE] at w;cases w with
  |cons a b=>
   cases a;exact .cons _ _ (ih _ b)
theorem AK {l:OpenLaw}{n:Nat} (hn:l.most=some n) {P:Params}{h:OZ}{args:List WData}{vals:List Nd}
  (hpre:l.row.toRowW.claim.pre args=true)(hwl:WellAll P h vals args):
  ∃ a vs ns,vals=[NN a]/\args=[WData.list (ns.map WData.int)]/\h.get? a=some { cls:=.type "list",data:=.seq vs.toArray }/\Ps vs ns/\ns.length<=n:=by
 have hsh:WShape.hasAll [] args [.list .int]=true:=(pre_splitW hpre).1;have hc:l.pre.holds [] { args:=args }=true:=(pre_splitW hpre).2;obtain⟨d,r,rfl,h1,h2⟩:=hasAllW_cons hsh;obtain rfl:=hasAllW_nil h2;obtain⟨xs,rfl,h3⟩:=hasW_list h1;obtain⟨ns,rfl⟩:=items_int h3;have hlen:ns.length<=n:=by
  unfold OpenLaw.pre at hc;have h4:(WTm.not (.lt (.lit (.int (n:Int))) (.len (.arg 0)))).holds [] { args:=[.list (ns.map .int)] }=true:=by
   have h4:=(holds_andW hc).1;rw[hn] at h4;exact h4
  have h5:=condW_of h4 (w_not (w_lt w_lit (w_len_list (w_arg rfl))));rw[Ni] at h5;refine Nat.le_of_not_lt λq=>?_
  have q':(n:Int)<((ns.length:Nat):Int):=by lia
  first
   |(rw[Nq q'] at h5;exact absurd h5 (by decide))
   |(simp at h5;lia)
 cases hwl with
 |cons w1 w2=>
  cases w2;cases w1 with
  |list ho hall=>exact⟨_,_,ns,rfl,rfl,ho,pj ns _ hall,hlen⟩
theorem AX (l:OpenLaw)(args:List WData):l.row.toRowW.claim.post args (.bool true) args=true:=
 postW_of (r:=l.row.toRowW) (X:=(true==true))
  (show WShape.has [] (.bool true) .bool=true by first|rfl|decide|simp[WShape.has,WShape.arms,WShape.armsAll])
  (show(WTm.eq .res (.lit (.bool true))).value [] { args:=args,res:=some (.bool true),after:=args }=some (.bool (true==true)) from w_eq_bool (w_res rfl) w_lit) rfl
theorem attach_call {l:OpenLaw}{n:Nat}{q:ND}{loose:List Str}{XP:(Str->Option Nd)->OZ->Prop}{YP:N6->OZ->Prop}{d:DefRec}
  (hn:l.most=some n)(hdf:d.params.defaults=[])
  (call:∀ (w:N6) (s₀ s₁:Nh) (mg mb:Str->Option Nd) (fa:Nn) (o:Obj) (pm cd doc:Nd) (a:Nn) (vs:List Nd) (ns:List Int),
   Ground q loose [] XP w s₀ mg mb s₁.heap->YP w s₁.heap ->
   s₁.heap.get? fa=some o->o.data=.func (docDef d.name d.params d.body d.scope pm cd doc)->s₁.heap.CodeRec cd d.name->mg d.name=some (.ref fa) ->
   s₁.heap.get? a=some { cls:=.type "list",data:=.seq vs.toArray }->Ps vs ns->ns.length<=n->s₁.gens=#[] ->
   QB (NI l.prog w) W7 (.call (.ref fa) ⟨[.ref a],[]⟩) (λr s'=>r=.ok (.ret (.bool true))/\OldK s₁.heap s'.heap/\s'.os=s₁.os/\UV s'.gens) s₁) :
  WalkO q loose XP YP l.row.toRowW d [] (λf vs=>Xf f vs):=by
 intro w s₀ s₁ mg mb G Y fa o pm cd doc dV kV ho hd hcd hD hmg hg args vals as hpre hlay hrd hwl hlo;obtain rfl:dV=.none:=Dflts.none hD hdf;obtain rfl:kV=.none:=Dflts.noKw hD;obtain⟨a,vs,ns,rfl,rfl,hobj,hints,hlen⟩:=AK hn hpre hwl;refine enter_call (Rn (call w s₀ s₁ mg mb fa o pm cd doc a vs ns G Y ho (fd_plain hd) hcd hmg hobj hints hlen hg) λr s' hq=>?_);obtain⟨rfl,h2,h3,h4⟩:=hq;exact⟨.inl ⟨.bool true,.bool true,[],rfl,λ_=>rfl,.bool true,AX l _,λ_=>⟨V9,λ_ hm=>(nomatch hm)⟩⟩,h2,h3,h4⟩
end Att
namespace L2
open PySem PySem.Spec PyProof.Rows
theorem m_:∀ {vs:List Nd}{ns:List Int},Ps vs ns->aM (ns.map V.int) vs
 |_,_,.nil=>.nil
 |_,_,.cons n t h=>.cons ⟨t,rfl⟩ (m_ h)
end L2
namespace L2
open PySem PySem.Spec PyProof.Rows
def mo (s:Pr)(j:Nat):Pr:=match s with
 |.ClassDef _ _ _ body _ _ _ _ _ _ _=>body.getD j (.Pass ⟨0,0,0,0⟩)
 |_=>.Pass ⟨0,0,0,0⟩
def aO (s:Pr):VE:=match s with
 |.FunctionDef _ a _ _ _ _ _ _ _ _=>a
 |_=>{ posonlyargs:=[],args:=[],vararg:=none,kwonlyargs:=[],kw_defaults:=[],kwarg:=none,defaults:=[] }
def aL (s:Pr):List Pr:=match s with
 |.FunctionDef _ _ b _ _ _ _ _ _ _=>b
 |_=>[]
def ag (s:Pr):Q7:=match s with
 |.FunctionDef _ _ _ _ _ _ sc _ _ _=>sc
 |_=>{ kind:=.function,names:=[],isGenerator:=false,isCoroutine:=false }
abbrev E0:XK:=λ_ _ _=>False
structure Kq (K:HD)(x qual:Str)(st:Pr)(f:Nn)(fd:OK):Prop where
 ex:∃ (oc:Nd) (od:Option Nn) (kV doc pm:Nd) (an:Option Nn) (cdv ct:Nd) (osl:Array (Option Nd)),
  fd=NF x qual (aO st) (aL st) (ag st) .none kV doc pm an cdv ct/\K.lookup f=some ⟨oc,od,.func fd,osl⟩/\NU K cdv qual=true
 kp:NM K (.ref f)=true
section
variable {P:ND}{w:N6}{K:HD}{mg:Str->Option Nd}{base:OZ}
theorem Jf {x qual:Str}{st:Pr}{f:Nn}{oc:Nd}{od an:Option Nn}{osl:Array (Option Nd)}{kV doc pm cdv ct:Nd} (l:K.lookup f=some ⟨oc,od,.func (NF x qual (aO st) (aL st) (ag st) .none kV doc pm an cdv ct),osl⟩)
  (c:NU K cdv qual=true)(k:NM K (.ref f)=true):Kq K x qual st f (NF x qual (aO st) (aL st) (ag st) .none kV doc pm an cdv ct):=⟨⟨oc,od,kV,doc,pm,an,cdv,ct,osl,rfl,l,c⟩,k⟩
end
theorem bP {n:Nat}(h:n<=1000):n<Nv:=Qb h (by decide)
section
variable {X:Cx}
theorem pv (i:Nat) (hN:X.N[i]?=some x:=by rfl) (hv:JG X.env.scope x:=by first | exact W2 rfl | exact VP (W2 rfl) | exact VP (VP rfl)) (hd:(x == ("__debug__":Str))=false:=by decide)
  (hcd:(x==("__classdict__":Str))=false:=by decide):PE X (.Name x pos) (FO i):=Hn hN hv hd hcd
end
theorem bJ {A B:Prop}(h:B):if false=true then A else B:=by
 rw[NS NK];exact h
theorem aZ {A B:Prop}(h:A):if true=true then A else B:=by
 rw[NZ rfl];exact h
theorem fI {c A B:Prop}[Decidable c](h1:c->A)(h2:¬ c->B):if c then A else B:=by
 by_cases h:c
 ·rw[NZ h];exact h1 h
 ·rw[NS h];exact h2 h
def ae (H H':Hp):Prop:=∀ b o,H b=some o->H' b=some o
theorem ae.refl (H:Hp):ae H H:=λ_ _ h=>h
theorem ae.trans (a:ae H H1)(b:ae H1 H2):ae H H2:=λc o h=>b c o (a c o h)
theorem ae.free (e:ae H H')(h:H' l=Option.none):H l=Option.none:=by
 cases q:H l with
 |none=>rfl
 |some o=>
  rw[e l o q] at h;cases h
theorem ae.seq {K:HD}{H H':Hp}{a:Nn}{xs:List V}(e:ae H H')(h:bI K H a xs):bI K H' a xs:=by
 rcases h with (h|⟨o,h⟩)|h
 ·exact .inl (.inl (e _ _ h))
 ·exact .inl (.inr ⟨o,e _ _ h⟩)
 ·exact .inr h
end L2
set_option Elab.async false
set_option linter.all false
set_option maxRecDepth 100000
set_option maxHeartbeats 4000000
namespace TR
def CM (t b n d:Int):Prop:=0<d/\O3 n d=1/\n*b=t*d
def Sm (k:Nat)(x:Int):Prop:=x.natAbs<2^k
theorem vR {a b:Int}(ha:0<=a)(hb:0<b):O3 b (a%b)=O3 a b:=by
 obtain⟨x,rfl⟩:=Rs ha;obtain⟨y,rfl⟩:=Rs (Wq hb);show Nat.gcd y ((x:Int)%(y:Int)).natAbs=Nat.gcd x y;rw[show((x:Int)%(y:Int)).natAbs=x%y from rfl,Nat.gcd_comm,<- Nat.gcd_rec,Nat.gcd_comm]
theorem yP {k m n:Int}(h:k∣m*n)(c:O3 k m=1):k∣n:=by
 have h':k.natAbs∣m.natAbs*n.natAbs:=by rw[<- TF];exact UY.mpr h
 exact UY.mp (Nat.Coprime.dvd_of_dvd_mul_left (show Nat.Coprime k.natAbs m.natAbs from c) h')
theorem y_ {t b g m:Int}(hb:b≠0)(hg:g=(O3 t b:Int))(hm:m=if b<0 then -g else g):CM t b (t.fdiv m) (b.fdiv m):=by
 have hgp:0<g:=by
  rw[hg];have:0<O3 t b:=QG _ hb;lia
 have dt:g∣t:=by rw[hg];exact Int.gcd_dvd_left ..
 have db:g∣b:=by rw[hg];exact Int.gcd_dvd_right ..
 obtain⟨x,hx⟩:=dt;obtain⟨y,hy⟩:=db;have hco:O3 x y=1:=by
  have h1:O3 t b=O3 x y*g.natAbs:=by
   rw[hx,hy,Int.gcd_mul_left,Wx]
  have h2:g.natAbs=O3 t b:=by rw[hg];rfl
  have h3:0<g.natAbs:=by lia
  rw[<- h2] at h1;exact Nat.eq_of_mul_eq_mul_right h3 (by lia)
 by_cases hn:b<0
 ·have em:m=-g:=by rw[hm,NZ hn]
  have hy0:y<0:=by
   rw[hy] at hn;rcases Int.lt_or_le y 0 with h|h
   ·exact h
   ·have:=Qg (Wq hgp) h;lia
  have e1:t.fdiv m=-x:=by
   have e:t=m*(-x):=by rw[em,Int.neg_mul_neg];exact hx
   rw[e];exact Qo _ (by lia)
  have e2:b.fdiv m=-y:=by
   have e:b=m*(-y):=by rw[em,Int.neg_mul_neg];exact hy
   rw[e];exact Qo _ (by lia)
  rw[e1,e2];refine⟨by lia,by rw[Int.gcd_neg,Int.neg_gcd];exact hco,?_⟩;rw[Int.neg_mul,WV,hx,hy,TX,Rt]
 ·have em:m=g:=by rw[hm,NS hn]
  have hy0:0<y:=by
   have hb':0<b:=by lia
   rw[hy] at hb';rcases Int.lt_or_le 0 y with h|h
   ·exact h
   ·have:=Qg (Wq hgp) (show 0<=-y by lia);rw[WV] at this;lia
  have e1:t.fdiv m=x:=by
   rw[hx,em];exact Qo _ (by lia)
  have e2:b.fdiv m=y:=by
   rw[hy,em];exact Qo _ (by lia)
  rw[e1,e2];refine⟨hy0,hco,?_⟩;rw[hx,hy,TX,Rt]
theorem yy {t b n d n' d':Int}(hb:b≠0)(h:CM t b n d)(h':CM t b n' d'):n=n'/\d=d':=by
 obtain⟨h1,h2,h3⟩:=h;obtain⟨k1,k2,k3⟩:=h';have e:n*d'=n'*d:=by
  have e1:b*(n*d')=b*(n'*d):=by
   have a1:b*(n*d')=(n*b)*d':=by rw[Rm n b,Rt]
   have a2:b*(n'*d)=(n'*b)*d:=by rw[Rm n' b,Rt]
   rw[a1,a2,h3,k3,Rt,Rt,Rm d d']
  exact TD hb e1
 have dd:d∣d':=by
  have:d∣n*d':=⟨n',by rw[e,Rm]⟩
  exact yP this (by rw[Wp];exact h2)
 have dd':d'∣d:=by
  have:d'∣n'*d:=⟨n,by rw[<- e,Rm]⟩
  exact yP this (by rw[Wp];exact k2)
 have l1:=Int.le_of_dvd k1 dd;have l2:=Int.le_of_dvd h1 dd';have ed:d=d':=by lia
 subst ed;exact⟨Int.eq_of_mul_eq_mul_right (by lia) e,rfl⟩
theorem qT {t b n d:Int}(hb:b≠0)(h:CM t b n d):n.natAbs<=t.natAbs/\d.natAbs<=b.natAbs:=by
 obtain⟨h1,h2,h3⟩:=h;have db:d∣b:=by
  have:d∣n*b:=⟨t,by rw[h3,Rm]⟩
  exact yP this (by rw[Wp];exact h2)
 obtain⟨y,hy⟩:=db;have e:t=n*y:=by
  have:d*(n*y)=d*t:=by
   rw[TX,<- hy,h3,Rm]
  exact(TD (by lia) this).symm
 have hy0:y≠0:=by rintro rfl;simp at hy;exact hb hy
 have hp:0<y.natAbs:=by lia
 constructor
 ·rw[e,TF];exact Um _ hp
 ·rw[hy,TF];exact Um _ hp
theorem Sm.mono {k j:Nat}{x:Int}(h:Sm k x)(l:k<=j):Sm j x:=Nx h (Qj (by decide) l)
theorem Sm.mul {k j:Nat}{x y:Int}(h:Sm k x)(h':Sm j y):Sm (k+j) (x*y):=by
 unfold Sm at *;rw[TF,Nat.pow_add];exact Nat.mul_lt_mul'' h h'
theorem Sm.add {k:Nat}{x y:Int}(h:Sm k x)(h':Sm k y):Sm (k+1) (x+y):=by
 unfold Sm at *;have:=Int.natAbs_add_le x y;rw[Wy];lia
theorem Sm.sub {k:Nat}{x y:Int}(h:Sm k x)(h':Sm k y):Sm (k+1) (x-y):=by
 unfold Sm at *;rw[Wy];lia
theorem Sm.neg {k:Nat}{x:Int}(h:Sm k x):Sm k (-x):=by
 unfold Sm at *;rw[Int.natAbs_neg];exact h
theorem Sm.le {k:Nat}{x y:Int}(h:Sm k x)(l:y.natAbs<=x.natAbs):Sm k y:=Qb l h
theorem Aa (a b:Int):O3 (if a<0 then -a else a) (if b<0 then -b else b)=O3 a b:=by
 split<;>split<;>simp
theorem DS {t b:Int}(hb:b≠0):((O3 t b:Int)).natAbs<=b.natAbs:=by
 have:O3 t b∣b.natAbs:=Nat.gcd_dvd_right ..;exact Nat.le_of_dvd (by lia) this
open PySem PySem.Spec PyProof.Rows L2
theorem Jd:Oh "int"=some (.type "int"):=by decide +kernel
theorem F8:Oh "bool"=some (.type "bool"):=by decide +kernel
theorem cG:Oh "tuple"=some (.type "tuple"):=by decide +kernel
theorem i8:Oh "list"=some (.type "list"):=by decide +kernel
theorem ID:Oh "str"=some (.type "str"):=by decide +kernel
theorem Ap:Oh "dict"=some (.type "dict"):=by decide +kernel
theorem Dg:Oh "abs"=some (.builtin "abs"):=by decide +kernel
theorem gQ:Oh "len"=some (.builtin "len"):=by decide +kernel
theorem DR:Oh "max"=some (.builtin "max"):=by decide +kernel
theorem yI:Oh "min"=some (.builtin "min"):=by decide +kernel
theorem rH:Oh "sum"=some (.builtin "sum"):=by decide +kernel
theorem jX:Oh "all"=some (.builtin "all"):=by decide +kernel
theorem tK:Oh "sorted"=some (.builtin "sorted"):=by decide +kernel
theorem aG:Oh "isinstance"=some (.builtin "isinstance"):=by decide +kernel
mutual
inductive aw (K:HD)(H:Hp):NQ->V->Prop
 |non:aw K H .none .non
 |bl (b:Bool):aw K H (.bool b) (.bl b)
 |int (i:Int):aw K H (.int i) (.int i)
 |str (x:Str):aw K H (.str x) (.str x)
 |lst {a:Nn}{xs:List V}{ds:List NQ}:Rd H a (.lst xs)->av K H ds xs->aw K H (.list ds) (.ref a)
 |tup {a:Nn}{xs:List V}{ds:List NQ}:H a=some (.tup xs)->av K H ds xs->aw K H (.tuple ds) (.ref a)
 |dct {a:Nn}:H a=some (.dK [])->aw K H (.dict []) (.ref a)
inductive av (K:HD)(H:Hp):List NQ->List V->Prop
 |nil:av K H [] []
 |cons {d:NQ}{v:V}{ds:List NQ}{vs:List V}:aw K H d v->av K H ds vs->av K H (d::ds) (v::vs)
end
section
variable {X:Cx}{pins:List (Nn×Obj)}{σ:L2.St}{H H':Hp}{s:Nh}
mutual
theorem jD (I:aD X pins σ H s):∀ {d:NQ}{v:V}{u:Nd},aw X.K H d v->bj v u->∃ as,Reads s.heap u d as
 |_,_,_,.non,r=>by cases r;exact⟨_,.none⟩
 |_,_,_,.bl b,r=>by cases r;exact⟨_,.bool b⟩
 |_,_,_,.int i,r=>by obtain⟨t,rfl⟩:=r;exact⟨_,.int i t⟩
 |_,_,_,.str x,r=>by obtain⟨t,rfl⟩:=r;exact⟨_,.str x t⟩
 |_,_,_,.lst h q,r=>by
  cases r;obtain⟨its,rv,⟨o,n,e,c,_,d⟩,_⟩:=I.list (.inl h);obtain⟨as,z⟩:=kf I q rv;exact⟨_,.list e c d (by simpa using z)⟩
 |_,_,_,.tup h q,r=>by
  cases r;obtain⟨its,rv,⟨o,e,c,n,d⟩,_⟩:=I.tuple (.inl (.inl h));obtain⟨as,z⟩:=kf I q rv;exact⟨_,.tuple e c d (by simpa using z)⟩
 |_,_,_,.dct h,r=>by
  cases r;obtain⟨_,_,vs,kv,o,es,ep,e1,e2,e3,_,e4,_⟩:=(show bA X.prog X.w H s.heap _ (.dK []) from I.hok _ _ h)
  cases kv;have ee:es.toList=[]:=by
   cases z:es.toList with
   |nil=>rfl
   |cons y l=>rw[z] at e4;cases e4
  exact⟨_,.dict (kvs:=[]) e1 e2.1 e3 (by rw[ee];exact .nil) (by rw[ee];exact .nil)⟩
theorem kf (I:aD X pins σ H s):∀ {ds:List NQ}{vs:List V}{us:List Nd},av X.K H ds vs->aM vs us->∃ as,ReadsAll s.heap us ds as
 |_,_,_,.nil,.nil=>⟨_,.nil⟩
 |_,_,_,.cons h q,.cons r rr=>by
  obtain⟨as,z⟩:=jD I h r;obtain⟨bs,y⟩:=kf I q rr;exact⟨_,.cons z y⟩
end
end
theorem jG {K:HD}{H H':Hp}{a:Nn}{xs:List V}(e:ae H H')(h:cW K H a xs):cW K H' a xs:=by
 rcases h with (h|⟨o,h⟩)|h
 ·exact .inl (.inl (e _ _ h))
 ·exact .inl (.inr ⟨o,e _ _ h⟩)
 ·exact .inr h
theorem Rd.same (e:ae H H')(h:Rd H a u):Rd H' a u:=by
 rcases h with h|⟨o,h⟩
 ·exact .inl (e _ _ h)
 ·exact .inr ⟨o,e _ _ h⟩
mutual
theorem aw.same {K:HD}{H H':Hp}(e:ae H H'):∀ {d:NQ}{v:V},aw K H d v->aw K H' d v
 |_,_,.non=>.non
 |_,_,.bl b=>.bl b
 |_,_,.int i=>.int i
 |_,_,.str x=>.str x
 |_,_,.lst h q=>.lst (Rd.same e h) (av.same e q)
 |_,_,.tup h q=>.tup (e _ _ h) (av.same e q)
 |_,_,.dct h=>.dct (e _ _ h)
theorem av.same {K:HD}{H H':Hp}(e:ae H H'):∀ {ds:List NQ}{vs:List V},av K H ds vs->av K H' ds vs
 |_,_,.nil=>.nil
 |_,_,.cons h q=>.cons (aw.same e h) (av.same e q)
end
theorem ae.new (h:H p=none):ae H (upd H p o):=λb u e=>by rw[az (aS e h)];exact e
def Mv (T:List Nn)(H H':Hp):Prop:=∀ b o,H b=some o->b∉T->H' b=some o
theorem Mv.of (h:ae H H'):Mv T H H':=λb o e _=>h b o e
theorem Mv.refl:Mv T H H:=λ_ _ e _=>e
theorem Mv.trans (a:Mv T H H1)(b:Mv T H1 H2):Mv T H H2:=λc o e n=>b c o (a c o e n) n
mutual
def sG:NQ->Bool
 |.tuple xs=>iK xs
 |.none=>true
 |.bool _=>true
 |.int _=>true
 |.str _=>true
 |_=>false
def iK:List NQ->Bool
 |[]=>true
 |x::xs=>sG x&&iK xs
end
def hV (H:Hp)(T:List Nn):Prop:=∀ b∈T,∃ xs,H b=some (.lst xs)
theorem hV.not (h:hV H T)(e:H b=some o)(n:∀ xs,o≠.lst xs):b∉T:=λm=>by
 obtain⟨xs,q⟩:=h b m;rw[e] at q;exact n xs (Nb q)
mutual
theorem aw.mv {K:HD}{T:List Nn}{H H':Hp}(e:Mv T H H')(l:hV H T):∀ {d:NQ}{v:V},sG d=true->aw K H d v->aw K H' d v
 |_,_,_,.non=>.non
 |_,_,_,.bl b=>.bl b
 |_,_,_,.int i=>.int i
 |_,_,_,.str x=>.str x
 |_,_,t,.lst _ _=>by simp[sG] at t
 |_,_,t,.tup h q=>.tup (e _ _ h (l.not h λ_ z=>nomatch z)) (av.mv e l (by simpa [sG] using t) q)
 |_,_,t,.dct _=>by simp[sG] at t
theorem av.mv {K:HD}{T:List Nn}{H H':Hp}(e:Mv T H H')(l:hV H T):∀ {ds:List NQ}{vs:List V},iK ds=true->av K H ds vs->av K H' ds vs
 |_,_,_,.nil=>.nil
 |_,_,t,.cons h q=>by
  simp only[iK,NO] at t;exact .cons (aw.mv e l t.1 h) (av.mv e l t.2 q)
end
section
variable {X:Cx}
def HV (K:HD):R2:=λx y H Q=>∃ d e,aw K H d x/\aw K H e y/\Sn d=true/\Sn e=true/\Q (.bl (SL d e)) H
def Hz (K:HD):R2:=λx y H Q=>∃ d e,aw K H d x/\aw K H e y/\Sn d=true/\Sn e=true/\Q (.bl (!SL d e)) H
theorem Il (hu:X.A.units+64<cLine):j7 X (Pk .Eq) (HV X.K):=by
 intro pins s σ H x y v u Q I rx ry h;obtain⟨d,e,hd,he,sd,se,q⟩:=h;obtain⟨as,r1⟩:=jD I hd rx;obtain⟨bs,r2⟩:=jD I he ry;exact eq_dataH r1 r2 sd se hu ⟨.bl _,H,I,rfl,q⟩
theorem JB (hu:X.A.units+64<cLine):j7 X (Pk .NotEq) (Hz X.K):=by
 intro pins s σ H x y v u Q I rx ry h;obtain⟨d,e,hd,he,sd,se,q⟩:=h;obtain⟨as,r1⟩:=jD I hd rx;obtain⟨bs,r2⟩:=jD I he ry;exact ne_dataH r1 r2 sd se hu ⟨.bl _,H,I,rfl,q⟩
def Em (K:HD):R2:=λx y H Q=>∃ a b ns,x=.ref a/\y=.ref b/\bI K H a (ns.map V.int)/\H b=some (.lst [])/\Q (.bl (!decide (ns=[]))) H
theorem DZ (hu:X.A.units+64<cLine):j7 X (Pk .NotEq) (Em X.K):=by
 intro pins s σ H x y v u Q I rx ry h;obtain⟨a,b,ns,rfl,rfl,ha,hb,q⟩:=h;cases rx;cases ry;obtain⟨xs,r1,pl,_⟩:=I.list ha;obtain⟨ys,r2,pl2,_⟩:=I.list (bI.of (K:=X.K) hb);cases r2;exact PySem.W.ke_ne_ints pl.isList pl2.isList (qe r1) .nil hu ⟨.bl _,H,I,rfl,q⟩
theorem dh:j7 X (Pk .Eq) (E2 λi j=>.bl (decide (i=j))):=BD λ_ _ _ _ _ _ _ q=>eq_int (by rw[Sd];exact q)
theorem nO:j7 X (Pk .NotEq) (E2 λi j=>.bl (!decide (i=j))):=BD λ_ _ _ _ _ _ _ q=>ne_int (by rw[bne,Sd];exact q)
theorem Sm.bits {k:Nat}{x:Int}(h:Sm k x):Ri x<=k:=by
 unfold Ri
 split
 ·exact Om _
 ·rename_i hx
  have h0:x.natAbs≠0:=by
   intro z;apply hx;have:x=0:=by lia
   subst this;rfl
  have:x.natAbs.log2<k:=(W1 h0).mpr h;lia
def tT (i j:Int):Prop:=(Sm 8000 i/\Sm 8000 j)\/Sm 64 i
theorem aW:j7 X (QW .Mult) (rI tT λi j=>.int (i*j)):=LA λi j _ _ _ _ _ hc q=>mul_int q (by
 rcases hc with ⟨h1,h2⟩|h1
 ·exact UD (NP h1.bits (by decide)) (NP h2.bits (by decide))
 ·exact WH h1.bits)
def K' (_ j:Int):Prop:=j≠0/\Sm 8000 j
theorem di:j7 X (QW .FloorDiv) (rI K' λi j=>.int (i.fdiv j)):=LA λi j _ _ _ _ _ hc q=>floordiv_int hc.1 q (.inl (T7 (by
 by_cases h0:j.natAbs=0
 ·rw[h0];decide
 ·exact Nx ((W1 h0).mpr hc.2) (by decide))))
def cS (a b:String):Option Bool:=if((QV a==QV b)=true) then some true else if W5 b=true then(fastBuiltinMro a).map (·.contains (.type b)) else none
theorem q9 (K:HD)(a b:String):O4 K (.type a) (.type b)=cS a b:=rfl
abbrev Ty (K:HD)(H:Hp)(x:V)(T:String):Prop:=lC K H x (.type T)
def HM (K:HD):List V->Hp->VK->Prop:=λxs H Q=>∃ x T S b,xs=[x,.ty S]/\Ty K H x T/\cS T S=some b/\Q (.bl b) H
theorem wP:cq X (.builtin "isinstance") (HM X.K):=by
 intro pins s σ H xs us Q I r h;obtain⟨x,T,S,b,rfl,ty,e,q⟩:=h;obtain⟨u,v,rfl,rx,rv⟩:=jW r;cases(show v=QV S from rv);exact nH I rx ty (by rw[q9];exact e) λtk=>⟨.bl b,H,I.tok tk,rfl,q⟩
def uT (a:String):List String->Option Bool
 |[]=>some false
 |b::r=>match cS a b with
  |some true=>some true
  |some false=>uT a r
  |none=>none
end
def Kg:NQ->String
 |.none=>"NoneType"
 |.bool _=>"bool"
 |.int _=>"int"
 |.str _=>"str"
 |.list _=>"list"
 |.tuple _=>"tuple"
 |.dict _=>"dict"
theorem aw.ty {K:HD}{H:Hp}{d:NQ}{x:V}(h:aw K H d x):Ty K H x (Kg d):=by
 cases h with
 |non=>exact .non
 |bl b=>exact .bl b
 |int i=>exact .int i
 |str x=>exact .str x
 |lst h _=>
  rcases h with h|⟨o,h⟩
  ·exact .lst h
  ·exact .frz h
 |tup h _=>exact .tup h
 |dct h=>exact .dK h
def EZ (CX:jy):Prop:=∀ outer H s e s',CX outer H s E0 e s'->False
theorem qd (h:EZ CX):mY CX X E0:=λ_ _ _ _ _ _ _ z=>(h _ _ _ _ _ z).elim
structure df (P:ND)(w:N6)(K:HD)(mg:Str->Option Nd)(base:OZ)(CX:jy)(k:Nat)(x:Str)(ps:List Str)(dvs:List V)(sp:Sp):Prop where
 ex:∃ (f:Nn) (fd:OK) (ds:List Nd),gt P w K mg base CX k f fd ps sp/\mg x=some (.ref f)/\NM K (.ref f)=true/\ki K fd ps ds/\aM dvs ds
section
variable {X:Cx}{CX:jy}{k:Nat}{x:Str}{ps:List Str}{sp:Sp}{dvs:List V}{p pos:Pos}{e:Po}{es:List Po}{t:TA}
theorem FX (hX:EZ CX) (C:df X.prog X.w X.K X.mg X.base CX k x ps dvs sp) (hr:Room k X.A) (hg:Gl X x) (ha:WA X (e :: es) t) (hdb:(x == ("__debug__":Str))=false:=by decide)
  (he:NG (e::es) X.env=(false,QT e X.env)::NG es X.env:=by rfl)(hpl:(Q0 pos (NG es X.env)).any (·.1)=false:=by rfl):WE X (.Call (.Name x p) (e::es) [] pos) (ES sp dvs E0 t):=by
 have ha:=ha.go;refine⟨?_⟩;obtain⟨f,fd,ds,F,hm,hk,hb,hv⟩:=C.ex;exact Gh F hr hg hm hk hb hv (qd hX) ha hdb he hpl
end
structure de (K:HD)(mg:Str->Option Nd)(x:Str)(st:Pr)(ps:List Str)(dvs:List V):Prop where
 ex:∃ (f:Nn) (fd:OK) (oc:Nd) (od:Option Nn) (dV kV doc pm:Nd) (an:Option Nn) (cdv ct:Nd) (osl:Array (Option Nd)) (ds:List Nd),
  fd=NF x x (aO st) (aL st) (ag st) dV kV doc pm an cdv ct/\K.lookup f=some ⟨oc,od,.func fd,osl⟩/\NU K cdv x=true /\
  mg x=some (.ref f)/\NM K (.ref f)=true/\ki K fd ps ds/\aM dvs ds
section
variable {P:ND}{w:N6}{K:HD}{mg:Str->Option Nd}{base:OZ}{CX:jy}
theorem de.cal {x:Str}{st:Pr}{N ps:List Str}{dvs:List V}{k:Nat}{sp:Sp} (F:de K mg x st ps dvs) (S:ay N ps (ag st)) (len:∀ vs H Q E,sp vs H Q E->vs.length=ps.length:=by intro _ _ _ _ h;cases h;subst_vars;rfl)
  (bb:∀ (f:Nn) (cdv:Nd) (A:Oa) (outer:List Env) (s:Nh) (H:Hp) (vs:List V) (Q:VK) (E:XK),Room k (A.deeper (envOfC x (ag st) s.heap.objs.size f cdv))->sp vs H Q E ->
   ∃ t,xS (mi CX P w K mg base N x (ag st) f cdv A outer s H E).nox (aL st) t/\t { nx:=λ_ H'=>Q .non H',rt:=Q } (f_ N vs) H):df P w K mg base CX (k+1) x ps dvs sp:=by
 obtain⟨f,fd,oc,od,dV,kV,doc,pm,an,cdv,ct,osl,ds,rfl,lk,hcd,hm,hk,hb,hv⟩:=F.ex;refine⟨f,_,ds,oG lk hcd S len λA outer s H vs Q E hr hsp=>?_,hm,hk,hb,hv⟩;obtain⟨t,h,q⟩:=bb f cdv A outer s H vs Q E hr hsp;exact⟨t,h.nox,q⟩
theorem yl {x:Str}{st:Pr}{ps:List Str}{f:Nn}{oc:Nd}{od an:Option Nn}{osl:Array (Option Nd)}{kV doc pm cdv ct:Nd} (l:K.lookup f=some ⟨oc,od,.func (NF x x (aO st) (aL st) (ag st) .none kV doc pm an cdv ct),osl⟩)
  (c:NU K cdv x=true)(k:NM K (.ref f)=true)(m:mg x=some (.ref f))
  (h:∀ us:List Nd,us.length=ps.length->OE (NF x x (aO st) (aL st) (ag st) .none kV doc pm an cdv ct) ⟨us,[]⟩=pure (ps.zip us)):de K mg x st ps []:=
 ⟨f,_,oc,od,.none,kV,doc,pm,an,cdv,ct,osl,[],rfl,l,c,m,k,.all h,.nil⟩
theorem zN {x:Str}{st:Pr}{ps:List Str}{f T:Nn}{oc:Nd}{od an:Option Nn}{osl:Array (Option Nd)}{kV doc pm cdv ct:Nd}{oT:Obj}{items:Array Nd}{n:Nat}{ds:List Nd}{dvs:List V}
  (l:K.lookup f=some ⟨oc,od,.func (NF x x (aO st) (aL st) (ag st) (.ref T) kV doc pm an cdv ct),osl⟩)
  (c:NU K cdv x=true)(k:NM K (.ref f)=true)(m:mg x=some (.ref f))(lT:K.lookup T=some oT)(hT:oT.data=.seq items n)(hv:aM dvs ds)
  (h:∀ us:List Nd,(us++ds).length=ps.length->∃ kk:Option (Array Nd)->Sem (List (Str×Nd)),OE (NF x x (aO st) (aL st) (ag st) (.ref T) kV doc pm an cdv ct) ⟨us,[]⟩=Va (.ref T)>>=kk/\kk (some items)=pure (ps.zip (us++ds))):de K mg x st ps dvs:=
 ⟨f,_,oc,od,.ref T,kV,doc,pm,an,cdv,ct,osl,ds,rfl,l,c,m,k,λs us X hl=>by
  obtain⟨kk,h1,h2⟩:=h us hl;exact BindsTo.of_defaults rfl (X T oT lT) hT h1 h2,hv⟩
end
end TR
namespace TR
open PySem PySem.Spec PyProof.Rows L2
abbrev Bf (n d:Int):NQ:=.tuple [.int n,.int d]
theorem dm {K:HD}{H:Hp}{n d:Int}{v:V}(h:aw K H (Bf n d) v):∃ a,v=.ref a/\H a=some (.tup [.int n,.int d]):=by
 cases h with
 |tup h q=>
  cases q with
  |cons q1 q2=>
   cases q1;cases q2 with
   |cons q3 q4=>
    cases q3;cases q4;exact⟨_,rfl,h⟩
theorem zX {K:HD}{H:Hp}{n d:Int}{a:Nn}(h:H a=some (.tup [.int n,.int d])):aw K H (Bf n d) (.ref a):=.tup h (.cons (.int _) (.cons (.int _) .nil))
def Sh (K:HD)(H:Hp)(t b:Int)(Q:VK):Prop:=∀ v n d H',ae H H'->aw K H' (Bf n d) v->CM t b n d->Q v H'
structure Ok (k:Nat)(n d:Int):Prop where
 pos:0<d
 co:O3 n d=1
 sn:Sm k n
 sd:Sm k d
theorem CM.ok {t b n d:Int}{k:Nat}(h:CM t b n d)(hb:b≠0)(st:Sm k t)(sb:Sm k b):Ok k n d:=
 ⟨h.1,h.2.1,st.le (qT hb h).1,sb.le (qT hb h).2⟩
theorem Ok.mono {j k:Nat}{n d:Int}(h:Ok j n d)(l:j<=k):Ok k n d:=⟨h.pos,h.co,h.sn.mono l,h.sd.mono l⟩
theorem Ok.ne {k:Nat}{n d:Int}(h:Ok k n d):d≠0:=by have:=h.pos;lia
def shB:NQ->Bool
 |.tuple [.int n,.int d]=>decide (1<=d)&&decide (O3 n d=1)
 |_=>false
theorem Ok.shB {k:Nat}{n d:Int}(h:Ok k n d):TR.shB (Bf n d)=true:=by
 have:=h.pos;show(decide (1<=d)&&decide (O3 n d=1))=true;rw[Nq (show 1<=d by lia),Nq h.co];rfl
theorem xL:[a].length<=Nv:=by show 1<=Nv;decide
theorem mV:[a,b].length<=Nv:=by show 2<=Nv;decide
theorem sk:[a,b,c].length<=Nv:=by show 3<=Nv;decide
section
variable {K:HD}{H:Hp}{Q:VK}{a:Nn}{x y z:V}
theorem oE (h:H a=some (.tup [x,y]))(q:Q x H):GK K (.ref a) (.int 0) H Q:=.inr (.inl ⟨a,_,0,x,rfl,rfl,cW.of h,rfl,q⟩)
theorem ib (h:H a=some (.tup [x,y]))(q:Q y H):GK K (.ref a) (.int 1) H Q:=.inr (.inl ⟨a,_,1,y,rfl,rfl,cW.of h,rfl,q⟩)
theorem He (h:H a=some (.lst [x,y]))(q:Q x H):GK K (.ref a) (.int 0) H Q:=.inl ⟨a,_,0,x,rfl,rfl,bI.of h,rfl,q⟩
theorem yX (h:H a=some (.lst [x,y]))(q:Q y H):GK K (.ref a) (.int 1) H Q:=.inl ⟨a,_,1,y,rfl,rfl,bI.of h,rfl,q⟩
end
def yt:V->Bool
 |.int _=>true
 |_=>false
theorem HW {K:HD}{H:Hp}{x:V}{T:String}(h:Ty K H x T):∃ b,cS T "int"=some b/\if b=true then ∃ c,cS T "bool"=some c/\yt x=!c else yt x=false:=by
 cases h with
 |non=>exact⟨false,by decide +kernel,bJ rfl⟩
 |bl b=>exact⟨true,by decide +kernel,aZ ⟨true,by decide +kernel,rfl⟩⟩
 |int i=>exact⟨true,by decide +kernel,aZ ⟨false,by decide +kernel,rfl⟩⟩
 |str x=>exact⟨false,by decide +kernel,bJ rfl⟩
 |flt x=>exact⟨false,by decide +kernel,bJ rfl⟩
 |lst e=>exact⟨false,by decide +kernel,bJ rfl⟩
 |frz e=>exact⟨false,by decide +kernel,bJ rfl⟩
 |tup e=>exact⟨false,by decide +kernel,bJ rfl⟩
 |dK e=>exact⟨false,by decide +kernel,bJ rfl⟩
 |dT e=>exact⟨false,by decide +kernel,bJ rfl⟩
theorem av.length {K:HD}{H:Hp}:∀ {ds:List NQ}{xs:List V},av K H ds xs->ds.length=xs.length
 |_,_,.nil=>rfl
 |_,_,.cons _ q=>by rw[N5,N5,av.length q]
theorem Fb (h:ds.length≠2):shB (.tuple ds)=false:=by
 match ds,h with
 |[],_=>rfl
 |[a],_=>cases a<;>rfl
 |[a,b],h=>exact absurd rfl h
 |a::b::c::r,_=>cases a<;>(try rfl)<;>cases b<;>rfl
theorem Lw {K:HD}{H:Hp}{d e:NQ}{x:V}(g:aw K H d x)(h:yt x=false):shB (.tuple [d,e])=false:=by
 cases g with
 |int i=>exact absurd h (by simp[yt])
 |_=>rfl
theorem Ku {K:HD}{H:Hp}{d e:NQ}{x:V}(g:aw K H e x)(h:yt x=false):shB (.tuple [d,e])=false:=by
 cases g with
 |int i=>exact absurd h (by simp[yt])
 |_=>cases d<;>rfl
theorem zt {K:HD}{H:Hp}{d:NQ}{x:V}(g:aw K H d x)(h:yt x=true):∃ n,d=.int n/\x=.int n:=by
 cases g with
 |int i=>exact⟨i,rfl,rfl⟩
 |_=>exact absurd h (by simp[yt])
def cE (H:Hp)(t r:Nn):Prop:=∃ (cells:List Int) (k:Int),H t=some (.lst [.ref r,.int k])/\H r=some (.lst (cells.map V.int))/\cells≠[]/\cells.length<=63
theorem cE.lists (h:cE H t r):hV H [t,r]:=λb m=>by
 obtain⟨c,k,h1,h2,_⟩:=h;rcases Nl.mp m with rfl|m
 ·exact⟨_,h1⟩
 ·cases Nm.mp m;exact⟨_,h2⟩
theorem cE.same (h:cE H t r)(e:ae H H'):cE H' t r:=by
 obtain⟨c,k,h1,h2,h3,h4⟩:=h;exact⟨c,k,e _ _ h1,e _ _ h2,h3,h4⟩
theorem cE.ne (h:cE H t r):t≠r:=by
 obtain⟨c,k,h1,h2,h3,h4⟩:=h;refine GB h1 h2 λz=>?_
 cases c with
 |nil=>exact h3 rfl
 |cons x c=>
  injection z with z
  injection z with z _
  cases z
theorem zH [Decidable p](h:p):V.bl (decide p)=V.bl true:=by rw[Nq h]
theorem Mv.upd (m:p∈[t,r]):Mv [t,r] H (upd H p o):=λb u e n=>by
 rw[az (show b≠p from λz=>n (z▸m))];exact e
theorem Kq.okX {P:ND}{w:N6}{K:HD}{mg:Str->Option Nd}{base:OZ}{CX:jy}{x qual:Str}{st:Pr}{f:Nn}{fd:OK}{N ps:List Str}{k:Nat}{sp:Sp} (F:Kq K x qual st f fd) (S:ay N ps (ag st)) (len:∀ vs H Q E,sp vs H Q E->vs.length=ps.length:=by intro _ _ _ _ h;cases h;subst_vars;rfl)
  (bb:∀ (cdv:Nd) (A:Oa) (outer:List Env) (s:Nh) (H:Hp) (vs:List V) (Q:VK) (E:XK),Room k (A.deeper (envOfC qual (ag st) s.heap.objs.size f cdv))->sp vs H Q E ->
   ∃ t,xS (mi CX P w K mg base N qual (ag st) f cdv A outer s H E).nox (aL st) t/\t { nx:=λ_ H'=>Q .non H',rt:=Q } (f_ N vs) H):gt P w K mg base CX (k+1) f fd ps sp:=by
 obtain⟨oc,od,kV,doc,pm,an,cdv,ct,osl,rfl,lk,hcd⟩:=F.ex;refine oG lk hcd S len λA outer s H vs Q E hr hsp=>?_
 obtain⟨t,h,q⟩:=bb cdv A outer s H vs Q E hr hsp;exact⟨t,h.nox,q⟩
def bG (X:Cx)(N:List Str)(scope:Q7)(cl:List (Str×Nn))(C:Nn)(s0:Nh)(H0:Hp)(fp:List Nn)(pn:List (Nn×Obj)):Cx:=
 { X with N:=N,s₀:=s0,H₀:=H0,env:=QK scope cl C X.env,outer:=X.stack,stack:=X.stack,ex:=fp,fn:=λx=>scope.names.lookup x==some .cell,pn:=X.pn++pn,xe:=λ_ _=>False }
def BW (k:Nat)(js:List Nat)(σ:L2.St):L2.St:=Np k none++js.map λj=>(σ[j]?).join
def pW (cells:List (Str×Nn)):List (Str×QH)->List (Str×Nn)->List (Str×Nn)
 |[],acc=>acc
 |(n,k)::r,acc=>if(k==.free)=true then pW cells r ((n,(cells.lookup n).getD 0)::acc) else pW cells r acc
theorem ni (h:∀ y∈scope.names,y.2=.free->∃ c,env.cells.lookup y.1=some c):closureFor scope env=pure (pW env.cells scope.names []):=by
 have key:∀ (names:List (Str × QH)) (acc:List (Str × Nn)),(∀ y ∈ names,y.2=.free->∃ c,env.cells.lookup y.1=some c) ->
   (forIn names acc λ(x:Str×QH) (r:List (Str×Nn))=>(match x with
    |(name,kind)=>if(kind==.free)=true then(do let c <- cellOf env name;pure (QM ((name,c)::r))) else pure (QM r):Sem (ForInStep (List (Str×Nn)))))=(pure (pW env.cells names acc):Sem (List (Str×Nn))):=by
  intro names
  induction names with
  |nil=>intro acc _;rfl
  |cons y r ih=>
   intro acc hy;obtain⟨n,k⟩:=y;have hr:=λz hz=>hy z (Nr _ hz)
   rw[Rv];unfold pW
   by_cases hk:(k==Oc)=true
   ·obtain⟨c,hc⟩:=hy (n,k) NC (by simpa using hk);simp only[hk,PD];have e:cellOf env n=pure c:=by unfold cellOf;rw[hc]
    rw[e,hc];exact ih _ hr
   ·simp only[hk];exact ih _ hr
 unfold closureFor;have:=key scope.names [] h
 first
  |exact this
  |(simp only[bind_pure];exact this)
  |(rw[bind_pure];exact this)
  |(show(forIn scope.names [] _>>=λr=>pure r)=_;rw[bind_pure];exact this)
theorem dO:∀ {names:List (Str×QH)}{acc:List (Str×Nn)}{x:Str}{c:Nn},(∀ y∈names,y.2=.free->∃ c,cells.lookup y.1=some c)->(pW cells names acc).lookup x=some c->acc.lookup x=some c\/((x,Oc)∈names/\cells.lookup x=some c)
 |[],_,_,_,_,e=>.inl e
 |(n,k)::r,acc,x,c,hy,e=>by
  unfold pW at e;have hr:=λz hz=>hy z (Nr _ hz)
  by_cases hk:(k==Oc)=true
  ·rw[NZ hk] at e;have hk':k=.free:=by simpa using hk
   rcases dO hr e with e|⟨m,e⟩
   ·rw[Oq] at e;cases hx:x==n with
    |true=>
     rw[hx] at e;have hxn:x=n:=by simpa using hx
     obtain⟨c',hc'⟩:=hy (n,k) NC hk';have hc':cells.lookup n=some c':=hc';rw[hc'] at e;have e:c'=c:=by simpa using e
     subst e hxn hk';exact .inr ⟨NC,hc'⟩
    |false=>
     rw[hx] at e;exact .inl e
   ·exact .inr ⟨Nr _ m,e⟩
  ·rw[NS hk] at e;rcases dO hr e with e|⟨m,e⟩
   ·exact .inl e
   ·exact .inr ⟨Nr _ m,e⟩
theorem f7:∀ {names:List (Str×QH)}{acc:List (Str×Nn)}{x:Str},(∃ c,acc.lookup x=some c)\/(x,Oc)∈names->∃ c,(pW cells names acc).lookup x=some c
 |[],_,_,h=>by
  rcases h with h|h
  ·exact h
  ·cases h
 |(n,k)::r,acc,x,h=>by
  unfold pW
  by_cases hk:(k==Oc)=true
  ·rw[NZ hk];refine f7 ?_;rcases h with ⟨c,e⟩|h
   ·refine .inl ?_;rw[Oq];cases x==n with
    |true=>exact⟨_,rfl⟩
    |false=>exact⟨c,e⟩
   ·rcases Nl.mp h with e|h
    ·injection e with e1 e2
     subst e1;exact .inl ⟨_,by rw[Oq];simp;rfl⟩
    ·exact .inr h
  ·rw[NS hk];refine f7 ?_;rcases h with h|h
   ·exact .inl h
   ·rcases Nl.mp h with e|h
    ·injection e with e1 e2
     subst e2;exact absurd rfl hk
    ·exact .inr h
theorem nA:∀ {names:List (Str×QH)}{n:Nat}{acc:List (Str×Nn)}{x:Str}{c:Nn},(RI n names acc).lookup x=some c->acc.lookup x=some c\/((x,OC)∈names/\n<=c)
 |[],_,_,_,_,e=>.inl e
 |(y,k)::r,n,acc,x,c,e=>by
  unfold RI at e
  by_cases hk:(k==OC)=true
  ·rw[NZ hk] at e;rcases nA e with e|⟨m,l⟩
   ·rw[Oq] at e;cases hx:x==y with
    |true=>
     rw[hx] at e;have e:n=c:=by simpa using e
     have hxy:x=y:=by simpa using hx
     have hk':k=.cell:=by simpa using hk
     subst e hxy hk';exact .inr ⟨NC,Nj _⟩
    |false=>
     rw[hx] at e;exact .inl e
   ·exact .inr ⟨Nr _ m,RZ l⟩
  ·rw[NS hk] at e;rcases nA e with e|⟨m,l⟩
   ·exact .inl e
   ·exact .inr ⟨Nr _ m,l⟩
structure wN (X:Cx)(scope:Q7):Prop where
 kind:scope.kind=.function
 once:∀ y∈scope.names,scope.names.lookup y.1=some y.2
 one:∀ y∈scope.names,∀ z∈scope.names,y.2=.cell->z.2=.cell->y.1=z.1
 kinds:∀ y∈scope.names,y.2=.local\/y.2=.globalImplicit\/y.2=.cell\/y.2=.free
 free:∀ y∈scope.names,y.2=.free->∃ c,X.env.cells.lookup y.1=some c
abbrev a_ (X:Cx)(scope:Q7)(C:Nn):List (Str×Nn):=RI (C+1) scope.names (pW X.env.cells scope.names [])
section
variable {X:Cx}{scope:Q7}{C:Nn}(S:wN X scope)
include S
theorem gf (e:(a_ X scope C).lookup x=some c):(X.env.cells.lookup x=some c/\scope.names.lookup x=some .free)\/(C+1<=c/\scope.names.lookup x=some .cell):=by
 rcases nA e with e|⟨m,l⟩
 ·rcases dO S.free e with e|⟨m,e⟩
  ·cases e
  ·exact .inl ⟨e,S.once _ m⟩
 ·exact .inr ⟨l,S.once _ m⟩
theorem Jj (e:(a_ X scope C).lookup x=some c)(e':(a_ X scope C).lookup y=some c)(hi:∀ x y c,X.env.cells.lookup x=some c->X.env.cells.lookup y=some c->x=y)(hl:∀ x c,X.env.cells.lookup x=some c->c<C):x=y:=by
 rcases gf S e with ⟨a,_⟩|⟨a,k⟩
 ·rcases gf S e' with ⟨b,_⟩|⟨b,_⟩
  ·exact hi x y c a b
  ·exact absurd (hl x c a) (O0.mpr (RZ b))
 ·rcases gf S e' with ⟨b,_⟩|⟨b,k'⟩
  ·exact absurd (hl y c b) (O0.mpr (RZ a))
  ·exact S.one (x,.cell) (Pp k) (y,.cell) (Pp k') rfl rfl
theorem Di (h:(QK scope (a_ X scope C) C X.env).kindOf x=some .cell\/(QK scope (a_ X scope C) C X.env).kindOf x=some .free):∃ c,(a_ X scope C).lookup x=some c:=by
 have key:∀ (names:List (Str × QH)),((names.map fun (n,k)=>if (k == Oc && X.env.scope.kind == .function && X.env.kindOf n == some .cell) then (n,OC) else (n,k)).lookup x=some .cell \/
   (names.map λ(n,k)=>if(k==Oc&&X.env.scope.kind==.function&&X.env.kindOf n==some .cell) then(n,OC) else(n,k)).lookup x=some .free)->(x,Oc)∈names\/(x,OC)∈names:=by
  intro names
  induction names with
  |nil=>intro h;simp at h
  |cons y r ih=>
   intro h;obtain⟨n,k⟩:=y
   by_cases hx:(x==n)=true
   ·have hxn:x=n:=by simpa using hx
    subst hxn
    by_cases hc:(k==Oc&&X.env.scope.kind==.function&&X.env.kindOf x==some .cell)=true
    ·have:k=.free:=by
      rw[NO,NO] at hc
      simpa using hc.1.1
     subst this;exact .inl NC
    ·simp only[NE,hc,Oq,hx] at h;rcases h with h|h
     ·have:k=.cell:=by simpa using h
      subst this;exact .inr NC
     ·have:k=.free:=by simpa using h
      subst this;exact .inl NC
   ·have hx':(x==n)=false:=by simpa using hx
    have e:∀ (kk:QH),((((n,k) :: r).map fun (n,k)=>if (k == Oc && X.env.scope.kind == .function && X.env.kindOf n == some .cell) then (n,OC) else (n,k)).lookup x=some kk) ->
      ((r.map λ(n,k)=>if(k==Oc&&X.env.scope.kind==.function&&X.env.kindOf n==some .cell) then(n,OC) else(n,k)).lookup x=some kk):=λkk h=>by
     rw[NE,Oq] at h;have:(x==((λ(y:Str×QH)=>match y with|(n,k)=>if(k==Oc&&X.env.scope.kind==VV&&X.env.kindOf n==some OC) then(n,OC) else(n,k)) (n,k)).1)=false:=by
      show(x==(if(k==Oc&&X.env.scope.kind==VV&&X.env.kindOf n==some OC)=true then(n,OC) else(n,k)).1)=false
      split<;>exact hx'
     rw[this] at h;exact h
    rcases h with h|h
    ·rcases ih (.inl (e _ h)) with z|z
     ·exact .inl (Nr _ z)
     ·exact .inr (Nr _ z)
    ·rcases ih (.inr (e _ h)) with z|z
     ·exact .inl (Nr _ z)
     ·exact .inr (Nr _ z)
 rcases key scope.names h with z|z
 ·obtain⟨c,e⟩:=f7 (cells:=X.env.cells) (acc:=[]) (.inr z);exact O9.mp (QF _ _ _ (.inr (by rw[e];rfl)))
 ·exact O9.mp (QF _ _ _ (.inl (S.once _ z)))
end
theorem EI
  (hQ:∀ h',(∃ m,h'.Ns s.heap.objs.size m)->(∀ x c,(RI (s.heap.objs.size+1) scope.names cl).lookup x=some c->cl.lookup x=some c\/h'.IsCell c none)->(∀ b o,s.heap.get? b=some o->h'.get? b=some o) ->
   Q (newEnv scope s.heap.objs.size globals (RI (s.heap.objs.size+1) scope.names cl) qual none .none (some env) R5) { s with heap:=h' }) :
  Nu M A (TN scope globals cl [] qual none .none (some env)) Q E s:=by
 have lem:∀ (names:List (Str×QH)) (h:OZ) (acc:List (Str×Nn)) (x:Str) (c:Nn),(RI h.objs.size names acc).lookup x=some c->acc.lookup x=some c\/(pushCells h names).IsCell c none:=by
  intro names
  induction names with
  |nil=>intro h acc x c e;exact .inl e
  |cons y r ih=>
   intro h acc x c e;obtain⟨n,k⟩:=y;unfold RI at e;unfold pushCells
   by_cases hk:(k==OC)=true
   ·rw[NZ hk] at e ⊢;have hs:h.objs.size+1=(h.push { cls:=.type "cell",data:=.cell none }).objs.size:=(Oe ..).symm;rw[hs] at e;rcases ih _ _ _ _ e with e|e
    ·rw[Oq] at e;cases hx:x==n with
     |true=>
      rw[hx] at e;have e:h.objs.size=c:=by simpa using e
      subst e;exact .inr ⟨_,U_ r _ _ _ (Ng _ rfl),rfl⟩
     |false=>
      rw[hx] at e;exact .inl e
    ·exact .inr e
   ·rw[NS hk] at e ⊢;exact ih _ _ _ _ e
 simp only[TN,VO,PD];refine KE (wpAny_alloc ?_);refine KE (wpAny_layCells _ (λname kind cells=>by cases hkc:kind==OC<;>simp[hkc]) _ _ _ _ ?_);rw[show({ s with heap:=s.heap.push { cls:=.type "dict",data:=.dict #[] } }:Nh).heap.objs.size=s.heap.objs.size+1 from Oe ..];simp only[R_];refine KE (Nc (Nc ?_));refine hQ _ ⟨_,(Heap.Ns.new s.heap (.type "dict")).keeps (U_ _ _)⟩ (λx c e=>?_) λb o e=>U_ _ _ b o (Na _ e)
 have:=lem scope.names (s.heap.push { cls:=.type "dict",data:=.dict #[] }) cl x c;rw[Oe] at this;exact this e
section
variable {X:Cx}{pins:List (Nn×Obj)}{σ:L2.St}{H H2:Hp}{s s2:Nh}
def qC (X:Cx)(scope:Q7)(N:List Str)(σ σ0:L2.St):Prop:=
 ∀ (i:Nat) (x:Str) (v:V),N[i]?=some x->σ0[i]?=some (some v)->∃ j:Nat,X.N[j]?=some x/\σ[j]?=some (some v)/\(X.env.kindOf x=some .cell\/X.env.kindOf x=some .free)/\scope.names.lookup x=some .free /\
  ((QK scope [] 0 X.env).kindOf x=some .cell\/(QK scope [] 0 X.env).kindOf x=some .free)
theorem uv (I:aD X pins σ H s)(h1:b≠X.env.locals)(h2:b∉X.fs):b∉kH X.stack:=λz=>(Nl.mp (I.stkSub b z)).elim h1 h2
theorem CU {tk:Nat} (I:aD X pins σ H2 s2) (S:wN X scope)
  (hcap:qC X scope N σ σ0)(hlen:σ0.length=N.length)(f2:∀ b∈fp,l4 X pins H2 b)(fo:∀ b∈fp,∃ o,s2.heap.get? b=some o)(hC:s2.heap.objs.size<=C)(hD:s2.heap.objs.size<=D)(hDC:D≠C)
  (old:∀ b o,s2.heap.get? b=some o->h1.get? b=some o)(hnC:∃ m,h1.Ns C m)(heD:h1.get? D=some oD)(hoD:∀ v,oD.data≠.cell v)(own:∀ x c,(a_ X scope C).lookup x=some c->C+1<=c->h1.IsCell c none):
  aD (bG X N scope (a_ X scope C) C s2 H2 fp pins) [(D,oD)] σ0 H2 { s2 with heap:=h1,toks:=tk }:=by
 have ltne:∀ b,b<s2.heap.objs.size->b≠C/\b≠D:=λb hb=>⟨λz=>absurd (z▸hb) (O0.mpr hC),λz=>absurd (z▸hb) (O0.mpr hD)⟩
 have cellLt:∀ x c,X.env.cells.lookup x=some c->c<s2.heap.objs.size:=λx c e=>by
  obtain⟨v,q⟩:=I.cell x c e;exact q.lt
 have big:∀ c:Nn,C+1<=c->s2.heap.objs.size<=c:=λc h=>NP hC (RZ h)
 have frLt:∀ b∈kH X.stack,b<s2.heap.objs.size:=λb hb=>by
  obtain⟨_,o,ho,_⟩:=I.stack.mem hb;exact Nf ho
 refine⟨⟨I.ok.mod,S.kind,I.ok.glob,I.ok.blt,hC,?_,?_,?_,I.ok.hd,I.ok.frames,.inl rfl,?_,?_,?_,?_,?_,I.stack,I.stkFree⟩,rfl,I.bare,Un.kept old,?_,?_,?_,?_,?_,I.hok.kept old,hlen⟩
 ·intro x y c e1 e2;exact Jj S e1 e2 I.ok.inj λx c e=>Nx (cellLt x c e) hC
 ·intro x hx;exact Di S hx
 ·intro x c hf e;rcases gf S e with ⟨_,k⟩|⟨l,_⟩
  ·have hf:(scope.names.lookup x==some OC)=true:=hf;rw[k] at hf;cases hf
  ·exact big c l
 ·intro b hb;obtain⟨o,ho⟩:=fo b hb;refine⟨(ltne b (Nf ho)).1,λx c e=>?_⟩;rcases gf S e with ⟨e,_⟩|⟨l,_⟩
  ·exact(f2 b hb).2.2.2.2.1 x c e
  ·exact λz=>absurd (Nf ho) (O0.mpr (z▸big c l))
 ·exact λb o e=>I.bs b o e
 ·exact NP I.ok.bsz I.sz
 ·intro b o e hb;rcases(f2 b hb).2.2.2.1 with z|z
  ·exact I.ok.noex b o e z
  ·exact absurd (Nx (Nf e) (NP I.ok.bsz z)) (N0 _)
 ·intro b hb;exact uv I (f2 b hb).2.1 (f2 b hb).2.2.1
 ·obtain⟨m1,hm1⟩:=hnC;refine⟨m1,hm1,λi x v e1 e2 _=>?_⟩;obtain⟨j,j1,j2,j3,jf,j4⟩:=hcap i x v e1 e2;obtain⟨m,hn,hl⟩:=I.loc;have vis:JG X.env.scope x:=by
   rcases j3 with z|z
   ·exact .inr (.inl z)
   ·exact .inr (.inr z)
  obtain⟨u,r,l⟩:=hl j x v j1 j2 vis;refine⟨u,r,.inr ⟨j4,?_⟩⟩;obtain⟨c,hc⟩:=Di S (C:=C) j4;rcases l with ⟨k,_⟩|⟨_,c',e',z'⟩
  ·exfalso;rcases j3 with z|z<;>(rw[z] at k;cases k)
  ·rcases gf S hc with ⟨e,_⟩|⟨_,k⟩
   ·rw[e'] at e;cases e;exact⟨_,hc,z'.keeps old⟩
   ·rw[jf] at k;cases k
 ·intro x c e;rcases gf S e with ⟨e,_⟩|⟨l,_⟩
  ·obtain⟨v,q⟩:=I.cell x c e;exact⟨v,q.keeps old⟩
  ·exact⟨_,own x c e l⟩
 ·exact I.hok.fresh hC
 ·intro x c e;rcases gf S e with ⟨e,_⟩|⟨l,_⟩
  ·exact I.freeC x c e
  ·exact I.hok.fresh (big c l)
 ·intro p hp;rcases Ou.mp hp with hp|hp
  ·obtain⟨q1,q2,q3,q4,q5⟩:=I.pin p hp;exact⟨old _ _ q1,q2,(ltne _ (Nf q1)).1,uv I q3 q4,q5⟩
  ·cases Nm.mp hp;exact⟨heD,I.hok.fresh hD,hDC,λz=>absurd (frLt D z) (O0.mpr hD),hoD⟩
theorem Cy {n:Nat} (I:aD X pins σ H2 s2)
  (f2:∀ b∈fp,l4 X pins H2 b)(hD:s2.heap.objs.size<=D)(J:aD (bG X N scope (a_ X scope C) C s2 H2 fp pins) ((D,{ cls:=.type "list",data:=.seq its.toArray n })::pl) σ0 H' s')(r:aM ys its)(hz:ys.length<=Nv):
  aD X pins σ (upd H' D (.lst ys)) s':=by
 have pD:=J.pin (D,{ cls:=.type "list",data:=.seq its.toArray n }) (Ny _ NC);have fD:H' D=none:=pD.2.1;have u0:Un (kH X.stack) fp H2 H' s2.heap s'.heap:=J.base;have fr2:H2 D=none:=I.hok.fresh hD;have u:Un (kH X.stack) fp H2 (upd H' D (.lst ys)) s2.heap s'.heap:=by
  refine⟨u0.keep,u0.slot,λb o e n' hx=>?_,u0.there,λb xs e=>?_,λb o w e=>?_,λb ps e=>?_⟩
  ·rw[az (show b≠D from λz=>absurd (Nf e) (O0.mpr (by rw[z];exact hD)))];exact u0.free b o e n' hx
  ·rw[az (aS e fr2)];exact u0.tups b xs e
  ·rw[az (aS e fr2)];exact u0.frzs b o w e
  ·rw[az (aS e fr2)];exact u0.tbls b ps e
 refine I.call' (ch:=fp) J.os u (λb o e=>?_) J.bare λb hb=>?_
 ·by_cases hb:b=D
  ·subst hb;rw[ai] at e;cases e;exact⟨hz,its,n,r,pD.1⟩
  ·rw[az hb] at e;exact(J.hok b o e).stay (λ_ _ _ q=>q) (λc q=>by rw[az (aS q fD)];exact q) λc xs q=>by rw[az (aS q fD)];exact q
 ·obtain⟨_,g1,_,g3,g4,g5⟩:=f2 b hb;exact⟨g3,g1,g4,g5⟩
def LW (X:Cx)(ifs:List Po)(t:TT):Prop:=
 ∀ (pins:List (Nn×Obj)) (s:Nh) (σ:L2.St) (H:Hp) (Q:Bool->Hp->Prop),aD X pins σ H s->t σ H Q ->
  Nu (NI X.prog X.w) X.A (forIn ifs true λc r=>if r=true then do let ok <- isTrue c X.env (QT c X.env);pure (QM ok) else pure (QM r)) (TP X pins σ Q) X.xe s
structure HY (X:Cx)(e:List Po)(t:TT):Prop where
 go:LW X e t
def Ma:TT:=λ_ H Q=>Q true H
theorem aJ:HY X [] Ma:=by
 exact⟨λ_ _ _ H _ I h=>wpAny_tests_nil ⟨H,I,h⟩⟩
def jj (J:It)(g:TG)(tt:TT)(te:TE)(σ0:L2.St)(Fin:List V->Hp->Prop)(H1:Hp):Prop:=∃ W:Nat->Nat->List V->Hp->Prop,(∃ m,W 0 m [] H1)/\∀ i m ys H2,W i m ys H2 ->
 (J.stop i H2/\ys.length<=Nv/\Fin ys H2) \/
 (J.go i H2/\ys.length<Nv/\∀ x H3,J.yld i H2 x H3->g x σ0 H3 λσ' H4=>tt σ' H4 λb H5=>if b=true then te σ' H5 λy H6=>∃ m',m'<m/\W (i+1) m' (ys++[y]) H6 else ∃ m',m'<m/\W (i+1) m' ys H5)
end
def pV (sc:Q7):Bool:=sc.kind==.function&&sc.names.all (λy=>sc.names.lookup y.1==some y.2)&&sc.names.all (λy=>sc.names.all λz=>!(y.2==.cell&&z.2==.cell)||y.1==z.1) &&
 sc.names.all λy=>y.2==.local||y.2==.globalImplicit||y.2==.cell||y.2==.free
theorem mj (h:pV scope=true)(hf:(scope.names.all λy=>!(y.2==.free)||(X.env.cells.lookup y.1).isSome)=true):wN X scope:=by
 unfold pV at h;simp only[NO,Og] at h;obtain⟨⟨⟨h1,h2⟩,h3⟩,h4⟩:=h;refine⟨by simpa using h1,λy hy=>by simpa using h2 y hy,λy hy z hz a b=>?_,λy hy=>?_,λy hy e=>?_⟩
 ·have:=h3 y hy z hz;rw[a,b] at this
  simpa using this
 ·have:=h4 y hy;simp only[UW,OH] at this;rcases this with ((q|q)|q)|q
  ·exact .inl q
  ·exact .inr (.inl q)
  ·exact .inr (.inr (.inl q))
  ·exact .inr (.inr (.inr q))
 ·rw[Og] at hf;have:=hf y hy;rw[e] at this;exact O9.mp (by simpa using this)
def mL (X:Cx)(scope:Q7)(cs:List Str)(js:List Nat):Bool:=(cs.zip js).all λp=>(X.N[p.2]?==some p.1)&&(X.env.kindOf p.1==some .cell||X.env.kindOf p.1==some .free)&&(scope.names.lookup p.1==some .free) &&
 ((QK scope [] 0 X.env).kindOf p.1==some .cell||(QK scope [] 0 X.env).kindOf p.1==some .free)
theorem qX (h:mL X scope cs js=true) (hl:cs.length=js.length) {k:Nat} (hk:ts.length=k) (σ:L2.St) (_:σ.length=X.N.length) :
  qC X scope (ts++cs) σ (BW k js σ)/\(BW k js σ).length=(ts++cs).length:=by
 subst hk;refine⟨λi x v e1 e2=>?_,by unfold BW;simp[hl]⟩;unfold BW at e2;have hi:ts.length<=i:=by
  rcases Ww i ts.length with z|z
  ·rw[Pq (by simpa using z),Rx,NZ z] at e2;cases e2
  ·exact z
 rw[OU hi] at e1;rw[OU (by simpa using hi),U1,NB] at e2;cases hj:js[i-ts.length]? with
 |none=>rw[hj] at e2;cases e2
 |some j=>
  rw[hj] at e2;have e2:(σ[j]?).join=some v:=Nb e2;have e3:σ[j]?=some (some v):=by
   cases q:σ[j]? with
   |none=>rw[q] at e2;cases e2
   |some o=>rw[q] at e2;exact Ql some e2
  have m:(x,j)∈cs.zip js:=by
   have:(cs.zip js)[i-ts.length]?=some (x,j):=by rw[TK];exact⟨e1,hj⟩
   exact NJ this
  unfold mL at h;rw[Og] at h;have c:=h _ m;simp only[NO,UW,OH] at c;exact⟨j,c.1.1.1,e3,c.1.1.2,c.1.2,c.2⟩
def lQ (b:Bool)(h:OZ)(j q:Nn)(k:Nat)(its:Array Nd):Prop:=match b with
 |true=>h.IsListIter j q k/\h.IsList q its
 |false=>h.IsTupleIter j q k/\h.IsTuple q its
theorem lQ.keep {k:Nat}(x:lQ b h j q k its)(e1:∀ o,h.get? j=some o->g.get? j=some o)(e2:∀ o,h.get? q=some o->g.get? q=some o):lQ b g j q k its:=by
 cases b with
 |true=>
  obtain⟨⟨o,a,r⟩,⟨u,c,t⟩⟩:=x;exact⟨⟨o,e1 o a,r⟩,⟨u,e2 u c,t⟩⟩
 |false=>
  obtain⟨⟨o,a,r⟩,⟨u,c,t⟩⟩:=x;exact⟨⟨o,e1 o a,r⟩,⟨u,e2 u c,t⟩⟩
theorem lQ.ext {k:Nat}(x:lQ b h j q k its)(e:Uh c h g)(n1:j≠c)(n2:q≠c):lQ b g j q k its:=
 x.keep (λo a=>e j o n1 a) λo a=>e q o n2 a
theorem lQ.there {k:Nat}(x:lQ b h j q k its):∃ o vs,h.get? j=some o/\o.data=.fields vs:=by
 cases b with
 |true=>
  obtain⟨⟨o,a,_,d⟩,_⟩:=x;exact⟨o,_,a,d⟩
 |false=>
  obtain⟨⟨o,a,_,d⟩,_⟩:=x;exact⟨o,_,a,d⟩
theorem lQ.src {k:Nat}(x:lQ b h j q k its):∃ o n,h.get? q=some o/\o.data=.seq its n:=by
 cases b with
 |true=>
  obtain⟨_,⟨o,a,_,n,d⟩⟩:=x;exact⟨o,n,a,d⟩
 |false=>
  obtain⟨_,⟨o,a,_,n,d⟩⟩:=x;exact⟨o,n,a,d⟩
theorem lQ.ne {k:Nat}(x:lQ b h j q k its):q≠j:=λz=>by
 obtain⟨o,vs,a,d⟩:=x.there;obtain⟨u,n,c,t⟩:=x.src;rw[z,a] at c;cases c;rw[d] at t;cases t
section
variable {prog:ND}{w:N6}{A:Oa}{E:Nd->Nh->Prop}{s:Nh}
theorem E8 {k:Nat} (h1:s.heap.IsTupleIter j q k) (h2:s.heap.IsTuple q its) (hv:its[k]?=some v)
  (fin:∀ g,g.IsTupleIter j q (k+1)->OL j s.heap g->Q v { s with heap:=g }):Nu (NI prog w) A (NT (.ref j)) Q E s:=by
 obtain⟨oj,ej,cj,dj⟩:=id h1;obtain⟨oq,eq,_,nq,dq⟩:=h2;unfold NT;refine KE (N2 (name:=Oo "__next__") h1.typeIs P6 (Oj P6 h1.typeIs SO ?_ (SJ _)));show Nu _ _ (field (.ref j) 0>>=_) _ _ s;refine KE (N_ ej dj (x:=.ref q) rfl ?_);show Nu _ _ (if(NN q==Od)=true then _ else _) _ _ s;rw[NS (show ¬ (NN q==Od)=true from NK)];show Nu _ _ (field (.ref j) 1>>=_) _ _ s;refine KE (N_ ej dj (x:=.int k 0) rfl ?_);show Nu _ _ (Va (.ref q)>>=_) _ _ s;refine KE (Of eq dq ?_);simp only[Op,hv];refine KE (Sb ej dj (by simp) (Nc ⟨v,rfl,Nc (fin _ ?_ (Ol ..))⟩));refine⟨_,OM _ ej (Sj (Qc dj _)),(Obj.cls_mapFields ..).trans cj,?_⟩;rw[Qc dj];simp[RL]
theorem Gj {k:Nat} (hh:A.handled=none) (h1:s.heap.IsTupleIter j q k) (h2:s.heap.IsTuple q its) (hv:its[k]?=none)
  (fin:∀ g e,Uh j s.heap g->(∃ o,g.get? e=some o/\o.cls=.type "StopIteration")->E (.ref e) { s with heap:=g }):Nu (NI prog w) A (NT (.ref j)) Q E s:=by
 obtain⟨oj,ej,cj,dj⟩:=id h1;obtain⟨oq,eq,_,nq,dq⟩:=h2;unfold NT;refine KE (N2 (name:=Oo "__next__") h1.typeIs P6 (Oj P6 h1.typeIs SO ?_ (SJ _)));show Nu _ _ (field (.ref j) 0>>=_) _ _ s;refine KE (N_ ej dj (x:=.ref q) rfl ?_);show Nu _ _ (if(NN q==Od)=true then _ else _) _ _ s;rw[NS (show ¬ (NN q==Od)=true from NK)];show Nu _ _ (field (.ref j) 1>>=_) _ _ s;refine KE (N_ ej dj (x:=.int k 0) rfl ?_);show Nu _ _ (Va (.ref q)>>=_) _ _ s;refine KE (Of eq dq ?_);simp only[Op,hv];refine KE (Qs (KE (Sb ej dj (by simp) ?_)));show Nu _ _ (newExc (.type "StopIteration") ([]:List Nd)>>=_) _ _ _;refine KE ?_;simp only[newExc,newTuple];refine KE (N4 ?_ (by size_fits));refine KE (m:=Q8 _ _) (UA (a:=Od) (by first|rfl|(unfold Q8;rfl)) ?_);refine N4 ?_ (by size_fits);unfold raiseNew;refine KE (V4 ?_)
 first|rw[hh]|rw[show A.in1.handled=none from hh]
 refine KE (Nc (wpAny_throw (fin _ _ (((Ol ..).extBut.push _).push _) ⟨_,Ng _ rfl,rfl⟩)))
theorem lQ.next {k:Nat} (x:lQ b s.heap j q k its) (hv:its[k]?=some v)
  (fin:∀ g,lQ b g j q (k+1) its->OL j s.heap g->Q v { s with heap:=g }):Nu (NI prog w) A (NT (.ref j)) Q E s:=by
 have hn:=x.ne;cases b with
 |true=>exact wpAny_nextOf_list_item x.1 x.2 hv λg h1' sb=>fin g ⟨h1',x.2.extBut sb.extBut hn⟩ sb
 |false=>exact E8 x.1 x.2 hv λg h1' sb=>fin g ⟨h1',x.2.extBut sb.extBut hn⟩ sb
theorem lQ.stops {k:Nat} (hh:A.handled=none) (x:lQ b s.heap j q k its) (hv:its[k]?=none)
  (fin:∀ g e,Uh j s.heap g->(∃ o,g.get? e=some o/\o.cls=.type "StopIteration")->E (.ref e) { s with heap:=g }):Nu (NI prog w) A (NT (.ref j)) Q E s:=by
 cases b with
 |true=>exact wpAny_nextOf_list_end hh x.1 x.2 hv fin
 |false=>exact Gj hh x.1 x.2 hv fin
structure Mz (b1 b2:Bool)(h:OZ)(z ti to j1 j2 q1 q2:Nn)(f0:Nd)(k:Nat)(xs ys:Array Nd):Prop where
 zp:TZ h z ti to f0
 pi:UE h ti (.ref j1) (.ref j2)
 po:∃ a b,UE h to a b
 s1:lQ b1 h j1 q1 k xs
 s2:lQ b2 h j2 q2 k ys
structure LG (z ti to j1 j2 q1 q2:Nn):Prop where
 a1:ti≠z
 a2:to≠z
 a3:j1≠z
 a4:j2≠z
 a5:ti≠to
 a6:ti≠j1
 a7:ti≠j2
 a8:to≠j1
 a9:to≠j2
 b1:j1≠j2
 c1:q1≠z
 c2:q1≠to
 c4:q1≠j2
 d1:q2≠z
 d2:q2≠to
 d3:q2≠j1
theorem KJ {k:Nat} (D:LG z ti to j1 j2 q1 q2) (Z:Mz b1 b2 s.heap z ti to j1 j2 q1 q2 .none k xs ys) (hx:xs[k]?=some x) (hy:ys[k]?=some y)
  (fin:∀ g,Mz b1 b2 g z ti to j1 j2 q1 q2 (RL s.heap.objs.size) (k+1) xs ys->UE g s.heap.objs.size x y->(∀ c o,c≠z->c≠to->c≠j1->c≠j2->s.heap.get? c=some o->g.get? c=some o)->Q (some (.ref s.heap.objs.size)) { s with heap:=g }):
  Nu (NI prog w) A (Q1 (.ref z)) Q E s:=by
 obtain⟨hz,hi,⟨pa,pb,ho⟩,hs1,hs2⟩:=Z;have ht:s.TypeIs (.ref z) "zip":=⟨_,hz,rfl⟩
 unfold Q1;refine KE (Pm (N2 (name:=Oo "__next__") ht P2 (Oj P2 ht Sv ?_ (RV _))));show Nu _ _ (field (.ref z) 2>>=_) _ _ s;refine KE (N_ hz rfl (x:=.bool false) rfl ?_);show Nu _ _ (field (.ref z) 3>>=_) _ _ s;refine KE (N_ hz rfl (x:=.ref ti) rfl ?_);refine KE (Of hi rfl ?_);show Nu _ _ (NX (.ref z)>>=_) _ _ s;refine KE ?_;unfold NX;refine KE (N_ hz rfl (x:=.none) rfl (Nc ?_));simp only[PD];refine KE (Qs (KE (N_ hz rfl (x:=.ref to) rfl ?_)));refine KE (N3 hz (by simp) λg1 z1 e1=>?_);have z1:TZ g1 z ti to .ellipsis:=z1;refine KE ?_;simp only[Sy,SX,Rv,R_];refine KE (KE (QC ?_));show Nu _ _ (NT (.ref j1)>>=_) _ _ { s with heap:=g1 };refine KE ((hs1.ext e1.extBut D.a3 D.c1).next hx λg2 i2 e2=>Nc ?_);have o2:UE g2 to pa pb:=e2.extBut _ _ D.a8 (e1.extBut _ _ D.a2 ho);refine KE (Of o2 rfl (KE (SH o2 λg3 o3 e3=>?_)));have o3:UE g3 to x pb:=o3;refine KE (PH (Nc ?_));refine KE (KE (QC ?_));show Nu _ _ (NT (.ref j2)>>=_) _ _ { s with heap:=g3 };refine KE ((((hs2.ext e1.extBut D.a4 D.d1).ext e2.extBut D.b1.symm D.d3).ext e3.extBut D.a9.symm D.d2).next hy λg4 i4 e4=>Nc ?_);have o4:UE g4 to x pb:=e4.extBut _ _ D.a9 o3;refine KE (Of o4 rfl (KE (SH o4 λg5 o5 e5=>?_)));have o5:UE g5 to x y:=o5;refine KE (PH (Nc (Nc ?_)));refine KE (Of o5 rfl (KE (TW ?_)));have sz:g5.objs.size=s.heap.objs.size:=by rw[e5.1,e4.1,e3.1,e2.1,e1.1]
 have z5:TZ g5 z ti to .ellipsis:=e5.extBut _ _ D.a2.symm (e4.extBut _ _ D.a4.symm (e3.extBut _ _ D.a2.symm (e2.extBut _ _ D.a3.symm z1)));have k5:∀ c o,c≠z->c≠to->c≠j1->c≠j2->s.heap.get? c=some o->g5.get? c=some o:=λc o n1 n2 n3 n4 e=>
  e5.extBut _ _ n2 (e4.extBut _ _ n4 (e3.extBut _ _ n2 (e2.extBut _ _ n3 (e1.extBut _ _ n1 e))))
 have i5:lQ b1 g5 j1 q1 (k+1) xs:=((i2.ext e3.extBut D.a8.symm D.c2).ext e4.extBut D.b1 D.c4).ext e5.extBut D.a8.symm D.c2;have i6:lQ b2 g5 j2 q2 (k+1) ys:=i4.ext e5.extBut D.a9.symm D.d2;have lz:z<g5.objs.size:=Nf z5;show Nu _ _ (O1 (.ref z) (.ref g5.objs.size)>>=_) _ _ _;refine KE ?_;unfold O1;have z6:TZ (g5.push { cls:=.type "tuple",data:=.seq #[x,y] }) z ti to .ellipsis:=Na _ z5;refine KE (N3 z6 (by simp) λg7 z7 e7=>?_);have z7:TZ g7 z ti to (RL g5.objs.size):=z7;refine N3 z7 (by simp) λg8 z8 e8=>?_
 have z8:TZ g8 z ti to (RL g5.objs.size):=z8;have up:∀ c o,c≠z->g5.get? c=some o->g8.get? c=some o:=λc o n e=>e8.extBut _ _ n (e7.extBut _ _ n (Na _ e))
 have t8:UE g8 g5.objs.size x y:=e8.extBut _ _ (O8 lz) (e7.extBut _ _ (O8 lz) (Ng _ rfl));rw[sz] at z8 t8;refine Nc ⟨_,rfl,Nc ?_⟩;show Q (some (.ref g5.objs.size)) _;rw[sz];exact fin g8 ⟨z8,up _ _ D.a1 (k5 _ _ D.a1 D.a5 D.a6 D.a7 hi),⟨x,y,up _ _ D.a2 o5⟩,i5.keep (λo e=>up _ o D.a3 e) (λo e=>up _ o D.c1 e),i6.keep (λo e=>up _ o D.a4 e) (λo e=>up _ o D.d1 e)⟩ t8
  λc o n1 n2 n3 n4 e=>up c o n1 (k5 c o n1 n2 n3 n4 e)
theorem Lh {k:Nat} (hh:A.handled=none) (D:LG z ti to j1 j2 q1 q2) (Z:Mz b1 b2 s.heap z ti to j1 j2 q1 q2 .none k xs ys) (hv:xs[k]?=none\/ys[k]?=none)
  (fin:∀ g,(∀ c o,c≠z->c≠to->c≠j1->c≠j2->s.heap.get? c=some o->g.get? c=some o)->Q none { s with heap:=g }):Nu (NI prog w) A (Q1 (.ref z)) Q E s:=by
 obtain⟨hz,hi,⟨pa,pb,ho⟩,hs1,hs2⟩:=Z;have ht:s.TypeIs (.ref z) "zip":=⟨_,hz,rfl⟩
 have stopped:∀ (g:OZ) (e:Nn),(∀ c o,c ≠ z->c ≠ to->c ≠ j1->c ≠ j2->s.heap.get? c=some o->g.get? c=some o)->(∃ o,g.get? e=some o/\o.cls=.type "StopIteration") ->
   Nu (NI prog w) A (do if <- SM (.ref e) (.type "StopIteration") then pure none else throw (.ref e)) Q E { s with heap:=g }:=λg e kk ⟨o,h1,h2⟩=>
  KE (PF (T:="StopIteration") (b:=true) ⟨o,h1,h2⟩ TM (Nc (fin g kk)))
 unfold Q1;refine KE (Pm (N2 (name:=Oo "__next__") ht P2 (Oj P2 ht Sv ?_ (RV _))));show Nu _ _ (field (.ref z) 2>>=_) _ _ s;refine KE (N_ hz rfl (x:=.bool false) rfl ?_);show Nu _ _ (field (.ref z) 3>>=_) _ _ s;refine KE (N_ hz rfl (x:=.ref ti) rfl ?_);refine KE (Of hi rfl ?_);show Nu _ _ (NX (.ref z)>>=_) _ _ s;refine KE ?_;unfold NX;refine KE (N_ hz rfl (x:=.none) rfl (Nc ?_));simp only[PD];refine KE (Qs (KE (N_ hz rfl (x:=.ref to) rfl ?_)));refine KE (N3 hz (by simp) λg1 z1 e1=>?_);have z1:TZ g1 z ti to .ellipsis:=z1;refine KE ?_;simp only[Sy,SX,Rv,R_];refine KE (KE (QC ?_));show Nu _ _ (NT (.ref j1)>>=_) _ _ { s with heap:=g1 };cases hx:xs[k]? with
 |none=>
  refine KE ((hs1.ext e1.extBut D.a3 D.c1).stops hh hx λg2 e e2 he=>?_);obtain⟨oe,q1',q2'⟩:=he;have z2:TZ g2 z ti to .ellipsis:=e2 _ _ D.a3.symm z1;have ne:e≠z:=λc=>by subst c;rw[z2] at q1';cases q1';simp at q2'
  exact N3 z2 (by simp) λg3 _ e3=>stopped g3 e (λc o n1 _ n3 _ u=>e3.extBut _ _ n1 (e2 _ _ n3 (e1.extBut _ _ n1 u))) ⟨oe,e3.extBut _ _ ne q1',q2'⟩
 |some x=>
  have hy:ys[k]?=none:=hv.resolve_left (by rw[hx];exact λc=>nomatch c);refine KE ((hs1.ext e1.extBut D.a3 D.c1).next hx λg2 i2 e2=>Nc ?_);have o2:UE g2 to pa pb:=e2.extBut _ _ D.a8 (e1.extBut _ _ D.a2 ho);refine KE (Of o2 rfl (KE (SH o2 λg3 o3 e3=>?_)));refine KE (PH (Nc ?_));refine KE (KE (QC ?_));show Nu _ _ (NT (.ref j2)>>=_) _ _ { s with heap:=g3 };refine KE ((((hs2.ext e1.extBut D.a4 D.d1).ext e2.extBut D.b1.symm D.d3).ext e3.extBut D.a9.symm D.d2).stops hh hy λg4 e e4 he=>?_);obtain⟨oe,q1',q2'⟩:=he;have z4:TZ g4 z ti to .ellipsis:=e4 _ _ D.a4.symm (e3.extBut _ _ D.a2.symm (e2.extBut _ _ D.a3.symm z1));have ne:e≠z:=λc=>by subst c;rw[z4] at q1';cases q1';simp at q2'
  exact N3 z4 (by simp) λg5 _ e5=>stopped g5 e (λc o n1 n2 n3 n4 u=>e5.extBut _ _ n1 (e4 _ _ n4 (e3.extBut _ _ n2 (e2.extBut _ _ n3 (e1.extBut _ _ n1 u))))) ⟨oe,e5.extBut _ _ ne q1',q2'⟩
end
def bX (K:HD)(H:Hp)(a:Nn)(xs:List V):Bool->Prop
 |true=>bI K H a xs
 |false=>cW K H a xs
def vy (h:OZ)(j q:Nn)(k:Nat):Bool->Prop
 |true=>h.IsListIter j q k
 |false=>h.IsTupleIter j q k
theorem vy.keep {k:Nat}:∀ {b:Bool},vy h j q k b->(∀ o,h.get? j=some o->g.get? j=some o)->vy g j q k b
 |true,⟨o,e,r⟩,f=>⟨o,f o e,r⟩
 |false,⟨o,e,r⟩,f=>⟨o,f o e,r⟩
theorem vy.fields {k:Nat}:∀ {b:Bool},vy h j q k b->∃ o vs,h.get? j=some o/\o.data=.fields vs
 |true,⟨o,e,_,d⟩=>⟨o,_,e,d⟩
 |false,⟨o,e,_,d⟩=>⟨o,_,e,d⟩
section
variable {X:Cx}{pins:List (Nn×Obj)}{σ:L2.St}{H:Hp}{s:Nh}
theorem fh {k:Nat}(I:aD X pins σ H s):∀ {b:Bool},bX X.K H q xs b->vy s.heap j q k b->∃ its:List Nd,aM xs its/\lQ b s.heap j q k its.toArray
 |true,h,i=>by
  obtain⟨its,rv,p,_⟩:=I.list h;exact⟨its,rv,i,p.isList⟩
 |false,h,i=>by
  obtain⟨its,rv,p,_⟩:=I.tuple h;exact⟨its,rv,i,p⟩
theorem zr {k:Nat}(x:lQ b h j q k its):vy h j q k b:=by
 cases b with
 |true=>exact x.1
 |false=>exact x.1
theorem mT (I:aD X pins σ H s):∀ {b:Bool},bX X.K H q xs b->bX X.K H q ys b->xs=ys
 |true,h,h'=>I.list_inj h h'
 |false,h,h'=>I.tuple_inj h h'
theorem nk (I:aD X pins σ H s):∀ {b:Bool},bX X.K H q xs b->∃ o its n,s.heap.get? q=some o/\o.data=.seq its n
 |true,h=>by
  obtain⟨its,rv,⟨o,n,e,_,_,d⟩,_⟩:=I.list h;exact⟨o,_,n,e,d⟩
 |false,h=>by
  obtain⟨its,rv,⟨o,e,_,n,d⟩,_⟩:=I.tuple h;exact⟨o,_,n,e,d⟩
theorem kr (I:aD X pins σ H s) (hn:H T=none) (h1:X.s₀.heap.objs.size <= T) (hL:T ≠ X.env.locals) (h2:∀ x c,X.env.cells.lookup x=some c->c ≠ T) (h3:∀ p ∈ X.pn ++ pins,p.1 ≠ T)
  (ok:bA X.prog X.w (upd H T o) s.heap T o):aD X pins σ (upd H T o) s:=by
 have J:=I.step (h':=s.heap) (g':=s.gens) (t':=s.toks) (d':=s.drawn) (H':=upd H T o) (ch:=[T]) (λb hb=>?_) (λb o _ _ _ e _=>e) (λb o _ _ _ e _=>⟨o.slots,e⟩) (λb o hb _ n=>by rw[az (show b≠T from λz=>hb (by simp[z]))];exact n)
  (λb o _ e=>⟨o,e⟩) (λb xs e=>by rw[az (aS e hn)];exact e) (λb u w e=>by rw[az (aS e hn)];exact e) (λb ps e=>⟨#[],by rw[az (aS e hn),e];simp⟩) (λm hm=>hm) (λb u e=>?_) I.bare
 ·exact J
 ·cases Nm.mp hb;exact⟨.inr h1,hL,h2,h3⟩
 ·by_cases hb:b=T
  ·subst hb;rw[ai] at e;cases e;exact ok
  ·rw[az hb] at e;exact(I.hok b u e).stay (λ_ _ _ q=>q) (λc q=>by rw[az (aS q hn)];exact q) λc xs q=>by rw[az (aS q hn)];exact q
end
def JS (K:HD)(b1 b2:Bool)(q1 q2:Nn):It:=
 ⟨λi H=>∃ xs ys x y,bX K H q1 xs b1/\bX K H q2 ys b2/\xs[i]?=some x/\ys[i]?=some y,
  λi H v H'=>∃ x y T,(∀ xs,bX K H q1 xs b1->xs[i]?=some x)/\(∀ ys,bX K H q2 ys b2->ys[i]?=some y)/\H T=none/\v=.ref T/\H'=upd H T (.tup [x,y]),
  λi H=>∃ xs ys,bX K H q1 xs b1/\bX K H q2 ys b2/\(xs.length<=i\/ys.length<=i)⟩
def Mm (z ti to j1 j2 q1 q2:Nn)(b1 b2:Bool)(k:Nat)(h:OZ):Prop:=TZ h z ti to .none/\UE h ti (.ref j1) (.ref j2)/\(∃ a b,UE h to a b)/\vy h j1 q1 k b1/\vy h j2 q2 k b2
theorem Cw {P:ND}{w:N6}{K:HD}{elts:List Po}{tk:Nat}{pos:Pos}{z ti to j1 j2 q1 q2:Nn}{b1 b2:Bool} (D:ti ≠ z/\to ≠ z/\j1 ≠ z/\j2 ≠ z/\ti ≠ to/\ti ≠ j1/\ti ≠ j2/\to ≠ j1/\to ≠ j2/\j1 ≠ j2) :
  ug P w K (.Tuple elts tk pos) (JS K b1 b2 q1 q2) [z,ti,to,j1,j2] z (Mm z ti to j1 j2 q1 q2 b1 b2) where
 mem:=by simp
 obj:=λi h st b hb=>by
  obtain⟨h1,h2,⟨a,c,h3⟩,h4,h5⟩:=st;simp only[Nl,NH,OY] at hb;rcases hb with rfl|rfl|rfl|rfl|rfl
  ·exact⟨_,h1,λv e=>nomatch e⟩
  ·exact⟨_,h2,λv e=>nomatch e⟩
  ·exact⟨_,h3,λv e=>nomatch e⟩
  ·obtain⟨o,vs,e,d⟩:=h4.fields;exact⟨o,e,λv u=>by rw[d] at u;cases u⟩
  ·obtain⟨o,vs,e,d⟩:=h5.fields;exact⟨o,e,λv u=>by rw[d] at u;cases u⟩
 keep:=λi h h' st k=>by
  obtain⟨h1,h2,⟨a,c,h3⟩,h4,h5⟩:=st;exact⟨k z (by simp) _ h1,k ti (by simp) _ h2,⟨a,c,k to (by simp) _ h3⟩,h4.keep λo e=>k j1 (by simp) o e,h5.keep λo e=>k j2 (by simp) o e⟩
 item:=by
  intro X hP hw hK hc i pins s σ H E I hf st hg;subst hP hw hK;obtain⟨xs,ys,x,y,hq1,hq2,hx,hy⟩:=hg;obtain⟨hz,hi,⟨a,c,ho⟩,t1,t2⟩:=st;obtain⟨us,r1,s1⟩:=fh I hq1 t1;obtain⟨vs,r2,s2⟩:=fh I hq2 t2;obtain⟨u,eu,ru⟩:=r1.get hx;obtain⟨v,ev,rv⟩:=r2.get hy;obtain⟨d1,d2,d3,d4,d5,d6,d7,d8,d9,d10⟩:=D;have tr:∀ {q:Nn}{zs:List V}{b:Bool},bX X.K H q zs b->∀ b'∈[z,ti,to,j1,j2],(∃ o ws,s.heap.get? b'=some o/\o.data=.fields ws)->q≠b':=λ{q zs b} hq b' _ ⟨o,ws,e,d⟩ n=>by
   obtain⟨o',its,nn,e',d'⟩:=nk I hq;rw[n,e] at e';cases e';rw[d] at d';cases d'
  have zf:∃ o ws,s.heap.get? z=some o/\o.data=.fields ws:=⟨_,_,hz,rfl⟩
  have tof:∀ {q:Nn}{zs:List V}{b:Bool},bX X.K H q zs b->q≠to:=λ{q zs b} hq n=>by
   have fto:H to=none:=(hf to (by simp)).1;have ft:=(hf to (by simp)).2;cases b with
   |true=>
    obtain⟨its,_,⟨o',nn,e',cc,_,d'⟩,_⟩:=I.list hq;rw[n,ho] at e';cases e';simp at cc
   |false=>
    rcases hq with (hq|⟨o',hq⟩)|⟨o',its,nn,kk,_⟩
    ·rw[n,fto] at hq;cases hq
    ·rw[n,fto] at hq;cases hq
    ·have bb:=I.mod.kin q o' kk;rw[n] at bb;rcases ft.2.2.1 with e|e
     ·exact I.ok.noex to o' bb e
     ·exact absurd (Nx (Nf bb) (NP I.ok.bsz e)) (N0 _)
  have AP:LG z ti to j1 j2 q1 q2:=⟨d1,d2,d3,d4,d5,d6,d7,d8,d9,d10,tr hq1 z (by simp) zf,tof hq1,tr hq1 j2 (by simp) t2.fields,tr hq2 z (by simp) zf,tof hq2,tr hq2 j1 (by simp) t1.fields⟩
  refine KJ AP ⟨hz,hi,⟨a,c,ho⟩,s1,s2⟩ (x:=u) (y:=v) (by simpa using eu) (by simpa using ev) λg Z hp kk=>⟨_,rfl,?_⟩
  refine TV Z.zp λg' z' sb=>?_
  have tz:s.heap.objs.size≠z:=O8 (Nf hz);have fp0:∀ b∈[z,ti,to,j1,j2],b≠s.heap.objs.size:=λb hb n=>by
   simp only[Nl,NH,OY] at hb;rcases hb with rfl|rfl|rfl|rfl|rfl
   ·exact tz n.symm
   ·exact N0 _ (n▸Nf hi)
   ·exact N0 _ (n▸Nf ho)
   ·obtain⟨o,_,e,_⟩:=t1.fields;exact N0 _ (n▸Nf e)
   ·obtain⟨o,_,e,_⟩:=t2.fields;exact N0 _ (n▸Nf e)
  have k2:∀ b o,b∉[z,ti,to,j1,j2]->s.heap.get? b=some o->g'.get? b=some o:=λb o hb e=>
   sb.extBut b o (λn=>hb (by simp[n])) (kk b o (λn=>hb (by simp[n])) (λn=>hb (by simp[n])) (λn=>hb (by simp[n])) (λn=>hb (by simp[n])) e)
  have nfp:∀ b u',H b=some u'->b∉[z,ti,to,j1,j2]:=λb u' e hb=>by rw[(hf b hb).1] at e;cases e
  have I1:aD X pins σ H { s with heap:=g' }:=by
   refine I.step (g':=s.gens) (d':=s.drawn) (t':=s.toks) (ch:=[z,ti,to,j1,j2]) (λb hb=>?_) (λb o _ _ hb e _=>k2 b o hb e) (λb o _ _ hb e _=>⟨o.slots,k2 b o hb e⟩) (λ_ _ _ _ n=>n) (λb o hb e=>⟨o,k2 b o hb e⟩) (λ_ _ e=>e) (λ_ _ _ e=>e)
    (λb ps e=>⟨#[],by rw[e];simp⟩) (λm hm=>?_) (λb u' e=>?_) I.bare
   ·obtain⟨_,g1,_,g3,g4,g5⟩:=hf b hb;exact⟨g3,g1,g4,g5⟩
   ·obtain⟨o,es,ep,ho',r'⟩:=hm;exact⟨o,es,ep,k2 _ o (λn=>(hf _ n).2.1 rfl) ho',r'⟩
   ·refine(I.hok b u' e).stay (λc' v' hc' q=>k2 c' v' ?_ q) (λ_ q=>q) λ_ _ q=>q
    rcases hc' with rfl|hc'
    ·exact nfp _ _ e
    ·exact nfp _ _ hc'
  have hT:g'.get? s.heap.objs.size=some { cls:=.type "tuple",data:=.seq #[u,v] }:=sb.extBut _ _ tz hp;have fT:H s.heap.objs.size=none:=I.hok.fresh (Nj _);have F:=I.fpOk (b:=s.heap.objs.size) (H':=H) (Nj _) fT;have I2:aD X pins σ (upd H s.heap.objs.size (.tup [x,y])) { s with heap:=g' }:=kr I1 fT I.sz F.2.1 F.2.2.2.2.1 F.2.2.2.2.2 ⟨by show 2<=Nv;decide,[u,v],.cons ru (.cons rv .nil),⟨_,hT,rfl,_,rfl⟩⟩;have cl:∀ {j q:Nn}{b:Bool}{its:Array Nd},lQ b g j q (i+1) its->j≠z->vy g' j q (i+1) b:=λ{j q b its} x n=>(zr x).keep λo e=>sb.extBut _ _ n e
  exact⟨.ref s.heap.objs.size,_,I2,rfl,⟨x,y,s.heap.objs.size,λxs' h'=>by rw[mT I h' hq1];exact hx,λys' h'=>by rw[mT I h' hq2];exact hy,fT,rfl,rfl⟩,
   ⟨z',sb.extBut _ _ d1 Z.pi,(let ⟨a',b',e'⟩:=Z.po;⟨a',b',sb.extBut _ _ d2 e'⟩),cl Z.s1 d3,cl Z.s2 d4⟩,λb hb=>by rw[az (fp0 b hb)];exact(hf b hb).1⟩
 done:=by
  intro X hP hw hK hc i pins s σ H E I hf st hg;subst hP hw hK;obtain⟨xs,ys,hq1,hq2,hl⟩:=hg;obtain⟨hz,hi,⟨a,c,ho⟩,t1,t2⟩:=st;obtain⟨us,r1,s1⟩:=fh I hq1 t1;obtain⟨vs,r2,s2⟩:=fh I hq2 t2;have l1:=r1.length;have l2:=r2.length;obtain⟨d1,d2,d3,d4,d5,d6,d7,d8,d9,d10⟩:=D;have tr:∀ {q:Nn}{zs:List V}{b:Bool},bX X.K H q zs b->∀ b'∈[z,ti,to,j1,j2],(∃ o ws,s.heap.get? b'=some o/\o.data=.fields ws)->q≠b':=λ{q zs b} hq b' _ ⟨o,ws,e,d⟩ n=>by
   obtain⟨o',its,nn,e',d'⟩:=nk I hq;rw[n,e] at e';cases e';rw[d] at d';cases d'
  have zf:∃ o ws,s.heap.get? z=some o/\o.data=.fields ws:=⟨_,_,hz,rfl⟩
  have tof:∀ {q:Nn}{zs:List V}{b:Bool},bX X.K H q zs b->q≠to:=λ{q zs b} hq n=>by
   have fto:H to=none:=(hf to (by simp)).1;have ft:=(hf to (by simp)).2;cases b with
   |true=>
    obtain⟨its,_,⟨o',nn,e',cc,_,d'⟩,_⟩:=I.list hq;rw[n,ho] at e';cases e';simp at cc
   |false=>
    rcases hq with (hq|⟨o',hq⟩)|⟨o',its,nn,kk,_⟩
    ·rw[n,fto] at hq;cases hq
    ·rw[n,fto] at hq;cases hq
    ·have bb:=I.mod.kin q o' kk;rw[n] at bb;rcases ft.2.2.1 with e|e
     ·exact I.ok.noex to o' bb e
     ·exact absurd (Nx (Nf bb) (NP I.ok.bsz e)) (N0 _)
  have AP:LG z ti to j1 j2 q1 q2:=⟨d1,d2,d3,d4,d5,d6,d7,d8,d9,d10,tr hq1 z (by simp) zf,tof hq1,tr hq1 j2 (by simp) t2.fields,tr hq2 z (by simp) zf,tof hq2,tr hq2 j1 (by simp) t1.fields⟩
  have nfp:∀ b u',H b=some u'->b∉[z,ti,to,j1,j2]:=λb u' e hb=>by rw[(hf b hb).1] at e;cases e
  refine Lh (I.ok.hd hc) AP ⟨hz,hi,⟨a,c,ho⟩,s1,s2⟩ (by simp;lia) λg kk=>⟨rfl,?_⟩
  have k2:∀ b o,b∉[z,ti,to,j1,j2]->s.heap.get? b=some o->g.get? b=some o:=λb o hb e=>
   kk b o (λn=>hb (by simp[n])) (λn=>hb (by simp[n])) (λn=>hb (by simp[n])) (λn=>hb (by simp[n])) e
  refine I.step (g':=s.gens) (d':=s.drawn) (t':=s.toks) (ch:=[z,ti,to,j1,j2]) (λb hb=>?_) (λb o _ _ hb e _=>k2 b o hb e) (λb o _ _ hb e _=>⟨o.slots,k2 b o hb e⟩) (λ_ _ _ _ n=>n) (λb o hb e=>⟨o,k2 b o hb e⟩) (λ_ _ e=>e) (λ_ _ _ e=>e)
   (λb ps e=>⟨#[],by rw[e];simp⟩) (λm hm=>?_) (λb u' e=>?_) I.bare
  ·obtain⟨_,g1,_,g3,g4,g5⟩:=hf b hb;exact⟨g3,g1,g4,g5⟩
  ·obtain⟨o,es,ep,ho',r'⟩:=hm;exact⟨o,es,ep,k2 _ o (λn=>(hf _ n).2.1 rfl) ho',r'⟩
  ·refine(I.hok b u' e).stay (λc' v' hc' q=>k2 c' v' ?_ q) (λ_ q=>q) λ_ _ q=>q
   rcases hc' with rfl|hc'
   ·exact nfp _ _ e
   ·exact nfp _ _ hc'
 self:=λ_ _ _ _ _ st h=>SB st.1 h
theorem Do:Oh "zip"=some (.type "zip"):=by decide +kernel
theorem o0 {a b:Nat}(h:@Ne Nat a b):@Ne Nn a b:=h
def vw (q:Nn):Bool->Obj
 |true=>{ cls:=.type "list_iterator",data:=.fields #[.ref q,.int 0 0] }
 |false=>{ cls:=.type "tuple_iterator",data:=.fields #[.ref q,.int 0 0] }
def Dj (h:OZ)(q:Nn)(its:Array Nd):Bool->Prop
 |true=>h.IsList q its
 |false=>h.IsTuple q its
abbrev zA (h:OZ)(q1:Nn)(b1:Bool):OZ:=h.push (vw q1 b1)
abbrev zB (h:OZ)(q1 q2:Nn)(b1 b2:Bool):OZ:=(zA h q1 b1).push (vw q2 b2)
abbrev zC (h:OZ)(q1 q2:Nn)(b1 b2:Bool):OZ:=(zB h q1 q2 b1 b2).push { cls:=.type "tuple",data:=.seq #[.ref h.objs.size,.ref (zA h q1 b1).objs.size] }
abbrev zD (h:OZ)(q1 q2:Nn)(b1 b2:Bool):OZ:=(zC h q1 q2 b1 b2).push { cls:=.type "tuple",data:=.seq #[.none,.none] }
abbrev zE (h:OZ)(q1 q2:Nn)(b1 b2:Bool):OZ:=(zD h q1 q2 b1 b2).push { cls:=.type "zip",data:=.fields #[.none,.bool false,.bool false,.ref (zB h q1 q2 b1 b2).objs.size,.ref (zC h q1 q2 b1 b2).objs.size] }
theorem Ko (q1 q2:Nn) (xs ys:Array Nd) (b1 b2:Bool):Meets (PN.«zip.__new__» ⟨[.type "zip",.ref q1,.ref q2],[]⟩)
  (λ_ R s=>Dj s.heap q1 xs b1/\Dj s.heap q2 ys b2/\R (.ok (.ret (.ref (zD s.heap q1 q2 b1 b2).objs.size))) { s with heap:=zE s.heap q1 q2 b1 b2 }):=
 .of_wp λprog w A R s h=>by
  obtain⟨hp,g,d,tk,os⟩:=s;obtain⟨h1,h2,h⟩:=h;have hsub:=sub_zip;cases b1<;>cases b2
  ·have k1:Tl (Qh ⟨hp,g,d,tk,os⟩) q1 xs:=h1;have k2:Tl (Qh ⟨hp.push { cls:=.type "tuple_iterator",data:=.fields #[.ref q1,.int 0 0] },g,d,tk,os⟩) q2 ys:=V6 h2 _
   wp_walk using PC k1,PC k2
   exact⟨_,rfl,h⟩
  ·have k1:Tl (Qh ⟨hp,g,d,tk,os⟩) q1 xs:=h1;have k2:SQ (Qh ⟨hp.push { cls:=.type "tuple_iterator",data:=.fields #[.ref q1,.int 0 0] },g,d,tk,os⟩) q2 ys:=Q9 h2 _
   wp_walk using PC k1,OS k2
   exact⟨_,rfl,h⟩
  ·have k1:SQ (Qh ⟨hp,g,d,tk,os⟩) q1 xs:=h1;have k2:Tl (Qh ⟨hp.push { cls:=.type "list_iterator",data:=.fields #[.ref q1,.int 0 0] },g,d,tk,os⟩) q2 ys:=V6 h2 _
   wp_walk using OS k1,PC k2
   exact⟨_,rfl,h⟩
  ·have k1:SQ (Qh ⟨hp,g,d,tk,os⟩) q1 xs:=h1;have k2:SQ (Qh ⟨hp.push { cls:=.type "list_iterator",data:=.fields #[.ref q1,.int 0 0] },g,d,tk,os⟩) q2 ys:=Q9 h2 _
   wp_walk using OS k1,OS k2
   exact⟨_,rfl,h⟩
section
variable {prog:ND}{w:N6}{A:Oa}{E:Nd->Nh->Prop}{s:Nh}
theorem JR (h1:Dj s.heap q1 xs b1) (h2:Dj s.heap q2 ys b2)
  (fin:∀ g,TZ g (s.heap.objs.size+4) (s.heap.objs.size+2) (s.heap.objs.size+3) .none->UE g (s.heap.objs.size+2) (.ref s.heap.objs.size) (.ref (s.heap.objs.size+1)) ->
   UE g (s.heap.objs.size+3) .none .none->g.get? s.heap.objs.size=some (vw q1 b1)->g.get? (s.heap.objs.size+1)=some (vw q2 b2)->(∀ c o,s.heap.get? c=some o->g.get? c=some o)->Q (.ref (s.heap.objs.size+4)) { s with heap:=g }) :
  Nu (NI prog w) A (call (.type "zip") [.ref q1,.ref q2]) Q E s:=by
 refine callType_new F.called_zip (by decide) (F.typeCall_zip_2 _ _) (F.newCall_zip_2 _ _) (λobj=>F.args_object_init_3 obj _ _) F.entry_zip_new (Ko q1 q2 xs ys b1 b2) ⟨h1,h2,?_⟩;have n1:(zA s.heap q1 b1).objs.size=s.heap.objs.size+1:=Oe ..;have n2:(zB s.heap q1 q2 b1 b2).objs.size=s.heap.objs.size+2:=by rw[Oe,n1]
 have n3:(zC s.heap q1 q2 b1 b2).objs.size=s.heap.objs.size+3:=by rw[Oe,n2]
 have n4:(zD s.heap q1 q2 b1 b2).objs.size=s.heap.objs.size+4:=by rw[Oe,n3]
 have fr:∀ b q,(vw q b).isFreed=false:=λb q=>by cases b<;>rfl
 have m5:(zE s.heap q1 q2 b1 b2).get? (zD s.heap q1 q2 b1 b2).objs.size=some _:=Ng _ rfl;have m4:(zE s.heap q1 q2 b1 b2).get? (zC s.heap q1 q2 b1 b2).objs.size=some _:=Na _ (Ng _ rfl);have m3:(zE s.heap q1 q2 b1 b2).get? (zB s.heap q1 q2 b1 b2).objs.size=some _:=Na _ (Na _ (Ng _ rfl));have m2:(zE s.heap q1 q2 b1 b2).get? (zA s.heap q1 b1).objs.size=some (vw q2 b2):=Na _ (Na _ (Na _ (Ng _ (fr _ _))));have m1:(zE s.heap q1 q2 b1 b2).get? s.heap.objs.size=some (vw q1 b1):=Na _ (Na _ (Na _ (Na _ (Ng _ (fr _ _)))));show _/\_;rw[n2,n3,n4] at m5;rw[n1,n2] at m3;rw[n3] at m4;rw[n1] at m2;rw[n4];exact⟨⟨_,m5,rfl⟩,fin _ m5 m3 m4 m1 m2 λc o x=>Na _ (Na _ (Na _ (Na _ (Na _ x))))⟩
end
section
variable {X:Cx}{tg:Po}
theorem kG (I:aD X pins σ H s):∀ {b:Bool},bX X.K H q xs b->∃ its:List Nd,aM xs its/\Dj s.heap q its.toArray b
 |true,h=>by
  obtain⟨its,rv,p,_⟩:=I.list h;exact⟨its,rv,p.isList⟩
 |false,h=>by
  obtain⟨its,rv,p,_⟩:=I.tuple h;exact⟨its,rv,p⟩
def KG (K:HD)(ta:TA):TI:=λσ H R=>ta σ H λvs H1=>∃ q1 q2 b1 b2,vs=[.ref q1,.ref q2]/\(∃ xs,bX K H1 q1 xs b1)/\(∃ ys,bX K H1 q2 ys b2)/\R (JS K b1 b2 q1 q2) H1
theorem Ib {tk:Nat} (hg:Gl X "zip") (hm:X.mg "zip"=none) (ha:PA X [a,b] ta) (hs:NG [a,b] X.env=[(false,QT a X.env),(false,QT b X.env)]:=by rfl) (hs2:NG [b] X.env=[(false,QT b X.env)]:=by rfl) :
  PI X (.Tuple elts tk tpos) (.Call (.Name "zip" p) [a,b] [] pos) (KG X.K ta):=by
 intro pins s σ H R I h;refine Call_ (iE I hg hm Do (Pg (bM (ha pos pins s σ H _ I h) λus s1 ⟨vs,H1,I1,r1,q1⟩=>?_) (by rw[hs,hs2]) (by rw[hs2];rfl)));obtain⟨qa,qb,b1,b2,rfl,⟨xs,hx⟩,⟨ys,hy⟩,q⟩:=q1;obtain⟨u,v,rfl,ru,rv⟩:=jW r1;cases ru;cases rv;obtain⟨its,_,sa⟩:=kG I1 hx;obtain⟨jts,_,sb⟩:=kG I1 hy;refine JR sa sb λg z5 z3 z4 z1 z2 kk=>?_
 refine SB z5 ?_;have io:∀ {j q:Nn}{b:Bool},g.get? j=some (vw q b)->vy g j q 0 b:=λ{j q b} e=>by cases b<;>exact⟨_,e,rfl,rfl⟩
 refine⟨s1.heap.objs.size+4,[s1.heap.objs.size+4,s1.heap.objs.size+2,s1.heap.objs.size+3,s1.heap.objs.size,s1.heap.objs.size+1],_,_,H1,rfl,I1.kept (t':=s1.toks) kk,
  Cw (z:=s1.heap.objs.size+4) (ti:=s1.heap.objs.size+2) (to:=s1.heap.objs.size+3) (j1:=s1.heap.objs.size) (j2:=s1.heap.objs.size+1) ⟨o0 (by lia),o0 (by lia),o0 (by lia),o0 (by lia),o0 (by lia),o0 (by lia),o0 (by lia),o0 (by lia),o0 (by lia),o0 (by lia)⟩,⟨z5,z3,⟨_,_,z4⟩,io z1,io z2⟩,λb hb=>?_,q⟩
 have le:s1.heap.objs.size<=b:=by
  simp only[Nl,NH,OY] at hb;rcases hb with e|e|e|e|e<;>(rw[e];lia)
 exact I1.fpOk le (I1.hok.fresh le)
def xM (K:HD)(a:Nn):Bool->It
 |true=>JW K a
 |false=>KI K a
inductive MQ (K:HD)(x:V)(H:Hp)(R:It->Hp->Prop):Prop
 |mk (a:Nn) (b:Bool) (_:x=.ref a) (_:∃ xs,bX K H a xs b) (_:R (xM K a b) H)
def Lg (K:HD)(tl:TE):TI:=λσ H R=>tl σ H λx H1=>MQ K x H1 R
theorem Im (hl:PE X l tl):PI X tg l (Lg X.K tl):=by
 intro pins s σ H R I h;refine bM (hl pins s σ H _ I h) λv s1 ⟨x,H1,I1,r1,q1⟩=>?_
 obtain⟨a,b,e,⟨xs,hq⟩,q⟩:=q1;subst e;cases r1;obtain⟨its,rv,sr⟩:=kG I1 hq;have fp:∀ c∈[s1.heap.objs.size],l4 X pins H1 c:=λc hc=>by
  cases Nm.mp hc;exact I1.fpOk (Nj _) (I1.hok.fresh (Nj _))
 cases b with
 |true=>exact OS sr ⟨s1.heap.objs.size,[s1.heap.objs.size],_,_,H1,rfl,I1.kept (t':=s1.toks) λb o e=>Na _ e,BF a _,⟨_,Ng _ rfl,rfl,rfl⟩,fp,q⟩
 |false=>exact PC sr ⟨s1.heap.objs.size,[s1.heap.objs.size],_,_,H1,rfl,I1.kept (t':=s1.toks) λb o e=>Na _ e,yK a _,⟨_,Ng _ rfl,rfl,rfl⟩,fp,q⟩
end
theorem tS (K:HD)(a:String):∀ bs:List String,Vr K (.type a) (bs.map QV)=uT a bs
 |[]=>rfl
 |b::r=>by
  show(match O4 K (.type a) (.type b) with|some true=>some true|some false=>Vr K (.type a) (r.map QV)|none=>none)=_;rw[q9,tS K a r];rfl
section
variable {X:Cx}
def GH (K:HD):List V->Hp->VK->Prop:=λxs H Q=>∃ x T p S1 S2 b,xs=[x,.ref p]/\Ty K H x T/\H p=some (.tup [.ty S1,.ty S2])/\uT T [S1,S2]=some b/\Q (.bl b) H
theorem Mc (I:aD X pins σ H s) (rx:bj x u) (ty:lC X.K H x t) {nn:Nat} (ht:s.heap.get? tp=some ⟨.type "tuple",dd,.seq its.toArray nn,sl⟩) (e':Vr X.K t its=some b) (h:∀ tk,Q (.bool b) { s with toks:=tk }) :
  Nu (NI X.prog X.w) A (call (.builtin "isinstance") [u,.ref tp]) Q E s:=by
 obtain⟨Z,a,b,c⟩:=CF I rx ty;exact PySem.W.kia_tup a I.kIn b ht e' c h
theorem BQ:cq X (.builtin "isinstance") (GH X.K):=by
 intro pins s σ H xs us Q I r h;obtain⟨x,T,p,S1,S2,b,rfl,ty,hp,e,q⟩:=h;obtain⟨u,v,rfl,rx,rv⟩:=jW r;cases(show v=NN p from rv);obtain⟨_,its,rr,⟨cl,dd,dt,sl⟩,h1,h2,n,h3⟩:=I.hok p _ hp;obtain⟨u1,u2,rfl,w1,w2⟩:=jW rr;cases(show u1=QV S1 from w1);cases(show u2=QV S2 from w2);simp only at h2 h3;subst h2 h3;exact Mc I rx ty h1 ((tS X.K T [S1,S2]).trans e) λtk=>⟨.bl b,H,I.tok tk,rfl,q⟩
end
theorem AJ (bs:List Bool):(OP bs.length).all (λi=>(bs[i]?).getD true)=bs.all id:=by
 rw[Bool.eq_iff_iff,Og,Og];constructor
 ·intro h b hb;obtain⟨i,hi,rfl⟩:=SU hb;have:=h i (OO.mpr hi)
  simpa [hi] using this
 ·intro h i hi;have hi:=OO.mp hi
  simpa [hi] using h bs[i] (Sx hi)
section
variable {X:Cx}
theorem Cf (hc:X.calm=true):cq X (.builtin "all") (λxs H Q=>∃ (p:Nn) (bs:List Bool),xs=[.ref p]/\bI X.K H p (bs.map V.bl)/\Q (.bl (bs.all id)) H):=by
 intro pins s σ H xs us Q I r h;obtain⟨p,bs,rfl,hp,q⟩:=h;obtain⟨u,rfl,ru⟩:=fN r;cases ru;obtain⟨its,rv,pl,hz⟩:=I.list hp;have hl:=rv.length;rw[Ni] at hl;have lt:p<s.heap.objs.size:=by
  obtain⟨o,e,_⟩:=pl.isList;exact Nf e
 refine call_all_walk (OS pl.isList ?_);refine⟨s.heap.objs.size,_,_,_,_,_,λi=>(bs[i]?).getD true,rfl,Wg (A:=X.A.in1) (show X.A.in1.handled=none from I.ok.hd hc) _ p (NA lt) its.toArray,⟨⟨_,Ng _ rfl,rfl,rfl⟩,pl.isList.push _⟩,λi v s' Q' E' hv hq=>?_,λh' tk kk=>?_⟩
 ·have hi:i<bs.length:=by
   have:=(QY.mp hv).1;rw[No] at this;lia
  obtain⟨w,ew,rw'⟩:=rv.get (i:=i) (x:=.bl bs[i]) (by simp[hi]);have:its[i]?=some v:=by simpa using hv
  rw[ew] at this;have e2:v=QE bs[i]:=(Nb this).symm.trans rw';rw[e2];refine OT ?_;have e:(bs[i]?).getD true=bs[i]:=by simp[hi]
  exact e▸hq
 ·have I1:aD X pins σ H { s with heap:=h',toks:=tk }:=I.kept λb o e=>kk b o (by simp;exact NA (Nf e)) (Na _ e)
  refine⟨.bl _,H,I1,?_,q⟩;show QE _=QE _;rw[<- AJ,No,<- hl]
theorem BZ (hc:X.calm=true):cq X (.builtin "sum") (λxs H Q=>∃ (p:Nn) (a b c:Int),xs=[.ref p]/\bI X.K H p [.int a,.int b,.int c]/\Sm 60 a/\Sm 60 b/\Sm 60 c/\Q (.int (a+b+c)) H):=by
 intro pins s σ H xs us Q I r h;obtain⟨p,a,b,c,rfl,hp,sa,sb,sc,q⟩:=h;obtain⟨u,rfl,ru⟩:=fN r;cases ru;obtain⟨its,rv,pl,hz⟩:=I.list hp;obtain⟨u1,u2,u3,rfl,⟨t1,rfl⟩,⟨t2,rfl⟩,⟨t3,rfl⟩⟩:∃ u1 u2 u3,its=[u1,u2,u3]/\bj (.int a) u1/\bj (.int b) u2/\bj (.int c) u3:=by
  cases rv with
  |cons r1 rv=>
   cases rv with
   |cons r2 rv=>
    cases rv with
    |cons r3 rv=>
     cases rv;exact⟨_,_,_,rfl,r1,r2,r3⟩
 have lt:p<s.heap.objs.size:=by
  obtain⟨o,e,_⟩:=pl.isList;exact Nf e
 have b60:(2:Nat)^60=1152921504606846976:=by decide
 unfold Sm at sa sb sc;rw[b60] at sa sb sc;refine call_sum_walk (OS pl.isList ?_);refine⟨s.heap.objs.size,_,_,_,_,_,λi=>if i=0 then a else if i=1 then b else c,rfl,Wg (A:=X.A.in1) (show X.A.in1.handled=none from I.ok.hd hc) _ p (NA lt) [.int a t1,.int b t2,.int c t3].toArray,
  ⟨⟨_,Ng _ rfl,rfl,rfl⟩,pl.isList.push _⟩,λb hb=>?_,λi v hv=>?_,λj hj=>?_,λh' tk t' kk=>?_⟩
 ·show b<(s.heap.push _).objs.size;rw[Oe];simp only[Nl,NH,OY] at hb;rcases hb with rfl|rfl
  ·exact Rb _
  ·exact OG lt
 ·match i,hv with
  |0,hv=>exact⟨t1,(Nb hv).symm⟩
  |1,hv=>exact⟨t2,(Nb hv).symm⟩
  |2,hv=>exact⟨t3,(Nb hv).symm⟩
  |n+3,hv=>simp at hv
 ·match j,hj with
  |0,_=>simp only[preSum,InLong];simp;lia
  |1,_=>simp only[preSum,InLong];simp;lia
  |2,_=>simp only[preSum,InLong];simp;lia
  |n+3,hj=>simp at hj;lia
 ·have I1:aD X pins σ H { s with heap:=h',toks:=tk }:=I.kept λb o e=>kk b o (by simp;exact NA (Nf e)) (Na _ e)
  refine⟨.int (a+b+c),H,I1,⟨t',?_⟩,q⟩
  congr 1
  show preSum _ 3=_;simp[preSum]
end
section
variable {X:Cx}{pos:Pos}
def KL (K:HD)(n:Nat)(t:IM):TG:=λv σ H Q=>∃ a xs,v=.ref a/\(bI K H a xs\/cW K H a xs)/\xs.length=n/\t xs σ H Q
theorem Iz {k:Nat}{n:Nat} (hc:X.calm=true) (h:Mb X es t)
  (hn:(P9 es X.env).length=n:=by rfl)(hst:(P9 es X.env).findIdx? (·.1)=none:=by rfl):PG X (.Tuple es k pos) (KL X.K n t):=by
 intro pins s σ H v u Q I r hw;obtain⟨a,xs,e1,hq,hl,hw⟩:=hw;subst e1;cases r;rcases hq with hq|hq
 ·obtain⟨its,rv,pl,hz⟩:=I.list hq;rw[assign_Tuple];refine KE (PP ?_);unfold unpack;have hs:(P9 es X.env).length=its.toArray.size:=by rw[hn,<- hl,rv.length,No]
  rw[hs,hst];refine KE (Ox (PySem.W.kun_itemsOf (I.ok.hd hc) pl.isList λh' hx=>?_));have I1:aD X pins σ H { s with heap:=h' }:=I.kept (t':=s.toks) λb o e=>hx b o (NA (Nf e)) e
  exact h pins _ σ H xs _ Q I1 (by simpa using rv) hw
 ·obtain⟨its,rv,ht,hz⟩:=I.tuple hq;refine Tv (I.ok.hd hc) ht (by simp[hn,<- hl,rv.length]) hst λh' hx=>?_
  have I1:aD X pins σ H { s with heap:=h' }:=I.kept (t':=s.toks) λb o e=>hx b o (NA (Nf e)) e
  exact h pins _ σ H xs _ Q I1 (by simpa using rv) hw
end
abbrev rD (q:Rat):NQ:=Bf q.num (q.den:Int)
theorem lU (q:Rat):q=(q.num:Rat)/((q.den:Int):Rat):=by rw[<- Rat.divInt_eq_div,Rat.num_divInt_den]
theorem Am {t b:Int}(hb:b≠0):CM t b ((t:Rat)/(b:Rat)).num (((t:Rat)/(b:Rat)).den:Int):=by
 have hq:=lU ((t:Rat)/(b:Rat));have hd:0<((t:Rat)/(b:Rat)).den:=((t:Rat)/(b:Rat)).den_pos;have hr:=((t:Rat)/(b:Rat)).reduced;generalize hz:(t:Rat)/(b:Rat)=q at *;refine⟨by lia,hr,?_⟩;have hb':(b:Rat)≠0:=by
  intro z;exact hb (by exact_mod_cast z)
 have hd':((q.den:Int):Rat)≠0:=by
  intro z;have:q.den=0:=by exact_mod_cast z
  lia
 have:(q.num:Rat)*(b:Rat)=(t:Rat)*((q.den:Int):Rat):=by
  generalize (q.num:Rat)=x at *;generalize ((q.den:Int):Rat)=y at *;generalize (b:Rat)=b' at *;generalize (t:Rat)=t' at *;have e:t'/b'=x/y:=hz.trans hq;grind
 exact_mod_cast this
theorem Fh {t b n d:Int}(hb:b≠0)(h:CM t b n d):n=((t:Rat)/(b:Rat)).num/\d=(((t:Rat)/(b:Rat)).den:Int):=yy hb h (Am hb)
abbrev Bq (k:Nat)(q:Rat):Prop:=Ok k q.num (q.den:Int)
theorem fR {k:Nat}{t b:Int}(hb:b≠0)(ht:Sm k t)(sb:Sm k b):Bq k ((t:Rat)/(b:Rat)):=(Am hb).ok hb ht sb
theorem oi (q:Rat):((q.den:Int):Rat)≠0:=by
 intro z;have:q.den=0:=by exact_mod_cast z
 have:=q.den_pos;lia
theorem Ae (p q:Rat):p+q=((p.num*(q.den:Int)+q.num*(p.den:Int):Int):Rat)/(((p.den:Int)*(q.den:Int):Int):Rat):=by
 have h1:=oi p;have h2:=oi q;have e1:=lU p;have e2:=lU q;rw[S_,N9,N9,N9];grind
theorem zZ (p q:Rat):p*q=((p.num*q.num:Int):Rat)/(((p.den:Int)*(q.den:Int):Int):Rat):=by
 have h1:=oi p;have h2:=oi q;have e1:=lU p;have e2:=lU q;rw[N9,N9];grind
theorem zK (p q:Rat):(p.den:Int)*(q.den:Int)≠0:=by
 have:=p.den_pos;have:=q.den_pos;exact Pf (by lia) (by lia)
theorem Bq.add {j k:Nat}{p q:Rat}(hp:Bq j p)(hq:Bq k q):Bq (j+k+1) (p+q):=by
 rw[Bq,Ae];refine fR (zK p q) (Sm.add (hp.sn.mul hq.sd) ((hq.sn.mul hp.sd).mono (by lia))) ((hp.sd.mul hq.sd).mono (by lia))
theorem Bq.mul {j k:Nat}{p q:Rat}(hp:Bq j p)(hq:Bq k q):Bq (j+k) (p*q):=by
 rw[Bq,zZ];exact fR (zK p q) (hp.sn.mul hq.sn) (hp.sd.mul hq.sd)
theorem L5:Bq 1 0:=⟨by decide,by decide,by unfold Sm;decide,by unfold Sm;decide⟩
def xE (K:HD)(H:Hp)(q:Rat)(Q:VK):Prop:=∀ v H',ae H H'->aw K H' (rD q) v->Q v H'
theorem xE.sh {K:HD}{H:Hp}{t b:Int}{Q:VK}(hb:b≠0)(h:xE K H ((t:Rat)/(b:Rat)) Q):Sh K H t b Q:=λv n d H' s hv lw=>by
 obtain⟨e1,e2⟩:=Fh hb lw;subst e1 e2;exact h v H' s hv
theorem cC {i:Int}(hg:Gl X x)(hm:∃ t,X.mg x=some (.int i t))(hd:(x==("__debug__":Str))=false:=by decide):WE X (.Name x pos) (tC (.int i)):=by
 refine⟨?_⟩;obtain⟨t,e⟩:=hm;exact Fs hg e ⟨t,rfl⟩ hd
theorem av.get {K:HD}{H:Hp}:∀ {ds:List NQ}{xs:List V}{i:Nat}{x:V},av K H ds xs->xs[i]?=some x->∃ d,ds[i]?=some d/\aw K H d x
 |_,_,_,_,.nil,e=>by simp at e
 |_,_,0,_,.cons h _,e=>by simp at e;subst e;exact⟨_,rfl,h⟩
 |_,_,i+1,x,.cons _ q,e=>by
  obtain⟨d,h1,h2⟩:=av.get (i:=i) (x:=x) q (by simpa using e);exact⟨d,by simpa using h1,h2⟩
theorem av.snoc {K:HD}{H:Hp}{d:NQ}{x:V}:∀ {ds:List NQ}{xs:List V},av K H ds xs->aw K H d x->av K H (ds++[d]) (xs++[x])
 |_,_,.nil,h=>.cons h .nil
 |_,_,.cons a q,h=>.cons a (av.snoc q h)
theorem bX.same {K:HD}{H H':Hp}{a:Nn}{xs:List V}(e:ae H H'):∀ {b:Bool},bX K H a xs b->bX K H' a xs b
 |true,h=>e.seq h
 |false,h=>jG e h
theorem ce {n:Nat}(h:n<=1000):n<=Nv:=PV (bP h)
theorem bF {α:Type}{l:List α}{i:Nat}{x:α}(h:l[i]?=some x):l.take (i+1)=l.take i++[x]:=by
 rw[List.take_succ,h];rfl
section
variable {K:HD}{g:TG}{tt:TT}{te:TE}{σ0:L2.St}{Fin:List V->Hp->Prop}{H1:Hp}
def mG (g:TG)(tt:TT)(te:TE)(σ0:L2.St)(x:V)(H:Hp)(post:V->Hp->Prop):Prop:=∀ R:VK,(∀ y H',post y H'->R y H')->∀ S:Hp->Prop,g x σ0 H λσ' H4=>tt σ' H4 λb H5=>if b=true then te σ' H5 R else S H5
theorem iH {a:Nn}{b:Bool}{xs:List V}{ds:List NQ}{f:NQ->NQ} (hsrc:bX K H1 a xs b) (hds:av K H1 ds xs) (hl:ds.length <= 1000)
  (he:∀ (i:Nat) (d:NQ) (x:V) (H:Hp),ds[i]?=some d->ae H1 H->aw K H d x->mG g tt te σ0 x H λy H'=>ae H H'/\aw K H' (f d) y)
  (hd:∀ ys H,ae H1 H->av K H (ds.map f) ys->Fin ys H):jj (xM K a b) g tt te σ0 Fin H1:=by
 have hlen:=hds.length;refine⟨λi m ys H=>m=xs.length-i/\i<=xs.length/\ae H1 H/\av K H ((ds.take i).map f) ys,⟨xs.length,by lia,Om _,ae.refl _,.nil⟩,?_⟩;rintro i m ys H ⟨rfl,hi,s,hys⟩;have hyl:=hys.length;rw[Ni,N8] at hyl
 by_cases hlt:i<xs.length
 ·have go:(xM K a b).go i H:=by
   have q:=bX.same s hsrc;cases b with
   |true=>exact⟨xs,xs[i],q,by simp[hlt]⟩
   |false=>exact⟨xs,xs[i],q,by simp[hlt]⟩
  refine .inr ⟨go,bP (by lia),λx H3 y3=>?_⟩;have e3:H3=H/\xs[i]?=some x:=by
   have q:=bX.same s hsrc;cases b with
   |true=>exact⟨y3.1,y3.2 xs q⟩
   |false=>exact⟨y3.1,y3.2 xs q⟩
  obtain⟨rfl,hx⟩:=e3;obtain⟨d,hdd,hdx⟩:=hds.get hx;refine he i d x _ hdd s (aw.same s hdx) _ (λy H' ⟨s',hy⟩=>⟨xs.length-(i+1),by lia,rfl,hlt,s.trans s',?_⟩) λH5=>∃ m',m'<xs.length-i/\(m'=xs.length-(i+1)/\i+1<=xs.length/\ae H1 H5/\av K H5 ((ds.take (i+1)).map f) ys)
  rw[bF hdd,Ot];exact(av.same s' hys).snoc hy
 ·have e:i=xs.length:=by lia
  subst e;have stop:(xM K a b).stop xs.length H:=by
   have q:=bX.same s hsrc;cases b with
   |true=>exact⟨xs,q,Nj _⟩
   |false=>exact⟨xs,q,Nj _⟩
  rw[NR (by lia)] at hys;exact .inl ⟨stop,ce (by lia),hd ys H s hys⟩
theorem qB {lo:Int}{n:Nat} (Pv:Nat->List V->Hp->Prop) (h0:Pv 0 [] H1) (hl:n <= 1000) (hy:∀ i ys H,i <= n->Pv i ys H->ys.length <= i)
  (he:∀ i ys H,i<n->Pv i ys H->mG g tt te σ0 (.int (lo+i)) H λy H'=>Pv (i+1) (ys++[y]) H')(hd:∀ ys H,Pv n ys H->Fin ys H):jj (Gv lo n) g tt te σ0 Fin H1:=by
 refine⟨λi m ys H=>m=n-i/\i<=n/\Pv i ys H,⟨n,by lia,Om _,h0⟩,?_⟩;rintro i m ys H ⟨rfl,hi,p⟩;have hyl:=hy i ys H hi p
 by_cases hlt:i<n
 ·refine .inr ⟨hlt,bP (by lia),λx H3 y3=>?_⟩;obtain⟨rfl,rfl⟩:=y3;exact he i ys _ hlt p _ (λy H' p'=>⟨n-(i+1),by lia,rfl,hlt,p'⟩) λH5=>∃ m',m'<n-i/\(m'=n-(i+1)/\i+1<=n/\Pv (i+1) ys H5)
 ·have e:i=n:=by lia
  subst e;exact .inl ⟨Nj _,ce (by lia),hd ys H p⟩
theorem dU:∀ {bs:List Bool}{ys:List V},av K H (bs.map SY) ys->ys=bs.map V.bl
 |[],_,.nil=>rfl
 |b::bs,_,.cons (.bl _) q=>by rw[dU q];rfl
end
def wV (b:Bool)(ds:List NQ):NQ:=if b=true then .list ds else .tuple ds
structure R3 where
 a:Int
 b:Int
 c:Int
def R3.ds (r:R3):List NQ:=[.int r.a,.int r.b,.int r.c]
def R3.vs (r:R3):List V:=[.int r.a,.int r.b,.int r.c]
def jg (k:Bool)(r:R3):NQ:=wV k r.ds
structure R3.In (r:R3)(m:Int):Prop where
 a1:-m<=r.a
 a2:r.a<=m
 b1:-m<=r.b
 b2:r.b<=m
 c1:-m<=r.c
 c2:r.c<=m
structure S9 where
 k:Bool
 k1:Bool
 k2:Bool
 k3:Bool
 x:R3
 y:R3
 z:R3
def S9.rows (s:S9):List NQ:=[jg s.k1 s.x,jg s.k2 s.y,jg s.k3 s.z]
def S9.d (s:S9):NQ:=wV s.k s.rows
structure S9.In (s:S9):Prop where
 x:s.x.In 4000
 y:s.y.In 4000
 z:s.z.In 4000
theorem bn {K:HD}{H:Hp}{b:Bool}{ds:List NQ}{v:V}(h:aw K H (wV b ds) v):∃ a xs,v=.ref a/\bX K H a xs b/\av K H ds xs:=by
 cases b with
 |true=>
  cases h with
  |lst h q=>exact⟨_,_,rfl,.inl h,q⟩
 |false=>
  cases h with
  |tup h q=>exact⟨_,_,rfl,cW.of h,q⟩
theorem eX {K:HD}{H:Hp}{r:R3}{xs:List V}(h:av K H r.ds xs):xs=r.vs:=by
 cases h with
 |cons h1 h=>
  cases h1;cases h with
  |cons h2 h=>
   cases h2;cases h with
   |cons h3 h=>
    cases h3;cases h;rfl
theorem hU {K:HD}{H:Hp}{b:Bool}{r:R3}{v:V}(h:aw K H (jg b r) v):∃ a,v=.ref a/\bX K H a r.vs b:=by
 obtain⟨a,xs,rfl,hq,hd⟩:=bn h;cases eX hd;exact⟨a,rfl,hq⟩
theorem cV {K:HD}{H:Hp}{d1 d2 d3:NQ}{xs:List V}(h:av K H [d1,d2,d3] xs):∃ x y z,xs=[x,y,z]/\aw K H d1 x/\aw K H d2 y/\aw K H d3 z:=by
 cases h with
 |cons h1 h=>
  cases h with
  |cons h2 h=>
   cases h with
   |cons h3 h=>
    cases h;exact⟨_,_,_,rfl,h1,h2,h3⟩
theorem rV {K:HD}{H:Hp}{Q:VK}{a:Nn}{xs:List V}{b:Bool}{i:Nat}{v:V}(h:bX K H a xs b)(e:xs[i]?=some v)(q:Q v H):GK K (.ref a) (.int (i:Int)) H Q:=by
 cases b with
 |true=>exact .inl ⟨a,xs,_,v,rfl,rfl,h,mz e,q⟩
 |false=>exact .inr (.inl ⟨a,xs,_,v,rfl,rfl,h,mz e,q⟩)
theorem nE {K:HD}{H:Hp}{a:Nn}{xs:List V}{b:Bool}(h:bX K H a xs b):bI K H a xs\/cW K H a xs:=by
 cases b with
 |true=>exact .inl h
 |false=>exact .inr h
theorem CD {K:HD}{H:Hp}{b:Bool}{ds:List NQ}{v:V}(h:aw K H (wV b ds) v):∃ T,Ty K H v T/\uT T ["list","tuple"]=some true:=by
 cases b with
 |true=>exact⟨"list",h.ty,by decide +kernel⟩
 |false=>exact⟨"tuple",h.ty,by decide +kernel⟩
def JV (p q r:Rat):NQ:=.tuple [rD p,rD q,rD r]
theorem jv {x:Int}(h1:-4000<=x)(h2:x<=4000):Sm 13 x:=by unfold Sm;lia
def S9.det (s:S9):Int:=s.x.a*(s.y.b*s.z.c-s.y.c*s.z.b)-s.x.b*(s.y.a*s.z.c-s.y.c*s.z.a)+s.x.c*(s.y.a*s.z.b-s.y.b*s.z.a)
def cut (T:List Nn)(H:Hp):Hp:=λb=>if b∈T then none else H b
theorem CT:ae (cut T H) H:=λb o e=>by
 unfold cut at e
 split at e
 ·cases e
 ·exact e
theorem EQ (h:b∉T):cut T H b=H b:=NS h
theorem Mv.cut (h:Mv T H H'):ae (cut T H) (cut T H'):=λb o e=>by
 unfold TR.cut at e ⊢
 split at e
 ·cases e
 ·rename_i n
  rw[NS n];exact h b o e n
theorem ae.cut (h:ae H H'):ae (TR.cut T H) (TR.cut T H'):=(Mv.of h).cut
theorem cE.not (h:cE H t r)(hp:H p=none):p∉[t,r]:=λm=>by
 obtain⟨xs,e⟩:=h.lists p m;rw[hp] at e;cases e
theorem aw.uncut {K:HD}{T:List Nn}{H:Hp}{d:NQ}{v:V}(h:aw K (cut T H) d v):aw K H d v:=aw.same CT h
mutual
theorem aw.cutT {K:HD}{T:List Nn}{H:Hp}(l:hV H T):∀ {d:NQ}{v:V},sG d=true->aw K H d v->aw K (cut T H) d v
 |_,_,_,.non=>.non
 |_,_,_,.bl b=>.bl b
 |_,_,_,.int i=>.int i
 |_,_,_,.str x=>.str x
 |_,_,t,.lst _ _=>by simp[sG] at t
 |_,_,t,.tup h q=>.tup (by rw[EQ (l.not h λ_ z=>nomatch z)];exact h) (av.cutT l (by simpa [sG] using t) q)
 |_,_,t,.dct _=>by simp[sG] at t
theorem av.cutT {K:HD}{T:List Nn}{H:Hp}(l:hV H T):∀ {ds:List NQ}{vs:List V},iK ds=true->av K H ds vs->av K (cut T H) ds vs
 |_,_,_,.nil=>.nil
 |_,_,t,.cons h q=>by
  simp only[iK,NO] at t;exact .cons (aw.cutT l t.1 h) (av.cutT l t.2 q)
end
theorem vS {K:HD}{t r D:Nn}{H:Hp}{ds:List NQ}{ys:List V}(tw:cE H t r)(hD:H D=none)(h:av K (cut [t,r] H) ds ys):aw K (cut [t,r] (upd H D (.lst ys))) (.list ds) (.ref D):=by
 refine .lst (.inl ?_) (av.same (ae.cut (ae.new hD)) h);rw[EQ (tw.not hD)];exact ai
theorem aw.listN {K:HD}{D:Nn}{H:Hp}{ds:List NQ}{ys:List V}(hD:H D=none)(h:av K H ds ys):aw K (upd H D (.lst ys)) (.list ds) (.ref D):=.lst (.inl ai) (av.same (ae.new hD) h)
theorem aw.tupN {K:HD}{D:Nn}{H:Hp}{ds:List NQ}{ys:List V}(hD:H D=none)(h:av K H ds ys):aw K (upd H D (.tup ys)) (.tuple ds) (.ref D):=.tup ai (av.same (ae.new hD) h)
abbrev KC (J:It)(g:TG)(tb:TS)(D:nQ)(σ:L2.St)(H:Hp):Prop:=∃ W:Nat->Nat->L2.St->Hp->Prop,(∃ m,W 0 m σ H)/\∀ i m σ H,W i m σ H ->
 (J.stop i H/\D.nx σ H)\/(J.go i H/\∃ N:L2.St->Hp->Prop,(∀ σ' H',N σ' H'->∃ m',m'<m/\W (i+1) m' σ' H')/\∀ x H',J.yld i H x H'->g x σ H' λσ2 H2=>tb { D with nx:=N,ct:=N,bk:=D.nx } σ2 H2)
theorem kA {K:HD}{a:Nn}{b:Bool}{xs:List V}{g:TG}{tb:TS}{D:nQ}{σ:L2.St}{H:Hp} (Pv:Nat->L2.St->Hp->Prop) (h0:Pv 0 σ H) (hl:∀ i σ H,i <= xs.length->Pv i σ H->bX K H a xs b)
  (hs:∀ i x σ H,xs[i]?=some x->Pv i σ H->g x σ H λσ2 H2=>tb { D with nx:=Pv (i+1),ct:=Pv (i+1),bk:=D.nx } σ2 H2)(hd:∀ σ H,Pv xs.length σ H->D.nx σ H):KC (xM K a b) g tb D σ H:=by
 cases b with
 |true=>exact DJ Pv h0 hl hs hd
 |false=>exact E_ Pv h0 hl hs hd
theorem Aq {K:HD}{a1 a2:Nn}{b1 b2:Bool}{xs ys:List V}{g:TG}{tb:TS}{D:nQ}{σ:L2.St}{H:Hp} (Pv:Nat->L2.St->Hp->Prop) (h0:Pv 0 σ H) (hle:xs.length=ys.length) (hl:∀ i σ H,i <= xs.length->Pv i σ H->bX K H a1 xs b1/\bX K H a2 ys b2)
  (hs:∀ i x y T σ H,xs[i]?=some x->ys[i]?=some y->Pv i σ H->H T=none->g (.ref T) σ (upd H T (.tup [x,y])) λσ2 H2=>tb { D with nx:=Pv (i+1),ct:=Pv (i+1),bk:=D.nx } σ2 H2)(hd:∀ σ H,Pv xs.length σ H->D.nx σ H):KC (JS K b1 b2 a1 a2) g tb D σ H:=by
 refine⟨λi m σ H=>m=xs.length-i/\i<=xs.length/\Pv i σ H,⟨xs.length,by simp,Om _,h0⟩,?_⟩;rintro i m σ H ⟨rfl,hi,p⟩;obtain⟨q1,q2⟩:=hl i σ H hi p
 by_cases hlt:i<xs.length
 ·have hlt2:i<ys.length:=by lia
  refine .inr ⟨⟨xs,ys,xs[i],ys[i],q1,q2,by simp[hlt],by simp[hlt2]⟩,Pv (i+1),λσ' H' p'=>⟨xs.length-(i+1),by lia,rfl,hlt,p'⟩,λv H' y=>?_⟩;obtain⟨x,y,T,k1,k2,kT,rfl,rfl⟩:=y;exact hs i x y T σ _ (k1 xs q1) (k2 ys q2) p kT
 ·have e:i=xs.length:=by lia
  subst e;exact .inl ⟨⟨xs,ys,q1,q2,.inl (Nj _)⟩,hd σ H p⟩
section
variable {K:HD}{g:TG}{tt:TT}{te:TE}{σ0:L2.St}{Fin:List V->Hp->Prop}{H1:Hp}
theorem h_ {lo:Int}{n:Nat} (hn:ds.length=n) (hl:n <= 1000)
  (he:∀ (i:Nat) (d:NQ) (H:Hp),ds[i]?=some d->ae H1 H->mG g tt te σ0 (.int (lo+i)) H λy H'=>ae H H'/\aw K H' d y)(hd:∀ ys H,ae H1 H->av K H ds ys->Fin ys H):jj (Gv lo n) g tt te σ0 Fin H1:=by
 refine qB (λi ys H=>ae H1 H/\av K H (ds.take i) ys) ⟨ae.refl _,.nil⟩ hl (λi ys H hi p=>?_) (λi ys H hi p=>?_) (λys H p=>?_)
 ·rw[<- p.2.length,N8];lia
 ·obtain⟨s,q⟩:=p;have e:ds[i]?=some ds[i]:=by simp[show i<ds.length by lia]
  intro R kk S;refine he i ds[i] H e s R (λy H' ⟨s',hy⟩=>kk _ _ ⟨s.trans s',?_⟩) S;rw[bF e];exact(av.same s' q).snoc hy
 ·obtain⟨s,q⟩:=p;rw[NR (by lia)] at q;exact hd ys H s q
theorem oJ {lo:Int}{t r:Nn}{n:Nat}{Pd:NQ->Prop} (tw:cE H1 t r) (hl:n <= 1000)
  (he:∀ (i:Nat) (H:Hp),i<n->cE H t r->Mv [t,r] H1 H->mG g tt te σ0 (.int (lo+i)) H λy H'=>cE H' t r/\Mv [t,r] H H'/\∃ d,Pd d/\aw K (cut [t,r] H') d y)
  (hd:∀ ds ys H,ds.length=n->(∀ d∈ds,Pd d)->cE H t r->Mv [t,r] H1 H->av K (cut [t,r] H) ds ys->Fin ys H):jj (Gv lo n) g tt te σ0 Fin H1:=by
 refine qB (λi ys H=>cE H t r/\Mv [t,r] H1 H/\∃ ds:List NQ,ds.length=i/\(∀ d∈ds,Pd d)/\av K (cut [t,r] H) ds ys) ⟨tw,Mv.refl,[],rfl,λ_ h=>(NH h).elim,.nil⟩ hl (λi ys H hi p=>?_) (λi ys H hi p=>?_) (λys H p=>?_)
 ·obtain⟨_,_,ds,e,_,q⟩:=p;rw[<- q.length];lia
 ·obtain⟨tw',mv,ds,e,hP,q⟩:=p;intro R kk S;refine he i H hi tw' mv R (λy H' ⟨tw2,mv2,d,hd,hy⟩=>kk _ _ ⟨tw2,mv.trans mv2,ds++[d],by rw[NL,e];rfl,λd' m=>?_,(av.same mv2.cut q).snoc hy⟩) S;rcases Ou.mp m with m|m
  ·exact hP d' m
  ·cases Nm.mp m;exact hd
 ·obtain⟨tw',mv,ds,e,hP,q⟩:=p;exact hd ds ys H e hP tw' mv q
end
structure Q3 where
 a:Rat
 b:Rat
 c:Rat
def Q3.ds (q:Q3):List NQ:=[rD q.a,rD q.b,rD q.c]
def Q3.col (q:Q3):NQ:=.tuple q.ds
structure Q3.Bd (k:Nat)(q:Q3):Prop where
 a:Bq k q.a
 b:Bq k q.b
 c:Bq k q.c
theorem Q3.Bd.mono {j k:Nat}{q:Q3}(h:q.Bd j)(l:j<=k):q.Bd k:=⟨h.a.mono l,h.b.mono l,h.c.mono l⟩
def Hj (p q:Q3):Rat:=0+p.a*q.a+p.b*q.b+p.c*q.c
structure M9 where
 x:Q3
 y:Q3
 z:Q3
def M9.d (m:M9):NQ:=.list [.list m.x.ds,.list m.y.ds,.list m.z.ds]
def M9.led (m:M9)(c:Q3):Q3:=⟨Hj m.x c,Hj m.y c,Hj m.z c⟩
structure M9.Bd (k:Nat)(m:M9):Prop where
 x:m.x.Bd k
 y:m.y.Bd k
 z:m.z.Bd k
theorem Q3.ext {p q:Q3}(h1:p.a=q.a)(h2:p.b=q.b)(h3:p.c=q.c):p=q:=by
 cases p;cases q;simp_all
def R3.q (r:R3):Q3:=⟨(r.a:Rat)/((1000:Int):Rat),(r.b:Rat)/((1000:Int):Rat),(r.c:Rat)/((1000:Int):Rat)⟩
def S9.m (s:S9):M9:=⟨s.x.q,s.y.q,s.z.q⟩
def R3.cross (r s:R3):R3:=⟨r.b*s.c-r.c*s.b,r.c*s.a-r.a*s.c,r.a*s.b-r.b*s.a⟩
def R3.dot (r s:R3):Int:=r.a*s.a+r.b*s.b+r.c*s.c
def S9.ca (s:S9):R3:=⟨s.x.a,s.y.a,s.z.a⟩
def S9.cb (s:S9):R3:=⟨s.x.b,s.y.b,s.z.b⟩
def S9.cc (s:S9):R3:=⟨s.x.c,s.y.c,s.z.c⟩
def R3.by (r:R3)(s:S9):Q3:=⟨(r.dot s.ca:Rat)/((1000*1000:Int):Rat),(r.dot s.cb:Rat)/((1000*1000:Int):Rat),(r.dot s.cc:Rat)/((1000*1000:Int):Rat)⟩
section
variable {K:HD}{g:TG}{tt:TT}{te:TE}{σ0:L2.St}{Fin:List V->Hp->Prop}{H1:Hp}
theorem bW (hsrc:bX K H1 a xs b) (hds:av K H1 ds xs) (hle:es.length=ds.length) (hl:ds.length <= 1000)
  (he:∀ (i:Nat) (d e:NQ) (x:V) (H:Hp),ds[i]?=some d->es[i]?=some e->ae H1 H->aw K H d x->mG g tt te σ0 x H λy H'=>ae H H'/\aw K H' e y)
  (hd:∀ ys H,ae H1 H->av K H es ys->Fin ys H):jj (xM K a b) g tt te σ0 Fin H1:=by
 have hlen:=hds.length;refine⟨λi m ys H=>m=xs.length-i/\i<=xs.length/\ae H1 H/\av K H (es.take i) ys,⟨xs.length,by lia,Om _,ae.refl _,.nil⟩,?_⟩;rintro i m ys H ⟨rfl,hi,s,hys⟩;have hyl:=hys.length;rw[N8] at hyl
 by_cases hlt:i<xs.length
 ·have go:(xM K a b).go i H:=by
   have q:=bX.same s hsrc;cases b with
   |true=>exact⟨xs,xs[i],q,by simp[hlt]⟩
   |false=>exact⟨xs,xs[i],q,by simp[hlt]⟩
  refine .inr ⟨go,bP (by lia),λx H3 y3=>?_⟩;have e3:H3=H/\xs[i]?=some x:=by
   have q:=bX.same s hsrc;cases b with
   |true=>exact⟨y3.1,y3.2 xs q⟩
   |false=>exact⟨y3.1,y3.2 xs q⟩
  obtain⟨rfl,hx⟩:=e3;obtain⟨d,hdd,hdx⟩:=hds.get hx;have hee:es[i]?=some es[i]:=by simp[show i<es.length by lia]
  refine he i d es[i] x _ hdd hee s (aw.same s hdx) _ (λy H' ⟨s',hy⟩=>⟨xs.length-(i+1),by lia,rfl,hlt,s.trans s',?_⟩) λH5=>∃ m',m'<xs.length-i/\(m'=xs.length-(i+1)/\i+1<=xs.length/\ae H1 H5/\av K H5 (es.take (i+1)) ys)
  rw[bF hee];exact(av.same s' hys).snoc hy
 ·have e:i=xs.length:=by lia
  subst e;have stop:(xM K a b).stop xs.length H:=by
   have q:=bX.same s hsrc;cases b with
   |true=>exact⟨xs,q,Nj _⟩
   |false=>exact⟨xs,q,Nj _⟩
  rw[NR (by lia)] at hys;exact .inl ⟨stop,ce (by lia),hd ys H s hys⟩
theorem f8 (h1:bX K H1 a1 xs b1) (h2:bX K H1 a2 ys b2) (hds:av K H1 ds xs) (hes:av K H1 es ys) (hle:ds.length=es.length) (hlf:fs.length=ds.length) (hl:ds.length <= 1000)
  (he:∀ (i:Nat) (d e f:NQ) (x y:V) (T:Nn) (H:Hp),ds[i]?=some d->es[i]?=some e->fs[i]?=some f->ae H1 H->aw K H d x->aw K H e y->H T=some (.tup [x,y])->mG g tt te σ0 (.ref T) H λz H'=>ae H H'/\aw K H' f z)
  (hd:∀ zs H,ae H1 H->av K H fs zs->Fin zs H):jj (JS K b1 b2 a1 a2) g tt te σ0 Fin H1:=by
 have hlen:=hds.length;have hlen2:=hes.length;refine⟨λi m zs H=>m=xs.length-i/\i<=xs.length/\ae H1 H/\av K H (fs.take i) zs,⟨xs.length,by lia,Om _,ae.refl _,.nil⟩,?_⟩;rintro i m zs H ⟨rfl,hi,s,hzs⟩;have hyl:=hzs.length;rw[N8] at hyl
 by_cases hlt:i<xs.length
 ·have hlt2:i<ys.length:=by lia
  refine .inr ⟨⟨xs,ys,xs[i],ys[i],bX.same s h1,bX.same s h2,by simp[hlt],by simp[hlt2]⟩,bP (by lia),λv H3 y3=>?_⟩;obtain⟨x,y,T,k1,k2,kT,rfl,rfl⟩:=y3;have hx:=k1 xs (bX.same s h1);have hy:=k2 ys (bX.same s h2);obtain⟨d,hdd,hdx⟩:=hds.get hx;obtain⟨e,hee,hey⟩:=hes.get hy;have hff:fs[i]?=some fs[i]:=by simp[show i<fs.length by lia]
  have sT:ae H (upd H T (.tup [x,y])):=ae.new kT;have sA:=s.trans sT;refine he i d e fs[i] x y T _ hdd hee hff sA (aw.same sA hdx) (aw.same sA hey) ai _ (λz H' ⟨s',hz⟩=>⟨xs.length-(i+1),by lia,rfl,hlt,sA.trans s',?_⟩) λH5=>∃ m',m'<xs.length-i/\(m'=xs.length-(i+1)/\i+1<=xs.length/\ae H1 H5/\av K H5 (fs.take (i+1)) zs)
  rw[bF hff];exact(av.same s' (av.same sT hzs)).snoc hz
 ·have e:i=xs.length:=by lia
  subst e;rw[NR (by lia)] at hzs;exact .inl ⟨⟨xs,ys,bX.same s h1,bX.same s h2,.inl (Nj _)⟩,ce (by lia),hd zs H s hzs⟩
end
theorem vx {i:Nat}(h:[a,b,c][i]?=some x):(i=0/\x=a)\/(i=1/\x=b)\/(i=2/\x=c):=by
 match i,h with
 |0,h=>exact .inl ⟨rfl,(Nb h).symm⟩
 |1,h=>exact .inr (.inl ⟨rfl,(Nb h).symm⟩)
 |2,h=>exact .inr (.inr ⟨rfl,(Nb h).symm⟩)
 |n+3,h=>simp at h
end TR
namespace TR
theorem gC {r s:R3}(h:r.In 4000)(g:s.In 4000):(r.cross s).In 200000000:=by
 have m:∀ {u v:Int},-4000<=u->u<=4000->-4000<=v->v<=4000->Sm 26 (u*v):=λh1 h2 h3 h4=>(jv h1 h2).mul (jv h3 h4)
 have f:∀ {x y:Int},Sm 26 x->Sm 26 y->-200000000<=x-y/\x-y<=200000000:=λa b=>by
  unfold Sm at a b;lia
 obtain⟨a1,a2,b1,b2,c1,c2⟩:=h;obtain⟨d1,d2,e1,e2,f1,f2⟩:=g;have k1:=f (m b1 b2 f1 f2) (m c1 c2 e1 e2);have k2:=f (m c1 c2 d1 d2) (m a1 a2 f1 f2);have k3:=f (m a1 a2 e1 e2) (m b1 b2 d1 d2);exact⟨k1.1,k1.2,k2.1,k2.2,k3.1,k3.2⟩
open PySem PySem.Spec PyProof.Rows L2
section
variable {X:Cx}{K:HD}{pos:Pos}{tg:Po}
def Kf (K:HD):List V->Hp->VK->Prop:=λxs H Q=>∃ p ys,xs=[.ref p]/\(bI K H p ys\/cW K H p ys)/\Q (.int ys.length) H
def Gc (K:HD):List V->Hp->VK->Prop:=λxs H Q=>∃ p ys,xs=[.ref p]/\(bI K H p ys\/cW K H p ys)/\∀ l,H l=none->Q (.ref l) (upd H l (.lst ys))
def IJ (K:HD):List V->Hp->VK->Prop:=λxs H Q=>∃ p ys,xs=[.ref p]/\((bI K H p ys/\∀ l,H l=none->Q (.ref l) (upd H l (.tup ys)))\/(cW K H p ys/\Q (.ref p) H))
def Mg (K:HD):List V->Hp->VK->Prop:=λxs H Q=>∃ (p:Nn) (bs:List Bool),xs=[.ref p]/\bI K H p (bs.map V.bl)/\Q (.bl (bs.all id)) H
def KU (K:HD):List V->Hp->VK->Prop:=λxs H Q=>∃ (p:Nn) (a b c:Int),xs=[.ref p]/\bI K H p [.int a,.int b,.int c]/\Sm 60 a/\Sm 60 b/\Sm 60 c/\Q (.int (a+b+c)) H
theorem k_ (e:X.K=K):cq X (.builtin "len") (Kf K):=by subst e;exact uh
theorem qV (e:X.K=K):cq X (.type "list") (Gc K):=by subst e;exact ue
theorem i_ (e:X.K=K):cq X (.type "tuple") (IJ K):=by subst e;exact rY
theorem oF (e:X.K=K)(hc:X.calm=true):cq X (.builtin "all") (Mg K):=by subst e;exact Cf hc
theorem Hk (e:X.K=K)(hc:X.calm=true):cq X (.builtin "sum") (KU K):=by subst e;exact BZ hc
theorem oU (e:X.K=K):cq X (.builtin "isinstance") (HM K):=by subst e;exact wP
theorem EE (e:X.K=K):cq X (.builtin "isinstance") (GH K):=by subst e;exact BQ
theorem JU (e:X.K=K)(hu:X.A.units+64<cLine):j7 X (Pk .Eq) (HV K):=by subst e;exact Il hu
theorem zP (e:X.K=K)(hu:X.A.units+64<cLine):j7 X (Pk .NotEq) (Hz K):=by subst e;exact JB hu
theorem E7 (e:X.K=K)(hu:X.A.units+64<cLine):j7 X (Pk .NotEq) (Em K):=by subst e;exact DZ hu
theorem L_ (e:X.K=K):DY X (GK K):=by subst e;exact Ht
theorem Bs (e:X.K=K):Ks X (K8 K):=by subst e;exact F6
theorem bH (e:X.K=K)(hl:WE X l tl):WI X tg l (Lg K tl):=by
 have hl:=hl.go;refine⟨?_⟩;subst e;exact Im hl
theorem iD (e:X.K=K) {tk:Nat} (hg:Gl X "zip") (hm:X.mg "zip"=none) (ha:WA X [a,b] ta) (hs:NG [a,b] X.env=[(false,QT a X.env),(false,QT b X.env)]:=by rfl) (hs2:NG [b] X.env=[(false,QT b X.env)]:=by rfl) :
  WI X (.Tuple elts tk tpos) (.Call (.Name "zip" p) [a,b] [] pos) (KG K ta):=by
 have ha:=ha.go;refine⟨?_⟩;subst e;exact Ib hg hm ha hs hs2
theorem b9 (e:X.K=K){k:Nat}{n:Nat}(hc:X.calm=true)(h:K4 X es t)(hn:(P9 es X.env).length=n:=by rfl)(hst:(P9 es X.env).findIdx? (·.1)=none:=by rfl):WG X (.Tuple es k pos) (KO K n t):=by
 have h:=h.go;refine⟨?_⟩;subst e;exact Je hc h hn hst
theorem re (e:X.K=K){k:Nat}{n:Nat}(hc:X.calm=true)(h:K4 X es t)(hn:(P9 es X.env).length=n:=by rfl)(hst:(P9 es X.env).findIdx? (·.1)=none:=by rfl):WG X (.Tuple es k pos) (KL K n t):=by
 have h:=h.go;refine⟨?_⟩;subst e;exact Iz hc h hn hst
end
def S9.one:S9:=⟨false,false,false,false,⟨1000,0,0⟩,⟨0,1000,0⟩,⟨0,0,1000⟩⟩
def S9.c0 (s:S9):R3:=s.y.cross s.z
def S9.c1 (s:S9):R3:=s.z.cross s.x
def S9.c2 (s:S9):R3:=s.x.cross s.y
def S9.f (s:S9)(n:Int):Rat:=((1000*n:Int):Rat)/((s.det:Int):Rat)
def S9.back (s:S9):M9:=⟨⟨s.f s.c0.a,s.f s.c1.a,s.f s.c2.a⟩,⟨s.f s.c0.b,s.f s.c1.b,s.f s.c2.b⟩,⟨s.f s.c0.c,s.f s.c1.c,s.f s.c2.c⟩⟩
theorem CJ {s:S9}(h:s.In):Sm 60 s.det:=by
 have m:∀ {u v:Int},-4000<=u->u<=4000->-4000<=v->v<=4000->Sm 26 (u*v):=λh1 h2 h3 h4=>(jv h1 h2).mul (jv h3 h4)
 obtain⟨⟨x1,x2,x3,x4,x5,x6⟩,⟨y1,y2,y3,y4,y5,y6⟩,⟨z1,z2,z3,z4,z5,z6⟩⟩:=h;have k1:=(jv x1 x2).mul ((m y3 y4 z5 z6).sub (m y5 y6 z3 z4));have k2:=(jv x3 x4).mul ((m y1 y2 z5 z6).sub (m y5 y6 z1 z2));have k3:=(jv x5 x6).mul ((m y1 y2 z3 z4).sub (m y3 y4 z1 z2));exact((k1.sub k2).add (k3.mono (by decide))).mono (by decide)
def xY (h:OZ)(e C:Nn)(T:Option Nn):Prop:=∃ oe vs,h.get? e=some oe/\oe.cls=.ref C/\oe.data=.fields vs/\match T with
 |none=>vs[1]?=some .none
 |some T=>vs[1]?=some (.ref T)/\T≠e/\∃ oT ts,h.get? T=some oT/\oT.data=.fields ts/\ts[3]?=some .none
section
variable {M:Model}{A:Oa}{E:Nd->Nh->Prop}{s:Nh}
theorem t9 (hfr:A.frames=some (env :: outer)) (hl:s.heap.FunFrames base (env :: outer)) (hf:env.frame=some L) (x:xY s.heap e C T)
  (h:∀ h' T',(∀ b o,s.heap.get? b=some o->b∉kH (env::outer)->b≠e->T≠some b->h'.get? b=some o)->(∀ b o,s.heap.get? b=some o->b∈kH (env::outer)->∃ sl,h'.get? b=some { o with slots:=sl }) ->
   xY h' e C (some T')->(s.heap.get? T'=none\/T=some T')->Q () { s with heap:=h' }):Nu M A (leaving env (.ref e)) Q E s:=by
 obtain⟨oe,vs,he,hcls,hd,hT⟩:=x;have hl':=PySem.W.funFrames_hide (as:=kH (env::outer)++e::T.toList) hl λenv he a ha=>OI _ (OX.mpr ⟨env,he,ha⟩)
 have hkb:(S0 s.heap (kH (env::outer)++e::T.toList)).StaysIn s.heap:=λb o q=>VT _ q
 have hen:(S0 s.heap (kH (env::outer)++e::T.toList)).get? e=none:=SE _ (Ny _ (NC ..));have fin:∀ h',Heap.Left (S0 s.heap (kH (env::outer)++e::T.toList)) (env::outer) e (.ref C) s.heap h'->Q () { s with heap:=h' }:=λh' hL=>by
  obtain⟨k1,k2,⟨oe',vs',T',oT',ts',he',hc',hd',h1',hn',hTe',hT',hdT',h3'⟩,k4⟩:=hL;have slots:∀ b o,s.heap.get? b=some o->b∈kH (env::outer)->∃ sl,h'.get? b=some { o with slots:=sl }:=λb o q m=>by
   obtain⟨_,o',ho',nf⟩:=hl.mem m;rw[q] at ho';cases ho';exact k4 b o q nf
  refine h h' T' (λb o q n1 n2 n3=>k1 b o (S4 _ q λm=>?_)) slots ⟨oe',vs',he',hc',hd',h1',hTe',oT',ts',hT',hdT',h3'⟩ ?_
  ·rcases Ou.mp m with m|m
   ·exact n1 m
   ·rcases Nl.mp m with m|m
    ·exact n2 m
    ·exact n3 (T6.mp m)
  ·cases q:s.heap.get? T' with
   |none=>exact .inl rfl
   |some o=>
    refine .inr ?_
    by_cases m:T'∈kH (env::outer)++e::T.toList
    ·rcases Ou.mp m with m|m
     ·obtain⟨_,o',ho',nf⟩:=hl.mem m;obtain⟨sl,e2⟩:=slots T' o' ho' m;rw[hT'] at e2;cases e2;exact absurd hdT' (nf _)
     ·rcases Nl.mp m with m|m
      ·exact absurd m hTe'
      ·exact T6.mp m
    ·have:=S4 _ q m;rw[hn'] at this;cases this
 cases T with
 |none=>exact wpAny_leaving_first hfr hl' hf he hkb hen hd hT λh' hL=>fin h' (hcls▸hL)
 |some T=>
  obtain⟨h1,hTe,oT,ts,hoT,hdT,h3⟩:=hT;refine wpAny_leaving_next hfr hl' hf ⟨oe,vs,T,oT,ts,he,hcls,hd,h1,SE _ ?_,hTe,hoT,hdT,h3⟩ hkb hen fin;exact Ny _ (Nr _ (by simp))
end
theorem nZ (x:jl P w H h)(k:∀ b u o,H b=some u->h.get? b=some o->h'.get? b=some o):jl P w H h':=λa o e=>
 (x a o e).stay (λb u hb q=>by
  rcases hb with rfl|hb
  ·exact k _ _ _ e q
  ·exact k _ _ _ hb q) (λ_ q=>q) λ_ _ q=>q
theorem oK:∀ {o:HO},bA P w H h a o->∃ u,h.get? a=some u
 |.lst _,x=>by obtain⟨_,_,_,_,e⟩:=x;exact⟨_,e⟩
 |.tup _,x=>by obtain⟨_,_,_,o,e,_⟩:=x;exact⟨o,e⟩
 |.dK _,x=>by obtain⟨_,_,_,_,o,_,_,e,_⟩:=x;exact⟨o,e⟩
 |.dT _,x=>by obtain⟨_,_,_,_,o,_,_,e,_⟩:=x;exact⟨o,e⟩
 |.set _ _,x=>by obtain⟨o,_,_,_,e,_⟩:=x;exact⟨o,e⟩
 |.ins _ _ _,x=>by obtain⟨_,_,_,e,_⟩:=x;exact⟨_,e⟩
 |.own _,x=>x
 |.xd _,x=>by obtain⟨_,⟨o,_,_,e,_⟩,_⟩:=x;exact⟨o,e⟩
 |.met _ _,x=>⟨_,x⟩
 |.rng _ _,x=>by obtain⟨_,_,_,e⟩:=x;exact⟨_,e⟩
 |.frz o _,x=>⟨o,x.1⟩
 |.tbl _,x=>by obtain⟨_,e,_⟩:=x;exact⟨_,e⟩
 |.ext _,x=>x.2.1
def cN (P:ND)(w:N6):jy:=λouter H s E v s'=>∃ (e C:Nn) (T:Option Nn) (H':Hp),v=.ref e/\s'.os=s.os/\UV s'.gens/\Un (kH outer) [] H H' s.heap s'.heap/\jl P w H' s'.heap/\xY s'.heap e C T /\
 (s.heap.get? e=none/\H' e=none)/\(∀ t,T=some t->s.heap.get? t=none/\H' t=none)/\E (.ref C) none H'
theorem aE:EZ (cN P w):=λ_ _ _ _ _ ⟨_,_,_,_,_,_,_,_,_,_,_,_,h⟩=>h
structure ul (X:Cx)(pins:List (Nn×Obj))(H:Hp)(b:Nn):Prop where
 new:X.s₀.heap.get? b=none
 free:H b=none
 loc:b≠X.env.locals
 cell:∀ x c,X.env.cells.lookup x=some c->c≠b
 pin:∀ p∈X.pn++pins,p.1≠b
def FA (X:Cx)(W:L2.St->Nn->Hp->Prop):Prop:=∀ (pins:List (Nn×Obj)) (σ:L2.St) (H:Hp) (s:Nh) (e C:Nn) (T:Option Nn),aD X pins σ H s->xY s.heap e C T->ul X pins H e->(∀ t,T=some t->ul X pins H t)->W σ C H->X.xe (.ref e) s
theorem bQ {P:ND}{w:N6}{K:HD}{mg:Str->Option Nd}{base:OZ}{N:List Str}{qual:Str}{scope:Q7}{f:Nn}{cd:Nd}{A:Oa}{outer:List Env}{s:Nh}{H:Hp}{E:XK} :
  FA (mi (cN P w) P w K mg base N qual scope f cd A outer s H E) (λ_ C H'=>E (.ref C) none H'):=by
 intro pins σ H' s' e C T I x oe oT q;have fl:=I.stack;show Nu _ _ (leaving _ _) _ _ _;refine t9 (base:=base) I.ok.frames fl rfl x λh' T' keep slot x' nT=>?_
 have sz:∀ b o,s.heap.get? b=some o->b≠s.heap.objs.size:=λb o e=>NA (Nf e)
 have nf:∀ b o,s.heap.get? b=some o->b∉kH outer->b∉kH (envOfC qual scope s.heap.objs.size f cd::outer):=λb o e n m=>by
  obtain⟨env,he,hf⟩:=OX.mp m;rcases Nl.mp he with rfl|he
  ·exact sz b o e (Nb hf).symm
  ·exact n (OX.mpr ⟨env,he,hf⟩)
 have inn:∀ b,b∈kH outer->b∈kH (envOfC qual scope s.heap.objs.size f cd::outer):=λb m=>by
  obtain⟨env,he,hf⟩:=OX.mp m;exact OX.mpr ⟨env,Nr _ he,hf⟩
 have ne:∀ b o,s.heap.get? b=some o->b≠e:=λb o q z=>by rw[z] at q;rw[show s.heap.get? e=none from oe.new] at q;cases q
 have nt:∀ b o,s.heap.get? b=some o->T≠some b:=λb o q z=>by rw[show s.heap.get? b=none from(oT b z).new] at q;cases q
 have hT':s.heap.get? T'=none/\H' T'=none:=by
  rcases nT with nT|nT
  ·constructor
   ·cases q:s.heap.get? T' with
    |none=>rfl
    |some o=>
     obtain⟨o',q'⟩:=I.base.there T' o q (by intro z;exact absurd (show T'∈([]:List Nn) from z) (by simp));rw[nT] at q';cases q'
   ·cases q:H' T' with
    |none=>rfl
    |some u=>
     have lt:=I.hok T' u q;obtain⟨o,q'⟩:∃ o,s'.heap.get? T'=some o:=oK lt;rw[nT] at q';cases q'
  ·exact⟨(oT T' nT).new,(oT T' nT).free⟩
 refine⟨e,C,some T',H',rfl,I.os,I.bare,⟨λb o q n m z=>?_,λb o q n m z=>?_,λb o q n z=>I.base.free b o q n z,λb o q z=>?_,I.base.tups,I.base.frzs,I.base.tbls⟩,nZ I.hok λb u o hb q=>?_,x',⟨oe.new,oe.free⟩,λt et=>by cases et;exact hT',q⟩
 ·exact keep b o (I.base.keep b o q n m z) (nf b o q m) (ne b o q) (nt b o q)
 ·obtain⟨sl,q2⟩:=I.base.slot b o q n m z;obtain⟨sl2,q3⟩:=slot b _ q2 (inn b m);exact⟨sl2,q3⟩
 ·obtain⟨o',q2⟩:=I.base.there b o q z
  by_cases m:b∈kH (envOfC qual scope s.heap.objs.size f cd::outer)
  ·obtain⟨sl,q3⟩:=slot b o' q2 m;exact⟨_,q3⟩
  ·exact⟨o',keep b o' q2 m (ne b o q) (nt b o q)⟩
 ·refine keep b o q (λm=>?_) (λz=>?_) (λz=>?_)
  ·rw[I.stkFree b m] at hb;cases hb
  ·rw[z,oe.free] at hb;cases hb
  ·rw[(oT b z).free] at hb;cases hb
theorem wC (t:FA X W)(hex:X.ex=[])(I:aD X pins σ H s)(hE:∀ C H',E (.ref C) none H'->W σ C H')(h:cN X.prog X.w X.stack H s E v s'):X.xe v s':=by
 obtain⟨e,C,T,H',rfl,os,bare,un,hok,x,⟨e1,e2⟩,hT,q⟩:=h;have I':aD X pins σ H' s':=I.call' os un hok bare λb z=>absurd z (by simp)
 have ours:∀ b,s.heap.get? b=none->H' b=none->ul X pins H' b:=λb n1 n2=>by
  have ne:∀ c o,s.heap.get? c=some o->c≠b:=λc o q z=>by rw[z,n1] at q;cases q
  refine⟨?_,n2,λz=>?_,λy c q z=>?_,λp hp z=>?_⟩
  ·cases q:X.s₀.heap.get? b with
   |none=>rfl
   |some o=>
    obtain⟨o',q'⟩:=I.base.there b o q (by rw[hex];simp);rw[n1] at q';cases q'
  ·obtain⟨m,hn,_⟩:=I.loc;obtain⟨o,_,_,ho,_⟩:=hn;exact ne _ o ho z.symm
  ·obtain⟨v,o,ho,_⟩:=I.cell y c q;exact ne _ o ho z
  ·exact ne _ _ (I.pin p hp).1 z
 exact t pins σ H' s' e C T I' x (ours e e1 e2) (λt et=>ours t (hT t et).1 (hT t et).2) (hE C H' q)
abbrev WX:=L2.St->Nn->Hp->Prop
def oM (W:WX)(σ:L2.St):XK:=λc _ H'=>∃ C,c=.ref C/\W σ C H'
def HF (sp:Sp)(dvs:List V)(W:WX)(t:TA):TE:=λσ H Q=>t σ H λvs H1=>sp (vs++dvs) H1 Q (oM W σ)
section
variable {X:Cx}{W:WX}{k:Nat}{ps:List Str}{sp:Sp}{dvs:List V}{x:Str}{p pos:Pos}{e:Po}{es:List Po}{t:TA}
theorem FL (F:gt X.prog X.w X.K X.mg X.base (cN X.prog X.w) k f fd ps sp)
  (hr:Room k X.A)(hb:ki X.K fd ps ds)(hd:aM dvs ds)(hT:FA X W)(hex:X.ex=[])(I:aD X pins σ H s)(r:aM vs us)(h:sp (vs++dvs) H Q (oM W σ)):
  Nu (NI X.prog X.w) X.A (call (.ref f) us) (EP X pins σ Q) X.xe s:=by
 have rr:aM (vs++dvs) (us++ds):=aM.append r hd;have hn:(us++ds).length=ps.length:=rr.length.symm.trans (F.len _ _ _ _ h);refine QX (Rn (F.run X.A X.stack s H ⟨us,[]⟩ (us++ds) (vs++dvs) Q (oM W σ) hr I.env0 (hb s us I.kIn hn) rr h) λz s' hz=>?_)
 match z,hz with
 |.error v,hz=>exact wC hT hex I (λC H' q=>by obtain⟨C',e,w⟩:=q;cases e;exact w) hz
 |.ok (.ret u),hz=>exact I.after hz
theorem cP (hT:FA X W) (hex:X.ex=[]) (C:df X.prog X.w X.K X.mg X.base (cN X.prog X.w) k x ps dvs sp) (hr:Room k X.A) (hg:Gl X x) (ha:WA X (e :: es) t) (hdb:(x == ("__debug__":Str))=false:=by decide)
  (he:NG (e::es) X.env=(false,QT e X.env)::NG es X.env:=by rfl)(hpl:(Q0 pos (NG es X.env)).any (·.1)=false:=by rfl):WE X (.Call (.Name x p) (e::es) [] pos) (HF sp dvs W t):=by
 have ha:=ha.go;refine⟨?_⟩;obtain⟨f,fd,ds,F,hm,hk,hb,hv⟩:=C.ex;intro pins s σ H Q I h;refine OA (eG I hg hm ?_ hdb);refine QI (h₀:=X.base) I.ok.mod.kin hk (bM (ha pos pins s σ H _ I h) λus s1 ⟨vs,H1,I1,r,q⟩=>⟨I1.kIn,?_⟩) he hpl;exact FL F hr hb hv hT hex I1 r q
end
theorem de.calX {P:ND}{w:N6}{K:HD}{mg:Str->Option Nd}{base:OZ}{CX:jy}{x:Str}{st:Pr}{N ps:List Str}{dvs:List V}{k:Nat}{sp:Sp} (F:de K mg x st ps dvs) (S:ay N ps (ag st))
  (len:∀ vs H Q E,sp vs H Q E->vs.length=ps.length:=by intro _ _ _ _ h;cases h;subst_vars;rfl)
  (bb:∀ (f:Nn) (cdv:Nd) (A:Oa) (outer:List Env) (s:Nh) (H:Hp) (vs:List V) (Q:VK) (E:XK),Room k (A.deeper (envOfC x (ag st) s.heap.objs.size f cdv))->sp vs H Q E ->
   ∃ t,xS (mi CX P w K mg base N x (ag st) f cdv A outer s H E) (aL st) t/\t { nx:=λ_ H'=>Q .non H',rt:=Q } (f_ N vs) H):df P w K mg base CX (k+1) x ps dvs sp:=by
 obtain⟨f,fd,oc,od,dV,kV,doc,pm,an,cdv,ct,osl,ds,rfl,lk,hcd,hm,hk,hb,hv⟩:=F.ex;exact⟨f,_,ds,oG lk hcd S len λA outer s H vs Q E hr hsp=>bb f cdv A outer s H vs Q E hr hsp,hm,hk,hb,hv⟩
abbrev LH:List Nd:=[.type "ValueError",.type "Exception",.type "BaseException",.type "object"]
abbrev Gb:String:="ValueError.__new__"
def cR (K:HD)(x:Str)(C:Nn):Prop:=Nw K Nk x=some (some (.ref C))
theorem E6 {K:HD}{h:OZ}{C:Nn}{bmB:List Nd}{newId:String} (X:K.In h) (q:RE K C bmB newId=true) :
  ∃ bm N nm qn bs hd sn sub ab col dd k0 k1 k2 k3 k5 mN,h.get? C=some (excClassObj nm qn C N bs bm hd sn sub ab col dd k0 k1 k2 k3 k5 newId)/\h.Ns N mN/\mN "__init__"=none/\OwnTail h bmB bm:=by
 unfold RE at q
 split at q
 ·rename_i dd cd sl look
  split at q
  ·rename_i C1 bm k0 k1 k2 k3 n k5 hm hs
   obtain⟨nm,bs,mro,ns,qn,hd,sn,sub,ab,col,del⟩:=cd;simp only[NO,OH,V5] at q hm;obtain⟨⟨⟨⟨⟨z1,z2⟩,z3⟩,z4⟩,z5⟩,z6⟩:=q;subst z1 z2 z3 hm;have es:sl=#[k0,k1,k2,k3,some (.builtin n),k5]:=by
    obtain⟨l⟩:=sl;simp only at hs;rw[hs]
   subst es;exact⟨bm,ns,nm,qn,bs,hd,sn,sub,ab,col,dd,k0,k1,k2,k3,k5,_,X _ _ look,.of_isNs (PySem.W.isNs_of_in X z5),PySem.W.nsMap_none_of_in X z5 z6,PySem.W.tail_of_in X z4⟩
  ·cases q
 ·cases q
def Ix (K:HD)(x:Str)(W:WX)(t:TA):TS:=λ_ σ H=>t σ H λvs H1=>vs.length<=Nv/\∀ C,cR K x C->W σ C H1
theorem aD.unt (I:aD X pins σ H s)(h:s.heap.get? b=none):H b=none:=by
 cases q:H b with
 |none=>rfl
 |some u=>
  obtain⟨o,z⟩:=oK (I.hok b u q);rw[h] at z;cases z
theorem aD.ours (hex:X.ex=[])(I:aD X pins σ H s)(h:s.heap.get? b=none):ul X pins H b:=by
 have ne:∀ c o,s.heap.get? c=some o->c≠b:=λc o q z=>by rw[z,h] at q;cases q
 refine⟨?_,aD.unt I h,λz=>?_,λy c q z=>?_,λp hp z=>?_⟩
 ·cases q:X.s₀.heap.get? b with
  |none=>rfl
  |some o=>
   obtain⟨o',q'⟩:=I.base.there b o q (by rw[hex];simp);rw[h] at q';cases q'
 ·obtain⟨m,hn,_⟩:=I.loc;obtain⟨o,_,_,ho,_⟩:=hn;exact ne _ o ho z.symm
 ·obtain⟨v,o,ho,_⟩:=I.cell y c q;exact ne _ o ho z
 ·exact ne _ _ (I.pin p hp).1 z
theorem kC {X:Cx}{W:WX}{x:Str}{np cpos pos:Pos}{e:Po}{es:List Po}{t:TA}{K:HD} (hK:X.K=K) (hT:FA X W) (hex:X.ex=[]) (hc:X.calm=true) (hg:Gl X x) (hC:∃ C,cR K x C/\RE K C LH Gb=true)
  (ha:WA X (e::es) t)(hdb:(x==("__debug__":Str))=false:=by decide)
  (he:NG (e::es) X.env=(false,QT e X.env)::NG es X.env:=by rfl)(hpl:(Q0 cpos (NG es X.env)).any (·.1)=false:=by rfl):
  WS X (.Raise (some (.Call (.Name x np) (e::es) [] cpos)) none pos) (Ix K x W t):=by
 have ha:=ha.go;refine⟨?_⟩;subst hK;intro pins s σ H D I h;obtain⟨C,hc1,hc2⟩:=hC;have hm:X.mg x=some (.ref C):=N1 I.ok.mod.kin I.ok.mod.glob hc1;obtain⟨bm,N,nm,qn,bs,hd,sn,sub,ab,col,dd,k0,k1,k2,k3,k5,mN,hO,hN,hi,hTl⟩:=E6 I.ok.mod.kin hc2;refine wpAny_Raise_call_subT (C:=C) (nm:=nm) (q:=qn) (N:=N) (bs:=bs) (bm:=bm) (hdct:=hd) (sn:=sn) (sub:=sub) (ab:=ab) (col:=col) (dd:=dd) (k0:=k0) (k1:=k1) (k2:=k2) (k3:=k3) (k5:=k5)
  Tk (mN:=mN) (hTl.hasType Tk.hasBase) (I.ok.hd hc) ?_ hi (eG I hg hm ⟨rfl,?_⟩ hdb)
 ·rw[he];show(false||(Q0 cpos (NG es X.env)).any (·.1))=false;rw[hpl];rfl
 have h2:=ha cpos pins s σ H _ I h;rw[he] at h2 ⊢;refine Vi (bM h2 λus s1 ⟨vs,H1,I1,r,hl,hw⟩=>⟨rfl,?_,I1.bk _ _ hO,hN.keeps I1.bk,hTl.keeps I1.bk,λh' e0 hx=>?_⟩)
 ·rw[<- r.length];exact hl
 ·obtain⟨tp,ht,hn1,ht2⟩:=hx.there;have I2:aD X pins σ H1 { s1 with heap:=h' }:=I1.kept (t':=s1.toks) hx.keeps;have o1:=aD.ours hex I1 hx.new;exact hT pins σ H1 _ e0 C none I2 ⟨_,_,ht,rfl,rfl,rfl⟩ o1 (λt z=>nomatch z) (hw C hc1)
theorem Av
  (h:Nu (NI prog w) A (execs body env) Q (λv s1=>Nu (NI prog w) A (leaving env v) (λ_ s2=>Nu (NI prog w) A (handleBy v env (h0::hs)) Q E s2) E s1) s):
  Nu (NI prog w) A (exec (.Try body (h0::hs) [] [] pos) env) Q E s:=by
 rw[arm_exec_Try];refine KE (PP ?_);unfold tryStmt;simp only[NY,Pl,PD,R9,List.isEmpty_cons,List.isEmpty_nil];refine KE (Pm (Oi h (λf s1 h1=>?_) λv s1 h1=>?_))
 ·cases f with
  |next=>exact RO h1
  |brk=>exact Nc h1
  |cont=>exact Nc h1
  |ret u=>exact Nc h1
 ·intro Γ p hΓ;have h2:=h1 Γ p hΓ;unfold leaving at h2;rw[WF] at h2;show Sem.wp _ Γ (noteFrame v env>>=λ_=>setFlight v none>>=λ_=>handleBy v env (h0::hs)) _ _ p s1;rw[WF];refine Sem.wp_mono _ Γ _ (λ_ p1 s3 h3=>?_) (λ_ _ _ z=>z) p s1 h2;rw[WF];exact Sem.wp_mono _ Γ _ (λ_ p2 s4 h4=>h4 Γ p2 hΓ) (λ_ _ _ z=>z) p1 s3 h3
section
variable {X:Cx}{pins pins':List (Nn×Obj)}{σ:L2.St}{H:Hp}{s:Nh}{h':OZ}
theorem aD.ctx (I:aD X pins σ H s) (hf:A'.frames=X.A.frames) (hc:c'=true->A'.handled=none) (hp:∀ p ∈ pn' ++ pins',p ∈ X.pn ++ pins) :
  aD { X with A:=A',calm:=c',pn:=pn',xe:=xe' } pins' σ H s:=
 ⟨⟨I.ok.mod,I.ok.kind,I.ok.glob,I.ok.blt,I.ok.above,I.ok.inj,I.ok.has,I.ok.cab,hc,hf.trans I.ok.frames,I.ok.stk,I.ok.exf,I.ok.bs,I.ok.bsz,I.ok.noex,I.ok.exfs,I.ok.funs,I.ok.frf⟩,
  I.os,I.bare,I.base,I.loc,I.cell,I.free,I.freeC,λp hp'=>I.pin p (hp p hp'),I.hok,I.len⟩
theorem aD.back {A':Oa}{c':Bool}{pn':List (Nn × Obj)}{xe':Nd->Nh->Prop} (J:aD { X with A:=A',calm:=c',pn:=pn',xe:=xe' } pins' σ H s) (hf:X.A.frames=A'.frames) (hc:X.calm=true->X.A.handled=none)
  (hp:∀ p∈X.pn++pins,p∈pn'++pins'):aD X pins σ H s:=
 ⟨⟨J.ok.mod,J.ok.kind,J.ok.glob,J.ok.blt,J.ok.above,J.ok.inj,J.ok.has,J.ok.cab,hc,hf.trans J.ok.frames,J.ok.stk,J.ok.exf,J.ok.bs,J.ok.bsz,J.ok.noex,J.ok.exfs,J.ok.funs,J.ok.frf⟩,
  J.os,J.bare,J.base,J.loc,J.cell,J.free,J.freeC,λp hp'=>J.pin p (hp p hp'),J.hok,J.len⟩
theorem aD.flown {L:List Nn} (I:aD X pins σ H s) (ho:∀ b ∈ L,ul X pins H b) (keep:∀ b o,s.heap.get? b=some o->b ∉ kH X.stack->b ∉ L->h'.get? b=some o)
  (slot:∀ b o,s.heap.get? b=some o->b∈kH X.stack->∃ sl,h'.get? b=some { o with slots:=sl }):aD X pins σ H { s with heap:=h' }:=by
 have any:∀ b o,s.heap.get? b=some o->b∉L->∃ sl,h'.get? b=some { o with slots:=sl }:=λb o q n=>by
  by_cases m:b∈kH X.stack
  ·exact slot b o q m
  ·exact⟨o.slots,keep b o q m n⟩
 have nl:∀ b o,X.s₀.heap.get? b=some o->b∉L:=λb o q m=>by
  have z:=(ho b m).new;rw[q] at z;cases z
 have ne:∀ b o,X.s₀.heap.get? b=some o->b≠X.env.locals:=λb o q=>NA (Nx (Nf q) I.ok.above)
 have out:∀ b,b≠X.env.locals->b∉X.fs->b∉kH X.stack:=λb n m z=>(Nl.mp (I.stkSub b z)).elim n m
 have cl:∀ x c,X.env.cells.lookup x=some c->∀ v,s.heap.IsCell c v->h'.IsCell c v:=λx c q v z=>by
  obtain⟨o,z1,z2⟩:=z;obtain⟨sl,y⟩:=any c o z1 λm=>(ho c m).cell x c q rfl
  exact⟨_,y,z2⟩
 refine⟨I.ok,I.os,I.bare,⟨λb o q n m z=>?_,λb o q n m z=>?_,I.base.free,λb o q z=>?_,I.base.tups,I.base.frzs,I.base.tbls⟩,?_,λx c q=>?_,I.free,I.freeC,λp hp=>?_,?_,I.len⟩
 ·exact keep b o (I.base.keep b o q n m z) (out b (ne b o q) m) (nl b o q)
 ·obtain⟨sl,y⟩:=I.base.slot b o q n m z;obtain⟨sl2,y2⟩:=any b _ y (nl b o q);exact⟨sl2,y2⟩
 ·obtain⟨o',y⟩:=I.base.there b o q z;obtain⟨sl,y2⟩:=any b o' y (nl b o q);exact⟨_,y2⟩
 ·obtain⟨m,⟨o,es,ep,z,r⟩,hl⟩:=I.loc;obtain⟨sl,y⟩:=any _ o z λw=>(ho _ w).loc rfl
  refine⟨m,⟨_,es,ep,y,r⟩,λi x v e1 e2 e3=>?_⟩;obtain⟨u,rv,l⟩:=hl i x v e1 e2 e3;refine⟨u,rv,?_⟩;rcases l with l|⟨k,c,q,z⟩
  ·exact .inl l
  ·exact .inr ⟨k,c,q,cl x c q _ z⟩
 ·obtain⟨v,z⟩:=I.cell x c q;exact⟨v,cl x c q v z⟩
 ·obtain⟨a,n,l,f,d⟩:=I.pin p hp;exact⟨keep _ _ a (out _ l f) λm=>(ho _ m).pin p hp rfl,n,l,f,d⟩
 ·exact nZ I.hok λb u o hb q=>keep b o q (λm=>by rw[I.stkFree b m] at hb;cases hb) λm=>by rw[(ho b m).free] at hb;cases hb
theorem aD.track (I:aD X pins σ H s)(ho:ul X pins H e)(new:bA X.prog X.w (upd H e (.ext φ)) s.heap e (.ext φ)):aD X pins σ (upd H e (.ext φ)) s:=by
 have un:∀ b u,H b=some u->upd H e (.ext φ) b=some u:=λb u q=>by
  rw[az (λz=>by rw[z,ho.free] at q;cases q)];exact q
 have fr:∀ b,b≠e->H b=none->upd H e (.ext φ) b=none:=λb n q=>by rw[az n];exact q
 refine⟨I.ok,I.os,I.bare,⟨I.base.keep,I.base.slot,λb o q n z=>fr b (λy=>?_) (I.base.free b o q n z),I.base.there,λb xs q=>un b _ (I.base.tups b xs q),λb o u q=>un b _ (I.base.frzs b o u q),λb ps q=>?_⟩,I.loc,I.cell,
  fr _ (λz=>ho.loc z.symm) I.free,λx c q=>fr c (ho.cell x c q) (I.freeC x c q),λp hp=>?_,λb u q=>?_,I.len⟩
 ·rw[y,ho.new] at q;cases q
 ·obtain⟨m,z⟩:=I.base.tbls b ps q;exact⟨m,un b _ z⟩
 ·obtain⟨a,n,r⟩:=I.pin p hp;exact⟨a,fr _ (ho.pin p hp) n,r⟩
 ·by_cases z:b=e
  ·subst z;rw[ai] at q;cases q;exact new
  ·rw[az z] at q;exact(I.hok b u q).stay (λ_ _ _ r=>r) (λc r=>un c _ r) λc xs r=>un c _ r
theorem km {i:Nat} (I:aD X pins σ H s) (hN:X.N.Nodup) (hi:X.N[i]?=some n) (hl:X.env.scope.names.lookup n=some .local)
  (h:∀ s',aD X pins (σ.set i none) H s'->Q () s'):Nu M A (do WQ X.env n .none;unbindBehindTheSuite X.env n pos) Q E s:=by
 obtain⟨m,hn,hm⟩:=id I.loc;have ne:∀ b o,X.s₀.heap.get? b=some o->b≠X.env.locals:=λb o q=>NA (Nx (Nf q) I.ok.above)
 refine wpAny_nameGoes_keeps hl hn (by rw[I.ok.kind];rfl) λh1 v hn1 hs=>h _ ⟨I.ok,I.os,I.bare,⟨λb o q n m z=>(hs.2 b (ne b o q)).trans (I.base.keep b o q n m z),λb o q n m z=>?_,I.base.free,λb o q z=>?_,I.base.tups,I.base.frzs,I.base.tbls⟩,
  ⟨_,hn1,λj y v e1 e2 e3=>?_⟩,λy c q=>?_,I.free,I.freeC,λp hp=>?_,nZ I.hok λb u o hb q=>(hs.2 b (λz=>by rw[z,I.free] at hb;cases hb)).trans q,by simpa using I.len⟩
 ·obtain⟨sl,y⟩:=I.base.slot b o q n m z;exact⟨sl,(hs.2 b (ne b o q)).trans y⟩
 ·obtain⟨o',y⟩:=I.base.there b o q z;exact⟨o',(hs.2 b (ne b o q)).trans y⟩
 ·have hji:j≠i:=λz=>by
   subst z;rw[List.getElem?_set] at e2;simp only[PD] at e2
   split at e2<;>cases e2
  rw[SD (Px hji)] at e2;obtain⟨u,r,l⟩:=hm j y v e1 e2 e3;refine⟨u,r,?_⟩;rcases l with ⟨k,q⟩|⟨k,c,q,z⟩
  ·refine .inl ⟨k,?_⟩;dsimp only;rw[NS (λz:y=n=>hji (qv hN e1 (by rw[z];exact hi)))];exact q
  ·exact .inr ⟨k,c,q,z.sameBut hs (I.cne y c q)⟩
 ·obtain⟨u,z⟩:=I.cell y c q;exact⟨u,z.sameBut hs (I.cne y c q)⟩
 ·obtain⟨a,n,l,f,d⟩:=I.pin p hp;exact⟨(hs.2 _ l).trans a,n,l,f,d⟩
end
def xA (e C:Nn):HO:=.ext λh=>∃ oe vs,h.get? e=some oe/\oe.cls=.ref C/\oe.data=.fields vs
theorem Fa (x:xY h e C T):bA P w H h e (xA e C):=by
 obtain⟨oe,vs,h1,h2,h3,_⟩:=x;exact⟨⟨oe,vs,h1,h2,h3⟩,⟨oe,h1⟩,λg1 g2 ⟨o,us,a,b,c⟩ k=>⟨o,us,k _ a,b,c⟩⟩
theorem wq (x:xY s.heap e C (some T))
  (h:∀ h',xY h' e C (some T)->(∀ b o,b≠T->s.heap.get? b=some o->h'.get? b=some o)->Q () { s with heap:=h' }):Nu M A (setFlight (.ref e) none) Q E s:=by
 obtain⟨oe,vs,h1,h2,h3,h4,h5,oT,ts,h6,h7,h8⟩:=x;have ot:∀ b o,b≠T->s.heap.get? b=some o->(s.heap.update T (VN (·.setIfInBounds 3 Od))).get? b=some o:=λb o n q=>(OJ _ _ (Px n)).trans q
 have h3z:3<ts.size:=(QY.mp h8).1;refine wpAny_setFlight_none h1 h3 h4 h6 h7 h3z (h _ ⟨oe,vs,ot e oe (Px h5) h1,h2,h3,h4,h5,_,_,OM _ h6 (Sj (Qc h7 _)),Qc h7 _,by simp[h3z]⟩ ot)
def uC (i:Nat)(D:nQ):nQ where
 nx:=λσ H=>D.nx (σ.set i none) H
 rt:=D.rt
 bk:=λσ H=>D.bk (σ.set i none) H
 ct:=λσ H=>D.ct (σ.set i none) H
def GY (K:HD)(C:Nn)(x:Str):Prop:=∃ T,cR K x T/\Xa K (.ref C) (.ref T)=some true
def Ji (K:HD)(x:Str)(i:Nat)(th:TS)(D:nQ):WX:=λσ C H=>GY K C x/\∀ e,H e=none->th (uC i D) (σ.set i (some (.ref e))) (upd H e (xA e C))
def K3 (K:HD)(x:Str)(i:Nat)(tb:WX->TS)(th:TS):TS:=λD σ H=>tb (Ji K x i th D) D σ H
theorem HI {X:Cx}{K:HD}{x n:Str}{i:Nat}{np hpos pos:Pos}{body suite:List Pr}{b0:Pr}{tb:WX->TS}{th:TS} (hK:X.K=K) (hN:X.N.Nodup) (hi:X.N[i]?=some n) (hl:X.env.scope.names.lookup n=some .local)
  (hex:X.ex=[])(hf:X.env.frame=some X.env.locals)(hstk:X.stack=X.env::X.outer)(hg:Gl X x)
  (hb:∀ pn' xe' W,FA { X with pn:=pn',xe:=xe' } W->xS { X with pn:=pn',xe:=xe' } body (tb W))
  (hh:∀ e,xS { X with A:=X.A.mark (some (.ref e)),calm:=false,xe:=λ_ _=>False } (b0::suite) th)(hdb:(x==("__debug__":Str))=false:=by decide):
  PS X (.Try body [.ExceptHandler (some (.Name x np)) (some n) (b0::suite) hpos] [] [] pos) (K3 K x i tb th):=by
 subst hK;intro pins s σ H D I h;have back:∀ {pins':List (Nn×Obj)}{xe':Nd->Nh->Prop}{σ':L2.St}{H':Hp}{s':Nh},aD { X with pn:=X.pn++pins,xe:=xe' } pins' σ' H' s'->aD X pins σ' H' s':=λ{_ _ _ _ _} J=>
  aD.back (X:=X) J rfl I.ok.hd λp hp=>OI _ hp
 refine Av (Oi (hb (X.pn++pins) (λv s1=>Nu (NI X.prog X.w) X.A (leaving X.env v) (λ_ s2=>Nu (NI X.prog X.w) X.A (handleBy v X.env [.ExceptHandler (some (.Name x np)) (some n) (b0::suite) hpos]) (SP X pins D) X.xe s2) X.xe s1)
  (Ji X.K x i th D) ?_ [] s σ H D (aD.ctx (A':=X.A) (c':=X.calm) I rfl I.ok.hd λp hp=>by simpa using hp) h) (λf s1 hs=>?_) λv s1 hv=>hv)
 ·intro pins' σ' H' s1 e C T J xo oe oT w;obtain⟨⟨T0,hT0,hsub⟩,hw⟩:=w;have J0:=back J;have ours:∀ {b:Nn},ul { X with pn:=X.pn++pins,xe:=λv s1=>Nu (NI X.prog X.w) X.A (leaving X.env v) (λ_ s2=>Nu (NI X.prog X.w) X.A (handleBy v X.env [.ExceptHandler (some (.Name x np)) (some n) (b0::suite) hpos]) (SP X pins D) X.xe s2) X.xe s1 } pins' H' b->ul X pins H' b:=
   λ{b} z=>⟨z.new,z.free,z.loc,z.cell,λp hp=>z.pin p (OI _ hp)⟩
  have fl:s1.heap.FunFrames X.base (X.env::X.outer):=by rw[<- hstk];exact J0.stack
  have frm:X.A.frames=some (X.env::X.outer):=by rw[<- hstk];exact J0.ok.frames
  show Nu (NI X.prog X.w) X.A (leaving X.env (.ref e)) _ X.xe s1;refine t9 frm fl hf xo λh1 T1 keep slot xo1 nT=>?_
  have oT1:ul X pins H' T1:=by
   rcases nT with q|q
   ·exact aD.ours hex J0 q
   ·exact ours (oT T1 q)
  have J1:aD X pins σ' H' { s1 with heap:=h1 }:=by
   refine aD.flown (L:=e::T.toList) J0 (λb hb=>?_) (λb o q n1 n2=>?_) (λb o q m=>?_)
   ·rcases Nl.mp hb with z|z
    ·rw[z];exact ours oe
    ·exact ours (oT b (T6.mp z))
   ·refine keep b o q (by rw[<- hstk];exact n1) (λz=>n2 (by rw[z];exact NC ..)) λz=>n2 (Nr _ (by rw[z];simp))
   ·exact slot b o q (by rw[<- hstk];exact m)
  have hm:X.mg x=some (.ref T0):=N1 I.ok.mod.kin I.ok.mod.glob hT0;have ty:Pj (NI X.prog X.w) h1 (typeOf (.ref e)) (.ref C):=by
   obtain⟨o1,v1,q1,q2,_⟩:=xo1;exact q2▸(Sz q1).andThen .now
  have J2:aD { X with A:=X.A.mark (some (.ref e)),calm:=false,xe:=λ_ _=>False } pins σ' H' { s1 with heap:=h1 }:=aD.ctx (A':=X.A.mark (some (.ref e))) (c':=false) (pn':=X.pn) J1 rfl (λz=>nomatch z) λp hp=>hp
  refine wpAny_handleBy_cons (codeAny_handlers_test (eG (X:={ X with A:=X.A.mark (some (.ref e)),calm:=false,xe:=λ_ _=>False }) J2 hg hm ?_ hdb)) (by intro q;cases q);refine(PySem.W.exm_one (K:=X.K) J1.kIn ty hsub).here ?_;show QB _ _ _ _ _;refine codeAny_handlers_suite_as (wq xo1 λh2 xo2 k2=>?_);have J3:aD X pins σ' H' { s1 with heap:=h2 }:=aD.flown (s:={ s1 with heap:=h1 }) (h':=h2) (L:=[T1]) J1 (λb hb=>by rw[Nm.mp hb];exact oT1) (λb o q _ n=>k2 b o (λz=>n (by simp[z])) q)
   (λb o q m=>⟨o.slots,k2 b o (λz=>by
    obtain⟨_,o',ho',nf⟩:=J1.stack.mem m;obtain⟨_,_,_,_,_,_,_,oT',ts,g1,g2,_⟩:=xo1;rw[z,g1] at ho';cases ho';exact nf _ g2) q⟩)
  have J4:aD X pins σ' (upd H' e (xA e C)) { s1 with heap:=h2 }:=aD.track J3 (ours oe) (Fa xo2);refine iG (v:=.ref e) J4 hN hi (.inl hl) rfl (λs3 J5=>?_) (.inr hl);have J6:aD { X with A:=X.A.mark (some (.ref e)),calm:=false,xe:=λ_ _=>False } pins (σ'.set i (some (.ref e))) (upd H' e (xA e C)) s3:=aD.ctx (A':=X.A.mark (some (.ref e))) (c':=false) (pn':=X.pn) J5 rfl (λz=>nomatch z) λp hp=>hp
  refine Oi (hh e pins s3 _ _ (uC i D) J6 (hw e oe.free)) (λf s4 hs=>?_) λ_ _ z=>O7 z
  have bk:∀ {σ'':L2.St}{H'':Hp},aD { X with A:=X.A.mark (some (.ref e)),calm:=false,xe:=λ_ _=>False } pins σ'' H'' s4->aD X pins σ'' H'' s4:=λ{_ _} J=>
   aD.back (X:=X) J rfl I.ok.hd λp hp=>hp
  match f,hs with
  |.next,⟨σ1,H1,K1,q⟩=>exact km (bk K1) hN hi hl λs5 K2=>⟨_,_,K2,q⟩
  |.brk,⟨σ1,H1,K1,q⟩=>exact km (bk K1) hN hi hl λs5 K2=>⟨_,_,K2,q⟩
  |.cont,⟨σ1,H1,K1,q⟩=>exact km (bk K1) hN hi hl λs5 K2=>⟨_,_,K2,q⟩
  |.ret u,⟨v,σ1,H1,K1,r,q⟩=>exact km (bk K1) hN hi hl λs5 K2=>⟨v,_,_,K2,r,q⟩
 ·match f,hs with
  |.next,⟨σ1,H1,K1,q⟩=>exact⟨_,_,back K1,q⟩
  |.brk,⟨σ1,H1,K1,q⟩=>exact⟨_,_,back K1,q⟩
  |.cont,⟨σ1,H1,K1,q⟩=>exact⟨_,_,back K1,q⟩
  |.ret u,⟨v,σ1,H1,K1,r,q⟩=>exact⟨v,_,_,back K1,r,q⟩
def fw:List Str:=["BadNumber","BadShare","BadCurve","BadSquare","NoBack","BadGrid","BadColour","BadIntent","BadProfile","BadInk","BadText"]
def jS:List Str:=["number","share","curve","square","back","grid","colour","intent","profile","ink","text"]
def mQ (K:HD)(x:Str):Option Nn:=match Nw K Nk x with
 |some (some (.ref C))=>some C
 |_=>none
theorem qm {K:HD}{x:Str}{C:Nn}(h:mQ K x=some C):cR K x C:=by
 unfold mQ at h
 split at h
 ·rename_i D e
  cases h;exact e
 ·cases h
theorem gj {K:HD}{x:Str}{C:Nn}(h:cR K x C):mQ K x=some C:=by
 unfold mQ;rw[show Nw K Nk x=some (some (.ref C)) from h]
def LY (K:HD)(C:Nn):Bool:=
 RE K C LH Gb&&S5 K C&&PY K (.ref C)==some (.type "type")&&RF K C (.type "object")==some true&&RF K C (.type "BaseException")==some true &&
  NV K (.ref C) "__getattribute__"==some (some (.builtin "BaseException.__getattribute__"))&&NV K (.ref C) "__getattr__"==some none&&NV K (.ref C) "__class__"==some (some (.builtin "object.__class__")) &&
  R1 K (.builtin "object.__class__") "__get__"==some (some (.builtin "getset_descriptor.__get__"))&&S8 K (.builtin "object.__class__")==some true&&OD K (.ref C) (.ref C)==some true
structure Ex (K:HD)(C:Nn):Prop where
 exc:RE K C LH Gb=true
 cls:S5 K C=true
 typ:PY K (.ref C)=some (.type "type")
 slf:OD K (.ref C) (.ref C)=some true
 obj:RF K C (.type "object")=some true
 bex:RF K C (.type "BaseException")=some true
 ga:NV K (.ref C) "__getattribute__"=some (some (.builtin "BaseException.__getattribute__"))
 gn:NV K (.ref C) "__getattr__"=some none
 gc:NV K (.ref C) "__class__"=some (some (.builtin "object.__class__"))
 get:R1 K (.builtin "object.__class__") "__get__"=some (some (.builtin "getset_descriptor.__get__"))
 tks:S8 K (.builtin "object.__class__")=some true
theorem Ke {K:HD}{C:Nn}(h:LY K C=true):Ex K C:=by
 unfold LY at h;simp only[NO,OH] at h;obtain⟨⟨⟨⟨⟨⟨⟨⟨⟨⟨a,b⟩,c⟩,d⟩,e⟩,f⟩,g⟩,i⟩,j⟩,k⟩,l⟩:=h;exact⟨a,b,c,l,d,e,f,g,i,j,k⟩
def ik (K:HD)(i:Nat)(C:Nn):Prop:=∃ x,fw[i]?=some x/\cR K x C
def Bx (K:HD):Bool:=(mQ K "TintError").any λT=>S5 K T&&PY K (.ref T)==some (.type "type")&&OD K (.ref T) (.type "BaseException")==some true &&
 (OP 11).all λi=>(mQ K (fw.getD i "")).any λC=>LY K C&&OD K (.ref C) (.ref T)==some true&&OD K (.ref C) (.type "ValueError")==some true &&
  (OP 11).all λj=>(mQ K (fw.getD j "")).any λD=>OD K (.ref C) (.ref D)==some (i==j)
theorem eV (h:o.any p=true):∃ a,o=some a/\p a=true:=by
 cases o with
 |none=>cases h
 |some a=>exact⟨a,rfl,h⟩
theorem uR {i:Nat}(h:fw[i]?=some x):i<11/\fw.getD i ""=x:=by
 have e:=(Nt.mp h).1;exact⟨e,by rw[QZ,h];rfl⟩
section
variable {K:HD}(R:Bx K=true)
include R
theorem gO:∃ T,cR K "TintError" T/\S5 K T=true/\PY K (.ref T)=some (.type "type")/\OD K (.ref T) (.type "BaseException")=some true /\
  ∀ i C,ik K i C->Ex K C/\OD K (.ref C) (.ref T)=some true/\OD K (.ref C) (.type "ValueError")=some true/\∀ j D,ik K j D->OD K (.ref C) (.ref D)=some (i==j):=by
 unfold Bx at R;obtain⟨T,hT,h⟩:=eV R;simp only[NO,OH,Og] at h;obtain⟨⟨⟨h1,h2⟩,h3⟩,h4⟩:=h;refine⟨T,qm hT,h1,h2,h3,λi C hC=>?_⟩;obtain⟨x,hx,hC⟩:=hC;obtain⟨hi,ex⟩:=uR hx;obtain⟨C',e,h5⟩:=eV (h4 i (OO.mpr hi));rw[ex,gj hC] at e;cases e;simp only[NO,OH,Og] at h5;obtain⟨⟨⟨h6,h7⟩,h8⟩,h9⟩:=h5;refine⟨Ke h6,h7,h8,λj D hD=>?_⟩;obtain⟨y,hy,hD⟩:=hD;obtain⟨hj,ey⟩:=uR hy;obtain⟨D',e,h10⟩:=eV (h9 j (OO.mpr hj));rw[ey,gj hD] at e;cases e;exact OH.mp h10
theorem Ft:∃ T,cR K "TintError" T:=by
 obtain⟨T,h,_⟩:=gO R;exact⟨T,h⟩
theorem cz {i:Nat}(h:fw[i]?=some x):∃ C,cR K x C:=by
 unfold Bx at R;obtain⟨T,hT,q⟩:=eV R;simp only[NO,Og] at q;obtain⟨hi,ex⟩:=uR h;obtain⟨C,e,_⟩:=eV (q.2 i (OO.mpr hi));rw[ex] at e;exact⟨C,qm e⟩
theorem pL {i:Nat}(h:fw[i]?=some x):∃ C,cR K x C/\RE K C LH Gb=true:=by
 obtain⟨C,hC⟩:=cz R h;obtain⟨T,_,_,_,_,q⟩:=gO R;exact⟨C,hC,(q i C ⟨x,h,hC⟩).1.exc⟩
theorem Gw {i:Nat}(h:ik K i C):GY K C "TintError":=by
 obtain⟨T,h0,h1,h2,h3,q⟩:=gO R;refine⟨T,h0,?_⟩;unfold Xa;rw[NZ (by rw[h3];rfl)];show(if((QA K T).isSome&&PY K (.ref T)==some (.type "type"))=true then OD K (.ref C) (.ref T) else none)=some true;rw[NZ (by rw[h2,show(QA K T).isSome=true from h1];rfl)];exact(q i C h).2.1
theorem dZ {i j:Nat}(h:ik K i C)(g:ik K j D):O4 K (.ref C) (.ref D)=some (i==j):=by
 obtain⟨T,h0,h1,h2,h3,q⟩:=gO R;obtain⟨e1,_,_,e4⟩:=q i C h;obtain⟨f1,_⟩:=q j D g;have s:=e4 j D g;unfold O4
 by_cases z:(NN C==NN D)=true
 ·rw[NZ z];have z:=Xh (OH.mp z);subst z;rw[e4 i C h] at s;rw[<- s,Re]
 ·rw[NS z];show(if((QA K D).isSome&&PY K (.ref D)==some (.type "type"))=true then OD K (.ref C) (.ref D) else none)=_;rw[NZ (by rw[f1.typ,show(QA K D).isSome=true from f1.cls];rfl)];exact s
theorem C4 {i:Nat}{C T:Nn}(h:ik K i C)(g:cR K "TintError" T):O4 K (.ref C) (.ref T)=some true:=by
 obtain⟨T',h0,h1,h2,h3,q⟩:=gO R;have e:T'=T:=by
  have z:=(gj h0).symm.trans (gj g);exact Nb z
 subst e;unfold O4
 by_cases z:(NN C==NN T')=true
 ·rw[NZ z]
 ·rw[NS z];show(if((QA K T').isSome&&PY K (.ref T')==some (.type "type"))=true then OD K (.ref C) (.ref T') else none)=_;rw[NZ (by rw[h2,show(QA K T').isSome=true from h1];rfl)];exact(q i C h).2.1
theorem CA {i:Nat}(h:ik K i C):O4 K (.ref C) (.type "ValueError")=some true:=by
 obtain⟨T',h0,h1,h2,h3,q⟩:=gO R;unfold O4;rw[NS (λz=>by cases OH.mp z)];show(if W5 "ValueError"=true then OD K (.ref C) (.type "ValueError") else none)=_;rw[NZ (by decide +kernel)];exact(q i C h).2.2.1
end
section
variable {prog:ND}{w:N6}{A:Oa}{E:Nd->Nh->Prop}{s:Nh}{K:HD}{e C:Nn}
theorem BK (l1:Pj M h (typeLookup tp name) (some a)) (l2:Pj M h (specialOf a "__get__") (some g)) (l3:Pj M h (Wn a) true) :
  Pj M h (Xg self tp name) (.bind g a):=
 l1.andThen (U5 (show Pj M h (Xd (some a)) (some g) from l2) (U5 (show Pj M h (VD (some a) (some g)) (some (g,a)) from l3.andThen .now) (PySem.W.Looks.tag .now)))
theorem Fm (ex:Ex K C) (X:K.In s.heap) (ty:Pj (NI prog w) s.heap (typeOf (.ref e)) (.ref C)) (h:R (.ok (.ret (.ref C))) s) :
  QB (NI prog w) A (.call (.builtin "getset_descriptor.__get__") ⟨[.builtin "object.__class__",.ref e,tp],[]⟩) R s:=by
 obtain⟨hh,g,dr,t,os⟩:=s;have L1:=VB (M:=NI prog w) X ex.obj;have L0:=ty;refine SF VR.plain PySem.W.KF.entry_gs (VR.check _ _ _ _ _ _ _ _ PySem.W.KF.type_class (PySem.W.KF.args_gs _ _ _) ?_);unfold PN.«getset_descriptor.__get__» VC;rw[PySem.W.dga_obj];refine KE (Nc ?_);unfold Vh Ud Ug SM;simp only[PySem.W.KF.owner_class]
 repeat lk
 refine⟨VG _ (by decide +kernel),P4 PySem.W.KF.entry_class ?_⟩
 (unfold PN.«object.__class__»;unfold shownTypeOf)
 repeat lk
 exact h
theorem AD (ex:Ex K C) (X:K.In s.heap) (ty:∀ M:Model,Pj M s.heap (typeOf (.ref e)) (.ref C)) (h:Q (some (.ref C)) { s with toks:=s.toks + 1 }) :
  Nu (NI prog w) A (getAttr? (.ref e) "__class__") Q E s:=by
 obtain⟨hh,g,d,t,os⟩:=s;have L0:=ty (NI prog w);have La:=Q2 (M:=NI prog w) X ex.ga;have Lb:=Q2 (M:=NI prog w) X ex.gn;have Lc:=BK (self:=.ref e) (Q2 (M:=NI prog w) X ex.gc) (PySem.W.looks_specialIn X ex.get) (PySem.W.looks_takesIn X ex.tks);have Lo:=VB (M:=NI prog w) X ex.bex;have Li:Pj (NI prog w) hh (SM (.ref e) (.type "BaseException")) true:=L0.andThen Lo;unfold getAttr? getAttrBy? getAttrBy;refine KE (wpAny_mkText (KE (Pm (Ox (KE (L0.at (KE (La.at ?_))))))));have n1:(VZ "BaseException.__getattribute__"==VZ "object.__getattribute__")=false:=by decide +kernel
 dsimp only;rw[n1,Bool.and_false,NS NK];unfold getAttrByItsOwn;refine KE ((show Pj (NI prog w) hh (hookBefore (.ref C)) none from Lb).at ?_);refine KE (Pm (Ox ?_));unfold callGetattribute;rw[R9,NS NK];unfold boundAndCalled;refine KE (UA (Uq.ga.bind _) ?_);have bk:builtinKind "BaseException.__getattribute__"=some .slot:=by decide +kernel
 have sid:splitId "BaseException.__getattribute__"=some ("BaseException","__getattribute__"):=by decide +kernel
 refine QX ?_;refine SF Uq.ga.plain PySem.F.entry_bexc_ga ?_;have ha:Vs "BaseException.__getattribute__" ⟨[.ref e,.str "__class__" t],[]⟩:=PySem.F.args_bexc_ga _ _;show Nu _ _ (UI "BaseException.__getattribute__" ⟨[.ref e,.str "__class__" t],[]⟩) _ _ _;refine @PySem.W.check_slot (NI prog w) A.in1 _ ⟨hh,g,d,t+1,os⟩ "BaseException.__getattribute__" "BaseException" "__getattribute__" (.ref e) [.str "__class__" t] [] _ bk sid Li ha ?_;unfold PN.«object.__getattribute__»;refine KE (Nc ?_);refine KE (Nc ?_);refine KE (L0.at (KE (Lc.at ?_)));show Nu _ _ (TC _ _ _ _) _ _ _;unfold TC;refine KE (Ox (QX (Fm ex X L0 ?_)));refine Nc ?_;exact PySem.W.handed_on rfl (Nc h)
theorem CG (ex:Ex K C):PySem.W.KitX K (.ref e) (.ref C) (λh=>∃ oe,h.get? e=some oe/\oe.cls=.ref C) where
 ty:=λ_ _ _ ⟨o,h1,h2⟩=>h2▸(Sz h1).andThen .now
 it:=λ_ _ X _=>by
  have z:PySem.W.kitCls K (.ref C) (.ref C)=some true:=by
   show(if((QA K C).isSome&&PY K (.ref C)==some (.type "type"))=true then OD K (.ref C) (.ref C) else none)=_;rw[NZ (by rw[ex.typ,show(QA K C).isSome=true from ex.cls];rfl)];exact ex.slf
  exact(PySem.W.kit_cls X z).2.1
 ne:=λh tp dd its n sl X htp=>by
  refine Bool.eq_false_iff.mpr λq=>?_
  have q:=Xh (OH.mp q);subst q;obtain⟨o,ho,hc⟩:=Nz.mp ex.typ;have z:=(X _ _ ho).symm.trans htp;cases z;exact absurd (Value.type.inj hc) (by decide)
 ca:=λX ⟨o,h1,h2⟩ k=>AD ex X (λM=>h2▸(Sz h1).andThen .now) k
end
theorem sV:Oh "ValueError"=some (.type "ValueError"):=by decide +kernel
section
variable {X:Cx}{K:HD}
def M4 (D:V)(d:Nd):Prop:=(∃ a,D=.ref a/\d=.ref a)\/∃ T,D=.ty T/\d=.type T
def Mu (K:HD):List V->Hp->VK->Prop:=λxs H Q=>∃ (e C:Nn) (D:V) (d:Nd) (b:Bool),xs=[.ref e,D]/\H e=some (xA e C)/\Ex K C/\M4 D d/\O4 K (.ref C) d=some b/\Q (.bl b) H
theorem iN (hK:X.K=K):cq X (.builtin "isinstance") (Mu K):=by
 subst hK;intro pins s σ H xs us Q I r h;obtain⟨e,C,D,d,b,rfl,hH,ex,hD,hb,q⟩:=h;obtain⟨u,v,rfl,ru,rv⟩:=jW r;cases(show u=NN e from ru);have ev:v=d:=by
  rcases hD with ⟨a,rfl,rfl⟩|⟨T,rfl,rfl⟩
  ·exact rv
  ·exact rv
 subst ev;obtain⟨⟨oe,vs,h1,h2,_⟩,_⟩:=(show bA X.prog X.w H s.heap e (xA e C) from I.hok e _ hH)
 exact U7 (CG ex) I.kIn ⟨oe,h1,h2⟩ hb (λz=>nomatch z) λtk=>⟨.bl b,H,I.tok tk,rfl,q⟩
def Md (K:HD)(x:Str):TE:=λ_ H Q=>∀ D,cR K x D->Q (.ref D) H
theorem dz (hK:X.K=K)(hg:Gl X x)(hx:∃ D,cR K x D)(hd:(x==("__debug__":Str))=false:=by decide):WE X (.Name x pos) (Md K x):=by
 refine⟨?_⟩;subst hK;intro pins s σ H Q I h;obtain⟨D,hD⟩:=hx;exact eG I hg (N1 I.ok.mod.kin I.ok.mod.glob hD) ⟨.ref D,H,I,rfl,h D hD⟩ hd
theorem tN:∀ {xs:List V}{us:List Nd},aM xs us->xs.all jo=true->us.countP (JF y)=xs.countP (λz=>eqV z y)
 |_,_,.nil,_=>rfl
 |z::xs,u::us,.cons r t,f=>by
  rw[Ru,NO] at f;rw[List.countP_cons,List.countP_cons,yH r f.1,tN t f.2]
def HJ:V->List V->Hp->VK->Prop:=λx vs H Q=>∃ l xs y,x=.ref l/\vs=[y]/\H l=some (.lst xs)/\jo y=true/\xs.all jo=true/\Q (.int (xs.countP (λz=>eqV z y))) H
theorem EO:Mp X "list.count" HJ:=by
 intro pins s σ H x vs v us Q I rx rv h;obtain⟨l,xs,y,rfl,rfl,hH,fy,fx,q⟩:=h;cases(show v=NN l from rx);obtain⟨u,rfl,ru⟩:=rv.one;obtain⟨z,its,n,r,hl,e⟩:=I.lstM hH;refine R6 Ut ⟨_,e,rfl⟩ PySem.F.entry_list_count (PySem.F.args_list_count_2 _ _) (PySem.SeqAt.list_countAt l its.toArray n none #[] u (JF y)) ⟨e,λa ha=>qQ ru fy r fx a (by simpa using ha),?_⟩;rw[show its.toArray.toList=its from rfl,tN r fx];exact⟨.int _,H,I.tok _,⟨_,rfl⟩,q⟩
def HG:V->List V->Hp->VK->Prop:=λx vs H Q=>∃ l xs y,∃ j:Nat,x=.ref l/\vs=[y]/\H l=some (.lst xs)/\jo y=true/\xs.all jo=true/\xs.length<=1000/\(∃ a,xs[j]?=some a/\eqV a y=true)/\(∀ m a,m<j->xs[m]?=some a->eqV a y=false)/\Q (.int j) H
theorem B':Mp X "list.index" HG:=by
 intro pins s σ H x vs v us Q I rx rv h;obtain⟨l,xs,y,j,rfl,rfl,hH,fy,fx,hlen,⟨a,ha,hit⟩,hno,q⟩:=h;cases(show v=NN l from rx);obtain⟨u,rfl,ru⟩:=rv.one;obtain⟨z,its,n,r,hl,e⟩:=I.lstM hH;have at':∀ (m:Nat) (hm:m<its.toArray.size),∃ c,xs[m]?=some c/\JF y its.toArray[m]=eqV c y:=λm hm=>by
  have hm2:m<its.length:=by simpa using hm
  have hx:m<xs.length:=by rw[r.length];exact hm2
  obtain⟨w,h1,h2⟩:=r.get (i:=m) (x:=xs[m]) (N7 hx);refine⟨xs[m],N7 hx,?_⟩;have hw:its[m]=w:=by
   rw[N7 hm2] at h1;exact Nb h1
  have hf:jo xs[m]=true:=Og.mp fx _ (Sx hx);rw[List.getElem_toArray,hw];exact yH h2 hf
 have hj:j<its.toArray.size:=by
  have:=(Nt.mp ha).1;rw[r.length] at this
  simpa using this
 refine R6 Uu ⟨_,e,rfl⟩ PySem.F.entry_list_index (PySem.F.args_list_index_2 _ _) (PySem.SeqAt.list_indexAt l its.toArray n none #[] u (JF y) j hj (by have:=(Nt.mp ha).1;lia) ?_ ?_) ⟨e,λa ha=>qQ ru fy r fx a (by simpa using ha),?_⟩
 ·obtain⟨c,c1,c2⟩:=at' j hj;rw[ha] at c1;cases c1;rw[c2];exact hit
 ·intro m hm hlt;obtain⟨c,c1,c2⟩:=at' m hm;rw[c2];exact hno m c hlt c1
 ·exact⟨.int _,H,I.tok _,⟨_,rfl⟩,q⟩
end
def Rz (K:HD)(i:Nat)(H:Hp)(E:XK):Prop:=∀ C H',ik K i C->ae H H'->E (.ref C) none H'
section
variable {K:HD}{i:Nat}{H H1:Hp}{E:XK}{σ:L2.St}
theorem Rz.out (h:Rz K i H E)(s:ae H H1):Rz K i H1 (oM (λ_ C H'=>E (.ref C) none H') σ):=λC H' k s'=>⟨C,rfl,h C H' k (s.trans s')⟩
theorem Rz.now (h:Rz K i H E)(s:ae H H1)(hx:fw[i]?=some x):∀ C,cR K x C->E (.ref C) none H1:=λC hC=>h C H1 ⟨x,hx,hC⟩ s
theorem Rz.caught {j:Nat}(R:Bx K=true)(h:∀ C H' e,ik K i C->ae H H'->H' e=none->th (uC j D) (σ.set j (some (.ref e))) (upd H' e (xA e C))):Rz K i H (oM (Ji K "TintError" j th D) σ):=
 λC H' k s=>⟨C,rfl,Gw R k,λe he=>h C H' e k s he⟩
end
def KW (K:HD)(H:Hp)(i:Nat)(v:V):Prop:=∃ e C,v=.ref e/\ik K i C/\H e=some (xA e C)
theorem kF (h:p∉T):cut T (upd H p o) p=some o:=by
 unfold cut;rw[NS h];exact ai
theorem aw.tupC {K:HD}{T:List Nn}{H:Hp}{p:Nn}{xs:List V}{ds:List NQ}(h:p∉T)(q:av K (cut T (upd H p (.tup xs))) ds xs):aw K (cut T (upd H p (.tup xs))) (.tuple ds) (.ref p):=.tup (kF h) q
theorem aw.lstC {K:HD}{T:List Nn}{H:Hp}{p:Nn}{xs:List V}{ds:List NQ}(h:p∉T)(q:av K (cut T (upd H p (.lst xs))) ds xs):aw K (cut T (upd H p (.lst xs))) (.list ds) (.ref p):=.lst (.inl (kF h)) q
def rT (l m:Int):NQ->Bool
 |.int i=>decide (l<=i)&&decide (i<=m)
 |_=>false
def jw:NQ->Bool
 |.tuple [a,b,c]=>shB a&&(shB b&&(shB c&&true))
 |_=>false
theorem wF (h:ds.length≠3):jw (.tuple ds)=false:=by
 match ds,h with
 |[],_=>rfl
 |[a],_=>rfl
 |[a,b],_=>rfl
 |[a,b,c],h=>exact absurd rfl h
 |a::b::c::d::r,_=>rfl
theorem Jr {K:HD}{H:Hp}{d:NQ}{v:V}(h:aw K H d v):(∃ ds,d=wV false ds)\/(cS (Kg d) "tuple"=some false/\jw d=false):=by
 cases h with
 |lst h q=>exact .inr ⟨(show cS "list" "tuple"=some false by decide +kernel),rfl⟩
 |tup h q=>exact .inl ⟨_,rfl⟩
 |non=>exact .inr ⟨by decide +kernel,rfl⟩
 |bl b=>exact .inr ⟨(show cS "bool" "tuple"=some false by decide +kernel),rfl⟩
 |int i=>exact .inr ⟨(show cS "int" "tuple"=some false by decide +kernel),rfl⟩
 |str z=>exact .inr ⟨(show cS "str" "tuple"=some false by decide +kernel),rfl⟩
 |dct h=>exact .inr ⟨(show cS "dict" "tuple"=some false by decide +kernel),rfl⟩
theorem Mw (h:ds.length=3):∃ a b c,ds=[a,b,c]:=by
 match ds,h with
 |[a,b,c],_=>exact⟨a,b,c,rfl⟩
def HL:TE:=λ_ H Q=>∀ p,H p=none->Q (.ref p) (upd H p (.dK []))
theorem t5:WE X (.Dict [] [] pos) HL:=by
 refine⟨?_⟩;intro pins s σ H Q I h;have big:OB<s.heap.objs.size:=Nat.lt_trans (by decide) ((I.mod.glob.keeps I.bk).lt);refine UJ ⟨.ref s.heap.objs.size,_,I.laid (a:=s.heap.objs.size) (o:=.dK []) (t':=s.toks) (λ_ _ q=>Na _ q) (Nj _) ?_,rfl,h _ (I.hok.fresh (Nj _))⟩;exact⟨Om _,ON.mpr (λz=>absurd big (by rw[z];exact N0 _)),[],.nil,Heap.DictOf.new s.heap⟩
theorem uB {K:HD}{H:Hp}{x:Str}:∀ n:Nat,av K H (Np n (.str x)) (Np n (.str x))
 |0=>.nil
 |n+1=>.cons (.str x) (uB n)
theorem Fq (x:Str):SL (.str x) (.str x)=true:=by simp[SL]
theorem Af (x:Str):∀ n:Nat,SL (.list (Np n (.str x))) (.list (Np n (.str x)))=true:=by
 have h:∀ n:Nat,PyData.eqvAll (Np n (.str x)) (Np n (.str x))=true:=λn=>by
  induction n with
  |zero=>rfl
  |succ n ih=>
   show(SL (.str x) (.str x)&&PyData.eqvAll (Np n (.str x)) (Np n (.str x)))=true;rw[Fq,ih];rfl
 exact h
theorem yW {K:HD}{H:Hp}{D:Nn}{x:Str}{n:Nat}{k:Int}{Q:VK} (hk:k=n) (hn:n <= 8) (hs:Sn (.list (Np n (.str x)))=true) (hD:aw K H (.list (Np n (.str x))) (.ref D)) (q:∀ H',ae H H'->Q (.bl false) H') :
  ∀ p,H p=none->Ch (.ref p) (.int k) (upd H p (.lst [.str x])) λy H2=>Hz K (.ref D) y H2 Q:=λp hp=>by
 subst hk;refine⟨p,_,_,rfl,rfl,ai,by lia,by lia,?_,λl hl=>?_⟩
 ·show 1*((n:Int)).toNat<=Nv;have:(8:Nat)<=Nv:=by decide
  lia
 ·have e:(Np ((n:Int)).toNat [V.str x]).flatten=Np n (.str x):=by
   rw[Op];clear hn hD hs
   induction n with
   |zero=>rfl
   |succ n ih=>rw[O6,P0,ih];rfl
  rw[e];have s:ae H (upd (upd H p (.lst [.str x])) l (.lst (Np n (.str x)))):=(ae.new hp).trans (ae.new hl);refine⟨_,_,aw.same s hD,aw.listN hl (uB n),hs,hs,?_⟩;rw[Af];exact q _ s
theorem I9 {K:HD}{H:Hp}{D:Nn}{x:Str}{n:Nat}{k:Int}{Q:VK} (hk:k=n) (hn:n <= 8) (hs:Sn (.list (Np n (.str x)))=true) (hD:aw K H (.list (Np n (.str x))) (.ref D)) (q:∀ H',ae H H'->Q (.bl true) H') :
  ∀ p,H p=none->Ch (.ref p) (.int k) (upd H p (.lst [.str x])) λy H2=>HV K (.ref D) y H2 Q:=λp hp=>by
 subst hk;refine⟨p,_,_,rfl,rfl,ai,by lia,by lia,?_,λl hl=>?_⟩
 ·show 1*((n:Int)).toNat<=Nv;have:(8:Nat)<=Nv:=by decide
  lia
 ·have e:(Np ((n:Int)).toNat [V.str x]).flatten=Np n (.str x):=by
   rw[Op];clear hn hD hs
   induction n with
   |zero=>rfl
   |succ n ih=>rw[O6,P0,ih];rfl
  rw[e];have s:ae H (upd (upd H p (.lst [.str x])) l (.lst (Np n (.str x)))):=(ae.new hp).trans (ae.new hl);refine⟨_,_,aw.same s hD,aw.listN hl (uB n),hs,hs,?_⟩;rw[Af];exact q _ s
theorem av.at {K:HD}{H:Hp}{i:Nat}{d:NQ}{x:V}{ds:List NQ}{xs:List V}(h:av K H ds xs)(e1:ds[i]?=some d)(e2:xs[i]?=some x):aw K H d x:=by
 obtain⟨d',h1,h2⟩:=h.get e2;rw[e1] at h1;cases h1;exact h2
theorem iQ (tw:cE H t r)(hp:H p=none):p∉[t,r]:=λz=>by
 obtain⟨_,_,k1,k2,_⟩:=tw;rcases Nl.mp z with z|z
 ·rw[z,k1] at hp;cases hp
 ·rw[Nm.mp z,k2] at hp;cases hp
section
variable {K:HD}{t r p:Nn}{H0 H:Hp}{xs ys:List V}{ds es:List NQ}
theorem iL (tw:cE H t r) (mm:Mv [t,r] H0 H) (L:av K (cut [t,r] H) es ys) (h:av K (cut [t,r] H) ds xs) (hp:H p=none) :
  cE (upd H p (.lst xs)) t r/\Mv [t,r] H0 (upd H p (.lst xs))/\av K (cut [t,r] (upd H p (.lst xs))) (.list ds::es) (.ref p::ys)/\cut [t,r] (upd H p (.lst xs)) p=some (.lst xs)/\ae (cut [t,r] H) (cut [t,r] (upd H p (.lst xs))):=
 have s:ae H (upd H p (.lst xs)):=ae.new hp
 ⟨tw.same s,mm.trans (Mv.of s),.cons (aw.lstC (iQ tw hp) (av.same (ae.cut s) h)) (av.same (ae.cut s) L),kF (iQ tw hp),ae.cut s⟩
theorem fj (tw:cE H t r) (mm:Mv [t,r] H0 H) (L:av K (cut [t,r] H) es ys) (h:av K (cut [t,r] H) ds xs) (hp:H p=none) :
  cE (upd H p (.tup xs)) t r/\Mv [t,r] H0 (upd H p (.tup xs))/\av K (cut [t,r] (upd H p (.tup xs))) (.tuple ds::es) (.ref p::ys)/\cut [t,r] (upd H p (.tup xs)) p=some (.tup xs)/\ae (cut [t,r] H) (cut [t,r] (upd H p (.tup xs))):=
 have s:ae H (upd H p (.tup xs)):=ae.new hp
 ⟨tw.same s,mm.trans (Mv.of s),.cons (aw.tupC (iQ tw hp) (av.same (ae.cut s) h)) (av.same (ae.cut s) L),kF (iQ tw hp),ae.cut s⟩
theorem sX (tw:cE H t r) (mm:Mv [t,r] H0 H) (L:av K (cut [t,r] H) es ys) (hp:H p=none) :
  cE (upd H p (.dK [])) t r/\Mv [t,r] H0 (upd H p (.dK []))/\av K (cut [t,r] (upd H p (.dK []))) (.dict []::es) (.ref p::ys)/\cut [t,r] (upd H p (.dK [])) p=some (.dK [])/\ae (cut [t,r] H) (cut [t,r] (upd H p (.dK []))):=
 have s:ae H (upd H p (.dK [])):=ae.new hp
 ⟨tw.same s,mm.trans (Mv.of s),.cons (.dct (kF (iQ tw hp))) (av.same (ae.cut s) L),kF (iQ tw hp),ae.cut s⟩
theorem jU (h:cut T H p=some o):H p=some o/\p∉T:=by
 unfold cut at h
 split at h
 ·cases h
 ·rename_i n
  exact⟨h,n⟩
theorem HS {k:Int}{n:Nat}(hk:k=n)(hn:n<=1000)(h:H p=some (.lst [v]))(q:∀ l,H l=none->Q (.ref l) (upd H l (.lst (Np n v)))):Ch (.ref p) (.int k) H Q:=by
 subst hk;refine⟨p,_,_,rfl,rfl,h,by lia,by lia,?_,λl hl=>?_⟩
 ·show 1*((n:Int)).toNat<=Nv;have:(1000:Nat)<=Nv:=by decide
  lia
 ·have e:(Np ((n:Int)).toNat [v]).flatten=Np n v:=by
   rw[Op];clear hn q
   induction n with
   |zero=>rfl
   |succ n ih=>rw[O6,P0,ih];rfl
  rw[e];exact q l hl
theorem E4 {k:Int}{n:Nat}(hk:k=n)(hn:n<=1000)(h:H p=some (.lst [v]))(q:∀ l,H l=none->Q (.ref l) (upd H l (.lst (Np n v)))):tC (.int k) σ H λy H2=>Ch (.ref p) y H2 Q:=HS hk hn h q
end
theorem uo (z:Rat):shB (rD z)=true:=(show Ok (z.num.natAbs+z.den) z.num z.den from⟨by have:=z.den_pos;lia,z.reduced,by unfold Sm;exact Nx (Rk) (Qj (by decide) (QD _ _)),by unfold Sm;exact Nx (Rk) (Qj (by decide) (Nat.le_add_left _ _))⟩).shB
def lq (K:HD)(x:Str)(fs:List Str):Bool:=(mQ K x).any λC=>Rc K C Str.empty&&R0 K C&&T_ K C&&NV K (.ref C) "__setattr__"==some (some (.builtin "object.__setattr__")) &&
 S6 K C&&NM K (.ref C)&&fs.all λf=>NV K (.ref C) f==some none
structure K6 (K:HD)(x:Str)(fs:List Str)(C:Nn):Prop where
 at_:cR K x C
 cls:Iv K C
 makes:S6 K C=true
 kp:NM K (.ref C)=true
 no:∀ f∈fs,rp K C f
theorem lL {K:HD}{x:Str}{fs:List Str}(h:lq K x fs=true):∃ C,K6 K x fs C:=by
 unfold lq at h;obtain⟨C,e,q⟩:=eV h;simp only[NO,OH,Og] at q;obtain⟨⟨⟨⟨⟨⟨a,b⟩,c⟩,d⟩,m⟩,k⟩,n⟩:=q;exact⟨C,qm e,⟨a,b,c,d⟩,m,k,λf hf=>OH.mp (by simpa using n f hf)⟩
theorem cL {K:HD}{x:Str}{C D:Nn}(h:cR K x C)(g:cR K x D):C=D:=Nb ((gj h).symm.trans (gj g))
section
variable {X:Cx}{K:HD}{o e value:Po}{f x:Str}{fs0:List Str}{pos pos':Pos}{ta tv:TE}
inductive M7 (K:HD)(x f:Str)(v:V)(H:Hp)(Q:VK):Prop
 |mk (a C dx:Nn) (fs:List (Str×V)) (w:V) (_:v=.ref a) (_:cR K x C) (_:H a=some (.ins C dx fs)) (_:fs.lookup f=some w) (_:Q w H)
def J' (K:HD)(x:Str)(ta:TE)(f:Str):TE:=λσ H Q=>ta σ H λv H1=>M7 K x f v H1 Q
theorem kg (hK:X.K=K)(hc:lq K x fs0=true)(hf:f∈fs0)(he:WE X e ta)(hb:Uw e f X.env (QT e X.env)=QT e X.env:=by rfl):WE X (.Attribute e f pos) (J' K x ta f):=by
 have he:=he.go;refine⟨?_⟩;subst hK;obtain⟨D,cf⟩:=lL hc;intro pins s σ H Q I h;refine F0 hb (bM (he pins s σ H _ I h) λu s1 ⟨v,H1,I1,rv,a,C,dx,fs,w,ev,ec,ea,l,q⟩=>?_);subst ev;cases cL ec cf.at_;obtain rfl:u=NN a:=rv;exact xW I1 ea cf.cls (cf.no f hf) l λu' s2 I2 ru=>⟨w,H1,I2,ru,q⟩
def JX (K:HD)(x:Str)(ta tv:TE)(f:Str):TS:=λD σ H=>tv σ H λy H1=>ta σ H1 λv H2=>∃ a C dx fs,v=.ref a/\cR K x C/\H2 a=some (.ins C dx fs)/\fs.length<1000 /\
 D.nx σ (upd H2 a (.ins C dx (iI f y fs)))
theorem wS (hK:X.K=K) (hc:lq K x fs0=true) (hf:f ∈ fs0) (ha:WE X o ta) (hv:WE X value tv) (hs:Td value (some (.Attribute o f pos')) pos.line X.env=pure false:=by rfl) :
  WS X (.Assign [.Attribute o f pos'] value pos) (JX K x ta tv f):=by
 have ha:=ha.go;have hv:=hv.go;refine⟨?_⟩;subst hK;obtain⟨E,cf⟩:=lL hc;intro pins s σ H D I h;refine plainObj_wpAny_Assign_Attribute (bM (hv pins s σ H _ I h) λu s1 ⟨y,H1,I1,ry,q⟩=>bM (ha pins s1 σ H1 _ I1 q) λov s2 ⟨v,H2,I2,rv,a,C,dx,fs,ev,ec,ea,l,q2⟩=>?_) hs;subst ev;cases cL ec cf.at_;obtain rfl:ov=NN a:=rv;exact yo I2 ea cf.cls (cf.no f hf) l ry λs3 I3=>⟨σ,_,I3,q2⟩
end
abbrev GW (X:Cx)(o:Po)(m:Str)(args:List Po)(pl:Sem Bool)(apos pos:Pos):Prop:=
 QT (.Call (.Attribute o m apos) args [] pos) X.env=(do let ov <- QT o X.env;Vc apos.atName;let (f,first) <- holding [ov] (getMethod ov m pl);callWith pos f first (Q0 pos (NG args X.env)) (Qk pos (OW [] X.env)))
structure wm (P:ND)(w:N6)(K:HD)(mg:Str->Option Nd)(base:OZ)(CX:jy)(k:Nat)(x m:Str)(ps:List Str)(dvs:List V)(sp:Sp):Prop where
 ex:∃ (C f:Nn) (fd:OK) (ds:List Nd) (fs:List Str),gt P w K mg base CX k f fd ps sp/\K6 K x fs C/\Cp K C m f/\mg x=some (.ref C)/\ki K fd ps ds/\aM dvs ds
def GO (K:HD)(x m:Str)(sp:Sp)(dvs:List V)(E:XK)(ta:TE)(t:TA):TE:=λσ H Q=>ta σ H λv H1=>∃ a C dx fs,v=.ref a/\cR K x C/\H1 a=some (.ins C dx fs)/\fs.lookup m=none /\
 t σ H1 λvs H2=>sp (v::(vs++dvs)) H2 Q E
def JZ (K:HD)(x:Str)(sp:Sp)(dvs:List V)(E:XK)(t:TA):TE:=λσ H Q=>t σ H λvs H1=>∀ C a dx,cR K x C->H1 a=none->H1 dx=none->dx≠a ->
 sp (.ref a::(vs++dvs)) (upd (upd H1 dx (.own a)) a (.ins C dx [])) (λv H2=>v=.non/\Q (.ref a) H2) E
section
variable {X:Cx}{CX:jy}{K:HD}{k:Nat}{x m:Str}{ps:List Str}{sp:Sp}{dvs:List V}{p pos apos:Pos}{o e:Po}{es:List Po}{ta:TE}{t:TA}{W:WX}
theorem pO {pl:Sem Bool} (hK:X.K=K) (hX:EZ CX) (C:wm X.prog X.w X.K X.mg X.base CX k x m ps dvs sp) (hr:Room k X.A) (he:WE X o ta) (ha:WA X (e :: es) t)
  (hst:NG (e::es) X.env=(false,QT e X.env)::NG es X.env:=by rfl)(hpl:(Q0 pos (NG es X.env)).any (·.1)=false:=by rfl)
  (ht:GW X o m (e::es) pl apos pos:=by rfl):WE X (.Call (.Attribute o m apos) (e::es) [] pos) (GO K x m sp dvs E0 ta t):=by
 have he:=he.go;have ha:=ha.go;refine⟨?_⟩;subst hK;obtain⟨D,f,fd,ds,fs0,F,cf,hm,_,hb,hd⟩:=C.ex;intro pins s σ H Q I h;refine Sl (pl:=pl) (bM (he pins s σ H _ I h) λu s1 ⟨v,H1,I1,rv,a,E,dx,fs,ev,ec,ea,l,q⟩=>?_) ht;subst ev;cases cL ec cf.at_;obtain rfl:u=NN a:=rv;refine l_ I1 ea cf.cls hm l ?_;refine QI (first:=[.ref a]) (h₀:=X.base) I.ok.mod.kin hm.kp (bM (ha pos pins s1 σ H1 _ I1 q) λus s2 ⟨vs,H2,I2,r,q2⟩=>⟨I2.kIn,?_⟩) hst hpl;exact uJ (us:=.ref a::us) (vs:=.ref a::vs) F hr hb hd (qd hX) I2 (.cons rfl r) q2
theorem qp {pl:Sem Bool} (hK:X.K=K) (hX:EZ CX) (C:wm X.prog X.w X.K X.mg X.base CX k x m ps dvs sp) (hr:Room k X.A) (he:WE X o ta)
  (ht:GW X o m [] pl apos pos:=by rfl):WE X (.Call (.Attribute o m apos) [] [] pos) (GO K x m sp dvs E0 ta AY):=by
 have he:=he.go;refine⟨?_⟩;subst hK;obtain⟨D,f,fd,ds,fs0,F,cf,hm,_,hb,hd⟩:=C.ex;intro pins s σ H Q I h;refine Sl (pl:=pl) (bM (he pins s σ H _ I h) λu s1 ⟨v,H1,I1,rv,a,E,dx,fs,ev,ec,ea,l,q⟩=>?_) ht;subst ev;cases cL ec cf.at_;obtain rfl:u=NN a:=rv;refine l_ I1 ea cf.cls hm l ?_;exact PySem.W.callWith_K0 (first:=[.ref a]) I1.kIn hm.kp (uJ (us:=[.ref a]) (vs:=[.ref a]) F hr hb hd (qd hX) I1 (.cons rfl .nil) q)
theorem FI (hK:X.K=K) (hX:EZ CX) (C:wm X.prog X.w X.K X.mg X.base CX k x "__init__" ps dvs sp) (hr:Room (k + 1) X.A) (hg:Gl X x) (ha:WA X (e :: es) t) (hdb:(x == ("__debug__":Str))=false:=by decide)
  (he:NG (e::es) X.env=(false,QT e X.env)::NG es X.env:=by rfl)(hpl:(Q0 pos (NG es X.env)).any (·.1)=false:=by rfl):WE X (.Call (.Name x p) (e::es) [] pos) (JZ K x sp dvs E0 t):=by
 have ha:=ha.go;refine⟨?_⟩;subst hK;obtain⟨D,f,fd,ds,fs0,F,cf,hm,hmg,hb,hd⟩:=C.ex;intro pins s σ H Q I h;refine OA (eG I hg hmg ?_ hdb);refine QI (h₀:=X.base) I.ok.mod.kin cf.kp (bM (ha pos pins s σ H _ I h) λus s1 ⟨vs,H1,I1,r,q⟩=>⟨I1.kIn,?_⟩) he hpl;exact Cq ⟨cf.makes,hm.at_,hm.fn,cf.kp⟩ F hr hb hd (qd hX) I1 r λa dx h1 h2 h3=>q D a dx cf.at_ h1 h2 h3
end
structure rR (K:HD)(mg:Str->Option Nd)(x m qual:Str)(st:Pr)(ps:List Str)(dvs:List V):Prop where
 ex:∃ (C f:Nn) (fd:OK) (oc:Nd) (od:Option Nn) (dV kV doc pm:Nd) (an:Option Nn) (cdv ct:Nd) (osl:Array (Option Nd)) (ds:List Nd) (fs:List Str),
  fd=NF m qual (aO st) (aL st) (ag st) dV kV doc pm an cdv ct/\K.lookup f=some ⟨oc,od,.func fd,osl⟩/\NU K cdv qual=true /\
  K6 K x fs C/\Cp K C m f/\mg x=some (.ref C)/\ki K fd ps ds/\aM dvs ds
section
variable {P:ND}{w:N6}{K:HD}{mg:Str->Option Nd}{base:OZ}{CX:jy}{x m qual:Str}{st:Pr}{N ps:List Str}{dvs:List V}{k:Nat}{sp:Sp}
theorem rR.cal (F:rR K mg x m qual st ps dvs) (S:ay N ps (ag st)) (len:∀ vs H Q E,sp vs H Q E->vs.length=ps.length:=by intro _ _ _ _ h;cases h;subst_vars;rfl)
  (bb:∀ (f:Nn) (cdv:Nd) (A:Oa) (outer:List Env) (s:Nh) (H:Hp) (vs:List V) (Q:VK) (E:XK),Room k (A.deeper (envOfC qual (ag st) s.heap.objs.size f cdv))->sp vs H Q E ->
   ∃ t,xS (mi CX P w K mg base N qual (ag st) f cdv A outer s H E).nox (aL st) t/\t { nx:=λ_ H'=>Q .non H',rt:=Q } (f_ N vs) H):wm P w K mg base CX (k+1) x m ps dvs sp:=by
 obtain⟨C,f,fd,oc,od,dV,kV,doc,pm,an,cdv,ct,osl,ds,fs,rfl,lk,hcd,cf,hm,hmg,hb,hv⟩:=F.ex;refine⟨C,f,_,ds,fs,oG lk hcd S len λA outer s H vs Q E hr hsp=>?_,cf,hm,hmg,hb,hv⟩;obtain⟨t,h,q⟩:=bb f cdv A outer s H vs Q E hr hsp;exact⟨t,h.nox,q⟩
theorem Fg {fs:List Str}{C f:Nn}{oc:Nd}{od an:Option Nn}{osl:Array (Option Nd)}{kV doc pm cdv ct:Nd} (l:K.lookup f=some ⟨oc,od,.func (NF m qual (aO st) (aL st) (ag st) .none kV doc pm an cdv ct),osl⟩)
  (c:NU K cdv qual=true)(kp:NM K (.ref f)=true)(fn:Qw K (.ref f)=true)(a:Nw K Nk x=some (some (.ref C)))(b:NV K (.ref C) m=some (some (.ref f)))(hc:lq K x fs=true)(g:mg x=some (.ref C))
  (h:∀ us:List Nd,us.length=ps.length->OE (NF m qual (aO st) (aL st) (ag st) .none kV doc pm an cdv ct) ⟨us,[]⟩=pure (ps.zip us)):rR K mg x m qual st ps []:=by
 obtain⟨D,cf⟩:=lL hc;cases cL cf.at_ a;exact⟨_,f,_,oc,od,.none,kV,doc,pm,an,cdv,ct,osl,[],fs,rfl,l,c,cf,⟨b,fn,kp⟩,g,.all h,.nil⟩
end
abbrev Pt:=Int×Int
def M5 (p:Pt):NQ:=.tuple [.int p.1,.int p.2]
def L' (ps:List Pt):NQ:=.list (ps.map M5)
structure Pt.In (p:Pt):Prop where
 a1:0<=p.1
 a2:p.1<=1000
 b1:0<=p.2
 b2:p.2<=1000
structure MR (ps:List Pt):Prop where
 two:2<=ps.length
 few:ps.length<=12
 zero:∀ p,ps[0]?=some p->p.1=0
 inn:∀ p∈ps,p.In
 up:∀ (i:Nat) (p q:Pt),ps[i]?=some p->ps[i+1]?=some q->p.1<q.1/\p.2<=q.2
section
variable {K:HD}{g:TG}{tt:TT}{te:TE}{σ0:L2.St}{Fin:List V->Hp->Prop}{H1:Hp}
theorem tH (h1:bX K H1 a1 xs b1) (h2:bX K H1 a2 ys b2) (hds:av K H1 ds xs) (hes:av K H1 es ys) (hle:es.length <= ds.length) (hlf:fs.length=es.length) (hl:ds.length <= 1000)
  (he:∀ (i:Nat) (d e f:NQ) (x y:V) (T:Nn) (H:Hp),ds[i]?=some d->es[i]?=some e->fs[i]?=some f->ae H1 H->aw K H d x->aw K H e y->H T=some (.tup [x,y])->mG g tt te σ0 (.ref T) H λz H'=>ae H H'/\aw K H' f z)
  (hd:∀ zs H,ae H1 H->av K H fs zs->Fin zs H):jj (JS K b1 b2 a1 a2) g tt te σ0 Fin H1:=by
 have hlen:=hds.length;have hlen2:=hes.length;refine⟨λi m zs H=>m=ys.length-i/\i<=ys.length/\ae H1 H/\av K H (fs.take i) zs,⟨ys.length,by lia,Om _,ae.refl _,.nil⟩,?_⟩;rintro i m zs H ⟨rfl,hi,s,hzs⟩;have hyl:=hzs.length;rw[N8] at hyl
 by_cases hlt2:i<ys.length
 ·have hlt:i<xs.length:=by lia
  refine .inr ⟨⟨xs,ys,xs[i],ys[i],bX.same s h1,bX.same s h2,by simp[hlt],by simp[hlt2]⟩,bP (by lia),λv H3 y3=>?_⟩;obtain⟨x,y,T,k1,k2,kT,rfl,rfl⟩:=y3;have hx:=k1 xs (bX.same s h1);have hy:=k2 ys (bX.same s h2);obtain⟨d,hdd,hdx⟩:=hds.get hx;obtain⟨e,hee,hey⟩:=hes.get hy;have hff:fs[i]?=some fs[i]:=by simp[show i<fs.length by lia]
  have sT:ae H (upd H T (.tup [x,y])):=ae.new kT;have sA:=s.trans sT;refine he i d e fs[i] x y T _ hdd hee hff sA (aw.same sA hdx) (aw.same sA hey) ai _ (λz H' ⟨s',hz⟩=>⟨ys.length-(i+1),by lia,rfl,hlt2,sA.trans s',?_⟩) λH5=>∃ m',m'<ys.length-i/\(m'=ys.length-(i+1)/\i+1<=ys.length/\ae H1 H5/\av K H5 (fs.take (i+1)) zs)
  rw[bF hff];exact(av.same s' (av.same sT hzs)).snoc hz
 ·have e:i=ys.length:=by lia
  subst e;rw[NR (by lia)] at hzs;exact .inl ⟨⟨xs,ys,bX.same s h1,bX.same s h2,.inr (Nj _)⟩,ce (by lia),hd zs H s hzs⟩
end
theorem vA (xs:List V)(h:1<=xs.length):qL xs (some 1) none=xs.drop 1:=by
 unfold qL;have e1:HT.sIx xs.length 0 (some 1)=1:=by
  simp[HT.sIx]
  try lia
 have e2:HT.sIx xs.length xs.length none=xs.length:=by simp[HT.sIx]
 rw[e1,e2];exact NR (by rw[UH];exact Nj _)
def Ml (K:HD)(H:Hp)(ps:List Pt)(v:V):Prop:=∃ (a C dx l:Nn),v=.ref a/\cR K "Curve" C/\H a=some (.ins C dx [("points",.ref l)])/\aw K H (L' ps) (.ref l)
def iA {α:Type}(n m:Nat)(ds us ws:List α):List α:=cond (W0 us.length n&&W0 ws.length m) (us++(ws++ds)) []
theorem wJ {n m:Nat}(hd:aM dvs ds)(a:aM vs us)(b:aM zs ws):aM (iA n m dvs vs zs) (iA n m ds us ws):=by
 unfold iA;rw[a.length,b.length];cases W0 us.length n&&W0 ws.length m
 ·exact .nil
 ·exact a.append (b.append hd)
theorem wX {n m k:Nat}(h:(iA n m ds us ws).length=k+1):us.length=n/\ws.length=m/\iA n m ds us ws=us++(ws++ds):=by
 unfold iA at h ⊢;cases z:W0 us.length n&&W0 ws.length m with
 |false=>rw[z] at h;cases h
 |true=>
  rw[NO] at z;exact⟨U4 z.1,U4 z.2,rfl⟩
theorem Gz {K:HD}{fd:OK}{p:Str}{ps ks:List Str}{n m:Nat} (h:∀ us ws:List Nd,us.length=n->ws.length=m->OE fd ⟨us,ks.zip ws⟩=pure ((p :: ps).zip (us ++ ws))) :
  iZ K fd (p::ps) ks (iA n m []) (iA n m []):=
 ⟨λs us ws _ hl=>by
  obtain⟨a,b,c⟩:=wX hl;rw[c,SR];exact .of_eq (h us ws a b),λa b=>wJ .nil a b⟩
structure vF (P:ND)(w:N6)(K:HD)(mg:Str->Option Nd)(base:OZ)(CX:jy)(k:Nat)(x:Str)(ps ks:List Str)(n m:Nat)(dvs:List V)(sp:Sp):Prop where
 ex:∃ (f:Nn) (fd:OK) (ds:List Nd),gt P w K mg base CX k f fd ps sp/\mg x=some (.ref f)/\NM K (.ref f)=true/\iZ K fd ps ks (iA n m ds) (iA n m dvs)
def E5 (sp:Sp)(gV:List V->List V->List V)(W:WX)(t tk:TA):TE:=λσ H Q=>t σ H λvs H1=>tk σ H1 λzs H2=>sp (gV vs zs) H2 Q (oM W σ)
section
variable {X:Cx}{CX:jy}{W:WX}{k n m:Nat}{x:Str}{ps ks:List Str}{sp:Sp}{dvs:List V}{p pos:Pos}{e:Po}{es:List Po}{t tk:TA}{kws:List TH}
theorem Ee (hX:EZ CX) (C:vF X.prog X.w X.K X.mg X.base CX k x ps ks n m dvs sp) (hr:Room k X.A) (hg:Gl X x) (ha:WA X (e :: es) t) (hkw:WK X kws tk)
  (hall:(Qk pos (OW kws X.env)).all (·.1.isSome)=true:=by rfl)(hks:(Qk pos (OW kws X.env)).filterMap (·.1)=ks:=by rfl)(hdb:(x==("__debug__":Str))=false:=by decide)
  (he:NG (e::es) X.env=(false,QT e X.env)::NG es X.env:=by rfl)
  (hpl:((Q0 pos (NG (e::es) X.env)).any (·.1)||(Qk pos (OW kws X.env)).any (·.1.isNone))=false:=by rfl):
  WE X (.Call (.Name x p) (e::es) kws pos) (C9 sp (iA n m dvs) E0 t tk):=by
 have ha:=ha.go;have hkw:=hkw.go;refine⟨?_⟩;obtain⟨f,fd,ds,F,hm,hk,hb⟩:=C.ex;exact EG F hr hg hm hk hb (qd hX) ha hkw hall hks hdb he hpl
theorem DC
  (F:gt X.prog X.w X.K X.mg X.base (cN X.prog X.w) k f fd ps sp)(hr:Room k X.A)(hb:iZ X.K fd ps ks g gV)(hT:FA X W)(hex:X.ex=[])(I:aD X pins σ H s)(r:aM vs us)(rz:aM zs ws)(h:sp (gV vs zs) H Q (oM W σ)):
  Nu (NI X.prog X.w) X.A (call (.ref f) us (ks.zip ws)) (EP X pins σ Q) X.xe s:=by
 have rr:=hb.rel r rz;have hn:(g us ws).length=ps.length:=rr.length.symm.trans (F.len _ _ _ _ h);refine QX (Rn (F.run X.A X.stack s H ⟨us,ks.zip ws⟩ (g us ws) (gV vs zs) Q (oM W σ) hr I.env0 (hb.to s us ws I.kIn hn) rr h) λz s' hz=>?_)
 match z,hz with
 |.error v,hz=>exact wC hT hex I (λC H' q=>by obtain⟨C',e,w⟩:=q;cases e;exact w) hz
 |.ok (.ret u),hz=>exact I.after hz
theorem kE (hT:FA X W) (hex:X.ex=[]) (C:vF X.prog X.w X.K X.mg X.base (cN X.prog X.w) k x ps ks n m dvs sp) (hr:Room k X.A) (hg:Gl X x) (ha:WA X (e :: es) t) (hkw:WK X kws tk)
  (hall:(Qk pos (OW kws X.env)).all (·.1.isSome)=true:=by rfl)(hks:(Qk pos (OW kws X.env)).filterMap (·.1)=ks:=by rfl)(hdb:(x==("__debug__":Str))=false:=by decide)
  (he:NG (e::es) X.env=(false,QT e X.env)::NG es X.env:=by rfl)
  (hpl:((Q0 pos (NG (e::es) X.env)).any (·.1)||(Qk pos (OW kws X.env)).any (·.1.isNone))=false:=by rfl):
  WE X (.Call (.Name x p) (e::es) kws pos) (E5 sp (iA n m dvs) W t tk):=by
 have ha:=ha.go;have hkw:=hkw.go;refine⟨?_⟩;obtain⟨f,fd,ds,F,hm,hk,hb⟩:=C.ex;intro pins s σ H Q I h;refine OA (eG I hg hm ?_ hdb);refine SZ (h₀:=X.base) I.ok.mod.kin hk hall (bM (ha pos pins s σ H _ I h) λus s1 ⟨vs,H1,I1,r,q⟩=>bM (hkw pos pins s1 σ H1 _ I1 q) λws s2 ⟨zs,H2,I2,rz,q2⟩=>⟨I2.kIn,?_⟩) hpl he;rw[hks];exact DC F hr hb hT hex I2 r rz q2
end
structure rL (K:HD)(mg:Str->Option Nd)(x:Str)(st:Pr)(ps ks:List Str)(n m:Nat)(dvs:List V):Prop where
 ex:∃ (f:Nn) (fd:OK) (oc:Nd) (od:Option Nn) (dV kV doc pm:Nd) (an:Option Nn) (cdv ct:Nd) (osl:Array (Option Nd)) (ds:List Nd),
  fd=NF x x (aO st) (aL st) (ag st) dV kV doc pm an cdv ct/\K.lookup f=some ⟨oc,od,.func fd,osl⟩/\NU K cdv x=true /\
  mg x=some (.ref f)/\NM K (.ref f)=true/\iZ K fd ps ks (iA n m ds) (iA n m dvs)
section
variable {P:ND}{w:N6}{K:HD}{mg:Str->Option Nd}{base:OZ}{CX:jy}{x:Str}{st:Pr}{N ps ks:List Str}{n m:Nat}{dvs:List V}{k:Nat}{sp:Sp}
theorem rL.cal (F:rL K mg x st ps ks n m dvs) (S:ay N ps (ag st)) (len:∀ vs H Q E,sp vs H Q E->vs.length=ps.length:=by intro _ _ _ _ h;cases h;subst_vars;rfl)
  (bb:∀ (f:Nn) (cdv:Nd) (A:Oa) (outer:List Env) (s:Nh) (H:Hp) (vs:List V) (Q:VK) (E:XK),Room k (A.deeper (envOfC x (ag st) s.heap.objs.size f cdv))->sp vs H Q E ->
   ∃ t,xS (mi CX P w K mg base N x (ag st) f cdv A outer s H E).nox (aL st) t/\t { nx:=λ_ H'=>Q .non H',rt:=Q } (f_ N vs) H):vF P w K mg base CX (k+1) x ps ks n m dvs sp:=by
 obtain⟨f,fd,oc,od,dV,kV,doc,pm,an,cdv,ct,osl,ds,rfl,lk,hcd,hm,hk,hb⟩:=F.ex;refine⟨f,_,ds,oG lk hcd S len λA outer s H vs Q E hr hsp=>?_,hm,hk,hb⟩;obtain⟨t,h,q⟩:=bb f cdv A outer s H vs Q E hr hsp;exact⟨t,h.nox,q⟩
theorem rL.calX (F:rL K mg x st ps ks n m dvs) (S:ay N ps (ag st)) (len:∀ vs H Q E,sp vs H Q E->vs.length=ps.length:=by intro _ _ _ _ h;cases h;subst_vars;rfl)
  (bb:∀ (f:Nn) (cdv:Nd) (A:Oa) (outer:List Env) (s:Nh) (H:Hp) (vs:List V) (Q:VK) (E:XK),Room k (A.deeper (envOfC x (ag st) s.heap.objs.size f cdv))->sp vs H Q E ->
   ∃ t,xS (mi CX P w K mg base N x (ag st) f cdv A outer s H E) (aL st) t/\t { nx:=λ_ H'=>Q .non H',rt:=Q } (f_ N vs) H):vF P w K mg base CX (k+1) x ps ks n m dvs sp:=by
 obtain⟨f,fd,oc,od,dV,kV,doc,pm,an,cdv,ct,osl,ds,rfl,lk,hcd,hm,hk,hb⟩:=F.ex;exact⟨f,_,ds,oG lk hcd S len λA outer s H vs Q E hr hsp=>bb f cdv A outer s H vs Q E hr hsp,hm,hk,hb⟩
theorem uS {p:Str}{ps:List Str}{f:Nn}{oc:Nd}{od an:Option Nn}{osl:Array (Option Nd)}{kV doc pm cdv ct:Nd} (l:K.lookup f=some ⟨oc,od,.func (NF x x (aO st) (aL st) (ag st) .none kV doc pm an cdv ct),osl⟩)
  (c:NU K cdv x=true)(kp:NM K (.ref f)=true)(g:mg x=some (.ref f))
  (h:∀ us ws:List Nd,us.length=n->ws.length=m->OE (NF x x (aO st) (aL st) (ag st) .none kV doc pm an cdv ct) ⟨us,ks.zip ws⟩=pure ((p::ps).zip (us++ws))):rL K mg x st (p::ps) ks n m []:=
 ⟨f,_,oc,od,.none,kV,doc,pm,an,cdv,ct,osl,[],rfl,l,c,g,kp,Gz h⟩
end
structure Ey (P:ND)(w:N6)(K:HD)(mg:Str->Option Nd)(base:OZ)(CX:jy)(k:Nat)(x m:Str)(ps ks:List Str)(n j:Nat)(dvs:List V)(sp:Sp):Prop where
 ex:∃ (C f:Nn) (fd:OK) (ds:List Nd) (fs:List Str),gt P w K mg base CX k f fd ps sp/\K6 K x fs C/\Cp K C m f/\mg x=some (.ref C)/\iZ K fd ps ks (iA n j ds) (iA n j dvs)
structure qS (K:HD)(mg:Str->Option Nd)(x m qual:Str)(st:Pr)(ps ks:List Str)(n j:Nat)(dvs:List V):Prop where
 ex:∃ (C f:Nn) (fd:OK) (oc:Nd) (od:Option Nn) (dV kV doc pm:Nd) (an:Option Nn) (cdv ct:Nd) (osl:Array (Option Nd)) (ds:List Nd) (fs:List Str),
  fd=NF m qual (aO st) (aL st) (ag st) dV kV doc pm an cdv ct/\K.lookup f=some ⟨oc,od,.func fd,osl⟩/\NU K cdv qual=true /\
  K6 K x fs C/\Cp K C m f/\mg x=some (.ref C)/\iZ K fd ps ks (iA n j ds) (iA n j dvs)
section
variable {P:ND}{w:N6}{K:HD}{mg:Str->Option Nd}{base:OZ}{CX:jy}{x m qual:Str}{st:Pr}{N ps ks:List Str}{n j:Nat}{dvs:List V}{k:Nat}{sp:Sp}
theorem qS.cal (F:qS K mg x m qual st ps ks n j dvs) (S:ay N ps (ag st)) (len:∀ vs H Q E,sp vs H Q E->vs.length=ps.length:=by intro _ _ _ _ h;cases h;subst_vars;rfl)
  (bb:∀ (f:Nn) (cdv:Nd) (A:Oa) (outer:List Env) (s:Nh) (H:Hp) (vs:List V) (Q:VK) (E:XK),Room k (A.deeper (envOfC qual (ag st) s.heap.objs.size f cdv))->sp vs H Q E ->
   ∃ t,xS (mi CX P w K mg base N qual (ag st) f cdv A outer s H E).nox (aL st) t/\t { nx:=λ_ H'=>Q .non H',rt:=Q } (f_ N vs) H):Ey P w K mg base CX (k+1) x m ps ks n j dvs sp:=by
 obtain⟨C,f,fd,oc,od,dV,kV,doc,pm,an,cdv,ct,osl,ds,fs,rfl,lk,hcd,cf,hm,hmg,hb⟩:=F.ex;refine⟨C,f,_,ds,fs,oG lk hcd S len λA outer s H vs Q E hr hsp=>?_,cf,hm,hmg,hb⟩;obtain⟨t,h,q⟩:=bb f cdv A outer s H vs Q E hr hsp;exact⟨t,h.nox,q⟩
theorem Er {p:Str}{ps fs:List Str}{C f:Nn}{oc:Nd}{od an:Option Nn}{osl:Array (Option Nd)}{kV doc pm cdv ct:Nd} (l:K.lookup f=some ⟨oc,od,.func (NF m qual (aO st) (aL st) (ag st) .none kV doc pm an cdv ct),osl⟩)
  (c:NU K cdv qual=true)(kp:NM K (.ref f)=true)(fn:Qw K (.ref f)=true)(a:Nw K Nk x=some (some (.ref C)))(b:NV K (.ref C) m=some (some (.ref f)))(hc:lq K x fs=true)(g:mg x=some (.ref C))
  (h:∀ us ws:List Nd,us.length=n->ws.length=j->OE (NF m qual (aO st) (aL st) (ag st) .none kV doc pm an cdv ct) ⟨us,ks.zip ws⟩=pure ((p::ps).zip (us++ws))):qS K mg x m qual st (p::ps) ks n j []:=by
 obtain⟨D,cf⟩:=lL hc;cases cL cf.at_ a;exact⟨_,f,_,oc,od,.none,kV,doc,pm,an,cdv,ct,osl,[],fs,rfl,l,c,cf,⟨b,fn,kp⟩,g,Gz h⟩
end
structure MM (P:ND)(w:N6)(K:HD)(mg:Str->Option Nd)(base:OZ)(CX:jy)(k:Nat)(v:V)(sp:Sp):Prop where
 ex:∃ (f:Nn) (fd:OK) (ps:List Str),v=.ref f/\gt P w K mg base CX k f fd ps sp/\NM K (.ref f)=true/\ki K fd ps []
theorem df.fnV {P:ND}{w:N6}{K:HD}{mg:Str->Option Nd}{base:OZ}{CX:jy}{j k:Nat}{x:Str}{ps:List Str}{sp:Sp}{f:Nn}(C:df P w K mg base CX j x ps [] sp)(h:mg x=some (.ref f))(l:j<=k):MM P w K mg base CX k (.ref f) sp:=by
 obtain⟨f',fd,ds,F,hm,hk,hb,hv⟩:=C.ex;rw[h] at hm;cases hm;cases hv;exact⟨f,fd,ps,rfl,F.mono l,hk,hb⟩
def Lj (P:ND)(w:N6)(K:HD)(mg:Str->Option Nd)(base:OZ)(CX:jy)(k i:Nat)(t:TA):TE:=λσ H Q=>∃ v,σ[i]?=some (some v)/\∃ sp,MM P w K mg base CX k v sp/\t σ H λvs H1=>sp vs H1 Q E0
theorem Ct {X:Cx}{P:ND}{w:N6}{K:HD}{mg:Str->Option Nd}{base:OZ}{CX:jy}{k i:Nat}{x:Str}{e:Po}{es:List Po}{t:TA}{p pos:Pos} (hP:X.prog=P) (hw:X.w=w) (hK:X.K=K) (hmg:X.mg=mg) (hba:X.base=base) (hX:EZ CX) (hr:Room k X.A)
  (hv:WE X (.Name x p) (FO i))(ha:WA X (e::es) t)
  (he:NG (e::es) X.env=(false,QT e X.env)::NG es X.env:=by rfl)(hpl:(Q0 pos (NG es X.env)).any (·.1)=false:=by rfl):WE X (.Call (.Name x p) (e::es) [] pos) (Lj P w K mg base CX k i t):=by
 have hv:=hv.go;have ha:=ha.go;refine⟨?_⟩;subst hP hw hK hmg hba;intro pins s σ H Q I h;obtain⟨v,hi,sp,F,h⟩:=h;obtain⟨f,fd,ps,rfl,F,hk,hb⟩:=F.ex;refine OA (bM (hv pins s σ H (λv' H'=>v'=V.ref f/\H'=H) I ⟨_,hi,rfl,rfl⟩) λu s1 ⟨v1,H1,I1,rv,e1,e2⟩=>?_);subst e1 e2;cases rv;refine QI (h₀:=X.base) I.ok.mod.kin hk (bM (ha pos pins s1 σ H1 _ I1 h) λus s2 ⟨vs,H2,I2,r,q⟩=>⟨I2.kIn,?_⟩) he hpl;exact uJ (dvs:=[]) F hr hb .nil (qd hX) I2 r (by rw[SR];exact q)
structure tP (K:HD)(w:N6)(mg:Str->Option Nd)(D:Nn)(kvs:List (Str×Str)):Prop where
 ex:∃ (es:Array O2) (n:Nat),K.lookup D=some ⟨.type "dict",none,.dict es n,#[]⟩/\W3 w.params es.toList/\Tt (λ(e:O2) (p:Str×Str)=>∃ t f,e.key=.str p.1 t/\e.val=.ref f/\mg p.2=some (.ref f)) es.toList kvs
 lo:(D==OB)=false
theorem vM {mg:Str->Option Nd}:∀ {l:List O2}{kfs:List (Str × Nn)}{kvs:List (Str × Str)},Tt (fun (e:O2) (p:Str × Nn)=>∃ t,e.key=.str p.1 t/\e.val=.ref p.2) l kfs ->
  Tt (λ(p:Str×Nn) (q:Str×Str)=>p.1=q.1/\mg q.2=some (.ref p.2)) kfs kvs->Tt (λ(e:O2) (p:Str×Str)=>∃ t f,e.key=.str p.1 t/\e.val=.ref f/\mg p.2=some (.ref f)) l kvs
 |_,_,_,.nil,.nil=>.nil
 |_,_,_,.cons ⟨t,h1,h2⟩ r,.cons ⟨q1,q2⟩ s=>.cons ⟨t,_,by rw[h1,q1],h2,q2⟩ (vM r s)
theorem v_ {mg:Str->Option Nd}{x:Str}:∀ {l:List O2}{kvs:List (Str × Str)},Tt (fun (e:O2) (p:Str × Str)=>∃ t f,e.key=.str p.1 t/\e.val=.ref f/\mg p.2=some (.ref f)) l kvs ->
  (match kvs.lookup x with|some n=>∃ f e,l.find? (λd=>Qd x d.key)=some e/\e.val=.ref f/\mg n=some (.ref f)|none=>l.find? (λd=>Qd x d.key)=none)
 |_,_,.nil=>rfl
 |e::l,p::kvs,.cons ⟨t,f,h1,h2,h3⟩ r=>by
  obtain⟨a,b⟩:=p;rw[Oq,Pu,h1];have q:Qd x (.str a t)=(x==a):=by
   show decide _=_;rw[Sd];exact decide_eq_decide.mpr ⟨Eq.symm,Eq.symm⟩
  rw[q];cases z:x==a with
  |true=>exact⟨f,e,rfl,h2,h3⟩
  |false=>exact v_ r
section
variable {X:Cx}{K:HD}{w:N6}{mg:Str->Option Nd}{kvs:List (Str×Str)}
def MH (K:HD)(w:N6)(mg:Str->Option Nd)(kvs:List (Str×Str)):TE:=λ_ H Q=>∀ D,tP K w mg D kvs->Q (.ref D) H
theorem ze (hg:Gl X x)(hx:∃ D,X.mg x=some (.ref D)/\tP K w mg D kvs)(hd:(x==("__debug__":Str))=false:=by decide):WE X (.Name x pos) (MH K w mg kvs):=by
 refine⟨?_⟩;intro pins s σ H Q I h;obtain⟨D,hm,hD⟩:=hx;exact eG I hg hm ⟨.ref D,H,I,rfl,h D hD⟩ hd
def IN (K:HD)(w:N6)(mg:Str->Option Nd)(kvs:List (Str×Str)):R2:=λx y H Q=>∃ a D,x=.str a/\y=.ref D/\tP K w mg D kvs/\Q (.bl (kvs.lookup a).isSome) H
theorem Ah {h:OZ}{prog:ND}{D:Nn} (X:K.In h) (T:tP K w mg D kvs):∃ es:Array O2,h.MapOf (strKind prog w) D (fun k=>findBy Qd es k)/\∀ x,match kvs.lookup x with
  |some n=>∃ f,findBy Qd es x=some (.ref f)/\mg n=some (.ref f)
  |none=>findBy Qd es x=none:=by
 obtain⟨es,n,l,hk,hp⟩:=T.ex;refine⟨es,PySem.W.mapOf_K X l hk,λx=>?_⟩;have q:=v_ (x:=x) hp;obtain⟨es⟩:=es;unfold findBy;cases z:kvs.lookup x with
 |none=>
  rw[z] at q;simp only[VM];rw[q];rfl
 |some n=>
  rw[z] at q;obtain⟨f,e,q1,q2,q3⟩:=q;refine⟨f,?_,q3⟩;simp only[VM];rw[q1];show some e.val=_;rw[q2]
theorem DQ (hK:X.K=K)(hw:X.w=w):j7 X (Pk .In) (IN K w mg kvs):=by
 subst hK hw;intro pins s σ H x y v u Q I rx ry h;obtain⟨a,D,rfl,rfl,T,q⟩:=h;obtain⟨t,rfl⟩:=rx;cases ry;obtain⟨es,hm,hf⟩:=Ah (prog:=X.prog) I.kIn T;refine wpAny_in_of (strKind_is X.prog X.w a t) T.lo hm ?_;have e:(findBy Qd es a).isSome=(kvs.lookup a).isSome:=by
  have z:=hf a;cases y:kvs.lookup a with
  |none=>rw[y] at z;rw[z];rfl
  |some n=>rw[y] at z;obtain⟨f,z,_⟩:=z;rw[z];rfl
 exact yh (I.tok _) q e.symm
def HX (K:HD)(w:N6)(mg:Str->Option Nd)(kvs:List (Str×Str)):R2:=λx y H Q=>∃ a n D,x=.ref D/\y=.str a/\tP K w mg D kvs/\kvs.lookup a=some n/\∀ f,mg n=some (.ref f)->Q (.ref f) H
theorem G_ (hK:X.K=K)(hw:X.w=w):DY X (HX K w mg kvs):=by
 subst hK hw;intro value slice pins s σ H x y v u Q I rx ry h hs;obtain⟨a,n,D,rfl,rfl,T,hl,q⟩:=h;obtain⟨t,rfl⟩:=ry;cases rx;obtain⟨es,hm,hf⟩:=Ah (prog:=X.prog) I.kIn T;have z:=hf a;rw[hl] at z;obtain⟨f,z,g⟩:=z;exact tail_any hm.typeIs slot_dict_getitem.lookup (wpAny_getItem_of (strKind_is X.prog X.w a t) hm z ⟨.ref f,H,I.tok _,rfl,q f g⟩) hs
end
def iX:List String:=["NoneType","bool","int","str","list","tuple","dict"]
def MD (K:HD)(x:Str):Bool:=(mQ K x).any λC=>NV K (.ref C) "__class__"==some (some (.builtin "object.__class__"))&&R1 K (.builtin "object.__class__") "__get__"==some (some (.builtin "getset_descriptor.__get__")) &&
 S8 K (.builtin "object.__class__")==some true&&RF K C (.type "object")==some true&&iX.all λT=>O4 K (.type T) (.ref C)==some false
def Mr (K:HD)(x:Str):List V->Hp->VK->Prop:=λxs H Q=>∃ v C,xs=[v,.ref C]/\cR K x C/\((∃ a dx fs,v=.ref a/\H a=some (.ins C dx fs)/\Q (.bl true) H)\/∃ T,Ty K H v T/\T∈iX/\Q (.bl false) H)
theorem Ld {X:Cx}{K:HD}{x:Str}{fs0:List Str}(hK:X.K=K)(hc:lq K x fs0=true)(hi:MD K x=true):cq X (.builtin "isinstance") (Mr K x):=by
 subst hK;intro pins s σ H xs us Q I r h;obtain⟨v,C,rfl,hC,h⟩:=h;obtain⟨u,w,rfl,rx,rw'⟩:=jW r;cases(show w=NN C from rw');obtain⟨D,cf⟩:=lL hc;cases cL hC cf.at_;obtain⟨E,e,q⟩:=eV hi;rw[gj hC] at e;cases e;simp only[NO,OH,Og] at q;obtain⟨⟨⟨⟨q1,q2⟩,q3⟩,q4⟩,q5⟩:=q;rcases h with ⟨a,dx,fs,rfl,ha,h⟩|⟨T,ty,ht,h⟩
 ·exact nH I rx (.ins ha cf.cls q1 q2 q3 q4) (by unfold O4;rw[NZ (Re _)]) λtk=>⟨.bl true,H,I.tok tk,rfl,h⟩
 ·exact nH I rx ty (q5 T ht) λtk=>⟨.bl false,H,I.tok tk,rfl,h⟩
theorem AB {K:HD}{x:Str}{fs:List Str}(h:lq K x fs=true):∃ C,cR K x C:=by
 obtain⟨C,cf⟩:=lL h;exact⟨C,cf.at_⟩
theorem Dm:Kg d∈iX:=by cases d<;>simp[Kg,iX]
abbrev dN (h:OZ)(T:Nn)(a b c:Nd):Prop:=h.get? T=some { cls:=.type "tuple",data:=.seq #[a,b,c] }
structure Iu (b1 b2 b3:Bool)(h:OZ)(z ti to j1 j2 j3 q1 q2 q3:Nn)(f0:Nd)(k:Nat)(xs ys zs:Array Nd):Prop where
 zp:TZ h z ti to f0
 pi:dN h ti (.ref j1) (.ref j2) (.ref j3)
 po:∃ a b c,dN h to a b c
 s1:lQ b1 h j1 q1 k xs
 s2:lQ b2 h j2 q2 k ys
 s3:lQ b3 h j3 q3 k zs
structure FH (z ti to j1 j2 j3 q1 q2 q3:Nn):Prop where
 a1:ti≠z
 a2:to≠z
 a3:j1≠z
 a4:j2≠z
 a5:j3≠z
 t1:ti≠to
 t2:ti≠j1
 t3:ti≠j2
 t4:ti≠j3
 u1:to≠j1
 u2:to≠j2
 u3:to≠j3
 v1:j1≠j2
 v2:j1≠j3
 v3:j2≠j3
 p1:q1≠z/\q1≠to/\q1≠j2/\q1≠j3
 p2:q2≠z/\q2≠to/\q2≠j1/\q2≠j3
 p3:q3≠z/\q3≠to/\q3≠j1/\q3≠j2
section
variable {prog:ND}{w:N6}{A:Oa}{E:Nd->Nh->Prop}{s:Nh}
theorem yq {k:Nat} (hT:dN s.heap T a b c)
  (h:∀ g,g.get? T=some { cls:=.type "tuple",data:=.seq ((#[a,b,c]:Array Nd).setIfInBounds k x) }->OL T s.heap g->Q () { s with heap:=g }):Nu (NI prog w) A (updateSeq T (·.setIfInBounds k x)) Q E s:=by
 refine Tf hT rfl (h _ ?_ (Ol ..));rw[OM _ hT rfl];simp[Oz]
theorem Jp {k:Nat} (D:FH z ti to j1 j2 j3 q1 q2 q3) (Z:Iu b1 b2 b3 s.heap z ti to j1 j2 j3 q1 q2 q3 .none k xs ys zs)
  (hx:xs[k]?=some x)(hy:ys[k]?=some y)(hv:zs[k]?=some v)
  (fin:∀ g,Iu b1 b2 b3 g z ti to j1 j2 j3 q1 q2 q3 (RL s.heap.objs.size) (k+1) xs ys zs->dN g s.heap.objs.size x y v->(∀ c o,c≠z->c≠to->c≠j1->c≠j2->c≠j3->s.heap.get? c=some o->g.get? c=some o)->Q (some (.ref s.heap.objs.size)) { s with heap:=g }):
  Nu (NI prog w) A (Q1 (.ref z)) Q E s:=by
 obtain⟨hz,hi,⟨pa,pb,pc,ho⟩,hs1,hs2,hs3⟩:=Z;have ht:s.TypeIs (.ref z) "zip":=⟨_,hz,rfl⟩
 unfold Q1;refine KE (Pm (N2 (name:=Oo "__next__") ht P2 (Oj P2 ht Sv ?_ (RV _))));show Nu _ _ (field (.ref z) 2>>=_) _ _ s;refine KE (N_ hz rfl (x:=.bool false) rfl ?_);show Nu _ _ (field (.ref z) 3>>=_) _ _ s;refine KE (N_ hz rfl (x:=.ref ti) rfl ?_);refine KE (Of hi rfl ?_);show Nu _ _ (NX (.ref z)>>=_) _ _ s;refine KE ?_;unfold NX;refine KE (N_ hz rfl (x:=.none) rfl (Nc ?_));simp only[PD];refine KE (Qs (KE (N_ hz rfl (x:=.ref to) rfl ?_)));refine KE (N3 hz (by simp) λg1 z1 e1=>?_);have z1:TZ g1 z ti to .ellipsis:=z1;refine KE ?_;simp only[Sy,SX,Rv,R_];refine KE (KE (QC ?_));show Nu _ _ (NT (.ref j1)>>=_) _ _ { s with heap:=g1 };refine KE ((hs1.ext e1.extBut D.a3 D.p1.1).next hx λg2 i2 e2=>Nc ?_);have o2:dN g2 to pa pb pc:=e2.extBut _ _ D.u1 (e1.extBut _ _ D.a2 ho);refine KE (Of o2 rfl (KE (yq o2 λg3 o3 e3=>?_)));have o3:dN g3 to x pb pc:=o3;refine KE (PH (Nc ?_));refine KE (KE (QC ?_));show Nu _ _ (NT (.ref j2)>>=_) _ _ { s with heap:=g3 };refine KE ((((hs2.ext e1.extBut D.a4 D.p2.1).ext e2.extBut D.v1.symm D.p2.2.2.1).ext e3.extBut D.u2.symm D.p2.2.1).next hy λg4 i4 e4=>Nc ?_);have o4:dN g4 to x pb pc:=e4.extBut _ _ D.u2 o3;refine KE (Of o4 rfl (KE (yq o4 λg5 o5 e5=>?_)));have o5:dN g5 to x y pc:=o5;refine KE (PH (Nc ?_));refine KE (KE (QC ?_));show Nu _ _ (NT (.ref j3)>>=_) _ _ { s with heap:=g5 };refine KE ((((((hs3.ext e1.extBut D.a5 D.p3.1).ext e2.extBut D.v2.symm D.p3.2.2.1).ext e3.extBut D.u3.symm D.p3.2.1).ext e4.extBut D.v3.symm D.p3.2.2.2).ext e5.extBut D.u3.symm D.p3.2.1).next hv λg6 i6 e6=>Nc ?_);have o6:dN g6 to x y pc:=e6.extBut _ _ D.u3 o5;refine KE (Of o6 rfl (KE (yq o6 λg7 o7 e7=>?_)));have o7:dN g7 to x y v:=o7;refine KE (PH (Nc (Nc ?_)));refine KE (Of o7 rfl (KE (TW ?_)));have sz:g7.objs.size=s.heap.objs.size:=by rw[e7.1,e6.1,e5.1,e4.1,e3.1,e2.1,e1.1]
 have z7:TZ g7 z ti to .ellipsis:=e7.extBut _ _ D.a2.symm (e6.extBut _ _ D.a5.symm (e5.extBut _ _ D.a2.symm (e4.extBut _ _ D.a4.symm (e3.extBut _ _ D.a2.symm (e2.extBut _ _ D.a3.symm z1)))));have k7:∀ c o,c≠z->c≠to->c≠j1->c≠j2->c≠j3->s.heap.get? c=some o->g7.get? c=some o:=λc o n1 n2 n3 n4 n5 e=>
  e7.extBut _ _ n2 (e6.extBut _ _ n5 (e5.extBut _ _ n2 (e4.extBut _ _ n4 (e3.extBut _ _ n2 (e2.extBut _ _ n3 (e1.extBut _ _ n1 e))))))
 have w1:lQ b1 g7 j1 q1 (k+1) xs:=((((i2.ext e3.extBut D.u1.symm D.p1.2.1).ext e4.extBut D.v1 D.p1.2.2.1).ext e5.extBut D.u1.symm D.p1.2.1).ext e6.extBut D.v2 D.p1.2.2.2).ext e7.extBut D.u1.symm D.p1.2.1;have w2:lQ b2 g7 j2 q2 (k+1) ys:=((i4.ext e5.extBut D.u2.symm D.p2.2.1).ext e6.extBut D.v3 D.p2.2.2.2).ext e7.extBut D.u2.symm D.p2.2.1;have w3:lQ b3 g7 j3 q3 (k+1) zs:=i6.ext e7.extBut D.u3.symm D.p3.2.1;have lz:z<g7.objs.size:=Nf z7;show Nu _ _ (O1 (.ref z) (.ref g7.objs.size)>>=_) _ _ _;refine KE ?_;unfold O1;have z8:TZ (g7.push { cls:=.type "tuple",data:=.seq #[x,y,v] }) z ti to .ellipsis:=Na _ z7;refine KE (N3 z8 (by simp) λg9 z9 e9=>?_);have z9:TZ g9 z ti to (RL g7.objs.size):=z9;refine N3 z9 (by simp) λg10 z10 e10=>?_
 have z10:TZ g10 z ti to (RL g7.objs.size):=z10;have up:∀ c o,c≠z->g7.get? c=some o->g10.get? c=some o:=λc o n e=>e10.extBut _ _ n (e9.extBut _ _ n (Na _ e))
 have t10:dN g10 g7.objs.size x y v:=e10.extBut _ _ (O8 lz) (e9.extBut _ _ (O8 lz) (Ng _ rfl));rw[sz] at z10 t10;refine Nc ⟨_,rfl,Nc ?_⟩;show Q (some (.ref g7.objs.size)) _;rw[sz];exact fin g10 ⟨z10,up _ _ D.a1 (k7 _ _ D.a1 D.t1 D.t2 D.t3 D.t4 hi),⟨x,y,v,up _ _ D.a2 o7⟩,w1.keep (λo e=>up _ o D.a3 e) (λo e=>up _ o D.p1.1 e),w2.keep (λo e=>up _ o D.a4 e) (λo e=>up _ o D.p2.1 e),w3.keep (λo e=>up _ o D.a5 e) (λo e=>up _ o D.p3.1 e)⟩ t10
  λc o n1 n2 n3 n4 n5 e=>up c o n1 (k7 c o n1 n2 n3 n4 n5 e)
theorem Hh {k:Nat} (hh:A.handled=none) (D:FH z ti to j1 j2 j3 q1 q2 q3) (Z:Iu b1 b2 b3 s.heap z ti to j1 j2 j3 q1 q2 q3 .none k xs ys zs) (hv:xs[k]?=none)
  (fin:∀ g,(∀ c o,c≠z->c≠to->c≠j1->c≠j2->c≠j3->s.heap.get? c=some o->g.get? c=some o)->Q none { s with heap:=g }):Nu (NI prog w) A (Q1 (.ref z)) Q E s:=by
 obtain⟨hz,hi,⟨pa,pb,pc,ho⟩,hs1,hs2,hs3⟩:=Z;have ht:s.TypeIs (.ref z) "zip":=⟨_,hz,rfl⟩
 unfold Q1;refine KE (Pm (N2 (name:=Oo "__next__") ht P2 (Oj P2 ht Sv ?_ (RV _))));show Nu _ _ (field (.ref z) 2>>=_) _ _ s;refine KE (N_ hz rfl (x:=.bool false) rfl ?_);show Nu _ _ (field (.ref z) 3>>=_) _ _ s;refine KE (N_ hz rfl (x:=.ref ti) rfl ?_);refine KE (Of hi rfl ?_);show Nu _ _ (NX (.ref z)>>=_) _ _ s;refine KE ?_;unfold NX;refine KE (N_ hz rfl (x:=.none) rfl (Nc ?_));simp only[PD];refine KE (Qs (KE (N_ hz rfl (x:=.ref to) rfl ?_)));refine KE (N3 hz (by simp) λg1 z1 e1=>?_);have z1:TZ g1 z ti to .ellipsis:=z1;refine KE ?_;simp only[Sy,SX,Rv,R_];refine KE (KE (QC ?_));show Nu _ _ (NT (.ref j1)>>=_) _ _ { s with heap:=g1 };refine KE ((hs1.ext e1.extBut D.a3 D.p1.1).stops hh hv λg2 e e2 he=>?_);obtain⟨oe,m1,m2⟩:=he;have z2:TZ g2 z ti to .ellipsis:=e2 _ _ D.a3.symm z1;have ne:e≠z:=λc=>by subst c;rw[z2] at m1;cases m1;simp at m2
 refine N3 z2 (by simp) λg3 _ e3=>?_
 exact KE (PF (T:="StopIteration") (b:=true) ⟨oe,e3.extBut _ _ ne m1,m2⟩ TM (Nc (fin g3 λc o n1 _ n3 _ _ u=>e3.extBut _ _ n1 (e2 _ _ n3 (e1.extBut _ _ n1 u)))))
end
def Ir (K:HD)(b1 b2 b3:Bool)(q1 q2 q3:Nn):It:=
 ⟨λi H=>∃ xs ys zs x y z,bX K H q1 xs b1/\bX K H q2 ys b2/\bX K H q3 zs b3/\xs[i]?=some x/\ys[i]?=some y/\zs[i]?=some z,
  λi H v H'=>∃ x y z T,(∀ xs,bX K H q1 xs b1->xs[i]?=some x)/\(∀ ys,bX K H q2 ys b2->ys[i]?=some y)/\(∀ zs,bX K H q3 zs b3->zs[i]?=some z)/\H T=none/\v=.ref T/\H'=upd H T (.tup [x,y,z]),
  λi H=>∃ xs ys zs,bX K H q1 xs b1/\bX K H q2 ys b2/\bX K H q3 zs b3/\xs.length<=i⟩
def JY (z ti to j1 j2 j3 q1 q2 q3:Nn)(b1 b2 b3:Bool)(k:Nat)(h:OZ):Prop:=TZ h z ti to .none/\dN h ti (.ref j1) (.ref j2) (.ref j3)/\(∃ a b c,dN h to a b c)/\vy h j1 q1 k b1/\vy h j2 q2 k b2/\vy h j3 q3 k b3
structure MW (z ti to j1 j2 j3:Nn):Prop where
 a1:ti≠z
 a2:to≠z
 a3:j1≠z
 a4:j2≠z
 a5:j3≠z
 t1:ti≠to
 t2:ti≠j1
 t3:ti≠j2
 t4:ti≠j3
 u1:to≠j1
 u2:to≠j2
 u3:to≠j3
 v1:j1≠j2
 v2:j1≠j3
 v3:j2≠j3
section
variable {X:Cx}{pins:List (Nn×Obj)}{σ:L2.St}{H:Hp}{s:Nh}
theorem c9 (I:aD X pins σ H s)(hq:bX X.K H q zs b)(h:∃ o ws,s.heap.get? b'=some o/\o.data=.fields ws):q≠b':=λn=>by
 obtain⟨o,ws,e,d⟩:=h;obtain⟨o',its,nn,e',d'⟩:=nk I hq;rw[n,e] at e';cases e';rw[d] at d';cases d'
theorem nF (I:aD X pins σ H s)(hq:bX X.K H q zs b)(ho:s.heap.get? to=some { cls:=.type "tuple",data:=.seq vs })(f:l4 X pins H to):q≠to:=λn=>by
 cases b with
 |true=>
  obtain⟨its,_,⟨o',nn,e',cc,_,d'⟩,_⟩:=I.list hq;rw[n,ho] at e';cases e';simp at cc
 |false=>
  rcases hq with (hq|⟨o',hq⟩)|⟨o',its,nn,kk,_⟩
  ·rw[n,f.1] at hq;cases hq
  ·rw[n,f.1] at hq;cases hq
  ·have bb:=I.mod.kin q o' kk;rw[n] at bb;rcases f.2.2.2.1 with e|e
   ·exact I.ok.noex to o' bb e
   ·exact absurd (Nx (Nf bb) (NP I.ok.bsz e)) (N0 _)
theorem qM {fp:List Nn}{g:OZ}(I:aD X pins σ H s)(hf:∀ b∈fp,l4 X pins H b)(k2:∀ b o,b∉fp->s.heap.get? b=some o->g.get? b=some o):aD X pins σ H { s with heap:=g }:=by
 have nfp:∀ b u',H b=some u'->b∉fp:=λb u' e hb=>by rw[(hf b hb).1] at e;cases e
 refine I.step (g':=s.gens) (d':=s.drawn) (t':=s.toks) (ch:=fp) (λb hb=>?_) (λb o _ _ hb e _=>k2 b o hb e) (λb o _ _ hb e _=>⟨o.slots,k2 b o hb e⟩) (λ_ _ _ _ n=>n) (λb o hb e=>⟨o,k2 b o hb e⟩) (λ_ _ e=>e) (λ_ _ _ e=>e)
  (λb ps e=>⟨#[],by rw[e];simp⟩) (λm hm=>?_) (λb u' e=>?_) I.bare
 ·obtain⟨_,g1,_,g3,g4,g5⟩:=hf b hb;exact⟨g3,g1,g4,g5⟩
 ·obtain⟨o,es,ep,ho',r'⟩:=hm;exact⟨o,es,ep,k2 _ o (λn=>(hf _ n).2.1 rfl) ho',r'⟩
 ·refine(I.hok b u' e).stay (λc' v' hc' q=>k2 c' v' ?_ q) (λ_ q=>q) λ_ _ q=>q
  rcases hc' with rfl|hc'
  ·exact nfp _ _ e
  ·exact nfp _ _ hc'
end
theorem Ln (h:x∉[a,b,c,d,e,f]):x≠a/\x≠b/\x≠c/\x≠d/\x≠e/\x≠f:=by
 simp only[Nl,NH,OY,not_or] at h;exact h
theorem BA {P:ND}{w:N6}{K:HD}{elts:List Po}{tk:Nat}{pos:Pos}{z ti to j1 j2 j3 q1 q2 q3:Nn}{b1 b2 b3:Bool} (D:MW z ti to j1 j2 j3) :
  ug P w K (.Tuple elts tk pos) (Ir K b1 b2 b3 q1 q2 q3) [z,ti,to,j1,j2,j3] z (JY z ti to j1 j2 j3 q1 q2 q3 b1 b2 b3) where
 mem:=by simp
 obj:=λi h st b hb=>by
  obtain⟨h1,h2,⟨a,c,d,h3⟩,h4,h5,h6⟩:=st;have fld:∀ {j q:Nn}{b:Bool},vy h j q i b->∃ o,h.get? j=some o/\∀ v,o.data≠.cell v:=λt=>by
   obtain⟨o,vs,e,d⟩:=t.fields;exact⟨o,e,λv u=>by rw[d] at u;cases u⟩
  simp only[Nl,NH,OY] at hb;rcases hb with rfl|rfl|rfl|rfl|rfl|rfl
  ·exact⟨_,h1,λv e=>nomatch e⟩
  ·exact⟨_,h2,λv e=>nomatch e⟩
  ·exact⟨_,h3,λv e=>nomatch e⟩
  ·exact fld h4
  ·exact fld h5
  ·exact fld h6
 keep:=λi h h' st k=>by
  obtain⟨h1,h2,⟨a,c,d,h3⟩,h4,h5,h6⟩:=st;exact⟨k z (by simp) _ h1,k ti (by simp) _ h2,⟨a,c,d,k to (by simp) _ h3⟩,h4.keep λo e=>k j1 (by simp) o e,h5.keep λo e=>k j2 (by simp) o e,h6.keep λo e=>k j3 (by simp) o e⟩
 item:=by
  intro X hP hw hK hc i pins s σ H E I hf st hg;subst hP hw hK;obtain⟨xs,ys,zs,x,y,v,hq1,hq2,hq3,hx,hy,hv⟩:=hg;obtain⟨hz,hi,⟨a,c,d,ho⟩,t1,t2,t3⟩:=st;obtain⟨us,r1,s1⟩:=fh I hq1 t1;obtain⟨vs,r2,s2⟩:=fh I hq2 t2;obtain⟨ws,r3,s3⟩:=fh I hq3 t3;obtain⟨u,eu,ru⟩:=r1.get hx;obtain⟨u2,eu2,ru2⟩:=r2.get hy;obtain⟨u3,eu3,ru3⟩:=r3.get hv;have zf:∃ o ws,s.heap.get? z=some o/\o.data=.fields ws:=⟨_,_,hz,rfl⟩
  have ft:=hf to (by simp);have AP:FH z ti to j1 j2 j3 q1 q2 q3:=⟨D.a1,D.a2,D.a3,D.a4,D.a5,D.t1,D.t2,D.t3,D.t4,D.u1,D.u2,D.u3,D.v1,D.v2,D.v3,
   ⟨c9 I hq1 zf,nF I hq1 ho ft,c9 I hq1 t2.fields,c9 I hq1 t3.fields⟩,⟨c9 I hq2 zf,nF I hq2 ho ft,c9 I hq2 t1.fields,c9 I hq2 t3.fields⟩,⟨c9 I hq3 zf,nF I hq3 ho ft,c9 I hq3 t1.fields,c9 I hq3 t2.fields⟩⟩
  refine Jp AP ⟨hz,hi,⟨a,c,d,ho⟩,s1,s2,s3⟩ (x:=u) (y:=u2) (v:=u3) (by simpa using eu) (by simpa using eu2) (by simpa using eu3) λg Z hp kk=>⟨_,rfl,?_⟩
  refine TV Z.zp λg' z' sb=>?_
  have tz:s.heap.objs.size≠z:=O8 (Nf hz);have lt:∀ b∈[z,ti,to,j1,j2,j3],b<s.heap.objs.size:=λb hb=>by
   have fld:∀ {j q:Nn}{b:Bool},vy s.heap j q i b->j<s.heap.objs.size:=λt=>by
    obtain⟨o,vs,e,d⟩:=t.fields;exact Nf e
   simp only[Nl,NH,OY] at hb;rcases hb with rfl|rfl|rfl|rfl|rfl|rfl
   ·exact Nf hz
   ·exact Nf hi
   ·exact Nf ho
   ·exact fld t1
   ·exact fld t2
   ·exact fld t3
  have fp0:∀ b∈[z,ti,to,j1,j2,j3],b≠s.heap.objs.size:=λb hb=>NA (lt b hb)
  have k2:∀ b o,b∉[z,ti,to,j1,j2,j3]->s.heap.get? b=some o->g'.get? b=some o:=λb o hb e=>by
   obtain⟨n1,n2,n3,n4,n5,n6⟩:=Ln hb;exact sb.extBut b o n1 (kk b o n1 n3 n4 n5 n6 e)
  have I1:aD X pins σ H { s with heap:=g' }:=qM I hf k2;have hT:g'.get? s.heap.objs.size=some { cls:=.type "tuple",data:=.seq #[u,u2,u3] }:=sb.extBut _ _ tz hp;have fT:H s.heap.objs.size=none:=I.hok.fresh (Nj _);have F:=I.fpOk (b:=s.heap.objs.size) (H':=H) (Nj _) fT;have I2:aD X pins σ (upd H s.heap.objs.size (.tup [x,y,v])) { s with heap:=g' }:=kr I1 fT I.sz F.2.1 F.2.2.2.2.1 F.2.2.2.2.2 ⟨by show 3<=Nv;decide,[u,u2,u3],.cons ru (.cons ru2 (.cons ru3 .nil)),⟨_,hT,rfl,_,rfl⟩⟩;have cl:∀ {j q:Nn}{b:Bool}{its:Array Nd},lQ b g j q (i+1) its->j≠z->vy g' j q (i+1) b:=λ{j q b its} x n=>(zr x).keep λo e=>sb.extBut _ _ n e
  exact⟨.ref s.heap.objs.size,_,I2,rfl,⟨x,y,v,s.heap.objs.size,λxs' h'=>by rw[mT I h' hq1];exact hx,λys' h'=>by rw[mT I h' hq2];exact hy,λzs' h'=>by rw[mT I h' hq3];exact hv,fT,rfl,rfl⟩,
   ⟨z',sb.extBut _ _ D.a1 Z.pi,(let ⟨a',b',c',e'⟩:=Z.po;⟨a',b',c',sb.extBut _ _ D.a2 e'⟩),cl Z.s1 D.a3,cl Z.s2 D.a4,cl Z.s3 D.a5⟩,λb hb=>by rw[az (fp0 b hb)];exact(hf b hb).1⟩
 done:=by
  intro X hP hw hK hc i pins s σ H E I hf st hg;subst hP hw hK;obtain⟨xs,ys,zs,hq1,hq2,hq3,hl⟩:=hg;obtain⟨hz,hi,⟨a,c,d,ho⟩,t1,t2,t3⟩:=st;obtain⟨us,r1,s1⟩:=fh I hq1 t1;obtain⟨vs,r2,s2⟩:=fh I hq2 t2;obtain⟨ws,r3,s3⟩:=fh I hq3 t3;have l1:=r1.length;have zf:∃ o ws,s.heap.get? z=some o/\o.data=.fields ws:=⟨_,_,hz,rfl⟩
  have ft:=hf to (by simp);have AP:FH z ti to j1 j2 j3 q1 q2 q3:=⟨D.a1,D.a2,D.a3,D.a4,D.a5,D.t1,D.t2,D.t3,D.t4,D.u1,D.u2,D.u3,D.v1,D.v2,D.v3,
   ⟨c9 I hq1 zf,nF I hq1 ho ft,c9 I hq1 t2.fields,c9 I hq1 t3.fields⟩,⟨c9 I hq2 zf,nF I hq2 ho ft,c9 I hq2 t1.fields,c9 I hq2 t3.fields⟩,⟨c9 I hq3 zf,nF I hq3 ho ft,c9 I hq3 t1.fields,c9 I hq3 t2.fields⟩⟩
  refine Hh (I.ok.hd hc) AP ⟨hz,hi,⟨a,c,d,ho⟩,s1,s2,s3⟩ (by simp;lia) λg kk=>⟨rfl,qM I hf λb o hb e=>?_⟩
  obtain⟨n1,n2,n3,n4,n5,n6⟩:=Ln hb;exact kk b o n1 n3 n4 n5 n6 e
 self:=λ_ _ _ _ _ st h=>SB st.1 h
abbrev yA (h:OZ)(q1:Nn):OZ:=h.push (vw q1 false)
abbrev yB (h:OZ)(q1 q2:Nn):OZ:=(yA h q1).push (vw q2 true)
abbrev yC (h:OZ)(q1 q2 q3:Nn):OZ:=(yB h q1 q2).push (vw q3 true)
abbrev yD (h:OZ)(q1 q2 q3:Nn):OZ:=(yC h q1 q2 q3).push { cls:=.type "tuple",data:=.seq #[.ref h.objs.size,.ref (yA h q1).objs.size,.ref (yB h q1 q2).objs.size] }
abbrev yE (h:OZ)(q1 q2 q3:Nn):OZ:=(yD h q1 q2 q3).push { cls:=.type "tuple",data:=.seq #[.none,.none,.none] }
abbrev yF (h:OZ)(q1 q2 q3:Nn):OZ:=(yE h q1 q2 q3).push { cls:=.type "zip",data:=.fields #[.none,.bool false,.bool false,.ref (yC h q1 q2 q3).objs.size,.ref (yD h q1 q2 q3).objs.size] }
theorem Jl (q1 q2 q3:Nn) (xs ys zs:Array Nd):Meets (PN.«zip.__new__» ⟨[.type "zip",.ref q1,.ref q2,.ref q3],[]⟩)
  (λ_ R s=>s.heap.IsTuple q1 xs/\s.heap.IsList q2 ys/\s.heap.IsList q3 zs/\R (.ok (.ret (.ref (yE s.heap q1 q2 q3).objs.size))) { s with heap:=yF s.heap q1 q2 q3 }):=
 .of_wp λprog w A R s h=>by
  obtain⟨hp,g,d,tk,os⟩:=s;obtain⟨h1,h2,h3,h⟩:=h;have hsub:=sub_zip;have k1:Tl (Qh ⟨hp,g,d,tk,os⟩) q1 xs:=h1;have k2:SQ (Qh ⟨hp.push { cls:=.type "tuple_iterator",data:=.fields #[.ref q1,.int 0 0] },g,d,tk,os⟩) q2 ys:=Q9 h2 _;have k3:SQ (Qh ⟨(hp.push { cls:=.type "tuple_iterator",data:=.fields #[.ref q1,.int 0 0] }).push { cls:=.type "list_iterator",data:=.fields #[.ref q2,.int 0 0] },g,d,tk,os⟩) q3 zs:=Q9 (Q9 h3 _) _
  wp_walk using PC k1,OS k2,OS k3
  exact⟨_,rfl,h⟩
namespace ZF
theorem tc3 (a b c:Nd):checkTypeCall "zip" ⟨[a,b,c],[]⟩=pure ():=by kernel_rfl
theorem nc3 (a b c:Nd):UI "zip.__new__" ⟨[.type "zip",a,b,c],[]⟩=pure ():=by kernel_rfl
theorem oi4 (a b c d:Nd):Vs "object.__init__" ⟨[a,b,c,d],[]⟩:=by
 unfold Vs;rw[signature?_of (id:="object.__init__") (n:="__tini__".toList) (o:="tcejbo".toList) (by kernel_rfl) PySem.F.owner_object]
 kernel_rfl
end ZF
section
variable {prog:ND}{w:N6}{A:Oa}{E:Nd->Nh->Prop}{s:Nh}
theorem Jw (h1:s.heap.IsTuple q1 xs) (h2:s.heap.IsList q2 ys) (h3:s.heap.IsList q3 zs)
  (fin:∀ g,TZ g (s.heap.objs.size+5) (s.heap.objs.size+3) (s.heap.objs.size+4) .none->dN g (s.heap.objs.size+3) (.ref s.heap.objs.size) (.ref (s.heap.objs.size+1)) (.ref (s.heap.objs.size+2)) ->
   dN g (s.heap.objs.size+4) .none .none .none->g.get? s.heap.objs.size=some (vw q1 false)->g.get? (s.heap.objs.size+1)=some (vw q2 true)->g.get? (s.heap.objs.size+2)=some (vw q3 true)->(∀ c o,s.heap.get? c=some o->g.get? c=some o)->Q (.ref (s.heap.objs.size+5)) { s with heap:=g }) :
  Nu (NI prog w) A (call (.type "zip") [.ref q1,.ref q2,.ref q3]) Q E s:=by
 refine callType_new F.called_zip (by decide) (ZF.tc3 _ _ _) (ZF.nc3 _ _ _) (λobj=>ZF.oi4 obj _ _ _) F.entry_zip_new (Jl q1 q2 q3 xs ys zs) ⟨h1,h2,h3,?_⟩;have n1:(yA s.heap q1).objs.size=s.heap.objs.size+1:=Oe ..;have n2:(yB s.heap q1 q2).objs.size=s.heap.objs.size+2:=by rw[Oe,n1]
 have n3:(yC s.heap q1 q2 q3).objs.size=s.heap.objs.size+3:=by rw[Oe,n2]
 have n4:(yD s.heap q1 q2 q3).objs.size=s.heap.objs.size+4:=by rw[Oe,n3]
 have n5:(yE s.heap q1 q2 q3).objs.size=s.heap.objs.size+5:=by rw[Oe,n4]
 have m6:(yF s.heap q1 q2 q3).get? (yE s.heap q1 q2 q3).objs.size=some _:=Ng _ rfl;have m5:(yF s.heap q1 q2 q3).get? (yD s.heap q1 q2 q3).objs.size=some _:=Na _ (Ng _ rfl);have m4:(yF s.heap q1 q2 q3).get? (yC s.heap q1 q2 q3).objs.size=some _:=Na _ (Na _ (Ng _ rfl));have m3:(yF s.heap q1 q2 q3).get? (yB s.heap q1 q2).objs.size=some (vw q3 true):=Na _ (Na _ (Na _ (Ng _ rfl)));have m2:(yF s.heap q1 q2 q3).get? (yA s.heap q1).objs.size=some (vw q2 true):=Na _ (Na _ (Na _ (Na _ (Ng _ rfl))));have m1:(yF s.heap q1 q2 q3).get? s.heap.objs.size=some (vw q1 false):=Na _ (Na _ (Na _ (Na _ (Na _ (Ng _ rfl)))));show _/\_;rw[n3,n4,n5] at m6;rw[n1,n2,n3] at m4;rw[n4] at m5;rw[n2] at m3;rw[n1] at m2;rw[n5];exact⟨⟨_,m6,rfl⟩,fin _ m6 m4 m5 m1 m2 m3 λc o x=>Na _ (Na _ (Na _ (Na _ (Na _ (Na _ x)))))⟩
end
section
variable {X:Cx}{K:HD}
theorem EL (r:aM [x,y,z] us):∃ u v w,us=[u,v,w]/\bj x u/\bj y v/\bj z w:=by
 cases r with
 |cons a r=>
  obtain⟨u,v,rfl,b,c⟩:=jW r;exact⟨_,u,v,rfl,a,b,c⟩
def Lx (K:HD)(ta:TA):TI:=λσ H R=>ta σ H λvs H1=>∃ q1 q2 q3,vs=[.ref q1,.ref q2,.ref q3]/\(∃ xs,cW K H1 q1 xs)/\(∃ ys,bI K H1 q2 ys)/\(∃ zs,bI K H1 q3 zs)/\R (Ir K false true true q1 q2 q3) H1
theorem zd (hK:X.K=K) {a b c:Po}{ta:TA}{p pos tpos:Pos}{elts:List Po}{tk:Nat} (hg:Gl X "zip") (hm:X.mg "zip"=none) (ha:WA X [a,b,c] ta) (hs:NG [a,b,c] X.env=(false,QT a X.env) :: NG [b,c] X.env:=by rfl) (hs2:(Q0 pos (NG [b,c] X.env)).any (·.1)=false:=by rfl) :
  WI X (.Tuple elts tk tpos) (.Call (.Name "zip" p) [a,b,c] [] pos) (Lx K ta):=by
 have ha:=ha.go;refine⟨?_⟩;subst hK;intro pins s σ H R I h;refine Call_ (iE I hg hm Do (Pg (bM (ha pos pins s σ H _ I h) λus s1 ⟨vs,H1,I1,r1,q1⟩=>?_) hs hs2));obtain⟨qa,qb,qc,rfl,⟨xs,hx⟩,⟨ys,hy⟩,⟨zs,hz⟩,q⟩:=q1;obtain⟨u,v,w,rfl,ru,rv,rw'⟩:=EL r1;cases ru;cases rv;cases rw';obtain⟨its,_,sa⟩:=kG (b:=false) I1 hx;obtain⟨jts,_,sb⟩:=kG (b:=true) I1 hy;obtain⟨kts,_,sc⟩:=kG (b:=true) I1 hz;refine Jw sa sb sc λg z6 z4 z5 z1 z2 z3 kk=>?_
 refine SB z6 ?_;have io:∀ {j q:Nn}{b:Bool},g.get? j=some (vw q b)->vy g j q 0 b:=λ{j q b} e=>by cases b<;>exact⟨_,e,rfl,rfl⟩
 refine⟨s1.heap.objs.size+5,[s1.heap.objs.size+5,s1.heap.objs.size+3,s1.heap.objs.size+4,s1.heap.objs.size,s1.heap.objs.size+1,s1.heap.objs.size+2],_,_,H1,rfl,I1.kept (t':=s1.toks) kk,
  BA (z:=s1.heap.objs.size+5) (ti:=s1.heap.objs.size+3) (to:=s1.heap.objs.size+4) (j1:=s1.heap.objs.size) (j2:=s1.heap.objs.size+1) (j3:=s1.heap.objs.size+2)
   ⟨o0 (by lia),o0 (by lia),o0 (by lia),o0 (by lia),o0 (by lia),o0 (by lia),o0 (by lia),o0 (by lia),o0 (by lia),o0 (by lia),o0 (by lia),o0 (by lia),o0 (by lia),o0 (by lia),o0 (by lia)⟩,⟨z6,z4,⟨_,_,_,z5⟩,io z1,io z2,io z3⟩,λb hb=>?_,q⟩
 have le:s1.heap.objs.size<=b:=by
  simp only[Nl,NH,OY] at hb;rcases hb with e|e|e|e|e|e<;>(rw[e];lia)
 exact I1.fpOk le (I1.hok.fresh le)
theorem Ei {a1 a2 a3:Nn}{x0 x1 x2 y0 y1 y2 z0 z1 z2:V}{g:TG}{tt:TT}{te:TE}{σ0:L2.St}{Fin:List V->Hp->Prop}{H1:Hp}{es:List NQ} (h1:cW K H1 a1 [x0,x1,x2]) (h2:bI K H1 a2 [y0,y1,y2]) (h3:bI K H1 a3 [z0,z1,z2]) (hes:es.length=3)
  (he:∀ (i:Nat) (e:NQ) (x y z:V) (T:Nn) (H:Hp),es[i]?=some e->[x0,x1,x2][i]?=some x->[y0,y1,y2][i]?=some y->[z0,z1,z2][i]?=some z->ae H1 H->H T=some (.tup [x,y,z])->mG g tt te σ0 (.ref T) H λv H'=>ae H H'/\aw K H' e v)
  (hd:∀ vs H,ae H1 H->av K H es vs->Fin vs H):jj (Ir K false true true a1 a2 a3) g tt te σ0 Fin H1:=by
 have sL:∀ {H H':Hp}{a:Nn}{xs:List V},ae H H'->bI K H a xs->bI K H' a xs:=λe h=>bX.same (b:=true) e h
 refine⟨λi m vs H=>m=3-i/\i<=3/\ae H1 H/\av K H (es.take i) vs,⟨3,rfl,Om _,ae.refl _,.nil⟩,?_⟩;rintro i m vs H ⟨rfl,hi,s,hvs⟩;have hyl:=hvs.length;rw[N8] at hyl
 by_cases hlt:i<3
 ·have g3:∀ (a b c:V),∃ x,[a,b,c][i]?=some x:=λa b c=>⟨_,N7 (show i<[a,b,c].length from hlt)⟩
  obtain⟨x,ex⟩:=g3 x0 x1 x2;obtain⟨y,ey⟩:=g3 y0 y1 y2;obtain⟨z,ez⟩:=g3 z0 z1 z2;refine .inr ⟨⟨_,_,_,x,y,z,jG s h1,sL s h2,sL s h3,ex,ey,ez⟩,bP (by lia),λv H3 k3=>?_⟩;obtain⟨x',y',z',T,k1,k2,k3,kT,rfl,rfl⟩:=k3;cases Nb (ex.symm.trans (k1 _ (jG s h1)));cases Nb (ey.symm.trans (k2 _ (sL s h2)));cases Nb (ez.symm.trans (k3 _ (sL s h3)));have hee:es[i]?=some (es[i]'(by lia)):=N7 (by lia);have sT:ae H (upd H T (.tup [x,y,z])):=ae.new kT;refine he i _ x y z T _ hee ex ey ez (s.trans sT) ai _ (λv H' ⟨s',hv⟩=>⟨3-(i+1),by lia,rfl,hlt,(s.trans sT).trans s',?_⟩) λH5=>∃ m',m'<3-i/\(m'=3-(i+1)/\i+1<=3/\ae H1 H5/\av K H5 (es.take (i+1)) vs)
  rw[bF hee];exact(av.same s' (av.same sT hvs)).snoc hv
 ·have e:i=3:=by lia
  subst e;rw[NR (by lia)] at hvs;exact .inl ⟨⟨_,_,_,jG s h1,sL s h2,sL s h3,Nj _⟩,ce (by lia),hd vs H s hvs⟩
end
namespace ZF
theorem noFillT:fillsNumberSlot (.type "tuple") "mul"=pure false:=PySem.fillsNumberSlot_seq (id:="tuple.__mul__") (r:=some (.builtin "tuple.__rmul__")) RS.lookup (by decide +kernel) Uv.lookup (by decide +kernel)
theorem repT:seqRepeat? (.type "tuple")=pure (some (.builtin "tuple.__mul__")):=by
 unfold seqRepeat?;rw[WN (T:="tuple") (name:="__mul__") (id:="tuple.__mul__") RS.lookup (by decide +kernel)];rw[WN (T:="tuple") (name:="__rmul__") (id:="tuple.__rmul__") Uv.lookup (by decide +kernel)];rfl
theorem rmulT (a:Int) (t:Tok) (l:Nn) (items:Array Nd) (n:Nat) (dd:Option Nn) (sl:Array (Option Nd)) :
  Meets (PN.«int.__rmul__» ⟨[.int a t,.ref l],[]⟩) (λ_ R s=>s.heap.get? l=some ⟨.type "tuple",dd,.seq items n,sl⟩/\R (.ok (.ret Value.notImplemented)) s):=.of_wp λprog w A R s h=>by
 obtain⟨hp,g,d,tk,os⟩:=s;obtain⟨hl,h⟩:=h
 wp_walk
 exact⟨_,rfl,h⟩
theorem mulT3 (t:Tok) (l:Nn) (x:Nd) (n:Nat) (dd:Option Nn) (sl:Array (Option Nd)) :
  Meets (PN.«tuple.__mul__» ⟨[.ref l,.int 3 t],[]⟩) (λ_ R s=>s.heap.get? l=some ⟨.type "tuple",dd,.seq #[x] n,sl⟩/\R (.ok (.ret (.ref s.heap.objs.size))) { s with heap:=s.heap.push { cls:=.type "tuple",data:=.seq #[x,x,x] } }):=.of_wp λprog w A R s h=>by
 obtain⟨hp,g,d,tk,os⟩:=s;obtain⟨hl,h⟩:=h;have f1:=PySem.AutoSeq1.idx_int;have f2:=PySem.AutoSeq1.sub_tuple_tuple
 wp_walk using wpAny_loadPart' hl
 exact⟨_,rfl,h⟩
end ZF
section
variable {X:Cx}
def Kj:R2:=λx y H Q=>∃ a z,x=.ref a/\y=.int 3/\H a=some (.tup [z])/\∀ p,H p=none->Q (.ref p) (upd H p (.tup [z,z,z]))
theorem Gq:j7 X (QW .Mult) Kj:=by
 intro pins s σ H x y v u Q I rx ry h;obtain⟨a,z,rfl,rfl,ha,q⟩:=h;cases rx;obtain⟨t,rfl⟩:=ry;obtain⟨its,r,p1,_⟩:=I.tuple (cW.of (K:=X.K) ha);obtain⟨v,rfl,rv⟩:=fN r;obtain⟨o,e,c,n,d⟩:=p1;obtain⟨oc,dd,od,sl⟩:=o;simp only at c d;subst c d;refine TQ (T:="tuple") (U:="int") (by decide) ⟨_,e,rfl⟩ (λs'=>Vf s' 3 t) ZF.noFillT VH Rq ZF.repT Vw.lookup
  (R6 Rq (Vf s 3 t) Vv (Vj _ _) (ZF.rmulT 3 t a #[v] n dd sl)
   ⟨e,rfl,⟨_,e,rfl⟩,R6 RS ⟨_,e,rfl⟩ PySem.F.entry_tuple_mul (PySem.F.args_tuple_mul_2 _ _) (ZF.mulT3 t a v n dd sl) ⟨e,?_⟩⟩)
 have hf:H s.heap.objs.size=none:=I.hok.fresh (Nj _);refine⟨.ref s.heap.objs.size,upd H s.heap.objs.size (.tup [z,z,z]),I.laid (t':=s.toks) (λb u e=>Na _ e) (Nj _) ?_,rfl,q _ hf⟩;exact⟨by show 3<=Nv;decide,[v,v,v],.cons rv (.cons rv (.cons rv .nil)),⟨_,Ng _ rfl,rfl,_,rfl⟩⟩
end
structure En where
 w:R3
 b:R3
structure En.In (e:En):Prop where
 a0:0<=e.b.a
 a1:e.b.a<e.w.a
 a2:e.w.a<=1000
 b0:0<=e.b.b
 b1:e.b.b<e.w.b
 b2:e.w.b<=1000
 c0:0<=e.b.c
 c1:e.b.c<e.w.c
 c2:e.w.c<=1000
def T3 (K:HD)(H:Hp)(r:R3)(v:V):Prop:=∃ p,v=.ref p/\cW K H p r.vs
theorem Ip (n:Int):rD (n:Rat)=Bf n 1:=by
 show Bf (n:Rat).num ((n:Rat).den:Int)=_;rw[Rat.num_intCast,Rat.den_intCast];rfl
theorem jM (n:Int):((n:Int):Rat)/((1:Int):Rat)=(n:Rat):=by
 have:((1:Int):Rat)=1:=rfl;rw[this];grind
theorem Eb {k:Nat}{n:Int}(h:Sm k n)(hk:0<k):Bq k (n:Rat):=by
 have e:=jM n;rw[<- e];refine fR (by decide) h ?_;unfold Sm;have:=Nat.one_lt_two_pow (n:=k) (by lia)
 simpa using this
theorem KH {n:Int}(h0:-1000<=n)(h:n<=1000):Sm 10 n:=by unfold Sm;lia
def Mi (b w:Int)(q:Rat):Bool:=decide (b*(q.den:Int)<=q.num)&&decide (q.num<=w*(q.den:Int))
def En.has (e:En)(c:Q3):Bool:=Mi e.b.a e.w.a c.a&&(Mi e.b.b e.w.b c.b&&(Mi e.b.c e.w.c c.c&&true))
theorem Cv {n:Int}(h:n≠0):(n:Rat)≠0:=λz=>h (Rat.intCast_eq_zero_iff.mp z)
def R3.col (r:R3):Q3:=⟨(r.a:Rat),(r.b:Rat),(r.c:Rat)⟩
theorem tJ {K:HD}{H:Hp}:∀ ns:List Int,av K H (ns.map P1) (ns.map V.int)
 |[]=>.nil
 |_::ns=>.cons (.int _) (tJ ns)
def KT (K:HD)(a:Nn)(xs:List V):Prop:=∃ (o:Obj) (its:Array Nd) (n:Nat),K.lookup a=some o/\o.cls=.type "tuple"/\o.data=.seq its n/\its.size<=Nv/\aM xs its.toList
theorem KT.sq {K:HD}{H:Hp}{a:Nn}{xs:List V}(h:KT K a xs):cW K H a xs:=.inr h
def dA (K:HD)(H:Hp)(d:NQ)(x:V):Prop:=aw K H d x\/∃ (a:Nn) (ns:List Int),x=.ref a/\d=.tuple (ns.map P1)/\KT K a (ns.map V.int)
theorem dA.same {K:HD}{H H':Hp}{d:NQ}{x:V}(s:ae H H')(h:dA K H d x):dA K H' d x:=by
 rcases h with h|h
 ·exact .inl (aw.same s h)
 ·exact .inr h
theorem De {K:HD}{H:Hp}{d:NQ}{x:V}(h:dA K H d x):(∃ a ds xs,x=.ref a/\d=.tuple ds/\cW K H a xs/\av K H ds xs)\/(aw K H d x/\cS (Kg d) "tuple"=some false/\∀ ds,d≠.tuple ds):=by
 rcases h with h|⟨a,ns,rfl,rfl,h⟩
 ·cases h with
  |tup h q=>exact .inl ⟨_,_,_,rfl,rfl,cW.of h,q⟩
  |non=>exact .inr ⟨.non,(show cS "NoneType" "tuple"=some false by decide +kernel),λ_ z=>nomatch z⟩
  |bl b=>exact .inr ⟨.bl b,(show cS "bool" "tuple"=some false by decide +kernel),λ_ z=>nomatch z⟩
  |int i=>exact .inr ⟨.int i,(show cS "int" "tuple"=some false by decide +kernel),λ_ z=>nomatch z⟩
  |str z=>exact .inr ⟨.str z,(show cS "str" "tuple"=some false by decide +kernel),λ_ z=>nomatch z⟩
  |lst h q=>exact .inr ⟨.lst h q,(show cS "list" "tuple"=some false by decide +kernel),λ_ z=>nomatch z⟩
  |dct h=>exact .inr ⟨.dct h,(show cS "dict" "tuple"=some false by decide +kernel),λ_ z=>nomatch z⟩
 ·exact .inl ⟨a,_,_,rfl,rfl,h.sq,tJ ns⟩
def JP (K:HD):List V->Hp->VK->Prop:=λxs H Q=>HM K xs H Q\/∃ a ys,xs=[.ref a,.ty "tuple"]/\cW K H a ys/\Q (.bl true) H
theorem JA {X:Cx}{K:HD}(hK:X.K=K):cq X (.builtin "isinstance") (JP K):=by
 subst hK;intro pins s σ H xs us Q I r h;rcases h with h|⟨a,ys,rfl,ha,q⟩
 ·exact wP pins s σ H xs us Q I r h
 ·obtain⟨u,v,rfl,ru,rv⟩:=jW r;cases ru;cases(show v=QV "tuple" from rv);obtain⟨its,_,⟨o,h1,h2,_⟩,_⟩:=I.tuple ha;exact U7 VS I.kIn ⟨o,h1,h2⟩ (by rw[q9];show cS "tuple" "tuple"=some true;decide +kernel) (λz=>nomatch z) λtk=>⟨.bl true,H,I.tok tk,rfl,q⟩
theorem CC {s:Nh}{K:HD}{fd:OK}{args:Args}{binds:List (Str × Nd)}{D:Nn}{o:Obj}{part:Option Nd}{kk:Obj->Sem (List (Str × Nd))} (X:K.In s.heap) (e:K.lookup D=some o)
  (h1:OE fd args=Sem.load D part kk)(h2:kk o=pure binds):Vu s fd args binds:=λM A E Q hq=>by
 refine(PySem.W.Looks.of_peek X ?_).here hq;rw[h1];have h2':kk o=Sem.pure binds:=h2;simp only[PySem.W.peek,e,h2']
def xN (n l m:Int):NQ->Bool
 |.tuple ds=>decide ((ds.length:Int)=n)&&(ds.map (rT l m)).all id
 |_=>false
theorem IB {n l m:Int}(h:∀ ds,d≠.tuple ds):xN n l m d=false:=by
 cases d<;>first|rfl|exact absurd rfl (h _)
theorem JQ {X:Cx}{K:HD}(e:X.K=K):Ks X (KR K):=by subst e;exact Jg
end TR
namespace TR
open PySem PySem.Spec PyProof.Rows
def Up (xs:List Nat):Prop:=xs.Pairwise (·<·)
def Tb (led:Bool)(t:SetTable):Prop:=Up t.place.toList/\t.led=led
def met (ns:List Int):List Int:=ns.foldl (λks k=>if k∈ks then ks else ks++[k]) []
open L2
theorem m_:∀ {ns:List Int}{us:List Nd},Ps us ns->aM (ns.map V.int) us:=by
 intro ns us h
 induction h with
 |nil=>exact .nil
 |cons n t _ ih=>exact .cons ⟨t,rfl⟩ ih
theorem qt:∀ {ns:List Int}{us:List Nd},aM (ns.map V.int) us->∃ ps:List (Int×Tok),us=ps.map (λp=>RH p.1 p.2)/\ps.map (·.1)=ns:=by
 intro ns
 induction ns with
 |nil=>intro us r;cases r;exact⟨[],rfl,rfl⟩
 |cons a ns ih=>
  intro us r;cases r with
  |cons h t=>
   obtain⟨k,rfl⟩:=h;obtain⟨ps,rfl,rfl⟩:=ih t;exact⟨(a,k)::ps,rfl,rfl⟩
theorem wc (f:Nat->Int):∀ n,Tc (λi j=>decide (f i>f j)) n<=n/\∀ i,i<=n->f i<=f (Tc (λi j=>decide (f i>f j)) n)
 |0=>⟨Nj _,λi hi=>by cases Nat.le_zero.mp hi;exact WU _⟩
 |n+1=>by
  obtain⟨h1,h2⟩:=wc f n;simp only[Tc]
  by_cases c:f (n+1)>f (Tc (λi j=>decide (f i>f j)) n)
  ·rw[NZ (Nq c)];refine⟨Nj _,λi hi=>?_⟩;rcases Ww n i with h|h
   ·have:i=n+1:=by lia
    subst this;exact WU _
   ·have:=h2 i h;lia
  ·rw[NS (λz=>c (Os z))];refine⟨by lia,λi hi=>?_⟩;rcases Ww n i with h|h
   ·have:i=n+1:=by lia
    subst this;lia
   ·exact h2 i h
theorem nW {ps:List (Int×Tok)}{i:Nat}{p:Int×Tok}(h:ps[i]?=some p):Wj ps.toArray i=p.1:=by
 unfold Wj;rw[U0,h];rfl
theorem xJ (ps:List (Int×Tok)):(ps.map λp=>RH p.1 p.2).toArray=Tw ps.toArray:=by
 unfold Tw;simp
theorem Iq {ps:List (Int×Tok)}{x:Int}(h:x∈ps.map (·.1)):∃ i,i<=ps.toArray.size-1/\Wj ps.toArray i=x:=by
 obtain⟨p,hp,rfl⟩:=Ov.mp h;obtain⟨i,hi,rfl⟩:=SU hp;exact⟨i,by simp;lia,nW (by simp[hi])⟩
theorem Jx {ps:List (Int×Tok)}{i:Nat}{v:Nd}(h:(Tw ps.toArray)[i]?=some v):∃ t,v=.int (Wj ps.toArray i) t/\Wj ps.toArray i∈ps.map (·.1):=by
 obtain⟨t,rfl⟩:=intItems_at h;refine⟨t,rfl,?_⟩;simp only[Tw,Array.getElem?_map,Nz] at h;obtain⟨p,hp,e⟩:=h;rw[U0] at hp;rw[nW hp];exact Ov.mpr ⟨p,NJ hp,rfl⟩
section
variable {X:Cx}{K:HD}
def M0:J7:=λx y H Q=>∃ i j,x=.int i/\y=.int j/\tT i j/\Q (.int (i*j)) H
theorem Cj:LJ X .Mult M0:=by
 intro pins s σ H x y v u Q I r1 r2 h;obtain⟨i,j,e1,e2,hc,q⟩:=h;subst e1;subst e2;obtain⟨t,rfl⟩:=r1;obtain⟨t',rfl⟩:=r2;refine imul_int ⟨.int _,H,I.tok _,⟨_,rfl⟩,q⟩ ?_;rcases hc with ⟨h1,h2⟩|h1
 ·exact UD (NP h1.bits (by decide)) (NP h2.bits (by decide))
 ·exact WH h1.bits
end
theorem zh {rs:List Rat}{i:Nat}{d:NQ}(h:(rs.map rD)[i]?=some d):∃ q,rs[i]?=some q/\d=rD q:=by
 rw[NB,Nz] at h;obtain⟨q,e,rfl⟩:=h;exact⟨q,e,rfl⟩
def cM (rs:List Rat):Int:=rs.foldl (λn r=>n*(r.den:Int)) 1
theorem rl (rs:List Rat)(q:Rat):cM (rs++[q])=cM rs*(q.den:Int):=by unfold cM;rw[T4];rfl
theorem gm {b:Nat}{rs:List Rat}(h:∀ r∈rs,Bq b r):∀ n,n<=rs.length->0<cM (rs.take n)/\Sm (n*b+1) (cM (rs.take n))
 |0,_=>by
  show 0<(1:Int)/\Sm _ (1:Int);exact⟨by decide,by unfold Sm;simp⟩
 |n+1,hn=>by
  have hg:rs[n]?=some rs[n]:=by simp[show n<rs.length by lia]
  rw[bF hg,rl];obtain⟨h1,h2⟩:=gm h n (by lia);have k:=h _ (Sx (show n<rs.length by lia));refine⟨Int.mul_pos h1 k.pos,(h2.mul k.sd).mono (by rw[Ts];lia)⟩
theorem tI {r:Rat}(h:r∈rs):(r.den:Int)∣cM rs:=by
 have go:∀ (rs:List Rat) (n:Int),n∣rs.foldl (λn r=>n*(r.den:Int)) n:=by
  intro rs
  induction rs with
  |nil=>intro n;exact Int.dvd_refl _
  |cons a rs ih=>intro n;exact Int.dvd_trans ⟨_,rfl⟩ (ih _)
 have go2:∀ (rs:List Rat) (n:Int),r∈rs->(r.den:Int)∣rs.foldl (λn r=>n*(r.den:Int)) n:=by
  intro rs
  induction rs with
  |nil=>intro n h;cases h
  |cons a rs ih=>
   intro n h;rcases Nl.mp h with rfl|h
   ·exact Int.dvd_trans (Int.dvd_mul_left _ _) (go _ _)
   ·exact ih _ h
 exact go2 _ _ h
def ov (B:Int)(r:Rat):Int:=r.num*(B/(r.den:Int))
theorem mM {B:Int}{r:Rat}(h:(r.den:Int)∣B):((ov B r:Int):Rat)=r*(B:Rat):=by
 obtain⟨k,rfl⟩:=h;have hd:(r.den:Int)≠0:=by have:=r.den_nz;lia
 unfold ov;rw[Int.mul_ediv_cancel_left _ hd,N9,N9];have h1:=oi r;have e1:=lU r;grind
theorem DX {b:Nat}{rs:List Rat}{r:Rat}(h:∀ r∈rs,Bq b r)(hr:r∈rs):Sm (rs.length*b+b+1) (ov (cM rs) r):=by
 obtain⟨h1,h2⟩:=gm h rs.length (Nj _);rw[Ra] at h1 h2;have k:=h r hr;refine(k.sn.mul (j:=rs.length*b+1) ?_).mono (by lia);have hd:0<(r.den:Int):=k.pos;have e1:cM rs/(r.den:Int)<=cM rs:=Int.ediv_le_self _ (by lia);have e2:0<=cM rs/(r.den:Int):=UX (by lia) (by lia);unfold Sm at h2 ⊢;lia
theorem Dc {X:Cx}{K:HD}(e:X.K=K):j7 X (QW .Add) (GL K):=by subst e;exact FW
def sw (p:Pt):Pt:=(p.2,p.1)
structure K2 (K:HD)(ps:List Pt)(H:Hp)(t r:Nn)(v:V):Prop where
 tw:cE H t r
 cv:Ml K (cut [t,r] H) ps v
def HB (k:Nat)(d:NQ):Prop:=∀ ds,d=.tuple ds->ds.length<=1000/\∀ q,rD q∈ds->Bq k q
theorem oV (ps:List (Int×Tok)):∀ n,n<=ps.length->preSum (Wj ps.toArray) n=((ps.take n).map (·.1)).sum
 |0,_=>rfl
 |n+1,h=>by
  have e:ps[n]?=some ps[n]:=N7 (by lia);rw[bF e,Ot,List.sum_append];show preSum (Wj ps.toArray) n+Wj ps.toArray n=_;rw[oV ps n (by lia),nW e];simp
section
variable {X:Cx}{K:HD}
def GX (K:HD):List V->Hp->VK->Prop:=λxs H Q=>∃ (p:Nn) (ns:List Int),xs=[.ref p]/\bI K H p (ns.map V.int)/\Q (.int ns.sum) H
theorem BC (hc:X.calm=true):cq X (.builtin "sum") (GX X.K):=by
 intro pins s σ H xs us Q I r h;obtain⟨p,ns,rfl,hp,q⟩:=h;obtain⟨u,rfl,ru⟩:=fN r;cases ru;obtain⟨its,rv,pl,hz⟩:=I.list hp;obtain⟨ps,rfl,rfl⟩:=qt rv;have hl:=pl.isList;rw[xJ] at hl;refine sum_intListG (I.ok.hd hc) hl λh' tk t' kk=>?_
 have I1:aD X pins σ H { s with heap:=h',toks:=tk }:=I.kept kk;refine⟨.int _,H,I1,⟨t',rfl⟩,?_⟩;rw[No,oV ps _ (Nj _),Ra];exact q
theorem uF (e:X.K=K)(hc:X.calm=true):cq X (.builtin "sum") (GX K):=by subst e;exact BC hc
end
abbrev IS (X:Cx)(o:Po)(m:Str)(args:List Po)(kws:List TH)(pl:Sem Bool)(apos pos:Pos):Prop:=
 QT (.Call (.Attribute o m apos) args kws pos) X.env=(do let ov <- QT o X.env;Vc apos.atName;let (f,first) <- holding [ov] (getMethod ov m pl);callWith pos f first (Q0 pos (NG args X.env)) (Qk pos (OW kws X.env)))
def JN (K:HD)(x m:Str)(sp:Sp)(gV:List V->List V->List V)(E:XK)(ta:TE)(t tk:TA):TE:=λσ H Q=>ta σ H λv H1=>∃ a C dx fs,v=.ref a/\cR K x C/\H1 a=some (.ins C dx fs)/\fs.lookup m=none /\
 t σ H1 λvs H2=>tk σ H2 λzs H3=>sp (gV (v::vs) zs) H3 Q E
section
variable {X:Cx}{CX:jy}{K:HD}{k n j:Nat}{x m:Str}{ps ks:List Str}{sp:Sp}{dvs:List V}{pos apos:Pos}{o e:Po}{es:List Po}{kws:List TH}{ta:TE}{t tk:TA}
theorem w9 (hK:X.K=K) (hX:EZ CX) (C:Ey X.prog X.w X.K X.mg X.base CX k x m ps ks n j dvs sp) (hr:Room k X.A) (he:WE X o ta) (ha:WA X (e :: es) t) (hkw:WK X kws tk)
  (hall:(Qk pos (OW kws X.env)).all (·.1.isSome)=true:=by rfl)(hks:(Qk pos (OW kws X.env)).filterMap (·.1)=ks:=by rfl)
  (hst:NG (e::es) X.env=(false,QT e X.env)::NG es X.env:=by rfl)
  (hpl:((Q0 pos (NG (e::es) X.env)).any (·.1)||(Qk pos (OW kws X.env)).any (·.1.isNone))=false:=by rfl)
  (ht:IS X o m (e::es) kws pl apos pos:=by rfl):WE X (.Call (.Attribute o m apos) (e::es) kws pos) (JN K x m sp (iA n j dvs) E0 ta t tk):=by
 have he:=he.go;have ha:=ha.go;have hkw:=hkw.go;refine⟨?_⟩;subst hK;obtain⟨D,f,fd,ds,fs0,F,cf,hm,_,hb⟩:=C.ex;intro pins s σ H Q I h;refine Sl (pl:=pl) (bM (he pins s σ H _ I h) λu s1 ⟨v,H1,I1,rv,a,E,dx,fs,ev,ec,ea,l,q⟩=>?_) ht;subst ev;cases cL ec cf.at_;obtain rfl:u=NN a:=rv;refine l_ I1 ea cf.cls hm l ?_;refine SZ (first:=[.ref a]) (h₀:=X.base) I.ok.mod.kin hm.kp hall (bM (ha pos pins s1 σ H1 _ I1 q) λus s2 ⟨vs,H2,I2,r,q2⟩=>?_) hpl hst;refine bM (hkw pos pins s2 σ H2 _ I2 q2) λws s3 ⟨zs,H3,I3,rz,q3⟩=>⟨I3.kIn,?_⟩
 rw[hks];exact zT (us:=.ref a::us) (vs:=.ref a::vs) F hr hb (qd hX) I3 (.cons rfl r) rz q3
end
theorem IV {K:HD}{fd:OK}{p:Str}{ps ks:List Str}{n m:Nat}{D:Nn}{o:Obj}{z:Str}{t:Tok} (e:K.lookup D=some o)
  (h:∀ us ws:List Nd,us.length=n->ws.length=m->∃ (part:Option Nd) (kk:Obj->Sem (List (Str×Nd))),OE fd ⟨us,ks.zip ws⟩=Sem.load D part kk/\kk o=pure ((p::ps).zip (us++(ws++[.str z t])))):
  iZ K fd (p::ps) ks (iA n m [.str z t]) (iA n m [.str z]):=
 ⟨λs us ws X hl=>by
  obtain⟨a,b,c⟩:=wX hl;rw[c];obtain⟨part,kk,h1,h2⟩:=h us ws a b;exact CC X e h1 h2,λa b=>wJ (show aM [V.str z] [Ua z t] from .cons ⟨t,rfl⟩ .nil) a b⟩
theorem Bw {K:HD}{mg:Str->Option Nd}{x m qual p:Str}{st:Pr}{ps ks fs:List Str}{n j:Nat}{C f D:Nn}{o:Obj}{oc:Nd}{od an:Option Nn}{osl:Array (Option Nd)}{doc pm cdv ct:Nd}{z:Str}{t:Tok}
  (l:K.lookup f=some ⟨oc,od,.func (NF m qual (aO st) (aL st) (ag st) .none (.ref D) doc pm an cdv ct),osl⟩)
  (c:NU K cdv qual=true)(kp:NM K (.ref f)=true)(fn:Qw K (.ref f)=true)(a:Nw K Nk x=some (some (.ref C)))(b:NV K (.ref C) m=some (some (.ref f)))(hc:lq K x fs=true)(g:mg x=some (.ref C))
  (e:K.lookup D=some o)
  (h:∀ us ws:List Nd,us.length=n->ws.length=j->∃ (part:Option Nd) (kk:Obj->Sem (List (Str×Nd))),OE (NF m qual (aO st) (aL st) (ag st) .none (.ref D) doc pm an cdv ct) ⟨us,ks.zip ws⟩=Sem.load D part kk/\kk o=pure ((p::ps).zip (us++(ws++[.str z t])))):
  qS K mg x m qual st (p::ps) ks n j [.str z]:=by
 obtain⟨D',cf⟩:=lL hc;cases cL cf.at_ a;exact⟨_,f,_,oc,od,.none,.ref D,doc,pm,an,cdv,ct,osl,[.str z t],fs,rfl,l,c,cf,⟨b,fn,kp⟩,g,IV e h⟩
def lE (elt:Po)(gens:List Rp)(scope:Q7)(pos:Pos)(acc:Nd)(env:Env)(d:Nat):Sem Unit:=match gens[d+1]? with
 |some g'=>do
  let x <- QT g'.iter env
  Vc g'.iter.pos
  let x <- if g'.is_async != 0 then foldedIterable g'.iter x else OQ g'.iter env x
  let _ <- runOwn (.compStart (.ListComp elt gens scope pos) (d+1) (<- holding [x] (if g'.is_async != 0 then asyncIter x else W9 x)) acc env) env
 |none=>do let _ <- call (.builtin "list.append") [acc,<- QT elt env]
theorem vC {d:Nat} (h:gens[d]?=some ⟨target,iter,ifs,0⟩) :
  compTurn (.ListComp elt gens scope pos) d it acc env=(do
   Vc iter.pos
   match <- Q1 it with
   |none=>pure (.done .next)
   |some v=>
    RJ target it v
    assign target env v
    let mut ok:=true
    for c in ifs do
     if ok then ok <- isTrue c env (QT c env)
    if ok then
     lE elt gens scope pos acc env d
    again (.compLoop (.ListComp elt gens scope pos) d it acc env)):=by
 unfold compTurn lE;dsimp only;rw[h];cases hg:gens[d+1]? with
 |none=>rfl
 |some g'=>
  dsimp only;have z0:((0:Nat) != 0)=false:=rfl
  by_cases hz:(g'.is_async != 0)=true
  ·simp only[hz,z0,bind_assoc,PD,NY,Pl];rfl
  ·have hz:(g'.is_async != 0)=false:=by simpa using hz
   simp only[hz,z0,bind_assoc,PD,NY,Pl];rfl
theorem kj {d:Nat} (hd:gens[d]?=some ⟨target,iter,ifs,0⟩) (I:Nat->Nh->Prop)
  (iC:∀ n s,I n s->Nu (NI prog w) A (Q1 it) (λr s₁=>match r with
   |none=>R (.ok .next) s₁
   | some v=>Nu (NI prog w) A (RJ target it v) (fun _ s₁'=>Nu (NI prog w) A (assign target env v) (fun _ s₂=>
     Nu (NI prog w) A (forIn ifs true λc r=>if r=true then do let ok <- isTrue c env (QT c env);pure (QM ok) else pure (QM r)) (λok s₃=>
      if ok=true then Nu (NI prog w) A (lE elt gens scope pos acc env d) (λ_ s₅=>∃ m,m<n/\I m s₅) (λ_ _=>False) s₃
      else ∃ m,m<n/\I m s₃) (λ_ _=>False) s₂) (λ_ _=>False) s₁') (λ_ _=>False) s₁) (λ_ _=>False) s)
  (n:Nat)(h:I n s):QB (NI prog w) A (.compLoop (.ListComp elt gens scope pos) d it acc env) R s:=by
 refine codeAny_loop rfl I (λn s hI=>?_) n h;show Nu _ A ((compTurn (.ListComp elt gens scope pos) d it acc env).onRaise (λx=>do noteFrame x env;theTreesLotGoes x)) _ _ s;refine wpAny_noted ?_;rw[vC hd];refine KE (PP (KE (Oi (iC n s hI) (λr s₁ h₁=>?_) λ_ _ z=>z.elim)));cases r with
 |none=>exact Nc h₁
 |some v=>
  refine KE (Oi h₁ (λ_ s₁' h₁'=>?_) λ_ _ z=>z.elim);refine KE (Oi h₁' (λ_ s₂ h₂=>KE (Oi h₂ (λok s₃ h₃=>?_) λ_ _ z=>z.elim)) λ_ _ z=>z.elim);cases ok with
  |false=>exact Nc ⟨rfl,h₃⟩
  |true=>exact KE (Oi h₃ (λ_ s₅ h₅=>Nc ⟨rfl,h₅⟩) λ_ _ z=>z.elim)
theorem vq {d:Nat} (hd:gens[d]?=some ⟨target,iter,ifs,0⟩)
  (h0:QB (NI prog w) A (.compLoop (.ListComp elt gens scope pos) d it acc env) R s)
  (h:Nu (NI prog w) A (W9 it) (λit' s'=>QB (NI prog w) A (.compLoop (.ListComp elt gens scope pos) d it' acc env) R s')
   (notedBy (NI prog w) A env λx s'=>R (.error x) s') s) :
  QB (NI prog w) A (.compStart (.ListComp elt gens scope pos) d it acc env) R s:=by
 refine codeAny_of_tree ?_;show Nu _ _ ((compStart (.ListComp elt gens scope pos) d it acc env).onRaise (λx=>do noteFrame x env;Vc theWindowsPlace)) _ _ s;refine wpAny_notedAt ?_;have hd':(clausesOf (.ListComp elt gens scope pos))[d]?=some ⟨target,iter,ifs,0⟩:=hd;unfold compStart;rw[hd'];show Nu _ _ (ask>>=_) _ _ s;refine KE (wpAny_askSetting (wpAny_ite ?_))
 split
 ·first
   |exact KE (Nc (Nc (WR rfl h0)))
   |exact Nc (WR rfl h0)
 ·first
   |exact KE (Qs (KE (PP (KE (Oi h (λit' s' h'=>Nc (WR rfl h')) λ_ _ x=>x)))))
   |(refine KE (Qs ?_);show Nu _ _ (Vc iter.pos>>=_) _ _ s;exact KE (PP (KE (Oi h (λit' s' h'=>Nc (WR rfl h')) λ_ _ x=>x))))
abbrev TB:=L2.St->Hp->List V->(L2.St->Hp->List V->Prop)->Prop
def DL (its:List Nd)(n:Nat):Obj:={ cls:=.type "list",data:=.seq its.toArray n }
def L8 (X:Cx)(pins:List (Nn×Obj))(D:Nn):Prop:=
 D≠X.env.locals/\(D∈X.ex\/X.s₀.heap.objs.size<=D)/\(∀ x c,X.env.cells.lookup x=some c->c≠D)/\∀ p∈X.pn++pins,p.1≠D
def PB (X:Cx)(elt:Po)(gens:List Rp)(scope:Q7)(pos:Pos)(d:Nat)(t:TB):Prop:=
 ∀ (D:Nn) (pins:List (Nn×Obj)) (s:Nh) (σ:L2.St) (H:Hp) (ys:List V) (its:List Nd) (n:Nat) (Q:L2.St->Hp->List V->Prop),aD X ((D,DL its n)::pins) σ H s->L8 X pins D->aM ys its->t σ H ys Q ->
  Nu (NI X.prog X.w) X.A (lE elt gens scope pos (.ref D) X.env d) (λ_ s'=>∃ σ' H' ys' its' n',aD X ((D,DL its' n')::pins) σ' H' s'/\aM ys' its'/\Q σ' H' ys') (λ_ _=>False) s
structure WB (X:Cx)(elt:Po)(gens:List Rp)(scope:Q7)(pos:Pos)(d:Nat)(t:TB):Prop where
 go:PB X elt gens scope pos d t
section
variable {X:Cx}{elt:Po}{gens:List Rp}{scope:Q7}{pos:Pos}{d:Nat}
def Ak (te:TE):TB:=λσ H ys Q=>ys.length<Nv/\te σ H λy H'=>Q σ H' (ys++[y])
theorem Au (hx:X.xe=λ_ _=>False)(hd:gens[d+1]?=none)(he:PE X elt te):PB X elt gens scope pos d (Ak te):=by
 intro D pins s σ H ys its n Q I hD rv h;obtain⟨hz,h⟩:=h;unfold lE;rw[hd];dsimp only;have he':=he _ s σ H _ I h;rw[hx] at he';refine KE (bM he' λy s8 h8=>?_);obtain⟨yv,H8,I8,r8,q8⟩:=h8;have pD:=I8.pin (D,DL its n) (Ny _ NC);have hsz:its.toArray.size<=Nv:=by
  have:=rv.length;rw[No,<- this];exact PV hz
 refine KE (append_at (hsz:=hsz) pD.1 λh9 hs9 hD9=>Nc ?_);have J8:aD X pins σ H8 s8:=I8.pins_of λp hp=>I8.pin p (Ny _ (Nr _ hp))
 have J9:aD X pins σ H8 { s8 with heap:=h9 }:=J8.turned (it:=D) (t':=s8.toks) (λb o hb e=>hs9.extBut b o hb e) pD.2.1 hD.1 hD.2.1 hD.2.2.1 hD.2.2.2;refine⟨σ,H8,ys++[yv],its++[y],n+1,J9.pins_of λp hp=>?_,rv.append (.cons r8 .nil),q8⟩;rcases Nl.mp hp with rfl|hp
 ·have e9:({ cls:=.type "list",data:=.seq (its.toArray.push y) (n+1) }:Obj)=DL (its++[y]) (n+1):=by unfold DL;rw[V_]
  exact⟨by rw[<- e9];exact hD9,pD.2.1,pD.2.2.1,pD.2.2.2.1,λv z=>nomatch z⟩
 ·exact J9.pin p (Ny _ hp)
def Lf (wi:TI)(g:TG)(tt:TT)(tb:TB):TB:=λσ H ys Q=>wi σ H λJ H1=>∃ W:Nat->Nat->L2.St->Hp->List V->Prop,(∃ m,W 0 m σ H1 ys)/\∀ i m σ2 H2 ys2,W i m σ2 H2 ys2 ->
 (J.stop i H2/\Q σ2 H2 ys2) \/
 (J.go i H2/\∀ x H3,J.yld i H2 x H3->g x σ2 H3 λσ3 H4=>tt σ3 H4 λb H5=>if b=true then tb σ3 H5 ys2 λσ' H' ys'=>∃ m',m'<m/\W (i+1) m' σ' H' ys' else ∃ m',m'<m/\W (i+1) m' σ3 H5 ys2)
theorem mq (hx:X.xe=fun _ _=>False) (hc:X.calm=true) (hd:gens[d + 1]?=some ⟨tg,iter,ifs,0⟩) (hi:WI X tg iter wi) (hg:WG X tg g) (ht:HY X ifs tt) (hb:WB X elt gens scope pos (d + 1) tb)
  (hs:∀ x,OQ iter X.env x=pure x:=by intro _;rfl):WB X elt gens scope pos d (Lf wi g tt tb):=by
 have hi:=hi.go;have hg:=hg.go;have ht:=ht.go;have hb:=hb.go;refine ⟨?_⟩;intro D pins s σ H ys its n Q I hD rv h;unfold lE;rw [hd];dsimp only;have hi':=hi _ s σ H _ I h;rw [hx] at hi';refine KE (bM hi' fun v s1 h1=>?_);refine KE (PP ?_);show Nu _ _ (OQ iter X.env v >>= fun x=>holding [x] (W9 x) >>= fun it=>runOwn (.compStart (.ListComp elt gens scope pos) (d + 1) it (.ref D) X.env) X.env >>= fun _=>pure ()) _ _ s1;rw [hs];refine KE (Nc (KE (Ox (bM h1 fun itv s2 h2=>?_))));obtain ⟨it,fp,tn,J,H2,rfl,I2,T,st2,f2,W,⟨m0,w0⟩,iC⟩:=h2;refine KE (wpAny_runOwn ?_);have loop:QB (NI X.prog X.w) X.A (.compLoop (.ListComp elt gens scope pos) (d + 1) (.ref it) (.ref D) X.env) (fun r s'=>match r with
   |.ok _=>Nu (NI X.prog X.w) X.A (pure ()) (λ_ s'=>∃ σ' H' ys' its' n',aD X ((D,DL its' n')::pins) σ' H' s'/\aM ys' its'/\Q σ' H' ys') (λ_ _=>False) s'
   |.error e=>cameBackBy (NI X.prog X.w) X.A X.env (λ_ _=>False) e s') s2:=by
  refine kj hd (λk s'=>∃ i σ' H' ys' its' n',aD X ((D,DL its' n')::pins) σ' H' s'/\tn i s'.heap/\(∀ b∈fp,H' b=none)/\aM ys' its'/\W i k σ' H' ys') ?_ m0
   ⟨0,σ,H2,ys,its,n,I2,st2,λb hb=>(f2 b hb).1,rv,w0⟩
  rintro k s' ⟨i,σ',H',ys',its',n',I',tn',fr',rv',w'⟩;have fpOk:∀ {H':Hp}{o:Obj},(∀ b∈fp,H' b=none)->∀ b∈fp,l4 X ((D,o)::pins) H' b:=λ{H' o} hn b hb=>by
   obtain⟨_,g1,g2,g3,g4,g5⟩:=f2 b hb;refine⟨hn b hb,g1,g2,g3,g4,λp hp=>?_⟩;rcases Ou.mp hp with hp|hp
   ·exact g5 p (OI _ hp)
   ·rcases Nl.mp hp with rfl|hp
    ·exact g5 (D,DL its n) (Ny _ NC)
    ·exact g5 p (Ny _ (Nr _ hp))
  rcases iC i k σ' H' ys' w' with ⟨stop,fin⟩|⟨go,step⟩
  ·refine Oi (T.done X rfl rfl rfl hc i _ s' σ' H' (λ_ _=>False) I' (fpOk fr') tn' stop) (λr s1 hr=>?_) λ_ _ z=>z
   obtain⟨rfl,I1⟩:=hr;exact Nc ⟨σ',H',ys',its',n',I1,rv',fin⟩
  ·refine Oi (T.item X rfl rfl rfl hc i _ s' σ' H' (λ_ _=>False) I' (fpOk fr') tn' go) (λr s4 hr=>?_) λ_ _ z=>z
   obtain⟨u,rfl,h4⟩:=hr;refine Oi h4 (λ_ s5 h5=>?_) λ_ _ z=>z
   obtain⟨x,H5,I5,r5,y5,tn5,fr5⟩:=h5;have I5':=I5.pinned (fpOk fr5) (T.obj _ _ tn5);have hg':=hg _ s5 σ' H5 x u _ I5' r5 (step x H5 y5);rw[hx] at hg';refine bM hg' λ_ s6 h6=>?_
   obtain⟨σ6,H6,I6,q6⟩:=h6;have ht':=ht _ s6 σ6 H6 _ I6 q6;rw[hx] at ht';refine bM ht' λok s7 h7=>?_
   obtain⟨H7,I7,q7⟩:=h7;have weak:∀ {s8:Nh}{σ8:L2.St}{H8:Hp}{its8:List Nd}{n8:Nat},aD X ((D,DL its8 n8)::(pins++iT fp s5.heap)) σ8 H8 s8->aD X ((D,DL its8 n8)::pins) σ8 H8 s8/\tn (i+1) s8.heap/\∀ b∈fp,H8 b=none:=λ{s8 σ8 H8 its8 n8} I8=>by
    refine⟨I8.pins_of λp hp=>I8.pin p (Ny _ ?_),T.keep _ _ _ tn5 λb hb o e=>(I8.pin (b,o) (Ny _ (Nr _ (Ny _ (eU hb e))))).1,λb hb=>?_⟩
    ·rcases Nl.mp hp with rfl|hp
     ·exact NC
     ·exact Nr _ (OI _ hp)
    ·obtain⟨o,e,_⟩:=T.obj _ _ tn5 b hb;exact(I8.pin (b,o) (Ny _ (Nr _ (Ny _ (eU hb e))))).2.1
   cases ok with
   |false=>
    obtain⟨m',hm,w8⟩:=q7;obtain⟨a,b,c⟩:=weak I7;exact⟨m',hm,i+1,σ6,H7,ys',its',n',a,b,c,rv',w8⟩
   |true=>
    have D7:L8 X (pins++iT fp s5.heap) D:=⟨hD.1,hD.2.1,hD.2.2.1,λp hp=>by
     rcases Ou.mp hp with hp|hp
     ·exact hD.2.2.2 p (OI _ hp)
     ·rcases Ou.mp hp with hp|hp
      ·exact hD.2.2.2 p (Ny _ hp)
      ·exact λz=>(f2 _ (ny hp).1).2.2.2.2.2 (D,DL its n) (Ny _ NC) z.symm⟩
    refine Oi (hb D _ s7 σ6 H7 ys' its' n' _ I7 D7 rv' q7) (λ_ s8 h8=>?_) λ_ _ z=>z
    obtain⟨σ8,H8,ys8,its8,n8,I8,rv8,m',hm,w8⟩:=h8;obtain⟨a,b,c⟩:=weak I8;exact⟨m',hm,i+1,σ8,H8,ys8,its8,n8,a,b,c,rv8,w8⟩
 exact vq hd loop (T.self _ 0 _ _ _ st2 loop)
end
def yn (J:It)(g:TG)(tt:TT)(tb:TB)(σ0:L2.St)(Fin:List V->Hp->Prop)(H1:Hp):Prop:=∃ W:Nat->Nat->List V->Hp->Prop,(∃ m,W 0 m [] H1)/\∀ i m ys H2,W i m ys H2 ->
 (J.stop i H2/\ys.length<=Nv/\Fin ys H2) \/
 (J.go i H2/\∀ x H3,J.yld i H2 x H3->g x σ0 H3 λσ' H4=>tt σ' H4 λb H5=>if b=true then tb σ' H5 ys λ_ H6 ys'=>∃ m',m'<m/\W (i+1) m' ys' H6 else ∃ m',m'<m/\W (i+1) m' ys H5)
section
variable {X:Cx}{pins:List (Nn×Obj)}{σ:L2.St}{H H2:Hp}{s s2:Nh}
theorem oz {N:List Str}{scope:Q7}{elt tg iter:Po}{ifs:List Po}{c6:List Rp}{pos:Pos}{it:Nn}{fp:List Nn}{tn:Nat->OZ->Prop}{J:It}{g:TG}{tt:TT}{tb:TB}{σ0:L2.St}{Fin:List V->Hp->Prop}
  {E:Nd->Nh->Prop}{RR:Nd->Nn->Result->Nh->Prop}(hc:X.calm=true)(I:aD X pins σ H2 s2)(S:wN X scope)
  (hcap:qC X scope N σ σ0)(hlen:σ0.length=N.length)(f2:∀ b∈fp,l4 X pins H2 b)(T:ug X.prog X.w X.K tg J fp it tn)(st2:tn 0 s2.heap)
  (hg:∀ C,PG (bG X N scope (a_ X scope C) C s2 H2 fp pins) tg g)(ht:∀ C,LW (bG X N scope (a_ X scope C) C s2 H2 fp pins) ifs tt)(he:∀ C,PB (bG X N scope (a_ X scope C) C s2 H2 fp pins) elt (⟨tg,iter,ifs,0⟩::c6) scope pos 0 tb)(hw:yn J g tt tb σ0 Fin H2)
  (hRR:∀ (D C:Nn) (s':Nh) (H':Hp) (ys:List V),aD X pins σ (upd H' D (.lst ys)) s'->H' D=none->Fin ys H'->(∃ m,s'.heap.Ns C m)->H' C=none->D≠C->s2.heap.objs.size<=C->RR (.ref D) C (.ok .next) s'):
  Nu (NI X.prog X.w) X.A (newList []) (λacc s₃=>Nu (NI X.prog X.w) X.A (TN scope X.env.globals (pW X.env.cells scope.names []) [] X.env.qual none .none (some X.env)) (λcenv s₄=>
   QB (NI X.prog X.w) X.A (.compStart (.ListComp elt (⟨tg,iter,ifs,0⟩::c6) scope pos) 0 (.ref it) acc { cenv with scope:=relabel scope X.env }) (RR acc cenv.locals) s₄) E s₃) E s2:=by
 obtain⟨W,⟨m0,w0⟩,iC⟩:=hw;refine N4 (EI λh1 hns1 own1 kk1=>?_);dsimp only at hns1 own1 kk1 ⊢;generalize hG:s2.heap.push { cls:=.type "list",dict:=none,data:=.seq ([]:List Nd).toArray }=G at hns1 own1 kk1 ⊢;have hC:G.objs.size=s2.heap.objs.size+1:=by rw[<- hG,Oe]
 have hDC:s2.heap.objs.size≠G.objs.size:=by rw[hC];exact NA (Rb _)
 have below:∀ b,b<s2.heap.objs.size->b≠G.objs.size:=λb hb=>by rw[hC];exact NA (OG hb)
 have old:∀ b o,s2.heap.get? b=some o->h1.get? b=some o:=λb o e=>kk1 b o (hG▸Na _ e)
 have hacc:h1.get? s2.heap.objs.size=some { cls:=.type "list",data:=.seq ([]:List Nd).toArray 0 }:=kk1 _ _ (hG▸Ng _ rfl);have cellLt:∀ x c,X.env.cells.lookup x=some c->c<s2.heap.objs.size:=λx c e=>by
  obtain⟨v,q⟩:=I.cell x c e;exact q.lt
 have big:∀ c:Nn,G.objs.size+1<=c->s2.heap.objs.size+2<=c:=λc h=>by rw[hC] at h;exact h
 have fo:∀ b∈fp,∃ o,s2.heap.get? b=some o:=λb hb=>let ⟨o,e,_⟩:=T.obj 0 _ st2 b hb;⟨o,e⟩
 have fpLt:∀ b∈fp,b<s2.heap.objs.size:=λb hb=>let ⟨o,e⟩:=fo b hb;Nf e
 have st1:tn 0 h1:=T.keep 0 _ _ st2 λb _ o e=>old b o e
 have hCle:s2.heap.objs.size<=G.objs.size:=by rw[hC];exact VA _
 have I0:∀ tk,aD (bG X N scope (a_ X scope G.objs.size) G.objs.size s2 H2 fp pins) [(s2.heap.objs.size,{ cls:=.type "list",data:=.seq ([]:List Nd).toArray 0 })] σ0 H2 { s2 with heap:=h1,toks:=tk }:=λtk=>
  CU I S hcap hlen f2 fo hCle (Nj _) hDC old hns1 hacc (λv z=>nomatch z) λx c e l=>(own1 x c e).resolve_left λz=>by
   rcases dO S.free z with z|⟨_,z⟩
   ·cases z
   ·exact absurd (cellLt x c z) (O0.mpr (NP (QD _ 2) (big c l)))
 have fpOk:∀ {H':Hp}{o:Obj},(∀ b∈fp,H' b=none)->∀ b∈fp,l4 (bG X N scope (a_ X scope G.objs.size) G.objs.size s2 H2 fp pins) [(s2.heap.objs.size,o)] H' b:=λ{H' o} hn b hb=>by
  obtain⟨_,g1,g2,g3,g4,g5⟩:=f2 b hb;refine⟨hn b hb,below b (fpLt b hb),uv I g1 g2,.inl hb,λx c e=>?_,λp hp=>?_⟩;rcases gf S e with ⟨e,_⟩|⟨l,_⟩
  ·exact g4 x c e
  ·exact λz=>absurd (fpLt b hb) (O0.mpr (z▸NP (QD _ 2) (big c l)))
  rcases Ou.mp hp with hp|hp
  ·exact g5 p hp
  ·cases Nm.mp hp;exact λz=>absurd (z▸fpLt b hb) (N0 _)
 have loop:∀ s3:Nh,s3.heap=h1->s3.gens=s2.gens->s3.os=s2.os->aD (bG X N scope (a_ X scope G.objs.size) G.objs.size s2 H2 fp pins) [(s2.heap.objs.size,{ cls:=.type "list",data:=.seq ([]:List Nd).toArray 0 })] σ0 H2 s3 ->
   QB (NI X.prog X.w) X.A (.compLoop (.ListComp elt (⟨tg,iter,ifs,0⟩::c6) scope pos) 0 (.ref it) (.ref s2.heap.objs.size) (QK scope (a_ X scope G.objs.size) G.objs.size X.env)) (RR (.ref s2.heap.objs.size) G.objs.size) s3:=by
  intro s3 e3 _ _ I3;refine kj (d:=0) rfl (λk s'=>∃ i ys its n H',aD (bG X N scope (a_ X scope G.objs.size) G.objs.size s2 H2 fp pins) [(s2.heap.objs.size,{ cls:=.type "list",data:=.seq (its:List Nd).toArray n })] σ0 H' s'/\tn i s'.heap/\(∀ b∈fp,H' b=none)/\aM ys its/\W i k ys H') ?_ m0
   ⟨0,[],[],0,H2,I3,by rw[e3];exact st1,λb hb=>(f2 b hb).1,.nil,w0⟩
  rintro k s' ⟨i,ys,its,n,H',I',tn',fr',rv,w'⟩;rcases iC i k ys H' w' with ⟨stop,hz,fin⟩|⟨go,step⟩
  ·refine Oi (T.done (bG X N scope (a_ X scope G.objs.size) G.objs.size s2 H2 fp pins) rfl rfl rfl hc i _ s' σ0 H' (λ_ _=>False) I' (fpOk fr') tn' stop) (λr s1 hr=>?_) λ_ _ z=>z
   obtain⟨rfl,I1⟩:=hr;obtain⟨m,hn,_⟩:=id I1.loc;exact hRR _ _ s1 H' ys (Cy I f2 (Nj _) I1 rv hz) (I1.pin _ (Ny _ NC)).2.1 fin ⟨m,hn⟩ I1.free hDC hCle
  ·refine Oi (T.item (bG X N scope (a_ X scope G.objs.size) G.objs.size s2 H2 fp pins) rfl rfl rfl hc i _ s' σ0 H' (λ_ _=>False) I' (fpOk fr') tn' go) (λr s4 hr=>?_) λ_ _ z=>z
   obtain⟨u,rfl,h4⟩:=hr;refine Oi h4 (λ_ s5 h5=>?_) λ_ _ z=>z
   obtain⟨x,H5,I5,r5,y5,tn5,fr5⟩:=h5;have I5':=I5.pinned (fpOk fr5) (T.obj _ _ tn5);refine bM (hg G.objs.size _ s5 σ0 H5 x u _ I5' r5 (step x H5 y5)) λ_ s6 h6=>?_
   obtain⟨σ6,H6,I6,q6⟩:=h6;refine bM (ht G.objs.size _ s6 σ6 H6 _ I6 q6) λok s7 h7=>?_
   obtain ⟨H7,I7,q7⟩:=h7;have weak:∀ {s8:Nh}{σ8:L2.St}{H8:Hp}{its':List Nd}{n':Nat},aD (bG X N scope (a_ X scope G.objs.size) G.objs.size s2 H2 fp pins) ([(s2.heap.objs.size,{ cls:=.type "list",data:=.seq its'.toArray n' })] ++ iT fp s5.heap) σ8 H8 s8 ->
     aD (bG X N scope (a_ X scope G.objs.size) G.objs.size s2 H2 fp pins) [(s2.heap.objs.size,{ cls:=.type "list",data:=.seq its'.toArray n' })] σ0 H8 s8/\tn (i+1) s8.heap/\∀ b∈fp,H8 b=none:=λ{s8 σ8 H8 its' n'} I8=>by
    have st8:tn (i+1) s8.heap:=T.keep _ _ _ tn5 λb hb o e=>(I8.pin (b,o) (Ny _ (Ny _ (eU hb e)))).1
    have fr8:∀ b∈fp,H8 b=none:=λb hb=>by
     obtain⟨o,e,d⟩:=T.obj _ _ tn5 b hb;exact(I8.pin (b,o) (Ny _ (Ny _ (eU hb e)))).2.1
    refine⟨?_,st8,fr8⟩;obtain⟨m8,hn8,_⟩:=id I8.loc;have J:=I8.unpinned;exact⟨J.ok,J.os,J.bare,J.base,⟨m8,hn8,λj y v e1 e2 _=>by
     obtain⟨m00,_,hm00⟩:=(I0 0).loc;obtain⟨u',r',l'⟩:=hm00 j y v e1 e2 (by
      obtain⟨_,_,_,_,_,z⟩:=hcap j y v e1 e2;exact .inr z)
     obtain⟨j',j1,j2,j3,jf,j4⟩:=hcap j y v e1 e2;rcases l' with ⟨k',_⟩|⟨k',c,ec,z⟩
     ·exfalso;have k'':(QK scope [] 0 X.env).kindOf y=some .local:=k';rcases j4 with q|q<;>(rw[q] at k'';cases k'')
     ·have eo:X.env.cells.lookup y=some c:=by
       rcases gf S ec with ⟨e,_⟩|⟨_,k2⟩
       ·exact e
       ·rw[jf] at k2;cases k2
      refine⟨u',r',.inr ⟨k',c,ec,?_⟩⟩;obtain⟨oc,hoc,hd⟩:=z;have hlt:c<s2.heap.objs.size:=by
       obtain⟨v',q⟩:=I.cell y c eo;exact q.lt
      have hoc2:s2.heap.get? c=some oc:=by
       obtain⟨v',o',q',d'⟩:=I.cell y c eo;have e':=old c o' q';have hoc':h1.get? c=some oc:=hoc;rw[e'] at hoc';cases hoc';exact q'
      have nfp:c∉fp:=λz=>(f2 c z).2.2.2.2.1 y c eo rfl
      by_cases hfs:c∈kH X.stack
      ·obtain⟨sl,q⟩:=J.base.slot c oc hoc2 (I.freeC y c eo) hfs nfp;exact⟨_,q,hd⟩
      ·exact⟨oc,J.base.keep c oc hoc2 (I.freeC y c eo) hfs nfp,hd⟩⟩,J.cell,J.free,J.freeC,J.pin,J.hok,hlen⟩
   cases ok with
   |false=>
    obtain⟨m',hm,w8⟩:=q7;obtain⟨I8,st8,fr8⟩:=weak I7;exact⟨m',hm,i+1,ys,its,n,H7,I8,st8,fr8,rv,w8⟩
   |true=>
    have D7:L8 (bG X N scope (a_ X scope G.objs.size) G.objs.size s2 H2 fp pins) (iT fp s5.heap) s2.heap.objs.size:=by
     refine⟨hDC,.inr (Nj _),λx c e z=>?_,λp hp z=>?_⟩
     ·rcases gf S e with ⟨e,_⟩|⟨l,_⟩
      ·exact absurd (z▸cellLt x c e) (N0 _)
      ·exact absurd (NP (QD _ 1) (big c l)) (by rw[z];exact Nat.not_succ_le_self _)
     ·rcases Ou.mp hp with hp|hp
      ·exact absurd (z▸Nf (I.pin p hp).1) (N0 _)
      ·exact absurd (z▸fpLt _ (ny hp).1) (N0 _)
    refine Oi (he G.objs.size _ (iT fp s5.heap) s7 σ6 H7 ys its n _ I7 D7 rv q7) (λ_ s8 h8=>?_) λ_ _ z=>z
    obtain⟨σ8,H8,ys8,its8,n8,I8,rv8,m',hm,w8⟩:=h8;obtain⟨L1,L2',L3⟩:=weak I8;exact⟨m',hm,i+1,ys8,its8,n8,H8,L1,L2',L3,rv8,w8⟩
 exact US (loop _ rfl rfl rfl (I0 _)) (T.self _ 0 _ _ _ st1 (loop _ rfl rfl rfl (I0 _)))
end
section
variable {X:Cx}{pos:Pos}
def Io (wi:TI)(g:TG)(tt:TT)(tb:TB)(mk:L2.St->L2.St):TE:=λσ H Q=>wi σ H λJ H1=>yn J g tt tb (mk σ) (λys H2=>∀ D,H2 D=none->Q (.ref D) (upd H2 D (.lst ys))) H1
theorem n_ {N:List Str}{c6:List Rp}{scope:Q7}{elt tg iter:Po}{ifs:List Po}{wi:TI}{g:TG}{tt:TT}{tb:TB}{mk:L2.St->L2.St} (hc:X.calm=true) (hi:WI X tg iter wi) (S:wN X scope) (hcap:∀ σ,σ.length=X.N.length->qC X scope N σ (mk σ)/\(mk σ).length=N.length)
  (hg:∀ C s0 H0 fp pn,WG (bG X N scope (a_ X scope C) C s0 H0 fp pn) tg g)(ht:∀ C s0 H0 fp pn,HY (bG X N scope (a_ X scope C) C s0 H0 fp pn) ifs tt)(he:∀ C s0 H0 fp pn,WB (bG X N scope (a_ X scope C) C s0 H0 fp pn) elt (⟨tg,iter,ifs,0⟩::c6) scope pos 0 tb)
  (hs:∀ x,OQ iter X.env x=pure x:=by intro _;rfl):WE X (.ListComp elt (⟨tg,iter,ifs,0⟩::c6) scope pos) (Io wi g tt tb mk):=by
 have hi:=hi.go;have hg:=λC s0 H0 fp pn=>(hg C s0 H0 fp pn).go
 have ht:=λC s0 H0 fp pn=>(ht C s0 H0 fp pn).go
 have he:=λC s0 H0 fp pn=>(he C s0 H0 fp pn).go
 refine⟨?_⟩;intro pins s σ H Q I h;rw[V1];refine Qq (use:=none) rfl hs (ni S.free) S.kind (λy hy e=>by rw[S.once y hy,e]) ?_;refine bM (hi pins s σ H _ I h) λv s1 h1=>bM h1 λitv s2 h2=>?_
 obtain⟨it,fp,tn,J,H2,rfl,I2,T,st2,f2,hw⟩:=h2;have hcp:=hcap σ I2.len;refine oz hc I2 S hcp.1 hcp.2 f2 T st2 (λC=>hg C _ _ _ _) (λC=>ht C _ _ _ _) (λC=>he C _ _ _ _) hw ?_;intro D C s' H' ys I' hD fin hm hC hDC hle;obtain⟨m,hn⟩:=hm;refine⟨m,hn,λh' hs'=>⟨.ref D,_,?_,rfl,fin D hD⟩⟩;exact I'.turned (it:=C) (t':=s'.toks) (λb o hb e=>hs'.extBut b o hb e) (by rw[az (Px hDC)];exact hC) (λz=>absurd (z▸I2.lt) (O0.mpr hle)) (.inr (NP I2.sz hle))
  (λx c e z=>by
   obtain⟨v',q⟩:=I2.cell x c e;exact absurd (z▸q.lt) (O0.mpr hle))
  (λp hp z=>absurd (z▸Nf (I2.pin p hp).1) (O0.mpr hle))
end
section
variable {X:Cx}{pins:List (Nn×Obj)}{σ:L2.St}{H H2:Hp}{s s2:Nh}
theorem rn {N:List Str}{scope:Q7}{elt tg iter:Po}{ifs:List Po}{pos:Pos}{it:Nn}{fp:List Nn}{tn:Nat->OZ->Prop}{J:It}{g:TG}{tt:TT}{te:TE}{σ0:L2.St}{Fin:List V->Hp->Prop}
  {E:Nd->Nh->Prop}{RR:Nd->Nn->Result->Nh->Prop}(hc:X.calm=true)(I:aD X pins σ H2 s2)(S:wN X scope)
  (hcap:qC X scope N σ σ0)(hlen:σ0.length=N.length)(f2:∀ b∈fp,l4 X pins H2 b)(T:ug X.prog X.w X.K tg J fp it tn)(st2:tn 0 s2.heap)
  (hg:∀ C,PG (bG X N scope (a_ X scope C) C s2 H2 fp pins) tg g)(ht:∀ C,LW (bG X N scope (a_ X scope C) C s2 H2 fp pins) ifs tt)(he:∀ C,PE (bG X N scope (a_ X scope C) C s2 H2 fp pins) elt te)(hw:jj J g tt te σ0 Fin H2)
  (hRR:∀ (D C:Nn) (s':Nh) (H':Hp) (ys:List V),aD X pins σ (upd H' D (.lst ys)) s'->H' D=none->Fin ys H'->(∃ m,s'.heap.Ns C m)->H' C=none->D≠C->s2.heap.objs.size<=C->RR (.ref D) C (.ok .next) s'):
  Nu (NI X.prog X.w) X.A (newList []) (λacc s₃=>Nu (NI X.prog X.w) X.A (TN scope X.env.globals (pW X.env.cells scope.names []) [] X.env.qual none .none (some X.env)) (λcenv s₄=>
   QB (NI X.prog X.w) X.A (.compStart (.ListComp elt [⟨tg,iter,ifs,0⟩] scope pos) 0 (.ref it) acc { cenv with scope:=relabel scope X.env }) (RR acc cenv.locals) s₄) E s₃) E s2:=by
 obtain⟨W,h0,iC⟩:=hw;refine oz (c6:=[]) (tb:=Ak te) hc I S hcap hlen f2 T st2 hg ht (λC=>Au rfl rfl (he C)) ⟨W,h0,λi m ys H w=>?_⟩ hRR;rcases iC i m ys H w with h|⟨h1,h2,h3⟩
 ·exact .inl h
 ·refine .inr ⟨h1,λx H3 y=>?_⟩;have:=h3 x H3 y
  simpa only [Ak,h2,true_and] using this
end
section
variable {X:Cx}{pos:Pos}
def GI (wi:TI)(g:TG)(tt:TT)(te:TE)(mk:L2.St->L2.St):TE:=λσ H Q=>wi σ H λJ H1=>jj J g tt te (mk σ) (λys H2=>∀ D,H2 D=none->Q (.ref D) (upd H2 D (.lst ys))) H1
theorem DH (hc:X.calm=true) (hi:WI X tg iter wi) (S:wN X scope) (hcap:∀ σ,σ.length=X.N.length->qC X scope N σ (mk σ)/\(mk σ).length=N.length)
  (hg:∀ C s0 H0 fp pn,WG (bG X N scope (a_ X scope C) C s0 H0 fp pn) tg g)(ht:∀ C s0 H0 fp pn,HY (bG X N scope (a_ X scope C) C s0 H0 fp pn) ifs tt)(he:∀ C s0 H0 fp pn,WE (bG X N scope (a_ X scope C) C s0 H0 fp pn) elt te)
  (hs:∀ x,OQ iter X.env x=pure x:=by intro _;rfl):WE X (.ListComp elt [⟨tg,iter,ifs,0⟩] scope pos) (GI wi g tt te mk):=by
 have hi:=hi.go;have hg:=λC s0 H0 fp pn=>(hg C s0 H0 fp pn).go
 have ht:=λC s0 H0 fp pn=>(ht C s0 H0 fp pn).go
 have he:=λC s0 H0 fp pn=>(he C s0 H0 fp pn).go
 refine⟨?_⟩;intro pins s σ H Q I h;rw[V1];refine Qq (use:=none) rfl hs (ni S.free) S.kind (λy hy e=>by rw[S.once y hy,e]) ?_;refine bM (hi pins s σ H _ I h) λv s1 h1=>bM h1 λitv s2 h2=>?_
 obtain⟨it,fp,tn,J,H2,rfl,I2,T,st2,f2,hw⟩:=h2;have hcp:=hcap σ I2.len;refine rn hc I2 S hcp.1 hcp.2 f2 T st2 (λC=>hg C _ _ _ _) (λC=>ht C _ _ _ _) (λC=>he C _ _ _ _) hw ?_;intro D C s' H' ys I' hD fin hm hC hDC hle;obtain⟨m,hn⟩:=hm;refine⟨m,hn,λh' hs'=>⟨.ref D,_,?_,rfl,fin D hD⟩⟩;exact I'.turned (it:=C) (t':=s'.toks) (λb o hb e=>hs'.extBut b o hb e) (by rw[az (Px hDC)];exact hC) (λz=>absurd (z▸I2.lt) (O0.mpr hle)) (.inr (NP I2.sz hle))
  (λx c e z=>by
   obtain⟨v',q⟩:=I2.cell x c e;exact absurd (z▸q.lt) (O0.mpr hle))
  (λp hp z=>absurd (z▸Nf (I2.pin p hp).1) (O0.mpr hle))
end
section
variable {X:Cx}{pos:Pos}
def EK (i:Nat)(wi:TI)(g:TG)(tt:TT)(te:TE)(mk:L2.St->L2.St):TS:=λE σ H=>wi σ H λJ H1=>jj J g tt te (mk σ) (λys H2=>∀ D,H2 D=none->E.nx (σ.set i (some (.ref D))) (upd H2 D (.lst ys))) H1
theorem wn {i:Nat} (hc:X.calm=true) (hN:X.N.Nodup) (hi':X.N[i]?=some y) (hy:X.env.scope.names.lookup y=some .local)
  (hi:WI X tg iter wi)(S:wN X scope)(hcap:∀ σ,σ.length=X.N.length->qC X scope N σ (mk σ)/\(mk σ).length=N.length)
  (hg:∀ C s0 H0 fp pn,WG (bG X N scope (a_ X scope C) C s0 H0 fp pn) tg g)(ht:∀ C s0 H0 fp pn,HY (bG X N scope (a_ X scope C) C s0 H0 fp pn) ifs tt)(he:∀ C s0 H0 fp pn,WE (bG X N scope (a_ X scope C) C s0 H0 fp pn) elt te)
  (hsw:Td (.ListComp elt [⟨tg,iter,ifs,0⟩] scope pos) (some (.Name y py)) spos.line X.env=pure true:=by rfl)
  (hs:∀ x,OQ iter X.env x=pure x:=by intro _;rfl):WS X (.Assign [.Name y py] (.ListComp elt [⟨tg,iter,ifs,0⟩] scope pos) spos) (EK i wi g tt te mk):=by
 have hi:=hi.go;have hg:=λC s0 H0 fp pn=>(hg C s0 H0 fp pn).go
 have ht:=λC s0 H0 fp pn=>(ht C s0 H0 fp pn).go
 have he:=λC s0 H0 fp pn=>(he C s0 H0 fp pn).go
 refine⟨?_⟩;intro pins s σ H E I h;rw[exec_Assign_Name_used _ _ _ _ hsw];refine KE (PP (KE ?_));show Nu _ X.A (do let _ <- comprehension (.ListComp elt [⟨tg,iter,ifs,0⟩] scope pos) scope X.env _ (newList []) false (QT iter X.env) (some (assign (.Name y py) X.env))) _ _ s;refine KE (Oi (Qq (use:=some (assign (.Name y py) X.env)) (Q:=λ_ s'=>SP X pins E .next s') rfl hs (ni S.free) S.kind (λy hy e=>by rw[S.once y hy,e]) ?_) (λ_ s' hq=>Nc (Nc hq)) λ_ _ e=>e);refine bM (hi pins s σ H _ I h) λv s1 h1=>bM h1 λitv s2 h2=>?_
 obtain⟨it,fp,tn,J,H2,rfl,I2,T,st2,f2,hw⟩:=h2;have hcp:=hcap σ I2.len;refine rn hc I2 S hcp.1 hcp.2 f2 T st2 (λC=>hg C _ _ _ _) (λC=>ht C _ _ _ _) (λC=>he C _ _ _ _) hw ?_;intro D C s' H' ys I' hD fin hm hC hDC hle;obtain⟨m,hn⟩:=hm;have neC:X.env.locals≠C:=λz=>absurd (z▸I2.lt) (O0.mpr hle)
 have upC:(upd H' D (.lst ys)) C=none:=by rw[az (Px hDC)];exact hC
 show Nu _ X.A (assign (.Name y py) X.env (.ref D)) _ _ s';refine R8 (sY I' hN hi' (.inl hy) (v:=.ref D) (u:=.ref D) rfl (λs3 I3 ⟨a,sb,ha⟩=>?_) (.inr hy));have aC:C≠a:=by
  rcases ha with e|e
  ·rw[e];exact Px neC
  ·intro z;obtain⟨v',q⟩:=I2.cell y a e;exact absurd (z▸q.lt) (O0.mpr hle)
 refine⟨m,hn.sameBut sb aC,λh' hs'=>⟨_,_,?_,fin D hD⟩⟩;exact I3.turned (it:=C) (t':=s3.toks) (λb o hb e=>hs'.extBut b o hb e) upC (Px neC) (.inr (NP I2.sz hle))
  (λx c e z=>by
   obtain⟨v',q⟩:=I2.cell x c e;exact absurd (z▸q.lt) (O0.mpr hle))
  (λp hp z=>absurd (z▸Nf (I2.pin p hp).1) (O0.mpr hle))
end
end TR
namespace L2
open PySem PySem.Spec PyProof.Rows
section
variable {κ:Type}[DecidableEq κ]
def mU (kvs:List (κ×V))(k:κ):Option V:=(kvs.find? λkv=>decide (kv.1=k)).map (·.2)
def mC (kvs:List (κ×V))(k:κ)(v:V):List (κ×V):=
 if(kvs.any λkv=>decide (kv.1=k))=true then kvs.map (λkv=>if kv.1=k then(kv.1,v) else kv) else kvs++[(k,v)]
theorem my {p:κ×V}{r:List (κ×V)}{k:κ}(e:p.1=k):mU (p::r) k=some p.2:=by simp[mU,Pu,e]
theorem jR {p:κ×V}{r:List (κ×V)}{k:κ}(e:¬ p.1=k):mU (p::r) k=mU r k:=by simp[mU,Pu,e]
theorem qF (k:κ):∀ kvs:List (κ×V),(kvs.any λkv=>decide (kv.1=k))=(mU kvs k).isSome
 |[]=>rfl
 |p::r=>by
  rw[Uj]
  by_cases e:p.1=k
  ·simp only[my e,Nq e,Bool.true_or,VO]
  ·rw[jR e,On e,Bool.false_or];exact qF k r
theorem oS (kvs:List (κ×V))(k:κ)(v:V):(mC kvs k v).length<=kvs.length+1:=by
 unfold mC
 split
 ·rw[Ni];lia
 ·rw[NL,N5,Ry];lia
theorem Ed {kvs:List (κ×V)}{k:κ}(v:V)(h:mU kvs k=none):mC kvs k v=kvs++[(k,v)]:=by
 unfold mC;rw[qF,h];exact NS (by decide)
theorem kP.isSome_eq (r:kP o u):o.isSome=u.isSome:=by
 cases o with
 |none=>cases u with
  |none=>rfl
  |some _=>exact(show False from r).elim
 |some _=>cases u with
  |none=>exact(show False from r).elim
  |some _=>rfl
theorem KV.val {kvs:List (κ×V)}{vs:List (κ×Nd)}(r:KV kvs vs)(k:κ):kP (mU kvs k) (Wk vs k):=by
 unfold KV at r
 induction r with
 |nil=>exact True.intro
 |@cons p q ps qs h t ih=>
  obtain⟨h1,h2⟩:=h
  by_cases e:p.1=k
  ·have e':q.1=k:=h1.symm.trans e;have b:Wk (q::qs) k=some q.2:=by simp[Wk,Pu,e']
   rw[my e,b];exact h2
  ·have e':¬ q.1=k:=λz=>e (h1.trans z)
   have b:Wk (q::qs) k=Wk qs k:=by simp[Wk,Pu,e']
   rw[jR e,b];exact ih
theorem KV.any (r:KV kvs vs)(k:κ):(kvs.any λkv=>decide (kv.1=k))=vs.any λkv=>decide (kv.1=k):=by
 unfold KV at r
 induction r with
 |nil=>rfl
 |cons h t ih=>rw[Uj,Uj,ih,h.1]
theorem KV.repl (r:KV kvs vs) (k:κ) (ry:bj y u) :
  KV (kvs.map λkv=>if kv.1=k then(kv.1,y) else kv) (vs.map λkv=>if kv.1=k then(kv.1,u) else kv):=by
 unfold KV at r ⊢
 induction r with
 |nil=>exact .nil
 |@cons p q ps qs h t ih=>
  rw[NE,NE];refine .cons ?_ ih;obtain⟨h1,h2⟩:=h
  by_cases e:p.1=k
  ·rw[NZ e,NZ (h1.symm.trans e)];exact⟨h1,ry⟩
  ·rw[NS e,NS (λz=>e (h1.trans z))];exact⟨h1,h2⟩
theorem KV.put (r:KV kvs vs)(k:κ)(ry:bj y u):KV (mC kvs k y) (stored vs k u):=by
 unfold mC stored;rw[r.any k]
 by_cases e:(vs.any λkv=>decide (kv.1=k))=true
 ·rw[NZ e,NZ e];exact r.repl k ry
 ·rw[NS e,NS e];exact Paired.snoc r ⟨rfl,ry⟩
theorem KV.length (r:KV kvs vs):kvs.length=vs.length:=Uo r
end
theorem DV (r:bj (kV k) u):(bC P w).is k u=true:=by
 cases k with
 |inl i=>obtain⟨t,e⟩:=(show ∃ t,u=RH i t from r);subst e;exact vV P w i t
 |inr x=>obtain⟨t,e⟩:=(show ∃ t,u=Ua x t from r);subst e;exact vX P w x t
theorem tM:∀ {ks:List fb}{us:List Nd},aM (ks.map kV) us->ItemsAre (bC P w) ks us
 |[],_,r=>by rw[PU] at r;cases r;exact .nil
 |k::ks,_,r=>by
  rw[NE] at r;cases r with
  |cons h t=>exact .cons (DV h) (tM t)
abbrev KT (H:Hp):List (List fb×V)->List (List fb×Nn×Nd)->Prop:=Tt λp q=>p.1=q.1/\H q.2.1=some (.tup (p.1.map kV))/\bj p.2 q.2.2
theorem KT.val {H:Hp}{kvs:List (List fb×V)}{xs:List (List fb×Nn×Nd)}(r:KT H kvs xs)(k:List fb):kP (mU kvs k) ((Xc xs k).map (·.2)):=by
 induction r with
 |nil=>exact True.intro
 |@cons p q ps qs h t ih=>
  obtain⟨h1,_,h2⟩:=h
  by_cases e:p.1=k
  ·have e':q.1=k:=h1.symm.trans e;have b:Xc (q::qs) k=some q.2:=by simp[Xc,Pu,e']
   rw[my e,b];exact h2
  ·have e':¬ q.1=k:=λz=>e (h1.trans z)
   have b:Xc (q::qs) k=Xc qs k:=by simp[Xc,Pu,e']
   rw[jR e,b];exact ih
theorem KT.repl (r:KT H kvs xs) (k:List fb) (ry:bj y u) :
  KT H (kvs.map λkv=>if kv.1=k then(kv.1,y) else kv) (xs.map (putAt k u)):=by
 induction r with
 |nil=>exact .nil
 |@cons p q ps qs h t ih=>
  rw[NE,NE];refine .cons ?_ ih;obtain⟨h1,h2,h3⟩:=h;unfold putAt
  by_cases e:p.1=k
  ·rw[NZ e,NZ (h1.symm.trans e)];exact⟨h1,h2,ry⟩
  ·rw[NS e,NS (λz=>e (h1.trans z))];exact⟨h1,h2,h3⟩
theorem KT.put (r:KT H kvs xs) (k:List fb) (hb:H b=some (.tup (k.map kV))) (ry:bj y u) :
  KT H (mC kvs k y) (storedH xs k b u):=by
 have e:(kvs.any λkv=>decide (kv.1=k))=(Xc xs k).isSome:=by
  rw[qF,(r.val k).isSome_eq,Wa]
 unfold mC storedH;rw[e]
 by_cases q:(Xc xs k).isSome=true
 ·rw[NZ q,NZ q];exact r.repl k ry
 ·rw[NS q,NS q];exact Paired.snoc r ⟨rfl,hb,ry⟩
theorem KT.keeps (r:KT H kvs xs)(ht:∀ b ys,H b=some (.tup ys)->H' b=some (.tup ys)):KT H' kvs xs:=
 Paired.mapP r λ_ _ z=>⟨z.1,ht _ _ z.2.1,z.2.2⟩
section
variable {P:ND}{w:N6}{H:Hp}{h:OZ}{a:Nn}
theorem GF (ok:jl P w H h)(e:Rd H a u):bA P w H h a u:=e.ok ok
theorem DI (ok:jl P w H h)(e:Rd H a (.dK kvs)):kvs.length<=Nv/\(a==OB)=false/\∃ vs,KV kvs vs/\h.DictOf (bC P w) a vs:=
 show bA P w H h a (.dK kvs) from GF ok e
theorem Lu (ok:jl P w H h)(e:H a=some (.dK kvs)):kvs.length<=Nv/\(a==OB)=false/\∃ vs,KV kvs vs/\h.DictOf (bC P w) a vs:=DI ok (.inl e)
theorem qu (ok:jl P w H h)(e:H a=some (.tup (ks.map kV))):(QR (bC P w)).is h ks a:=by
 obtain⟨_,its,r,o,h1,h2,n,h3⟩:=(show bA P w H h a (.tup (ks.map kV)) from ok a _ e)
 exact⟨o,its.toArray,n,h1,h2,h3,by simpa using tM r⟩
theorem tF (ok:jl P w H h) (e:Rd H a (.dT kvs)):kvs.length <= Nv/\(a == OB)=false /\
  ∃ xs,KT H kvs xs/\h.DictOfH (QR (bC P w)) a xs:=by
 obtain⟨z,y,xs,r,o,es,ep,h1,h2,h3,h4,h5⟩:=(show bA P w H h a (.dT kvs) from GF ok e)
 refine⟨z,y,xs,r,o,es,ep,h1,h2,h3,h4,λx hx=>?_,h5⟩;have all:∀ {l:List (List fb×V)}{m:List (List fb×Nn×Nd)},KT H l m->∀ x∈m,(QR (bC P w)).is h x.1 x.2.1:=by
  intro l m q
  induction q with
  |nil=>intro x hx;exact nomatch hx
  |@cons p q ps qs hq t ih=>
   intro x hx;rcases Nl.mp hx with e|hx
   ·subst e;exact qu ok (by rw[<- hq.1];exact hq.2.1)
   ·exact ih x hx
 exact all r x hx
theorem K9 (ok:jl P w H h) (e:H a=some (.dT kvs)):kvs.length <= Nv/\(a == OB)=false /\
  ∃ xs,KT H kvs xs/\h.DictOfH (QR (bC P w)) a xs:=tF ok (.inl e)
end
def xV (H:Hp)(a:Nn)(y:V)(r:Option V):Prop:=
 (∃ kvs k,Rd H a (.dK kvs)/\y=kV k/\r=mU kvs k)\/∃ kvs k b,Rd H a (.dT kvs)/\y=.ref b/\H b=some (.tup (k.map kV))/\r=mU kvs k
def El (H:Hp)(a:Nn)(y v:V)(H':Hp):Prop:=
 (∃ kvs k,H a=some (.dK kvs)/\y=kV k/\kvs.length<Nv/\H'=upd H a (.dK (mC kvs k v))) \/
 ∃ kvs k b,H a=some (.dT kvs)/\y=.ref b/\H b=some (.tup (k.map kV))/\kvs.length<Nv/\H'=upd H a (.dT (mC kvs k v))
theorem xV.t {H:Hp}{a b:Nn}{kvs:List (List fb×V)}{k:List fb}(e:H a=some (.dT kvs))(eb:H b=some (.tup (k.map kV))):xV H a (.ref b) (mU kvs k):=.inr ⟨kvs,k,b,.inl e,rfl,eb,rfl⟩
theorem El.t {H:Hp}{a b:Nn}{kvs:List (List fb × V)}{k:List fb}{v:V} (e:H a=some (.dT kvs)) (eb:H b=some (.tup (k.map kV))) (hl:kvs.length < Nv) :
  El H a (.ref b) v (upd H a (.dT (mC kvs k v))):=.inr ⟨kvs,k,b,e,rfl,eb,hl,rfl⟩
section
variable {X:Cx}{pins:List (Nn×Obj)}{σ:St}{H:Hp}{s:Nh}{a:Nn}{y v:V}{u r:Nd}{o:Option V}{A:Oa}{E:Nd->Nh->Prop}
theorem aD.big (I:aD X pins σ H s):OB<s.heap.objs.size:=by
 have h:Nk<s.heap.objs.size:=(I.mod.glob.keeps I.bk).lt;exact Nat.lt_trans (by decide) h
theorem BY (hu:A.units + 1 < cLine) (I:aD X pins σ H s) (g:xV H a y (some v)) (ry:bj y u) (h:∀ w' s',aD X pins σ H s'->bj v w'->Q w' s') :
  Nu (NI X.prog X.w) A (U' (.ref a) u) Q E s:=by
 rcases g with ⟨kvs,k,e,ey,l⟩|⟨kvs,k,b,e,ey,eb,l⟩
 ·subst ey;obtain⟨z,hd,vs,rel,dd⟩:=DI I.hok e;obtain⟨w',hw,rw'⟩:=kP.some_of (v:=v) (o:=Wk vs k) (by rw[l];exact rel.val k);exact wpAny_getItem_of (DV ry) dd.mapOf hw (h w' _ (I.tok _) rw')
 ·subst ey;cases(show u=NN b from ry);obtain⟨z,hd,xs,rel,dd⟩:=tF I.hok e;obtain⟨w',hw,rw'⟩:=kP.some_of (v:=v) (o:=(Xc xs k).map (·.2)) (by rw[l];exact rel.val k);obtain⟨p,hp,hp2⟩:=Nz.mp hw;refine wpAny_getItem_heap (tupleKind_room_in1 hu) (qu I.hok eb) dd hp ?_;rw[hp2];exact h w' _ (I.tok _) rw'
theorem vm {t':Nat} (I:aD X pins σ H s) (mu:Lv (H a)) (hs:OL a s.heap h') (he:∃ q,h'.get? a=some q) (new:bA X.prog X.w (upd H a ob) h' a ob) :
  aD X pins σ (upd H a ob) { s with heap:=h',toks:=t' }:=
 I.write (x:=a) (e:=a) mu (.inl rfl) (λb q hb z=>(hs.2 b hb).trans z) he new
theorem IH (z:kvs.length <= Nv) (hd:(a == OB)=false) (rel:KV kvs vs) (dd:h'.DictOf (bC P w) a vs) :
  bA P w H' h' a (.dK kvs):=⟨z,hd,vs,rel,dd⟩
theorem Bp (hu:A.units + 1 < cLine) (I:aD X pins σ H s) (g:El H a y v H') (ry:bj y u) (rv:bj v r) (h:∀ s',aD X pins σ H' s'->Q () s') :
  Nu (NI X.prog X.w) A (setItem (.ref a) u r) Q E s:=by
 rcases g with ⟨kvs,k,e,ey,l,eH⟩|⟨kvs,k,b,e,ey,eb,l,eH⟩
 ·subst ey eH;obtain⟨z,hd,vs,rel,dd⟩:=Lu I.hok e;have hz:vs.length<=Nv:=by rw[<- rel.length];exact z
  have hl:(mC kvs k v).length<=Nv:=by have:=oS kvs k v;lia
  refine wpAny_setItem_pairs (hsz:=hz) (DV ry) dd λh' dd' hs=>h _ ?_
  have he:∃ q,h'.get? a=some q:=let ⟨q,_,_,hq,_⟩:=dd';⟨q,hq⟩
  exact vm I (by rw[e];exact True.intro) hs he (IH hl hd (rel.put k rv) dd')
 ·subst ey eH;cases(show u=NN b from ry);obtain⟨z,hd,xs,rel,dd⟩:=K9 I.hok e;have hz:xs.length<=Nv:=by rw[<- Uo rel];exact z
  have hl:(mC kvs k v).length<=Nv:=by have:=oS kvs k v;lia
  refine wpAny_setItem_heap (hsz:=hz) (tupleKind_room_in1 hu) (qu I.hok eb) dd λh' dd' hs=>h _ ?_
  obtain⟨q,es,ep,hq,h2,h3,h4,_,h5⟩:=dd';refine vm I (by rw[e];exact True.intro) hs ⟨q,hq⟩ ⟨hl,hd,_,(rel.put k eb rv).keeps λc ys ec=>?_,q,es,ep,hq,h2,h3,h4,h5⟩;rw[az (GB ec e (λz=>nomatch z))];exact ec
end
def Lz (i:Po):Prop:=∀ ov iv,subscripted i false ov iv=operate [ov,iv] (U' ov iv)
theorem Ge {prog:ND}{w:N6}{A:Oa}{E:Nd->Nh->Prop}{s:Nh}{env:Env}{value slice:Po}{pos:Pos}{T id:String}{Q:Nd->Nh->Prop}
  (hl:typeLookup (.type T) "__getitem__"=pure (some (.builtin id)))(hs:Lz slice)
  (h:Nu (NI prog w) A (QT value env) (λo s₁=>Nu (NI prog w) A (QT slice env) (λi s₂=>s₂.TypeIs o T/\Nu (NI prog w) A (U' o i) Q E s₂) E s₁) E s):
  Nu (NI prog w) A (QT (.Subscript value slice pos) env) Q E s:=by
 refine We (Oi h (λo s₁ h₁=>Oi h₁ (λi s₂ h₂=>?_) λ_ _ x=>x) λ_ _ x=>x);obtain⟨hT,h₂⟩:=h₂;unfold V3;refine KE ?_;rw[getitemInPython_of_ne hT.not_modules];refine KE (Qt hT hl ?_);have fin:Nu (NI prog w) A (subscripted slice false o i) (λr s₃=>Nu (NI prog w) A (letTemporaryGo value o r>>=λ_=>pure r) Q E s₃) E s₂:=by
  rw[hs o i];exact wpAny_operating (Oi h₂ (λr s₃ h₃=>KE (wpAny_letTemporaryGo (Nc h₃))) λ_ _ x=>x)
 first
  |exact Nc (KE fin)
  |exact KE (Nc (KE fin))
  |exact KE fin
theorem xI (I:aD X pins σ H s)(g:xV H a y o):s.TypeIs (.ref a) "dict":=by
 rcases g with ⟨kvs,k,e,_,_⟩|⟨kvs,k,b,e,_,_,_⟩
 ·obtain⟨_,_,vs,_,dd⟩:=DI I.hok e;exact dd.typeIs
 ·obtain⟨_,_,xs,_,dd⟩:=tF I.hok e;exact dd.typeIs
def K_ (td ty:TE):TE:=λσ H Q=>td σ H λx H1=>ty σ H1 λy H2=>∃ a v,x=.ref a/\xV H2 a y (some v)/\Q v H2
def KY (td ty tv:TE):TS:=λD σ H=>tv σ H λv H1=>td σ H1 λx H2=>ty σ H2 λy H3=>∃ a H4,x=.ref a/\El H3 a y v H4/\D.nx σ H4
section
variable {X:Cx}{o i e value:Po}{pos pos' tpos:Pos}{td ty tv:TE}
theorem Eu (hu:X.A.units+1<cLine)(ho:WE X o td)(hi:WE X i ty)(hs:Lz i):WE X (.Subscript o i pos) (K_ td ty):=by
 have ho:=ho.go;have hi:=hi.go;refine⟨?_⟩;intro pins s σ H Q I h;refine Ge PySem.F.slot_dict_getitem.lookup hs (bM (ho pins s σ H _ I h) λu s1 ⟨x,H1,I1,rx,q1⟩=>bM (hi pins s1 σ H1 _ I1 q1) λiv s2 ⟨y,H2,I2,ry,a,v,ex,g,q2⟩=>?_);subst ex;obtain rfl:u=NN a:=rx;exact⟨xI I2 g,BY hu I2 g ry λw' s3 I3 rw'=>⟨v,H2,I3,rw',q2⟩⟩
theorem Cg (hu:X.A.units + 1 < cLine) (ho:WE X o td) (hi:WE X i ty) (hv:WE X value tv) (hs:Td value (some (.Subscript o i pos')) pos.line X.env=pure false) :
  WS X (.Assign [.Subscript o i pos'] value pos) (KY td ty tv):=by
 have ho:=ho.go;have hi:=hi.go;have hv:=hv.go;refine⟨?_⟩;intro pins s σ H D I h;refine UU (bM (hv pins s σ H _ I h) λr s1 ⟨v,H1,I1,rv,q1⟩=>bM (ho pins s1 σ H1 _ I1 q1) λu s2 ⟨x,H2,I2,rx,q2⟩=>bM (hi pins s2 σ H2 _ I2 q2) λiv s3 ⟨y,H3,I3,ry,a,H4,ex,g,q3⟩=>?_) hs;subst ex;obtain rfl:u=NN a:=rx;exact Bp hu I3 g ry rv λs4 I4=>⟨σ,H4,I4,q3⟩
end
theorem Dk (h:OZ)(hb:OB<h.objs.size):bA P w H (h.push { cls:=.type "dict",data:=.dict #[] }) h.objs.size (.dT []):=
 ⟨Om _,ON.mpr (Px (NA hb)),[],.nil,_,#[],0,Ng _ rfl,⟨rfl,rfl,rfl⟩,rfl,rfl,List.nodup_nil⟩
def IE:TE:=λ_ H Q=>∀ p,H p=none->Q (.ref p) (upd H p (.dT []))
section
variable {X:Cx}{pos:Pos}
theorem A5:WE X (.Dict [] [] pos) IE:=by
 exact⟨λpins s σ H Q I h=>
 UJ ⟨.ref s.heap.objs.size,_,I.laid (a:=s.heap.objs.size) (o:=.dT []) (t':=s.toks) (λ_ _ q=>Na _ q) (Nj _) (Dk s.heap I.big),rfl,h _ (I.hok.fresh (Nj _))⟩⟩
end
def aw (H:Hp)(a:Nn):Prop:=(∃ kvs,Rd H a (.dK kvs))\/∃ kvs,Rd H a (.dT kvs)
end L2
namespace PySem
section
variable {prog:ND}{w:N6}{K:Type}[DecidableEq K]{knd:WP prog w K}{A:Oa}{E:Nd->Nh->Prop}{s:Nh}
theorem pE (knd:WP prog w K) (d:Nn) (hd:(d == OB)=false) :
  MeetsIn prog w (PN.«dict.__len__» ⟨[.ref d],[]⟩) (λ_ R s=>∃ xs,s.heap.DictOfH knd d xs/\R (.ok (.ret (.int xs.length s.toks))) { s with toks:=s.toks+1 }):=
 .of_wp λA R s ⟨xs,hm,h⟩=>by
  obtain⟨o,es,ep,ho,hc,hdat,he,hi,hn⟩:=hm;show Nu _ _ (dictSize d>>=_) _ _ s;unfold dictSize;refine KE (KE (OR ho hdat (Nc ?_)));show Nu _ _ (Builtin.Dict.pendingCount d>>=_) _ _ s;refine KE (wpAny_pendingCount_other hd ?_);refine wpAny_ret_mkInt ?_;rw[Wu,Vb he];exact h
theorem A4 {d:Nn}{xs:List (K × Nn × Nd)}{Q:Nd->Nh->Prop} (hd:(d == OB)=false) (hm:s.heap.DictOfH knd d xs) (hfit:(xs.length:Int) < 2 ^ 63)
  (h:Q (.int xs.length (s.toks+1)) { s with toks:=s.toks+1+1 }):Nu (NI prog w) A (PN.«len» ⟨[.ref d],[]⟩) (λfin s'=>∃ r,fin=.done (.ret r)/\Q r s') E s:=by
 unfold PN.«len»;refine KE (m:=oneArg "len" _) (Nc ?_);refine KE (m:=callSpecial? (.ref d) (Oo "__len__")) (N2 (name:=Oo "__len__") hm.typeIs F.slot_dict_len
  (call_meetsIn F.slot_dict_len hm.typeIs F.entry_dict_len (F.args_dict_len_1 _) (pE knd d hd) ⟨xs,hm,?_⟩))
 show Nu _ _ _ _ _ { s with toks:=s.toks+1 };refine KE (Ox (Nc ?_));refine KE (PH ?_);show Nu _ _ (if((xs.length:Nat):Int)<0 then _ else _) _ _ _;rw[NS (by lia)];show Nu _ _ (if((xs.length:Nat):Int)>=2^63 then _ else _) _ _ _;rw[NS (by lia)];exact KE (wpAny_mkInt (Nc ⟨_,rfl,h⟩))
theorem BN (hd:(d == OB)=false) (hm:s.heap.DictOfH knd d xs) (hfit:(xs.length:Int) < 2 ^ 63)
  (h:Q (.int xs.length (s.toks+1)) { s with toks:=s.toks+1+1 }):Nu (NI prog w) A (call (.builtin "len") [.ref d]) Q E s:=
 Calls.call_function_entry kind_len plain_len entry_len (args_len1 _) (A4 hd hm hfit h)
theorem oA:∀ (l:List O2) (h:Int),(l.map (·.hash)).Nodup->(l.filter (·.hash==h)).length<=1
 |[],_,_=>Om _
 |e::r,h,hn=>by
  rw[NE,Pw] at hn;rw[List.filter_cons]
  by_cases q:(e.hash==h)=true
  ·rw[NZ q];have q':e.hash=h:=by simpa using q
   have z:r.filter (·.hash==h)=[]:=List.filter_eq_nil_iff.mpr λa ha y=>hn.1 (by
    have y':a.hash=h:=by simpa using y
    rw[q',<- y'];exact Ov.mpr ⟨a,ha,rfl⟩)
   rw[z];exact Nj _
  ·rw[NS q];exact oA r h hn.2
theorem yp {id:String}{d:Nn}{o:Obj}{es:Array O2}{ep:Nat}{Q:Array O2->Nh->Prop} (ho:s.heap.get? d=some o) (hd:o.data=.dict es ep)
  (hk:∀ e∈es.toList,∃ a,e.key=.ref a/\s.TypeIs (.ref a) "tuple")(hn:(es.toList.map (·.hash)).Nodup)(h:Q es s):Nu (NI prog w) A (SI id d) Q E s:=by
 unfold SI;refine KE (OR ho hd ?_);refine KE ?_;rw[<- P_];refine Rf _ (λc6 _ s'=>s'=s/\∀ e∈c6,e∈es.toList) _ ?_ ?_ _ _ ⟨rfl,λe q=>q⟩
 ·rintro e c6 b s' ⟨rfl,hr⟩;obtain⟨a,ha,hT⟩:=hk e (hr e NC);have hf:¬ (es.filter (·.hash==e.hash)).size>1:=by
   have z:=oA es.toList e.hash hn;have z2:(es.filter (·.hash==e.hash)).size=(es.toList.filter (·.hash==e.hash)).length:=by
    rw[<- Oy,Array.toList_filter]
   lia
  have q:Nu (NI prog w) A (Vg e.key) (λr s''=>r=false/\s''=s') E s':=by
   rw[ha];unfold Vg;exact KE (Qt hT Rr.lookup (Nc ⟨by decide,rfl⟩))
  refine KE (Oi q (λr s'' hq=>?_) λ_ _ z=>z);obtain⟨rfl,rfl⟩:=hq;rw[NZ (by decide),NS hf];exact Nc ⟨rfl,λe q=>hr e (Nr _ q)⟩
 ·rintro b s' ⟨rfl,_⟩;exact Nc h
theorem Ep (hdo:d ≠ o) (hoS:(o == OB)=false) (hd:s.heap.DictOfH knd d []) (ho:s.heap.DictOfH knd o xs)
  (hT:∀ x∈xs,s.TypeIs (.ref x.2.1) "tuple")(hh:(xs.map λx=>knd.hash x.1).Nodup)(hsz:xs.length<=Nv)(hne0:xs≠[])
  (hQ:∀ h',h'.DictOfH knd d xs->OL d s.heap h'->Q () { s with heap:=h' }):Nu (NI prog w) A (UL nm d o) Q E s:=by
 obtain⟨od,esd,epd,hod,hcd,hdd,hed,hid,hnd⟩:=id hd;obtain⟨oo,eso,epo,hoo,hco,hdo',heo,hio,hno⟩:=id ho;have e0:esd=#[]:=by
  have z:=Vb hed;exact Array.eq_empty_of_size_eq_zero z
 subst e0;have hzo:eso.size=xs.length:=Vb heo;unfold UL;rw[NS (by simpa using hdo)];unfold QL;rw[NS (by rw[hoS];exact NK)];refine KE (Nc ?_);refine KE (OR hoo hdo' ?_);dsimp only;cases xs with
 |nil=>exact absurd rfl hne0
 |cons x r=>
  have hfew:(decide (eso.size<=8)&&eso.all λe=>(keyPart e.key).isSome)=false:=by
   have z:(eso.all λe=>(keyPart e.key).isSome)=false:=by
    rw[<- Array.all_toList,heo,NE,Ru];rfl
   rw[z,Bool.and_false]
  rw[hfew,NZ (by decide)];refine KE (OR hod hdd ?_);rw[NZ (by decide)];refine KE (yp hoo hdo' (λe q=>?_) ?_ ?_)
  ·rw[heo] at q;obtain⟨y,hy,rfl⟩:=Ov.mp q;exact⟨_,rfl,hT y hy⟩
  ·rw[heo,PR];exact hh
  ·have hne:¬ eso.isEmpty=true:=λz=>by
    rw[Array.isEmpty_iff.mp z] at hzo;cases hzo
   rw[NZ (by simpa using hne)];have hto:eso.size<=Nv+1:=by lia
   refine KE (wpAny_updateDictKeysTo hod hdd (Nc (hQ _ ⟨_,_,epd+1,OM _ hod (Obj.isFreed_of_dict (Vm hdd _)),hcd.mapDictKeys _,
    Vm hdd _,heo,λy hy=>knd.keeps (hio y hy) hod hdd (Ol ..),hno⟩ (Ol ..))) hto)
theorem FB (hoS:(o == OB)=false) (ho:s.heap.DictOfH knd o xs) (hsz:xs.length <= Nv) (hne0:xs ≠ [])
  (hT:∀ x∈xs,s.TypeIs (.ref x.2.1) "tuple")(hh:(xs.map λx=>knd.hash x.1).Nodup)(hpush:∀ x∈xs,knd.is (s.heap.push { cls:=.type "dict",data:=.dict #[] }) x.1 x.2.1)
  (h:∀ h',h'.DictOfH knd s.heap.objs.size xs->OL s.heap.objs.size (s.heap.push { cls:=.type "dict",data:=.dict #[] }) h'->Q (.ref s.heap.objs.size) { s with heap:=h' }):
  Nu (NI prog w) A (call (.type "dict") [.ref o]) Q E s:=by
 refine callType_codes (Q₁:=λobj s₁=>obj=.ref s.heap.objs.size/\s₁={ s with heap:=s.heap.push { cls:=.type "dict",data:=.dict #[] } }) F.kt_called_dict (F.kt_typeCall_dict_1 _) F.entry_dict_init (kt_code_dict_new _ ⟨rfl,rfl⟩) ?_;rintro obj s₁ ⟨rfl,rfl⟩;have hnew:(s.heap.push { cls:=.type "dict",data:=.dict #[] }).DictOfH knd s.heap.objs.size []:=Heap.DictOfH.new s.heap;have hdo:s.heap.objs.size≠o:=by
  obtain⟨_,_,_,hg,_⟩:=ho;exact λe=>absurd (Nf hg) (by rw[e];exact N0 _)
 have ho':(s.heap.push { cls:=.type "dict",data:=.dict #[] }).DictOfH knd o xs:=by
  obtain⟨oo,es,ep,h1,h2,h3,h4,h5,h6⟩:=ho;exact⟨oo,es,ep,Na _ h1,h2,h3,h4,hpush,h6⟩
 refine⟨hnew.typeIs,F.args_dict_init_2 _ _,?_⟩;unfold PN.«dict.__init__»;refine KE ?_;unfold Builtin.Dict.selfAndRest;refine KE (Sr hnew.typeIs ?_);show Nu _ _ (pure (s.heap.objs.size,[NN o])) _ _ _;refine Nc ?_;show Nu _ _ (Uf "dict.__init__" s.heap.objs.size (.ref o) [] .none) _ _ _;unfold Uf;refine KE (wpAny_typeOf ho'.typeIs ?_);rw[NS (by decide)];refine KE ?_;unfold Builtin.Dict.merge;refine KE ?_;unfold Builtin.Dict.readDirectly;refine KE (PF ho'.typeIs isSubtype_dict_dict ?_);simp only[QU,NY,Pl];refine KE (Qt ho'.typeIs UC.lookup (Nc ?_));simp only[Re,PD];refine KE (Nc ?_);refine Ep hdo hoS hnew ho' (λx hx=>?_) hh hsz hne0 λh' hd' hs'=>?_
 ·obtain⟨oo,e,c⟩:=hT x hx;exact⟨oo,Na _ e,c⟩
 show Nu _ _ (Builtin.Dict.addKeywords s.heap.objs.size []>>=_) _ _ _;exact KE (Nc (Nc ⟨rfl,h h' hd' hs'⟩))
end
end PySem
namespace TR
open PySem PySem.Spec PyProof.Rows L2
section
variable {X:Cx}
theorem BP:cq X (.builtin "len") (λxs H Q=>∃ p kvs,xs=[.ref p]/\Rd H p (.dT kvs)/\Q (.int kvs.length) H):=by
 intro pins s σ H xs us Q I r h;obtain⟨p,kvs,rfl,e,q⟩:=h;obtain⟨u,rfl,rx⟩:=fN r;cases rx;obtain⟨z,hd,vs,rel,dd⟩:=tF I.hok e;have hn:=lN;have hl:kvs.length=vs.length:=rel.length;exact BN hd dd (by lia) ⟨.int kvs.length,H,I.tok _,⟨_,by rw[hl]⟩,q⟩
end
def CP (kvs:List (List fb×V)):Prop:=∀ (P:ND) (w:N6),(kvs.map λkv=>(QR (bC P w)).hash kv.1).Nodup
section
variable {X:Cx}
theorem Gi (r:L2.KT H kvs xs) :
  (kvs.map λkv=>(QR (bC P w)).hash kv.1)=xs.map λx=>(QR (bC P w)).hash x.1:=by
 induction r with
 |nil=>rfl
 |cons h t ih=>rw[NE,NE,ih,h.1]
theorem FF (r:L2.KT H kvs xs):∀ x∈xs,H x.2.1=some (.tup (x.1.map kV)):=by
 induction r with
 |nil=>intro x hx;exact nomatch hx
 |@cons p q ps qs h t ih=>
  intro x hx;rcases Nl.mp hx with rfl|hx
  ·rw[<- h.1];exact h.2.1
  ·exact ih x hx
theorem yN:cq X (.type "dict") (λxs H Q=>∃ p kvs,xs=[.ref p]/\Rd H p (.dT kvs)/\kvs≠[]/\CP kvs/\∀ a,H a=none->Q (.ref a) (upd H a (.dT kvs))):=by
 intro pins s σ H xs us Q I r h;obtain⟨p,kvs,rfl,e,hne,hh,q⟩:=h;obtain⟨u,rfl,rx⟩:=fN r;cases rx;obtain⟨z,hd,vs,rel,dd⟩:=tF I.hok e;have hl:kvs.length=vs.length:=rel.length;have hk:=FF rel;have is0:∀ x∈vs,(QR (bC X.prog X.w)).is s.heap x.1 x.2.1:=λx hx=>qu I.hok (hk x hx)
 refine FB hd dd (by lia) (λz0=>?_) (λx hx=>(is0 x hx).typeIs) (by rw[<- Gi rel];exact hh _ _) (λx hx=>?_) λh' hm hs=>?_
 ·rw[z0] at hl;exact hne (Uk.mp hl)
 ·obtain⟨o,its,n,h1,h2,h3,h4⟩:=is0 x hx;exact⟨o,its,n,Na _ h1,h2,h3,h4⟩
 ·have kk:∀ b u,s.heap.get? b=some u->h'.get? b=some u:=λb u e=>(hs.2 b (NA (Nf e))).trans (Na _ e)
  obtain⟨oo,es,ep,g1,g2,g3,g4,g5,g6⟩:=hm;have fr:=I.hok.fresh (Nj s.heap.objs.size);refine⟨.ref s.heap.objs.size,_,I.laid (a:=s.heap.objs.size) (o:=.dT kvs) (t':=s.toks) kk (Nj _) ⟨z,ON.mpr (Px (NA I.big)),vs,?_,oo,es,ep,g1,g2,g3,g4,g6⟩,rfl,q _ fr⟩;exact Paired.mapP rel λa b c=>⟨c.1,by rw[az (aS c.2.1 fr)];exact c.2.1,c.2.2⟩
end
def cY (t:Nat×Nat×Nat):List fb:=[.inl (t.1:Int),.inl (t.2.1:Int),.inl (t.2.2:Int)]
def aU (k:Nat):List (Nat×Nat×Nat):=(OP k).flatMap λa=>(OP k).flatMap λb=>(OP k).map λc=>(a,b,c)
def rj (t:Nat×Nat×Nat):Int:=reduceHash (OF [hashInt (t.1:Int),hashInt (t.2.1:Int),hashInt (t.2.2:Int)])
theorem Ca (P:ND)(w:N6)(t:Nat×Nat×Nat):(QR (bC P w)).hash (cY t)=rj t:=by
 show QQ (bC P w) (cY t)=rj t;unfold QQ cY rj;simp only[NE,PU];rfl
set_option maxRecDepth 1000000 in
theorem Gx:((aU 7).map rj).Nodup:=by decide +kernel
theorem GD:∀ {l:List α},(l.map f).Nodup->∀ {a b:α},a∈l->b∈l->f a=f b->a=b
 |[],_,_,_,h,_,_=>nomatch h
 |x::r,hn,a,b,ha,hb,e=>by
  rw[NE,Pw] at hn;rcases Nl.mp ha with za|ha
  ·rcases Nl.mp hb with zb|hb
   ·rw[za,zb]
   ·exact absurd (Ov.mpr ⟨b,hb,by rw[<- e,za]⟩) hn.1
  ·rcases Nl.mp hb with zb|hb
   ·exact absurd (Ov.mpr ⟨a,ha,by rw[e,zb]⟩) hn.1
   ·exact GD hn.2 ha hb e
theorem cZ {k:Nat}:t∈aU k↔t.1<k/\t.2.1<k/\t.2.2<k:=by
 obtain⟨a,b,c⟩:=t;unfold aU;simp only[Q_,Ov,OO,VQ];constructor
 ·rintro⟨x,hx,y,hy,z,hz,rfl,rfl,rfl⟩;exact⟨hx,hy,hz⟩
 ·rintro⟨hx,hy,hz⟩;exact⟨a,hx,b,hy,c,hz,rfl,rfl,rfl⟩
theorem Br (ht:t∈aU 7)(hu:u∈aU 7)(e:rj t=rj u):t=u:=GD Gx ht hu e
theorem DF {h:List fb->Int}{g:Nat×Nat×Nat->Int}(hg:∀ t,h (cY t)=g t):∀ {kvs:List (List fb×V)}{ts:List (Nat×Nat×Nat)},kvs.map (·.1)=ts.map cY->(kvs.map λkv=>h kv.1)=ts.map g
 |[],[],_=>rfl
 |[],_::_,e=>nomatch e
 |_::_,[],e=>nomatch e
 |p::r,t::q,e=>by
  rw[NE,NE] at e;injection e with e1 e2
  rw[NE,NE,DF hg e2,e1,hg]
theorem wY {g:Nat×Nat×Nat->Int}{l:List (Nat×Nat×Nat)}(hg:∀ {t u},t∈l->u∈l->g t=g u->t=u):∀ {ts:List (Nat×Nat×Nat)},ts.Nodup->(∀ t∈ts,t∈l)->(ts.map g).Nodup
 |[],_,_=>List.nodup_nil
 |t::r,hn,hb=>by
  rw[Pw] at hn;rw[NE,Pw];refine⟨λz=>?_,wY hg hn.2 λu hu=>hb u (Nr _ hu)⟩;obtain⟨u,hu,e⟩:=Ov.mp z;have:=hg (hb u (Nr _ hu)) (hb t NC) e;exact hn.1 (this▸hu)
theorem FP {h:List fb->Int}{g:Nat × Nat × Nat->Int}{l:List (Nat × Nat × Nat)} (h1:∀ t,h (cY t)=g t) (h2:∀ {t u},t ∈ l->u ∈ l->g t=g u->t=u) {kvs:List (List fb × V)}{ts:List (Nat × Nat × Nat)}
  (hk:kvs.map (·.1)=ts.map cY)(hn:ts.Nodup)(hb:∀ t∈ts,t∈l):(kvs.map λkv=>h kv.1).Nodup:=by
 rw[DF h1 hk];exact wY h2 hn hb
theorem vG {kvs:List (List fb×V)}{ts:List (Nat×Nat×Nat)}(hk:kvs.map (·.1)=ts.map cY)(hn:ts.Nodup)(hb:∀ t∈ts,t∈aU 7):CP kvs:=
 λP w=>FP (h:=(QR (bC P w)).hash) (g:=rj) (l:=aU 7) (Ca P w) Br hk hn hb
end TR
namespace PySem
def Heap.RawD (h:OZ)(d:Nn)(es:Array O2)(ep:Nat):Prop:=∃ o,h.get? d=some o/\o.ExactDict/\o.data=.dict es ep
section
variable {prog:ND}{w:N6}{A:Oa}{E:Nd->Nh->Prop}{s:Nh}{d v:Nn}{es:Array O2}{ep:Nat}
theorem Heap.RawD.typeIs (hm:s.heap.RawD d es ep):s.TypeIs (.ref d) "dict":=by obtain⟨o,ho,hc,_⟩:=hm;exact⟨o,ho,hc.1⟩
theorem Heap.RawD.of {K:Type}[DecidableEq K]{knd:WP prog w K}{xs:List (K×Nn×Nd)}(hm:s.heap.DictOfH knd d xs):∃ es ep,s.heap.RawD d es ep/\es.toList=xs.map (Ve knd):=by
 obtain⟨o,es,ep,h1,h2,h3,h4,_⟩:=hm;exact⟨es,ep,⟨o,h1,h2,h3⟩,h4⟩
theorem Ay (d:Nn) (hd:(d == OB)=false) :
  MeetsIn prog w (PN.«dict.items» ⟨[.ref d],[]⟩) (λ_ R s=>(∃ es ep,s.heap.RawD d es ep) /\
   R (.ok (.ret (.ref s.heap.objs.size))) { s with heap:=s.heap.push { cls:=.type "dict_items",data:=.fields #[.ref d] } }):=
 .of_wp λA R s ⟨⟨es,ep,hm⟩,h⟩=>by
  unfold PN.«dict.items» Builtin.Dict.noArgs;refine KE (KE (Sr hm.typeIs (Nc ?_)));unfold QL;rw[NS (by rw[hd];exact NK)];exact KE (Nc (KE (N4 (Nc ⟨_,rfl,h⟩))))
theorem CW (hv:s.heap.IsItemsView v d) (hm:s.heap.RawD d es ep)
  (hQ:Q (.ref s.heap.objs.size) { s with heap:=s.heap.push { cls:=.type "dict_itemiterator",data:=.fields #[.none,.bool false,.ref d,.int 0 0,.int es.size 0,.int ep 0,.none,.none] } }):
  Nu (NI prog w) A (W9 (.ref v)) Q E s:=by
 obtain⟨ov,hov,hcv,hdv⟩:=id hv;obtain⟨o,ho,hc,hdat⟩:=id hm;refine wpAny_pyIter_slot hv.typeIs UN (Oj UN hv.typeIs F.entry_dict_items_iter ?_ (F.args_dict_items_iter_1 _));unfold PN.«dict_items.__iter__» W' Wm;refine KE (Nc (KE (KE (N_ hov hdv (x:=.ref d) rfl (Nc ?_)))));refine KE (KE (OR ho hdat (KE (QS ho hdat ?_))));have hown:Pb "dict_itemiterator"=true:=by decide
 simp only[hown,PD];refine N4 (Nc ⟨_,rfl,"dict_itemiterator",_,⟨_,Ng _ rfl,rfl⟩,O5.lookup,?_⟩)
  (by simp only[sizeOk,Rg,No,NL,N5,Ry,P5];lia)
 simpa [RL,Rg] using hQ
end
section
variable {prog:ND}{w:N6}{A:Oa}{E:Nd->Nh->Prop}{s:Nh}{d it:Nn}{es:Array O2}{i ep:Nat}{ok ov:Nd}
theorem Gg (hh:A.handled=none) (hit:RX s.heap it d i es.size ep ok ov) (hm:s.heap.RawD d es ep) (hx:es.size <= i)
  (hQ:∀ h',Uh it s.heap h'->Q none { s with heap:=h' }):Nu (NI prog w) A (Q1 (.ref it)) Q E s:=by
 obtain⟨od,hod,hcd,hdd⟩:=id hm;have hT:s.TypeIs (.ref it) "dict_itemiterator":=⟨_,hit,rfl⟩
 have hown:Pb "dict_itemiterator"=true:=by decide
 unfold Q1;refine KE (Pm (N2 (name:=Oo "__next__") hT O5
  (Oj O5 hT Sf ?_ (RU _))))
 refine KE (Nc (KE (KE ?_)))
 first|refine KE (Py hT (Nc ?_))|refine KE (Qi hT (Nc ?_))
 refine KE (TU hit rfl ?_);simp only[hown,PD];show Nu _ _ (if(NN d==Od)=true then _ else _) _ _ s;rw[NS (show ¬ ((NN d==Od)=true) from NK)];refine KE (Nc (KE (OR hod hdd ?_)));rw[NS (by simp)];refine KE (Nc (KE (QS hod hdd ?_)));rw[NS (by simp)];refine Nc ?_;simp only[show ¬ ((i:Int)<0) from by lia,Pl,Op,UK hx];refine KE ?_
 first|refine KE (Py hT (Nc ?_))|refine KE (Qi hT (Nc ?_))
 show Nu _ _ (setField (.ref it) 2 .none>>=_) _ _ s;refine KE (Sb hit rfl (by simp) ?_);show Nu _ _ (newExc (.type "StopIteration") []>>=_) _ _ _;refine KE ?_;simp only[newExc,newTuple];refine KE (N4 ?_ (by size_fits));refine KE (m:=Q8 _ _) (UA (a:=Od) (by first|rfl|(simp only[Q8];rfl)) ?_);refine N4 ?_ (by size_fits);simp only[raiseNew];refine KE (V4 ?_);rw[show A.in1.handled=none from hh];refine KE (Nc (wpAny_throw ?_));refine KE (PF (T:="StopIteration") (b:=true) ⟨_,Ng _ rfl,rfl⟩ TM ?_);exact Nc (hQ _ (((Ol ..).extBut.push _).push _))
theorem Dx (hit:RX s.heap it d i es.size ep ok ov) (hm:s.heap.RawD d es ep) (hx:es[i]?=some e)
  (hQ:∀ h',VJ h' it d (i+1) es.size ep e.key e.val s.heap.objs.size->h'.get? s.heap.objs.size=some { cls:=.type "tuple",data:=.seq #[e.key,e.val] }->h'.objs.size=s.heap.objs.size+1 ->
   (∀ b o,b≠it->s.heap.get? b=some o->h'.get? b=some o)->Q (some (.ref s.heap.objs.size)) { s with heap:=h' }):Nu (NI prog w) A (Q1 (.ref it)) Q E s:=by
 obtain⟨hp,g,dr,tk,os⟩:=s;obtain⟨od,hod,hcd,hdd⟩:=id hm;have hT:Shared.TypeIs ⟨hp,g,dr,tk,os⟩ (.ref it) "dict_itemiterator":=⟨_,hit,rfl⟩
 have hown:Pb "dict_itemiterator"=true:=by decide
 unfold Q1;refine KE (Pm (N2 (name:=Oo "__next__") hT O5
  (Oj O5 hT Sf ?_ (RU _))))
 refine KE (Nc (KE (KE ?_)))
 first|refine KE (Py hT (Nc ?_))|refine KE (Qi hT (Nc ?_))
 refine KE (TU hit rfl ?_);simp only[hown,PD];show Nu _ _ (if(NN d==Od)=true then _ else _) _ _ _;rw[NS (show ¬ ((NN d==Od)=true) from NK)];refine KE (Nc (KE (OR hod hdd ?_)));rw[NS (by simp)];refine KE (Nc (KE (QS hod hdd ?_)));rw[NS (by simp)];refine Nc ?_;simp only[show ¬ ((i:Int)<0) from by lia,Pl,Op,hx];refine KE ?_
 first|refine KE (Py hT (Nc ?_))|refine KE (Qi hT (Nc ?_))
 refine KE (RT hT ?_);show Nu _ _ (setField (.ref it) 3 (RL ((i:Int)+1))>>=_) _ _ ⟨hp,g,dr,tk,os⟩;refine KE (N3 hit (by simp) λh₁ he₁ hs₁=>?_);replace hs₁:OL it hp h₁:=hs₁;replace he₁:RX h₁ it d (i+1) es.size ep ok ov:=by
  have e:((i+1:Nat):Int)=(i:Int)+1:=by lia
  unfold RX;rw[e];simpa [RL] using he₁
 have hT₁:Shared.TypeIs ⟨h₁,g,dr,tk,os⟩ (.ref it) "dict_itemiterator":=⟨_,he₁,rfl⟩
 refine KE (Ox (KE (RT hT₁ (KE (RT hT₁ ?_)))));show Nu _ _ (RP (.ref it) 6 e.key e.val) _ _ ⟨h₁,g,dr,tk,os⟩;unfold RP;refine KE (TW ?_);have hz₁:h₁.objs.size=hp.objs.size:=hs₁.1;have hil:it<hp.objs.size:=Nf hit;have up:∀ b o,b≠it->hp.get? b=some o->(h₁.push { cls:=.type "tuple",data:=.seq #[e.key,e.val] }).get? b=some o:=λb o hb q=>Na _ (hs₁.extBut b o hb q)
 have he₂:RX (h₁.push { cls:=.type "tuple",data:=.seq #[e.key,e.val] }) it d (i+1) es.size ep ok ov:=Na _ he₁;have ht₂:(h₁.push { cls:=.type "tuple",data:=.seq #[e.key,e.val] }).get? hp.objs.size=some { cls:=.type "tuple",data:=.seq #[e.key,e.val] }:=by rw[<- hz₁];exact Ng _ rfl
 have hz₂:(h₁.push { cls:=.type "tuple",data:=.seq #[e.key,e.val] }).objs.size=hp.objs.size+1:=by rw[Oe,hz₁]
 rw[hz₁];generalize h₁.push { cls:=.type "tuple",data:=.seq #[e.key,e.val] }=h₂ at up he₂ ht₂ hz₂ ⊢;show Nu _ _ (Rh (.ref it)>>=_) _ _ ⟨h₂,g,dr,tk,os⟩;clear he₁ hs₁ hT₁ hz₁ h₁;refine KE ?_;unfold Rh;refine KE (N_ he₂ rfl (x:=.none) rfl (Nc ?_));simp only[PD];refine KE (N_ he₂ rfl (x:=ok) rfl (KE (N_ he₂ rfl (x:=ov) rfl ?_)));refine KE (N3 he₂ (by simp) λh₃ he₃ hs₃=>?_);replace hs₃:OL it h₂ h₃:=hs₃;replace he₃:RX h₃ it d (i+1) es.size ep e.key ov:=he₃;refine KE (N3 he₃ (by simp) λh₄ he₄ hs₄=>?_);replace hs₄:OL it h₃ h₄:=hs₄;replace he₄:RX h₄ it d (i+1) es.size ep e.key e.val:=he₄;refine KE (N3 he₄ (by simp) λh₅ he₅ hs₅=>?_);replace hs₅:OL it h₄ h₅:=hs₅;replace he₅:VJ h₅ it d (i+1) es.size ep e.key e.val hp.objs.size:=he₅;refine KE (N3 he₅ (by simp) λh₆ he₆ hs₆=>?_);replace hs₆:OL it h₅ h₆:=hs₆;replace he₆:VJ h₆ it d (i+1) es.size ep e.key e.val hp.objs.size:=he₆;have all:∀ b o,b≠it->h₂.get? b=some o->h₆.get? b=some o:=λb o hb q=>hs₆.extBut b o hb (hs₅.extBut b o hb (hs₄.extBut b o hb (hs₃.extBut b o hb q)))
 refine KE (PH (Nc (Nc ⟨_,rfl,Nc (hQ h₆ he₆ (all _ _ (O8 hil) ht₂) ?_ λb o hb q=>all b o hb (up b o hb q))⟩)));show h₆.objs.size=hp.objs.size+1;rw[hs₆.1,hs₅.1,hs₄.1,hs₃.1,hz₂]
end
end PySem
namespace TR
open PySem PySem.Spec PyProof.Rows L2
section
variable {X:Cx}{pins:List (Nn×Obj)}{σ:L2.St}{H:Hp}{s:Nh}{d:Nn}{u u':HO}
theorem xB (I:aD X pins σ H s)(e:H d=some u)(nt:∀ xs,u≠.tup xs)(no:∀ x,u≠.own x)(ntb:∀ ps,u≠.tbl ps)(nf:∀ o w,X.H₀ d≠some (.frz o w))(new:bA X.prog X.w (upd H d u') s.heap d u'):aD X pins σ (upd H d u') s:=by
 have ne:∀ b,H b=none->b≠d:=λb z q=>by rw[q,e] at z;cases z
 have fr:∀ b,H b=none->upd H d u' b=none:=λb z=>by rw[az (ne b z)];exact z
 refine⟨I.ok,I.os,I.bare,⟨I.base.keep,I.base.slot,λb o q n hx=>fr b (I.base.free b o q n hx),I.base.there,λb xs q=>?_,λb o w q=>?_,λb ps q=>?_⟩,I.loc,I.cell,fr _ I.free,λx c q=>fr _ (I.freeC x c q),λp hp=>?_,λb o q=>?_,I.len⟩
 ·have z:=I.base.tups b xs q;rw[az (λk=>nt xs (by rw[k,e] at z;exact Nb z))];exact z
 ·have z:=I.base.frzs b o w q;rw[az (λk=>nf o w (by rw[<- k];exact q))];exact z
 ·obtain⟨more,z⟩:=I.base.tbls b ps q;exact⟨more,by rw[az (λk=>ntb _ (by rw[k,e] at z;exact Nb z))];exact z⟩
 ·obtain⟨a1,a2,a3⟩:=I.pin p hp;exact⟨a1,fr _ a2,a3⟩
 ·by_cases hb:b=d
  ·subst hb;rw[ai] at q;cases q;exact new
  ·rw[az hb] at q;refine(I.hok b o q).stay (λ_ _ _ z=>z) (λc z=>?_) λc xs z=>?_
   ·rw[az (λk=>no b (by rw[k,e] at z;exact Nb z))];exact z
   ·rw[az (λk=>nt xs (by rw[k,e] at z;exact Nb z))];exact z
theorem yx (I:aD X pins σ H s)(e:H d=some (.dT kvs)):∃ o,s.heap.get? d=some o/\aD X pins σ (upd H d (.frz o (.dT kvs))) s:=by
 have ok:=I.hok d _ e;obtain⟨_,_,_,_,o,es,ep,g1,_⟩:=id ok;refine⟨o,g1,xB I e (λ_ z=>nomatch z) (λ_ z=>nomatch z) (λ_ z=>nomatch z) (λob w z=>?_) ⟨g1,?_⟩⟩
 ·have:=I.base.frzs d ob w z;rw[e] at this;cases this
 ·exact(show bA X.prog X.w H s.heap d (.dT kvs) from ok).stay (λ_ _ _ z=>z) (λc z=>by
   by_cases k:c=d
   ·rw[k,e] at z;cases z
   ·rw[az k];exact z) λc xs z=>by
   by_cases k:c=d
   ·rw[k,e] at z;cases z
   ·rw[az k];exact z
theorem B9 (I:aD X pins σ H s)(e:H d=some (.frz o (.dT kvs)))(nf:∀ o w,X.H₀ d≠some (.frz o w)):aD X pins σ (upd H d (.dT kvs)) s:=by
 have ok:=I.hok d _ e;obtain⟨_,ok⟩:=(show s.heap.get? d=some o/\bA X.prog X.w H s.heap d (.dT kvs) from ok)
 refine xB I e (λ_ z=>nomatch z) (λ_ z=>nomatch z) (λ_ z=>nomatch z) nf (ok.stay (λ_ _ _ z=>z) (λc z=>?_) λc xs z=>?_)
 ·by_cases k:c=d
  ·rw[k,e] at z;cases z
  ·rw[az k];exact z
 ·by_cases k:c=d
  ·rw[k,e] at z;cases z
  ·rw[az k];exact z
end
section
variable {X:Cx}
def LC (t:TE):TE:=λσ H Q=>t σ H λv H'=>∃ d o kvs,H d=some (.dT kvs)/\H' d=some (.frz o (.dT kvs))/\Q v (upd H' d (.dT kvs))
theorem EN (h:WE X e t):WE X e (LC t):=by
 have h:=h.go;refine⟨?_⟩;intro pins s σ H Q I q;refine bM (h pins s σ H _ I q) λu s1 h1=>?_
 obtain⟨v,H1,I1,r1,d,o,kvs,e0,e1,q1⟩:=h1;exact⟨v,_,B9 I1 e1 λo w z=>(by
  have:=I.base.frzs d o w z;rw[e0] at this;cases this),r1,q1⟩
end
def Mj (d:Nn)(o:Obj)(kvs:List (List fb×V)):It:=
 ⟨λi H=>H d=some (.frz o (.dT kvs))/\i<kvs.length,
  λi H v H'=>∃ (k:List fb) (x:V) (ka T:Nn),kvs[i]?=some (k,x)/\H ka=some (.tup (k.map kV))/\H T=none/\v=.ref T/\H'=upd H T (.tup [.ref ka,x]),
  λi H=>H d=some (.frz o (.dT kvs))/\kvs.length<=i⟩
theorem mZ:∀ {l₁:List α}{l₂:List β}{i:Nat}{a:α},Tt F l₁ l₂->l₁[i]?=some a->∃ b,l₂[i]?=some b/\F a b
 |_,_,_,_,.nil,e=>by simp at e
 |_,_,0,_,.cons r _,e=>by simp at e;subst e;exact⟨_,rfl,r⟩
 |_,_,i+1,x,.cons _ t,e=>by
  obtain⟨u,h1,h2⟩:=mZ (i:=i) (a:=x) t (by simpa using e);exact⟨u,by simpa using h1,h2⟩
theorem zU {ep:Nat} (hd:o.data=.dict es ep) (ok:bA P w H h d (.frz o (.dT kvs))) :
  h.RawD d es ep/\es.size=kvs.length/\∀ (i:Nat) (k:List fb) (x:V),kvs[i]?=some (k,x)->∃ (e:O2) (ka:Nn) (u:Nd),es[i]?=some e/\e.key=.ref ka/\e.val=u/\H ka=some (.tup (k.map kV))/\bj x u:=by
 obtain⟨g1,_,_,xs,pr,o',es',ep',g2,ex,dd,ee,_⟩:=ok;rw[g1] at g2;cases g2;rw[hd] at dd;cases dd;refine⟨⟨_,g1,ex,hd⟩,?_,λi k x hx=>?_⟩
 ·have z:=Ql SV ee;rw[Ni,Oy] at z;rw[z];exact pr.length.symm
 ·obtain⟨⟨k',ka,u⟩,h1,h2,h3,h4⟩:=mZ pr hx;refine⟨Ve (QR (bC P w)) (k',ka,u),ka,u,?_,rfl,rfl,h3,h4⟩;rw[<- Qa,ee,NB,h1];rfl
theorem xT {P:ND}{w:N6}{K:HD}{elts:List Po}{tk:Nat}{pos:Pos}{it d:Nn}{o:Obj}{kvs:List (List fb × V)}{es:Array O2}{ep:Nat} (hd:o.data=.dict es ep) :
  ug P w K (.Tuple elts tk pos) (Mj d o kvs) [it] it (λi h=>∃ ok ov,RX h it d i es.size ep ok ov) where
 mem:=by simp
 obj:=λi h st b hb=>by
  obtain⟨ok,ov,e⟩:=st;cases Nm.mp hb;exact⟨_,e,λv z=>nomatch z⟩
 keep:=λi h h' st k=>by
  obtain⟨ok,ov,e⟩:=st;exact⟨ok,ov,k it (by simp) _ e⟩
 item:=by
  intro X hP hw hK hc i pins s σ H E I hf st hg;subst hP hw hK;obtain⟨ok,ov,hit⟩:=st;obtain⟨hH,hi⟩:=hg;obtain⟨raw,hsz,at_⟩:=zU hd (I.hok d _ hH);obtain⟨e,ka,u,e1,e2,e3,e4,e5⟩:=at_ i _ _ (N7 hi);refine Dx hit raw e1 λh' hit' hT hz kk=>⟨_,rfl,?_⟩
  refine wpAny_letOwnedTupleGo_items hit' λg' z' sb=>?_
  have nit:it<s.heap.objs.size:=Nf hit;have tz:s.heap.objs.size≠it:=O8 nit;have k2:∀ b o,b≠it->s.heap.get? b=some o->g'.get? b=some o:=λb o hb e=>sb.extBut b o hb (kk b o hb e)
  have fit:=hf it (by simp);have I1:aD X pins σ H { s with heap:=g' }:=I.turned (it:=it) (t':=s.toks) k2 fit.1 fit.2.1 fit.2.2.2.1 fit.2.2.2.2.1 fit.2.2.2.2.2;have hT':g'.get? s.heap.objs.size=some { cls:=.type "tuple",data:=.seq #[e.key,e.val] }:=sb.extBut _ _ tz hT;have fT:H s.heap.objs.size=none:=I.hok.fresh (Nj _);have F:=I.fpOk (b:=s.heap.objs.size) (H':=H) (Nj _) fT;have I2:aD X pins σ (upd H s.heap.objs.size (.tup [.ref ka,kvs[i].2])) { s with heap:=g' }:=kr I1 fT I.sz F.2.1 F.2.2.2.2.1 F.2.2.2.2.2
   ⟨by show 2<=Nv;decide,[e.key,e.val],.cons (by rw[e2];rfl) (.cons (by rw[e3];exact e5) .nil),⟨_,hT',rfl,_,rfl⟩⟩
  exact⟨.ref s.heap.objs.size,_,I2,rfl,⟨kvs[i].1,kvs[i].2,ka,s.heap.objs.size,N7 hi,e4,fT,rfl,rfl⟩,⟨_,_,z'⟩,λb hb=>by
   cases Nm.mp hb;rw[az (Px tz)];exact fit.1⟩
 done:=by
  intro X hP hw hK hc i pins s σ H E I hf st hg;subst hP hw hK;obtain⟨ok,ov,hit⟩:=st;obtain⟨hH,hi⟩:=hg;obtain⟨raw,hsz,_⟩:=zU hd (I.hok d _ hH);have fit:=hf it (by simp);exact Gg (I.ok.hd hc) hit raw (by lia) λh' ex=>⟨rfl,I.turned (it:=it) (t':=s.toks) (λb o hb e=>ex b o hb e) fit.1 fit.2.1 fit.2.2.2.1 fit.2.2.2.2.1 fit.2.2.2.2.2⟩
 self:=λ_ _ _ _ _ st h=>by
  obtain⟨ok,ov,hit⟩:=st;exact PySem.W.kcp_self hit h
section
variable {X:Cx}
def HQ (to:TE):TI:=λσ H R=>to σ H λx H1=>∃ d kvs,x=.ref d/\H1 d=some (.dT kvs)/\∀ o,R (Mj d o kvs) (upd H1 d (.frz o (.dT kvs)))
theorem AW {o:Po}{to:TE}{apos cpos tpos:Pos}{elts:List Po}{tk:Nat} (ho:WE X o to)
  (hbase:Uw o "items" X.env (QT o X.env)=QT o X.env:=by rfl)(hline:(apos.endLine==cpos.line)=true:=by rfl):WI X (.Tuple elts tk tpos) (.Call (.Attribute o "items" apos) [] [] cpos) (HQ to):=by
 have ho:=ho.go;refine⟨?_⟩;intro pins s σ H R I h;refine wpAny_Call_method0_late hbase hline (bM (ho pins s σ H _ I h) λv s1 ⟨x,H1,I1,r1,q1⟩=>?_);obtain⟨d,kvs,rfl,hH,q⟩:=q1;obtain⟨h1,h2⟩:=Ce (T:="dict") I1 r1 (.inr (.inr (.inl ⟨rfl,.inr ⟨kvs,hH⟩⟩)));cases r1;refine⟨"dict","dict.items",PySem.F.plainAttrs_dict,Us,PySem.F.type_dict_items,h1,h2,UM rfl (PySem.evalArgs_none ?_)⟩;obtain⟨z,hd,vs,rel,dd⟩:=tF I1.hok (.inl hH);obtain⟨es,ep,raw,hes⟩:=Heap.RawD.of dd;refine call_meetsIn Us h1 PySem.F.entry_dict_items (PySem.F.args_dict_items_1 _) (Ay d hd) ⟨⟨es,ep,raw⟩,?_⟩;obtain⟨ob,g1,I2⟩:=yx I1 hH;obtain⟨o',g1',_,gd⟩:=id raw;rw[g1] at g1';cases g1';have k1:∀ b u,s1.heap.get? b=some u->(s1.heap.push { cls:=.type "dict_items",data:=.fields #[.ref d] }).get? b=some u:=λb u e=>Na _ e
 have I3:=I2.kept (t':=s1.toks) k1;have raw3:(s1.heap.push { cls:=.type "dict_items",data:=.fields #[.ref d] }).RawD d es ep:=by
  obtain⟨o',a1,a2,a3⟩:=raw;exact⟨o',k1 _ _ a1,a2,a3⟩
 have hv:(s1.heap.push { cls:=.type "dict_items",data:=.fields #[.ref d] }).IsItemsView s1.heap.objs.size d:=⟨_,Ng _ rfl,rfl,rfl⟩
 refine CW (s:={ s1 with heap:=s1.heap.push { cls:=.type "dict_items",data:=.fields #[.ref d] } }) hv raw3 ?_;generalize s1.heap.push { cls:=.type "dict_items",data:=.fields #[.ref d] }=g at I3 raw3 hv ⊢;refine⟨g.objs.size,[g.objs.size],_,_,_,rfl,I3.kept (t':=s1.toks) λb u e=>Na _ e,xT gd,⟨_,_,Ng _ rfl⟩,λb hb=>?_,q ob⟩;cases Nm.mp hb;exact I3.fpOk (Nj _) (I3.hok.fresh (Nj _))
end
end TR
namespace TR
open PySem PySem.Spec PyProof.Rows
def rO (n:Nat):List Int:=(OP n).map λ(i:Nat)=>(i:Int)
theorem yu {n i:Nat}(h:i<n):(rO n)[i]?=some (i:Int):=by unfold rO;simp[h]
theorem ig (n:Nat):(rO n).length=n:=by unfold rO;simp
theorem Et {n:Nat}(hl:vs.length=n)(h:∀ (i:Nat) (v:Nd),vs[i]?=some v->∃ t,v=RH (i:Int) t):Ps vs (rO n):=by
 have go:∀ (vs:List Nd) (k:Nat),(∀ (i:Nat) (v:Nd),vs[i]?=some v->∃ t,v=RH ((k+i:Nat):Int) t)->Ps vs ((List.range' k vs.length).map λ(i:Nat)=>(i:Int)):=by
  intro vs
  induction vs with
  |nil=>intro k _;exact .nil
  |cons v vs ih=>
   intro k h;obtain⟨t,e⟩:=h 0 v rfl;subst e;rw[N5,List.range'_succ,NE];refine .cons _ t (ih (k+1) λi v hv=>?_);obtain⟨t',e⟩:=h (i+1) v (by simpa using hv);exact⟨t',by rw[e];congr 1;lia⟩
 have:=go vs 0 λi v hv=>by simpa using h i v hv
 rw[<- List.range_eq_range',hl] at this;exact this
section
variable {prog:ND}{w:N6}{A:Oa}{E:Nd->Nh->Prop}{s:Nh}
theorem vD {n:Nat} (hh:A.handled=none) (hr:IsRange s.heap r 0 n 1 t u v) (hl:n <= 1000)
  (h:∀ vs h' tk,Ps vs (rO n)->(∀ b o,s.heap.get? b=some o->h'.get? b=some o)->s.heap.objs.size<h'.objs.size->Q vs { s with heap:=h',toks:=tk }):
  Nu (NI prog w) A (collect (.ref r)) Q E s:=by
 have key:∀ R:Result->Nh->Prop,(∀ h' tk acc' c',(∀ b o,b ≠ s.heap.objs.size->(s.heap.push (OV "list" #[] 0)).get? b=some o->h'.get? b=some o)->h'.get? s.heap.objs.size=some { cls:=.type "list",dict:=none,data:=.seq acc' c',slots:=#[] } ->
   ItemsOf (λi v=>∃ t,v=.int (0+i*1) t) acc' n->R (.ok (.ret (.ref s.heap.objs.size))) { s with heap:=h',toks:=tk }) ->
   QB (NI prog w) A (.builtin "list.__iadd__" ⟨[.ref s.heap.objs.size,.ref r],[]⟩) R { s with heap:=s.heap.push (OV "list" #[] 0) }:=λR hR=>by
  refine P4 entry_list_iadd' ?_;rw[PL F.plain_list_iadd _];show Nu _ _ (Builtin.List.listExtendWith (.ref s.heap.objs.size) (.ref r) (.ref s.heap.objs.size)) _ _ { s with heap:=s.heap.push (OV "list" #[] 0) };refine wpAny_extend_range (R:=R) (s:={ s with heap:=s.heap.push (OV "list" #[] 0) }) hh (Na _ hr) (small_one (a:=0) (b:=n) (by lia) (by lia) (by lia) (by lia)) (n:=n) ?_ (by lia) s.heap.objs.size _ 0 (Ng _ rfl) λh' tk acc' c' hk hS' hacc=>hR h' tk acc' c' hk hS' hacc
  rw[V2]
  split<;>lia
 unfold collect;refine KE (wpAny_runValue (P4 entry_proto_collect' ?_));show Nu _ _ (do again (.builtin "list.__iadd__" ⟨[<- newList [],.ref r],[]⟩)) _ _ s;refine KE (Uz (Nc ⟨VG _ (by decide +kernel),key _ fun h' tk acc' c' hk hS' hacc=>?_⟩));show Nu (NI prog w) A (do
   let o <- load s.heap.objs.size
   match o.data with
   |.seq xs _=>pure xs.toList
   |_=>unsupported "internal:collect") Q E { s with heap:=h',toks:=tk }
 refine KE (wpAny_load hS' (Nc (h _ _ _ (Et (by rw[Oy];exact hacc.1) λi v hv=>?_) (λb o e=>hk b o (NA (Nf e)) (Na _ e)) (Nf hS'))));obtain⟨t',e⟩:=hacc.2 i v (by rw[<- Qa];exact hv);exact⟨t',by rw[e];congr 1;lia⟩
theorem yM {n:Nat}
  (hh:A.handled=none)(F:Fr h₀ L s.heap m)(N:News h₀ L s.heap news)(hr:IsRange s.heap r 0 n 1 t u v)(hl:n<64)(hlen:kz.length=n)
  (ha1:Vs "sorted" ⟨[.ref r],kw⟩)(ha2:∀ x,Vs "list.sort" ⟨[.ref x],kw⟩)(ht:∀ x,PN.«list.sort» ⟨[.ref x],kw⟩=ksk_tree x f b)
  (iC:∀ (i:Nat) (k:Int) (t:Tok),i<n->kz[i]?=some k->∀ (h:OZ) (tk:Nat) (own:List (Nn×Obj)),Fr h₀ L h m->News h₀ L h (news++own) ->
   Nu (NI prog w) A.in1.in1 (call f [.int i t]) (KskEnd h₀ L m (news++own) k { s with heap:=h,toks:=tk }) (λ_ _=>False) { s with heap:=h,toks:=tk })
  (h:∀ D h' tk out c vs,Ps vs (rO n)->Fr h₀ L h' m->News h₀ L h' ((D,OV "list" out c)::news)->s.heap.objs.size<=D->KskOut b kz vs out.toList->Q (.ref D) { s with heap:=h',toks:=tk }):
  Nu (NI prog w) A (call (.builtin "sorted") [.ref r] kw) Q E s:=by
 refine UR kind_sorted plain_sorted entry_sorted ha1 ?_;unfold PN.«sorted»;refine KE (m:=checkCount "sorted" 1 1 _) (Nc ?_);refine KE (vD (show A.in1.handled=none from hh) hr (by lia) λvs g tk hi kk hlt=>?_);have hvs:vs.length=n:=by rw[hi.length,ig]
 refine KE (Uz ?_ (by rw[P5];lia));have hL:L<s.heap.objs.size:=F.ns.lt;have hsz:s.heap.objs.size<=g.objs.size:=PV hlt;have hoL:(g.push (OV "list" vs.toArray 0)).get? g.objs.size=some (OV "list" vs.toArray 0):=Ng _ rfl;have keep:∀ b o,s.heap.get? b=some o->(g.push (OV "list" vs.toArray 0)).get? b=some o:=λb o q=>Na _ (kk b o q)
 have hLg:L<g.objs.size:=(F.kept kk).ns.lt;show Nu _ _ _ _ _ { s with heap:=g.push (OV "list" vs.toArray 0),toks:=tk };refine KE (Ox (wpAny_call_entry_kw slot_list_sort ⟨_,hoL,rfl⟩ entry_list_sort ?body (ha2 _)))
 case body=>
  have ht':=ht g.objs.size;show Nu (NI prog w) A.in1.in1 (PN.«list.sort» ⟨[.ref g.objs.size],kw⟩) _ _ _;rw[ht'];refine ksk_sort (s:={ s with heap:=g.push (OV "list" vs.toArray 0),toks:=tk }) (kz:=kz)
   (F.kept keep) (N.grown keep) hoL (O8 hLg) (Vk (NP F.above (PV hLg)))
   (λp hp=>NA (Nx (Nf (N p hp).1) hsz)) (by lia) (by lia) (λi v k hv hk h tk own F' N'=>?_) λh' tk out c F' N' k'=>⟨_,rfl,?_⟩
  ·have hin:i<n:=by rw[<- hvs];exact(Nt.mp hv).1
   obtain⟨t',e⟩:=hi.get i _ (yu hin);rw[e] at hv;cases hv;exact iC i k t' hin hk h tk own F' N'
  ·exact Nc ⟨_,rfl,h _ h' tk out c vs hi F' N' hsz k'⟩
abbrev DM (qual far kn:Str)(params:VE)(pf pk pp:Pos)(scope:Q7)(cl:List (Str×Nn))(pm cd ctv:Nd):OK:=
 Q6 "<lambda>" qual params (.Subscript (.Name far pf) (.Name kn pk) pp) scope cl pm cd ctv
theorem Dz {i:Nat}{k:Int}
  (hlim:s.heap.NoLimit)(hroom:A.depth<recursionLimit)(ho:s.heap.get? f=some { cls:=.type "function",data:=.func (DM qual far kn params pf pk pp scope cl pm (.ref c') ctv) })(hcd:s.heap.CodeRec (.ref c') qual)
  (hbind:∀ u,OE (DM qual far kn params pf pk pp scope cl pm (.ref c') ctv) ⟨[u],[]⟩=pure [(kn,u)])
  (hco:scope.isCoroutine=false)(hgen:scope.isGenerator=false)(hk:scope.kind=.function)(hnc:∀ x∈scope.names,x.2≠.cell)(hkl:scope.names.lookup kn=some .local)(hff:scope.names.lookup far=some .free)
  (hd1:(far==("__debug__":Str))=false)(hd2:(kn==("__debug__":Str))=false)(hd3:(far==("__classdict__":Str))=false)
  (hcl:cl.lookup far=some cf)(hcell:s.heap.IsCell cf (some (.ref l)))(hl:s.heap.IsList l vs.toArray)(hi:Ps vs ns)(hx:ns[i]?=some k)(hsm:ns.length<=1000)
  (h:∀ h' tk t',(∀ b o,s.heap.get? b=some o->h'.get? b=some o)->Q (.int k t') { s with heap:=h',toks:=tk }):
  Nu (NI prog w) A (call (.ref f) [.int i t]) Q E s:=by
 refine QX (Vo hroom ho rfl hco hgen rfl hcd ?_);rw[hbind];refine Nc (SG hnc (λx hx=>?_) (λh₁ hns hsb=>⟨hlim.fresh _ hsb,Vp ?_⟩) hk)
 ·cases Nm.mp hx;exact hkl
 have hk₁:∀ b o,s.heap.get? b=some o->h₁.get? b=some o:=λb o e=>hsb.extBut b o (NA (Nf e)) (Na _ e)
 have hin:i<ns.length:=(Nt.mp hx).1;refine We ?_;refine Ro (Te hk ?_ hcl (hcell.keeps hk₁) ?_ hd3) hd1
 ·exact hff
 refine Ro (PM hk ?_ hns (v:=.int i t) ?_ ?_) hd2
 ·exact hkl
 ·simp
 refine item_list_intsR (let ⟨o,e,q⟩:=hl;⟨o,hk₁ _ _ e,q⟩) hi (by lia) (by lia) (by lia) (λt'=>?_) rfl;have e:ns.getD (i:Int).toNat 0=k:=by
  rw[Op,QZ,hx];rfl
 rw[e];exact h _ _ _ hk₁
end
open L2
theorem i0:∀ {vs:List Nd}{ns:List Int},Ps vs ns->aM (ns.map V.int) vs
 |_,_,.nil=>.nil
 |_,_,.cons n t h=>.cons ⟨t,rfl⟩ (i0 h)
section
variable {X:Cx}
def LP (ta:TA):TE:=λσ H Q=>ta σ H λvs H1=>∃ n:Nat,vs=[.int n]/\n<=1000/\∀ p,H1 p=none->Q (.ref p) (upd H1 p (.rng 0 n))
theorem Ad (hg:Gl X "range")(hm:X.mg "range"=none)(ha:WA X [a] ta)(hs:NG [a] X.env=[(false,QT a X.env)]:=by rfl):WE X (.Call (.Name "range" p) [a] [] pos) (LP ta):=by
 have ha:=ha.go;refine⟨?_⟩;intro pins s σ H Q I h;refine Call_ (iE I hg hm boot_range (Pg (bM (ha pos pins s σ H _ I h) λus s1 ⟨vs,H1,I1,r1,q1⟩=>?_) hs rfl));obtain⟨n,rfl,hn,q⟩:=q1;cases r1 with
 |cons r rr=>
  cases rr;obtain⟨t,rfl⟩:=r;exact call_range_1 ⟨.ref s1.heap.objs.size,_,I1.laid (a:=s1.heap.objs.size) (o:=.rng 0 n) (t':=_) (λb o e=>Na _ e) (Nj _) ⟨_,_,_,Ng _ rfl⟩,rfl,q _ (I1.hok.fresh (Nj _))⟩
def Cz:List V->Hp->VK->Prop:=λxs H Q=>∃ (p:Nn) (n:Nat),xs=[.ref p]/\H p=some (.rng 0 n)/\n<=1000/\∀ l,H l=none->Q (.ref l) (upd H l (.lst ((rO n).map V.int)))
theorem uw (hc:X.calm=true):cq X (.type "list") Cz:=by
 intro pins s σ H xs us Q I r h;obtain⟨p,n,rfl,hp,hn,q⟩:=h;obtain⟨u,rfl,ru⟩:=fN r;cases ru;obtain⟨t,u,v,e⟩:=(show bA X.prog X.w H s.heap p (.rng 0 n) from I.hok _ _ hp)
 refine call_list_range (n:=n) (I.ok.hd hc) e (small_one (a:=0) (b:=n) (by lia) (by lia) (by lia) (by lia)) (by rw[V2];split<;>lia) (by lia) λh' tk acc c hk hD hI=>?_
 have hv:Ps acc.toList (rO n):=Et (by rw[Oy];exact hI.1) λi v hv=>by
  obtain⟨t',e⟩:=hI.2 i v (by rw[<- Qa];exact hv);exact⟨t',by rw[e];congr 1;lia⟩
 refine⟨.ref s.heap.objs.size,_,I.laid (a:=s.heap.objs.size) (o:=.lst ((rO n).map V.int)) (t':=tk) hk (Nj _) ⟨?_,acc.toList,c,i0 hv,by rw[SC];exact hD⟩,rfl,q _ (I.hok.fresh (Nj _))⟩;rw[Ni,ig];exact ce hn
end
theorem ll {l c:Int}{t u:Nat}:∀ (ps:List Nd),VY ps->So pos (ps++[.int l t,.int c u,cd])=((So pos ps).or (if(l==pos.line&&c==pos.col)=true then some cd else none))
 |[],_=>by
  show(if(l==pos.line&&c==pos.col)=true then some cd else So pos [])=_;rfl
 |.int a t::.int b u::e::r,h=>by
  show(if(a==pos.line&&b==pos.col)=true then some e else So pos (r++[.int l _,.int c _,cd]))=Option.or (if(a==pos.line&&b==pos.col)=true then some e else So pos r) _
  by_cases q:(a==pos.line&&b==pos.col)=true
  ·rw[NZ q,NZ q];rfl
  ·rw[NS q,NS q];exact ll r h
theorem oQ {l c:Int}{t u:Nat}:∀ (ps:List Nd),VY ps->VY (ps++[.int l t,.int c u,cd])
 |[],_=>trivial
 |.int a t::.int b u::e::r,h=>oQ r h
abbrev zG (q:Str):HO:=.tbl #[.str q 0]
section
variable {X:Cx}{pins:List (Nn×Obj)}{σ:L2.St}{H:Hp}{s:Nh}
theorem vH (I:aD X pins σ H s) (hcode:X.env.code=.ref c) (hcd:∀ h,X.K.In h->Sa h c P) (hP:H P=some (zG (X.env.qual ++ "<lambda>")))
  (hfree:∀ y∈scope.names,y.2=.free->∃ c,X.env.cells.lookup y.1=some c)(hdef:defaultsOf params X.env=([],[]))
  (h:∀ fa c' pm ctv H2 s2,aD X pins σ H2 s2->ae H H2->s2.heap.get? fa=some { cls:=.type "function",data:=.func (Q6 "<lambda>" (X.env.qual++"<lambda>") params body scope (pW X.env.cells scope.names []) pm (.ref c') ctv) } ->
   s2.heap.CodeRec (.ref c') (X.env.qual++"<lambda>")->Q (.ref fa) s2) :
  Nu (NI X.prog X.w) X.A (QT (.Lambda params body scope lp) X.env) Q E s:=by
 have okP:∃ ps:Array Nd,s.heap.get? P=some (Xb ps)/\VY ps.toList/\∀ pos cv,So pos ps.toList=some cv->∃ c' o vs t',cv=.ref c'/\H c'=some (.own P)/\s.heap.get? c'=some o/\o.data=.fields vs/\vs[1]?=some (.str (X.env.qual++"<lambda>") t'):=by
  obtain⟨ps,e,tr,q,t,e0,f⟩:=(show bA X.prog X.w H s.heap P (zG (X.env.qual++"<lambda>")) from I.hok _ _ hP)
  have e0':some (Ua (X.env.qual++"<lambda>") 0)=some (.str q t):=e0;cases e0';exact⟨ps,e,tr,f⟩
 obtain⟨ps,eP,tr,fP⟩:=okP;obtain⟨bm,ob,b1,b2,b3,b4,b5,b6⟩:=I.mod.bm;have hgs:s.heap.Ns Nk X.mg:=I.mod.glob.keeps I.bk;have hgP:Nk≠P:=λq=>by
  obtain⟨o,es,ep,e,hd,_⟩:=hgs;rw[q,eP] at e;cases e;cases hd
 have hbP:bm≠P:=λq=>by
  have e:=I.bk _ _ b3;rw[q,eP] at e;cases e;cases b4
 have hbG:bm≠Nk:=λq=>by
  obtain⟨o,es,ep,e,hd,_⟩:=hgs;have e':=I.bk _ _ b3;rw[q,e] at e';cases e';rw[hd] at b6;cases b6
 have B:s.heap.BuiltinsAt X.mg P:=⟨bm,ob,b1,b2,hbG,hbP,I.bk _ _ b3,b4,b5,b6⟩
 refine PySem.W.kla_eval hdef ?_;cases hcm:So lp ps.toList with
 |some cv=>
  obtain⟨c',o,vs,t',rfl,w2,w3,w4,w5⟩:=fP lp cv hcm;refine PySem.W.kla_makeFunctionHit (mg:=X.mg) (ni hfree) I.ok.glob hgs hcode (hcd _ I.kIn) eP tr hcm B λctv h' tk hk hsz=>?_
  have kk:∀ b u,s.heap.get? b=some u->(h'.push { cls:=.type "function",data:=.func (Q6 "<lambda>" (X.env.qual++"<lambda>") params body scope (pW X.env.cells scope.names []) ((X.mg "__name__").getD .none) (.ref c') ctv) }).get? b=some u:=λb u e=>Na _ (hk b u e)
  exact h h'.objs.size c' _ ctv H _ (I.kept (t':=tk) kk) (ae.refl _) (Ng _ rfl) ⟨c',o,vs,t',rfl,kk _ _ w3,w4,w5⟩
 |none=>
  refine PySem.W.kla_makeFunction (mg:=X.mg) (ni hfree) I.ok.glob hgs hcode (hcd _ I.kIn) eP tr hcm hgP B λc' ctv h' tk hx hge hlt hrec htb=>?_
  have fc:H c'=none:=I.hok.fresh hge;obtain⟨c2,oc,vs,t,ec,g1,g2,g3⟩:=hrec;cases ec;have nP:∀ b u,b≠P->s.heap.get? b=some u->(h'.push (QO "<lambda>" (X.env.qual++"<lambda>") params body scope (pW X.env.cells scope.names []) ((X.mg "__name__").getD .none) c' ctv)).get? b=some u:=λb u nb e=>Na _ (hx b u nb e)
  have gc:(h'.push (QO "<lambda>" (X.env.qual++"<lambda>") params body scope (pW X.env.cells scope.names []) ((X.mg "__name__").getD .none) c' ctv)).get? c'=some oc:=Na _ g1;have gP:(h'.push (QO "<lambda>" (X.env.qual++"<lambda>") params body scope (pW X.env.cells scope.names []) ((X.mg "__name__").getD .none) c' ctv)).get? P=some (Xb (ps++#[RL lp.line,RL lp.col,.ref c'])):=Na _ htb;have gF:(h'.push (QO "<lambda>" (X.env.qual++"<lambda>") params body scope (pW X.env.cells scope.names []) ((X.mg "__name__").getD .none) c' ctv)).get? h'.objs.size=some (QO "<lambda>" (X.env.qual++"<lambda>") params body scope (pW X.env.cells scope.names []) ((X.mg "__name__").getD .none) c' ctv):=Ng _ rfl;generalize h'.push (QO "<lambda>" (X.env.qual++"<lambda>") params body scope (pW X.env.cells scope.names []) ((X.mg "__name__").getD .none) c' ctv)=g at nP gc gP gF ⊢;have sm:ae H (upd H c' (.own P)):=λb o e=>by rw[az (aS e fc)];exact e
  have ne:∀ b,H b=none->b≠P:=λb n z=>by rw[z,hP] at n;cases n
  have lc:∀ b u,s.heap.get? b=some u->b≠c':=λb u e=>NA (Nx (Nf e) hge)
  refine h h'.objs.size c' _ ctv (upd H c' (.own P)) _ (I.un (t':=tk) ⟨λb u q n _ _=>nP b u (ne b n) q,λb u q n _ _=>⟨u.slots,nP b u (ne b n) q⟩,λb u q n _=>by rw[az (lc b u q)];exact n,λb u q _=>?_,λb xs q=>sm _ _ q,λb u w q=>sm _ _ q,λb qs q=>⟨#[],by rw[sm _ _ q];simp⟩⟩ λb u q=>?_) sm gF ⟨c',oc,vs,t,rfl,gc,g2,g3⟩
  ·by_cases hb:b=P
   ·exact⟨_,by rw[hb];exact gP⟩
   ·exact⟨u,nP b u hb q⟩
  ·by_cases hb:b=c'
   ·subst hb;rw[ai] at q;cases q;exact⟨oc,gc⟩
   ·rw[az hb] at q
    by_cases hbP':b=P
    ·subst hbP';rw[hP] at q;cases q;refine⟨_,gP,?_,_,_,rfl,λpos cv z=>?_⟩
     ·rw[Vt];exact oQ _ tr
     ·rw[Vt] at z;have z':=(ll (pos:=pos) (l:=(lp.line:Int)) (c:=(lp.col:Int)) (t:=0) (u:=0) (cd:=.ref c') ps.toList tr).symm.trans z;cases zz:So pos ps.toList with
      |some cv'=>
       rw[zz] at z';have z2:cv'=cv:=Nb z';subst z2;obtain⟨c2,o2,vs2,t2,w1,w2,w3,w4,w5⟩:=fP pos cv' zz;exact⟨c2,o2,vs2,t2,w1,sm _ _ w2,nP c2 o2 (λz=>by rw[z,hP] at w2;cases w2) w3,w4,w5⟩
      |none=>
       rw[zz] at z';have z2:(if((lp.line:Int)==pos.line&&(lp.col:Int)==pos.col)=true then some (NN c') else none)=some cv:=z'
       split at z2
       ·cases z2;exact⟨c',oc,vs,t,rfl,ai,gc,g2,g3⟩
       ·cases z2
    ·refine(I.hok b u q).stay (λd v hd r=>nP d v ?_ r) (λd r=>sm _ _ r) λd xs r=>sm _ _ r
     rcases hd with rfl|hd
     ·exact hbP'
     ·exact λz=>by rw[z,hP] at hd;cases hd
end
theorem iU [BEq α][LawfulBEq α]:∀ {l:List (α×β)},l.lookup x=some y->(x,y)∈l
 |[],h=>nomatch h
 |(a,b)::r,h=>by
  rw[Oq] at h;cases q:x==a with
  |true=>
   rw[q] at h;have e:x=a:=eq_of_beq q;cases h;rw[e];exact NC
  |false=>
   rw[q] at h;exact Nr _ (iU h)
def vI (sc:Q7)(far kn:Str):Bool:=sc.kind==.function&&!sc.isCoroutine&&!sc.isGenerator&&sc.names.all (λy=>!(y.2==.cell))&&sc.names.lookup kn==some .local&&sc.names.lookup far==some .free
def Es (K:HD)(i:Nat)(P:Nn)(q:Str)(tr:TE):TE:=λσ H Q=>tr σ H λx H1=>∃ (r:Nn) (n:Nat) (l:Nn) (ns:List Int),x=.ref r/\H1 r=some (.rng 0 n)/\n<64/\σ[i]?=some (some (.ref l))/\bI K H1 l (ns.map V.int)/\ns.length=n/\H1 P=some (zG q) /\
 ∀ (H2:Hp) (D:Nn) (order:List Int),ae H1 H2->H2 D=none->order.Perm (rO n)->order.Pairwise (λa b=>ns.getD b.toNat 0<=ns.getD a.toNat 0)->Q (.ref D) (upd H2 D (.lst (order.map V.int)))
section
variable {X:Cx}{K:HD}
theorem ww {i k:Nat}{cj:Nat} (hK:X.K=K) (hc:X.calm=true) (hr:Room k X.A) (hg:Gl X "sorted") (hm:X.mg "sorted"=none)
  (hcode:X.env.code=.ref c)(hcd:∀ h,K.In h->Sa h c P)(hN:X.N[i]?=some far)(hv:X.env.kindOf far=some .cell)(he:WE X er tr)
  (hst:NG [er] X.env=[(false,QT er X.env)]:=by rfl)
  (hsc:vI scope far kn=true:=by decide +kernel)(hfr:(scope.names.all λy=>!(y.2==.free)||(X.env.cells.lookup y.1).isSome)=true:=by rfl)(hdef:defaultsOf params X.env=([],[]):=by rfl)
  (hbind:∀ qual cl pm cd ctv u,OE (DM qual far kn params pf pk pp scope cl pm cd ctv) ⟨[u],[]⟩=pure [(kn,u)]:=by intros;rfl)
  (hd1:(far==("__debug__":Str))=false:=by decide)(hd2:(kn==("__debug__":Str))=false:=by decide)(hd3:(far==("__classdict__":Str))=false:=by decide):
  WE X (.Call (.Name "sorted" p) [er] [⟨some "key",.Lambda params (.Subscript (.Name far pf) (.Name kn pk) pp) scope lp,kp1⟩,⟨some "reverse",.Constant (.bool true) cj cp,kp2⟩] pos) (Es K i P (X.env.qual++"<lambda>") tr):=by
 have he:=he.go;refine⟨?_⟩;subst hK;unfold vI at hsc;simp only[NO,Og,OH] at hsc;obtain⟨⟨⟨⟨⟨k1,k2⟩,k3⟩,k4⟩,k5⟩,k6⟩:=hsc;have hfree:∀ y∈scope.names,y.2=.free->∃ c,X.env.cells.lookup y.1=some c:=λy hy e=>by
  rw[Og] at hfr;have:=hfr y hy;rw[e] at this;exact O9.mp (by simpa using this)
 intro pins s σ H Q I h;refine OA (iE I hg hm tK ?_);refine callWith_kw (env:=X.env) (he:=by rw[hst];rfl) (hplain:=by rw[hst];rfl) (bM ((pT he uL hst) pos pins s σ H (λvs H1=>match vs with
  |[x]=>∃ (r:Nn) (n:Nat) (l:Nn) (ns:List Int),x=.ref r/\H1 r=some (.rng 0 n)/\n<64/\σ[i]?=some (some (.ref l))/\bI X.K H1 l (ns.map V.int)/\ns.length=n/\H1 P=some (zG (X.env.qual++"<lambda>")) /\
   ∀ (H2:Hp) (D:Nn) (order:List Int),ae H1 H2->H2 D=none->order.Perm (rO n)->order.Pairwise (λa b=>ns.getD b.toNat 0<=ns.getD a.toNat 0)->Q (.ref D) (upd H2 D (.lst (order.map V.int)))
  |_=>False) I h) λus s1 ⟨vs,H1,I1,r1,q1⟩=>?_)
 match vs,r1,q1 with
 |[x],r1,q1=>
  obtain⟨r,n,l,ns,rfl,hr1,hn,hσ,hl,hlen,hP,q⟩:=q1;obtain⟨u,rfl,ru⟩:=fN r1;cases ru;refine kws_cons (vH I1 hcode hcd hP hfree hdef λfa c' pm ctv H2 s2 I2 sm ho hrec=>?_);refine kws_cons (Constant_bool (kws_nil ?_));show Nu _ _ (call (.builtin "sorted") [.ref r] [(Oo "key",.ref fa),(Oo "reverse",.bool true)]) _ _ s2;obtain⟨t,u,v,hrng⟩:=(show bA X.prog X.w H2 s2.heap r (.rng 0 n) from I2.hok _ _ (sm _ _ hr1))
  obtain⟨m,hnm,hloc⟩:=id I2.loc;obtain⟨w,rw',lk⟩:=hloc i far (.ref l) hN hσ (.inr (.inl hv));cases rw';obtain⟨cf,ecf,hcell⟩:∃ cf,X.env.cells.lookup far=some cf/\s2.heap.IsCell cf (some (.ref l)):=by
   rcases lk with ⟨z,_⟩|⟨_,cf,e,z⟩
   ·rw[hv] at z;cases z
   ·exact⟨cf,e,z⟩
  have hcl:(pW X.env.cells scope.names []).lookup far=some cf:=by
   have mem:(far,Oc)∈scope.names:=iU k6;obtain⟨c2,e2⟩:=f7 (cells:=X.env.cells) (names:=scope.names) (acc:=[]) (x:=far) (.inr mem);rcases dO hfree e2 with z|⟨_,z⟩
   ·cases z
   ·rw[ecf] at z;cases z;exact e2
  obtain⟨its,rv,pl,_⟩:=I2.list (sm.seq hl);have hints:=qe rv;obtain⟨oL,esL,epL,eL,dL,_⟩:=id hnm;have F:Fr X.base X.env.locals s2.heap m:=⟨hnm,I2.bk,NP I2.ok.bsz I2.ok.above⟩
  have all:∀ {h:OZ},Fr X.base X.env.locals h m->News X.base X.env.locals h (ky X.base s2.heap X.env.locals)->∀ b o,b≠X.env.locals->s2.heap.get? b=some o->h.get? b=some o:=λ{h} F' N' b o nb e=>by
   cases z:X.base.get? b with
   |some o'=>
    have:=I2.bk b o' z;rw[e] at this;cases this;exact F'.keep b o z
   |none=>exact(N' (b,o) (we nb z e)).1
  have nL:∀ b o,s2.heap.get? b=some o->(∀ es ep,o.data≠.dict es ep)->b≠X.env.locals:=λb o e hd z=>by
   rw[z,eL] at e;cases e;exact hd _ _ dL
  have rm:=hr.dp;refine yM (h₀:=X.base) (L:=X.env.locals) (m:=m) (news:=ky X.base s2.heap X.env.locals) (b:=true) (kz:=ns) (I2.ok.hd hc) F EF hrng hn hlen (ksk_s2 _ _ _) (λx=>ksk_l2 _ _ _) (λx=>ksk_t2 _ _ _) (λj k t hj hk h tk own F' N'=>?_) λD h' tk out cc vs hi F' N' hD ko=>?_
  ·have al:=all F' (λp hp=>N' p (OI _ hp));obtain⟨oc,hoc,hdc⟩:=hcell;obtain⟨ol,nl,el,cl,dl,xl⟩:=id pl;obtain⟨c2,o2,vs2,t2,ec,g1,g2,g3⟩:=id hrec;cases ec;refine Dz (s:={ s2 with heap:=h,toks:=tk }) (ns:=ns) (I2.ok.mod.nolimit.keeps F'.keep) (by show X.A.depth<recursionLimit;lia) (al _ _ (nL _ _ ho λ_ _ z=>nomatch z) ho) ⟨_,o2,vs2,t2,rfl,al _ _ (nL _ _ g1 λ_ _ z=>by rw[g2] at z;cases z) g1,g2,g3⟩ (λu=>hbind _ _ _ _ _ u)
    (by simpa using k2) (by simpa using k3) k1 (λx hx z=>by have:=k4 x hx;rw[z] at this;cases this) k5 k6 hd1 hd2 hd3 hcl ⟨oc,al _ _ (nL _ _ hoc λ_ _ z=>by rw[hdc] at z;cases z) hoc,hdc⟩ ⟨ol,al _ _ (nL _ _ el λ_ _ z=>by rw[xl] at z;cases z) el,cl,nl,xl⟩ hints hk (by lia) λh'' tk' t' kk=>?_
   exact KskEnd.intro (F'.kept kk) (N'.grown kk) λp hp=>hp
  ·have al:=all F' (λp hp=>N' p (Nr _ hp));have gD:=(N' _ NC).1;have fD:H2 D=none:=I2.hok.fresh hD;obtain⟨pz,pp1,po,pw⟩:=ko;have hvl:vs.length=n:=by rw[hi.length,ig]
   have hint:∀ q∈pz,∃ (j:Nat) (t:Tok),j<n/\q.2=.int j t/\q.1=ns.getD j 0:=λq hq=>by
    have hq':=pp1.mem_iff.mp hq;obtain⟨j,hj⟩:=Vl hq';rw[TK] at hj;have jn:j<n:=by rw[<- hlen];exact(Nt.mp hj.1).1
    obtain⟨t',e⟩:=hi.get j _ (yu jn);rw[e] at hj;refine⟨j,t',jn,(Nb hj.2).symm,?_⟩;rw[QZ,hj.1];rfl
   have hout:Ps out.toList (pz.map λq=>numOf q.2):=by
    rw[po];have go:∀ (l:List (Int×Nd)),(∀ q∈l,∃ (j:Nat) (t:Tok),j<n/\q.2=.int j t/\q.1=ns.getD j 0)->Ps (l.map Prod.snd) (l.map λq=>numOf q.2):=by
     intro l
     induction l with
     |nil=>intro _;exact .nil
     |cons q l ih=>
      intro hl;obtain⟨j,t,_,e,_⟩:=hl q NC;rw[NE,NE,e];exact .cons _ _ (ih λq hq=>hl q (Nr _ hq))
    exact go pz hint
   have hperm:(pz.map λq=>numOf q.2).Perm (rO n):=by
    have h1:=(pp1.map Prod.snd).map numOf;rw[List.map_snd_zip (by lia),hi.nums,PR] at h1;exact h1
   have hpw:(pz.map λq=>numOf q.2).Pairwise (λa b=>ns.getD b.toNat 0<=ns.getD a.toNat 0):=by
    rw[List.pairwise_map];refine pw.imp_of_mem λ{a b} ha hb hab=>?_
    obtain⟨ja,ta,_,ea,va⟩:=hint a ha;obtain⟨jb,tb,_,eb,vb⟩:=hint b hb;have hab':b.1<=a.1:=hab;rw[ea,eb];show ns.getD (jb:Int).toNat 0<=ns.getD (ja:Int).toNat 0;rw[Op,Op,<- va,<- vb];exact hab'
   refine⟨.ref D,_,?_,rfl,q H2 D _ sm fD hperm hpw⟩;have keepT:∀ b u,H2 b=some u->b≠X.env.locals:=λb u e z=>by rw[z,I2.free] at e;cases e
   have I3:aD X pins σ H2 { s2 with heap:=h',toks:=tk }:=by
    refine I2.step (g':=s2.gens) (d':=s2.drawn) (ch:=[]) (λ_ z=>nomatch z) (λb o nb _ _ e _=>al b o nb e) (λb o nb _ _ e _=>⟨o.slots,al b o nb e⟩) (λ_ _ _ _ n=>n) (λb o _ e=>?_) (λ_ _ e=>e) (λ_ _ _ e=>e) (λb ps e=>⟨#[],by rw[e];simp⟩) (λm' hm'=>?_) (λb u e=>?_) I2.bare
    ·by_cases nb:b=X.env.locals
     ·obtain⟨o',_,_,e',_⟩:=F'.ns;exact⟨o',by rw[nb];exact e'⟩
     ·exact⟨o,al b o nb e⟩
    ·rw[hm'.eq_nsMap,<- hnm.eq_nsMap];exact F'.ns
    ·refine(I2.hok b u e).stay (λd v hd r=>al d v ?_ r) (λ_ r=>r) λ_ _ r=>r
     rcases hd with rfl|hd
     ·exact keepT _ _ e
     ·exact keepT _ _ hd
   have F3:=I2.fpOk (b:=D) (H':=H2) hD fD;exact kr I3 fD (NP I2.sz hD) F3.2.1 F3.2.2.2.2.1 F3.2.2.2.2.2 ⟨by
    rw[Ni];have:=hperm.length_eq;rw[ig] at this;rw[this];exact ce (by lia),out.toList,cc,i0 hout,by rw[SC];exact gD⟩
end
def FM (Tb:Nn->Option Str)(own:Bool)(a:Nn)(o:Obj)(ns:List Int):Hp:=λb=>match Tb b with
 |some q=>some (zG q)
 |none=>if own=true/\b=a then some (.frz o (.lst (ns.map V.int))) else none
theorem BO {P:ND}{w:N6}{K:HD}{mg mb:Str->Option Nd}{CX:jy}{k:Nat}{fa a:Nn}{fd:OK}{x:Str}{sp:Sp}{s₁:Nh}{vs:List Nd}{ns:List Int} (Tb:Nn->Option Str)
  (KX:K.In s₁.heap)(hns:s₁.heap.Ns Nk mg)(hb:s₁.heap.Ns R5 mb)(hbb:∀ x:Str,x≠"__name__"->mb x=Oh x)(hlim:s₁.heap.NoLimit)(hg:s₁.gens=#[])
  (hbm:∃ bm o,mg "__builtins__"=some (.ref bm)/\bm≠R5/\s₁.heap.get? bm=some o/\o.cls=.type "module"/\o.dict=some R5/\o.data=.plain)
  (hT:∀ b q,Tb b=some q->s₁.heap.get? b=some { cls:=.none,data:=.fields #[] }/\isCodeTable s₁.heap b/\K.lookup b=none)
  (ha:s₁.heap.get? a=some { cls:=.type "list",data:=.seq vs.toArray })(hi:Ps vs ns)(hl:ns.length<=Nv)(hr:Room k W7)
  (F:∀ base:OZ,K.In base->base.Ns Nk mg->gt P w K mg base CX k fa fd [x] sp)(hbind:∀ (s:Nh) (u:Nd),Vu s fd ⟨[u],[]⟩ [(x,u)])
  (hsp:∀ H:Hp,(∀ b q,Tb b=some q->H b=some (zG q))->bI K H a (ns.map V.int)->sp [.ref a] H (λv _=>v=.bl true) λ_ _ _=>False)
  (hCX:∀ H e s',CX [] H s₁ (λ_ _ _=>False) e s'->False):
  QB (NI P w) W7 (.call (.ref fa) ⟨[.ref a],[]⟩) (λr s'=>r=.ok (.ret (.bool true))/\OldK s₁.heap s'.heap/\s'.os=s₁.os/\UV s'.gens) s₁:=by
 have rv:=m_ hi;have nTa:Tb a=none:=by
  cases q:Tb a with
  |none=>rfl
  |some z=>
   have:=(hT a z q).1;rw[ha] at this;cases this
 obtain⟨own,hown⟩:∃ own:Bool,own=(K.lookup a).isNone:=⟨_,rfl⟩
 let H:Hp:=FM Tb own a { cls:=.type "list",data:=.seq vs.toArray } ns
 have HT:∀ b q,Tb b=some q->H b=some (zG q):=λb q e=>by
  show(match Tb b with|some q=>some (zG q)|none=>_)=_;rw[e]
 have cases_:∀ b u,H b=some u->(∃ q,Tb b=some q/\u=zG q)\/(own=true/\b=a/\u=.frz { cls:=.type "list",data:=.seq vs.toArray } (.lst (ns.map V.int))):=λb u e=>by
  have e':(match Tb b with|some q=>some (zG q)|none=>if own=true/\b=a then some (HO.frz { cls:=.type "list",data:=.seq vs.toArray } (.lst (ns.map V.int))) else none)=some u:=e;cases q:Tb b with
  |some z=>
   rw[q] at e';exact .inl ⟨z,rfl,(Nb e').symm⟩
  |none=>
   rw[q] at e';dsimp only at e'
   split at e'
   ·rename_i hc
    exact .inr ⟨hc.1,hc.2,(Nb e').symm⟩
   ·cases e'
 have ok:jl P w H s₁.heap:=λb u e=>by
  rcases cases_ b u e with ⟨q,hq,rfl⟩|⟨_,rfl,rfl⟩
  ·exact⟨#[],(hT b q hq).1,trivial,q,0,rfl,λpos cv z=>nomatch z⟩
  ·exact⟨ha,by rw[Ni];exact hl,vs,_,rv,ha⟩
 have hS:bI K H a (ns.map V.int):=by
  cases hk:K.lookup a with
  |some o=>
   have e:=KX a o hk;rw[ha] at e;cases e;exact .inr ⟨_,vs.toArray,_,hk,rfl,rfl,rfl,by rw[No,hi.length];exact hl,by simpa using rv⟩
  |none=>
   refine .inl (.inr ⟨{ cls:=.type "list",data:=.seq vs.toArray },?_⟩);show(match Tb a with|some q=>some (zG q)|none=>if own=true/\a=a then some (HO.frz { cls:=.type "list",data:=.seq vs.toArray } (.lst (ns.map V.int))) else none)=_;rw[nTa];dsimp only;rw[NZ ⟨by rw[hown,hk];rfl,rfl⟩]
 have un:∀ {b:Nn}{o:Obj},s₁.heap.get? b=some o->(∀ its n,o.data≠.seq its n)->(∀ ws,o.data≠.fields ws)->H b=none:=λ{b o} e h1 h2=>by
  cases q:H b with
  |none=>rfl
  |some u=>
   rcases cases_ b u q with ⟨z,hz,_⟩|⟨_,rfl,_⟩
   ·have:=(hT b z hz).1;rw[e] at this;cases this;exact absurd rfl (h2 _)
   ·rw[ha] at e;cases e;exact absurd rfl (h1 _ _)
 have nsK:∀ {b:Nn}{m:Str->Option Nd},s₁.heap.Ns b m->(vP s₁.heap H).Ns b m:=λ{b m} ⟨o,es,ep,e,d,r⟩=>⟨o,es,ep,qO e (un e (λ_ _ z=>by rw[d] at z;cases z) λ_ z=>by rw[d] at z;cases z),d,r⟩
 have hKb:K.In (vP s₁.heap H):=λb o e=>qO (KX b o e) (by
  cases q:H b with
  |none=>rfl
  |some u=>
   rcases cases_ b u q with ⟨z,hz,_⟩|⟨ho,rfl,_⟩
   ·rw[(hT b z hz).2.2] at e;cases e
   ·rw[hown,e] at ho;cases ho)
 have hM:Mod K mg (vP s₁.heap H):=⟨hKb,nsK hns,⟨mb,nsK hb,hbb⟩,let ⟨mc,h1,h2⟩:=hlim;⟨mc,nsK h1,h2⟩,by
  obtain⟨bm,o,b1,b2,b3,b4,b5,b6⟩:=hbm;exact⟨bm,o,b1,b2,qO b3 (un b3 (λ_ _ z=>by rw[b6] at z;cases z) λ_ z=>by rw[b6] at z;cases z),b4,b5,b6⟩⟩
 have e0:yT P w K mg (vP s₁.heap H) W7 [] s₁ H:=⟨rfl,hM,λb o e=>FZ e,Wv (A3 _ _),trivial,λb hb=>absurd (show b∈([]:List Nn) from hb) (by simp),ok,.of_eq hg⟩
 refine Rn ((F _ hKb (nsK hns)).run W7 [] s₁ H ⟨[.ref a],[]⟩ [.ref a] [.ref a] _ _ hr e0 (hbind s₁ (.ref a)) (.cons rfl .nil) (hsp H HT hS)) λr s' h=>?_
 cases r with
 |error e=>exact(hCX H e s' h).elim
 |ok fl=>
  cases fl with
  |next=>exact O7 h
  |brk=>exact O7 h
  |cont=>exact O7 h
  |ret u=>
   obtain⟨v,H',os,bare,un',hok',r',q⟩:=h;have q':v=.bl true:=q;subst q';obtain rfl:u=QE true:=r';have old:∀ b o,s₁.heap.get? b=some o->asItWas s₁.heap s'.heap b o:=λb o e=>by
    cases z:H b with
    |none=>exact .inl (un'.keep b o e z (by intro z;exact absurd (show b∈([]:List Nn) from z) (by simp)) (by simp))
    |some u=>
     rcases cases_ b u z with ⟨n,hn,rfl⟩|⟨_,rfl,rfl⟩
     ·obtain⟨more,z2⟩:=un'.tbls b _ z;obtain⟨ps,e2,_⟩:=(show bA P w H' s'.heap b (.tbl _) from hok' b _ z2)
      obtain⟨e1,ct,_⟩:=hT b n hn;rw[e] at e1;cases e1;exact .inr (.inl ⟨ct,rfl,#[],ps,rfl,by simpa using e2⟩)
     ·have z2:=un'.frzs _ _ _ z;obtain⟨e2,_⟩:=(show s'.heap.get? _=some _/\_ from hok' _ _ z2)
      rw[ha] at e;cases e;exact .inl e2
   refine⟨rfl,⟨old,λb o e=>?_⟩,os,bare⟩;rcases old b o e with x|⟨_,_,_,_,_,x⟩|⟨_,_,⟨o',_,_,x,_⟩,_⟩
   ·exact⟨_,x⟩
   ·exact⟨_,x⟩
   ·exact⟨_,x⟩
def zx (K:HD)(x:Str)(P:Nn):Prop:=∃ (f:Nn) (oc:Nd) (od:Option Nn) (fd:OK) (sl:Array (Option Nd)) (c:Nn),Nw K Nk x=some (some (.ref f))/\K.lookup f=some ⟨oc,od,.func fd,sl⟩/\fd.code=.ref c /\
 (∀ h:OZ,K.In h->Sa h c P)/\fd.qualname=x
def yS (K:HD)(x:Str)(H:Hp):Prop:=∃ P,zx K x P/\H P=some (zG (x++".<locals>."++"<lambda>"))
theorem yS.same {K:HD}{x:Str}{H H':Hp}(h:yS K x H)(s:ae H H'):yS K x H':=by obtain⟨P,a,b⟩:=h;exact⟨P,a,s _ _ b⟩
theorem yS.mv {K:HD}{x:Str}{T:List Nn}{H H':Hp}(h:yS K x H)(m:Mv T H H')(l:hV H T):yS K x H':=by obtain⟨P,a,b⟩:=h;exact⟨P,a,m _ _ b (l.not b λ_ z=>nomatch z)⟩
structure A8 (K:HD)(mg:Str->Option Nd)(x:Str)(st:Pr)(ps:List Str):Prop where
 dfn:de K mg x st ps []
 at_:∃ f,Nw K Nk x=some (some (.ref f))/\mg x=some (.ref f)
section
variable {P:ND}{w:N6}{K:HD}{mg:Str->Option Nd}{base:OZ}{CX:jy}
theorem A8.cal {x:Str}{st:Pr}{N ps:List Str}{k:Nat}{sp:Sp} (F:A8 K mg x st ps) (S:ay N ps (ag st)) (len:∀ vs H Q E,sp vs H Q E->vs.length=ps.length:=by intro _ _ _ _ h;cases h;subst_vars;rfl)
  (bb:∀ (f:Nn) (cdv:Nd) (A:Oa) (outer:List Env) (s:Nh) (H:Hp) (vs:List V) (Q:VK) (E:XK),(∀ Pt,zx K x Pt->∃ c,cdv=.ref c/\∀ h:OZ,K.In h->Sa h c Pt)->Room k (A.deeper (envOfC x (ag st) s.heap.objs.size f cdv))->sp vs H Q E ->
   ∃ t,xS (mi CX P w K mg base N x (ag st) f cdv A outer s H E).nox (aL st) t/\t { nx:=λ_ H'=>Q .non H',rt:=Q } (f_ N vs) H):df P w K mg base CX (k+1) x ps [] sp:=by
 obtain⟨f,fd,oc,od,dV,kV,doc,pm,an,cdv,ct,osl,ds,rfl,lk,hcd,hm,hk,hb,hv⟩:=F.dfn.ex;refine⟨f,_,ds,oG lk hcd S len λA outer s H vs Q E hr hsp=>?_,hm,hk,hb,hv⟩;obtain⟨t,h,q⟩:=bb f cdv A outer s H vs Q E (λPt ⟨f',oc',od',fd',sl',c,e1,e2,e3,e4,_⟩=>by
  obtain⟨f2,z1,z2⟩:=F.at_;rw[e1] at z1;cases z1;rw[hm] at z2;cases z2;rw[lk] at e2;cases e2;exact⟨c,e3,e4⟩) hr hsp
 exact⟨t,h.nox,q⟩
end
def qx (xs:List Str)(K:HD):Sp:=λvs H Q _=>∃ (a:Nn) (ns:List Int),vs=[.ref a]/\bI K H a (ns.map V.int)/\ns.length<=63/\(∀ x∈xs,yS K x H)/\∀ H',Q (.bl true) H'
def Dn (ts:List (Str×Nn))(b:Nn):Option Str:=(ts.find? λp=>p.2==b).map λp=>p.1++".<locals>."++"<lambda>"
def zS (vs:Array Nd)(c P:Nn):Prop:=∃ file tf flags tg inF text tt,vs[11]?=some (.ref P)/\vs.getD 11 .none=.ref P/\vs.getD 18 .none=.str file tf/\vs.getD 7 .none=.int flags tg/\vs.getD 9 .none=.bool inF/\vs.getD 10 .none=.int text tt/\c≠P
theorem CZ {K:HD}{x:Str}{f c P:Nn}{oc:Nd}{od odc:Option Nn}{fd:OK}{sl slc:Array (Option Nd)}{vs:Array Nd} (a:Nw K Nk x=some (some (.ref f))) (l:K.lookup f=some ⟨oc,od,.func fd,sl⟩) (e:fd.code=.ref c) (qn:fd.qualname=x)
  (cc:K.lookup c=some ⟨.type "code",odc,.fields vs,slc⟩)(h:zS vs c P):zx K x P:=by
 obtain⟨file,tf,flags,tg,inF,text,tt,h1,h2,h3,h4,h5,h6,h7⟩:=h;exact⟨f,oc,od,fd,sl,c,a,l,e,λhp X=>⟨_,vs,file,tf,flags,tg,inF,text,tt,X _ _ cc,rfl,rfl,h1,h2,h3,h4,h5,h6,h7⟩,qn⟩
theorem Dp {K:HD}{c P:Nn}{odc:Option Nn}{slc:Array (Option Nd)}{vs:Array Nd}(cc:K.lookup c=some ⟨.type "code",odc,.fields vs,slc⟩)(h:zS vs c P)(hp:OZ)(X:K.In hp):isCodeTable hp P:=by
 obtain⟨_,_,_,_,_,_,_,h1,_⟩:=h;exact⟨c,_,vs,X _ _ cc,rfl,rfl,h1⟩
structure uu (K:HD)(tA:List Nn)(ts:List (Str×Nn)):Prop where
 nodup:(ts.map (·.2)).Nodup
 tab:∀ p∈ts,p.2∈tA/\K.lookup p.2=none/\(∀ h:OZ,K.In h->isCodeTable h p.2)/\zx K p.1 p.2
theorem Du (h:Dn ts b=some q):∃ p∈ts,p.2=b/\q=p.1++".<locals>."++"<lambda>":=by
 unfold Dn at h;obtain⟨p,e,rfl⟩:=Nz.mp h;exact⟨p,List.mem_of_find?_eq_some e,eq_of_beq (List.find?_some (p:=λr:Str×Nn=>r.2==b) e),rfl⟩
theorem E9 {ts:List (Str×Nn)}{p:Str×Nn}(hn:(ts.map (·.2)).Nodup)(hp:p∈ts):Dn ts p.2=some (p.1++".<locals>."++"<lambda>"):=by
 unfold Dn;have e:ts.find? (λr=>r.2==p.2)=some p:=by
  induction ts with
  |nil=>nomatch hp
  |cons r ts ih=>
   rw[NE,Pw] at hn;rw[Pu];rcases Nl.mp hp with rfl|hp
   ·rw[Re]
   ·have:(r.2==p.2)=false:=ON.mpr λz=>hn.1 (z▸Ov.mpr ⟨p,hp,rfl⟩)
    rw[this];exact ih hn.2 hp
 rw[e];rfl
theorem C6 {l:U6}{k:Nat}{q:ND}{loose:List Str}{XP:(Str->Option Nd)->OZ->Prop}{YP:N6->OZ->Prop}{d:DefRec}{K:Params->HD}{CX:N6->jy}{x:Str}{sp:List Str->HD->Sp}{tA:List Nn}
  (hn:l.most=some 63)(hdf:d.params.defaults=[])(hr:Room k W7)
  (hY:∀ (w:N6) (h:OZ),YP w h->(K w.params).In h)(hY2:∀ (w:N6) (h:OZ),YP w h->∀ P∈tA,h.get? P=some { cls:=.none,data:=.fields #[] })
  (F:∀ (w:N6) (mg:Str->Option Nd) (fa:Nn) (h:OZ),(K w.params).In h->h.Ns Nk mg->mg d.name=some (.ref fa) ->
   ∃ (ts:List (Str×Nn)) (fd:OK),uu (K w.params) tA ts/\(∀ (s:Nh) (u:Nd),Vu s fd ⟨[u],[]⟩ [(x,u)]) /\
    ∀ base:OZ,(K w.params).In base->base.Ns Nk mg->gt l.prog w (K w.params) mg base (CX w) k fa fd [x] (sp (ts.map (·.1)) (K w.params)))
  (hsp:∀ (xs:List Str) (K:HD) (H:Hp) (a:Nn) (ns:List Int),ns.length<=63->bI K H a (ns.map V.int)->(∀ x∈xs,yS K x H)->sp xs K [.ref a] H (λv _=>v=.bl true) λ_ _ _=>False)
  (hCX:∀ (w:N6) (H:Hp) (s:Nh) (e:Nd) (s':Nh),CX w [] H s (λ_ _ _=>False) e s'->False):
  PySem.W.WalkO q loose XP YP l.row.toRowW d [] (λf vs=>Xf f vs):=by
 refine Att.attach_call hn hdf λw s₀ s₁ mg mb fa o pm cd doc a vs ns G Y ho hd hcd hmg hobj hints hlen hg=>?_
 have KX:=hY w _ Y;obtain⟨ts,fd,tk,hb,hF⟩:=F w mg fa _ KX G.T.g hmg;refine BO (K:=K w.params) (Dn ts) KX G.T.g G.T.b G.T.builtins G.T.nolimit hg G.T.bmain (λb z e=>?_) hobj hints (NP hlen (by decide)) hr hF hb (λH hH hS=>hsp _ _ H a ns hlen hS λy hy=>?_) λH e s'=>hCX w H s₁ e s'
 ·obtain⟨p,m,rfl,rfl⟩:=Du e;obtain⟨t1,t2,t3,_⟩:=tk.tab p m;exact⟨hY2 w _ Y _ t1,t3 _ KX,t2⟩
 ·obtain⟨p,m,rfl⟩:=Ov.mp hy;exact⟨p.2,(tk.tab p m).2.2.2,hH _ _ (E9 tk.nodup m)⟩
theorem j9 {K:HD}{a:Nn}{o:Obj}{its:Array Nd}{n:Nat}{xs:List V}(l:K.lookup a=some o)(h:o.cls=.type "tuple"/\o.data=.seq its n/\its.size<=Nv/\aM xs its.toList):KT K a xs:=⟨o,its,n,l,h.1,h.2.1,h.2.2.1,h.2.2.2⟩
theorem _root_.L2.Room.u1 {k:Nat}(r:Room k A):A.units+1<cLine:=Qb (by lia) r.units
abbrev Kn:=Nat×Nat×Nat
def Fv (t:Kn):NQ:=.tuple [.int t.1,.int t.2.1,.int t.2.2]
def fZ (t:Kn):List V:=[.int t.1,.int t.2.1,.int t.2.2]
theorem IU (t:Kn):(cY t).map kV=fZ t:=rfl
theorem ku {K:HD}{H:Hp}{t:Kn}{v:V}(h:aw K H (Fv t) v):∃ a,v=.ref a/\H a=some (.tup (fZ t)):=by
 cases h with
 |tup h q=>
  cases q with
  |cons q1 q=>
   cases q1;cases q with
   |cons q2 q=>
    cases q2;cases q with
    |cons q3 q=>
     cases q3;cases q;exact⟨_,rfl,h⟩
theorem iB {K:HD}{H:Hp}{t:Kn}{a:Nn}(h:H a=some (.tup (fZ t))):aw K H (Fv t) (.ref a):=.tup h (.cons (.int _) (.cons (.int _) (.cons (.int _) .nil)))
theorem tZ (h:cY t=cY u):t=u:=by
 obtain⟨a,b,c⟩:=t;obtain⟨x,y,z⟩:=u;have h:[SA (a:Int),SA (b:Int),SA (c:Int)]=([SA (x:Int),SA (y:Int),SA (z:Int)]:List fb):=h;injection h with h1 h
 injection h with h2 h
 injection h with h3 h
 injection h1 with h1
 injection h2 with h2
 injection h3 with h3
 have e1:a=x:=by lia
 have e2:b=y:=by lia
 have e3:c=z:=by lia
 rw[e1,e2,e3]
def me:List Kn->List V->List (List fb×V)
 |t::ts,v::vs=>(cY t,v)::me ts vs
 |_,_=>[]
theorem uY:∀ {ts:List Kn}{vs:List V},ts.length=vs.length->(me ts vs).length=ts.length
 |[],[],_=>rfl
 |[],_::_,h=>by simp at h
 |_::_,[],h=>by simp at h
 |t::ts,v::vs,h=>by
  rw[me,N5,uY (by simpa using h),N5]
theorem zl:∀ {ts:List Kn}{vs:List V},ts.length=vs.length->(me ts vs).map (·.1)=ts.map cY
 |[],[],_=>rfl
 |[],_::_,h=>by simp at h
 |_::_,[],h=>by simp at h
 |t::ts,v::vs,h=>by
  rw[me,NE,zl (by simpa using h),NE]
theorem GG:∀ {ts:List Kn}{vs:List V}{i:Nat}{k:List fb}{v:V},(me ts vs)[i]?=some (k,v)->∃ t,ts[i]?=some t/\k=cY t/\vs[i]?=some v
 |[],_,_,_,_,h=>by simp[me] at h
 |_::_,[],_,_,_,h=>by simp[me] at h
 |t::ts,w::vs,0,k,v,h=>by
  have h:some (cY t,w)=some (k,v):=h;cases h;exact⟨t,rfl,rfl,rfl⟩
 |t::ts,w::vs,i+1,k,v,h=>by
  obtain⟨u,a,b,c⟩:=GG (ts:=ts) (vs:=vs) (i:=i) (by simpa [me] using h);exact⟨u,by simpa using a,b,by simpa using c⟩
theorem Eg {K:HD}{H:Hp}{f:Kn->NQ}{t:Kn}:∀ {ts:List Kn}{vs:List V},av K H (ts.map f) vs->t∈ts->∃ v,mU (me ts vs) (cY t)=some v/\aw K H (f t) v
 |[],_,_,m=>nomatch m
 |u::ts,vs,h,m=>by
  cases h with
  |@cons d v ds vs h1 h2=>
   by_cases e:u=t
   ·subst e;exact⟨v,my (p:=(cY u,v)) rfl,h1⟩
   ·rcases Nl.mp m with z|m
    ·exact absurd z.symm e
    ·obtain⟨w,a,b⟩:=Eg h2 m;exact⟨w,by rw[me,jR (p:=(cY u,v)) (λz=>e (tZ z))];exact a,b⟩
theorem zk:∀ {ts:List Kn}{vs:List V},t∉ts->mU (me ts vs) (cY t)=none
 |[],_,_=>rfl
 |_::_,[],_=>rfl
 |u::ts,v::vs,m=>by
  rw[me,jR (p:=(cY u,v)) (λz=>m (by rw[tZ z];exact NC))];exact zk λz=>m (Nr _ z)
theorem Dw:∀ {ts:List Kn}{vs:List V}{t:Kn}{v:V},ts.length=vs.length->me (ts++[t]) (vs++[v])=me ts vs++[(cY t,v)]
 |[],[],_,_,_=>rfl
 |[],_::_,_,_,h=>by simp at h
 |_::_,[],_,_,h=>by simp at h
 |u::ts,w::vs,t,v,h=>by
  rw[UG,UG,me,me,Dw (by simpa using h),UG]
theorem Hg (hl:ts.length=vs.length)(h:t∉ts):mC (me ts vs) (cY t) v=me (ts++[t]) (vs++[v]):=by
 rw[Ed v (zk h),Dw hl]
def wD (r:R3):NQ:=jg false r
structure R3.Wt (r:R3):Prop where
 a0:0<=r.a
 a1:r.a<=1000
 b0:0<=r.b
 b1:r.b<=1000
 c0:0<=r.c
 c1:r.c<=1000
def BG (K:HD)(H:Hp)(ts:List Kn)(f:Kn->R3)(d:Nn):Prop:=∃ vs,H d=some (.dT (me ts vs))/\av K H (ts.map λt=>wD (f t)) vs
def Gr (K:HD)(H:Hp)(n:Nat)(f:Kn->R3)(d:Nn):Prop:=∃ ts,ts.Perm (aU n)/\BG K H ts f d
def GM (n:Nat)(f:Kn->R3):Prop:=∀ t∈aU n,(f t).Wt
theorem pK {f:Kn->R3}:∀ ts:List Kn,iK (ts.map λt=>wD (f t))=true
 |[]=>rfl
 |t::ts=>by
  rw[NE,iK,pK ts];rfl
theorem BG.len {K:HD}{ts:List Kn}{f:Kn->R3}{H:Hp}{vs:List V}(h:av K H (ts.map λt=>wD (f t)) vs):ts.length=vs.length:=by
 have:=h.length
 rwa [Ni] at this
theorem BG.same {K:HD}{H H':Hp}{ts:List Kn}{f:Kn->R3}{d:Nn}(h:BG K H ts f d)(s:ae H H'):BG K H' ts f d:=by obtain⟨vs,a,b⟩:=h;exact⟨vs,s _ _ a,av.same s b⟩
theorem Gr.same {K:HD}{H H':Hp}{n:Nat}{f:Kn->R3}{d:Nn}(h:Gr K H n f d)(s:ae H H'):Gr K H' n f d:=by obtain⟨ts,p,g⟩:=h;exact⟨ts,p,g.same s⟩
theorem BG.mv {K:HD}{T:List Nn}{H H':Hp}{ts:List Kn}{f:Kn->R3}{d:Nn}(h:BG K H ts f d)(m:Mv T H H')(l:hV H T):BG K H' ts f d:=by
 obtain⟨vs,a,b⟩:=h;exact⟨vs,m _ _ a (l.not a λ_ z=>nomatch z),av.mv m l (pK ts) b⟩
theorem Gr.mv {K:HD}{T:List Nn}{H H':Hp}{n:Nat}{f:Kn->R3}{d:Nn}(h:Gr K H n f d)(m:Mv T H H')(l:hV H T):Gr K H' n f d:=by obtain⟨ts,p,g⟩:=h;exact⟨ts,p,g.mv m l⟩
theorem Ih {K:HD}{H:Hp}{n:Nat}{f:Kn->R3}{d b:Nn}{t:Kn}(h:Gr K H n f d)(ht:t∈aU n)(hb:H b=some (.tup (fZ t))):∃ v,xV H d (.ref b) (some v)/\aw K H (wD (f t)) v:=by
 obtain⟨ts,p,vs,a,q⟩:=h;obtain⟨v,e,hv⟩:=Eg (f:=λt=>wD (f t)) q (p.mem_iff.mpr ht);refine⟨v,?_,hv⟩;have:=xV.t (k:=cY t) a (by rw[IU];exact hb)
 rwa [e] at this
theorem DK {n:Nat}(h:n<=7):(aU n).Nodup:=by
 match n,h with
 |0,_=>decide +kernel
 |1,_=>decide +kernel
 |2,_=>decide +kernel
 |3,_=>decide +kernel
 |4,_=>decide +kernel
 |5,_=>decide +kernel
 |6,_=>decide +kernel
 |7,_=>decide +kernel
theorem eO {n:Nat}:(aU n).length=n^3:=by
 unfold aU;have h1:∀ (m:Nat) {α:Type} (g:Nat->List α) (k:Nat),(∀ i,(g i).length=k)->((OP m).flatMap g).length=m*k:=λm α g k hg=>by
  induction m with
  |zero=>simp
  |succ m ih=>rw[RA,Qx,NL,ih];simp[hg,Ts]
 rw[h1 n _ (n*n) λi=>by rw[h1 n _ n λj=>by simp]];rw[Wy,Nat.pow_two,Wx n (n*n)]
theorem My {n:Nat}(h:n<=7)(m:t∈aU n):t∈aU 7:=by
 rw[cZ] at m ⊢;lia
theorem FU {n:Nat}(h:n<=7)(p:ts.Perm (aU n))(hl:ts.length=vs.length):CP (me ts vs):=
 vG (zl hl) (p.nodup_iff.mpr (DK h)) λt ht=>My h (p.mem_iff.mp ht)
def g_ (K:HD)(H:Hp)(n:Nat)(f:Kn->R3)(v:V):Prop:=∃ a C dx d,v=.ref a/\cR K "Grid" C/\H a=some (.ins C dx [("knots",.int n),("table",.ref d)])/\Gr K H n f d
theorem g_.same {K:HD}{H H':Hp}{n:Nat}{f:Kn->R3}{v:V}(h:g_ K H n f v)(s:ae H H'):g_ K H' n f v:=by obtain⟨a,C,dx,d,h1,h2,h3,h4⟩:=h;exact⟨a,C,dx,d,h1,h2,s _ _ h3,h4.same s⟩
theorem g_.mv {K:HD}{T:List Nn}{H H':Hp}{n:Nat}{f:Kn->R3}{v:V}(h:g_ K H n f v)(m:Mv T H H')(l:hV H T):g_ K H' n f v:=by
 obtain⟨a,C,dx,d,h1,h2,h3,h4⟩:=h;exact⟨a,C,dx,d,h1,h2,m _ _ h3 (l.not h3 λ_ z=>nomatch z),h4.mv m l⟩
section
variable {K:HD}{g:TG}{tt:TT}{te:TE}{σ0:L2.St}{Fin:List V->Hp->Prop}{H1:Hp}
theorem xU {d:Nn}{o:Obj}{kvs:List (List fb × V)}{bs:List Bool} (hH:H1 d=some (.frz o (.dT kvs))) (hlb:bs.length=kvs.length) (hl:kvs.length <= 1000)
  (he:∀ (i:Nat) (k:List fb) (x:V) (ka T:Nn) (b:Bool) (H:Hp),kvs[i]?=some (k,x)->bs[i]?=some b->ae H1 H->H ka=some (.tup (k.map kV))->H T=some (.tup [.ref ka,x])->mG g tt te σ0 (.ref T) H λy H'=>ae H H'/\y=.bl b)
  (hd:∀ H,ae H1 H->Fin (bs.map V.bl) H):jj (Mj d o kvs) g tt te σ0 Fin H1:=by
 refine⟨λi m ys H=>m=kvs.length-i/\i<=kvs.length/\ae H1 H/\ys=(bs.take i).map V.bl,⟨kvs.length,by lia,Om _,ae.refl _,rfl⟩,?_⟩;rintro i m ys H ⟨rfl,hi,s,rfl⟩;have hyl:((bs.take i).map V.bl).length<=1000:=by rw[Ni,N8];lia
 by_cases hlt:i<kvs.length
 ·refine .inr ⟨⟨s _ _ hH,hlt⟩,bP hyl,λv H3 y3=>?_⟩;obtain⟨k,x,ka,T,e1,e2,e3,rfl,rfl⟩:=y3;have sT:ae H (upd H T (.tup [.ref ka,x])):=ae.new e3;have hb:bs[i]?=some bs[i]:=by simp[show i<bs.length by lia]
  refine he i k x ka T bs[i] _ e1 hb (s.trans sT) (sT _ _ e2) ai _ (λy H' ⟨s',hy⟩=>⟨kvs.length-(i+1),by lia,rfl,hlt,(s.trans sT).trans s',?_⟩) λH5=>∃ m',m'<kvs.length-i/\(m'=kvs.length-(i+1)/\i+1<=kvs.length/\ae H1 H5/\(bs.take i).map V.bl=(bs.take (i+1)).map V.bl)
  rw[bF hb,Ot,hy];rfl
 ·have e:i=kvs.length:=by lia
  subst e;refine .inl ⟨⟨s _ _ hH,Nj _⟩,ce hyl,?_⟩;rw[NR (by lia)];exact hd H s
end
section
variable {K:HD}{g:TG}{tt:TT}{tb:TB}{σ0:L2.St}
theorem nB {a:Nn}{b:Bool}{xs:List V}{Fin:List V->Hp->Prop}{H1:Hp} (Pv:Nat->List V->Hp->Prop) (h0:Pv 0 [] H1) (hsrc:∀ i ys H,i <= xs.length->Pv i ys H->bX K H a xs b)
  (he:∀ i x ys H,xs[i]?=some x->Pv i ys H->∀ R:L2.St->Hp->List V->Prop,(∀ σ' H' ys',Pv (i+1) ys' H'->R σ' H' ys')->∀ S:Hp->Prop,g x σ0 H λσ' H4=>tt σ' H4 λc H5=>if c=true then tb σ' H5 ys R else S H5)
  (hd:∀ ys H,Pv xs.length ys H->ys.length<=1000/\Fin ys H):yn (xM K a b) g tt tb σ0 Fin H1:=by
 refine⟨λi m ys H=>m=xs.length-i/\i<=xs.length/\Pv i ys H,⟨xs.length,by lia,Om _,h0⟩,?_⟩;rintro i m ys H ⟨rfl,hi,p⟩;have q:=hsrc i ys H hi p
 by_cases hlt:i<xs.length
 ·have go:(xM K a b).go i H:=by
   cases b with
   |true=>exact⟨xs,xs[i],q,by simp[hlt]⟩
   |false=>exact⟨xs,xs[i],q,by simp[hlt]⟩
  refine .inr ⟨go,λx H3 y3=>?_⟩;have e3:H3=H/\xs[i]?=some x:=by
   cases b with
   |true=>exact⟨y3.1,y3.2 xs q⟩
   |false=>exact⟨y3.1,y3.2 xs q⟩
  obtain⟨rfl,hx⟩:=e3;exact he i x ys _ hx p _ (λσ' H' ys' p'=>⟨xs.length-(i+1),by lia,rfl,hlt,p'⟩) λH5=>∃ m',m'<xs.length-i/\(m'=xs.length-(i+1)/\i+1<=xs.length/\Pv (i+1) ys H5)
 ·have e:i=xs.length:=by lia
  subst e;have stop:(xM K a b).stop xs.length H:=by
   cases b with
   |true=>exact⟨xs,q,Nj _⟩
   |false=>exact⟨xs,q,Nj _⟩
  exact .inl ⟨stop,ce (hd ys H p).1,(hd ys H p).2⟩
theorem mE {a:Nn}{b:Bool}{xs:List V}{σ:L2.St}{H:Hp}{ys:List V}{Q:L2.St->Hp->List V->Prop} (Pv:Nat->L2.St->List V->Hp->Prop) (h0:Pv 0 σ ys H) (hsrc:∀ i σ ys H,i <= xs.length->Pv i σ ys H->bX K H a xs b)
  (he:∀ i x σ ys H,xs[i]?=some x->Pv i σ ys H->∀ R:L2.St->Hp->List V->Prop,(∀ σ' H' ys',Pv (i+1) σ' ys' H'->R σ' H' ys')->∀ S:L2.St->Hp->Prop,g x σ H λσ' H4=>tt σ' H4 λc H5=>if c=true then tb σ' H5 ys R else S σ' H5)
  (hd:∀ σ ys H,Pv xs.length σ ys H->Q σ H ys):∃ W:Nat->Nat->L2.St->Hp->List V->Prop,(∃ m,W 0 m σ H ys)/\∀ i m σ2 H2 ys2,W i m σ2 H2 ys2 ->
   ((xM K a b).stop i H2/\Q σ2 H2 ys2) \/
   ((xM K a b).go i H2/\∀ x H3,(xM K a b).yld i H2 x H3->g x σ2 H3 λσ3 H4=>tt σ3 H4 λb H5=>if b=true then tb σ3 H5 ys2 λσ' H' ys'=>∃ m',m'<m/\W (i+1) m' σ' H' ys' else ∃ m',m'<m/\W (i+1) m' σ3 H5 ys2):=by
 refine⟨λi m σ H ys=>m=xs.length-i/\i<=xs.length/\Pv i σ ys H,⟨xs.length,by lia,Om _,h0⟩,?_⟩;rintro i m σ H ys ⟨rfl,hi,p⟩;have q:=hsrc i σ ys H hi p
 by_cases hlt:i<xs.length
 ·have go:(xM K a b).go i H:=by
   cases b with
   |true=>exact⟨xs,xs[i],q,by simp[hlt]⟩
   |false=>exact⟨xs,xs[i],q,by simp[hlt]⟩
  refine .inr ⟨go,λx H3 y3=>?_⟩;have e3:H3=H/\xs[i]?=some x:=by
   cases b with
   |true=>exact⟨y3.1,y3.2 xs q⟩
   |false=>exact⟨y3.1,y3.2 xs q⟩
  obtain⟨rfl,hx⟩:=e3;exact he i x σ ys _ hx p _ (λσ' H' ys' p'=>⟨xs.length-(i+1),by lia,rfl,hlt,p'⟩) λσ5 H5=>∃ m',m'<xs.length-i/\(m'=xs.length-(i+1)/\i+1<=xs.length/\Pv (i+1) σ5 ys H5)
 ·have e:i=xs.length:=by lia
  subst e;have stop:(xM K a b).stop xs.length H:=by
   cases b with
   |true=>exact⟨xs,q,Nj _⟩
   |false=>exact⟨xs,q,Nj _⟩
  exact .inl ⟨stop,hd σ ys H p⟩
end
def Bl (K:HD)(a:Nn)(rows:List (List Int)):Prop:=∃ bs:List Nn,KT K a (bs.map V.ref)/\Tt (λb r=>KT K b (r.map V.int)) bs rows
def M2 (K:HD)(rows:List (List Int)):TE:=λ_ H Q=>∀ a,Bl K a rows->Q (.ref a) H
theorem An {X:Cx}{K:HD}{x:Str}{rows:List (List Int)}{pos:Pos}(hg:Gl X x)(hm:∃ a,X.mg x=some (.ref a)/\Bl K a rows)(hd:(x==("__debug__":Str))=false:=by decide):WE X (.Name x pos) (M2 K rows):=by
 refine⟨?_⟩;obtain⟨a,e,z⟩:=hm;intro pins s σ H Q I h;exact eG I hg e ⟨.ref a,H,I,rfl,h a z⟩ hd
theorem gM {K:HD}{H:Hp}:∀ ns:List Int,av K H (ns.map P1) (ns.map V.int)
 |[]=>.nil
 |n::ns=>.cons (.int n) (gM ns)
theorem bT {K:HD}{H:Hp}:∀ {ns:List Int}{ys:List V},av K H (ns.map P1) ys->ys=ns.map V.int
 |[],_,h=>by cases h;rfl
 |n::ns,_,h=>by
  cases h with
  |cons h1 h2=>
   cases h1;rw[bT h2];rfl
def tU (a b k:Nat):List Kn:=(OP k).map λc=>(a,b,c)
def rS (n a j:Nat):List Kn:=(OP j).flatMap λb=>tU a b n
def r9 (n i:Nat):List Kn:=(OP i).flatMap λa=>rS n a n
theorem Fc (n:Nat):r9 n n=aU n:=rfl
theorem wZ (a b k:Nat):tU a b (k+1)=tU a b k++[(a,b,k)]:=by unfold tU;rw[RA,Ot];rfl
theorem qf (n a j:Nat):rS n a (j+1)=rS n a j++tU a j n:=by unfold rS;rw[RA,Qx];simp
theorem qY (n i:Nat):r9 n (i+1)=r9 n i++rS n i n:=by unfold r9;rw[RA,Qx];simp
theorem Ao (a b k:Nat):(tU a b k).length=k:=by unfold tU;simp
theorem vd (n a:Nat):∀ j,(rS n a j).length=j*n
 |0=>by simp[rS]
 |j+1=>by rw[qf,NL,vd n a j,Ao,Ts]
theorem Ag (n:Nat):∀ i,(r9 n i).length=i*(n*n)
 |0=>by simp[r9]
 |i+1=>by rw[qY,NL,Ag n i,vd,Ts]
theorem zg {a b k:Nat}:t∈tU a b k↔t.1=a/\t.2.1=b/\t.2.2<k:=by
 obtain⟨x,y,z⟩:=t;unfold tU;simp only[Ov,OO,VQ];constructor
 ·rintro⟨c,hc,rfl,rfl,rfl⟩;exact⟨rfl,rfl,hc⟩
 ·rintro⟨h1,h2,h3⟩;exact⟨z,h3,h1.symm,h2.symm,rfl⟩
theorem zO {n a j:Nat}:t∈rS n a j↔t.1=a/\t.2.1<j/\t.2.2<n:=by
 unfold rS;simp only[Q_,OO,zg];constructor
 ·rintro⟨b,hb,h1,h2,h3⟩;exact⟨h1,by lia,h3⟩
 ·rintro⟨h1,h2,h3⟩;exact⟨t.2.1,h2,h1,rfl,h3⟩
theorem Fx {n i:Nat}:t∈r9 n i↔t.1<i/\t.2.1<n/\t.2.2<n:=by
 unfold r9;simp only[Q_,OO,zO];constructor
 ·rintro⟨b,hb,h1,h2,h3⟩;exact⟨by lia,h2,h3⟩
 ·rintro⟨h1,h2,h3⟩;exact⟨t.1,h1,rfl,h2,h3⟩
theorem Cc {n i j k:Nat}(h:n<=7)(hi:i<n)(hj:j<n)(hk:k<=n):(r9 n i++rS n i j++tU i j k).length<=343:=by
 rw[NL,NL,Ag,vd,Ao];have h1:n*n<=49:=Vq h h;have h2:i*(n*n)<=6*49:=Vq (by lia) h1;have h3:j*n<=6*7:=Vq (by lia) h;lia
theorem vv {n i:Nat}{x:V}(h:((rO n).map V.int)[i]?=some x):i<n/\x=.int (i:Int):=by
 rw[NB] at h;obtain⟨z,e,rfl⟩:=Nz.mp h;have hi:i<(rO n).length:=(Nt.mp e).1;rw[ig] at hi;rw[yu hi] at e;cases e;exact⟨hi,rfl⟩
theorem M':[a,b,c,d].length<=Nv:=by show 4<=Nv;decide
structure Q3.Wi (c:Q3)(m:Rat):Prop where
 a0:0<=c.a
 a1:c.a<=m
 b0:0<=c.b
 b1:c.b<=m
 c0:0<=c.c
 c1:c.c<=m
def jq (H H':Hp):Prop:=∀ b o,H b=some o->(∀ kvs,o≠.dT kvs)->H' b=some o
theorem jq.put (h:H d=some (.dT kvs)):jq H (upd H d (.dT kvs')):=λb o e n=>by
 rw[az (λz=>by rw[z,h] at e;cases e;exact n _ rfl)];exact e
theorem jq.cut (h:jq H H'):jq (TR.cut T H) (TR.cut T H'):=λb o e n=>by
 unfold TR.cut at e ⊢
 split at e
 ·cases e
 ·rename_i nb
  rw[NS nb];exact h b o e n
theorem Rd.sameD (e:jq H H')(h:Rd H a (.lst xs)):Rd H' a (.lst xs):=by
 rcases h with h|⟨o,h⟩
 ·exact .inl (e _ _ h λ_ z=>nomatch z)
 ·exact .inr ⟨o,e _ _ h λ_ z=>nomatch z⟩
mutual
theorem aw.sameD {K:HD}{H H':Hp}(e:jq H H'):∀ {d:NQ}{v:V},aw K H d v->aw K H' d v
 |_,_,.non=>.non
 |_,_,.bl b=>.bl b
 |_,_,.int i=>.int i
 |_,_,.str x=>.str x
 |_,_,.lst h q=>.lst (Rd.sameD e h) (av.sameD e q)
 |_,_,.tup h q=>.tup (e _ _ h λ_ z=>nomatch z) (av.sameD e q)
 |_,_,.dct h=>.dct (e _ _ h λ_ z=>nomatch z)
theorem av.sameD {K:HD}{H H':Hp}(e:jq H H'):∀ {ds:List NQ}{vs:List V},av K H ds vs->av K H' ds vs
 |_,_,.nil=>.nil
 |_,_,.cons h q=>.cons (aw.sameD e h) (av.sameD e q)
end
theorem cE.sameD (h:cE H t r)(e:jq H H'):cE H' t r:=by
 obtain⟨c,k,h1,h2,h3,h4⟩:=h;exact⟨c,k,e _ _ h1 (λ_ z=>nomatch z),e _ _ h2 (λ_ z=>nomatch z),h3,h4⟩
theorem Mv.wide (m:Mv [t,r] H H'):Mv [t,r,d] H H':=λb o e n=>m b o e λz=>n (by
 simp only[Nl,NH,OY] at z ⊢;rcases z with z|z
 ·exact .inl z
 ·exact .inr (.inl z))
theorem CK (i j:Int):(if j<i then j else i)=min i j:=by
 by_cases h:j<i
 ·rw[NZ h];lia
 ·rw[NS h];lia
end TR
namespace TR
open PySem PySem.Spec PyProof.Rows L2
def un:Nat->Kn
 |0=>(1,0,0)
 |1=>(0,1,0)
 |_=>(0,0,1)
def aF (s t:Kn):Kn:=(s.1+t.1,s.2.1+t.2.1,s.2.2+t.2.2)
def aT (x y z:Int):Nat->Int
 |0=>x
 |1=>y
 |_=>z
abbrev Pc:=Kn×Int
def Dh (p:Pc):NQ:=.tuple [Fv p.1,.int p.2]
def gW (g:Nat->Int)(whole:Int)(u v w:Nat):List Pc:=[((0,0,0),whole-g u),(un u,g u-g v),(aF (un u) (un v),g v-g w),(aF (aF (un u) (un v)) (un w),g w)]
def jV:List (Nat×Nat×Nat):=[(0,1,2),(0,2,1),(1,0,2),(1,2,0),(2,0,1),(2,1,0)]
theorem yw (h:o∈jV):o.1<3/\o.2.1<3/\o.2.2<3:=by
 simp only[jV,Nl,NH,OY] at h;rcases h with rfl|rfl|rfl|rfl|rfl|rfl<;>decide
theorem Jc (h:l.Perm (rO 3)):∃ o∈jV,l=[(o.1:Int),(o.2.1:Int),(o.2.2:Int)]:=by
 have h':l.Perm [0,1,2]:=h;rcases ksk_perm3 h' with e|e|e|e|e|e
 ·exact⟨(0,1,2),by decide,e⟩
 ·exact⟨(0,2,1),by decide,e⟩
 ·exact⟨(1,0,2),by decide,e⟩
 ·exact⟨(1,2,0),by decide,e⟩
 ·exact⟨(2,0,1),by decide,e⟩
 ·exact⟨(2,1,0),by decide,e⟩
theorem zi {x y z:Int}{u:Nat}(h:u<3):EW [V.int x,V.int y,V.int z] (u:Int)=some (.int (aT x y z u)):=by
 match u,h with
 |0,_=>rfl
 |1,_=>rfl
 |2,_=>rfl
theorem kD {x y z:Int}{u:Nat}(h:u<3):[x,y,z].getD (u:Int).toNat 0=aT x y z u:=by
 match u,h with
 |0,_=>rfl
 |1,_=>rfl
 |2,_=>rfl
theorem Ef {K:HD}{a:Nn}{u:Nat}(h:Bl K a [[1,0,0],[0,1,0],[0,0,1]])(hu:u<3):∃ (bs:List V) (b:Nn),KT K a bs/\EW bs (u:Int)=some (.ref b)/\KT K b (fZ (un u)):=by
 obtain⟨bs,h1,h2⟩:=h;cases h2 with
 |cons k1 h2=>
  cases h2 with
  |cons k2 h2=>
   cases h2 with
   |cons k3 h2=>
    cases h2
    match u,hu with
    |0,_=>exact⟨_,_,h1,rfl,k1⟩
    |1,_=>exact⟨_,_,h1,rfl,k2⟩
    |2,_=>exact⟨_,_,h1,rfl,k3⟩
theorem C7 (s t:Kn):(QN (·+·) [(s.1:Int),(s.2.1:Int),(s.2.2:Int)] [(t.1:Int),(t.2.1:Int),(t.2.2:Int)]).map V.int=fZ (aF s t):=by
 simp only[RQ,Si,NE,PU,fZ,aF,Int.natCast_add]
theorem pJ:∀ ps:List Pc,iK (ps.map Dh)=true
 |[]=>rfl
 |p::ps=>by
  rw[NE,iK,pJ ps];rfl
theorem Cu {K:HD}{H:Hp}{p:Pc}{v:V}(h:aw K H (Dh p) v):∃ a c,v=.ref a/\H a=some (.tup [.ref c,.int p.2])/\H c=some (.tup (fZ p.1)):=by
 cases h with
 |tup h q=>
  cases q with
  |cons q1 q=>
   cases q with
   |cons q2 q=>
    cases q2;cases q;obtain⟨c,rfl,hc⟩:=ku q1;exact⟨_,c,rfl,h,hc⟩
def mf (g:Nat->Int)(whole:Int)(k b:Nat):Int:=if b=1 then g k else whole-g k
def cX (g:Nat->Int)(whole:Int)(t:Kn):Nat->Int
 |0=>1
 |1=>1*mf g whole 0 t.1
 |2=>1*mf g whole 0 t.1*mf g whole 1 t.2.1
 |_=>1*mf g whole 0 t.1*mf g whole 1 t.2.1*mf g whole 2 t.2.2
def cJ (g:Nat->Int)(whole:Int):List Pc:=(aU 2).map λt=>(t,cX g whole t 3)
theorem CL {x y z whole:Int}{b:Nat}(hx:Sm b x)(hy:Sm b y)(hz:Sm b z)(hw:Sm b whole)(k c:Nat):Sm (b+1) (mf (aT x y z) whole k c):=by
 have hg:Sm b (aT x y z k):=by
  match k with
  |0=>exact hx
  |1=>exact hy
  |_+2=>exact hz
 unfold mf
 split
 ·exact hg.mono (by lia)
 ·exact hw.sub hg
theorem wQ {whole:Int}{b:Nat}(h:∀ k c,Sm (b+1) (mf g whole k c))(t:Kn):∀ j,Sm (1+3*(b+1)) (cX g whole t j)
 |0=>Sm.mono (k:=1) (show Sm 1 (1:Int) by unfold Sm;decide) (by lia)
 |1=>((show Sm 1 (1:Int) by unfold Sm;decide).mul (h _ _)).mono (by lia)
 |2=>(((show Sm 1 (1:Int) by unfold Sm;decide).mul (h _ _)).mul (h _ _)).mono (by lia)
 |_+3=>((((show Sm 1 (1:Int) by unfold Sm;decide).mul (h _ _)).mul (h _ _)).mul (h _ _)).mono (by lia)
def Fj (f:Kn->R3)(base:Kn)(h:R3->Int)(ps:List Pc):Int:=(QN (·*·) (ps.map λp=>h (f (aF base p.1))) (ps.map (·.2))).sum
def qg (f:Kn->R3)(base:Kn)(h:R3->Int)(ps:List Pc):Rat:=((Fj f base h ps:Int):Rat)/(((ps.map (·.2)).sum:Int):Rat)
def AU (f:Kn->R3)(base:Kn)(ps:List Pc):Q3:=⟨qg f base R3.a ps,qg f base R3.b ps,qg f base R3.c ps⟩
theorem Ms {i:Nat}(h:(AU f base ps).ds[i]?=some d):∃ g:R3->Int,d=rD (qg f base g ps)/\i<3/\∀ r:R3,r.vs[i]?=some (.int (g r)):=by
 rcases vx h with ⟨rfl,rfl⟩|⟨rfl,rfl⟩|⟨rfl,rfl⟩
 ·exact⟨R3.a,rfl,by decide,λr=>rfl⟩
 ·exact⟨R3.b,rfl,by decide,λr=>rfl⟩
 ·exact⟨R3.c,rfl,by decide,λr=>rfl⟩
def pY (n:Nat):Int:=60/((n:Int)-1)
theorem yc {n:Nat}(h2:2<=n)(h7:n<=7):0<pY n/\pY n*((n:Int)-1)=60/\pY n<=60:=by
 match n,h2,h7 with
 |2,_,_=>decide
 |3,_,_=>decide
 |4,_,_=>decide
 |5,_,_=>decide
 |6,_,_=>decide
 |7,_,_=>decide
def c_ (n:Nat)(x:Rat):Rat:=((x.num:Int):Rat)/(((x.den:Int)*pY n:Int):Rat)
def JT (s:Rat):Int:=s.num.fdiv (s.den:Int)
def eK (n:Nat)(x:Rat):Nat:=(min (JT (c_ n x)) ((n:Int)-2)).toNat
def sj (n:Nat)(x:Rat):Rat:=c_ n x-((eK n x:Int):Rat)
theorem GQ {n:Nat}(h2:2<=n)(h7:n<=7):((pY n:Int):Rat)≠0:=by
 intro z;have:pY n=0:=by exact_mod_cast z
 have:=(yc h2 h7).1;lia
theorem HH {n:Nat}(h2:2<=n)(h7:n<=7)(x:Rat):c_ n x=x/((pY n:Int):Rat):=by
 have h1:=oi x;have h2:=GQ h2 h7;have e:=lU x;unfold c_;rw[N9];generalize ((x.num:Int):Rat)=a at *;generalize ((x.den:Int):Rat)=b at *;generalize ((pY n:Int):Rat)=c at *;grind
theorem IY (s:Rat):JT s=s.floor:=by
 unfold JT;rw[Pn _ (by have:=s.den_pos;lia),Rat.floor_def]
structure Dv (n:Nat)(x:Rat):Prop where
 n2:2<=n
 n7:n<=7
 lo:0<=x
 hi:x<=((60:Int):Rat)
section
variable {n:Nat}{x:Rat}(h:Dv n x)
include h
theorem IR:0<=c_ n x:=by
 rw[HH h.n2 h.n7];have hp:(0:Rat)<((pY n:Int):Rat):=by exact_mod_cast (yc h.n2 h.n7).1
 refine P7 (c:=((pY n:Int):Rat)) ?_ hp;rw[Tu (GQ h.n2 h.n7),Rat.zero_mul];exact h.lo
theorem Hl:0<=JT (c_ n x):=by
 rw[IY];exact Rat.le_floor_iff.mpr (by simpa using IR h)
theorem zc:((eK n x:Nat):Int)=min (JT (c_ n x)) ((n:Int)-2):=by
 unfold eK;have h1:=Hl h;have h2:=h.n2;lia
theorem lG:eK n x+2<=n:=by
 have h1:=zc h;have h2:=h.n2;lia
end
def iM (x y z:Rat):Nat->Rat
 |0=>x
 |1=>y
 |_=>z
def qZ (h:Kn->Rat)(p:Nat->Rat)(u v w:Nat):Rat:=h (0,0,0)*(1-p u)+h (un u)*(p u-p v)+h (aF (un u) (un v))*(p v-p w)+h (aF (aF (un u) (un v)) (un w))*p w
def ui (h:Kn->Rat)(x y z:Rat):Rat:=h (0,0,0)*((1-x)*(1-y)*(1-z))+h (0,0,1)*((1-x)*(1-y)*z)+h (0,1,0)*((1-x)*y*(1-z))+h (0,1,1)*((1-x)*y*z) +
 h (1,0,0)*(x*(1-y)*(1-z))+h (1,0,1)*(x*(1-y)*z)+h (1,1,0)*(x*y*(1-z))+h (1,1,1)*(x*y*z)
def Da (p:Nat->Rat)(o:Nat×Nat×Nat):Prop:=o∈jV/\p o.2.1<=p o.1/\p o.2.2<=p o.2.1
def wK (x y z:Rat):Nat×Nat×Nat:=if y<=x then(if z<=y then(0,1,2) else if z<=x then(0,2,1) else(2,0,1)) else(if z<=x then(1,0,2) else if z<=y then(1,2,0) else(2,1,0))
theorem yz (x y z:Rat):Da (iM x y z) (wK x y z):=by
 unfold wK
 split
 ·rename_i h1
  split
  ·rename_i h2
   exact⟨by decide,h1,h2⟩
  ·rename_i h2
   split
   ·rename_i h3
    exact⟨by decide,h3,by show y<=z;grind⟩
   ·rename_i h3
    exact⟨by decide,by show x<=z;grind,h1⟩
 ·rename_i h1
  split
  ·rename_i h2
   exact⟨by decide,by show x<=y;grind,h2⟩
  ·rename_i h2
   split
   ·rename_i h3
    exact⟨by decide,h3,by show x<=z;grind⟩
   ·rename_i h3
    exact⟨by decide,by show y<=z;grind,by show x<=y;grind⟩
theorem BB {x y z:Rat}(a:Da (iM x y z) o)(b:Da (iM x y z) o'):qZ h (iM x y z) o.1 o.2.1 o.2.2=qZ h (iM x y z) o'.1 o'.2.1 o'.2.2:=by
 obtain⟨m,a1,a2⟩:=a;obtain⟨m',b1,b2⟩:=b;simp only[jV,Nl,NH,OY] at m m';rcases m with rfl|rfl|rfl|rfl|rfl|rfl<;>rcases m' with rfl|rfl|rfl|rfl|rfl|rfl <;>
  first|rfl|(simp only[iM,qZ,un,aF,Wu,WC] at *;generalize h (0,0,0)=h0 at *;generalize h (1,0,0)=h1 at *;generalize h (0,1,0)=h2 at *;generalize h (0,0,1)=h3 at *;generalize h (1,1,0)=h4 at *;generalize h (1,0,1)=h5 at *;generalize h (0,1,1)=h6 at *;generalize h (1,1,1)=h7 at *;first|(have e:x=y:=(by grind);subst e;first|grind|(have e:x=z:=(by grind);subst e;grind))|(have e:y=z:=(by grind);subst e;grind)|(have e:x=z:=(by grind);subst e;grind))
theorem DG {f:Kn->R3}{base:Kn}{g:R3->Int}{x y z B:Int}{X Y Z:Rat}{u v w:Nat} (hB:(B:Rat) ≠ 0) (hx:(x:Rat)=X * (B:Rat)) (hy:(y:Rat)=Y * (B:Rat)) (hz:(z:Rat)=Z * (B:Rat)) :
  qg f base g (gW (aT x y z) B u v w)=qZ (λt=>((g (f (aF base t)):Int):Rat)) (iM X Y Z) u v w:=by
 have hp:∀ k,((aT x y z k:Int):Rat)=iM X Y Z k*(B:Rat):=λk=>by
  match k with
  |0=>exact hx
  |1=>exact hy
  |_+2=>exact hz
 have hu:=hp u;have hv:=hp v;have hw:=hp w;unfold qg Fj gW qZ;simp only[NE,PU,RQ,Si,RC,Tr,S_,N9,QP];rw[hu,hv,hw];have e0:((0:Int):Rat)=0:=rfl;rw[e0];generalize ((g (f (aF base (0,0,0))):Int):Rat)=a0;generalize ((g (f (aF base (un u))):Int):Rat)=a1;generalize ((g (f (aF base (aF (un u) (un v)))):Int):Rat)=a2;generalize ((g (f (aF base (aF (aF (un u) (un v)) (un w)))):Int):Rat)=a3;generalize iM X Y Z u=p;generalize iM X Y Z v=q;generalize iM X Y Z w=r;generalize (B:Rat)=b at *;grind
theorem vB:aU 2=[(0,0,0),(0,0,1),(0,1,0),(0,1,1),(1,0,0),(1,0,1),(1,1,0),(1,1,1)]:=by decide
theorem rP {B:Int}{u v w:Nat}:((gW g B u v w).map (·.2)).sum=B:=by
 unfold gW;simp only[NE,PU,RC,Tr];lia
theorem mX {x y z B:Int}:((cJ (aT x y z) B).map (·.2)).sum=B*B*B:=by
 unfold cJ;rw[vB];have n01:¬ (0:Nat)=1:=by decide
 simp only[NE,PU,RC,Tr,cX,mf,NS n01,PD,aT];grind
theorem A0 {f:Kn->R3}{base:Kn}{g:R3->Int}{x y z B:Int}{X Y Z:Rat} (hB:(B:Rat) ≠ 0) (hx:(x:Rat)=X * (B:Rat)) (hy:(y:Rat)=Y * (B:Rat)) (hz:(z:Rat)=Z * (B:Rat)) :
  qg f base g (cJ (aT x y z) B)=ui (λt=>((g (f (aF base t)):Int):Rat)) X Y Z:=by
 have hN:((Fj f base g (cJ (aT x y z) B):Int):Rat)=ui (λt=>((g (f (aF base t)):Int):Rat)) X Y Z*((B:Rat)*(B:Rat)*(B:Rat)):=by
  unfold Fj cJ ui;rw[vB];have n01:¬ (0:Nat)=1:=by decide
  simp only[NE,PU,RQ,Si,RC,Tr,cX,mf,NS n01,PD,aT,S_,N9,QP];rw[hx,hy,hz];have e0:((0:Int):Rat)=0:=rfl;have e1:((1:Int):Rat)=1:=rfl;rw[e0,e1];clear hx hy hz hB;generalize ((g (f (aF base (0,0,0))):Int):Rat)=a0;generalize ((g (f (aF base (0,0,1))):Int):Rat)=a1;generalize ((g (f (aF base (0,1,0))):Int):Rat)=a2;generalize ((g (f (aF base (0,1,1))):Int):Rat)=a3;generalize ((g (f (aF base (1,0,0))):Int):Rat)=a4;generalize ((g (f (aF base (1,0,1))):Int):Rat)=a5;generalize ((g (f (aF base (1,1,0))):Int):Rat)=a6;generalize ((g (f (aF base (1,1,1))):Int):Rat)=a7;generalize (B:Rat)=b;grind
 unfold qg;rw[hN,mX,N9,N9];refine Rat.mul_div_cancel λz=>?_
 generalize (B:Rat)=b at *;grind
def zj (n:Nat)(c:Q3):Kn:=(eK n c.a,eK n c.b,eK n c.c)
def Ev (n:Nat)(f:Kn->R3)(c:Q3)(g:R3->Int)(t:Kn):Rat:=((g (f (aF (zj n c) t)):Int):Rat)
def rd (n:Nat)(c:Q3):Nat->Rat:=iM (sj n c.a) (sj n c.b) (sj n c.c)
def zW (n:Nat)(f:Kn->R3)(c:Q3)(g:R3->Int):Rat:=qZ (Ev n f c g) (rd n c) (wK (sj n c.a) (sj n c.b) (sj n c.c)).1 (wK (sj n c.a) (sj n c.b) (sj n c.c)).2.1 (wK (sj n c.a) (sj n c.b) (sj n c.c)).2.2
def yi (n:Nat)(f:Kn->R3)(c:Q3)(g:R3->Int):Rat:=ui (Ev n f c g) (sj n c.a) (sj n c.b) (sj n c.c)
def W4 (n:Nat)(f:Kn->R3)(c:Q3):Q3:=⟨zW n f c R3.a,zW n f c R3.b,zW n f c R3.c⟩
def W8 (n:Nat)(f:Kn->R3)(c:Q3):Q3:=⟨yi n f c R3.a,yi n f c R3.b,yi n f c R3.c⟩
theorem Dt {n:Nat}(h:Da (rd n c) o):qZ (Ev n f c g) (rd n c) o.1 o.2.1 o.2.2=zW n f c g:=BB h (yz _ _ _)
theorem u7 {m:Nat}:∀ {l:List Int},(∀ x∈l,Sm m x)->Sm (m+l.length) l.sum
 |[],_=>Sm.mono (k:=0) (show Sm 0 (0:Int) by unfold Sm;decide) (Om _)
 |x::l,h=>by
  rw[RC,N5];exact(Sm.add ((h x NC).mono (QD m l.length)) (u7 λy hy=>h y (Nr _ hy))).mono (by lia)
theorem t6 {r:R3}(h:r.Wt):Sm 10 r.a/\Sm 10 r.b/\Sm 10 r.c:=by
 obtain⟨a0,a1,b0,b1,c0,c1⟩:=h;refine⟨?_,?_,?_⟩<;>(unfold Sm;lia)
theorem Cm {n:Nat}{m:Nat}(hw:∀ p∈ps,Sm 10 (g (f (aF base p.1))))(hp:∀ p∈ps,Sm m p.2)(h0:(ps.map (·.2)).sum≠0):Bq (10+m+ps.length) (qg f base g ps):=by
 refine fR h0 ?_ ?_
 ·have h1:∀ x∈QN (·*·) (ps.map λp=>g (f (aF base p.1))) (ps.map (·.2)),Sm (10+m) x:=λx hx=>by
   rw[List.zipWith_map_left,List.zipWith_map_right,List.zipWith_self] at hx;obtain⟨p,hp',rfl⟩:=Ov.mp hx;exact(hw p hp').mul (hp p hp')
  have:=u7 h1;rw[List.length_zipWith,Ni,Ni,Nat.min_self] at this;exact this
 ·have h1:∀ x∈ps.map (·.2),Sm m x:=λx hx=>by
   obtain⟨p,hp',rfl⟩:=Ov.mp hx;exact hp p hp'
  have:=u7 h1;rw[Ni] at this;exact this.mono (by lia)
def Q3.lst (q:Q3):NQ:=.list q.ds
theorem mK (s:ae H0 H)(h:H0 F=none):ae H0 (upd H F o):=λb o' e=>by
 rw[az (λz=>by rw[z,h] at e;cases e)];exact s _ _ e
theorem pN {K:HD}{H:Hp}{d1 d2:NQ}{xs:List V}(h:av K H [d1,d2] xs):∃ x y,xs=[x,y]/\aw K H d1 x/\aw K H d2 y:=by
 cases h with
 |cons h1 h=>
  cases h with
  |cons h2 h=>
   cases h;exact⟨_,_,rfl,h1,h2⟩
def mD (o:Nat×Nat×Nat):Nat->Nat
 |0=>o.1
 |1=>o.2.1
 |_=>o.2.2
def lg (o:Nat×Nat×Nat):Nat->Kn
 |0=>(0,0,0)
 |i+1=>aF (lg o i) (un (mD o i))
theorem CY {i:Nat}(h:o∈jV)(hi:i<=3):(lg o i).1<=1/\(lg o i).2.1<=1/\(lg o i).2.2<=1:=by
 simp only[jV,Nl,NH,OY] at h
 match i,hi with
 |0,_=>rcases h with rfl|rfl|rfl|rfl|rfl|rfl<;>decide
 |1,_=>rcases h with rfl|rfl|rfl|rfl|rfl|rfl<;>decide
 |2,_=>rcases h with rfl|rfl|rfl|rfl|rfl|rfl<;>decide
 |3,_=>rcases h with rfl|rfl|rfl|rfl|rfl|rfl<;>decide
theorem Ds {i:Nat}(h:o∈jV):mD o i<3:=by
 obtain⟨a,b,c⟩:=yw h
 match i with
 |0=>exact a
 |1=>exact b
 |_+2=>exact c
theorem LQ (t:Kn):aF t (0,0,0)=t:=by
 simp only[aF,Wu]
theorem CB (r s t:Kn):aF (aF r s) t=aF r (aF s t):=by
 simp only[aF,SK]
theorem Jq {r:Nat}(hr:r<3):∃ m:Int,(fZ t)[r]?=some (.int m)/\(fZ t).set r (.int (m+1))=fZ (aF t (un r)):=by
 match r,hr with
 |0,_=>exact⟨_,rfl,by simp[fZ,aF,un]⟩
 |1,_=>exact⟨_,rfl,by simp[fZ,aF,un]⟩
 |2,_=>exact⟨_,rfl,by simp[fZ,aF,un]⟩
theorem Aj {n k:Nat}(h:k<n):EX n (k:Int)=some k:=by
 unfold EX;simp[h]
theorem rF {K:HD}{H:Hp}(r:R3):av K H r.ds r.vs:=.cons (.int _) (.cons (.int _) (.cons (.int _) .nil))
theorem Mf (h:u.1<=1/\u.2.1<=1/\u.2.2<=1):u∈aU 2:=cZ.mpr (by lia)
def Hi (o:Nat×Nat×Nat)(k:Nat):Nat:=if o.1=k then 0 else if o.2.1=k then 1 else 2
def Fi (n:Nat)(b:Kn):Prop:=b.1+2<=n/\b.2.1+2<=n/\b.2.2+2<=n
def Ly (i j:Int):Prop:=0<=j/\j<=1000/\Sm 8000 i
theorem mh:j7 X (QW .Pow) (rI Ly λi j=>.int (i^j.toNat)):=LA λi j _ _ _ _ _ hc q=>pow_int hc.1 (by
 have h1:=hc.2.2.bits;have h2:=hc.2.1;have h3:=hc.1;have h4:(Ri i:Int)<=8000:=by exact_mod_cast h1
 have h5:(Ri i:Int)*j<=8000*1000:=Int.mul_le_mul h4 h2 h3 (by decide);exact Int.le_trans h5 (by decide)) q
def y9 (r:R3)(c e:Q3):Rat:=(r.a:Rat)*((c.a-e.a)*(c.a-e.a))+(r.b:Rat)*((c.b-e.b)*(c.b-e.b))+(r.c:Rat)*((c.c-e.c)*(c.c-e.c))
structure R3.Hv (r:R3):Prop where
 a0:1<=r.a
 a1:r.a<=100
 b0:1<=r.b
 b1:r.b<=100
 c0:1<=r.c
 c1:r.c<=100
theorem Jm {r:R3}{c e:Q3}{B:Int} (hB:(B:Rat) ≠ 0) {ta tb tc ua ub uc:Int} (h1:(ta:Rat)=c.a * (B:Rat)) (h2:(tb:Rat)=c.b * (B:Rat)) (h3:(tc:Rat)=c.c * (B:Rat)) (h4:(ua:Rat)=e.a * (B:Rat)) (h5:(ub:Rat)=e.b * (B:Rat)) (h6:(uc:Rat)=e.c * (B:Rat)) :
  (([r.a*(ta-ua)^2,r.b*(tb-ub)^2,r.c*(tc-uc)^2].sum:Int):Rat)/((B^2:Int):Rat)=y9 r c e:=by
 simp only[RC,Tr,Qv,To,Ui,S_,N9,QP,h1,h2,h3,h4,h5,h6];have:((0:Int):Rat)=0:=rfl;rw[this];unfold y9;clear h1 h2 h3 h4 h5 h6;generalize (B:Rat)=b at *;have hbb:b*b≠0:=λz=>by
  rcases Rat.mul_eq_zero.mp z with h|h<;>exact hB h
 grind
def Fw (n i:Nat):Rat:=((60*(i:Int):Int):Rat)/(((n:Int)-1:Int):Rat)
def AI (n:Nat)(t:Kn):Q3:=⟨Fw n t.1,Fw n t.2.1,Fw n t.2.2⟩
theorem GU {n:Nat}(h2:2<=n)(h7:n<=7)(ht:t∈aU n):(AI n t).Wi ((60:Int):Rat)/\(AI n t).Bd 9:=by
 obtain⟨ha,hb,hc⟩:=cZ.mp ht;have one:∀ {i:Nat},i<n->0<=Fw n i/\Fw n i<=((60:Int):Rat)/\Bq 9 (Fw n i):=λ{i} hi=>by
  have hp:(0:Rat)<(((n:Int)-1:Int):Rat):=by exact_mod_cast (show(0:Int)<(n:Int)-1 by lia)
  have hne:(((n:Int)-1:Int):Rat)≠0:=λz=>by rw[z] at hp;exact absurd hp (by decide)
  refine⟨?_,?_,fR (by lia) (by unfold Sm;lia) (by unfold Sm;lia)⟩
  ·refine P7 (c:=(((n:Int)-1:Int):Rat)) ?_ hp;unfold Fw;rw[Tu hne,Rat.zero_mul]
   exact_mod_cast (show(0:Int)<=60*(i:Int) by lia)
  ·refine P7 (c:=(((n:Int)-1:Int):Rat)) ?_ hp;unfold Fw;rw[Tu hne,<- N9]
   exact_mod_cast (show 60*(i:Int)<=60*((n:Int)-1) by lia)
 obtain⟨a1,a2,a3⟩:=one ha;obtain⟨b1,b2,b3⟩:=one hb;obtain⟨c1,c2,c3⟩:=one hc;exact⟨⟨a1,a2,b1,b2,c1,c2⟩,⟨a3,b3,c3⟩⟩
def Gm (F:Kn->Rat)(b:Option Kn)(t:Kn):Option Kn:=match b with
 |none=>some t
 |some u=>if F t<F u then some t else some u
def HR (F:Kn->Rat)(ts:List Kn):Option Kn:=ts.foldl (Gm F) none
theorem wk (F:Kn->Rat)(ts:List Kn)(t:Kn):HR F (ts++[t])=Gm F (HR F ts) t:=by
 unfold HR;rw[T4];rfl
def Ls (n:Nat)(f:Kn->R3)(m:Nat)(e:Q3)(r:R3)(t:Kn):Rat:=y9 r (W4 n f (AI m t)) e
def zY (m:Nat)(F:Kn->Rat)(t:Kn):NQ:=.tuple [(AI m t).col,rD (F t)]
end TR
namespace PySem
section
variable {prog:ND}{w:N6}{A:Oa}{E:Nd->Nh->Prop}{s:Nh}{d it:Nn}{es:Array O2}{i ep:Nat}
theorem EH (hh:A.handled=none) (hit:s.heap.IsKeyIter it d i es.size ep) (hm:s.heap.RawD d es ep) (hx:es.size <= i)
  (hQ:∀ h',Uh it s.heap h'->Q none { s with heap:=h' }):Nu (NI prog w) A (Q1 (.ref it)) Q E s:=by
 obtain⟨o,ho,hc,hd⟩:=id hit;obtain⟨od,hod,hcd,hdd⟩:=id hm;have hown:Pb "dict_keyiterator"=false:=by decide
 unfold Q1;refine KE (Pm (N2 (name:=Oo "__next__") hit.typeIs Pe
  (Oj Pe hit.typeIs Su ?_ (Se _))))
 refine KE (Nc (KE (KE ?_)))
 first|refine KE (PJ hit.typeIs (Nc ?_))|refine KE (Qu hit.typeIs (Nc ?_))
 refine KE (TU ho hd ?_);simp only[hown,NY,Pl];show Nu _ _ (if(NN d==Od)=true then _ else _) _ _ s;rw[NS (show ¬ ((NN d==Od)=true) from NK)];refine KE (Nc (KE (OR hod hdd ?_)));rw[NS (by simp)];refine KE (Nc (KE (QS hod hdd ?_)));rw[NS (by simp)];refine Nc ?_;simp only[show ¬ ((i:Int)<0) from by lia,Pl,Op,UK hx];refine KE ?_
 first|refine KE (PJ hit.typeIs (Nc ?_))|refine KE (Qu hit.typeIs (Nc ?_))
 show Nu _ _ (setField (.ref it) 0 .none>>=_) _ _ s;refine KE (Sb ho hd (by simp) ?_);show Nu _ _ (newExc (.type "StopIteration") []>>=_) _ _ _;refine KE ?_;simp only[newExc,newTuple];refine KE (N4 ?_ (by size_fits));refine KE (m:=Q8 _ _) (UA (a:=Od) (by first|rfl|(simp only[Q8];rfl)) ?_);refine N4 ?_ (by size_fits);simp only[raiseNew];refine KE (V4 ?_);rw[show A.in1.handled=none from hh];refine KE (Nc (wpAny_throw ?_));refine KE (PF (T:="StopIteration") (b:=true) ⟨_,Ng _ rfl,rfl⟩ TM ?_);exact Nc (hQ _ (((Ol ..).extBut.push _).push _))
theorem F7 (hit:s.heap.IsKeyIter it d i es.size ep) (hm:s.heap.RawD d es ep) (hx:es[i]?=some e)
  (hQ:∀ h',h'.IsKeyIter it d (i+1) es.size ep->OL it s.heap h'->Q (some e.key) { s with heap:=h' }):Nu (NI prog w) A (Q1 (.ref it)) Q E s:=by
 obtain⟨o,ho,hc,hd⟩:=id hit;obtain⟨od,hod,hcd,hdd⟩:=id hm;have hown:Pb "dict_keyiterator"=false:=by decide
 unfold Q1;refine KE (Pm (N2 (name:=Oo "__next__") hit.typeIs Pe
  (Oj Pe hit.typeIs Su ?_ (Se _))))
 refine KE (Nc (KE (KE ?_)))
 first|refine KE (PJ hit.typeIs (Nc ?_))|refine KE (Qu hit.typeIs (Nc ?_))
 refine KE (TU ho hd ?_);simp only[hown,NY,Pl];show Nu _ _ (if(NN d==Od)=true then _ else _) _ _ s;rw[NS (show ¬ ((NN d==Od)=true) from NK)];refine KE (Nc (KE (OR hod hdd ?_)));rw[NS (by simp)];refine KE (Nc (KE (QS hod hdd ?_)));rw[NS (by simp)];refine Nc ?_;simp only[show ¬ ((i:Int)<0) from by lia,Pl,Op,hx];refine KE ?_
 first|refine KE (PJ hit.typeIs (Nc ?_))|refine KE (Qu hit.typeIs (Nc ?_))
 refine KE (wpAny_isOneOf_keyiter hit.typeIs ?_);show Nu _ _ (setField (.ref it) 1 (RL ((i:Int)+1))>>=_) _ _ s;refine KE (Sb ho hd (by simp) ?_);have hit':(s.heap.update it (VN (·.setIfInBounds 1 (RL ((i:Int)+1))))).IsKeyIter it d (i+1) es.size ep:=
  ⟨_,OM _ ho (Sj (Qc hd _)),(Obj.cls_mapFields ..).trans hc,by rw[Qc hd];simp[RL]⟩
 refine KE (Ox ?_);refine KE (wpAny_isOneOf_keyiter (s:={ s with heap:=s.heap.update it (VN (·.setIfInBounds 1 (RL ((i:Int)+1)))) }) hit'.typeIs ?_);show Nu _ _ (pure e.key) _ _ _;exact Nc (Nc ⟨_,rfl,Nc (hQ _ hit' (Ol ..))⟩)
end
section
variable {prog:ND}{w:N6}{A:Oa}{E:Nd->Nh->Prop}{s:Nh}{d:Nn}{es:Array O2}{ep:Nat}
theorem AE (hd:(d == OB)=false) (hm:s.heap.RawD d es ep)
  (hQ:Q (.ref s.heap.objs.size) { s with heap:=s.heap.push { cls:=.type "dict_keyiterator",data:=.fields #[.ref d,.int 0 0,.int es.size 0,.int ep 0] } }):Nu (NI prog w) A (W9 (.ref d)) Q E s:=by
 obtain⟨o,ho,hc,hdat⟩:=id hm;have hT:s.TypeIs (.ref d) "dict":=hm.typeIs;refine wpAny_pyIter_slot hT UC (Oj UC hT F.entry_dict_iter ?_ (F.args_dict_iter_1 _));unfold PN.«dict.__iter__»;refine KE ?_;unfold Builtin.Dict.dictSlotNone;refine KE (Sr hT ?_);show Nu _ _ (pure (NN d)) _ _ s;refine Nc ?_;show Nu _ _ (QL d>>=_) _ _ s;unfold QL;rw[NS (by rw[hd];exact NK)];refine KE (Nc (KE (OR ho hdat (KE (QS ho hdat ?_)))));refine KE (N4 (Nc ⟨_,rfl,"dict_keyiterator",_,⟨_,Ng _ rfl,rfl⟩,Pe.lookup,?_⟩))
 simpa [RL] using hQ
end
end PySem
namespace TR
open PySem PySem.Spec PyProof.Rows L2
def Hq (t:Kn):Nat->Nat
 |0=>t.1
 |1=>t.2.1
 |_=>t.2.2
def iC (o:Nat×Nat×Nat)(t:Kn):Kn:=(Hq t o.1,Hq t o.2.1,Hq t o.2.2)
def MC (o:Nat×Nat×Nat):Nat×Nat×Nat:=(Hi o 0,Hi o 1,Hi o 2)
def fT (o:Nat×Nat×Nat)(f:Kn->R3)(t:Kn):R3:=f (iC (MC o) t)
theorem MO {M:V->Hp->Prop}{I:V->Hp->Prop}{G:Prop}(c6:∀ v H,I v H->M v H)(main:(∀ v H,I v H->M v H)->G):G:=main c6
theorem HU:Oh "any"=some (.builtin "any"):=by decide +kernel
theorem Bv (bs:List Bool):(OP bs.length).any (λi=>(bs[i]?).getD true)=bs.any id:=by
 rw[Bool.eq_iff_iff,UF,UF];constructor
 ·rintro⟨i,hi,h⟩;have hi:=OO.mp hi;exact⟨bs[i],Sx hi,by simpa [hi] using h⟩
 ·rintro⟨b,hb,h⟩;obtain⟨i,hi,rfl⟩:=SU hb;exact⟨i,OO.mpr hi,by simpa [hi] using h⟩
section
variable {X:Cx}{K:HD}
def Kp (K:HD):List V->Hp->VK->Prop:=λxs H Q=>∃ (p:Nn) (bs:List Bool),xs=[.ref p]/\bI K H p (bs.map V.bl)/\Q (.bl (bs.any id)) H
theorem Ci (hc:X.calm=true):cq X (.builtin "any") (Kp X.K):=by
 intro pins s σ H xs us Q I r h;obtain⟨p,bs,rfl,hp,q⟩:=h;obtain⟨u,rfl,ru⟩:=fN r;cases ru;obtain⟨its,rv,pl,hz⟩:=I.list hp;have hl:=rv.length;rw[Ni] at hl;have lt:p<s.heap.objs.size:=by
  obtain⟨o,e,_⟩:=pl.isList;exact Nf e
 refine call_any_walk (OS pl.isList ?_);refine⟨s.heap.objs.size,_,_,_,_,_,λi=>(bs[i]?).getD true,rfl,Wg (A:=X.A.in1) (show X.A.in1.handled=none from I.ok.hd hc) _ p (NA lt) its.toArray,⟨⟨_,Ng _ rfl,rfl,rfl⟩,pl.isList.push _⟩,λi v s' Q' E' hv hq=>?_,λh' tk kk=>?_⟩
 ·have hi:i<bs.length:=by
   have:=(QY.mp hv).1;rw[No] at this;lia
  obtain⟨w,ew,rw'⟩:=rv.get (i:=i) (x:=.bl bs[i]) (by simp[hi]);have:its[i]?=some v:=by simpa using hv
  rw[ew] at this;have e2:v=QE bs[i]:=(Nb this).symm.trans rw';rw[e2];refine OT ?_;have e:(bs[i]?).getD true=bs[i]:=by simp[hi]
  exact e▸hq
 ·have I1:aD X pins σ H { s with heap:=h',toks:=tk }:=I.kept λb o e=>kk b o (by simp;exact NA (Nf e)) (Na _ e)
  refine⟨.bl _,H,I1,?_,q⟩;show QE _=QE _;rw[<- Bv,No,<- hl]
theorem Kt (e:X.K=K)(hc:X.calm=true):cq X (.builtin "any") (Kp K):=by subst e;exact Ci hc
def KD:V->V->Hp->VK->Prop:=λo i H Q=>∃ p xs k v,o=.ref p/\i=.int k/\0<=k/\H p=some (.lst xs)/\xs[k.toNat]?=some v/\Q v H
theorem DN:Le X KD:=by
 intro pins s σ H o i ov iv Q I ro ri h;obtain⟨p,xs,k,v,rfl,rfl,h0,hp,hv,q⟩:=h;cases ro;obtain⟨t,rfl⟩:=ri;obtain⟨its,n,r,ho,hz⟩:=I.lst hp;obtain⟨w,ew,rw'⟩:=r.get hv;have hl:=r.length;have hn:=lN;have lt:=(Nt.mp hv).1;exact wpAny_getItem_list (x:=w) ⟨_,ho,rfl,n,rfl⟩ h0 (by lia) (by simpa using ew) ⟨v,H,I,rw',q⟩
end
structure Rw where
 w:Int
 x:Int
 y:Int
 z:Int
def Rw.ns (r:Rw):List Int:=[r.w,r.x,r.y,r.z]
def Rw.d (r:Rw):NQ:=.tuple (r.ns.map P1)
structure Rw.In (r:Rw)(m:Int):Prop where
 w0:-m<=r.w
 w1:r.w<=m
 x0:-m<=r.x
 x1:r.x<=m
 y0:-m<=r.y
 y1:r.y<=m
 z0:-m<=r.z
 z1:r.z<=m
def LD (i:Int):Int:=min (max i 0) 1000
def Rw.at (r:Rw)(t:Kn):Int:=LD (r.w+(r.x*(t.1:Int)+(r.y*(t.2.1:Int)+r.z*(t.2.2:Int))))
def Hx (r1 r2 r3:Rw)(t:Kn):R3:=⟨r1.at t,r2.at t,r3.at t⟩
def oC (K:HD)(H:Hp)(p:Kn×(Nat×Nat×Nat))(v:V):Prop:=∃ q a b,v=.ref q/\H q=some (.tup [.ref a,.ref b])/\H a=some (.tup (fZ p.1))/\KT K b (fZ p.2)
theorem oC.same {K:HD}{H H':Hp}{p:Kn×(Nat×Nat×Nat)}{v:V}(h:oC K H p v)(s:ae H H'):oC K H' p v:=by obtain⟨q,a,b,h1,h2,h3,h4⟩:=h;exact⟨q,a,b,h1,s _ _ h2,s _ _ h3,h4⟩
inductive e_ (K:HD)(H:Hp):List (Kn×(Nat×Nat×Nat))->List V->Prop
 |nil:e_ K H [] []
 |snoc {ps ys p v}:e_ K H ps ys->oC K H p v->e_ K H (ps++[p]) (ys++[v])
theorem e_.same {K:HD}{H H':Hp}{ps:List (Kn×(Nat×Nat×Nat))}{ys:List V}(h:e_ K H ps ys)(s:ae H H'):e_ K H' ps ys:=by
 induction h with
 |nil=>exact .nil
 |snoc _ b ih=>exact .snoc ih (b.same s)
theorem e_.length {K:HD}{H:Hp}{ps:List (Kn×(Nat×Nat×Nat))}{ys:List V}(h:e_ K H ps ys):ps.length=ys.length:=by
 induction h with
 |nil=>rfl
 |snoc _ _ ih=>rw[NL,NL,ih];rfl
theorem e_.get {K:HD}{H:Hp}{ps:List (Kn×(Nat×Nat×Nat))}{ys:List V}{i:Nat}{v:V}(h:e_ K H ps ys)(e:ys[i]?=some v):∃ p,ps[i]?=some p/\oC K H p v:=by
 induction h with
 |nil=>cases e
 |@snoc ps ys p u a b ih=>
  have hl:=a.length;rcases Nat.lt_trichotomy i ys.length with z|z|z
  ·rw[Pq z] at e;rw[Pq (by lia)];exact ih e
  ·subst z;rw[OU (Nj _),Wz] at e;cases e;exact⟨p,by rw[OU (by lia),hl,Wz];rfl,b⟩
  ·rw[List.getElem?_eq_none (by rw[NL,Sg];lia)] at e;cases e
def fM (t:Kn)(j:Nat):List (Kn×(Nat×Nat×Nat)):=(jV.take j).map λo=>(t,o)
def gJ (ts:List Kn):List (Kn×(Nat×Nat×Nat)):=ts.flatMap λt=>fM t 6
def kb (n:Nat):List (Kn×(Nat×Nat×Nat)):=gJ (aU (n-1))
theorem vW (ts:List Kn)(t:Kn):gJ (ts++[t])=gJ ts++fM t 6:=by unfold gJ;rw[Qx];simp
theorem lu (ts:List Kn):(gJ ts).length=6*ts.length:=by
 induction ts with
 |nil=>rfl
 |cons t ts ih=>
  have:gJ (t::ts)=fM t 6++gJ ts:=by unfold gJ;rw[V']
  rw[this,NL,ih,N5];have:(fM t 6).length=6:=rfl;lia
theorem xD {j:Nat}(e:jV[j]?=some o):fM t (j+1)=fM t j++[(t,o)]:=by
 unfold fM;rw[bF e,Ot];rfl
theorem yU {n:Nat}:p∈kb n↔p.1∈aU (n-1)/\p.2∈jV:=by
 unfold kb gJ fM;rw[Q_];constructor
 ·rintro⟨t,ht,h⟩;rw[NR (by decide)] at h;obtain⟨o,ho,rfl⟩:=Ov.mp h;exact⟨ht,ho⟩
 ·rintro⟨h1,h2⟩;refine⟨p.1,h1,?_⟩;rw[NR (by decide)];exact Ov.mpr ⟨p.2,h2,rfl⟩
def R3.sub (r s:R3):R3:=⟨r.a-s.a,r.b-s.b,r.c-s.c⟩
def Hs (r0 r1 r2 r3:R3):S9:=⟨true,true,true,true,r1.sub r0,r2.sub r1,r3.sub r2⟩
def GV (t:Kn)(o:Nat×Nat×Nat)(i:Nat):List Kn:=(OP i).map λj=>aF t (lg o j)
theorem Cb (t:Kn)(o:Nat×Nat×Nat)(i:Nat):GV t o (i+1)=GV t o i++[aF t (lg o i)]:=by unfold GV;rw[RA,Ot];rfl
theorem wI (s:ae H H')(h:H' a=none):H a=none:=by
 cases e:H a with
 |none=>rfl
 |some o=>
  rw[s _ _ e] at h;cases h
theorem av.lput {K:HD}{H:Hp}{F:Nn}{ys zs:List V}{ds:List NQ}{vs:List V}(hF:H F=some (.lst ys))(t:iK ds=true)(h:av K H ds vs):av K (upd H F (.lst zs)) ds vs:=
 av.mv (T:=[F]) (λb o e n=>by rw[az (λz=>n (by simp[z]))];exact e) (λb m=>⟨ys,by rw[Nm.mp m];exact hF⟩) t h
def oO (f:Kn->R3)(p:Kn×(Nat×Nat×Nat)):S9:=Hs (f (aF p.1 (lg p.2 0))) (f (aF p.1 (lg p.2 1))) (f (aF p.1 (lg p.2 2))) (f (aF p.1 (lg p.2 3)))
theorem yg {r s:R3}(hr:r.Wt)(hs:s.Wt):(r.sub s).In 4000:=by
 obtain⟨a0,a1,b0,b1,c0,c1⟩:=hr;obtain⟨d0,d1,e0,e1,f0,f1⟩:=hs;refine⟨?_,?_,?_,?_,?_,?_⟩<;>(simp only[R3.sub];lia)
theorem Jn {r0 r1 r2 r3:R3}(h0:r0.Wt)(h1:r1.Wt)(h2:r2.Wt)(h3:r3.Wt):(Hs r0 r1 r2 r3).In:=⟨yg h1 h0,yg h2 h1,yg h3 h2⟩
theorem Ew {n:Nat}(h:Fi n t)(hu:u.1<=1/\u.2.1<=1/\u.2.2<=1):aF t u∈aU n:=by
 obtain⟨h1,h2,h3⟩:=h;exact cZ.mpr ⟨by show t.1+u.1<n;lia,by show t.2.1+u.2.1<n;lia,by show t.2.2+u.2.2<n;lia⟩
theorem FJ {n:Nat}(h2:2<=n)(h:t∈aU (n-1)):Fi n t:=by
 obtain⟨h1,h2',h3⟩:=cZ.mp h;exact⟨by lia,by lia,by lia⟩
structure Rw.Lo (r:Rw):Prop where
 w0:0<=r.w
 w1:r.w<100
 x0:0<=r.x
 x1:r.x<40
 y0:0<=r.y
 y1:r.y<40
 z0:0<=r.z
 z1:r.z<40
def Kn.Lo (t:Kn):Prop:=t.1<=2/\t.2.1<=2/\t.2.2<=2
def Lr (t:Kn):List Int:=[(t.1:Int),(t.2.1:Int),(t.2.2:Int)]
theorem Ty.same {K:HD}{H H':Hp}{v:V}{T:String}(h:Ty K H v T)(s:ae H H'):Ty K H' v T:=by
 cases h with
 |non=>exact .non
 |bl b=>exact .bl b
 |int i=>exact .int i
 |str x=>exact .str x
 |flt x=>exact .flt x
 |lst e=>exact .lst (s _ _ e)
 |frz e=>exact .frz (s _ _ e)
 |tup e=>exact .tup (s _ _ e)
 |dK e=>exact .dK (s _ _ e)
 |dT e=>exact .dT (s _ _ e)
theorem qU (c:Q3):jw c.col=true:=by
 show(shB (rD c.a)&&(shB (rD c.b)&&(shB (rD c.c)&&true)))=true;rw[uo,uo,uo];rfl
theorem GN {l m a b c:Int}(ha:l<=a/\a<=m)(hb:l<=b/\b<=m)(hc:l<=c/\c<=m):xN 3 l m (.tuple [.int a,.int b,.int c])=true:=by
 show((decide (l<=a)&&decide (a<=m))&&((decide (l<=b)&&decide (b<=m))&&((decide (l<=c)&&decide (c<=m))&&true)))=true;rw[Nq ha.1,Nq ha.2,Nq hb.1,Nq hb.2,Nq hc.1,Nq hc.2];rfl
open PySem.W PySem.Calls
section
variable {prog:ND}{w:N6}{d:Nn}{es:Array O2}{ep:Nat}
theorem RawD.kept {h h':OZ}(hm:h.RawD d es ep)(k:∀ o,h.get? d=some o->h'.get? d=some o):h'.RawD d es ep:=by
 obtain⟨o,ho,r⟩:=hm;exact⟨o,k o ho,r⟩
theorem RawD.lt {h:OZ}(hm:h.RawD d es ep):d<h.objs.size:=by
 obtain⟨o,ho,r⟩:=hm;exact Nf ho
theorem AF {A:Oa} (hh:A.handled=none) (I:Nn) (hne:d ≠ I) :
  Walks prog w A I [I,d] [I] es.size (λi v=>∃ e,es[i]?=some e/\v=e.key) (λi h=>h.IsKeyIter I d i es.size ep/\h.RawD d es ep) where
 sub:=λb hb=>by simp at hb;simp[hb]
 frame:=λ_ _ _ st hk=>⟨st.1.at λo e=>hk I (by simp) o e,RawD.kept st.2 λo e=>hk d (by simp) o e⟩
 item:=λi s Q E hi st hQ=>F7 st.1 st.2 (Tz hi) λh' hit' hs'=>hQ _ h' s.toks ⟨_,Tz hi,rfl⟩ ⟨hit',RawD.kept st.2 λo e=>hs'.extBut d o hne e⟩ λb o hb e=>hs'.extBut b o (λh=>hb (by simp[h])) e
 done:=λs Q E st hQ=>EH hh st.1 st.2 (Nj _) λh' he'=>hQ h' s.toks λb o hb e=>he' b o (λh=>hb (by simp[h])) e
 self:=λ_ _ _ _ st hQ=>wpAny_pyIter_keyiter st.1 hQ
theorem FD (lo:(d==OB)=false):KdlSrc prog w "dict" d d es.size (λi v=>∃ e,es[i]?=some e/\v=e.key) (λh=>h.RawD d es ep) where
 type:=λ_ hm=>hm.typeIs
 there:=λ_ hm=>⟨RawD.lt hm,RawD.lt hm⟩
 keep:=λ_ _ hm hk=>RawD.kept hm λo e=>hk d (.inl rfl) o e
 notList:=by decide
 notTuple:=by decide
 hint:=λ_ _ _ _ hm hq=>kdl_hint_dict hm.typeIs hq
 iter:=λ_ _ hh hm=>⟨_,_,(λ_ _ hq=>AE lo hm hq),AF hh _ (NA (RawD.lt hm)),⟨⟨_,Ng _ rfl,rfl,rfl⟩,RawD.kept hm λo e=>Na _ e⟩⟩
end
def Ka (t u:Kn):Prop:=¬ (t.1<u.1\/(t.1=u.1/\(t.2.1<u.2.1\/(t.2.1=u.2.1/\t.2.2<u.2.2))))
theorem tG:∀ {l:List α}{m:List β},l.length=m.length->(∀ (i:Nat) a b,l[i]?=some a->m[i]?=some b->F a b)->Tt F l m
 |[],[],_,_=>.nil
 |a::l,b::m,h,f=>.cons (f 0 a b rfl rfl) (tG (by simpa using h) λi x y h1 h2=>f (i+1) x y (by simpa using h1) (by simpa using h2))
 |[],_::_,h,_=>by simp at h
 |_::_,[],h,_=>by simp at h
instance {t u:Kn}:Decidable (Ka t u):=by unfold Ka;infer_instance
def Rw.co (r:Rw):Nat->Int
 |0=>r.x
 |1=>r.y
 |_=>r.z
structure C3 where
 p:List Pt
 q:List Pt
 r:List Pt
def C3.at (P:C3):Nat->List Pt
 |0=>P.p
 |1=>P.q
 |_=>P.r
def C3.In (P:C3)(cap:Int):Prop:=∀ i,i<3->MR (P.at i)/\∃ y z,(P.at i)[0]?=some y/\(P.at i).getLast?=some z/\z.1=60/\z.2<=cap
def S9.cp (s:S9):S9:=⟨true,true,true,true,s.x,s.y,s.z⟩
def S9.row (s:S9):Nat->R3
 |0=>s.x
 |1=>s.y
 |_=>s.z
def AtD (K:HD)(x:Str)(st:Pr):Prop:=∃ f oc od osl kV doc pm an cdv ct,Nw K Nk x=some (some (.ref f))/\K.lookup f=some ⟨oc,od,.func (NF x x (aO st) (aL st) (ag st) .none kV doc pm an cdv ct),osl⟩/\NU K cdv x=true/\NM K (.ref f)=true
def AtM (K:HD)(x m qual:Str)(st:Pr):Prop:=∃ C f oc od osl kV doc pm an cdv ct,Nw K Nk x=some (some (.ref C))/\NV K (.ref C) m=some (some (.ref f))/\K.lookup f=some ⟨oc,od,.func (NF m qual (aO st) (aL st) (ag st) .none kV doc pm an cdv ct),osl⟩/\NU K cdv qual=true/\NM K (.ref f)=true/\Qw K (.ref f)=true
theorem AtD.of {K:HD}{x:Str}{st:Pr}{f:Nn}{oc kV doc pm cdv ct:Nd}{od an:Option Nn}{osl:Array (Option Nd)}(h1:Nw K Nk x=some (some (.ref f)))(h2:K.lookup f=some ⟨oc,od,.func (NF x x (aO st) (aL st) (ag st) .none kV doc pm an cdv ct),osl⟩)(h3:NU K cdv x=true)(h4:NM K (.ref f)=true):AtD K x st:=⟨_,_,_,_,_,_,_,_,_,_,h1,h2,h3,h4⟩
theorem AtM.of {K:HD}{x m qual:Str}{st:Pr}{C f:Nn}{oc kV doc pm cdv ct:Nd}{od an:Option Nn}{osl:Array (Option Nd)}(h1:Nw K Nk x=some (some (.ref C)))(h2:NV K (.ref C) m=some (some (.ref f)))(h3:K.lookup f=some ⟨oc,od,.func (NF m qual (aO st) (aL st) (ag st) .none kV doc pm an cdv ct),osl⟩)(h4:NU K cdv qual=true)(h5:NM K (.ref f)=true)(h6:Qw K (.ref f)=true):AtM K x m qual st:=⟨_,_,_,_,_,_,_,_,_,_,_,h1,h2,h3,h4,h5,h6⟩
theorem gOf {K:HD}{x:Str}{i:Int}{t:Tok}(h:Nw K Nk x=some (some (.int i t))):∃ t,Nw K Nk x=some (some (.int i t)):=⟨t,h⟩
section
variable {K:HD}{mg:Str->Option Nd}{x m qual:Str}{st:Pr}{ps fs:List Str}{h:OZ}
theorem AtD.dfn (a:AtD K x st)(X:K.In h)(G:h.Ns Nk mg)(hb:∀ kV doc pm an cdv ct us,us.length=ps.length->OE (NF x x (aO st) (aL st) (ag st) .none kV doc pm an cdv ct) ⟨us,[]⟩=pure (ps.zip us)):de K mg x st ps []:=by
 obtain⟨_,_,_,_,_,_,_,_,_,_,h1,h2,h3,h4⟩:=a;exact yl h2 h3 h4 (N1 X G h1) (hb _ _ _ _ _ _)
theorem AtM.dfn (a:AtM K x m qual st)(X:K.In h)(G:h.Ns Nk mg)(hc:lq K x fs=true)(hb:∀ kV doc pm an cdv ct us,us.length=ps.length->OE (NF m qual (aO st) (aL st) (ag st) .none kV doc pm an cdv ct) ⟨us,[]⟩=pure (ps.zip us)):rR K mg x m qual st ps []:=by
 obtain⟨_,_,_,_,_,_,_,_,_,_,_,h1,h2,h3,h4,h5,h6⟩:=a;exact Fg h3 h4 h5 h6 h1 h2 hc (N1 X G h1) (hb _ _ _ _ _ _)
theorem Kd {P:List Nd->Prop}{us:List Nd}{n:Nat}(h:us.length=n+1)(k:∀ a vs,vs.length=n->P (a::vs)):P us:=by
 cases us with
 |nil=>cases h
 |cons a vs=>exact k a vs (Nat.succ.inj h)
theorem M_ {P:List Nd->Prop}{us:List Nd}(h:us.length=0)(k:P []):P us:=by
 cases us with
 |nil=>exact k
 |cons a vs=>cases h
theorem MG {P:List Nd->Prop}{us:List Nd}(h:us.length=1)(k:∀ a,P [a]):P us:=Kd h λa _ h=>M_ (P:=λv=>P (a::v)) h (k a)
theorem MF {P:List Nd->Prop}{us:List Nd}(h:us.length=2)(k:∀ a b,P [a,b]):P us:=Kd h λa _ h=>MG (P:=λv=>P (a::v)) h (k a)
theorem MA {P:List Nd->Prop}{us:List Nd}(h:us.length=3)(k:∀ a b c,P [a,b,c]):P us:=Kd h λa _ h=>MF (P:=λv=>P (a::v)) h (k a)
theorem MJ {P:List Nd->Prop}{us:List Nd}(h:us.length=4)(k:∀ a b c d,P [a,b,c,d]):P us:=Kd h λa _ h=>MA (P:=λv=>P (a::v)) h (k a)
theorem MZ {P:List Nd->Prop}{us:List Nd}(h:us.length=5)(k:∀ a b c d e,P [a,b,c,d,e]):P us:=Kd h λa _ h=>MJ (P:=λv=>P (a::v)) h (k a)
theorem AtD.d1 {p:Str}(a:AtD K x st)(X:K.In h)(G:h.Ns Nk mg)(hb:∀ kV doc pm an cdv ct a,OE (NF x x (aO st) (aL st) (ag st) .none kV doc pm an cdv ct) ⟨[a],[]⟩=pure (([p]:List Str).zip [a])):de K mg x st [p] []:=a.dfn X G λ_ _ _ _ _ _ us hl=>MG (P:=λus=>OE _ ⟨us,[]⟩=pure ([p].zip us)) hl (hb _ _ _ _ _ _)
theorem AtM.d1 {p:Str}(a:AtM K x m qual st)(X:K.In h)(G:h.Ns Nk mg)(hc:lq K x fs=true)(hb:∀ kV doc pm an cdv ct a,OE (NF m qual (aO st) (aL st) (ag st) .none kV doc pm an cdv ct) ⟨[a],[]⟩=pure (([p]:List Str).zip [a])):rR K mg x m qual st [p] []:=a.dfn X G hc λ_ _ _ _ _ _ us hl=>MG (P:=λus=>OE _ ⟨us,[]⟩=pure ([p].zip us)) hl (hb _ _ _ _ _ _)
theorem AtD.d2 {p q:Str}(a:AtD K x st)(X:K.In h)(G:h.Ns Nk mg)(hb:∀ kV doc pm an cdv ct a b,OE (NF x x (aO st) (aL st) (ag st) .none kV doc pm an cdv ct) ⟨[a,b],[]⟩=pure (([p,q]:List Str).zip [a,b])):de K mg x st [p,q] []:=a.dfn X G λ_ _ _ _ _ _ us hl=>MF (P:=λus=>OE _ ⟨us,[]⟩=pure ([p,q].zip us)) hl (hb _ _ _ _ _ _)
theorem AtM.d2 {p q:Str}(a:AtM K x m qual st)(X:K.In h)(G:h.Ns Nk mg)(hc:lq K x fs=true)(hb:∀ kV doc pm an cdv ct a b,OE (NF m qual (aO st) (aL st) (ag st) .none kV doc pm an cdv ct) ⟨[a,b],[]⟩=pure (([p,q]:List Str).zip [a,b])):rR K mg x m qual st [p,q] []:=a.dfn X G hc λ_ _ _ _ _ _ us hl=>MF (P:=λus=>OE _ ⟨us,[]⟩=pure ([p,q].zip us)) hl (hb _ _ _ _ _ _)
theorem AtD.d3 {p q r:Str}(a:AtD K x st)(X:K.In h)(G:h.Ns Nk mg)(hb:∀ kV doc pm an cdv ct a b c,OE (NF x x (aO st) (aL st) (ag st) .none kV doc pm an cdv ct) ⟨[a,b,c],[]⟩=pure (([p,q,r]:List Str).zip [a,b,c])):de K mg x st [p,q,r] []:=a.dfn X G λ_ _ _ _ _ _ us hl=>MA (P:=λus=>OE _ ⟨us,[]⟩=pure ([p,q,r].zip us)) hl (hb _ _ _ _ _ _)
theorem AtM.d3 {p q r:Str}(a:AtM K x m qual st)(X:K.In h)(G:h.Ns Nk mg)(hc:lq K x fs=true)(hb:∀ kV doc pm an cdv ct a b c,OE (NF m qual (aO st) (aL st) (ag st) .none kV doc pm an cdv ct) ⟨[a,b,c],[]⟩=pure (([p,q,r]:List Str).zip [a,b,c])):rR K mg x m qual st [p,q,r] []:=a.dfn X G hc λ_ _ _ _ _ _ us hl=>MA (P:=λus=>OE _ ⟨us,[]⟩=pure ([p,q,r].zip us)) hl (hb _ _ _ _ _ _)
theorem AtD.d4 {p q r u:Str}(a:AtD K x st)(X:K.In h)(G:h.Ns Nk mg)(hb:∀ kV doc pm an cdv ct a b c d,OE (NF x x (aO st) (aL st) (ag st) .none kV doc pm an cdv ct) ⟨[a,b,c,d],[]⟩=pure (([p,q,r,u]:List Str).zip [a,b,c,d])):de K mg x st [p,q,r,u] []:=a.dfn X G λ_ _ _ _ _ _ us hl=>MJ (P:=λus=>OE _ ⟨us,[]⟩=pure ([p,q,r,u].zip us)) hl (hb _ _ _ _ _ _)
theorem AtD.d5 {p q r u v:Str}(a:AtD K x st)(X:K.In h)(G:h.Ns Nk mg)(hb:∀ kV doc pm an cdv ct a b c d e,OE (NF x x (aO st) (aL st) (ag st) .none kV doc pm an cdv ct) ⟨[a,b,c,d,e],[]⟩=pure (([p,q,r,u,v]:List Str).zip [a,b,c,d,e])):de K mg x st [p,q,r,u,v] []:=a.dfn X G λ_ _ _ _ _ _ us hl=>MZ (P:=λus=>OE _ ⟨us,[]⟩=pure ([p,q,r,u,v].zip us)) hl (hb _ _ _ _ _ _)
theorem FC {i:Int}(X:K.In h)(G:h.Ns Nk mg)(a:∃ t,Nw K Nk x=some (some (.int i t))):∃ t,mg x=some (.int i t):=by obtain⟨t,e⟩:=a;exact⟨t,N1 X G e⟩
end
theorem dD (a:sc.kind=.function:=by rfl)(b:sc.isCoroutine=false:=by rfl)(c:sc.isGenerator=false:=by rfl)(d:N.Nodup:=by decide +kernel)(e:N.take P.length=P:=by rfl)(f:∀ x∈P,sc.names.lookup x=some .local\/sc.names.lookup x=some .cell:=by decide +kernel)(g:∀ y∈sc.names,y.2≠.free:=by decide +kernel):ay N P sc:=⟨a,b,c,d,e,f,g⟩
theorem iy (hp:H p=none)(e:upd H p o=H1):ae H H1:=e▸ae.new hp
theorem lX (e:upd H p o=H1):H1 p=some o:=e▸ai
theorem Mq (ha:H a=none)(hd:H dx=none)(hn:dx≠a)(e:upd (upd H dx o1) a o=H1):ae H H1:=e▸(ae.new hd).trans (ae.new (by rw[az hn.symm];exact ha))
def Q3.at (q:Q3):Nat->Rat:=iM q.a q.b q.c
def nw (q:Rat):Int:=(2*q.num+(q.den:Int)).fdiv (2*(q.den:Int))
def hq (q:Q3):R3:=⟨LD (nw q.a),LD (nw q.b),LD (nw q.c)⟩
theorem zy {X:Cx}{st:Pr}{t:TS}(h:WS X.nox st t):WS X st t:=by
 have h:=h.go;exact⟨λpins s σ H D I hw=>Oi (h pins s σ H D (I.wish _) hw) (λ_ _ q=>q.unwish) λ_ _ z=>O7 z⟩
section
variable {prog:ND}{w:N6}{A:Oa}{E:Nd->Nh->Prop}{s:Nh}{K:HD}{x C:Nn}{ox:Obj}{od:Option Obj}
theorem instObj {M:Model}(X:K.In s.heap)(I:W_ s.heap x ox C od)(ho:OD K (.ref C) (.type "object")=some true):Pj M s.heap (SM (.ref x) (.type "object")) true:=I.type.andThen (PySem.W.looks_subIn X ho)
end
end TR
namespace PySem
section
variable {prog:ND}{w:N6}{K:Type}[DecidableEq K]{kd:KeyKind prog w K}{A:Oa}{E:Nd->Nh->Prop}{s:Nh}{h h':OZ}
inductive cm (kd:KeyKind prog w K)(h:OZ):List (List K)->List Nd->Prop
 |nil:cm kd h [] []
 |cons {k:List K}{a:Nn}{ks:List (List K)}{vs:List Nd}:Vd kd h k a->cm kd h ks vs->cm kd h (k::ks) (.ref a::vs)
def kN (kd:KeyKind prog w K)(h:OZ)(ks:List (List K))(a:Nn):Prop:=∃ o items n,h.get? a=some o/\o.cls=.type "tuple"/\o.data=.seq items n/\cm kd h ks items.toList
theorem cm.inj:∀ {x y:List (List K)}{vs:List Nd},cm kd h x vs->cm kd h y vs->x=y
 |_,_,_,.nil,.nil=>rfl
 |_,_,_,.cons a b,.cons c d=>by rw[a.inj c,cm.inj b d]
theorem cm.length:∀ {x:List (List K)}{vs:List Nd},cm kd h x vs->x.length=vs.length
 |_,_,.nil=>rfl
 |_,_,.cons _ b=>by rw[N5,N5,b.length]
theorem cm.map (f:∀ k a,Vd kd h k a->Vd kd h' k a):∀ {x:List (List K)}{vs:List Nd},cm kd h x vs->cm kd h' x vs
 |_,_,.nil=>.nil
 |_,_,.cons a b=>.cons (f _ _ a) (cm.map f b)
theorem kN.typeIs {ks:List (List K)}{a:Nn}(x:kN kd s.heap ks a):s.TypeIs (.ref a) "tuple":=let ⟨o,_,_,ho,hc,_⟩:=x;⟨o,ho,hc⟩
theorem kN.inj {a:Nn}{x y:List (List K)}(hx:kN kd h x a)(hy:kN kd h y a):x=y:=by
 obtain⟨o,items,n,ho,_,hd,hi⟩:=hx;obtain⟨o',items',n',ho',_,hd',hi'⟩:=hy;obtain rfl:o=o':=Nb (ho.symm.trans ho');rw[hd] at hd';injection hd' with h1 _
 subst h1;exact hi.inj hi'
theorem kN.keeps {ks:List (List K)}{a d:Nn}{o:Obj}{es:Array O2}{ep:Nat}(x:kN kd h ks a)(ho:h.get? d=some o)(hd:o.data=.dict es ep)(hs:OL d h h'):kN kd h' ks a:=by
 obtain⟨o',items,n,ho',hc,hd',hi⟩:=x;have hne:a≠d:=by
  rintro rfl;obtain rfl:o'=o:=Nb (ho'.symm.trans ho);rw[hd] at hd';exact nomatch hd'
 exact⟨o',items,n,(hs.2 a hne).trans ho',hc,hd',hi.map λk b q=>q.keeps ho hd hs⟩
def yr (kd:KeyKind prog w K)(ks:List (List K)):Int:=reduceHash (OF (ks.map (QQ kd)))
def uQ (ks:List (List K)):Nat:=(ks.map λk=>k.length+1).sum+1
theorem FY {ks:List (List K)}{a:Nn}{Q:Int->Nh->Prop}(hu:A.units+1<cLine)(hk:kN kd s.heap ks a)(h:Q (yr kd ks) { s with toks:=s.toks+uQ ks }):Nu (NI prog w) A (pyHash (.ref a)) Q E s:=by
 have hT:=hk.typeIs;obtain⟨o,items,n,ho,_,hd,hi⟩:=hk;unfold pyHash
 first|unfold pyHashByItsType|skip
 first|refine KE (wpAny_cRoomFor_or (.inr (Nat.lt_of_succ_lt hu)) ?_)|skip
 refine KE (Qt hT RW.lookup ?_);show Nu _ _ (if(some (VZ "tuple.__hash__")==some Od)=true then _ else _) Q E s;rw[NS (by rw[beq_builtin_none];exact NK)];refine KE (Qt hT RW.lookup ?_);show Nu _ _ (callSpecialIfBoundUnlessNone? (.ref a) "__hash__" _>>=_) Q E s;refine KE (wpAny_callSpecialIfBoundUnlessNone?_slot hT RW (Oj RW hT F.entry_tuple_hash ?_ (F.args_tuple_hash_1 _)));show Nu _ _ (Ti (.ref a)>>=_) _ _ s;refine KE (Tx ho hd ?_);refine KE ?_;rw[<- P_];refine Rf _ (λc6 (b:Array Int) s'=>∃ done left,ks=done++left/\cm kd s.heap left c6/\b.toList=done.map (QQ kd)/\s'={ s with toks:=s.toks+(done.map λk=>k.length+1).sum })
  _ ?_ ?_ _ _ ⟨[],ks,rfl,hi,rfl,rfl⟩
 ·rintro x c6 b s' ⟨done,left,rfl,hl,hb,rfl⟩;cases hl with
  |@cons k c ks' _ h1 hl'=>
   refine KE (wpAny_pyHash_tuple (knd:=kd) (A:=A.in1) hu h1 ?_)
   first
    |exact Nc ⟨done++[k],ks',by simp,hl',by simp[hb],by simp[SK]⟩
    |exact KE (Nc (Nc ⟨done++[k],ks',by simp,hl',by simp[hb],by simp[SK]⟩))
 ·rintro b s' ⟨done,left,rfl,hl,hb,rfl⟩;cases hl;rw[SR] at h;show Nu _ _ (retInt (OF b.toList)) _ _ _;rw[hb];refine wpAny_ret_mkInt ?_;show Nu _ _ (if(decide (-(2:Int)^63<=OF (done.map (QQ kd)))&&decide (OF (done.map (QQ kd))<2^63))=true then _ else _) Q E _;unfold yr reduceHash at h;unfold uQ at h
  by_cases hr:(decide (-(2:Int)^63<=OF (done.map (QQ kd)))&&decide (OF (done.map (QQ kd))<2^63))=true
  ·rw[NZ hr];rw[NZ hr] at h;exact Nc (by simpa [SK] using h)
  ·rw[NS hr];rw[NS hr] at h;exact KE (Qs (Nc (by simpa [SK] using h)))
theorem AZ {x y:List (List K)}{a b:Nn}{P:Fin->Nh->Prop} (hu:A.units < cLine) (hx:kN kd s.heap x a) (hy:kN kd s.heap y b) (h:P (.done (.ret (.bool (decide (x=y))))) s) :
  Nu (NI prog w) A (PN.«tuple.__eq__» ⟨[.ref a,.ref b],[]⟩) P E s:=by
 have hTb:=hy.typeIs;obtain⟨oa,xs,na,hoa,_,hda,hia⟩:=hx;obtain⟨ob,ys,nb,hob,_,hdb,hib⟩:=hy;show Nu _ _ (SM (.ref b) (.type "tuple")>>=_) _ _ s;refine KE (PF hTb Sq ?_);simp only[QU,NY,Pl];refine KE (Tx hoa hda ?_);refine KE (Tx hob hdb ?_);refine KE ?_;refine Rf _
  (λc6 r s'=>r.1=none/\s'=s/\∃ x' y' xs' ys',c6=List.zip xs' ys'/\cm kd s.heap x' xs'/\cm kd s.heap y' ys'/\decide (x'=y')=decide (x=y)/\(xs'.length==ys'.length)=(xs.size==ys.size))
  _ ?_ ?_ _ _ ⟨rfl,rfl,x,y,xs.toList,ys.toList,rfl,hia,hib,rfl,by simp⟩
 ·rintro⟨u,v⟩ c6 r s' ⟨hr,rfl,x',y',xs',ys',hz,hx',hy',hdec,hlen⟩;cases hx' with
  |nil=>simp at hz
  |@cons k1 c1 x'' xs'' h1 hx''=>
   cases hy' with
   |nil=>simp at hz
   |@cons k2 c2 y'' ys'' h2 hy''=>
    simp only[List.zip_cons_cons,List.cons.injEq,VQ] at hz;obtain⟨⟨rfl,rfl⟩,rfl⟩:=hz;refine KE (wpAny_eqBool_tuple (knd:=kd) hu h1 h2 ?_)
    by_cases hk:k1=k2
    ·subst hk;rw[Nq rfl];simp only[QU,NY,Pl];refine Nc ⟨rfl,rfl,x'',y'',xs'',ys'',rfl,hx'',hy'',?_,by simpa using hlen⟩;rw[<- hdec]
     by_cases hxy:x''=y''
     ·simp[hxy]
     ·simp[hxy]
    ·rw[On hk];simp only[Bool.not_false,PD];have hf:decide (x=y)=false:=by rw[<- hdec];simp[hk]
     rw[hf] at h;exact KE (Nc (Nc (Nc h)))
 ·rintro⟨r1,r2⟩ s' ⟨hr,rfl,x',y',xs',ys',hz,hx',hy',hdec,hlen⟩;simp only at hr;subst hr;refine Nc ?_;have hfin:(xs.size==ys.size)=decide (x=y):=by
   rw[<- hdec,<- hlen];cases hx' with
   |nil=>
    cases hy' with
    |nil=>simp
    |cons _ _=>simp
   |cons _ _=>
    cases hy' with
    |nil=>simp
    |cons _ _=>simp at hz
  show P (.done (.ret (.bool (xs.size==ys.size)))) s';rw[hfin];exact h
theorem Lk {x y:List (List K)}{a b:Nn}{Q:Bool->Nh->Prop}(hu:A.units+1<cLine)(hx:kN kd s.heap x a)(hy:kN kd s.heap y b)(h:Q (decide (x=y)) s):Nu (NI prog w) A (eqBool (.ref a) (.ref b)) Q E s:=by
 unfold eqBool
 try with_reducible refine Ox ?_
 show Nu _ _ (if(NN a==NN b)=true then _ else _) Q E s
 by_cases hab:(NN a==NN b)=true
 ·rw[NZ hab];have e:a=b:=by have:=eq_of_beq hab;injection this
  subst e;obtain rfl:=hx.inj hy;exact KE (Qs (Nc (by simpa using h)))
 ·rw[NS hab];exact KE (wpAny_richCompare_same_room (op:=.Eq) hx.typeIs hy.typeIs Rr
   (Oj Rr hx.typeIs F.entry_tuple_eq (AZ (A:=A.in1) hu hx hy ⟨_,rfl,(λe=>nomatch e),OT h⟩) (F.args_tuple_eq_2 _ _)) (Nat.lt_of_succ_lt hu))
theorem AG {n:Nat}{ks:List K}{a:Nn}{Q:Bool->Nh->Prop}(hk:Vd kd s.heap ks a)(h:Q true s):Nu (NI prog w) A (eqIsQuiet (n+1) (.ref a)) Q E s:=by
 have hT:=hk.typeIs;obtain⟨o,items,m,ho,_,hd,hi⟩:=hk;unfold eqIsQuiet;refine KE (Qt hT Rr.lookup ?_);show Nu _ _ (SM (.ref a) (.type "tuple")>>=_) _ _ s;refine KE (PF hT Sq ?_);simp only[QU,NY,Pl];refine KE (Of ho hd ?_);refine KE ?_;show Nu _ _ (forIn items _ _) _ _ s;rw[<- P_];refine Rf _ (λc6 r s'=>r.1=none/\s'=s/\∀ v∈c6,carriedByValue v=true) _ ?_ ?_ _ _ ⟨rfl,rfl,hi.byValue⟩
 ·rintro v c6 r s' ⟨hr,rfl,hall⟩;rw[eqIsQuiet_byValue _ (hall v NC)];refine KE (Nc ?_);simp only[QU,NY,Pl];exact Nc ⟨rfl,rfl,λu hu'=>hall u (Nr _ hu')⟩
 ·rintro⟨r1,r2⟩ s' ⟨hr,rfl,_⟩;simp only at hr;subst hr;exact Nc h
theorem DA {ks:List (List K)}{a:Nn}{Q:Bool->Nh->Prop}(hk:kN kd s.heap ks a)(h:Q true s):Nu (NI prog w) A (eqIsQuiet 8 (.ref a)) Q E s:=by
 have hT:=hk.typeIs;obtain⟨o,items,m,ho,_,hd,hi⟩:=hk;unfold eqIsQuiet;refine KE (Qt hT Rr.lookup ?_);show Nu _ _ (SM (.ref a) (.type "tuple")>>=_) _ _ s;refine KE (PF hT Sq ?_);simp only[QU,NY,Pl];refine KE (Of ho hd ?_);refine KE ?_;show Nu _ _ (forIn items _ _) _ _ s;rw[<- P_];refine Rf _ (λc6 r s'=>r.1=none/\s'=s/\∃ left,cm kd s.heap left c6) _ ?_ ?_ _ _ ⟨rfl,rfl,ks,hi⟩
 ·rintro v c6 r s' ⟨hr,rfl,left,hl⟩;cases hl with
  |@cons k c ks' _ h1 hl'=>
   refine KE (AG (n:=6) h1 ?_);simp only[QU,NY,Pl];exact Nc ⟨rfl,rfl,ks',hl'⟩
 ·rintro⟨r1,r2⟩ s' ⟨hr,rfl,_⟩;simp only at hr;subst hr;exact Nc h
end
def um {prog:ND}{w:N6}{K:Type}[DecidableEq K](kd:KeyKind prog w K):WP prog w (List (List K)) where
 is:=kN kd
 hash:=yr kd
 draws:=uQ
 room:=λA=>A.units+1<cLine
 inj:=λhx hy=>hx.inj hy
 keeps:=λx ho hd hs=>x.keeps ho hd hs
 pyHash:=λhu hk h=>FY hu hk h
 eqBool:=λhu hx hy h=>Lk hu hx hy h
 quiet:=λhk h=>DA hk h
end PySem
namespace TR
open PySem PySem.Spec PyProof.Rows L2
def rK (q:Rat):List fb:=[.inl q.num,.inl (q.den:Int)]
def cK (c:Q3):List (List fb):=[rK c.a,rK c.b,rK c.c]
theorem yj {p q:Rat}(h:rK p=rK q):p=q:=by
 injection h with h1 h2
 injection h1 with h1
 injection h2 with h2 _
 injection h2 with h2
 exact Rat.ext h1 (by lia)
theorem Jv {c e:Q3}(h:cK c=cK e):c=e:=by
 injection h with h1 h
 injection h with h2 h
 injection h with h3 _
 have e1:=yj h1;have e2:=yj h2;have e3:=yj h3;cases c;cases e;cases e1;cases e2;cases e3;rfl
section
variable {P:ND}{w:N6}{H H':Hp}{h:OZ}{K:HD}
theorem uW {q:Rat}{v:V}{u:Nd}(ok:jl P w H h)(hq:aw K H (rD q) v)(ru:bj v u):∃ a,u=.ref a/\Vd (bC P w) h (rK q) a:=by
 obtain⟨a,rfl,ha⟩:=dm hq;cases ru;exact⟨a,rfl,qu (ks:=rK q) ok ha⟩
theorem GS {c:Q3}{ka:Nn}(ok:jl P w H h)(hc:aw K H c.col (.ref ka)):kN (bC P w) h (cK c) ka:=by
 cases hc with
 |tup e q=>
  obtain⟨x,y,z,rfl,h1,h2,h3⟩:=cV q;obtain⟨_,its,r,o,g1,g2,n,g3⟩:=(show bA P w H h ka (.tup [x,y,z]) from ok ka _ e)
  obtain⟨u1,u2,u3,rfl,r1,r2,r3⟩:=EL r;obtain⟨a1,rfl,k1⟩:=uW ok h1 r1;obtain⟨a2,rfl,k2⟩:=uW ok h2 r2;obtain⟨a3,rfl,k3⟩:=uW ok h3 r3;exact⟨o,_,n,g1,g2,g3,.cons k1 (.cons k2 (.cons k3 .nil))⟩
def l6 (xs:List (Q3×Nn)):List (List (List fb)×Nn×Nd):=xs.map λp=>(cK p.1,p.2,.bool true)
def BJ (P:ND)(w:N6)(a:Nn)(xs:List (Q3×Nn)):HO:=.ext λh=>(a==OB)=false/\∃ o es ep,h.get? a=some o/\o.ExactDict/\o.data=.dict es ep/\es.toList=(l6 xs).map (Ve (um (bC P w)))
theorem GP {a:Nn}{xs:List (Q3×Nn)}(hs:(a==OB)=false){o:Obj}{es:Array O2}{ep:Nat}(h1:h.get? a=some o)(h2:o.ExactDict)(h3:o.data=.dict es ep)(h4:es.toList=(l6 xs).map (Ve (um (bC P w)))):bA P w H h a (BJ P w a xs):=
 ⟨⟨hs,o,es,ep,h1,h2,h3,h4⟩,⟨o,h1⟩,λ_ _ ⟨q1,o,es,ep,g1,g2⟩ k=>⟨q1,o,es,ep,k o g1,g2⟩⟩
def CI (K:HD)(H:Hp)(xs:List (Q3×Nn)):Prop:=(∀ p∈xs,aw K H p.1.col (.ref p.2))/\(xs.map (·.1)).Nodup
theorem CI.same {xs:List (Q3×Nn)}(k:CI K H xs)(s:ae H H'):CI K H' xs:=⟨λp hp=>aw.same s (k.1 p hp),k.2⟩
theorem Hw {xs:List (Q3×Nn)}(h:(xs.map (·.1)).Nodup):((l6 xs).map (·.1)).Nodup:=by
 have e:(l6 xs).map (·.1)=(xs.map (·.1)).map cK:=by unfold l6;rw[PR,PR];rfl
 rw[e];exact List.Pairwise.map cK (λa b n z=>n (Jv z)) h
theorem GC {a:Nn}{xs:List (Q3×Nn)}(ok:jl P w H h)(e:H a=some (BJ P w a xs))(k:CI K H xs):(a==OB)=false/\h.DictOfH (um (bC P w)) a (l6 xs):=by
 obtain⟨⟨q1,o,es,ep,g1,g2,g3,g4⟩,_,_⟩:=(show bA P w H h a (BJ P w a xs) from ok a _ e)
 refine⟨q1,o,es,ep,g1,g2,g3,g4,λx hx=>?_,Hw k.2⟩;obtain⟨p,hp,rfl⟩:=Ov.mp hx;exact GS ok (k.1 p hp)
def q_ (xs:List (Q3×Nn))(c:Q3)(b:Nn):List (Q3×Nn):=if xs.any (λp=>decide (cK p.1=cK c))=true then xs else xs++[(c,b)]
theorem yG (xs:List (Q3×Nn))(c:Q3)(b:Nn):storedH (l6 xs) (cK c) b (.bool true)=l6 (q_ xs c b):=by
 have hk:(Xc (l6 xs) (cK c)).isSome=xs.any (λp=>decide (cK p.1=cK c)):=by
  unfold Xc l6;rw[Wa]
  induction xs with
  |nil=>rfl
  |cons p xs ih=>
   rw[NE,Pu,Uj]
   by_cases z:cK p.1=cK c
   ·rw[Nq z];rfl
   ·rw[On z,Bool.false_or];exact ih
 unfold storedH q_;rw[hk]
 by_cases z:xs.any (λp=>decide (cK p.1=cK c))=true
 ·rw[NZ z,NZ z];unfold l6;rw[PR];refine Vy λp _=>?_
  show putAt (cK c) (.bool true) (cK p.1,p.2,.bool true)=_;unfold putAt
  split<;>rfl
 ·rw[NS z,NS z];unfold l6;rw[Ot];rfl
end
section
variable {X:Cx}{pos pos':Pos}
def IZ (P:ND)(w:N6):TE:=λ_ H Q=>∀ p,H p=none->Q (.ref p) (upd H p (BJ P w p []))
theorem AQ {P:ND}{w:N6}(hP:X.prog=P)(hw:X.w=w):WE X (.Dict [] [] pos) (IZ P w):=by
 refine⟨?_⟩;subst hP hw;intro pins s σ H Q I h;exact UJ ⟨.ref s.heap.objs.size,_,I.laid (a:=s.heap.objs.size) (o:=BJ X.prog X.w s.heap.objs.size []) (t':=s.toks) (λ_ _ q=>Na _ q) (Nj _)
  (GP (xs:=[]) (ON.mpr (Px (NA I.big))) (Ng _ rfl) ⟨rfl,rfl,rfl⟩ rfl rfl),rfl,h _ (I.hok.fresh (Nj _))⟩
def H_ (P:ND)(w:N6)(K:HD)(td ty tv:TE):TS:=λD σ H=>tv σ H λv H1=>td σ H1 λx H2=>ty σ H2 λy H3=>∃ (a b:Nn) (xs:List (Q3×Nn)) (c:Q3),v=.bl true/\x=.ref a/\y=.ref b/\H3 a=some (BJ P w a xs)/\aw K H3 c.col (.ref b)/\CI K H3 xs/\xs.length<1000/\D.nx σ (upd H3 a (BJ P w a (q_ xs c b)))
theorem AS {P:ND}{w:N6}{K:HD}{o i value:Po}{td ty tv:TE} (hP:X.prog=P) (hw:X.w=w) (hu:X.A.units + 2 < cLine) (ho:WE X o td) (hi:WE X i ty) (hv:WE X value tv) (hs:Td value (some (.Subscript o i pos')) pos.line X.env=pure false) :
  WS X (.Assign [.Subscript o i pos'] value pos) (H_ P w K td ty tv):=by
 have ho:=ho.go;have hi:=hi.go;have hv:=hv.go;refine⟨?_⟩;subst hP hw;intro pins s σ H D I h;refine UU (bM (hv pins s σ H _ I h) λr s1 ⟨v,H1,I1,rv,q1⟩=>bM (ho pins s1 σ H1 _ I1 q1) λu s2 ⟨x,H2,I2,rx,q2⟩=>bM (hi pins s2 σ H2 _ I2 q2) λiv s3 ⟨y,H3,I3,ry,a,b,xs,c,ev,ex,ey,e,hc,ks,hl,q3⟩=>?_) hs;subst ev ex ey;cases(show u=NN a from rx);cases(show iv=NN b from ry);cases(show r=QE true from rv);obtain⟨hd,dd⟩:=GC I3.hok e ks;refine wpAny_setItem_heap (knd:=um (bC X.prog X.w)) (hsz:=by unfold l6;rw[Ni];exact ce (by lia)) hu (GS I3.hok hc) dd λh' dd' hs=>?_
 rw[yG] at dd';obtain⟨q,es,ep,hq,h2,h3,h4,_,_⟩:=dd';exact⟨σ,_,vm I3 (by rw[e];exact True.intro) hs ⟨q,hq⟩ (GP hd hq h2 h3 h4),q3⟩
def IP (P:ND)(w:N6)(K:HD):List V->Hp->VK->Prop:=λvs H Q=>∃ (a:Nn) (xs:List (Q3×Nn)),vs=[.ref a]/\H a=some (BJ P w a xs)/\CI K H xs/\xs.length<=1000/\∀ D,H D=none->Q (.ref D) (upd H D (.lst (xs.map λp=>.ref p.2)))
theorem xP {P:ND}{w:N6}{K:HD}(hP:X.prog=P)(hw:X.w=w)(hc:X.calm=true):cq X (.type "list") (IP P w K):=by
 subst hP hw;intro pins s σ H vs us Q I r h;obtain⟨a,xs,rfl,e,ks,hl,q⟩:=h;obtain⟨u,rfl,rx⟩:=fN r;cases rx;obtain⟨hd,dd⟩:=GC I.hok e ks;obtain⟨es,ep,raw,hes⟩:=Heap.RawD.of dd;have hz:es.size=xs.length:=by
  have y:=Ql SV hes
  simpa [l6] using y
 refine PySem.W.kdl_call (FD hd) (I.ok.hd hc) raw (by rw[hz];exact ce hl) λh' tk acc c hk hD hacc=>?_
 have ha:acc.toList.length=xs.length:=by rw[Oy];exact hacc.1.trans hz
 have hv:aM (xs.map λp=>V.ref p.2) acc.toList:=by
  refine tG (by rw[Ni,ha]) λi v u h1 h2=>?_
  rw[NB] at h1;obtain⟨p,hp,rfl⟩:=Nz.mp h1;obtain⟨en,y1,rfl⟩:=hacc.2 i u (by rw[<- Qa];exact h2);have y2:es.toList[i]?=some en:=by rw[Qa];exact y1
  rw[hes,NB] at y2;unfold l6 at y2;rw[NB,hp] at y2;cases y2;rfl
 exact⟨.ref s.heap.objs.size,_,I.laid (a:=s.heap.objs.size) (o:=.lst (xs.map λp=>.ref p.2)) (t':=tk) hk (Nj _) ⟨by rw[Ni];exact ce hl,acc.toList,c,hv,by rw[SC];exact hD⟩,rfl,q _ (I.hok.fresh (Nj _))⟩
end
end TR
namespace PySem
open Sem (wp)
section
variable {prog:ND}{w:N6}{A:Oa}{R:Result->Nh->Prop}{I:Nn}{fp wr:List Nn}{n:Nat}{P:Nat->Nd->Prop}{St:Nat->OZ->Prop}
theorem BL {kw:List (Str × Nd)} (W:Walks prog w A.in1 I fp wr n P St) (bt:Nat->Nat->Bool) (hcmp:CmpOf prog w A.in1 .Gt P bt) (S:Nn) (hSf:S ∉ fp) :
  ∀ (k j:Nat) (s:Nh) (vb:Nd) (c:Nat),n-(j+1)=k->j+1<=n->St (j+1) s.heap->P (Tc bt j) vb ->
  s.heap.get? S=some { cls:=.type "list",dict:=none,data:=.seq #[vb,vb] c,slots:=#[] } ->
  (∀ v h' tk,P (Tc bt (n-1)) v->(∀ b o,b∉wr->b≠S->s.heap.get? b=some o->h'.get? b=some o)->R (.ok (.ret v)) { s with heap:=h',toks:=tk }) ->
  QB (NI prog w) A (.builtin "max.loop" ⟨[.ref I,.none,.ref S],kw⟩) R s:=by
 have hSw:S∉wr:=λh=>hSf (W.sub _ h)
 have hname:(toString "max"++toString ".loop":String)="max.loop":=by decide
 intro k
 induction k with
 |zero=>
  intro j s vb c hk hj hst hPb hS hR;have hin:j+1=n:=by lia
  refine P4 UB ?_;rw[PL P8 _];show Nu _ A.in1 (Va (.ref S)>>=_) _ _ s;refine KE (Of hS rfl ?_);show Nu _ A.in1 (tryCatch (Q1 (.ref I)) _>>=_) _ _ s;refine KE (Sc (W.done s _ _ (hin▸hst) λh' tk hk'=>?_));have hS':=hk' S _ hSw hS;show Nu _ A.in1 (updateSeq S (λ_=>#[])>>=_) _ _ _;refine KE ?_;refine Tf hS' rfl (KE (PH (Nc ?_)));exact hR vb _ tk (by rw[<- hin];exact hPb) λb o hbw hbS e=>(OJ _ _ (Px hbS)).trans (hk' b o hbw e)
 |succ k ih=>
  intro j s vb c hk hj hst hPb hS hR;have hlt:j+1<n:=by lia
  refine P4 UB ?_;rw[PL P8 _];show Nu _ A.in1 (Va (.ref S)>>=_) _ _ s;refine KE (Of hS rfl ?_);show Nu _ A.in1 (tryCatch (Q1 (.ref I)) _>>=_) _ _ s;refine KE (Sc (W.item (j+1) s _ _ hlt hst λv h' tk hP hst' hk'=>?_));have hS':=hk' S _ hSw hS;show Nu _ A.in1 (tryCatch (holding [v,v] (richCompare .Gt v vb>>=_)) _>>=_) _ _ _;refine KE (Sc (Ox (KE (hcmp (j+1) (Tc bt j) v vb _ _ _ hP hPb ?_))));refine KE (Ox (OT ?_));refine KE (PH (Nc ?_));cases hb:bt (j+1) (Tc bt j) with
  |true=>
   simp only[PD];refine KE ?_;refine Tf hS' rfl (KE (PH ?_));rw[hname];refine Nc ⟨RK P8 _,ih (j+1) _ v _ (by lia) hlt (W.frame _ _ _ hst' λb hbf o e=>?_) (by simp only[Tc,hb,PD];exact hP) (OM _ hS' rfl) λv' h'' tk'' hP' hk''=>?_⟩
   ·exact(OJ _ _ (λh:S=b=>hSf (by rw[h];exact hbf))).trans e
   ·exact hR v' h'' tk'' hP' λb o hbw hbS e=>hk'' b o hbw hbS ((OJ _ _ (Px hbS)).trans (hk' b o hbw e))
  |false=>
   simp only[NY,Pl];refine KE (PH ?_);rw[hname];refine Nc ⟨RK P8 _,ih (j+1) _ vb c (by lia) hlt hst' (by simp only[Tc,hb,NY,Pl];exact hPb) hS' λv' h'' tk'' hP' hk''=>?_⟩;exact hR v' h'' tk'' hP' λb o hbw hbS e=>hk'' b o hbw hbS (hk' b o hbw e)
theorem xZ {nm:Str}{d:Nd} (W:Walks prog w A.in1 I fp wr n P St) (bt:Nat->Nat->Bool) (hcmp:CmpOf prog w A.in1 .Gt P bt) (S:Nn) (hSf:S ∉ fp) {s:Nh}{c:Nat} (hst:St 0 s.heap)
  (hS:s.heap.get? S=some { cls:=.type "list",dict:=none,data:=.seq #[] c,slots:=#[] })
  (hR:∀ v h' tk,(n=0/\v=d)\/(0<n/\P (Tc bt (n-1)) v)->(∀ b o,b∉wr->b≠S->s.heap.get? b=some o->h'.get? b=some o)->R (.ok (.ret v)) { s with heap:=h',toks:=tk }):
  QB (NI prog w) A (.builtin "max.loop" ⟨[.ref I,.none,.ref S],[(nm,d)]⟩) R s:=by
 have hSw:S∉wr:=λh=>hSf (W.sub _ h)
 have hname:(toString "max"++toString ".loop":String)="max.loop":=by decide
 refine P4 UB ?_;rw[PL P8 _];show Nu _ A.in1 (Va (.ref S)>>=_) _ _ s;refine KE (Of hS rfl ?_);show Nu _ A.in1 (tryCatch (Q1 (.ref I)) _>>=_) _ _ s
 by_cases hn:0<n
 ·refine KE (Sc (W.item 0 s _ _ hn hst λv h' tk hP hst' hk'=>?_));have hS':=hk' S _ hSw hS;show Nu _ A.in1 (updateSeq S (λ_=>#[v,v])>>=_) _ _ _;refine KE ?_;refine Tf hS' rfl ?_;rw[hname];refine Nc ⟨RK P8 _,BL W bt hcmp S hSf _ 0 _ v _ rfl hn (W.frame _ _ _ hst' λb hbf o e=>?_) hP (OM _ hS' rfl) λv' h'' tk'' hP' hk''=>?_⟩
  ·exact(OJ _ _ (λh:S=b=>hSf (by rw[h];exact hbf))).trans e
  ·exact hR v' h'' tk'' (.inr ⟨hn,hP'⟩) λb o hbw hbS e=>hk'' b o hbw hbS ((OJ _ _ (Px hbS)).trans (hk' b o hbw e))
 ·have h0:n=0:=by lia
  subst h0;refine KE (Sc (W.done s _ _ hst λh' tk hk'=>?_));refine KE (Qs (Nc ?_));exact hR d h' tk (.inl ⟨rfl,rfl⟩) λb o hbw _ e=>hk' b o hbw e
end
section
variable {prog:ND}{w:N6}{A:Oa}{E:Nd->Nh->Prop}{s:Nh}
theorem BV (a v:Nd):Vs "max" ⟨[a],[(Oo "default",v)]⟩:=by unfold Vs;kernel_rfl
theorem AM (d:Nd):SN "max" ["key","default"] 0 ⟨[],[(Oo "default",d)]⟩=pure [none,some d]:=rfl
theorem uZ {id:String}{b:PN}{args:List Nd}{kw:List (Str × Nd)}{Q:Nd->Nh->Prop} (hk:builtinKind id=none) (hp:plainId id=true) (hb:entryFor table id=some b) (ha:Vs id ⟨args,kw⟩)
  (hc:Nu (NI prog w) A.in1 (b ⟨args,kw⟩) (λfin s'=>match fin with
   |.done f=>(match (Except.ok f:Result) with|.ok (.ret v)=>Q v s'|.ok _=>False|.error e=>E e s')
   |.again c'=>c'.quiet=true/\QB (NI prog w) A c' (λr s'=>match r with|.ok (.ret v)=>Q v s'|.ok _=>False|.error e=>E e s') s') E s) :
  Nu (NI prog w) A (call (.builtin id) args kw) Q E s:=by
 refine QX (SF hp hb ?_);simp only[UI,hk];cases hsig:Manifest.signature? id with
 |none=>exact Nc hc
 |some sig=>
  simp only[Vs,hsig] at ha;have h2:Bind.checkArgs id sig ⟨args,kw⟩=pure ():=ha;show Nu _ _ (Bind.checkArgs id sig ⟨args,kw⟩) _ _ _;rw[h2];exact Nc hc
theorem Bk {l:Nn}{xs:Array (Int × Tok)}{d:Nd}{Q:Nd->Nh->Prop} (hh:A.handled=none) (hl:s.heap.IsList l (Tw xs))
  (h:∀ v h' tk,(xs.size=0/\v=d)\/(0<xs.size/\(Tw xs)[Tc (λi j=>decide (Wj xs i>Wj xs j)) (xs.size-1)]?=some v)->(∀ b o,s.heap.get? b=some o->h'.get? b=some o)->Q v { s with heap:=h',toks:=tk }):
  Nu (NI prog w) A (call (.builtin "max") [.ref l] [(Oo "default",d)]) Q E s:=by
 have hname:(toString "max"++toString ".loop":String)="max.loop":=by decide
 refine uZ F.kind_max F.plain_max F.entry_max (BV _ _) ?_;show Nu _ A.in1 (SN "max" ["key","default"] 0 ⟨[],[(Oo "default",d)]⟩>>=_) _ _ s;refine KE (UA (AM d) ?_);refine KE (Nc ?_);refine KE (iter_intList hl λs₂ e st hfp hlI=>?_);subst e;refine KE (N4 ?_);have hz:(Tw xs).size=xs.size:=by simp[Tw]
 have W:=Wg (prog:=prog) (w:=w) (A:=A.in1) hh s.heap.objs.size l hlI (Tw xs);have hlt:l<s.heap.objs.size:=by obtain⟨_,e,_⟩:=hl;exact Nf e
 rw[hname];refine Nc ⟨RK P8 _,xZ W (λi j=>decide (Wj xs i>Wj xs j)) (CmpOf.ints_gt (Wj xs) (λ_ _=>intItems_at)) (s.heap.push { cls:=.type "list_iterator",data:=.fields #[.ref l,.int 0 0] }).objs.size (λhm=>N0 _ (hfp _ hm)) (W.frame _ _ _ st λb _ o e=>Na _ e) (Ng _ rfl) λv h' tk hP hk=>?_⟩;refine h v h' tk (by rw[hz] at hP;exact hP) λb o e=>?_
 have lb:=Nf e;have e1:=Na (h:=s.heap) { cls:=.type "list_iterator",data:=.fields #[.ref l,.int 0 0] } e;exact hk b o (λhm=>by cases Nm.mp hm;exact N0 _ lb) (NA (Nf e1)) (Na _ e1)
end
end PySem
namespace TR
open PySem PySem.Spec PyProof.Rows L2
section
variable {X:Cx}{K:HD}
def K0 (K:HD)(d:Int)(te:TE):TE:=λσ H Q=>te σ H λx H1=>∃ (p:Nn) (ns:List Int),x=.ref p/\bI K H1 p (ns.map V.int)/\∀ m,(ns=[]/\m=d)\/(m∈ns/\∀ x∈ns,x<=m)->Q (.int m) H1
theorem Ec {er:Po}{te:TE}{d:Int}{j:Nat}{p pos kp cp:Pos} (hK:X.K=K) (hc:X.calm=true) (hg:Gl X "max") (hm:X.mg "max"=none) (he:WE X er te)
  (hst:NG [er] X.env=[(false,QT er X.env)]:=by rfl):WE X (.Call (.Name "max" p) [er] [⟨some "default",.Constant (.int d) j cp,kp⟩] pos) (K0 K d te):=by
 have he:=he.go;refine⟨?_⟩;subst hK;intro pins s σ H Q I h;refine OA (iE I hg hm DR ?_);refine callWith_kw (env:=X.env) (he:=by rw[hst];rfl) (hplain:=by rw[hst];rfl) (bM ((pT he uL hst) pos pins s σ H (λvs H1=>match vs with
  |[x]=>∃ (p:Nn) (ns:List Int),x=.ref p/\bI X.K H1 p (ns.map V.int)/\∀ m,(ns=[]/\m=d)\/(m∈ns/\∀ x∈ns,x<=m)->Q (.int m) H1
  |_=>False) I h) λus s1 ⟨vs,H1,I1,r1,q1⟩=>?_)
 match vs,r1,q1 with
 |[x],r1,q1=>
  obtain⟨p,ns,rfl,hp,q⟩:=q1;obtain⟨u,rfl,ru⟩:=fN r1;cases ru;refine kws_cons (wpAny_Constant_int (kws_nil ?_));show Nu _ _ (call (.builtin "max") [.ref p] [(Oo "default",.int d s1.toks)]) _ _ _;have I2:aD X pins σ H1 { s1 with toks:=s1.toks+1 }:=I1.tok _;obtain⟨its,rv,pl,hz⟩:=I2.list hp;obtain⟨ps,rfl,rfl⟩:=qt rv;have hl:=pl.isList;rw[xJ] at hl;refine Bk (I2.ok.hd hc) hl λv h' tk hv kk=>?_
  have I3:aD X pins σ H1 { s1 with heap:=h',toks:=tk }:=I2.kept (t':=tk) kk;rcases hv with ⟨h0,rfl⟩|⟨_,hv⟩
  ·refine⟨.int d,H1,I3,⟨_,rfl⟩,q d (.inl ⟨?_,rfl⟩)⟩;rw[No] at h0;rw[Uk.mp h0];rfl
  ·obtain⟨t,rfl,hm⟩:=Jx hv;refine⟨.int _,H1,I3,⟨t,rfl⟩,q _ (.inr ⟨hm,λx hx=>?_⟩)⟩;obtain⟨i,hi,rfl⟩:=Iq hx;exact(wc (Wj ps.toArray) _).2 i hi
end
def yO (h:OZ)(v:Nd)(p:Int×Int):Prop:=∃ a t u,v=.ref a/\IsTup h a #[.int p.1 t,.int p.2 u]
theorem yO.keeps {h h':OZ}{v:Nd}{p:Int×Int}(x:yO h v p)(k:∀ b o,h.get? b=some o->h'.get? b=some o):yO h' v p:=by
 obtain⟨a,t,u,e,o,ho,r⟩:=x;exact⟨a,t,u,e,o,k _ _ ho,r⟩
def wj (z:Int)(ps:List (Int×Int)):List Int:=ps.map λp=>(p.1*z).fdiv p.2
section
variable {prog:ND}{w:N6}{A:Oa}{E:Nd->Nh->Prop}{s:Nh}
theorem FT {env:Env}{iter:Po}{cr bl sc:Str}{p1 p2 p3 q1 q2 px px2 tp pos:Pos}{tk:Nat}{scope:Q7}{cl:List (Str × Nn)}{cf ka:Nn}{z:Int}{tz:Tok}{vs:List Nd}{ps:List (Int × Int)}{Q:Nd->Nh->Prop}
  (hh:A.handled=none)(hclos:closureFor scope env=pure cl)(hcell:∀ y∈scope.names,y.2≠.cell)(hkind:scope.kind=.function)(hnames:∀ y∈scope.names,y.2=.local->scope.names.lookup y.1=some .local)
  (ht:scope.names.lookup cr=some .local)(hb:scope.names.lookup bl=some .local)(htb:cr≠bl)(hkf:∀ C,(QK scope cl C env).kindOf sc=some .free)(hcl:cl.lookup sc=some cf)(hcv:s.heap.IsCell cf (some (.int z tz)))
  (hit:∀ Q':Nd->Nh->Prop,Q' (.ref ka) s->Nu (NI prog w) A (QT iter env) Q' E s)(hka:IsTup s.heap ka vs.toArray)(hlen:ps.length=vs.length)(hrow:∀ (i:Nat) (v:Nd) (p:Int×Int),vs[i]?=some v->ps[i]?=some p->yO s.heap v p)
  (hok:∀ p∈ps,Sm 8000 p.1/\Sm 8000 z/\Sm 8000 (p.1*z)/\Sm 8000 p.2/\p.2≠0)(hsz:vs.length<=1000)
  (hs:∀ x,OQ iter env x=pure x)(hd1:(cr==("__debug__":Str))=false)(hd2:(bl==("__debug__":Str))=false)(hd3:(sc==("__debug__":Str))=false)(hd4:(sc==("__classdict__":Str))=false)
  (h:∀ D h' tk' c ys,(∀ b o,s.heap.get? b=some o->h'.get? b=some o)->s.heap.objs.size<=D->Ps ys (wj z ps)->h'.get? D=some { cls:=.type "list",data:=.seq ys.toArray c }->Q (.ref D) { s with heap:=h',toks:=tk' }):
  Nu (NI prog w) A (QT (.ListComp (.BinOp (.BinOp (.Name cr p1) .Mult (.Name sc p2) q1) .FloorDiv (.Name bl p3) q2) [⟨.Tuple [.Name cr px,.Name bl px2] tk tp,iter,[],0⟩] scope pos) env) Q E s:=by
 rw[V1];refine Qq (use:=none) rfl hs hclos hkind hnames (hit _ ?_);have hkl:ka<s.heap.objs.size:=hka.lt;have hkT:s.heap.IsTuple ka vs.toArray:=let ⟨o,a,b,n,d⟩:=hka;⟨o,a,b,n,d⟩
 refine PC hkT ?_;refine N4 (SG hcell (by intro y hy;simp at hy) (λh₁ hns₁ hsb₁=>?_) hkind);dsimp only at hns₁ hsb₁ ⊢;generalize hG:s.heap.push { cls:=.type "tuple_iterator",data:=.fields #[.ref ka,.int 0 0] }=G at hns₁ hsb₁ ⊢;have gs:G.objs.size=s.heap.objs.size+1:=by rw[<- hG,Oe]
 have gI:G.get? s.heap.objs.size=some { cls:=.type "tuple_iterator",data:=.fields #[.ref ka,.int 0 0] }:=hG▸Ng _ rfl;have gk:∀ b o,s.heap.get? b=some o->G.get? b=some o:=λb o e=>hG▸Na _ e
 generalize hH:G.push { cls:=.type "list",dict:=none,data:=.seq ([]:List Nd).toArray }=H2 at hns₁ hsb₁ ⊢;have hs2:H2.objs.size=s.heap.objs.size+2:=by rw[<- hH,Oe,gs]
 have hD2:H2.get? G.objs.size=some { cls:=.type "list",dict:=none,data:=.seq ([]:List Nd).toArray }:=hH▸Ng _ rfl;have hk2:∀ b o,G.get? b=some o->H2.get? b=some o:=λb o e=>hH▸Na _ e
 have old:∀ b o,H2.get? b=some o->h₁.get? b=some o:=λb o e=>hsb₁.extBut b o (NA (Nf e)) (Na _ e)
 have W:=Walks.tuple (prog:=prog) (w:=w) (A:=A) hh s.heap.objs.size ka (NA hkl) vs.toArray;have hzv:vs.toArray.size=vs.length:=by simp
 have ne1:∀ b,b<s.heap.objs.size->b≠s.heap.objs.size/\b≠G.objs.size/\b≠H2.objs.size:=λb hb=>⟨NA hb,by rw[gs];exact NA (OG hb),by rw[hs2];exact NA (OG (OG hb))⟩
 have nDI:G.objs.size≠s.heap.objs.size:=by rw[gs];exact Nat.succ_ne_self _
 have nCI:H2.objs.size≠s.heap.objs.size:=by rw[hs2];exact O8 (OG (Rb _))
 have nCD:H2.objs.size≠G.objs.size:=by rw[hs2,gs];exact Nat.succ_ne_self _
 have kd:∀ C,(QK scope cl C env).scope.kind=.function:=λC=>hkind
 have loop:∀ s3:Nh,s3={ s with heap:=h₁,toks:=s.toks + ([]:List (Str × Nd)).length } ->
   QB (NI prog w) A (.compLoop (.ListComp (.BinOp (.BinOp (.Name cr p1) .Mult (.Name sc p2) q1) .FloorDiv (.Name bl p3) q2) [⟨.Tuple [.Name cr px,.Name bl px2] tk tp,iter,[],0⟩] scope pos) 0 (.ref s.heap.objs.size) (.ref G.objs.size) (QK scope cl H2.objs.size env))
    (compPost (NI prog w) A E none Q (.ref G.objs.size) H2.objs.size) s3:=by
  rintro s3 rfl;refine kj (d:=0) rfl (λn s'=>∃ h' tk' i ys m' c,s'={ s with heap:=h',toks:=tk' }/\i<=vs.length/\n=vs.length-i/\(∀ b o,s.heap.get? b=some o->h'.get? b=some o)/\(h'.IsTupleIter s.heap.objs.size ka i/\h'.IsTuple ka vs.toArray)/\h'.Ns H2.objs.size m' /\
   Ps ys (wj z (ps.take i))/\h'.get? G.objs.size=some { cls:=.type "list",data:=.seq ys.toArray c }) ?_ vs.length
   ⟨h₁,_,0,[],_,0,rfl,Om _,rfl,λb o e=>old b o (hk2 b o (gk b o e)),⟨⟨_,old _ _ (hk2 _ _ gI),rfl,rfl⟩,hkT.at λo e=>old _ _ (hk2 _ _ (gk _ o e))⟩,hns₁,.nil,old _ _ hD2⟩
  rintro n s' ⟨h',tk',i,ys,m',c,rfl,hi,rfl,kp,st,hns,hys,hD⟩
  by_cases hlt:i<vs.length
  ·refine W.item i _ _ _ (by rw[hzv];exact hlt) st λv h2 tk2 hv st2 hk=>?_
   have hv':vs[i]?=some v:=by simpa using hv
   obtain⟨p,hp⟩:∃ p,ps[i]?=some p:=⟨_,N7 (by lia)⟩
   have kp2:∀ b o,s.heap.get? b=some o->h2.get? b=some o:=λb o e=>hk b o (by simpa using (ne1 b (Nf e)).1) (kp b o e)
   obtain⟨a,ta,ub,rfl,hT⟩:=(hrow i v p hv' hp).keeps kp2;obtain⟨oI,eI,cI,dI⟩:=id st2.1;refine zM (s:={ s with heap:=h2,toks:=tk2 }) eI cI dI (by decide) ?_;have hns2:h2.Ns H2.objs.size m':=hns.at' λo e=>hk _ o (by simpa using nCI) e
   have hD2':=hk _ _ (by simpa using nDI) hD;refine Tv (s:={ s with heap:=h2,toks:=tk2 }) hh hT rfl rfl λh5 he=>?_
   have he':∀ b o,h2.get? b=some o->h5.get? b=some o:=λb o e=>he b o (NA (Nf e)) e
   refine QJ (R8 (Ss (Q4 ht) (hns2.at' λo e=>he' _ o e) (λh6 hn6 hs6=>?_) (by simp[QK,relabel,hkind])));refine QJ (R8 (Ss (Q4 hb) hn6 (λh3 hn3 hs3=>?_) (by simp[QK,relabel,hkind])));refine Ub ?_;have old3:∀ b o,b≠H2.objs.size->h2.get? b=some o->h3.get? b=some o:=λb o hb e=>hs3.extBut b o hb (hs6.extBut b o hb (he' b o e))
   have kp3:∀ b o,s.heap.get? b=some o->h3.get? b=some o:=λb o e=>old3 b o (ne1 b (Nf e)).2.2 (kp2 b o e)
   have hD3:=old3 _ _ nCD.symm hD2';refine Nc ?_;rw[NZ rfl];unfold lE;show Nu _ _ (do let _ <- call (.builtin "list.append") [.ref G.objs.size,<- QT (.BinOp (.BinOp (.Name cr p1) .Mult (.Name sc p2) q1) .FloorDiv (.Name bl p3) q2) (QK scope cl H2.objs.size env)]) _ _ _;obtain⟨k1,k2,k3,k4,k5⟩:=hok p (NJ hp);refine KE (wpAny_BinOp (wpAny_BinOp ?_));refine Ro (PM (kd _) (Q4 ht) hn3 (v:=.int p.1 ta) (by simp[htb]) ?_) hd1;refine Ro (Te (kd _) (hkf _) hcl (hcv.keeps kp3) ?_ hd4) hd3;refine mul_int ?_ (UD (NP k1.bits (by decide)) (NP k2.bits (by decide)));refine Ro (PM (kd _) (Q4 hb) hn3 (v:=.int p.2 ub) (by simp) ?_) hd2;refine floordiv_int k5 ?_ (.inl (T7 (by
    by_cases h0:p.2.natAbs=0
    ·rw[h0];decide
    ·exact Nx ((W1 h0).mpr k4) (by decide))))
   have hyl:ys.length=i:=by
    have:=hys.length;unfold wj at this;rw[Ni,N8] at this;lia
   refine KE (append_at (hsz:=by rw[No,hyl];exact ce (by lia)) hD3 λh9 hs9 hD9=>Nc ?_);obtain⟨tt,hD9'⟩:∃ tt,h9.get? G.objs.size=some { cls:=.type "list",data:=.seq (ys++[RH ((p.1*z).fdiv p.2) tt]).toArray (c+1) }:=⟨_,by rw[hD9,V_]⟩
   refine⟨vs.length-(i+1),by lia,h9,_,i+1,ys++[.int ((p.1*z).fdiv p.2) tt],_,c+1,rfl,hlt,rfl,λb o e=>hs9.extBut b o (ne1 b (Nf e)).2.1 (kp3 b o e),?_,hn3.sameBut hs9 nCD,?_,?_⟩
   ·refine⟨st2.1.at λo e=>hs9.extBut _ o nDI.symm (old3 _ o nCI.symm e),st2.2.at λo e=>hs9.extBut _ o (ne1 _ hkl).2.1 (old3 _ o (ne1 _ hkl).2.2 e)⟩
   ·have e2:wj z (ps.take (i+1))=wj z (ps.take i)++[(p.1*z).fdiv p.2]:=by unfold wj;rw[bF hp,Ot];rfl
    rw[e2];exact hys.append (.cons _ _ .nil)
   ·exact hD9'
  ·have ei:i=vs.length:=by lia
   subst ei;refine W.done _ _ _ (by rw[hzv];exact st) λh2 tk2 hk=>?_
   refine⟨m',hns.at' λo e=>hk _ o (by simpa using nCI) e,λh9 hs9=>?_⟩;rw[NR (by lia)] at hys;exact h _ h9 tk2 c ys (λb o e=>hs9.extBut b o (ne1 b (Nf e)).2.2 (hk b o (by simpa using (ne1 b (Nf e)).1) (kp b o e))) (by rw[gs];exact VA _) hys (hs9.extBut _ _ nCD.symm (hk _ _ (by simpa using nDI) hD))
 exact US (loop _ rfl) (W.self 0 _ _ _ ⟨⟨_,old _ _ (hk2 _ _ gI),rfl,rfl⟩,hkT.at λo e=>old _ _ (hk2 _ _ (gk _ o e))⟩ (loop _ rfl))
end
def Gp:List Int->List Int->Bool
 |a::as,b::bs=>if a=b then Gp as bs else decide (a<b)
 |_,_=>false
theorem Gk (l b:Nn) (xs ys:Array Nd) (n n2:Nat) (hsz:xs.size=ys.size) (as bs:List Int) (hx:Ps xs.toList as) (hy:Ps ys.toList bs) (k:Nat) :
  ∀ i:Nat,xs.size-i=k->Meets (PN.«list.__eq__.loop» ⟨[.ref l,.ref b,RL i,RL 0],[]⟩)
   (λ_ R s=>s.heap.get? l=some { cls:=.type "list",dict:=none,data:=.seq xs n,slots:=#[] }/\s.heap.get? b=some { cls:=.type "list",dict:=none,data:=.seq ys n2,slots:=#[] } /\
    R (.ok (.ret (.bool (Gp (as.drop i) (bs.drop i))))) s):=by
 have hla:as.length=xs.size:=by rw[<- hx.length,Oy]
 have hlb:bs.length=ys.size:=by rw[<- hy.length,Oy]
 induction k with
 |zero=>
  intro i hk prog w A R s h;obtain⟨hp,g,d,tk,os⟩:=s;obtain⟨hl,hb,h⟩:=h
  wp_walk using Ob hl,Ob hb
  have hi1:xs[((i:Nat):Int).toNat]?=none:=by simp;lia
  have hi2:ys[((i:Nat):Int).toNat]?=none:=by simp;lia
  rw[UO (by lia),UO (by lia)] at h;rw[hi1,hi2]
  wp_walk using Ob hl,Ob hb
  show R (.ok (.ret (.bool (decide (xs.size<ys.size))))) _;rw[hsz]
  simpa [Gp] using h
 |succ k ih=>
  intro i hk prog w A R s h;obtain⟨hp,g,d,tk,os⟩:=s;obtain⟨hl,hb,h⟩:=h
  wp_walk using Ob hl,Ob hb
  have hlt:i<xs.size:=by lia
  have hlt2:i<ys.size:=by lia
  have hia:i<as.length:=by lia
  have hib:i<bs.length:=by lia
  obtain⟨t1,e1⟩:=hx.get i as[i] (by simp[hia]);obtain⟨t2,e2⟩:=hy.get i bs[i] (by simp[hib]);have hi1:xs[((i:Nat):Int).toNat]?=some (.int as[i] t1):=by simpa using e1
  have hi2:ys[((i:Nat):Int).toNat]?=some (.int bs[i] t2):=by simpa using e2
  have hc:((i:Int)+1)=((i+1:Nat):Int):=by push_cast;rfl
  rw[TJ hia,TJ hib,Gp] at h;rw[hi1,hi2];refine KE (wpAny_eqBool_int ?_)
  by_cases hab:as[i]=bs[i]
  ·rw[NZ hab] at h;rw[hab,Re]
   wp_walk
   rw[hc];exact⟨RK Qy _,P4 Ul (by
    rw[PL Qy _];exact ih (i+1) (by lia) prog w A R _ ⟨hl,hb,h⟩)⟩
  ·rw[NS hab] at h;rw[show(as[i]==bs[i])=false from by simpa using hab]
   wp_walk using Ob hl,Ob hb
   rw[hi1,hi2];refine KE (show Nu _ _ (Pk .Lt _ _) _ _ _ from lt_int ?_)
   wp_walk
   exact h
theorem Fo (l b:Nn) (xs ys:Array Nd) (n n2:Nat) (hsz:xs.size=ys.size) (as bs:List Int) (hx:Ps xs.toList as) (hy:Ps ys.toList bs) :
  Meets (PN.«list.__lt__» ⟨[.ref l,.ref b],[]⟩)
   (λ_ R s=>s.heap.get? l=some { cls:=.type "list",dict:=none,data:=.seq xs n,slots:=#[] }/\s.heap.get? b=some { cls:=.type "list",dict:=none,data:=.seq ys n2,slots:=#[] } /\
    R (.ok (.ret (.bool (Gp as bs)))) s):=by
 intro prog w A R s h;obtain⟨hp,g,d,tk,os⟩:=s;obtain⟨hl,hb,h⟩:=h;have f3:=AutoSeq1.sub_list_list
 wp_walk using Ob hl,Ob hb
 exact⟨RK Qy _,P4 Ul (by
  rw[PL Qy _];exact Gk l b xs ys n n2 hsz as bs hx hy _ 0 rfl prog w A R _ ⟨hl,hb,h⟩)⟩
section
variable {prog:ND}{w:N6}{A:Oa}{E:Nd->Nh->Prop}{s:Nh}
theorem ye {l b:Nn}{xs ys:Array Nd}{n n2:Nat}{as bs:List Int}{Q:Bool->Nh->Prop} (hu:A.units < cLine) (hl:s.heap.get? l=some (OV "list" xs n)) (hb:s.heap.get? b=some (OV "list" ys n2)) (hsz:xs.size=ys.size)
  (hx:Ps xs.toList as)(hy:Ps ys.toList bs)(h:Q (Gp as bs) s):Nu (NI prog w) A (keyLt' oneType' (.ref l) (.ref b)) Q E s:=by
 rw[keyLt'_oneType,oneLt'_eq];simp only[PD];refine KE (wpAny_cRoomFor hu ?_);refine KE (wpAny_callSpecialIfBound?_slot ⟨_,hl,rfl⟩ Vn (R6 Vn ⟨_,hl,rfl⟩ PySem.F.entry_list_lt (PySem.F.args_list_lt_2 _ _) (Fo l b xs ys n n2 hsz as bs hx hy) ⟨hl,hb,?_⟩));exact OT h
end
def Gn {α:Type}(lt:Nat->Nat->Bool):Sk α->α
 |.ret a=>a
 |.ask i j k=>Gn lt (k (lt i j))
def jx {α:Type}(n:Nat)(P:α->Prop):Sk α->Prop
 |.ret a=>P a
 |.ask i j k=>i<n/\j<n/\∀ b,jx n P (k b)
theorem jx.bind {α β:Type}{n:Nat}{P:α->Prop}{P':β->Prop}{f:α->Sk β}:∀ {t:Sk α},jx n P t->(∀ a,P a->jx n P' (f a))->jx n P' (t.bind f)
 |.ret a,h,hf=>hf a h
 |.ask i j k,h,hf=>⟨h.1,h.2.1,λb=>(h.2.2 b).bind hf⟩
theorem jx.run {α:Type}{n:Nat}{P:α->Prop}{lt:Nat->Nat->Bool}:∀ {t:Sk α},jx n P t->P (Gn lt t)
 |.ret a,h=>h
 |.ask i j k,h=>(h.2.2 (lt i j)).run
theorem jx.wp {α:Type}{n:Nat}{P:α->Prop}{lt:Nat->Nat->Bool}{I:Nh->Prop}{cmp:Nat->Nat->(Bool->Nh->Prop)->Nh->Prop}{G:α->Nh->Prop}
  (hc:∀ i j s C,i<n->j<n->I s->(∀ s',I s'->C (lt i j) s')->cmp i j C s):∀ {t:Sk α}{s:Nh},jx n P t->I s->(∀ s',I s'->G (Gn lt t) s')->t.kasWp cmp G s
 |.ret a,s,h,hi,hG=>hG s hi
 |.ask i j k,s,h,hi,hG=>hc i j s _ h.1 h.2.1 hi λs' hi'=>(h.2.2 (lt i j)).wp hc hi' hG
def sP (n:Nat)(p:Array Nat):Prop:=p.Perm (OP n).toArray
theorem sP.lt {n:Nat}{p:Array Nat}(h:sP n p)(hn:0<n)(i:Nat):p.getD i 0<n:=by
 by_cases hi:i<p.size
 ·have e:p.getD i 0=p[i]:=by simp[Array.getD,hi]
  have hm:p[i]∈p.toList:=by simp
  have:=(Tg.mp h).mem_iff.mp hm;rw[e]
  simpa using this
 ·have e:p.getD i 0=0:=by simp[Array.getD,hi]
  rw[e];exact hn
theorem sP.rev {n:Nat}{p:Array Nat}(h:sP n p)(i j:Nat):sP n (PySem.W.kas_rev p i j):=(mirror_perm p i j _).trans h
theorem sP.bub {n:Nat}{p:Array Nat}(h:sP n p)(i j:Nat):sP n (bubble p i j):=(bubble_perm p i j).trans h
theorem rN {n:Nat}(hn:0<n){p:Array Nat}(h:sP n p):∀ f m,jx n (λ_=>True) (PySem.W.kas_asc p f m)
 |0,m=>trivial
 |f+1,m=>⟨h.lt hn _,h.lt hn _,λb=>by cases b<;>first|exact rN hn h f (m+1)|exact trivial⟩
theorem kJ {n:Nat}(hn:0<n):∀ f {p:Array Nat} m q,sP n p->jx n (λr=>sP n r.1) (PySem.W.kas_desc f p m q)
 |0,p,m,q,h=>h
 |f+1,p,m,q,h=>⟨h.lt hn _,h.lt hn _,λb=>by
  cases b
  ·exact⟨h.lt hn _,h.lt hn _,λd=>by
    cases d
    ·exact kJ hn f _ _ h
    ·exact h⟩
  ·show jx n _ (if q>0 then _ else _)
   split
   ·exact kJ hn f _ _ (h.rev _ _)
   ·exact kJ hn f _ _ h⟩
theorem ql {n:Nat}(hn:0<n){p:Array Nat}(h:sP n p)(m k:Nat):jx n (λr=>sP n r.2) (PySem.W.kas_tail3 m k p):=
 (rN hn (h.rev 0 m) _ _).bind λ_ _=>h.rev 0 m
theorem lj {n:Nat}(hn:0<n){p:Array Nat}(h:sP n p)(m k:Nat):jx n (λr=>sP n r.2) (PySem.W.kas_descPart m k p):=by
 refine(kJ hn _ _ _ h).bind λr hr=>?_
 split
 ·exact ql hn (hr.rev _ _) _ _
 ·exact ql hn hr _ _
theorem yV {n:Nat}(hn:0<n){p:Array Nat}(h:sP n p)(k:Nat):jx n (λr=>sP n r.2) (PySem.W.kas_count k p):=by
 refine(rN hn h _ _).bind λm _=>?_
 split
 ·exact h
 ·split
  ·exact⟨h.lt hn _,h.lt hn _,λb=>by
    cases b
    ·exact lj hn (h.rev _ _) _ _
    ·exact h⟩
  ·exact lj hn h _ _
theorem rB {n:Nat}(hn:0<n){p:Array Nat}(h:sP n p)(k:Nat):∀ f l r,jx n (λ_=>True) (Wb p k f l r)
 |0,l,r=>trivial
 |f+1,l,r=>by
  unfold Wb
  split
  ·trivial
  ·exact⟨h.lt hn _,h.lt hn _,λb=>by cases b<;>exact rB hn h k f _ _⟩
theorem wL {n:Nat}(hn:0<n):∀ f {p:Array Nat} k,sP n p->jx n (sP n) (PySem.W.kas_bin f p k)
 |0,p,k,h=>h
 |f+1,p,k,h=>(rB hn h k _ _ _).bind λl _=>wL hn f _ (h.bub _ _)
theorem tj {n:Nat}(hn:0<n):jx n (sP n) (WM n):=by
 refine(yV hn (Array.Perm.refl _) _).bind λr hr=>?_
 split
 ·exact wL hn _ _ hr
 ·exact hr
def Dl (h:OZ)(kS a:Nn)(v:Nd)(k:List Int):Prop:=∃ b ys c,v=.ref b/\b≠kS/\b≠a/\h.get? b=some (OV "list" ys c)/\Ps ys.toList k
def oZ (kz:List (List Int)):List Nat:=if kz.length<2 then OP kz.length else(Gn (λi j=>Gp (kz.getD i []) (kz.getD j [])) (WM kz.length)).toList
theorem kI (kz:List (List Int)):(oZ kz).Perm (OP kz.length):=by
 unfold oZ
 split
 ·exact .refl _
 ·have h:=(tj (n:=kz.length) (by lia)).run (lt:=λi j=>Gp (kz.getD i []) (kz.getD j []));exact Tg.mp h
def Cn (k:List Int)(s₁:Nh)(v:Nd)(s₂:Nh):Prop:=
 ∃ h' tk D ys c,s₂={ s₁ with heap:=h',toks:=tk }/\v=.ref D/\(∀ b o,s₁.heap.get? b=some o->h'.get? b=some o)/\s₁.heap.objs.size<=D/\Ps ys.toList k/\h'.get? D=some (OV "list" ys c)
section
variable {prog:ND}{w:N6}{A:Oa}{E:Nd->Nh->Prop}{s:Nh}{a kS:Nn}{vs:List Nd}{kz:List (List Int)}{P:PySem.Fin->Nh->Prop}
theorem wH {st:SortSt}{keys out:Array Nd}{e e1:Nat} (hka:kS ≠ a) (hk:s.heap.get? kS=some (OV "list" keys e)) (ha:s.heap.get? a=some (OV "list" #[] e1)) (hkz:keys.size < 64) (hoz:out.size < 64)
  (hout:(arrOf st).map (·.2)=out)(hfl:failedOf st=none)
  (h:∀ h' tk c,(∀ b o,b≠a->b≠kS->s.heap.get? b=some o->h'.get? b=some o)->h'.get? a=some (OV "list" out c)->P (.done (.ret .none)) { s with heap:=h',toks:=tk }):
  Nu (NI prog w) A (ksk_tail a false e1 (.ref kS) st) P E s:=by
 have s1:=Ol s.heap kS (Oz λ_=>(#[]:Array Nd));have na1:(s.heap.update kS (Oz λ_=>(#[]:Array Nd))).get? a=some (OV "list" #[] e1):=(s1.2 a hka.symm).trans ha;have s2:=Ol (s.heap.update kS (Oz λ_=>(#[]:Array Nd))) a (Oz λ_=>out);obtain⟨c2,hc2⟩:∃ c2,((s.heap.update kS (Oz λ_=>(#[]:Array Nd))).update a (Oz λ_=>out)).get? a=some (OV "list" out c2):=⟨_,U9 na1 λ_=>out⟩
 unfold ksk_tail
 try dsimp only
 rw[hout];refine KE (Uy hk rfl ?_ (by rw[P5];lia) (Om _));refine KE (PH ?_);refine KE (seqEpoch_at na1 rfl ?_);simp only[NY,Pl];refine KE (Uy na1 rfl ?_ (Om _) (by rw[P5];lia));rw[hfl];simp only[bne_self_eq_false,NY,Pl];exact Nc (h _ _ c2 (λb o n1 n2 q=>(s2.2 b n1).trans ((s1.2 b n2).trans q)) hc2)
theorem Gs {keys:List Nd}{e e1:Nat} (hu:A.units < cLine) (hka:kS ≠ a) (hk:s.heap.get? kS=some (OV "list" keys.toArray e)) (ha:s.heap.get? a=some (OV "list" #[] e1)) (hl:keys.length=vs.length) (hlen:kz.length=vs.length) (h64:vs.length < 64) (h3:∀ k ∈ kz,k.length=3)
  (hkey:∀ (i:Nat) (v:Nd) (k:List Int),keys[i]?=some v->kz[i]?=some k->Dl s.heap kS a v k)
  (h:∀ h' tk c,(∀ b o,b≠a->b≠kS->s.heap.get? b=some o->h'.get? b=some o)->h'.get? a=some (OV "list" ((oZ kz).map λi=>vs.getD i Od).toArray c)->P (.done (.ret .none)) { s with heap:=h',toks:=tk }):
  Nu (NI prog w) A (ksk_end a false vs.toArray e1 (.ref kS) keys.toArray) P E s:=by
 unfold ksk_end
 try dsimp only
 simp only[NY,Pl]
 by_cases h2:vs.toArray.size<2
 ·rw[NZ h2,NZ h2];rw[No] at h2;refine KE (Nc ?_);rw[StateT.run_pure];refine KE (Nc ?_)
  try dsimp only
  refine wH (st:=SortSt.mk' general' (keys.toArray.zip vs.toArray) #[] 7 none) hka hk ha (by rw[No];lia) (out:=((oZ kz).map λi=>vs.getD i Od).toArray) (by rw[No,Ni,(kI kz).length_eq,T5];lia) ?_ rfl h;apply Array.toList_inj.mp;show((keys.toArray.zip vs.toArray).map (·.2)).toList=_;rw[Array.toList_map,ksk_zip];unfold oZ;rw[NZ (by lia),hlen];show List.map Prod.snd (keys.zip vs)=_;rw[List.map_snd_zip (by lia)];refine List.ext_getElem? λi=>?_
  by_cases hi:i<vs.length
  ·simp[hi]
  ·simp[Nat.le_of_not_lt hi]
 ·rw[NS h2,NS h2];rw[No] at h2;have kat:∀ i,i<vs.length->Dl s.heap kS a (keys.getD i Od) (kz.getD i []):=λi hi=>by
   have e1:keys[i]?=some (keys.getD i Od):=by simp[hl,hi]
   have e2:kz[i]?=some (kz.getD i []):=by simp[hlen,hi]
   exact hkey i _ _ e1 e2
  refine KE (PySem.W.kas_kind (T:=.type "list") (by lia) (λv hv=>?_) rfl rfl ?_)
  ·obtain⟨i,hi⟩:=Vl hv;have hi':i<vs.length:=by rw[<- hl];exact(Nt.mp hi).1
   obtain⟨b,ys,c,e,_,_,hb,_⟩:=hkey i v (kz.getD i []) hi (by simp[hlen,hi']);rw[e];exact(Sz hb).andThen .now
  refine KE (Oi (PySem.W.kat_run (G:=λp s'=>s'=s/\p.toList=oZ kz) (Q:=λst' s'=>s'=s/\∃ p:Array Nat,p.toList=oZ kz/\arrOf st'=p.map (PySem.W.kas_item (keys.toArray.zip vs.toArray))/\failedOf st'=none) hl (by lia) h64
   (λp st' s' a1 a2 a3 a4=>⟨a4.1,p,a4.2,a2,a3⟩) ?_) ?_ λ_ _ x=>x)
  ·refine(tj (n:=vs.length) (by lia)).wp (lt:=λi j=>Gp (kz.getD i []) (kz.getD j [])) (I:=λs'=>s'=s) (λi j s' C hi hj e hC=>?_) rfl λs' e=>⟨e,?_⟩
   ·subst e;obtain⟨b,ys,c,e,_,_,hb,hys⟩:=kat i hi;obtain⟨b2,ys2,c2,e2,_,_,hb2,hys2⟩:=kat j hj;unfold PySem.W.kas_ask;rw[e,e2];refine ye hu hb hb2 ?_ hys hys2 (hC _ rfl);have l1:=hys.length;have l2:=hys2.length;rw[Oy] at l1 l2;rw[l1,l2,h3 _ (NJ (show kz[i]?=some (kz.getD i []) by simp[hlen,hi])),h3 _ (NJ (show kz[j]?=some (kz.getD j []) by simp[hlen,hj]))]
   ·unfold oZ;rw[NS (by lia),hlen]
  ·rintro⟨⟨⟩,st'⟩ s' ⟨rfl,p,hp,har,hf⟩
   try dsimp only
   refine wH hka hk ha (by rw[No];lia) (out:=((oZ kz).map λi=>vs.getD i Od).toArray) (by rw[No,Ni,(kI kz).length_eq,T5];lia) ?_ hf h;rw[PySem.W.kat_snds hl har,hp]
theorem DW {f:Nd}{n:Nat} (hu:A.units < cLine) (ho:s.heap.get? a=some (OV "list" vs.toArray n)) (hlen:kz.length=vs.length) (h64:vs.length < 64) (h3:∀ k ∈ kz,k.length=3)
  (iC:∀ (i:Nat) (v:Nd) (k:List Int),vs[i]?=some v->kz[i]?=some k->∀ (h:OZ) (tk:Nat),(∀ b o,b≠a->s.heap.get? b=some o->h.get? b=some o) ->
   Nu (NI prog w) A (call f [v]) (Cn k { s with heap:=h,toks:=tk }) (λ_ _=>False) { s with heap:=h,toks:=tk })
  (h:∀ h' tk c,(∀ b o,b≠a->s.heap.get? b=some o->h'.get? b=some o)->h'.get? a=some (OV "list" ((oZ kz).map λi=>vs.getD i Od).toArray c)->P (.done (.ret .none)) { s with heap:=h',toks:=tk }):
  Nu (NI prog w) A (ksk_tree a f false) P E s:=by
 have ha:a<s.heap.objs.size:=Nf ho;have s1:=Ol s.heap a (Oz λ_=>(#[]:Array Nd));obtain⟨e1,ho1⟩:∃ e1,(s.heap.update a (Oz λ_=>(#[]:Array Nd))).get? a=some (OV "list" #[] e1):=⟨_,U9 ho λ_=>#[]⟩
 have hkS:((s.heap.update a (Oz λ_=>(#[]:Array Nd))).push (OV "tuple" vs.toArray 0)).objs.size=s.heap.objs.size+1:=by rw[size_push',Heap.size_update]
 unfold ksk_tree;refine KE (listItems_at ho rfl ?_);refine KE (Uy ho rfl ?_ (by rw[No,P5];lia) (Om _));refine KE (seqEpoch_at ho1 rfl ?_);refine KE (TW ?_ (by show vs.length<=_;rw[P5];lia));refine KE (Uz ?_ (Om _));refine Ox ?_;show Nu (NI prog w) A _ P E { s with heap:=((s.heap.update a (Oz λ_=>(#[]:Array Nd))).push (OV "tuple" vs.toArray 0)).push (OV "list" #[] 0) };generalize hg:((s.heap.update a (Oz λ_=>(#[]:Array Nd))).push (OV "tuple" vs.toArray 0)).push (OV "list" #[] 0)=g at *;have gk:∀ b o,b≠a->s.heap.get? b=some o->g.get? b=some o:=λb o nb e=>hg▸Na _ (Na _ ((s1.2 b nb).trans e))
 have ga:g.get? a=some (OV "list" #[] e1):=hg▸Na _ (Na _ ho1);have gS:g.get? (s.heap.objs.size+1)=some (OV "list" (#[]:Array Nd) 0):=by rw[<- hg,<- hkS];exact Ng _ rfl
 rw[hkS];have hka:s.heap.objs.size+1≠a:=O8 (OG ha);unfold ksk_rest;refine KE (Qs ?_)
 first
  |rw[List.forIn_toArray]
  |(rw[<- P_];simp only[Vz])
  |rw[<- P_]
 refine KE (ksk_fold (fun i s'=>∃ h' tk ks e,s'={ s with heap:=h',toks:=tk }/\(∀ b o,b ≠ a->s.heap.get? b=some o->h'.get? b=some o)/\h'.get? a=some (OV "list" #[] e1)/\h'.get? (s.heap.objs.size + 1)=some (OV "list" (U3 ks) e)/\ks.length=i /\
   ∀ (j:Nat) (v:Nd) (k:List Int),ks[j]?=some v->kz[j]?=some k->Dl h' (s.heap.objs.size+1) a v k) vs 0 _
  ⟨g,s.toks,[],0,rfl,gk,ga,gS,rfl,λj v k e _=>by simp at e⟩ ?step ?done)
 case step=>
  rintro j x s' hx ⟨h',tk,ks,e,rfl,kp,ha',hS',hkl,hkey⟩;simp only[WC] at hkl ⊢;have hj:j<vs.length:=(Nt.mp hx).1;obtain⟨k,hkj⟩:∃ k,kz[j]?=some k:=⟨_,N7 (by lia)⟩
  refine KE (Pm (Oi (iC j x k hx hkj h' tk kp) (λv s'' he=>?_) λ_ _ hF=>hF.elim));obtain⟨g2,tk2,D,ys,c,rfl,rfl,kk,hD,hys,hgD⟩:=he
  try dsimp only
  have nS:=kk _ _ hS';have s1:=Ol g2 (s.heap.objs.size+1) (Oz (·.push (.ref D)));have ea:(U3 ks).push (NN D)=U3 (ks++[NN D]):=by simp
  obtain⟨c2,hc2⟩:∃ c2,(g2.update (s.heap.objs.size+1) (Oz (·.push (.ref D)))).get? (s.heap.objs.size+1)=some (OV "list" (U3 (ks++[NN D])) c2):=⟨_,by rw[<- ea];exact U9 nS (·.push (.ref D))⟩
  have nD:D≠s.heap.objs.size+1:=O8 (Nx (Nf hS') hD);have nDa:D≠a:=O8 (Nx (Nf ha') hD);refine KE (Uy nS rfl ?_ (by rw[No,P5];lia) (NP (Wv (Array.size_push ..)) (by rw[No,P5];lia)));refine Nc ⟨rfl,_,_,ks++[.ref D],c2,rfl,λb o nb q=>(s1.2 b ?_).trans (kk _ _ (kp b o nb q)),(s1.2 a hka.symm).trans (kk _ _ ha'),hc2,by rw[NL,hkl];rfl,λi v k' hv hk'=>?_⟩
  ·exact NA (OG (Nf q))
  ·by_cases hi:i<ks.length
   ·rw[Pq hi] at hv;obtain⟨b,ys',c',e,n1,n2,hb,hy⟩:=hkey i v k' hv hk';exact⟨b,ys',c',e,n1,n2,(s1.2 b n1).trans (kk _ _ hb),hy⟩
   ·have hie:i=ks.length:=by
     have:=(Nt.mp hv).1;rw[NL,Sg] at this;lia
    subst hie;rw[OU (Nj _),Wz] at hv;cases hv;rw[hkl,hkj] at hk';cases hk';exact⟨D,ys,c,rfl,nD,nDa,(s1.2 D nD).trans hgD,hys⟩
 case done=>
  rintro s' ⟨h',tk,ks,e,rfl,kp,ha',hS',hkl,hkey⟩;rw[WC] at hkl
  try dsimp only
  refine KE (listItems_at hS' rfl ?_);exact Gs hu hka hS' ha' hkl hlen h64 h3 hkey λh3 tk3 c k3 hc=>h h3 tk3 c (λb o nb q=>k3 b o nb (NA (OG (Nf q))) (kp b o nb q)) hc
end
theorem fO {env:Env}:∀ {names:List (Str × QH)}{x:Str},names.lookup x=some .free->env.kindOf x ≠ some .cell ->
  (names.map λ(n,k)=>if(k==Oc&&env.scope.kind==.function&&env.kindOf n==some .cell) then(n,OC) else(n,k)).lookup x=some .free
 |[],_,h,_=>by simp at h
 |(n,k)::r,x,h,hx=>by
  have ih:=@fO env r x;show Rj x ((if(k==Oc&&env.scope.kind==.function&&env.kindOf n==some .cell)=true then(n,OC) else(n,k))::_)=_;cases hn:x==n with
  |true=>
   have e:x=n:=eq_of_beq hn;simp only[Oq,hn] at h;cases h;have hc:¬ (Oc==Oc&&env.scope.kind==.function&&env.kindOf n==some .cell)=true:=by
    rw[<- e];simp only[NO,OH,not_and];exact λ_=>hx
   rw[NS hc];simp[Oq,hn]
  |false=>
   simp only[Oq,hn] at h
   by_cases hc:(k==Oc&&env.scope.kind==.function&&env.kindOf n==some .cell)=true
   ·rw[NZ hc];simp only[Oq,hn];exact ih h hx
   ·rw[NS hc];simp only[Oq,hn];exact ih h hx
abbrev Ga (cr bl sc col:Str)(p1 p2 p3 q1 q2 px px2 tp ci pos:Pos)(tk:Nat)(scope2:Q7):Po:=
 .ListComp (.BinOp (.BinOp (.Name cr p1) .Mult (.Name sc p2) q1) .FloorDiv (.Name bl p3) q2) [⟨.Tuple [.Name cr px,.Name bl px2] tk tp,.Name col ci,[],0⟩] scope2 pos
def zI (scope scope2:Q7)(cr bl sc col:Str):Bool:=scope.kind==.function&&!scope.isCoroutine&&!scope.isGenerator&&scope.names.all (λy=>!(y.2==.cell))&&scope.names.lookup col==some .local&&scope.names.lookup sc==some .free &&
 scope2.kind==.function&&scope2.names.all (λy=>!(y.2==.cell))&&scope2.names.all (λy=>!(y.2==.local)||scope2.names.lookup y.1==some .local)&&scope2.names.lookup cr==some .local&&scope2.names.lookup bl==some .local&&scope2.names.lookup sc==some .free&&scope2.names.all (λy=>!(y.2==.free)||y.1==sc)&&!(cr==bl) &&
 !(cr==("__debug__":Str))&&!(bl==("__debug__":Str))&&!(sc==("__debug__":Str))&&!(sc==("__classdict__":Str))&&!(col==("__debug__":Str))
section
variable {prog:ND}{w:N6}{A:Oa}{E:Nd->Nh->Prop}{s:Nh}
theorem A_ {f c' ka cf:Nn}{qual cr bl sc col:Str}{params:VE}{p1 p2 p3 q1 q2 px px2 tp ci pos:Pos}{tk:Nat}{scope scope2:Q7}{cl:List (Str × Nn)}{pm ctv:Nd}{z:Int}{tz:Tok}{vs:List Nd}{ps:List (Int × Int)}{Q:Nd->Nh->Prop}
  (hh:A.handled=none)(hlim:s.heap.NoLimit)(hroom:A.depth<recursionLimit)(ho:s.heap.get? f=some { cls:=.type "function",data:=.func (Q6 "<lambda>" qual params (Ga cr bl sc col p1 p2 p3 q1 q2 px px2 tp ci pos tk scope2) scope cl pm (.ref c') ctv) })(hcd:s.heap.CodeRec (.ref c') qual)
  (hbind:∀ u,OE (Q6 "<lambda>" qual params (Ga cr bl sc col p1 p2 p3 q1 q2 px px2 tp ci pos tk scope2) scope cl pm (.ref c') ctv) ⟨[u],[]⟩=pure [(col,u)])
  (hck:zI scope scope2 cr bl sc col=true)(hcl:cl.lookup sc=some cf)(hcv:s.heap.IsCell cf (some (.int z tz)))
  (hka:IsTup s.heap ka vs.toArray)(hlen:ps.length=vs.length)(hrow:∀ (i:Nat) (v:Nd) (p:Int×Int),vs[i]?=some v->ps[i]?=some p->yO s.heap v p)
  (hok:∀ p∈ps,Sm 8000 p.1/\Sm 8000 z/\Sm 8000 (p.1*z)/\Sm 8000 p.2/\p.2≠0)(hsz:vs.length<=1000)
  (h:∀ D h' tk' c ys,(∀ b o,s.heap.get? b=some o->h'.get? b=some o)->s.heap.objs.size<=D->Ps ys (wj z ps)->h'.get? D=some { cls:=.type "list",data:=.seq ys.toArray c }->Q (.ref D) { s with heap:=h',toks:=tk' }):
  Nu (NI prog w) A (call (.ref f) [.ref ka]) Q E s:=by
 unfold zI at hck;simp only[NO,Og,OH,V5,UW] at hck;obtain⟨⟨⟨⟨⟨⟨⟨⟨⟨⟨⟨⟨⟨⟨⟨⟨⟨⟨k1,k2⟩,k3⟩,k4⟩,k5⟩,k6⟩,k7⟩,k8⟩,k9⟩,k10⟩,k11⟩,k12⟩,k13⟩,k14⟩,k15⟩,k16⟩,k17⟩,k18⟩,k19⟩:=hck;refine QX (Vo hroom ho rfl k2 k3 rfl hcd ?_);rw[hbind];refine Nc (SG (λx hx e=>by have:=k4 x hx;rw[e] at this;cases this) (λx hx=>?_) (λh₁ hns hsb=>⟨hlim.fresh _ hsb,Vp ?_⟩) k1)
 ·cases Nm.mp hx;exact k5
 have hk₁:∀ b o,s.heap.get? b=some o->h₁.get? b=some o:=λb o e=>hsb.extBut b o (NA (Nf e)) (Na _ e)
 have hz₁:s.heap.objs.size<=h₁.objs.size:=PV hns.lt;have hfree2:∀ y∈scope2.names,y.2=.free->∃ c,cl.lookup y.1=some c:=λy hy e=>by
  rcases k13 y hy with q|q
  ·rw[e] at q;cases q
  ·rw[q];exact⟨cf,hcl⟩
 have hcl2:(pW cl scope2.names []).lookup sc=some cf:=by
  have mem:(sc,Oc)∈scope2.names:=iU k12;obtain⟨c2,e2⟩:=f7 (cells:=cl) (names:=scope2.names) (acc:=[]) (x:=sc) (.inr mem);rcases dO hfree2 e2 with z|⟨_,z⟩
  ·cases z
  ·rw[hcl] at z;cases z;exact e2
 refine FT (s:={ s with heap:=h₁,toks:=_ }) (ka:=ka) (z:=z) (tz:=tz) (vs:=vs) (ps:=ps) (cl:=pW cl scope2.names []) (cf:=cf) hh (ni hfree2) (λy hy e=>by have:=k8 y hy;rw[e] at this;cases this) k7
  (λy hy e=>by rcases k9 y hy with q|q;(rw[e] at q;cases q);exact q) k10 k11 (by simpa using k14) (λC=>fO k12 ?_) hcl2 (hcv.keeps hk₁) (λQ' hq=>?_) ?_ hlen (λi v p h1 h2=>(hrow i v p h1 h2).keeps hk₁) hok hsz (by intro _;rfl) k15 k16 k17 k18 λD h' tk' c ys kk hD hy hg=>?_
 ·show scope.names.lookup sc≠_;rw[k6];exact λe=>nomatch e
 ·refine Ro (PM k1 ?_ hns (v:=.ref ka) ?_ hq) k19
  ·exact k5
  ·simp
 ·obtain⟨o,e,q⟩:=hka;exact⟨o,hk₁ _ _ e,q⟩
 ·exact h D h' tk' c ys (λb o e=>kk b o (hk₁ b o e)) (NP hz₁ hD) hy hg
theorem Fu {l:Nn}{vs:List Nd}{kz:List (List Int)}{f:Nd}{kw:List (Str × Nd)}{Q:Nd->Nh->Prop}
  (hu:A.units+2<cLine)(hl:s.heap.IsList l vs.toArray)(hlen:kz.length=vs.length)(h64:vs.length<64)(h3:∀ k∈kz,k.length=3)
  (ha1:Vs "sorted" ⟨[.ref l],kw⟩)(ha2:∀ x,Vs "list.sort" ⟨[.ref x],kw⟩)(ht:∀ x,PN.«list.sort» ⟨[.ref x],kw⟩=ksk_tree x f false)
  (iC:∀ (i:Nat) (v:Nd) (k:List Int),vs[i]?=some v->kz[i]?=some k->∀ (h:OZ) (tk:Nat),(∀ b o,s.heap.get? b=some o->h.get? b=some o) ->
   Nu (NI prog w) A.in1.in1 (call f [v]) (Cn k { s with heap:=h,toks:=tk }) (λ_ _=>False) { s with heap:=h,toks:=tk })
  (h:∀ D h' tk c,(∀ b o,s.heap.get? b=some o->h'.get? b=some o)->s.heap.objs.size<=D->h'.get? D=some (OV "list" ((oZ kz).map λi=>vs.getD i Od).toArray c)->Q (.ref D) { s with heap:=h',toks:=tk }):
  Nu (NI prog w) A (call (.builtin "sorted") [.ref l] kw) Q E s:=by
 refine UR kind_sorted plain_sorted entry_sorted ha1 ?_;unfold PN.«sorted»;refine KE (m:=checkCount "sorted" 1 1 _) (Nc ?_);refine KE (collect_list hl ?_ (by rw[P5];lia));refine KE (Uz ?_ (by rw[P5];lia));have hsz:((s.heap.push (OV "list" #[] 0)).update s.heap.objs.size (Oz (·++vs.toArray))).objs.size=s.heap.objs.size+1:=by
  rw[Heap.size_update,size_push']
 have hoL:(((s.heap.push (OV "list" #[] 0)).update s.heap.objs.size (Oz (·++vs.toArray))).push (OV "list" vs.toArray 0)).get? (s.heap.objs.size+1)=some (OV "list" vs.toArray 0):=by
  rw[<- hsz];exact Ng _ rfl
 have keep:∀ b o,s.heap.get? b=some o->(((s.heap.push (OV "list" #[] 0)).update s.heap.objs.size (Oz (·++vs.toArray))).push (OV "list" vs.toArray 0)).get? b=some o:=λb o q=>by
  have hlt:b<s.heap.objs.size:=Nf q;rw[V7 _ _ _ (by rw[hsz];exact NA (OG hlt)),Heap.get?_update_ne _ _ _ _ (NA hlt),V7 _ _ _ (NA hlt)];exact q
 have nD:∀ b o,s.heap.get? b=some o->b≠s.heap.objs.size+1:=λb o q=>NA (OG (Nf q))
 show Nu _ _ _ _ _ { s with heap:=((s.heap.push (OV "list" #[] 0)).update s.heap.objs.size (Oz (·++vs.toArray))).push (OV "list" vs.toArray 0) };rw[hsz];refine KE (Ox (wpAny_call_entry_kw slot_list_sort ⟨_,hoL,rfl⟩ entry_list_sort ?body (ha2 _)))
 case body=>
  have ht':=ht (s.heap.objs.size+1);show Nu (NI prog w) A.in1.in1 (PN.«list.sort» ⟨[.ref (s.heap.objs.size+1)],kw⟩) _ _ _;rw[ht'];refine DW (s:={ s with heap:=((s.heap.push (OV "list" #[] 0)).update s.heap.objs.size (Oz (·++vs.toArray))).push (OV "list" vs.toArray 0) }) (kz:=kz) hu hoL hlen h64 h3
   (λi v k hv hk g tk kp=>iC i v k hv hk g tk λb o e=>kp b o (nD b o e) (keep b o e)) λh' tk c kp hD=>⟨_,rfl,Nc ⟨_,rfl,h _ h' tk c (λb o e=>kp b o (nD b o e) (keep b o e)) (VA _) hD⟩⟩
end
def mF (c:Q3):List (Int×Int):=[(c.a.num,(c.a.den:Int)),(c.b.num,(c.b.den:Int)),(c.c.num,(c.c.den:Int))]
def II (z:Int)(c:Q3):List Int:=wj z (mF c)
def ET (z:Int)(xs:List (Q3×Nn)):List (Q3×Nn):=(oZ (xs.map λp=>II z p.1)).filterMap (xs[·]?)
theorem pA {α:Type}(xs:List α):(OP xs.length).filterMap (xs[·]?)=xs:=by
 induction xs with
 |nil=>rfl
 |cons x xs ih=>
  rw[N5,List.range_succ_eq_map,T2 (by rfl:(x::xs)[0]?=some x),VL]
  congr 1
theorem Bi (z:Int)(xs:List (Q3×Nn)):(ET z xs).Perm xs:=by
 have h:=((kI (xs.map λp=>II z p.1)).filterMap (xs[·]?))
 rw[Ni,pA] at h;exact h
theorem EB {xs:List V}{us:List Nd}{i:Nat}{x:V}{u:Nd}(r:aM xs us)(h1:xs[i]?=some x)(h2:us[i]?=some u):bj x u:=by
 obtain⟨u',e,q⟩:=r.get h1;rw[h2] at e;cases e;exact q
theorem tO {vs:List Nd}{xs:List (Q3×Nn)}(h:aM (xs.map λp=>V.ref p.2) vs):∀ (l:List Nat),(∀ i∈l,i<xs.length)->aM ((l.filterMap (xs[·]?)).map λp=>V.ref p.2) (l.map λi=>vs.getD i Od)
 |[],_=>.nil
 |i::l,hl=>by
  have hi:=hl i NC;have hv:vs.length=xs.length:=by rw[<- h.length,Ni]
  have e:xs[i]?=some xs[i]:=by simp[hi]
  rw[T2 e,NE,NE];refine .cons ?_ (tO h l λj hj=>hl j (Nr _ hj));have e2:vs[i]?=some (vs.getD i Od):=by simp[hv,hi]
  exact EB h (by rw[NB,e];rfl) e2
section
variable {P:ND}{w:N6}{H:Hp}{h:OZ}{K:HD}
theorem xR {q:Rat}{v:V}{u:Nd}(ok:jl P w H h)(hq:aw K H (rD q) v)(ru:bj v u):yO h u (q.num,(q.den:Int)):=by
 obtain⟨a,rfl,ha⟩:=dm hq;cases ru;obtain⟨_,its,r,o,g1,g2,n,g3⟩:=(show bA P w H h a (.tup [.int q.num,.int q.den]) from ok a _ ha)
 obtain⟨u1,u2,rfl,⟨t1,r1⟩,⟨t2,r2⟩⟩:=jW r;subst r1 r2;exact⟨a,t1,t2,rfl,o,g1,g2,n,g3⟩
theorem IK {c:Q3}{ka:Nn}(ok:jl P w H h)(hc:aw K H c.col (.ref ka)):∃ vs:List Nd,IsTup h ka vs.toArray/\vs.length=3/\∀ (i:Nat) (v:Nd) (p:Int×Int),vs[i]?=some v->(mF c)[i]?=some p->yO h v p:=by
 cases hc with
 |tup e q=>
  obtain⟨x,y,z,rfl,h1,h2,h3⟩:=cV q;obtain⟨_,its,r,o,g1,g2,n,g3⟩:=(show bA P w H h ka (.tup [x,y,z]) from ok ka _ e)
  obtain⟨u1,u2,u3,rfl,r1,r2,r3⟩:=EL r;refine⟨[u1,u2,u3],⟨o,g1,g2,n,g3⟩,rfl,λi v p hv hp=>?_⟩
  match i,hv,hp with
  |0,hv,hp=>cases hv;cases hp;exact xR ok h1 r1
  |1,hv,hp=>cases hv;cases hp;exact xR ok h2 r2
  |2,hv,hp=>cases hv;cases hp;exact xR ok h3 r3
  |n+3,hv,_=>simp at hv
end
def Ic (K:HD)(i:Nat)(P:Nn)(q:Str)(tr:TE):TE:=λσ H Q=>tr σ H λx H1=>∃ (l:Nn) (xs:List (Q3×Nn)) (z:Int),x=.ref l/\bI K H1 l (xs.map λp=>.ref p.2)/\(∀ p∈xs,aw K H1 p.1.col (.ref p.2))/\xs.length<64/\σ[i]?=some (some (.int z)) /\
 (∀ p∈xs,∀ r∈mF p.1,Sm 8000 r.1/\Sm 8000 z/\Sm 8000 (r.1*z)/\Sm 8000 r.2)/\H1 P=some (zG q)/\∀ (H2:Hp) (D:Nn),ae H1 H2->H2 D=none->Q (.ref D) (upd H2 D (.lst ((ET z xs).map λp=>.ref p.2)))
section
variable {X:Cx}{K:HD}
theorem Ba {c P:Nn}{i k:Nat}{cr bl sc col:Str}{er:Po}{tr:TE}{params:VE}{scope scope2:Q7}{p1 p2 p3 q1 q2 px px2 tp ci lpos lp p pos kp1:Pos}{tk:Nat} (hK:X.K=K) (hc:X.calm=true) (hu:X.A.units + 2 < cLine) (hr:Room k X.A) (hg:Gl X "sorted") (hm:X.mg "sorted"=none)
  (hcode:X.env.code=.ref c)(hcd:∀ h,K.In h->Sa h c P)(hN:X.N[i]?=some sc)(hv:X.env.kindOf sc=some .cell)(he:WE X er tr)
  (hst:NG [er] X.env=[(false,QT er X.env)]:=by rfl)
  (hck:zI scope scope2 cr bl sc col=true:=by decide +kernel)(hfr:(scope.names.all λy=>!(y.2==.free)||(X.env.cells.lookup y.1).isSome)=true:=by rfl)(hdef:defaultsOf params X.env=([],[]):=by rfl)
  (hbind:∀ qual cl pm cd ctv u,OE (Q6 "<lambda>" qual params (Ga cr bl sc col p1 p2 p3 q1 q2 px px2 tp ci lpos tk scope2) scope cl pm cd ctv) ⟨[u],[]⟩=pure [(col,u)]:=by intros;rfl):
  WE X (.Call (.Name "sorted" p) [er] [⟨some "key",.Lambda params (Ga cr bl sc col p1 p2 p3 q1 q2 px px2 tp ci lpos tk scope2) scope lp,kp1⟩] pos) (Ic K i P (X.env.qual++"<lambda>") tr):=by
 have he:=he.go;refine⟨?_⟩;subst hK;have hfree:∀ y∈scope.names,y.2=.free->∃ c,X.env.cells.lookup y.1=some c:=λy hy e=>by
  rw[Og] at hfr;have:=hfr y hy;rw[e] at this;exact O9.mp (by simpa using this)
 have k6:scope.names.lookup sc=some .free:=by
  unfold zI at hck;simp only[NO,OH] at hck;exact hck.1.1.1.1.1.1.1.1.1.1.1.1.1.2
 intro pins s σ H Q I h;refine OA (iE I hg hm tK ?_);refine callWith_kw (env:=X.env) (he:=by rw[hst];rfl) (hplain:=by rw[hst];rfl) (bM ((pT he uL hst) pos pins s σ H (λvs H1=>match vs with
  |[x]=>∃ (l:Nn) (xs:List (Q3×Nn)) (z:Int),x=.ref l/\bI X.K H1 l (xs.map λp=>.ref p.2)/\(∀ p∈xs,aw X.K H1 p.1.col (.ref p.2))/\xs.length<64/\σ[i]?=some (some (.int z)) /\
   (∀ p∈xs,∀ r∈mF p.1,Sm 8000 r.1/\Sm 8000 z/\Sm 8000 (r.1*z)/\Sm 8000 r.2)/\H1 P=some (zG (X.env.qual++"<lambda>"))/\∀ (H2:Hp) (D:Nn),ae H1 H2->H2 D=none->Q (.ref D) (upd H2 D (.lst ((ET z xs).map λp=>.ref p.2)))
  |_=>False) I h) λus s1 ⟨vs,H1,I1,r1,q1⟩=>?_)
 match vs,r1,q1 with
 |[x],r1,q1=>
  obtain⟨l,xs,z,rfl,hl,hxs,hn,hσ,hb,hP,q⟩:=q1;obtain⟨u,rfl,ru⟩:=fN r1;cases ru;refine kws_cons (vH I1 hcode hcd hP hfree hdef λfa c' pm ctv H2 s2 I2 sm ho hrec=>?_);refine kws_nil ?_;show Nu _ _ (call (.builtin "sorted") [.ref l] [(Oo "key",.ref fa)]) _ _ s2;obtain⟨m,hnm,hloc⟩:=id I2.loc;obtain⟨w,rw',lk⟩:=hloc i sc (.int z) hN hσ (.inr (.inl hv));obtain⟨tz,rfl⟩:=rw';obtain⟨cf,ecf,hcell⟩:∃ cf,X.env.cells.lookup sc=some cf/\s2.heap.IsCell cf (some (.int z tz)):=by
   rcases lk with ⟨z,_⟩|⟨_,cf,e,z⟩
   ·rw[hv] at z;cases z
   ·exact⟨cf,e,z⟩
  have hcl:(pW X.env.cells scope.names []).lookup sc=some cf:=by
   have mem:(sc,Oc)∈scope.names:=iU k6;obtain⟨c2,e2⟩:=f7 (cells:=X.env.cells) (names:=scope.names) (acc:=[]) (x:=sc) (.inr mem);rcases dO hfree e2 with z|⟨_,z⟩
   ·cases z
   ·rw[ecf] at z;cases z;exact e2
  obtain⟨its,rv,pl,_⟩:=I2.list (sm.seq hl);have hil:its.length=xs.length:=by rw[<- rv.length,Ni]
  have rm:=hr.dp;refine Fu (vs:=its) (kz:=xs.map λp=>II z p.1) hu pl.isList (by rw[Ni,hil]) (by lia) (λk hk=>?_) (ksk_s1 _ _) (λx=>ksk_l1 _ _) (λx=>ksk_t1 _ _) (λj v k hv hk g tk kp=>?_) λD h' tk cc kp hD hgD=>?_
  ·obtain⟨p,_,rfl⟩:=Ov.mp hk;rfl
  ·rw[NB] at hk;obtain⟨p,hp,rfl⟩:=Nz.mp hk;have e1:=EB rv (by rw[NB,hp];rfl) hv;cases e1;have hpm:=NJ hp;have I3:aD X pins σ H2 { s2 with heap:=g,toks:=tk }:=I2.kept (t':=tk) kp;obtain⟨cs,ht,hcs,hrw⟩:=IK I3.hok (aw.same sm (hxs p hpm));obtain⟨c2,o2,vs2,t2,ec,g1,g2,g3⟩:=id hrec;cases ec;refine A_ (s:={ s2 with heap:=g,toks:=tk }) (vs:=cs) (ps:=mF p.1) (z:=z) (tz:=tz) (I2.ok.hd hc) (I3.ok.mod.nolimit.keeps λb o e=>kp b o (I2.bk b o e)) (by show X.A.depth<recursionLimit;lia) (kp _ _ ho) ⟨_,o2,vs2,t2,rfl,kp _ _ g1,g2,g3⟩ (λu=>hbind _ _ _ _ _ u)
    hck hcl (hcell.keeps kp) ht (by rw[hcs];rfl) hrw (λr hr'=>?_) (by lia) λD h' tk' c ys kk hD hy hg=>?_
   ·obtain⟨b1,b2,b3,b4⟩:=hb p hpm r hr';refine⟨b1,b2,b3,b4,?_⟩;unfold mF at hr';simp only[Nl,NH,OY] at hr';rcases hr' with rfl|rfl|rfl
    ·exact TY.mpr (Rat.den_nz _)
    ·exact TY.mpr (Rat.den_nz _)
    ·exact TY.mpr (Rat.den_nz _)
   ·exact⟨h',tk',D,ys.toArray,c,rfl,rfl,kk,hD,by rw[Vz];exact hy,hg⟩
  ·refine⟨.ref D,_,I2.laid (a:=D) (o:=.lst ((ET z xs).map λp=>.ref p.2)) (t':=tk) kp hD ⟨?_,_,cc,tO rv _ (λj hj=>?_),hgD⟩,rfl,q H2 D sm (I2.hok.fresh hD)⟩
   ·rw[Ni,(Bi z xs).length_eq];exact ce (by lia)
   ·have:=(kI _).mem_iff.mp hj;rw[Ni] at this
    simpa using this
end
theorem _root_.L2.Room.u2 {k:Nat}(r:Room k A):A.units+2<cLine:=Qb (by lia) r.units
def dB (e:Q3):Int:=cM [e.a,e.b,e.c]
def dR (e:Q3)(r:R3):R3:=⟨ov (dB e) e.a-r.a*dB e,ov (dB e) e.b-r.b*dB e,ov (dB e) e.c-r.c*dB e⟩
def Bz (e:Q3)(r:R3)(s:S9):Q3:=⟨((dR e r).dot s.c0:Rat)/((s.det*dB e:Int):Rat),((dR e r).dot s.c1:Rat)/((s.det*dB e:Int):Rat),((dR e r).dot s.c2:Rat)/((s.det*dB e:Int):Rat)⟩
def Kb (q:Q3):Bool:=!([decide (1<q.a),decide (q.a<q.b),decide (q.b<q.c),decide (q.c<0)].any id)
theorem yd {k:Nat}{e:Q3}(h:e.Bd k):∀ p∈[e.a,e.b,e.c],Bq k p:=λp hp=>by
 simp only[Nl,NH,OY] at hp;rcases hp with rfl|rfl|rfl
 ·exact h.a
 ·exact h.b
 ·exact h.c
theorem Db {e:Q3}(h:e.Bd 250):0<dB e/\Sm 751 (dB e):=by
 obtain⟨B0,BS⟩:=gm (yd h) 3 (Nj _);exact⟨B0,BS⟩
theorem zm {e:Q3}{r:R3}(h:e.Bd 250)(hr:r.In 4000):Sm 1002 (dR e r).a/\Sm 1002 (dR e r).b/\Sm 1002 (dR e r).c:=by
 have hB:=(Db h).2;have ho:∀ p∈[e.a,e.b,e.c],Sm 1001 (ov (dB e) p):=λp hp=>DX (yd h) hp
 refine⟨((ho e.a (by simp)).sub (((jv hr.a1 hr.a2).mul hB).mono (by decide))).mono (by decide),((ho e.b (by simp)).sub (((jv hr.b1 hr.b2).mul hB).mono (by decide))).mono (by decide),((ho e.c (by simp)).sub (((jv hr.c1 hr.c2).mul hB).mono (by decide))).mono (by decide)⟩
theorem BX {x:Int}(h1:-200000000<=x)(h2:x<=200000000):Sm 30 x:=by unfold Sm;lia
theorem yf {e:Q3}{r c:R3}(h:e.Bd 250)(hr:r.In 4000)(hc:c.In 200000000):Sm 1035 ((dR e r).dot c):=by
 obtain⟨a1,a2,a3⟩:=zm h hr;unfold R3.dot;exact(Sm.add (Sm.add (a1.mul (BX hc.a1 hc.a2)) (a2.mul (BX hc.b1 hc.b2))) ((a3.mul (BX hc.c1 hc.c2)).mono (by decide))).mono (by decide)
theorem GJ {e:Q3}{s:S9}(h:e.Bd 250)(hs:s.In)(hd:s.det≠0):s.det*dB e≠0/\Sm 811 (s.det*dB e):=by
 obtain⟨b1,b2⟩:=Db h;exact⟨Pf hd (by lia),((CJ hs).mul b2).mono (by decide)⟩
theorem HE {e:Q3}{r:R3}{s:S9}(h:e.Bd 250)(hr:r.In 4000)(hs:s.In)(hd:s.det≠0):(Bz e r s).Bd 1035:=by
 obtain⟨z0,z1⟩:=GJ h hs hd;exact⟨fR z0 (yf h hr (gC hs.y hs.z)) (z1.mono (by decide)),fR z0 (yf h hr (gC hs.z hs.x)) (z1.mono (by decide)),fR z0 (yf h hr (gC hs.x hs.y)) (z1.mono (by decide))⟩
theorem Fp (r c:R3):(QN (·*·) [r.a,r.b,r.c] [c.a,c.b,c.c]).sum=r.dot c:=by
 show r.a*c.a+(r.b*c.b+(r.c*c.c+0))=r.a*c.a+r.b*c.b+r.c*c.c;lia
def lY (t:Kn)(o:Nat×Nat×Nat)(q:Q3)(ap:Int):Nat->List Rat
 |0=>[0,0,0]
 |i+1=>(lY t o q ap i).set (mD o i) (((((Lr t).getD (mD o i) 0:Int):Rat)/((1:Int):Rat)+[q.a,q.b,q.c].getD i 0)*((ap:Rat)/((1:Int):Rat)))
theorem mJ (t:Kn)(o:Nat×Nat×Nat)(q:Q3)(ap:Int):∀ i,(lY t o q ap i).length=3
 |0=>rfl
 |i+1=>by rw[lY,SW];exact mJ t o q ap i
theorem ut:∀ rs:List Rat,iK (rs.map rD)=true
 |[]=>rfl
 |r::rs=>by
  show(sG (rD r)&&iK (rs.map rD))=true;rw[ut rs];rfl
theorem w_ {K:HD}{H:Hp}{d:NQ}{v:V}(h:aw K H d v):∀ {ds:List NQ}{vs:List V} (i:Nat),av K H ds vs->av K H (ds.set i d) (vs.set i v)
 |_,_,_,.nil=>.nil
 |_,_,0,.cons _ r=>.cons h r
 |_,_,i+1,.cons x r=>.cons x (w_ h i r)
theorem Jy {t:Kn}{r:Nat}(hr:r<3):(fZ t)[r]?=some (.int ((Lr t).getD r 0)):=by
 match r,hr with
 |0,_=>rfl
 |1,_=>rfl
 |2,_=>rfl
theorem CQ {t:Kn}{r:Nat}(t1:t.1<64)(t2:t.2.1<64)(t3:t.2.2<64):Sm 7 ((Lr t).getD r 0):=by
 match r with
 |0=>show Sm 7 (t.1:Int);unfold Sm;lia
 |1=>show Sm 7 (t.2.1:Int);unfold Sm;lia
 |2=>show Sm 7 (t.2.2:Int);unfold Sm;lia
 |n+3=>show Sm 7 (0:Int);unfold Sm;decide
theorem zJ {t:Kn}{o:Nat×Nat×Nat}{q:Q3}{ap:Int}(t1:t.1<64)(t2:t.2.1<64)(t3:t.2.2<64)(bq:q.Bd 1035)(a0:0<=ap)(a1:ap<=60):∀ i,∀ r∈lY t o q ap i,Bq 1060 r
 |0,r,h=>by
  unfold lY at h;simp only[Nl,NH,OY,or_self] at h;rw[h];exact Ok.mono L5 (by decide)
 |i+1,r,h=>by
  unfold lY at h;rcases List.mem_or_eq_of_mem_set h with h|h
  ·exact zJ t1 t2 t3 bq a0 a1 i r h
  ·rw[h];have o7:Sm 7 (1:Int):=by unfold Sm;decide
   have bi:Bq 1035 ([q.a,q.b,q.c].getD i 0):=by
    match i with
    |0=>exact bq.a
    |1=>exact bq.b
    |2=>exact bq.c
    |n+3=>exact Ok.mono L5 (by decide)
   exact Ok.mono (Bq.mul (Bq.add (fR (by decide) (CQ t1 t2 t3) o7) bi) (fR (by decide) (show Sm 7 ap by unfold Sm;lia) o7)) (by decide)
def M3 (l:List Rat):Q3:=⟨l.getD 0 0,l.getD 1 0,l.getD 2 0⟩
def EY (t:Kn)(o:Nat×Nat×Nat)(q:Q3)(ap:Int):Q3:=M3 (lY t o q ap 3)
theorem Ik (t:Kn)(o:Nat×Nat×Nat)(q:Q3)(ap:Int):(lY t o q ap 3).map rD=(EY t o q ap).ds:=by
 unfold EY;have h:=mJ t o q ap 3;generalize lY t o q ap 3=l at h
 match l,h with
 |[x,y,z],_=>rfl
theorem Js {t:Kn}{o:Nat×Nat×Nat}{q:Q3}{ap:Int}(t1:t.1<64)(t2:t.2.1<64)(t3:t.2.2<64)(bq:q.Bd 1035)(a0:0<=ap)(a1:ap<=60):(EY t o q ap).Bd 1060:=by
 unfold EY;have h:=mJ t o q ap 3;have b:=zJ (o:=o) t1 t2 t3 bq a0 a1 3;generalize lY t o q ap 3=l at h b
 match l,h,b with
 |[x,y,z],_,b=>exact⟨b x (by simp),b y (by simp),b z (by simp)⟩
def vE (n:Nat)(f:Kn->R3)(e:Q3)(p:Kn×(Nat×Nat×Nat)):Option Q3:=
 if(oO f p).det=0 then none else if Kb (Bz e (f (aF p.1 (lg p.2 0))) (oO f p))=true then some (EY p.1 p.2 (Bz e (f (aF p.1 (lg p.2 0))) (oO f p)) (pY n)) else none
theorem Ki {r:R3}(h:r.Wt):r.In 4000:=by
 obtain⟨a0,a1,b0,b1,c0,c1⟩:=h;refine⟨?_,?_,?_,?_,?_,?_⟩<;>lia
theorem KS {n:Nat}(h2:2<=n)(h7:n<=7):0<=pY n/\pY n<=60:=by
 unfold pY
 match n,h2,h7 with
 |2,_,_=>decide
 |3,_,_=>decide
 |4,_,_=>decide
 |5,_,_=>decide
 |6,_,_=>decide
 |7,_,_=>decide
def qh (xs:List (Q3×Nn)):List Int:=xs.flatMap λp=>(mF p.1).map (·.2)
theorem Ax (xs:List (Q3×Nn))(p:Q3×Nn):qh (xs++[p])=qh xs++(mF p.1).map (·.2):=by unfold qh;rw[Qx];simp
def MS (xs:List (Q3×Nn))(z:Int):Prop:=∃ m:Int,z=m^2/\1<=m/\∀ r∈qh xs,r<=m
theorem Fn {k:Nat}{xs:List (Q3×Nn)}(h:∀ p∈xs,p.1.Bd k):∀ r∈qh xs,1<=r/\Sm k r:=λr hr=>by
 unfold qh at hr;obtain⟨p,hp,hr⟩:=Q_.mp hr;have b:=h p hp;have pos:∀ q:Rat,1<=(q.den:Int):=λq=>by have:=q.den_pos;lia
 simp only[mF,NE,PU,Nl,NH,OY] at hr;rcases hr with rfl|rfl|rfl
 ·exact⟨pos _,b.a.sd⟩
 ·exact⟨pos _,b.b.sd⟩
 ·exact⟨pos _,b.c.sd⟩
theorem vO (xs:List (Q3×Nn)):(qh xs).length=3*xs.length:=by
 unfold qh
 induction xs with
 |nil=>rfl
 |cons p xs ih=>rw[V',NL,ih,N5];show 3+_=_;lia
theorem Fk {k:Nat}{ns:List Int}{m:Int}(h1:Sm k 1)(hp:∀ n∈ns,1<=n/\Sm k n)(h:(ns=[]/\m=1)\/(m∈ns/\∀ x∈ns,x<=m)):1<=m/\Sm k m/\∀ r∈ns,r<=m:=by
 rcases h with ⟨e,rfl⟩|⟨hm,hx⟩
 ·exact⟨WU _,h1,λr hr=>(by rw[e] at hr;cases hr)⟩
 ·exact⟨(hp m hm).1,(hp m hm).2,hx⟩
theorem Cs {K:HD}{H:Hp}{c:Q3}{a:Nn}(h:aw K H c.col (.ref a)):∃ x y z:Nn,H a=some (.tup [.ref x,.ref y,.ref z])/\∀ (j:Nat) (v:V) (r:Int×Int),([.ref x,.ref y,.ref z]:List V)[j]?=some v->(mF c)[j]?=some r->∃ b,v=.ref b/\H b=some (.tup [.int r.1,.int r.2]):=by
 cases h with
 |tup e q=>
  obtain⟨x,y,z,rfl,h1,h2,h3⟩:=cV q;obtain⟨a1,rfl,k1⟩:=dm h1;obtain⟨a2,rfl,k2⟩:=dm h2;obtain⟨a3,rfl,k3⟩:=dm h3;refine⟨a1,a2,a3,e,λj v r hv hr=>?_⟩
  match j,hv,hr with
  |0,hv,hr=>cases hv;cases hr;exact⟨_,rfl,k1⟩
  |1,hv,hr=>cases hv;cases hr;exact⟨_,rfl,k2⟩
  |2,hv,hr=>cases hv;cases hr;exact⟨_,rfl,k3⟩
  |n+3,hv,_=>simp at hv
def eJ (H H':Hp):Prop:=∀ b o,H b=some o->(∀ f,o≠.ext f)->H' b=some o
theorem eJ.put {H:Hp}{d:Nn}{f:OZ->Prop}{o':HO}(h:H d=some (.ext f)):eJ H (upd H d o'):=λb o e n=>by
 rw[az (λz=>by rw[z,h] at e;cases e;exact n _ rfl)];exact e
theorem eJ.refl (H:Hp):eJ H H:=λ_ _ e _=>e
theorem eJ.trans {H H' H'':Hp}(a:eJ H H')(b:eJ H' H''):eJ H H'':=λc o e n=>b c o (a c o e n) n
theorem sE {H H':Hp}(s:ae H H'):eJ H H':=λb o e _=>s b o e
theorem Rd.sameE {H H':Hp}{a:Nn}{xs:List V}(e:eJ H H')(h:Rd H a (.lst xs)):Rd H' a (.lst xs):=by
 rcases h with h|⟨o,h⟩
 ·exact .inl (e _ _ h λ_ z=>nomatch z)
 ·exact .inr ⟨o,e _ _ h λ_ z=>nomatch z⟩
mutual
theorem aw.sameE {K:HD}{H H':Hp}(e:eJ H H'):∀ {d:NQ}{v:V},aw K H d v->aw K H' d v
 |_,_,.non=>.non
 |_,_,.bl b=>.bl b
 |_,_,.int i=>.int i
 |_,_,.str x=>.str x
 |_,_,.lst h q=>.lst (Rd.sameE e h) (av.sameE e q)
 |_,_,.tup h q=>.tup (e _ _ h λ_ z=>nomatch z) (av.sameE e q)
 |_,_,.dct h=>.dct (e _ _ h λ_ z=>nomatch z)
theorem av.sameE {K:HD}{H H':Hp}(e:eJ H H'):∀ {ds:List NQ}{vs:List V},av K H ds vs->av K H' ds vs
 |_,_,.nil=>.nil
 |_,_,.cons h q=>.cons (aw.sameE e h) (av.sameE e q)
end
theorem oC.sameE {K:HD}{H H':Hp}{p:Kn×(Nat×Nat×Nat)}{v:V}(h:oC K H p v)(s:eJ H H'):oC K H' p v:=by
 obtain⟨q,a,b,h1,h2,h3,h4⟩:=h;exact⟨q,a,b,h1,s _ _ h2 (λ_ z=>nomatch z),s _ _ h3 (λ_ z=>nomatch z),h4⟩
def DD (cs:List Q3)(c:Q3):List Q3:=if cs.any (λd=>decide (cK d=cK c))=true then cs else cs++[c]
theorem Ac (xs:List (Q3×Nn))(c:Q3)(b:Nn):(q_ xs c b).map (·.1)=DD (xs.map (·.1)) c:=by
 unfold q_ DD;rw[List.any_map]
 by_cases h:xs.any (λp=>decide (cK p.1=cK c))=true
 ·rw[NZ h,NZ (by exact h)]
 ·rw[NS h,NS (by exact h),Ot];rfl
theorem Fy (xs:List (Q3×Nn))(c:Q3)(b:Nn):(q_ xs c b).length<=xs.length+1:=by
 unfold q_
 split
 ·lia
 ·rw[NL];exact Nj _
theorem zo {xs:List (Q3×Nn)}{c:Q3}{b:Nn}{p:Q3×Nn}(h:p∈q_ xs c b):p∈xs\/p=(c,b):=by
 unfold q_ at h
 split at h
 ·exact .inl h
 ·rcases Ou.mp h with h|h
  ·exact .inl h
  ·exact .inr (Nm.mp h)
theorem Ij {cs:List Q3}{c:Q3}(h:cs.Nodup):(DD cs c).Nodup:=by
 unfold DD
 split
 ·exact h
 ·rename_i hn
  refine List.nodup_append.mpr ⟨h,by simp,λa ha b hb z=>hn ?_⟩;rw[Nm.mp hb] at z;exact UF.mpr ⟨a,ha,Nq (by rw[z])⟩
theorem FS {K:HD}{H:Hp}:CI K H []:=⟨λ_ h=>(by cases h),V9⟩
theorem CI.put {K:HD}{H H':Hp}{xs:List (Q3×Nn)}{c:Q3}{b:Nn}(k:CI K H xs)(hc:aw K H c.col (.ref b))(s:eJ H H'):CI K H' (q_ xs c b):=by
 refine⟨λp hp=>?_,by rw[Ac];exact Ij k.2⟩;rcases zo hp with hp|rfl
 ·exact aw.sameE s (k.1 p hp)
 ·exact aw.sameE s hc
def vL (n:Nat)(f:Kn->R3)(e:Q3)(cs:List Q3)(p:Kn×(Nat×Nat×Nat)):List Q3:=match vE n f e p with
 |none=>cs
 |some c=>DD cs c
def Bj (n:Nat)(f:Kn->R3)(e:Q3)(ps:List (Kn×(Nat×Nat×Nat))):List Q3:=ps.foldl (vL n f e) []
theorem AL {n:Nat}{f:Kn->R3}{e:Q3}{ps:List (Kn×(Nat×Nat×Nat))}{p:Kn×(Nat×Nat×Nat)}:Bj n f e (ps++[p])=vL n f e (Bj n f e ps) p:=by unfold Bj;rw[T4];rfl
theorem A2 {n:Nat}(h3:n<=3):(kb n).length<=48:=by
 have:(aU (n-1)).length<=8:=by
  rw[eO];exact Qz (show n-1<=2 by lia) 3
 unfold kb;rw[lu];lia
theorem WW.pt {X:Cx}{e:Po}{t:TT}(h:WW X e t):WT X e t:=⟨PW.pt h.go⟩
set_option autoImplicit true
set_option relaxedAutoImplicit true
section
variable {X:Cx}{st:Pr}{K:HD}
theorem aB :WA X [] AY:=⟨uL ⟩
theorem aa (ha:WE X e te)(hr:WA X es t)(hs:NG (e::es) X.env=(false,QT e X.env)::NG es X.env:=by rfl):WA X (e::es) (tL te t):=⟨pT ha.go hr.go hs⟩
theorem ao (i:Nat)(hN:X.N[i]?=some x:=by rfl)(hv:JG X.env.scope x:=by first|exact W2 rfl|exact VP (W2 rfl)|exact VP (VP rfl))(hd:(x==("__debug__":Str))=false:=by decide)(hcd:(x==("__classdict__":Str))=false:=by decide):WE X (.Name x pos) (FO i):=⟨pv i hN hv hd hcd⟩
theorem qk (hx:X.xe=λ_ _=>False)(hd:gens[d+1]?=none)(he:WE X elt te):WB X elt gens scope pos d (Ak te):=⟨Au hx hd he.go⟩
end
theorem FN {X:Cx}{K:HD}{x n:Str}{i:Nat}{np hpos pos:Pos}{body suite:List Pr}{b0:Pr}{tb:WX->TS}{th:TS} (hK:X.K=K) (hN:X.N.Nodup) (hi:X.N[i]?=some n) (hl:X.env.scope.names.lookup n=some .local)
  (hex:X.ex=[])(hf:X.env.frame=some X.env.locals)(hstk:X.stack=X.env::X.outer)(hg:Gl X x)
  (hb:∀ pn' xe' W,FA { X with pn:=pn',xe:=xe' } W->cO { X with pn:=pn',xe:=xe' } body (tb W))
  (hh:∀ e,cO { X with A:=X.A.mark (some (.ref e)),calm:=false,xe:=λ_ _=>False } (b0::suite) th)(hdb:(x==("__debug__":Str))=false:=by decide):
  WS X (.Try body [.ExceptHandler (some (.Name x np)) (some n) (b0::suite) hpos] [] [] pos) (K3 K x i tb th):=⟨HI hK hN hi hl hex hf hstk hg (λa b c d=>(hb a b c d).go) (λe=>(hh e).go) hdb⟩
section
variable {X:Cx}
theorem aA (i:Nat){x:Str}{e:Po}{te:TE}{pos pos':Pos}(hN:X.N.Nodup)(he:WE X e te)(hi:X.N[i]?=some x:=by rfl)(hx:Iw X.env.scope x:=by first|exact W2 rfl|exact VP rfl)(hs:Td e (some (.Name x pos')) pos.line X.env=pure false:=by rfl)(hf:X.fn x=true\/X.env.scope.names.lookup x=some .local:=by first|exact .inl rfl|exact .inr rfl|assumption):WS X (.Assign [.Name x pos'] e pos) (Jk te (zF i)):=Ff hN hi hx he hs hf
theorem am (i:Nat){x:Str}{pos:Pos}(hN:X.N.Nodup)(hi:X.N[i]?=some x:=by rfl)(hx:Iw X.env.scope x:=by first|exact W2 rfl|exact VP rfl)(hf:X.fn x=true\/X.env.scope.names.lookup x=some .local:=by first|exact .inl rfl|exact .inr rfl|assumption):WG X (.Name x pos) (zF i):=EA hN hi hx hf
theorem aI (K:HD){a b:Po}{ta tb:TE}{pos:Pos}(ha:WE X a ta)(hb:WE X b tb)(e:X.K=K:=by rfl)(hs:zV b:=by intro _ _;rfl):WE X (.Subscript a b pos) (KP (GK K) ta tb):=EU (L_ e) ha hb hs
theorem aj {CX:jy}{k j:Nat}{x:Str}{ps:List Str}{sp:Sp}{dvs:List V}{p pos:Pos}{e:Po}{es:List Po}{t:TA}(hX:EZ CX)(C:df X.prog X.w X.K X.mg X.base CX k x ps dvs sp)(hr:Room j X.A)(ha:WA X (e::es) t)(hj:k<=j:=by decide)(hg:Gl X x:=by rfl)(hdb:(x==("__debug__":Str))=false:=by decide)(he:NG (e::es) X.env=(false,QT e X.env)::NG es X.env:=by rfl)(hpl:(Q0 pos (NG es X.env)).any (·.1)=false:=by rfl):WE X (.Call (.Name x p) (e::es) [] pos) (ES sp dvs E0 t):=FX hX C (hr.mono hj) hg ha hdb he hpl
theorem aH {e:Po}{te:TE}(h:WE X e te)(hs:NG [e] X.env=(false,QT e X.env)::NG [] X.env:=by rfl):WA X [e] (tL te AY):=aa h aB hs
theorem aK {e f:Po}{te tf:TE}(h:WE X e te)(g:WE X f tf)(hs:NG [e,f] X.env=(false,QT e X.env)::NG [f] X.env:=by rfl)(gs:NG [f] X.env=(false,QT f X.env)::NG [] X.env:=by rfl):WA X [e,f] (tL te (tL tf AY)):=aa h (aa g aB gs) hs
theorem aR {scope:Q7}{elt tg iter:Po}{ifs:List Po}{wi:TI}{g:TG}{tt:TT}{te:TE}{pos:Pos}(ts cs:List Str)(js:List Nat)(k:Nat)(hi:WI X tg iter wi)(hg:(ts++cs).Nodup->∀ {C s0 H0 fp pn},WG (bG X (ts++cs) scope (a_ X scope C) C s0 H0 fp pn) tg g)(ht:∀ {C s0 H0 fp pn},HY (bG X (ts++cs) scope (a_ X scope C) C s0 H0 fp pn) ifs tt)(he:∀ {C s0 H0 fp pn},WE (bG X (ts++cs) scope (a_ X scope C) C s0 H0 fp pn) elt te)(nd:(ts++cs).Nodup:=by decide +kernel)(hc:X.calm=true:=by rfl)(h1:pV scope=true:=by decide +kernel)(h2:(scope.names.all λy=>!(y.2==.free)||(X.env.cells.lookup y.1).isSome)=true:=by rfl)(h3:mL X scope cs js=true:=by rfl)(h4:cs.length=js.length:=by rfl)(h5:ts.length=k:=by rfl)(hs:∀ x,OQ iter X.env x=pure x:=by intro _;rfl):WE X (.ListComp elt [⟨tg,iter,ifs,0⟩] scope pos) (GI wi g tt te (BW k js)):=DH hc hi (mj h1 h2) (qX (ts:=ts) h3 h4 h5) (λ_ _ _ _ _=>hg nd) (λ_ _ _ _ _=>ht) (λ_ _ _ _ _=>he) hs
theorem cH (i:Nat){y:Str}{py spos:Pos}{scope:Q7}{elt tg iter:Po}{ifs:List Po}{wi:TI}{g:TG}{tt:TT}{te:TE}{pos:Pos}(ts cs:List Str)(js:List Nat)(k:Nat)(hN:X.N.Nodup)(hi:WI X tg iter wi)(hg:(ts++cs).Nodup->∀ {C s0 H0 fp pn},WG (bG X (ts++cs) scope (a_ X scope C) C s0 H0 fp pn) tg g)(ht:∀ {C s0 H0 fp pn},HY (bG X (ts++cs) scope (a_ X scope C) C s0 H0 fp pn) ifs tt)(he:∀ {C s0 H0 fp pn},WE (bG X (ts++cs) scope (a_ X scope C) C s0 H0 fp pn) elt te)(nd:(ts++cs).Nodup:=by decide +kernel)(hc:X.calm=true:=by rfl)(hi':X.N[i]?=some y:=by rfl)(hy:X.env.scope.names.lookup y=some .local:=by rfl)(h1:pV scope=true:=by decide +kernel)(h2:(scope.names.all λy=>!(y.2==.free)||(X.env.cells.lookup y.1).isSome)=true:=by rfl)(h3:mL X scope cs js=true:=by rfl)(h4:cs.length=js.length:=by rfl)(h5:ts.length=k:=by rfl)(hsw:Td (.ListComp elt [⟨tg,iter,ifs,0⟩] scope pos) (some (.Name y py)) spos.line X.env=pure true:=by rfl)(hs:∀ x,OQ iter X.env x=pure x:=by intro _;rfl):WS X (.Assign [.Name y py] (.ListComp elt [⟨tg,iter,ifs,0⟩] scope pos) spos) (EK i wi g tt te (BW k js)):=wn hc hN hi' hy hi (mj h1 h2) (qX (ts:=ts) h3 h4 h5) (λ_ _ _ _ _=>hg nd) (λ_ _ _ _ _=>ht) (λ_ _ _ _ _=>he) hsw hs
end
end TR
set_option Elab.async false
set_option linter.all false
set_option maxRecDepth 100000
set_option maxHeartbeats 8000000
namespace TR
open PySem PySem.Spec PyProof.Rows L2
set_option autoImplicit false
abbrev j0:List Str:=["thing"]
abbrev oR:List Str:=["_law_kind","_law_grid_here","_law_goal","_law_steps","_law_heavy"]
abbrev tR:List Str:=["one","other"]
abbrev uA0:List Str:=["grid","goal","levels","weights"]
abbrev uA1:List Str:=["_law_town_here","_law_cap"]
abbrev uA2:List Str:=["thing","many","least","most"]
abbrev uA3:List Str:=["thing","knots"]
abbrev uA4:List Str:=["_law_script"]
abbrev uA5:List Str:=["one","other","weights"]
abbrev uA6:List Str:=["top","below"]
abbrev uA7:List Str:=["levels","weights"]
abbrev uA8:List Str:=["_law_town_here","_law_some"]
abbrev uA9:List Str:=["self","colour","way"]
abbrev uB0:List Str:=["_law_town_here"]
abbrev uB1:List Str:=["far","whole"]
abbrev uB2:List Str:=["grid","goal"]
abbrev uB3:List Str:=["thing","least","most"]
abbrev uB4:List Str:=["self","knots","table"]
abbrev uB5:List Str:=["colour","top","below"]
abbrev uB6:List Str:=["least","order","far","apart"]
abbrev uB7:List Str:=["grid","least","order","goal"]
abbrev uB8:List Str:=["goal","start","rows","size"]
abbrev uB9:List Str:=["_law_town_here","_law_many"]
abbrev uC0:List Str:=["_law_town_here","_law_size"]
abbrev uC1:List Str:=["one","least","most"]
abbrev uC2:List Str:=["row","other"]
abbrev uC3:List Str:=["_law_w","_law_x","_law_y","_law_z"]
abbrev uC4:List Str:=["self","least","parts"]
abbrev uC5:List Str:=["grid","least","order"]
abbrev uC6:List Str:=["_law_one","_law_two"]
abbrev uC7:List Str:=["a","b","c","numbers"]
abbrev uC8:List Str:=["place","steps"]
abbrev uC9:List Str:=["self","place"]
abbrev uD0:List Str:=["levels"]
abbrev uD1:List Str:=["number"]
def cr (i:Nat):Pr:=PySem.Challenge.pw_tintroads_k16_nearest_refused.main.body.getD i (.Pass ⟨0,0,0,0⟩)
abbrev lD:Pr:=cr 15
abbrev dY:Pr:=cr 16
abbrev eC:Pr:=cr 17
abbrev dJ:Pr:=cr 18
abbrev lB:Pr:=cr 19
abbrev eD:Pr:=cr 20
abbrev fX:Pr:=cr 21
abbrev vj:Pr:=cr 22
abbrev iS:Pr:=cr 23
abbrev lF:Pr:=cr 24
abbrev ng:Pr:=cr 25
abbrev jz:Pr:=cr 26
abbrev eT:Pr:=cr 27
abbrev jQ:Pr:=cr 30
abbrev rf:Pr:=cr 31
abbrev j8:Pr:=cr 32
abbrev dQ:Pr:=cr 33
abbrev dM:Pr:=cr 34
abbrev nv:Pr:=cr 35
abbrev jP:Pr:=cr 36
abbrev qj:Pr:=cr 37
abbrev lK:Pr:=cr 44
abbrev nY:Pr:=cr 45
abbrev lA:Pr:=cr 46
abbrev ud:Pr:=cr 47
abbrev lH:Pr:=cr 48
abbrev cu:Pr:=cr 49
abbrev gT:Pr:=cr 50
abbrev uO:Pr:=cr 51
abbrev cx:Pr:=cr 52
abbrev eM:Pr:=cr 53
abbrev qP:Pr:=cr 55
abbrev ef:Pr:=mo (cr 56) 0
abbrev il:Pr:=mo (cr 56) 1
abbrev iq:Pr:=mo (cr 56) 2
abbrev gB:Pr:=mo (cr 56) 4
abbrev lR:Pr:=cr 72
abbrev b_:Pr:=mo (cr 56) 3
abbrev eW:Pr:=cr 57
abbrev jh:Pr:=cr 63
abbrev dE:Pr:=cr 64
abbrev dP:Pr:=cr 65
abbrev ji:Pr:=cr 66
abbrev dS:Pr:=cr 67
abbrev f6:Pr:=cr 68
abbrev c7:Pr:=cr 69
abbrev gg:Pr:=cr 73
abbrev iw:Pr:=cr 74
abbrev jF:Pr:=cr 75
abbrev i9:Pr:=cr 76
abbrev jC:Pr:=cr 77
abbrev ip:Pr:=cr 78
abbrev iR:Pr:=cr 79
abbrev jA:Pr:=cr 80
abbrev iY:Pr:=cr 81
abbrev jN:Pr:=cr 83
abbrev jZ:Pr:=cr 84
abbrev j6:Pr:=cr 85
abbrev gh:Pr:=cr 86
abbrev lZ:Pr:=cr 87
abbrev jc:Pr:=cr 88
abbrev i7:Pr:=cr 89
abbrev eh:Pr:=cr 90
abbrev jE:Pr:=cr 91
abbrev l9:Pr:=cr 92
abbrev jI:Pr:=cr 93
abbrev mr:Pr:=cr 94
structure c8 (K:HD)(mg:Str->Option Nd)(w:N6):Prop where
 x2:lq K "Grid" ["knots","table"]=true
 xr:∃ D,mg "WAYS"=some (.ref D)/\tP K w mg D [("four","parts_by_four"),("eight","parts_by_eight")]
 xs:∃ t,mg "FEWEST_KNOTS"=some (.int 2 t)
 xt:∃ t,mg "FEWEST_LEVELS"=some (.int 2 t)
 xe:∃ t,mg "GREATEST_WEIGHT"=some (.int 100 t)
 xu:∃ t,mg "GREATEST_grids"=some (.int 1000 t)
 xf:∃ t,mg "GREATEST_squares"=some (.int 4000 t)
 xg:∃ t,mg "LEAST_WEIGHT"=some (.int 1 t)
 xv:∃ t,mg "MOST_KNOTS"=some (.int 7 t)
 xw:∃ t,mg "MOST_LEVELS"=some (.int 7 t)
 xc:∃ t,mg "REACH"=some (.int 60 t)
 xx:MD K "Grid"=true
 x2l:∃ a,mg "ORDERS"=some (.ref a)/\Bl K a [[0,1,2],[0,2,1],[1,0,2],[1,2,0],[2,0,1],[2,1,0]]
 x2m:∃ a,mg "STEPS"=some (.ref a)/\Bl K a [[1,0,0],[0,1,0],[0,0,1]]
 xy:mg "ValueError"=none
 xh:mg "abs"=none
 x7:mg "all"=none
 xz:mg "any"=none
 x10:mg "bool"=none
 xi:mg "dict"=none
 x11:mg "int"=none
 x0:mg "isinstance"=none
 x6:mg "len"=none
 x8:mg "list"=none
 xj:mg "max"=none
 xd:mg "min"=none
 x4:mg "range"=none
 xk:mg "sorted"=none
 x12:mg "str"=none
 xb:mg "sum"=none
 x3:mg "tuple"=none
 x5:mg "zip"=none
 x1:Bx K=true
 x13:de K mg "is_whole" lD j0 []
 x14:de K mg "is_whole_within" dY uB3 []
 xl:de K mg "is_tuple_within" eC uA2 []
 x15:de K mg "greatest_measure" dJ tR []
 x16:de K mg "is_share" lB j0 []
 x17:de K mg "refuse_no_share" eD j0 []
 x9:de K mg "share" fX uA6 []
 xa:de K mg "share" fX uA6 [.int 1]
 x18:de K mg "added" vj tR []
 x19:de K mg "multiplied" iS tR []
 x1a:de K mg "floor_of" lF ["one"] []
 x1b:de K mg "is_less" ng tR []
 x1c:de K mg "is_within" jz uC1 []
 x1d:de K mg "over_one_below" eT ["numbers"] []
 xm:de K mg "is_colour" jQ j0 []
 x1e:de K mg "is_row" rf j0 []
 x1f:de K mg "is_square" j8 j0 []
 x1g:de K mg "refuse_no_square" dQ j0 []
 xn:de K mg "refuse_no_colour" dM j0 []
 x1h:de K mg "crossed" nv tR []
 xo:de K mg "whole_sum" jP uC2 []
 x1i:de K mg "volume" qj ["square"] []
 x1j:de K mg "is_knots" lK j0 []
 x1k:de K mg "is_knot" nY uA3 []
 x1l:de K mg "is_worth" lA j0 []
 x1m:de K mg "apart" ud ["knots"] []
 x1n:de K mg "is_table" lH uA3 []
 x1o:de K mg "refuse_no_device_colour" cu j0 []
 x1p:de K mg "places_below" gT ["many"] []
 x1q:de K mg "moved" uO uC8 []
 x2n:A8 K mg "parts_by_four" cx uB1
 x1r:de K mg "parts_by_eight" eM uB1 []
 x1s:de K mg "is_way" qP j0 []
 x1t:rR K mg "Grid" "__init__" "Grid.__init__" ef uB4 []
 x1u:rR K mg "Grid" "knot" "Grid.knot" il uC9 []
 x1v:rR K mg "Grid" "size" "Grid.size" iq ["self"] []
 x1w:rR K mg "Grid" "mixed" "Grid.mixed" gB uC4 []
 x1x:de K mg "parts_of" lR ["grid"] []
 x2o:qS K mg "Grid" "worth" "Grid.worth" b_ uA9 [] 2 0 [.str "four"]
 x1y:de K mg "refuse_no_grid" eW j0 []
 xp:de K mg "is_weights" jh j0 []
 xq:de K mg "refuse_no_weights" dE j0 []
 x1z:de K mg "refuse_no_levels" dP j0 []
 x20:de K mg "colours_of" ji uD0 []
 x21:rL K mg "far_apart" dS uA5 ["weights"] 2 1 []
 x2p:rL K mg "nearest" f6 uA0 uA7 2 2 []
 x2q:rL K mg "shown_worth" c7 uA0 uA7 2 2 []
 x22:de K mg "worths_along" gg uC5 []
 x23:de K mg "differences" iw ["worths"] []
 x24:de K mg "distances" jF uB8 []
 x25:de K mg "is_in_part" i9 ["far"] []
 x26:de K mg "colour_at" jC uB6 []
 x27:de K mg "way_in_part" ip uB7 []
 x2r:A8 K mg "rising" iR ["colours"]
 x28:de K mg "ways_back" jA uB2 []
 x29:de K mg "is_reached" iY uB2 []
 x2a:de K mg "_law_town" jN uA4 []
 x2b:de K mg "_law_draw" jZ uB9 []
 x2c:de K mg "_law_pick" j6 uA8 []
 x2d:de K mg "_law_refusal" gh ["_law_caught"] []
 x2e:de K mg "_law_low" lZ uC6 []
 x2f:de K mg "_law_share" jc uA1 []
 x2g:de K mg "_law_three" i7 uA1 []
 x2h:de K mg "_law_odd_shares" eh uB0 []
 x2i:de K mg "_law_grid" jE uC0 []
 x2j:de K mg "_law_did" l9 oR []
 x2k:de K mg "_law_told" jI oR []
section
variable {P:ND}{w:N6}{K:HD}{mg:Str->Option Nd}{base:OZ}
theorem wR:ay j0 j0 (ag lD):=dD
inductive vJ (K:HD)(vs:List V)(H:Hp)(Q:VK)(_:XK):Prop
 |mk (x T) (_:vs=[x]) (_:Ty K H x T) (_:Q (.bl (yt x)) H)
theorem fA (T:c8 K mg w):df P w K mg base (cN P w) 1 "is_whole" j0 [] (vJ K):=by
  refine T.x13.cal wR (bb:=λ_ _ _ _ _ H vs Q E hr h=>?_);obtain⟨x,S,rfl,ty,q⟩:=h;refine⟨_,(cO.go (ah (au (fg (ax (oU (K:=K) rfl) (by rfl) T.x0 aG (aK (ao 0) (cF (v:=.ty "int") rfl T.x11 Jd rfl))) (je (Ai (ax (oU (K:=K) rfl) (by rfl) T.x0 aG (aK (ao 0) (cF (v:=.ty "bool") rfl T.x10 F8 rfl))))))))),?_⟩;obtain⟨b,e1,e2⟩:=HW ty;refine⟨_,rfl,_,_,_,b,rfl,ty,e1,b,rfl,?_⟩;cases b with
  |false=>
   refine bJ ?_;rw[show yt x=false from e2] at q;exact q
  |true=>
   obtain⟨c,e3,e4⟩:=(show ∃ c,cS S "bool"=some c/\yt x=!c from e2)
   refine aZ ⟨_,rfl,_,_,_,c,rfl,ty,e3,c,rfl,?_⟩;rw[e4] at q;exact q
theorem lJ:ay uB3 uB3 (ag dY):=dD
inductive lV (K:HD)(vs:List V)(H:Hp)(Q:VK)(_:XK):Prop
 |mk (x d l m) (_:vs=[x,.int l,.int m]) (_:aw K H d x) (_:Q (.bl (rT l m d)) H)
theorem ck (T:c8 K mg w):df P w K mg base (cN P w) 2 "is_whole_within" uB3 [] (lV K):=by
  refine T.x14.cal lJ (bb:=λ_ _ _ _ _ H vs Q E hr h=>?_);obtain⟨x,d,l,m,rfl,hx,q⟩:=h;refine⟨_,(cO.go (ah (au (fg (aj aE (fA T) hr (aH (ao 0))) (je (tD zu zu (ao 1) (ao 0) (ao 2))))))),?_⟩;refine⟨_,rfl,_,_,rfl,hx.ty,_,rfl,?_⟩;cases hx with
  |int i=>
   refine aZ ⟨_,rfl,_,rfl,_,_,rfl,rfl,decide (l<=i),rfl,?_⟩;refine fI (λhc=>?_) (λhc=>?_)
   ·refine⟨_,rfl,_,_,rfl,rfl,?_⟩;have q:Q (.bl (decide (l<=i)&&decide (i<=m))) H:=q;rw[hc,Ue] at q;exact q
   ·have hc:decide (l<=i)=false:=by simpa using hc
    have q:Q (.bl (decide (l<=i)&&decide (i<=m))) H:=q;rw[hc,R9] at q;exact q
  |non=>exact bJ q
  |bl b=>exact bJ q
  |str z=>exact bJ q
  |lst h1 h2=>exact bJ q
  |tup h1 h2=>exact bJ q
  |dct h1=>exact bJ q
theorem gK:ay uA2 uA2 (ag eC):=dD
inductive lP (K:HD)(vs:List V)(H:Hp)(Q:VK)(_:XK):Prop
 |mk (x:V) (ns:List Int) (n l m:Int) (_:vs=[x,.int n,.int l,.int m]) (_:aw K H (.tuple (ns.map P1)) x) (_:n=ns.length) (_:ns.length<=1000) (_:∀ H',ae H H'->Q (.bl (ns.all λk=>decide (l<=k)&&decide (k<=m))) H')
theorem gH (T:c8 K mg w):df P w K mg base (cN P w) 3 "is_tuple_within" uA2 [] (lP K):=by
  refine T.xl.cal gK (bb:=λ_ _ _ _ _ H vs Q E hr h=>?_);obtain⟨x,ns,n,l,m,rfl,hx,rfl,hl,q⟩:=h;refine⟨_,(cO.go (af (bg (WW.pt (fF (bE (bD (ax (oU (K:=K) rfl) (by rfl) T.x0 aG (aK (ao 0) (cF (v:=.ty "tuple") rfl T.x3 cG rfl))))) (ff (aQ nO (ax (k_ (K:=K) rfl) (by rfl) T.x6 gQ (aH (ao 0))) (ao 1) (bh _))))) (ah (au dk)) aN)
   (ah (au (ax (oF (K:=K) rfl rfl) (by rfl) T.x7 jX (aH (aR uD1 ["least","most"] [2,3] 1 (bH (K:=K) rfl (ao 0)) (λnd=>(am 0 nd)) aJ (aj aE (ck T) hr (aa (ao 0) (aa (ao 1) (aa (ao 2) aB))))))))))),?_⟩
  refine⟨_,rfl,_,_,_,true,rfl,hx.ty,(show cS "tuple" "tuple"=some true by decide +kernel),_,rfl,bJ ?_⟩;obtain⟨a,xs,rfl,ha,hds⟩:=bn (b:=false) hx;have hlen:=hds.length;rw[Ni] at hlen;refine⟨_,rfl,a,_,rfl,nE ha,_,rfl,_,_,rfl,rfl,false,by show V.bl (!decide ((xs.length:Int)=ns.length))=_;rw[Nq (by lia)];rfl,bJ ?_⟩;refine⟨_,rfl,a,false,rfl,⟨_,ha⟩,iH (f:=λd=>.bool (rT l m d)) ha hds (by rw[Ni];exact hl) (λi d x H2 hd s2 hx2 R kk S=>?_) (λys H2 s2 hys D hD=>?_)⟩
  ·exact aZ (B:=S H2) ⟨_,rfl,_,rfl,_,rfl,x,d,l,m,rfl,hx2,kk _ _ ⟨ae.refl _,.bl _⟩⟩
  ·have hys:av K H2 (((ns.map P1).map (rT l m)).map SY) ys:=by rw[PR];exact hys
   have e:=dU hys;subst e;refine⟨D,_,rfl,bI.of ai,?_⟩;have e:((ns.map P1).map (rT l m)).all id=ns.all λk=>decide (l<=k)&&decide (k<=m):=by
    rw[PR,List.all_map];rfl
   rw[e];exact q _ (s2.trans (ae.new hD))
inductive jY (K:HD)(vs:List V)(H:Hp)(Q:VK)(_:XK):Prop
 |mk (x:V) (d:NQ) (n l m:Int) (_:vs=[x,.int n,.int l,.int m]) (_:dA K H d x) (_:n<=1000) (_:∀ H',ae H H'->Q (.bl (xN n l m d)) H')
theorem fm (T:c8 K mg w):df P w K mg base (cN P w) 3 "is_tuple_within" uA2 [] (jY K):=by
  refine T.xl.cal gK (bb:=λ_ _ _ _ _ H vs Q E hr h=>?_);obtain⟨x,d,n,l,m,rfl,hx,hn,q⟩:=h;refine⟨_,(cO.go (af (bg (WW.pt (fF (bE (bD (ax (JA (K:=K) rfl) (by rfl) T.x0 aG (aK (ao 0) (cF (v:=.ty "tuple") rfl T.x3 cG rfl))))) (ff (aQ nO (ax (k_ (K:=K) rfl) (by rfl) T.x6 gQ (aH (ao 0))) (ao 1) (bh _))))) (ah (au dk)) aN)
   (ah (au (ax (oF (K:=K) rfl rfl) (by rfl) T.x7 jX (aH (aR uD1 ["least","most"] [2,3] 1 (bH (K:=K) rfl (ao 0)) (λnd=>(am 0 nd)) aJ (aj aE (ck T) hr (aa (ao 0) (aa (ao 1) (aa (ao 2) aB))))))))))),?_⟩
  rcases De hx with ⟨a,ds,xs,rfl,rfl,ha,hds⟩|⟨hx,e1,e2⟩
  ·refine⟨_,rfl,.inr ⟨a,xs,rfl,ha,_,rfl,bJ ?_⟩⟩;have hlen:=hds.length;refine⟨_,rfl,a,_,rfl,.inr ha,_,rfl,_,_,rfl,rfl,_,rfl,?_⟩;refine fI (λhc=>?_) (λhc=>?_)
   ·have hc:¬ ((xs.length:Int)=n):=Qe (by simpa using hc);rw[show xN n l m (.tuple ds)=false by show(decide ((ds.length:Int)=n)&&_)=false;rw[On (by lia)];rfl] at q;exact q _ (ae.refl _)
   ·have hc:(xs.length:Int)=n:=by simpa using hc
    refine⟨_,rfl,a,false,rfl,⟨_,ha⟩,iH (f:=λd=>.bool (rT l m d)) (show bX K H a xs false from ha) hds (by lia) (λi d x H2 hd s2 hx2 R kk S=>?_) (λys H2 s2 hys D hD=>?_)⟩
    ·exact aZ (B:=S H2) ⟨_,rfl,_,rfl,_,rfl,x,d,l,m,rfl,hx2,kk _ _ ⟨ae.refl _,.bl _⟩⟩
    ·have hys:av K H2 ((ds.map (rT l m)).map SY) ys:=by rw[PR];exact hys
     have e:=dU hys;subst e;refine⟨D,_,rfl,bI.of ai,?_⟩;rw[show xN n l m (.tuple ds)=(ds.map (rT l m)).all id by show(decide ((ds.length:Int)=n)&&_)=_;rw[Nq (by lia),Ue]] at q;exact q _ (s2.trans (ae.new hD))
  ·refine⟨_,rfl,.inl ⟨_,_,_,false,rfl,hx.ty,e1,_,rfl,aZ (aZ ?_)⟩⟩;rw[IB e2] at q;exact q _ (ae.refl _)
theorem dC:ay tR tR (ag dJ):=dD
inductive kO (_:HD)(vs:List V)(H:Hp)(Q:VK)(_:XK):Prop
 |mk (a b) (_:vs=[.int a,.int b]) (_:Q (.int (O3 a b)) H)
theorem fQ (T:c8 K mg w):df P w K mg base (cN P w) 1 "greatest_measure" tR [] (kO K):=by
  refine T.x15.cal dC (bb:=λ_ _ _ _ _ H vs Q E hr h=>?_);obtain⟨a,b,rfl,q⟩:=h;refine⟨_,(cO.go (af (mS (i:=0) (j:=1) rfl dC.nd rfl rfl (by decide) rfl rfl (aK (ax vT (by rfl) T.xh Dg (aH (ao 0))) (ax vT (by rfl) T.xh Dg (aH (ao 1)))) rfl)
   (af (tY Ow (aQ CN (ao 1) ac (bh _)) (ah (mS (i:=0) (j:=1) rfl dC.nd rfl rfl (by decide) rfl rfl (aK (ao 1) (ar jB (ao 0) (ao 1))) rfl)))
   (ah (au (ao 0)))))),?_⟩
  refine⟨_,rfl,_,rfl,_,rfl,_,rfl,_,_,rfl,?_⟩;refine⟨λm σ H'=>∃ x y:Int,σ=[some (.int x),some (.int y)]/\H'=H/\0<=x/\0<=y/\O3 x y=O3 a b/\m=y.toNat,⟨_,_,_,rfl,rfl,?_,?_,?_,rfl⟩,?_⟩
  ·split<;>lia
  ·split<;>lia
  ·rw[Aa]
  ·rintro m σ H' ⟨x,y,rfl,rfl,hx,hy,hg,rfl⟩;refine⟨_,rfl,_,_,rfl,rfl,_,rfl,?_⟩;refine fI (λhc=>?_) (λhc=>?_)
   ·have hc:=Os hc;refine⟨_,λ_ _ z=>z,?_⟩;refine⟨_,rfl,_,rfl,_,rfl,_,_,rfl,rfl,hc,_,_,rfl,?_⟩;have h1:=Qn x (show y≠0 by lia);have h2:=Pz x hc;exact⟨(x%y).toNat,by lia,y,x%y,rfl,rfl,hy,h1,by rw[vR hx hc];exact hg,rfl⟩
   ·have hc:¬ (0<y):=λz=>hc (Nq z)
    have hy0:y=0:=by lia
    subst hy0;refine⟨_,rfl,?_⟩;have e:x=(O3 a b:Int):=by
     rw[<- hg,VI];lia
    rw[e];exact q
theorem j_:ay ["thing","top","below"] j0 (ag lB):=dD
inductive wW (K:HD)(vs:List V)(H:Hp)(Q:VK)(_:XK):Prop
 |mk (x d) (_:vs=[x]) (_:aw K H d x) (_:Q (.bl (shB d)) H)
theorem j5 (T:c8 K mg w):df P w K mg base (cN P w) 2 "is_share" j0 [] (wW K):=by
  refine T.x16.cal j_ (bb:=λ_ _ _ _ _ H vs Q E hr h=>?_);obtain⟨x,d,rfl,hd,q⟩:=h;refine⟨_,(cO.go (af (bg (WW.pt (fF (bE (bD (ax (oU (K:=K) rfl) (by rfl) T.x0 aG (aK (ao 0) (cF (v:=.ty "tuple") rfl T.x3 cG rfl))))) (ff (aQ nO (ax (k_ (K:=K) rfl) (by rfl) T.x6 gQ (aH (ao 0))) ac (bh _))))) (ah (au dk)) aN)
   (af (fi (ao 0) (b9 (K:=K) (n:=2) rfl rfl (aq (am 1 j_.nd) (aq (am 2 j_.nd) aY))))
   (af (bg (WW.pt (fF (bE (bD (aj aE (fA T) hr (aH (ao 1))))) (fF (bE (bD (aj aE (fA T) hr (aH (ao 2))))) (ff (aQ zR (ao 2) ac (bh _)))))) (ah (au dk)) aN)
   (ah (au (fq dh (aj aE (fQ T) hr (aK (ao 1) (ao 2))) ac (bh _)))))))),?_⟩
  cases hd with
  |non=>exact⟨_,rfl,_,_,_,false,rfl,.non,by decide +kernel,_,rfl,aZ (aZ q)⟩
  |bl b=>exact⟨_,rfl,_,_,_,false,rfl,.bl b,by decide +kernel,_,rfl,aZ (aZ q)⟩
  |int i=>exact⟨_,rfl,_,_,_,false,rfl,.int i,by decide +kernel,_,rfl,aZ (aZ q)⟩
  |str z=>exact⟨_,rfl,_,_,_,false,rfl,.str z,by decide +kernel,_,rfl,aZ (aZ q)⟩
  |dct h1=>exact⟨_,rfl,_,_,_,false,rfl,.dK h1,(show cS "dict" "tuple"=some false by decide +kernel),_,rfl,aZ (aZ q)⟩
  |lst h1 h2=>exact⟨_,rfl,_,_,_,false,rfl,(aw.lst h1 h2).ty,(show cS "list" "tuple"=some false by decide +kernel),_,rfl,aZ (aZ q)⟩
  |@tup p xs ds h1 h2=>
   refine⟨_,rfl,_,_,_,true,rfl,.tup h1,by decide +kernel,_,rfl,bJ ?_⟩;refine⟨_,rfl,p,xs,rfl,.inr (cW.of h1),_,_,rfl,rfl,_,rfl,?_⟩;have hl:=h2.length;refine fI (λhc=>?_) (λhc=>?_)
   ·have hc:¬ ((xs.length:Int)=2):=Qe (by simpa using hc);have e:shB (.tuple ds)=false:=Fb (by lia);rw[e] at q;exact q
   ·have hc:(xs.length:Int)=2:=by simpa using hc
    cases h2 with
    |nil=>simp at hc
    |@cons d1 x1 _ _ g1 g2=>
     cases g2 with
     |nil=>simp at hc
     |@cons d2 x2 _ _ g3 g4=>
      cases g4 with
      |cons _ _=>simp at hc;lia
      |nil=>
       refine⟨_,rfl,p,_,rfl,cW.of h1,rfl,_,_,rfl,_,_,rfl,rfl,?_⟩;refine⟨_,rfl,_,_,rfl,g1.ty,_,rfl,?_⟩;refine fI (λhc=>?_) (λhc=>?_)
       ·refine aZ ?_;have e:yt x1=false:=by simpa using hc
        rw[Lw g1 e] at q;exact q
       ·have e1:yt x1=true:=by simpa using hc
        refine⟨_,rfl,_,_,rfl,g3.ty,_,rfl,?_⟩;refine fI (λhc=>?_) (λhc=>?_)
        ·refine aZ ?_;have e:yt x2=false:=by simpa using hc
         rw[Ku g3 e] at q;exact q
        ·have e2:yt x2=true:=by simpa using hc
         obtain⟨n,rfl,rfl⟩:=zt g1 e1;obtain⟨m,rfl,rfl⟩:=zt g3 e2;refine⟨_,rfl,_,_,rfl,rfl,_,rfl,?_⟩;have e:shB (Bf n m)=(decide (1<=m)&&decide (O3 n m=1)):=rfl;refine fI (λhc=>?_) (λhc=>?_)
         ·have hc:m<1:=Os hc;rw[e,On (show ¬ (1<=m) by lia)] at q;exact q
         ·have hc:¬ (m<1):=Qe (by simpa using hc);refine⟨_,rfl,_,rfl,n,m,rfl,_,_,rfl,rfl,?_⟩;rw[e,Nq (show 1<=m by lia),Ue] at q;have e3:decide ((O3 n m:Int)=1)=decide (O3 n m=1):=by
           by_cases z:O3 n m=1
           ·rw[Nq z,Nq (by lia)]
           ·rw[On z,On (by lia)]
          show Q (.bl (decide ((O3 n m:Int)=1))) H;rw[e3];exact q
theorem lW:ay j0 j0 (ag eD):=dD
inductive md (K:HD)(vs:List V)(H:Hp)(Q:VK)(_:XK):Prop
 |mk (x d) (_:vs=[x]) (_:aw K H d x) (_:shB d=true) (_:Q .non H)
theorem bY (T:c8 K mg w):df P w K mg base (cN P w) 3 "refuse_no_share" j0 [] (md K):=by
  refine T.x17.cal lW (bb:=λ_ _ _ _ _ H vs Q E hr h=>?_);obtain⟨x,d,rfl,hd,hs,q⟩:=h;refine⟨_,(cO.go (ah (bg (bE (bD (aj aE (j5 T) hr (aH (ao 0))))) (ah cQ) aN))),?_⟩;refine⟨_,rfl,x,d,rfl,hd,_,rfl,?_⟩;rw[hs];exact bJ q
theorem qH:ay ["top","below","measure"] uA6 (ag fX):=dD
inductive Dr (K:HD)(vs:List V)(H:Hp)(Q:VK)(_:XK):Prop
 |mk (t b:Int) (_:vs=[.int t,.int b]) (_:b≠0) (_:Sm 8000 b) (_:Sh K H t b Q)
theorem bZ (T:c8 K mg w) {dvs:List V} (D:de K mg "share" fX uA6 dvs):df P w K mg base (cN P w) 2 "share" uA6 dvs (Dr K):=by
  refine D.cal qH (bb:=λ_ _ _ _ _ H vs Q E hr h=>?_);obtain⟨t,b,rfl,hb,sb,q⟩:=h;refine⟨_,(cO.go (af (bg (WW.pt (fF (bE (bD (aj aE (fA T) hr (aH (ao 0))))) (ff (bE (bD (aj aE (fA T) hr (aH (ao 1)))))))) (ah cQ) aN)
   (af (bg (aQ dh (ao 1) ac (bh _)) (ah cQ) aN)
   (af (aA 2 qH.nd (aj aE (fQ T) hr (aK (ao 0) (ao 1))))
   (af (bg (aQ zR (ao 1) ac (bh _)) (ah (aA 2 qH.nd (Co Ez (ao 2)))) aN)
   (ah (au (aX (aK (ar di (ao 0) (ao 2)) (ar di (ao 1) (ao 2))))))))))),?_⟩
  refine⟨_,rfl,_,_,rfl,.int t,_,rfl,bJ ?_⟩;refine⟨_,rfl,_,_,rfl,.int b,_,rfl,bJ ?_⟩;refine⟨_,rfl,_,_,rfl,rfl,_,rfl,?_⟩;refine fI (λhc=>absurd (Os hc) hb) (λ_=>?_);refine⟨_,rfl,_,rfl,t,b,rfl,?_⟩;refine⟨_,rfl,_,_,rfl,rfl,_,rfl,?_⟩;have gb:Sm 8000 (O3 t b:Int):=sb.le (DS hb);have gn:(O3 t b:Int)≠0:=by
   have:=QG t hb;lia
  refine fI (λhc=>?_) (λhc=>?_)
  ·have hc:=Os hc;refine⟨_,rfl,_,rfl,?_⟩;refine⟨_,rfl,_,rfl,_,_,rfl,rfl,⟨by lia,gb.neg⟩,_,rfl,_,rfl,_,_,rfl,rfl,⟨by lia,gb.neg⟩,mV,λp hp=>?_⟩;exact q _ _ _ _ (ae.new hp) (zX ai) (y_ hb rfl (by rw[NZ hc]))
  ·have hc:¬ (b<0):=λz=>hc (Nq z)
   refine⟨_,rfl,_,rfl,_,_,rfl,rfl,⟨gn,gb⟩,_,rfl,_,rfl,_,_,rfl,rfl,⟨gn,gb⟩,mV,λp hp=>?_⟩;exact q _ _ _ _ (ae.new hp) (zX ai) (y_ hb rfl (by rw[NS hc]))
theorem Ea:ay tR tR (ag vj):=dD
inductive EJ (K:HD)(vs:List V)(H:Hp)(Q:VK)(_:XK):Prop
 |mk (x y n d m e) (_:vs=[x,y]) (_:aw K H (Bf n d) x) (_:aw K H (Bf m e) y) (_:Ok 3900 n d) (_:Ok 3900 m e) (_:Sh K H (n*e+m*d) (d*e) Q)
theorem DO (T:c8 K mg w):df P w K mg base (cN P w) 4 "added" tR [] (EJ K):=by
  refine T.x18.cal Ea (bb:=λ_ _ _ _ _ H vs Q E hr h=>?_);obtain⟨x,y,n,d,m,e,rfl,hx,hy,ox,oy,q⟩:=h;obtain⟨a,rfl,ha⟩:=dm hx;obtain⟨b,rfl,hb⟩:=dm hy;refine⟨_,(cO.go (af (bo (aj aE (bY T) hr (aH (ao 0))))
   (af (bo (aj aE (bY T) hr (aH (ao 1))))
   (ah (au (aj aE (bZ T T.x9) hr (aK (ar fG (ar aW (aI K (ao 0) ac) (aI K (ao 1) ac)) (ar aW (aI K (ao 1) ac) (aI K (ao 0) ac))) (ar aW (aI K (ao 0) ac) (aI K (ao 1) ac))))))))),?_⟩
  refine⟨_,rfl,_,_,rfl,hx,ox.shB,?_⟩;refine⟨_,rfl,_,_,rfl,hy,oy.shB,?_⟩;have c:∀ {i j:Int},Sm 3900 i->Sm 3900 j->tT i j:=λh1 h2=>.inl ⟨h1.mono (by decide),h2.mono (by decide)⟩
  refine⟨_,rfl,oE ha ⟨_,rfl,ib hb ⟨_,_,rfl,rfl,c ox.sn oy.sd,?_⟩⟩⟩;refine⟨_,rfl,oE hb ⟨_,rfl,ib ha ⟨_,_,rfl,rfl,c oy.sn ox.sd,_,_,rfl,rfl,?_⟩⟩⟩;refine⟨_,rfl,ib ha ⟨_,rfl,ib hb ⟨_,_,rfl,rfl,c ox.sd oy.sd,?_⟩⟩⟩;exact⟨_,_,rfl,Pf ox.ne oy.ne,(ox.sd.mul oy.sd).mono (by decide),q⟩
theorem r6:ay tR tR (ag iS):=dD
inductive sO (K:HD)(vs:List V)(H:Hp)(Q:VK)(_:XK):Prop
 |mk (x y n d m e) (_:vs=[x,y]) (_:aw K H (Bf n d) x) (_:aw K H (Bf m e) y) (_:Ok 3900 n d) (_:Ok 3900 m e) (_:Sh K H (n*m) (d*e) Q)
theorem sg (T:c8 K mg w):df P w K mg base (cN P w) 4 "multiplied" tR [] (sO K):=by
  refine T.x19.cal r6 (bb:=λ_ _ _ _ _ H vs Q E hr h=>?_);obtain⟨x,y,n,d,m,e,rfl,hx,hy,ox,oy,q⟩:=h;obtain⟨a,rfl,ha⟩:=dm hx;obtain⟨b,rfl,hb⟩:=dm hy;refine⟨_,(cO.go (af (bo (aj aE (bY T) hr (aH (ao 0))))
   (af (bo (aj aE (bY T) hr (aH (ao 1))))
   (ah (au (aj aE (bZ T T.x9) hr (aK (ar aW (aI K (ao 0) ac) (aI K (ao 1) ac)) (ar aW (aI K (ao 0) ac) (aI K (ao 1) ac))))))))),?_⟩
  refine⟨_,rfl,_,_,rfl,hx,ox.shB,?_⟩;refine⟨_,rfl,_,_,rfl,hy,oy.shB,?_⟩;have c:∀ {i j:Int},Sm 3900 i->Sm 3900 j->tT i j:=λh1 h2=>.inl ⟨h1.mono (by decide),h2.mono (by decide)⟩
  refine⟨_,rfl,oE ha ⟨_,rfl,oE hb ⟨_,_,rfl,rfl,c ox.sn oy.sn,?_⟩⟩⟩;refine⟨_,rfl,ib ha ⟨_,rfl,ib hb ⟨_,_,rfl,rfl,c ox.sd oy.sd,?_⟩⟩⟩;exact⟨_,_,rfl,Pf ox.ne oy.ne,(ox.sd.mul oy.sd).mono (by decide),q⟩
theorem wO:ay ["one"] ["one"] (ag lF):=dD
inductive xH (K:HD)(vs:List V)(H:Hp)(Q:VK)(_:XK):Prop
 |mk (x n d) (_:vs=[x]) (_:aw K H (Bf n d) x) (_:Ok 3900 n d) (_:Q (.int (n.fdiv d)) H)
theorem xC (T:c8 K mg w):df P w K mg base (cN P w) 4 "floor_of" ["one"] [] (xH K):=by
  refine T.x1a.cal wO (bb:=λ_ _ _ _ _ H vs Q E hr h=>?_);obtain⟨x,n,d,rfl,hx,ox,q⟩:=h;obtain⟨a,rfl,ha⟩:=dm hx;refine⟨_,(cO.go (af (bo (aj aE (bY T) hr (aH (ao 0))))
   (ah (au (ar di (aI K (ao 0) ac) (aI K (ao 0) ac)))))),?_⟩
  refine⟨_,rfl,_,_,rfl,hx,ox.shB,?_⟩;exact⟨_,rfl,oE ha ⟨_,rfl,ib ha ⟨_,_,rfl,rfl,⟨ox.ne,ox.sd.mono (by decide)⟩,q⟩⟩⟩
theorem ym:ay tR tR (ag ng):=dD
inductive x_ (K:HD)(vs:List V)(H:Hp)(Q:VK)(_:XK):Prop
 |mk (x y:V) (p q:Rat) (_:vs=[x,y]) (_:aw K H (rD p) x) (_:aw K H (rD q) y) (_:Bq 3900 p) (_:Bq 3900 q) (_:Q (.bl (decide (p<q))) H)
theorem qG (T:c8 K mg w):df P w K mg base (cN P w) 1 "is_less" tR [] (x_ K):=by
  refine T.x1b.cal ym (bb:=λ_ _ _ _ _ H vs Q E hr h=>?_);obtain⟨x,y,p,r,rfl,hx,hy,ox,oy,q⟩:=h;obtain⟨a,rfl,ha⟩:=dm hx;obtain⟨b,rfl,hb⟩:=dm hy;refine⟨_,(cO.go (ah (au (fq zR (ar aW (aI K (ao 0) ac) (aI K (ao 1) ac)) (ar aW (aI K (ao 1) ac) (aI K (ao 0) ac)) (bh _))))),?_⟩;have c:∀ {i j:Int},Sm 3900 i->Sm 3900 j->tT i j:=λh1 h2=>.inl ⟨h1.mono (by decide),h2.mono (by decide)⟩
  refine⟨_,rfl,oE ha ⟨_,rfl,ib hb ⟨_,_,rfl,rfl,c ox.sn oy.sd,?_⟩⟩⟩;refine⟨_,rfl,oE hb ⟨_,rfl,ib ha ⟨_,_,rfl,rfl,c oy.sn ox.sd,_,_,rfl,rfl,?_⟩⟩⟩;rw[show decide (p<r)=decide (p.num*(r.den:Int)<r.num*(p.den:Int)) from decide_eq_decide.mpr (Rat.lt_iff p r)] at q;exact q
theorem uE:ay uC1 uC1 (ag jz):=dD
inductive uz (K:HD)(vs:List V)(H:Hp)(Q:VK)(_:XK):Prop
 |mk (x:V) (p:Rat) (l m:Int) (_:vs=[x,.int l,.int m]) (_:aw K H (rD p) x) (_:Bq 3900 p) (_:Sm 60 l) (_:Sm 60 m) (_:Q (.bl (decide (l*(p.den:Int)<=p.num)&&decide (p.num<=m*(p.den:Int)))) H)
theorem uj (T:c8 K mg w):df P w K mg base (cN P w) 1 "is_within" uC1 [] (uz K):=by
  refine T.x1c.cal uE (bb:=λ_ _ _ _ _ H vs Q E hr h=>?_);obtain⟨x,p,l,m,rfl,hx,ox,sl,sm,q⟩:=h;obtain⟨a,rfl,ha⟩:=dm hx;refine⟨_,(cO.go (ah (au (tD zu zu (ar aW (ao 1) (aI K (ao 0) ac)) (aI K (ao 0) ac) (ar aW (ao 2) (aI K (ao 0) ac)))))),?_⟩;refine⟨_,rfl,_,rfl,ib ha ⟨_,_,rfl,rfl,.inr (sl.mono (by decide)),_,rfl,oE ha ⟨_,_,rfl,rfl,_,rfl,?_⟩⟩⟩;cases hc:decide (l*(p.den:Int)<=p.num) with
  |true=>
   rw[hc,Ue] at q;exact aZ ⟨_,rfl,_,rfl,ib ha ⟨_,_,rfl,rfl,.inr (sm.mono (by decide)),_,_,rfl,rfl,q⟩⟩
  |false=>
   rw[hc,R9] at q;exact bJ q
theorem dc:ay ["numbers","below","number"] ["numbers"] (ag eT):=dD
inductive hJ (K:HD)(vs:List V)(H:Hp)(Q:VK)(_:XK):Prop
 |mk (x:V) (k:Bool) (b:Nat) (rs:List Rat) (_:vs=[x]) (_:aw K H (wV k (rs.map rD)) x) (_:(∀ r∈rs,Bq b r)) (_:rs.length<=500) (_:b<=7900) (_:rs.length*b+b+1<=7900) (_:∀ (v:V) (H':Hp),ae H H'->aw K H' (.tuple [.list (rs.map λr=>.int (ov (cM rs) r)),.int (cM rs)]) v->Q v H')
theorem da (T:c8 K mg w):df P w K mg base (cN P w) 1 "over_one_below" ["numbers"] [] (hJ K):=by
  refine T.x1d.cal dc (bb:=λ_ _ _ _ _ H vs Q E hr h=>?_);obtain⟨x,k,b,rs,rfl,hx,br,l5,b7,lb,q⟩:=h;obtain⟨a,xs,rfl,ha,hxs⟩:=bn hx;have lx:=hxs.length;rw[Ni] at lx;refine⟨_,(cO.go (af (aA 1 dc.nd ac)
   (af (dn Ow rfl (bH (K:=K) rfl (ao 0)) (am 2 dc.nd) (ah (As (i:=1) dc.nd rfl (by first|exact W2 rfl|exact VP rfl) (aI K (ao 2) ac) Cj)))
   (ah (au (aX (aK (aR ["top","part"] ["below"] [1] 2 (bH (K:=K) rfl (ao 0)) (λnd=>(b9 (K:=K) (n:=2) rfl rfl (aq (am 0 nd) (aq (am 1 nd) aY)))) aJ (ar aW (ao 0) (ar di (ao 2) (ao 1)))) (ao 1)))))))),?_⟩
  refine⟨_,rfl,a,k,rfl,⟨_,ha⟩,kA (λi σ H'=>∃ o2,σ=[some (.ref a),some (.int (cM (rs.take i))),o2]/\H'=H)
   ⟨_,rfl,rfl⟩ (λi σ H2 hi ⟨_,_,e⟩=>e▸ha) ?_ ?_⟩
  ·rintro i w σ H2 ew ⟨o2,rfl,rfl⟩;obtain⟨d,ed,hd⟩:=hxs.get ew;obtain⟨r,er,rfl⟩:=zh ed;have hi:i<rs.length:=(Nt.mp er).1;have k1:=(gm br i (by lia)).2;have k2:=br r (NJ er);have hm:i*b<=rs.length*b:=Nat.mul_le_mul_right _ (PV hi);obtain⟨wa,rfl,hw⟩:=dm hd;refine⟨_,rfl,_,rfl,ib hw ⟨_,_,rfl,rfl,.inl ⟨k1.mono (by lia),k2.sd.mono (by lia)⟩,some (.ref wa),?_,rfl⟩⟩;rw[bF er,rl];rfl
  ·rintro σ H2 ⟨o2,rfl,rfl⟩;rw[<- lx,Ra];obtain⟨B0,BS⟩:=gm br rs.length (Nj _);rw[Ra] at B0 BS;refine⟨_,rfl,a,k,rfl,⟨_,ha⟩,bW (es:=rs.map λr=>.int (ov (cM rs) r)) ha hxs (by simp) (by simp;lia) (λi d e u H1 hd he s1 hu R kk S=>?_) (λzs H1 s1 hzs D hD=>?_)⟩
   ·obtain⟨r,er,rfl⟩:=zh hd;rw[NB,er] at he;cases he;obtain⟨wa,rfl,hw⟩:=dm hu;have k2:=br r (NJ er);have dp:=k2.pos;have ed:(cM rs).fdiv (r.den:Int)=cM rs/(r.den:Int):=Pn _ (by lia);refine⟨wa,_,rfl,cW.of hw,rfl,_,_,rfl,_,_,rfl,rfl,aZ (B:=S H1) ?_⟩;refine⟨_,rfl,_,rfl,_,rfl,_,_,rfl,rfl,⟨by lia,k2.sd.mono (by lia)⟩,_,_,rfl,rfl,.inl ⟨k2.sn.mono (by lia),?_⟩,kk _ _ ⟨ae.refl _,?_⟩⟩
    ·rw[ed];have e1:cM rs/(r.den:Int)<=cM rs:=Int.ediv_le_self _ (by lia);have e2:0<=cM rs/(r.den:Int):=UX (by lia) (by lia);exact(show Sm _ _ from by unfold Sm at BS ⊢;lia:Sm (rs.length*b+1) (cM rs/(r.den:Int))).mono (by lia)
    ·rw[ed];exact .int _
   ·refine⟨_,rfl,mV,λT hT=>?_⟩;have sD:ae H1 (upd H1 D (.lst zs)):=ae.new hD;exact q _ _ ((s1.trans sD).trans (ae.new hT)) (aw.tupN hT (.cons (aw.listN hD hzs) (.cons (.int _) .nil)))
theorem mR:ay j0 j0 (ag jQ):=dD
inductive ur (K:HD)(vs:List V)(H:Hp)(Q:VK)(_:XK):Prop
 |mk (x:V) (p r t:Rat) (_:vs=[x]) (_:aw K H (JV p r t) x) (_:∀ H',ae H H'->Q (.bl true) H')
theorem ml (T:c8 K mg w):df P w K mg base (cN P w) 3 "is_colour" j0 [] (ur K):=by
  refine T.xm.cal mR (bb:=λ_ _ _ _ _ H vs Q E hr h=>?_);obtain⟨x,p,r,t,rfl,hx,q⟩:=h;refine⟨_,(cO.go (ah (au (fg (ax (oU (K:=K) rfl) (by rfl) T.x0 aG (aK (ao 0) (cF (v:=.ty "tuple") rfl T.x3 cG rfl))) (fg (fq dh (ax (k_ (K:=K) rfl) (by rfl) T.x6 gQ (aH (ao 0))) ac (bh _)) (je (ax (oF (K:=K) rfl rfl) (by rfl) T.x7 jX (aH (aR uD1 [] [] 1 (bH (K:=K) rfl (ao 0)) (λnd=>(am 0 nd)) aJ (aj aE (j5 T) hr (aH (ao 0)))))))))))),?_⟩;refine⟨_,rfl,_,_,_,true,rfl,hx.ty,(show cS "tuple" "tuple"=some true by decide +kernel),_,rfl,aZ ?_⟩;obtain⟨a,xs,rfl,ha,hds⟩:=bn (b:=false) hx;have hl:=hds.length;refine⟨_,rfl,a,_,rfl,nE ha,_,_,rfl,rfl,true,zH (by rw[<- hl];rfl),aZ ?_⟩;have sh:∀ z:Rat,shB (rD z)=true:=λz=>(show Ok (z.num.natAbs+z.den) z.num z.den from⟨by have:=z.den_pos;lia,z.reduced,by unfold Sm;exact Nx (Rk) (Qj (by decide) (QD _ _)),by unfold Sm;exact Nx (Rk) (Qj (by decide) (Nat.le_add_left _ _))⟩).shB
  refine⟨_,rfl,a,false,rfl,⟨_,ha⟩,iH (f:=λd=>.bool (shB d)) ha hds (by show 3<=1000;decide) (λi d x H2 hd s2 hx2 R kk S=>?_) (λys H2 s2 hys D hD=>?_)⟩
  ·exact aZ (B:=S H2) ⟨_,rfl,x,d,rfl,hx2,kk _ _ ⟨ae.refl _,.bl _⟩⟩
  ·have hys:av K H2 (([rD p,rD r,rD t].map shB).map SY) ys:=by rw[PR];exact hys
   have e:=dU hys;subst e;refine⟨D,_,rfl,bI.of ai,?_⟩;have e:([rD p,rD r,rD t].map shB).all id=true:=by
    show(shB (rD p)&&(shB (rD r)&&(shB (rD t)&&true)))=true;rw[sh p,sh r,sh t];rfl
   rw[e];exact q _ (s2.trans (ae.new hD))
inductive qo (K:HD)(vs:List V)(H:Hp)(Q:VK)(_:XK):Prop
 |mk (x d) (_:vs=[x]) (_:aw K H d x) (_:∀ H',ae H H'->Q (.bl (jw d)) H')
theorem rk (T:c8 K mg w):df P w K mg base (cN P w) 3 "is_colour" j0 [] (qo K):=by
  refine T.xm.cal mR (bb:=λ_ _ _ _ _ H vs Q E hr h=>?_);obtain⟨x,d,rfl,hx,q⟩:=h;refine⟨_,(cO.go (ah (au (fg (ax (oU (K:=K) rfl) (by rfl) T.x0 aG (aK (ao 0) (cF (v:=.ty "tuple") rfl T.x3 cG rfl))) (fg (fq dh (ax (k_ (K:=K) rfl) (by rfl) T.x6 gQ (aH (ao 0))) ac (bh _)) (je (ax (oF (K:=K) rfl rfl) (by rfl) T.x7 jX (aH (aR uD1 [] [] 1 (bH (K:=K) rfl (ao 0)) (λnd=>(am 0 nd)) aJ (aj aE (j5 T) hr (aH (ao 0)))))))))))),?_⟩;rcases Jr hx with ⟨ds,rfl⟩|⟨e1,e2⟩
  ·refine⟨_,rfl,_,_,_,true,rfl,hx.ty,(show cS "tuple" "tuple"=some true by decide +kernel),_,rfl,aZ ?_⟩;obtain⟨a,xs,rfl,ha,hds⟩:=bn (b:=false) hx;have hl:=hds.length;refine⟨_,rfl,a,_,rfl,nE ha,_,_,rfl,rfl,_,rfl,?_⟩;refine fI (λhc=>?_) (λhc=>?_)
   ·have hc:(xs.length:Int)=3:=Os hc;obtain⟨d1,d2,d3,rfl⟩:=Mw (show ds.length=3 by lia);refine⟨_,rfl,a,false,rfl,⟨_,ha⟩,iH (f:=λd=>.bool (shB d)) ha hds (by show 3<=1000;decide) (λi d x H2 hd s2 hx2 R kk S=>?_) (λys H2 s2 hys D hD=>?_)⟩
    ·exact aZ (B:=S H2) ⟨_,rfl,x,d,rfl,hx2,kk _ _ ⟨ae.refl _,.bl _⟩⟩
    ·have hys:av K H2 (([d1,d2,d3].map shB).map SY) ys:=by rw[PR];exact hys
     have e:=dU hys;subst e;exact⟨D,_,rfl,bI.of ai,q _ (s2.trans (ae.new hD))⟩
   ·have hc:¬ ((xs.length:Int)=3):=λz=>hc (Nq z)
    rw[show jw (wV false ds)=false from wF (by lia)] at q;exact q _ (ae.refl _)
  ·refine⟨_,rfl,_,_,_,false,rfl,hx.ty,e1,_,rfl,bJ ?_⟩;rw[e2] at q;exact q _ (ae.refl _)
theorem BI:ay j0 j0 (ag rf):=dD
inductive A7 (K:HD)(vs:List V)(H:Hp)(Q:VK)(_:XK):Prop
 |mk (x k r) (_:vs=[x]) (_:aw K H (jg k r) x) (_:R3.In r 4000) (_:∀ H',ae H H'->Q (.bl true) H')
theorem AV (T:c8 K mg w):df P w K mg base (cN P w) 3 "is_row" j0 [] (A7 K):=by
  refine T.x1e.cal BI (bb:=λ_ _ _ _ _ H vs Q E hr h=>?_);obtain⟨x,k,r,rfl,hx,hin,q⟩:=h;refine⟨_,(cO.go (af (bg (WW.pt (fF (bE (bD (ax (EE (K:=K) rfl) (by rfl) T.x0 aG (aK (ao 0) (aX (aK (cF (v:=.ty "list") rfl T.x8 i8 rfl) (cF (v:=.ty "tuple") rfl T.x3 cG rfl))))))) (ff (aQ nO (ax (k_ (K:=K) rfl) (by rfl) T.x6 gQ (aH (ao 0))) ac (bh _))))) (ah (au dk)) aN)
   (ah (au (ax (oF (K:=K) rfl rfl) (by rfl) T.x7 jX (aH (aR uD1 [] [] 1 (bH (K:=K) rfl (ao 0)) (λnd=>(am 0 nd)) aJ (aj aE (ck T) hr (aa (ao 0) (aa (Co Ez (cC rfl T.xf)) (aa (cC rfl T.xf) aB))))))))))),?_⟩
  refine⟨_,rfl,mV,λp hp=>?_⟩;have s1:ae H (upd H p (.tup [.ty "list",.ty "tuple"])):=ae.new hp;generalize hH1:upd H p (.tup [.ty "list",.ty "tuple"])=H1 at s1 ⊢;have hp1:H1 p=some (.tup [.ty "list",.ty "tuple"]):=by rw[<- hH1];exact ai
  have hx1:=aw.same s1 hx;obtain⟨T',ty,ek⟩:=CD hx1;refine⟨_,_,p,_,_,true,rfl,ty,hp1,ek,_,rfl,bJ ?_⟩;obtain⟨a,rfl,ha⟩:=hU hx1;refine⟨_,rfl,a,_,rfl,nE ha,_,_,rfl,rfl,_,rfl,bJ ?_⟩;obtain⟨a',xs,e',hs',hds⟩:=bn hx1;cases e';refine⟨_,rfl,a,k,rfl,⟨_,hs'⟩,iH (f:=λd=>.bool (rT (-4000) 4000 d)) hs' hds (by show 3<=1000;decide) (λi d x H2 hd s2 hx2 R kk S=>?_) (λys H2 s2 hys D hD=>?_)⟩
  ·exact aZ (B:=S H2) ⟨_,rfl,_,rfl,x,d,-4000,4000,rfl,hx2,kk _ _ ⟨ae.refl _,.bl _⟩⟩
  ·have hys:av K H2 ((r.ds.map (rT (-4000) 4000)).map SY) ys:=by rw[PR];exact hys
   have e:=dU hys;subst e;refine⟨D,_,rfl,bI.of ai,?_⟩;have e:(r.ds.map (rT (-4000) 4000)).all id=true:=by
    obtain⟨a1,a2,b1,b2,c1,c2⟩:=hin;show((decide (-4000<=r.a)&&decide (r.a<=4000))&&((decide (-4000<=r.b)&&decide (r.b<=4000))&&((decide (-4000<=r.c)&&decide (r.c<=4000))&&true)))=true;rw[Nq a1,Nq a2,Nq b1,Nq b2,Nq c1,Nq c2];rfl
   rw[e];exact q _ ((s1.trans s2).trans (ae.new hD))
theorem uK:ay j0 j0 (ag j8):=dD
inductive uP (K:HD)(vs:List V)(H:Hp)(Q:VK)(_:XK):Prop
 |mk (x:V) (s:S9) (_:vs=[x]) (_:aw K H s.d x) (_:s.In) (_:∀ H',ae H H'->Q (.bl true) H')
theorem vc (T:c8 K mg w):df P w K mg base (cN P w) 4 "is_square" j0 [] (uP K):=by
  refine T.x1f.cal uK (bb:=λ_ _ _ _ _ H vs Q E hr h=>?_);obtain⟨x,sq,rfl,hx,hin,q⟩:=h;refine⟨_,(cO.go (ah (au (fg (ax (EE (K:=K) rfl) (by rfl) T.x0 aG (aK (ao 0) (aX (aK (cF (v:=.ty "list") rfl T.x8 i8 rfl) (cF (v:=.ty "tuple") rfl T.x3 cG rfl))))) (fg (fq dh (ax (k_ (K:=K) rfl) (by rfl) T.x6 gQ (aH (ao 0))) ac (bh _)) (je (ax (oF (K:=K) rfl rfl) (by rfl) T.x7 jX (aH (aR ["row"] [] [] 1 (bH (K:=K) rfl (ao 0)) (λnd=>(am 0 nd)) aJ (aj aE (AV T) hr (aH (ao 0)))))))))))),?_⟩;refine⟨_,rfl,mV,λp hp=>?_⟩;have s1:ae H (upd H p (.tup [.ty "list",.ty "tuple"])):=ae.new hp;generalize hH1:upd H p (.tup [.ty "list",.ty "tuple"])=H1 at s1 ⊢;have hp1:H1 p=some (.tup [.ty "list",.ty "tuple"]):=by rw[<- hH1];exact ai
  have hx1:=aw.same s1 hx;obtain⟨T',ty,ek⟩:=CD hx1;refine⟨_,_,p,_,_,true,rfl,ty,hp1,ek,_,rfl,aZ ?_⟩;obtain⟨a,xs,rfl,ha,hds⟩:=bn hx1;have hl:=hds.length;refine⟨_,rfl,a,_,rfl,nE ha,_,_,rfl,rfl,true,zH (by rw[<- hl];rfl),aZ ?_⟩;refine⟨_,rfl,a,sq.k,rfl,⟨_,ha⟩,iH (f:=λ_=>.bool true) ha hds (by show 3<=1000;decide) (λi d x H2 hd s2 hx2 R kk S=>?_) (λys H2 s2 hys D hD=>?_)⟩
  ·refine aZ (B:=S H2) ⟨_,rfl,?_⟩
   match i,hd with
   |0,hd=>cases(Nb hd);exact⟨x,_,_,rfl,hx2,hin.x,λH' s'=>kk _ _ ⟨s',.bl _⟩⟩
   |1,hd=>cases(Nb hd);exact⟨x,_,_,rfl,hx2,hin.y,λH' s'=>kk _ _ ⟨s',.bl _⟩⟩
   |2,hd=>cases(Nb hd);exact⟨x,_,_,rfl,hx2,hin.z,λH' s'=>kk _ _ ⟨s',.bl _⟩⟩
   |n+3,hd=>simp[S9.rows] at hd
  ·have e:=dU (bs:=[true,true,true]) hys;subst e;exact⟨D,[true,true,true],rfl,bI.of ai,q _ ((s1.trans s2).trans (ae.new hD))⟩
theorem kW:ay j0 j0 (ag dQ):=dD
inductive kQ (K:HD)(vs:List V)(H:Hp)(Q:VK)(_:XK):Prop
 |mk (x:V) (s:S9) (_:vs=[x]) (_:aw K H s.d x) (_:s.In) (_:∀ H',ae H H'->Q .non H')
theorem kM (T:c8 K mg w):df P w K mg base (cN P w) 5 "refuse_no_square" j0 [] (kQ K):=by
  refine T.x1g.cal kW (bb:=λ_ _ _ _ _ H vs Q E hr h=>?_);obtain⟨x,sq,rfl,hx,hin,q⟩:=h;refine⟨_,(cO.go (ah (bg (bE (bD (aj aE (vc T) hr (aH (ao 0))))) (ah cQ) aN))),?_⟩;exact⟨_,rfl,x,sq,rfl,hx,hin,λH' s'=>⟨_,rfl,bJ (q _ s')⟩⟩
theorem fU:ay j0 j0 (ag dM):=dD
inductive kU (K:HD)(vs:List V)(H:Hp)(Q:VK)(_:XK):Prop
 |mk (x:V) (p r t:Rat) (_:vs=[x]) (_:aw K H (JV p r t) x) (_:∀ H',ae H H'->Q .non H')
theorem fS (T:c8 K mg w):df P w K mg base (cN P w) 4 "refuse_no_colour" j0 [] (kU K):=by
  refine T.xn.cal fU (bb:=λ_ _ _ _ _ H vs Q E hr h=>?_);obtain⟨x,p,r,t,rfl,hx,q⟩:=h;refine⟨_,(cO.go (ah (bg (bE (bD (aj aE (ml T) hr (aH (ao 0))))) (ah cQ) aN))),?_⟩;exact⟨_,rfl,x,p,r,t,rfl,hx,λH' s'=>⟨_,rfl,bJ (q _ s')⟩⟩
inductive ju (K:HD)(vs:List V)(H:Hp)(Q:VK)(E:XK):Prop
 |mk (x d) (_:vs=[x]) (_:aw K H d x) (_:(jw d=false->Rz K 6 H E)) (_:(jw d=true->∀ H',ae H H'->Q .non H'))
theorem cn (T:c8 K mg w):df P w K mg base (cN P w) 4 "refuse_no_colour" j0 [] (ju K):=by
  refine T.xn.calX fU (bb:=λ_ _ _ _ _ H vs Q E hr h=>?_);obtain⟨x,d,rfl,hd,qz,qn⟩:=h;refine⟨_,(cO.go (ah (bg (bE (bD (aj aE (rk T) hr (aH (ao 0))))) (ah (kC (K:=K) rfl bQ rfl rfl rfl (pL T.x1 (i:=6) rfl) (aH bB))) aN))),?_⟩;refine⟨_,rfl,x,d,rfl,hd,λH1 s1=>⟨_,rfl,?_⟩⟩;cases hs:jw d with
  |true=>exact bJ (qn hs _ s1)
  |false=>exact aZ ⟨xL,(qz hs).now s1 rfl⟩
theorem y7:ay tR tR (ag nv):=dD
inductive y8 (K:HD)(vs:List V)(H:Hp)(Q:VK)(_:XK):Prop
 |mk (x y:V) (k j:Bool) (r s:R3) (_:vs=[x,y]) (_:aw K H (jg k r) x) (_:aw K H (jg j s) y) (_:r.In 4000) (_:s.In 4000) (_:∀ v H',ae H H'->aw K H' (jg true (r.cross s)) v->Q v H')
theorem jd (T:c8 K mg w):df P w K mg base (cN P w) 1 "crossed" tR [] (y8 K):=by
  refine T.x1h.cal y7 (bb:=λ_ _ _ _ _ H vs Q E hr h=>?_);obtain⟨x,y,k,j,r,z,rfl,hx,hy,ir,iz,q⟩:=h;obtain⟨a,rfl,ha⟩:=hU hx;obtain⟨b,rfl,hb⟩:=hU hy;refine⟨_,(cO.go (ah (au (aV (aa (ar cT (ar aW (aI K (ao 0) ac) (aI K (ao 1) ac)) (ar aW (aI K (ao 0) ac) (aI K (ao 1) ac))) (aa (ar cT (ar aW (aI K (ao 0) ac) (aI K (ao 1) ac)) (ar aW (aI K (ao 0) ac) (aI K (ao 1) ac))) (aa (ar cT (ar aW (aI K (ao 0) ac) (aI K (ao 1) ac)) (ar aW (aI K (ao 0) ac) (aI K (ao 1) ac))) aB))))))),?_⟩;have c:∀ {u v:Int},-4000<=u->u<=4000->tT u v:=λh1 h2=>.inr ((jv h1 h2).mono (by decide))
  refine⟨_,rfl,rV (i:=1) ha rfl ⟨_,rfl,rV (i:=2) hb rfl ⟨_,_,rfl,rfl,c ir.b1 ir.b2,_,rfl,rV (i:=2) ha rfl ⟨_,rfl,rV (i:=1) hb rfl ⟨_,_,rfl,rfl,c ir.c1 ir.c2,_,_,rfl,rfl,?_⟩⟩⟩⟩⟩;refine⟨_,rfl,rV (i:=2) ha rfl ⟨_,rfl,rV (i:=0) hb rfl ⟨_,_,rfl,rfl,c ir.c1 ir.c2,_,rfl,rV (i:=0) ha rfl ⟨_,rfl,rV (i:=2) hb rfl ⟨_,_,rfl,rfl,c ir.a1 ir.a2,_,_,rfl,rfl,?_⟩⟩⟩⟩⟩;refine⟨_,rfl,rV (i:=0) ha rfl ⟨_,rfl,rV (i:=1) hb rfl ⟨_,_,rfl,rfl,c ir.a1 ir.a2,_,rfl,rV (i:=1) ha rfl ⟨_,rfl,rV (i:=0) hb rfl ⟨_,_,rfl,rfl,c ir.b1 ir.b2,_,_,rfl,rfl,?_⟩⟩⟩⟩⟩;refine⟨sk,λp hp=>?_⟩;exact q _ _ (ae.new hp) (aw.listN (ds:=(r.cross z).ds) hp (.cons (.int _) (.cons (.int _) (.cons (.int _) .nil))))
theorem mw:ay uC2 uC2 (ag jP):=dD
inductive uI (K:HD)(vs:List V)(H:Hp)(Q:VK)(_:XK):Prop
 |mk (x y:V) (k j:Bool) (r s:R3) (_:vs=[x,y]) (_:aw K H (jg k r) x) (_:aw K H (jg j s) y) (_:r.In 4000) (_:s.In 200000000) (_:∀ H',ae H H'->Q (.int (r.dot s)) H')
theorem uM (T:c8 K mg w):df P w K mg base (cN P w) 1 "whole_sum" uC2 [] (uI K):=by
  refine T.xo.cal mw (bb:=λ_ _ _ _ _ H vs Q E hr h=>?_);obtain⟨x,y,k,j,r,z,rfl,hx,hy,ir,iz,q⟩:=h;obtain⟨a,xs,rfl,ha,hxs⟩:=bn hx;obtain⟨b,ys,rfl,hb,hys⟩:=bn hy;have s40:∀ {u v:Int},-4000<=u->u<=4000->-200000000<=v->v<=200000000->Sm 60 (u*v):=λh1 h2 h3 h4=>((jv h1 h2).mul (show Sm 28 _ by unfold Sm;lia)).mono (by decide)
  refine⟨_,(cO.go (ah (au (ax (Hk (K:=K) rfl rfl) (by rfl) T.xb rH (aH (aR ["part","number"] [] [] 2 (iD (K:=K) rfl rfl T.x5 (aK (ao 0) (ao 1))) (λnd=>(b9 (K:=K) (n:=2) rfl rfl (aq (am 0 nd) (aq (am 1 nd) aY)))) aJ (ar aW (ao 0) (ao 1)))))))),?_⟩;refine⟨_,rfl,_,rfl,a,b,k,j,rfl,⟨_,ha⟩,⟨_,hb⟩,f8 (fs:=(R3.mk (r.a*z.a) (r.b*z.b) (r.c*z.c)).ds) ha hb hxs hys rfl rfl (by show 3<=1000;decide) (λi d e f u v T H1 hd he hf s1 hu hv hT R kk S=>?_) (λzs H1 s1 hzs D hD=>?_)⟩
  ·refine⟨T,_,rfl,cW.of hT,rfl,_,_,rfl,_,_,rfl,rfl,aZ (B:=S H1) ?_⟩;rcases vx hd with ⟨rfl,rfl⟩|⟨rfl,rfl⟩|⟨rfl,rfl⟩
   ·cases(Nb he);cases(Nb hf);cases hu;cases hv;exact⟨_,rfl,_,rfl,_,_,rfl,rfl,.inr ((jv ir.a1 ir.a2).mono (by decide)),kk _ _ ⟨ae.refl _,.int _⟩⟩
   ·cases(Nb he);cases(Nb hf);cases hu;cases hv;exact⟨_,rfl,_,rfl,_,_,rfl,rfl,.inr ((jv ir.b1 ir.b2).mono (by decide)),kk _ _ ⟨ae.refl _,.int _⟩⟩
   ·cases(Nb he);cases(Nb hf);cases hu;cases hv;exact⟨_,rfl,_,rfl,_,_,rfl,rfl,.inr ((jv ir.c1 ir.c2).mono (by decide)),kk _ _ ⟨ae.refl _,.int _⟩⟩
  ·cases eX hzs;exact⟨D,_,_,_,rfl,bI.of ai,s40 ir.a1 ir.a2 iz.a1 iz.a2,s40 ir.b1 ir.b2 iz.b1 iz.b2,s40 ir.c1 ir.c2 iz.c1 iz.c2,q _ (s1.trans (ae.new hD))⟩
inductive rq (K:HD)(vs:List V)(H:Hp)(Q:VK)(_:XK):Prop
 |mk (a b:Nn) (k j:Bool) (ns ms:List Int) (_:vs=[.ref a,.ref b]) (_:bX K H a (ns.map V.int) k) (_:bX K H b (ms.map V.int) j) (_:ns.length=ms.length) (_:ns.length<=1000) (_:(∀ n∈ns,Sm 8000 n)) (_:(∀ m∈ms,Sm 8000 m)) (_:∀ H',ae H H'->Q (.int (QN (·*·) ns ms).sum) H')
theorem jO (T:c8 K mg w):df P w K mg base (cN P w) 1 "whole_sum" uC2 [] (rq K):=by
  refine T.xo.cal mw (bb:=λ_ _ _ _ _ H vs Q E hr h=>?_);obtain⟨a,b,k,j,ns,ms,rfl,ha,hb,hl,h10,sn,sm,q⟩:=h;refine⟨_,(cO.go (ah (au (ax (uF (K:=K) rfl rfl) (by rfl) T.xb rH (aH (aR ["part","number"] [] [] 2 (iD (K:=K) rfl rfl T.x5 (aK (ao 0) (ao 1))) (λnd=>(b9 (K:=K) (n:=2) rfl rfl (aq (am 0 nd) (aq (am 1 nd) aY)))) aJ (ar aW (ao 0) (ao 1)))))))),?_⟩;refine⟨_,rfl,_,rfl,a,b,k,j,rfl,⟨_,ha⟩,⟨_,hb⟩,f8 (fs:=(QN (·*·) ns ms).map P1) ha hb (gM ns) (gM ms) (by simp[hl]) (by simp[hl]) (by simp;lia) (λi d e g x y T H1 hd he hg s1 hx hy hT R kk S=>?_) (λzs H1 s1 hzs D hD=>?_)⟩
  ·rw[NB] at hd he hg;obtain⟨n,en,rfl⟩:=Nz.mp hd;obtain⟨m,em,rfl⟩:=Nz.mp he;obtain⟨z,ez,rfl⟩:=Nz.mp hg;rw[Sw] at ez;obtain⟨n',m',en',em',rfl⟩:=ez;rw[en] at en';rw[em] at em';cases en';cases em';cases hx;cases hy;exact⟨T,_,rfl,cW.of hT,rfl,_,_,rfl,_,_,rfl,rfl,aZ (B:=S H1) ⟨_,rfl,_,rfl,_,_,rfl,rfl,.inl ⟨sn _ (NJ en),sm _ (NJ em)⟩,kk _ _ ⟨ae.refl _,.int _⟩⟩⟩
  ·have e:=bT hzs;subst e;exact⟨D,_,rfl,bI.of ai,q _ (s1.trans (ae.new hD))⟩
theorem AO:ay ["square"] ["square"] (ag qj):=dD
inductive BH (K:HD)(vs:List V)(H:Hp)(Q:VK)(_:XK):Prop
 |mk (x:V) (s:S9) (_:vs=[x]) (_:aw K H s.d x) (_:s.In) (_:∀ H',ae H H'->Q (.int s.det) H')
theorem A6 (T:c8 K mg w):df P w K mg base (cN P w) 6 "volume" ["square"] [] (BH K):=by
  refine T.x1i.cal AO (bb:=λ_ _ _ _ _ H vs Q E hr h=>?_);obtain⟨x,sq,rfl,hx,hin,q⟩:=h;refine⟨_,(cO.go (af (bo (aj aE (kM T) hr (aH (ao 0))))
   (ah (au (aj aE (uM T) hr (aK (aI K (ao 0) ac) (aj aE (jd T) hr (aK (aI K (ao 0) ac) (aI K (ao 0) ac))))))))),?_⟩
  refine⟨_,rfl,x,sq,rfl,hx,hin,λH1 s1=>?_⟩;have hx1:=aw.same s1 hx;obtain⟨a,xs,rfl,ha,hds⟩:=bn hx1;obtain⟨x0,x1,x2,rfl,g0,g1,g2⟩:=cV hds;refine⟨_,rfl,rV (i:=0) ha rfl ⟨_,rfl,rV (i:=1) ha rfl ⟨_,rfl,rV (i:=2) ha rfl ⟨x1,x2,_,_,sq.y,sq.z,rfl,g1,g2,hin.y,hin.z,λv H2 s2 hv=>?_⟩⟩⟩⟩;refine⟨x0,v,_,true,sq.x,sq.y.cross sq.z,rfl,aw.same s2 g0,hv,hin.x,?_,λH3 s3=>?_⟩
  ·exact gC hin.y hin.z
  ·have e:sq.x.dot (sq.y.cross sq.z)=sq.det:=by
    simp only[R3.dot,R3.cross,S9.det];grind
   rw[e];exact q _ ((s1.trans s2).trans s3)
theorem wG:ay j0 j0 (ag lK):=dD
inductive wA (K:HD)(vs:List V)(H:Hp)(Q:VK)(_:XK):Prop
 |mk (x:V) (d:NQ) (_:vs=[x]) (_:aw K H d x) (_:Q (.bl (rT 2 7 d)) H)
theorem xG (T:c8 K mg w):df P w K mg base (cN P w) 3 "is_knots" j0 [] (wA K):=by
  refine T.x1j.cal wG (bb:=λ_ _ _ _ _ H vs Q E hr h=>?_);obtain⟨x,d,rfl,hx,q⟩:=h;refine⟨_,(cO.go (ah (au (aj aE (ck T) hr (aa (ao 0) (aa (cC rfl T.xs) (aa (cC rfl T.xv) aB))))))),?_⟩;exact⟨_,rfl,x,d,2,7,rfl,hx,q⟩
theorem xX:ay uA3 uA3 (ag nY):=dD
inductive yL (K:HD)(vs:List V)(H:Hp)(Q:VK)(_:XK):Prop
 |mk (x:V) (ns:List Int) (n:Int) (_:vs=[x,.int n]) (_:aw K H (.tuple (ns.map P1)) x) (_:ns.length=3) (_:∀ H',ae H H'->Q (.bl (ns.all λk=>decide (0<=k)&&decide (k<=n-1))) H')
theorem qE (T:c8 K mg w):df P w K mg base (cN P w) 4 "is_knot" uA3 [] (yL K):=by
  refine T.x1k.cal xX (bb:=λ_ _ _ _ _ H vs Q E hr h=>?_);obtain⟨x,ns,n,rfl,hx,hl,q⟩:=h;refine⟨_,(cO.go (ah (au (aj aE (gH T) hr (aa (ao 0) (aa ac (aa ac (aa (ar cT (ao 1) ac) aB)))))))),?_⟩;exact⟨_,rfl,_,rfl,_,_,rfl,rfl,x,ns,3,0,n-1,rfl,hx,by lia,by lia,q⟩
theorem vK:ay j0 j0 (ag lA):=dD
inductive wg (K:HD)(vs:List V)(H:Hp)(Q:VK)(_:XK):Prop
 |mk (x:V) (ns:List Int) (_:vs=[x]) (_:aw K H (.tuple (ns.map P1)) x) (_:ns.length=3) (_:∀ H',ae H H'->Q (.bl (ns.all λk=>decide (0<=k)&&decide (k<=1000))) H')
theorem xK (T:c8 K mg w):df P w K mg base (cN P w) 4 "is_worth" j0 [] (wg K):=by
  refine T.x1l.cal vK (bb:=λ_ _ _ _ _ H vs Q E hr h=>?_);obtain⟨x,ns,rfl,hx,hl,q⟩:=h;refine⟨_,(cO.go (ah (au (aj aE (gH T) hr (aa (ao 0) (aa ac (aa ac (aa (cC rfl T.xu) aB)))))))),?_⟩;exact⟨_,rfl,x,ns,3,0,1000,rfl,hx,by lia,by lia,q⟩
theorem DE:ay ["knots"] ["knots"] (ag ud):=dD
inductive CH (K:HD)(vs:List V)(H:Hp)(Q:VK)(_:XK):Prop
 |mk (n:Nat) (_:vs=[.int n]) (_:2<=n) (_:n<=7) (_:Q (.int (pY n)) H)
theorem EC (T:c8 K mg w):df P w K mg base (cN P w) 1 "apart" ["knots"] [] (CH K):=by
  refine T.x1m.cal DE (bb:=λ_ _ _ _ _ H vs Q E hr h=>?_);obtain⟨n,rfl,h2,h7,q⟩:=h;refine⟨_,(cO.go (ah (au (ar di (cC rfl T.xc) (ar cT (ao 0) ac))))),?_⟩;refine⟨_,rfl,_,_,rfl,rfl,_,_,rfl,rfl,⟨by lia,Sm.mono (k:=20) (by unfold Sm;lia) (by decide)⟩,?_⟩;dsimp only;rw[Pn _ (by lia)];exact q
theorem wz:ay uA3 uA3 (ag lH):=dD
inductive vZ (K:HD)(vs:List V)(H:Hp)(Q:VK)(_:XK):Prop
 |mk (d:Nn) (n:Nat) (f:Kn->R3) (_:vs=[.ref d,.int n]) (_:Gr K H n f d) (_:GM n f) (_:n<=7) (_:∀ H',ae H H'->Q (.bl true) H')
theorem vz (T:c8 K mg w):df P w K mg base (cN P w) 5 "is_table" uA3 [] (vZ K):=by
  refine T.x1n.cal wz (bb:=λ_ _ _ _ _ H vs Q E hr h=>?_);obtain⟨d,n,f,rfl,hg,hw,h7,q⟩:=h;obtain⟨ts,pm,vs,hd,hvs⟩:=hg;have hlen:=BG.len hvs;have kl:(me ts vs).length=n^3:=by rw[uY hlen,pm.length_eq,eO]
  have n3:n^3<=7^3:=Qz h7 3;refine⟨_,(cO.go (af (bg (WW.pt (fF (bE (bD (ax (oU (K:=K) rfl) (by rfl) T.x0 aG (aK (ao 0) (cF (v:=.ty "dict") rfl T.xi Ap rfl))))) (ff (aQ nO (ax BP (by rfl) T.x6 gQ (aH (ao 0))) (ar CS (ao 1) ac) (bh _))))) (ah (au dk)) aN)
   (ah (au (ax (oF (K:=K) rfl rfl) (by rfl) T.x7 jX (aH (EN (aR ["place","worth"] ["knots"] [1] 2 (AW (ao 0)) (λnd=>(b9 (K:=K) (n:=2) rfl rfl (aq (am 0 nd) (aq (am 1 nd) aY)))) aJ (fg (aj aE (qE T) hr (aK (ao 0) (ao 2))) (je (aj aE (xK T) hr (aH (ao 1))))))))))))),?_⟩
  refine⟨_,rfl,_,_,_,true,rfl,.dT hd,(show cS "dict" "dict"=some true by decide +kernel),_,rfl,bJ ?_⟩;refine⟨_,rfl,d,_,rfl,.inl hd,_,rfl,_,_,rfl,rfl,⟨by decide,by decide,by lia⟩,_,_,rfl,rfl,false,?_,bJ ?_⟩
  ·show V.bl (!decide (((me ts vs).length:Int)=(n:Int)^(3:Int).toNat))=_;rw[kl,Nq (by show((n^3:Nat):Int)=(n:Int)^3;simp)];rfl
  refine⟨_,rfl,d,_,rfl,hd,λo=>xU (d:=d) (bs:=Np (me ts vs).length true) ai (by simp) (by lia) (λi k x ka T b H1 hk hb s1 hka hT R kk S=>?_) (λH1 s1 D hD=>?_)⟩
  ·obtain⟨t,e1,rfl,e2⟩:=GG hk;have hb:b=true:=by
    rw[Rx] at hb
    split at hb
    ·exact(Nb hb).symm
    ·cases hb
   subst hb;have ht:t∈aU n:=pm.mem_iff.mp (NJ e1);have hm:=cZ.mp ht;have wt:=hw t ht;have hx:aw K H1 (wD (f t)) x:=by
    obtain⟨dd,ed,hx⟩:=hvs.get e2;rw[NB,e1] at ed;cases ed;have hT':aw K (upd H d (.frz o (.dT (me ts vs)))) (wD (f t)) x:=by
     obtain⟨a,xs,rfl,ha,hxs⟩:=bn (b:=false) (ds:=(f t).ds) hx;have hx':aw K H (.tuple (f t).ds) (.ref a):=hx;cases hx' with
     |tup h1 h2=>exact .tup (by rw[az (λz=>by rw[z,hd] at h1;cases h1)];exact h1) (by cases eX h2;exact .cons (.int _) (.cons (.int _) (.cons (.int _) .nil)))
    exact aw.same s1 hT'
   have e3:([(t.1:Int),(t.2.1:Int),(t.2.2:Int)].all λk=>decide (0<=k)&&decide (k<=(n:Int)-1))=true:=by
    simp only[Ru,Ws,VF,NO,Uc];lia
   have e4:([(f t).a,(f t).b,(f t).c].all λk=>decide (0<=k)&&decide (k<=1000))=true:=by
    obtain⟨a0,a1,b0,b1,c0,c1⟩:=wt;simp only[Ru,Ws,VF,NO,Uc];lia
   refine⟨T,_,rfl,cW.of hT,rfl,_,_,rfl,_,_,rfl,rfl,aZ (B:=S H1) ?_⟩;refine⟨_,rfl,_,rfl,.ref ka,[(t.1:Int),(t.2.1:Int),(t.2.2:Int)],n,rfl,iB hka,rfl,λH2 s2=>⟨true,by rw[e3],aZ ?_⟩⟩;exact⟨_,rfl,x,[(f t).a,(f t).b,(f t).c],rfl,aw.same s2 hx,rfl,λH3 s3=>by rw[e4];exact kk _ _ ⟨s2.trans s3,rfl⟩⟩
  ·have nd:D≠d:=λz=>by rw[z,s1 _ _ ai] at hD;cases hD
   refine⟨d,o,me ts vs,hd,by rw[az (Px nd)];exact s1 _ _ ai,D,_,rfl,bI.of (by rw[az nd];exact ai),?_⟩;rw[show(Np (me ts vs).length true).all id=true by simp];refine q _ λb u e=>?_
   by_cases hb:b=d
   ·subst hb;rw[hd] at e;cases e;exact ai
   ·rw[az hb];have e':=s1 b u (by rw[az hb];exact e);rw[az (λz=>by rw[z,hD] at e';cases e')];exact e'
theorem f9:ay j0 j0 (ag cu):=dD
inductive gy (K:HD)(vs:List V)(H:Hp)(Q:VK)(_:XK):Prop
 |mk (x:V) (c:Q3) (_:vs=[x]) (_:aw K H c.col x) (_:c.Wi ((60:Int):Rat)) (_:c.Bd 3000) (_:∀ H',ae H H'->Q .non H')
theorem rC {p:Rat}{m:Int}(h0:0<=p)(h1:p<=(m:Rat)):(decide (0*(p.den:Int)<=p.num)&&decide (p.num<=m*(p.den:Int)))=true:=by
 have e1:decide (0*(p.den:Int)<=p.num)=true:=Nq (by rw[Int.zero_mul];exact Rat.num_nonneg.mpr h0);have e2:decide (p.num<=m*(p.den:Int))=true:=Nq (by
  have h:=(Rat.le_iff p (m:Rat)).mp h1;rw[Rat.num_intCast,Rat.den_intCast] at h
  simpa using h)
 rw[e1,e2];rfl
theorem gR (T:c8 K mg w):df P w K mg base (cN P w) 4 "refuse_no_device_colour" j0 [] (gy K):=by
  refine T.x1o.cal f9 (bb:=λ_ _ _ _ _ H vs Q E hr h=>?_);obtain⟨x,c,rfl,hx,hw,hb,q⟩:=h;refine⟨_,(cO.go (ah (bg (WW.pt (fF (bE (bD (aj aE (ml T) hr (aH (ao 0))))) (ff (bE (bD (ax (oF (K:=K) rfl rfl) (by rfl) T.x7 jX (aH (aR uD1 [] [] 1 (bH (K:=K) rfl (ao 0)) (λnd=>(am 0 nd)) aJ (aj aE (uj T) hr (aa (ao 0) (aa ac (aa (cC rfl T.xc) aB)))))))))))) (ah cQ) aN))),?_⟩;refine⟨_,rfl,x,c.a,c.b,c.c,rfl,hx,λH1 s1=>⟨_,rfl,bJ ?_⟩⟩;obtain⟨a,xs,rfl,ha,hds⟩:=bn (b:=false) (ds:=c.ds) (aw.same s1 hx);have s60:Sm 60 (60:Int):=by unfold Sm;decide
  have s00:Sm 60 (0:Int):=by unfold Sm;decide
  refine⟨_,rfl,a,false,rfl,⟨_,ha⟩,bW (es:=[.bool true,.bool true,.bool true]) ha hds rfl (by show 3<=1000;decide) (λi d e u H2 hd he s2 hu R kk S=>?_) (λzs H2 s2 hzs D hD=>?_)⟩
  ·refine aZ (B:=S H2) ⟨_,rfl,?_⟩;rcases vx hd with ⟨rfl,rfl⟩|⟨rfl,rfl⟩|⟨rfl,rfl⟩
   ·cases(Nb he);exact⟨u,c.a,0,60,rfl,hu,hb.a.mono (by decide),s00,s60,by rw[rC hw.a0 hw.a1];exact kk _ _ ⟨ae.refl _,.bl _⟩⟩
   ·cases(Nb he);exact⟨u,c.b,0,60,rfl,hu,hb.b.mono (by decide),s00,s60,by rw[rC hw.b0 hw.b1];exact kk _ _ ⟨ae.refl _,.bl _⟩⟩
   ·cases(Nb he);exact⟨u,c.c,0,60,rfl,hu,hb.c.mono (by decide),s00,s60,by rw[rC hw.c0 hw.c1];exact kk _ _ ⟨ae.refl _,.bl _⟩⟩
  ·have e:=dU (bs:=[true,true,true]) hzs;subst e;exact⟨D,_,rfl,bI.of ai,_,rfl,bJ (q _ ((s1.trans s2).trans (ae.new hD)))⟩
theorem jm:ay ["many","numbers"] ["many"] (ag gT):=dD
inductive pC (K:HD)(vs:List V)(H:Hp)(Q:VK)(_:XK):Prop
 |mk (n:Nat) (_:vs=[.int n]) (_:n<=7) (_:∀ (D:Nn) (ys:List V) (H':Hp),ae H H'->H' D=some (.lst ys)->av K H' ((aU n).map Fv) ys->Q (.ref D) H')
theorem fC (T:c8 K mg w):df P w K mg base (cN P w) 1 "places_below" ["many"] [] (pC K):=by
  refine T.x1p.cal jm (bb:=λ_ _ _ _ _ H vs Q E hr h=>?_);obtain⟨n,rfl,h7,q⟩:=h;refine⟨_,(cO.go (af (aA 1 jm.nd (bN (uw rfl) (by rfl) T.x8 i8 (aa (Ad rfl T.x4 (aH (ao 0))) aB)))
   (ah (au (n_ rfl (bH (K:=K) rfl (ao 1)) (mj (by decide +kernel) (by rfl)) (qX (ts:=["a","b","c"]) (cs:=["numbers"]) (js:=[1]) (k:=3) (by rfl) rfl rfl) (λ_ _ _ _ _=>(am 0 (show RY (α:=Str) uC7 by decide +kernel))) (λ_ _ _ _ _=>aJ) (λ_ _ _ _ _=>(mq rfl rfl rfl (bH (K:=K) rfl (ao 3)) (am 1 (show RY (α:=Str) uC7 by decide +kernel)) aJ (mq rfl rfl rfl (bH (K:=K) rfl (ao 3)) (am 2 (show RY (α:=Str) uC7 by decide +kernel)) aJ (qk rfl rfl (aX (aa (ao 0) (aa (ao 1) (aa (ao 2) aB))))))))))))),?_⟩
  refine⟨_,rfl,n,rfl,by lia,λp hp=>⟨p,n,rfl,ai,by lia,λl hl=>?_⟩⟩;have s0:ae H (upd (upd H p (.rng 0 n)) l (.lst ((rO n).map V.int))):=(ae.new hp).trans (ae.new hl);have hl0:bX K (upd (upd H p (.rng 0 n)) l (.lst ((rO n).map V.int))) l ((rO n).map V.int) true:=bI.of ai;generalize upd (upd H p (.rng 0 n)) l (.lst ((rO n).map V.int))=H0 at s0 hl0 ⊢;refine⟨_,rfl,l,true,rfl,⟨_,hl0⟩,nB (xs:=(rO n).map V.int) (λi ys H'=>ae H0 H'/\av K H' ((r9 n i).map Fv) ys) ⟨ae.refl _,.nil⟩ (λi ys H' _ p=>bX.same p.1 hl0) (λi x ys H1 hx p R kk S=>?_) (λys H1 p=>?_)⟩
  ·obtain⟨hi,rfl⟩:=vv hx;obtain⟨s1,d1⟩:=p;refine aZ (B:=S H1) ⟨_,rfl,l,true,rfl,⟨_,bX.same s1 hl0⟩,mE (xs:=(rO n).map V.int) (λj σ ys' H'=>(∃ o1 o2,σ=[some (.int i),o1,o2,some (.ref l)])/\ae H0 H'/\av K H' ((r9 n i++rS n i j).map Fv) ys') ⟨⟨none,none,rfl⟩,s1,by simpa [rS] using d1⟩ (λj σ ys' H' _ p=>bX.same p.2.1 hl0) (λj x σ ys' H2 hx p R2 kk2 S2=>?_) (λσ ys' H2 p=>?_)⟩
   ·obtain⟨hj,rfl⟩:=vv hx;obtain⟨⟨o1,o2,rfl⟩,s2,d2⟩:=p;refine aZ (B:=S2 [some (.int i),some (.int j),o2,some (.ref l)] H2) ⟨_,rfl,l,true,rfl,⟨_,bX.same s2 hl0⟩,mE (xs:=(rO n).map V.int) (λk σ ys'' H'=>(∃ o2,σ=[some (.int i),some (.int j),o2,some (.ref l)])/\ae H0 H'/\av K H' ((r9 n i++rS n i j++tU i j k).map Fv) ys'') ⟨⟨o2,rfl⟩,s2,by simpa [tU] using d2⟩ (λj σ ys' H' _ p=>bX.same p.2.1 hl0) (λk x σ ys'' H3 hx p R3 kk3 S3=>?_) (λσ ys'' H3 p=>?_)⟩
    ·obtain⟨hk,rfl⟩:=vv hx;obtain⟨⟨o3,rfl⟩,s3,d3⟩:=p;have hlen:=d3.length;rw[Ni] at hlen;refine aZ (B:=S3 [some (.int i),some (.int j),some (.int k),some (.ref l)] H3) ⟨bP (by rw[<- hlen];exact NP (Cc h7 hi hj (PV hk)) (by decide)),_,rfl,_,rfl,_,rfl,sk,λp hp=>kk3 _ _ _ ⟨⟨_,rfl⟩,s3.trans (ae.new hp),?_⟩⟩;rw[wZ,<- PZ,Ot];exact(av.same (ae.new hp) d3).snoc (iB (t:=(i,j,k)) ai)
    ·obtain⟨⟨o3,rfl⟩,s3,d3⟩:=p;rw[Ni,ig] at d3;exact kk2 _ _ _ ⟨⟨_,_,rfl⟩,s3,by rw[qf,<- PZ];exact d3⟩
   ·obtain⟨⟨o1,o2,rfl⟩,s2,d2⟩:=p;rw[Ni,ig] at d2;exact kk _ _ _ ⟨s2,by rw[qY];exact d2⟩
  ·obtain⟨s1,d1⟩:=p;rw[Ni,ig,Fc] at d1;have hlen:=d1.length;rw[Ni,eO] at hlen;refine⟨?_,λD hD=>q D ys _ ((s0.trans s1).trans (ae.new hD)) ai (av.same (ae.new hD) d1)⟩;have:n^3<=7^3:=Qz h7 3;lia
theorem EM:ay uC8 uC8 (ag uO):=dD
inductive CO (K:HD)(vs:List V)(H:Hp)(Q:VK)(_:XK):Prop
 |mk (a b:Nn) (ns ms:List Int) (_:vs=[.ref a,.ref b]) (_:cW K H a (ns.map V.int)) (_:cW K H b (ms.map V.int)) (_:ns.length=ms.length) (_:ns.length<=10) (_:∀ (p:Nn) (H':Hp),ae H H'->H' p=some (.tup ((QN (·+·) ns ms).map V.int))->Q (.ref p) H')
theorem wu (T:c8 K mg w):df P w K mg base (cN P w) 1 "moved" uC8 [] (CO K):=by
  refine T.x1q.cal EM (bb:=λ_ _ _ _ _ H vs Q E hr h=>?_);obtain⟨a,b,ns,ms,rfl,ha,hb,hl,h10,q⟩:=h;refine⟨_,(cO.go (ah (au (bN (i_ (K:=K) rfl) (by rfl) T.x3 cG (aH (aR ["number","step"] [] [] 2 (iD (K:=K) rfl rfl T.x5 (aK (ao 0) (ao 1))) (λnd=>(b9 (K:=K) (n:=2) rfl rfl (aq (am 0 nd) (aq (am 1 nd) aY)))) aJ (ar fG (ao 0) (ao 1)))))))),?_⟩;refine⟨_,rfl,_,rfl,a,b,false,false,rfl,⟨_,ha⟩,⟨_,hb⟩,f8 (fs:=(QN (·+·) ns ms).map P1) (show bX K H a (ns.map V.int) false from ha) (show bX K H b (ms.map V.int) false from hb) (gM ns) (gM ms) (by simp[hl]) (by simp[hl]) (by simp;lia) (λi d e g x y T H1 hd he hg s1 hx hy hT R kk S=>?_) (λzs H1 s1 hzs D hD=>?_)⟩
  ·rw[NB] at hd he hg;obtain⟨n,en,rfl⟩:=Nz.mp hd;obtain⟨m,em,rfl⟩:=Nz.mp he;obtain⟨z,ez,rfl⟩:=Nz.mp hg;rw[Sw] at ez;obtain⟨n',m',en',em',rfl⟩:=ez;rw[en] at en';rw[em] at em';cases en';cases em';cases hx;cases hy;exact⟨T,_,rfl,cW.of hT,rfl,_,_,rfl,_,_,rfl,rfl,aZ (B:=S H1) ⟨_,rfl,_,rfl,_,_,rfl,rfl,kk _ _ ⟨ae.refl _,.int _⟩⟩⟩
  ·have e:=bT hzs;subst e;exact⟨D,_,rfl,.inl ⟨bI.of ai,λl hl=>q _ _ ((s1.trans (ae.new hD)).trans (ae.new hl)) ai⟩⟩
theorem bO:ay ["far","whole","corner","left","parts","way"] uB1 (ag cx):=dD
inductive iJ (K:HD)(vs:List V)(H:Hp)(Q:VK)(_:XK):Prop
 |mk (a:Nn) (x y z whole:Int) (_:vs=[.ref a,.int whole]) (_:bI K H a [.int x,.int y,.int z]) (_:yS K "parts_by_four" H) (_:∀ (o:Nat×Nat×Nat) (D:Nn) (ys:List V) (H':Hp),o∈jV->aT x y z o.2.1<=aT x y z o.1->aT x y z o.2.2<=aT x y z o.2.1->ae H H'->H' D=some (.lst ys)->av K H' ((gW (aT x y z) whole o.1 o.2.1 o.2.2).map Dh) ys->Q (.ref D) H')
theorem nM (T:c8 K mg w):df P w K mg base (cN P w) 2 "parts_by_four" uB1 [] (iJ K):=by
  refine T.x2n.cal bO (bb:=λ_ _ _ _ _ H vs Q E hcv hr h=>?_);obtain⟨a,x,y,z,whole,rfl,ha,⟨Pt,tb,hP⟩,q⟩:=h;obtain⟨c,rfl,hcd⟩:=hcv Pt tb;refine⟨_,(cO.go (af (aA 2 bO.nd (aX (aa ac (aa ac (aa ac aB)))))
   (af (aA 3 bO.nd (ao 1))
   (af (aA 4 bO.nd (aV aB))
   (af (dn Ow rfl (bH (K:=K) rfl (ww (K:=K) (i:=0) rfl rfl hr rfl T.xk rfl hcd rfl rfl (Ad rfl T.x4 (aH ac)))) (am 5 bO.nd) (af (bo (on Ph PQ Qp kB (ao 4) (aH (aX (aK (ao 2) (ar cT (ao 3) (aI K (ao 0) (ao 5))))))))
   (af (aA 2 bO.nd (aj aE (wu T) hr (aK (ao 2) (aI K (An (K:=K) (rows:=[[1,0,0],[0,1,0],[0,0,1]]) rfl T.x2m) (ao 5)))))
   (ah (aA 3 bO.nd (aI K (ao 0) (ao 5)))))))
   (af (bo (on Ph PQ Qp kB (ao 4) (aH (aX (aK (ao 2) (ao 3))))))
   (ah (au (ao 4))))))))),?_⟩
  refine⟨sk,λc0 hc0=>⟨_,rfl,by decide,λPa hPa=>⟨3,rfl,by decide,λrg hrg=>?_⟩⟩⟩;have s0:ae H (upd (upd (upd H c0 (.tup [.int 0,.int 0,.int 0])) Pa (.lst [])) rg (.rng 0 3)):=((ae.new hc0).trans (ae.new hPa)).trans (ae.new hrg);have gc:upd (upd (upd H c0 (.tup [.int 0,.int 0,.int 0])) Pa (.lst [])) rg (.rng 0 3) c0=some (.tup (fZ (0,0,0))):=ae.new hrg _ _ (ae.new hPa _ _ ai);have gP:upd (upd (upd H c0 (.tup [.int 0,.int 0,.int 0])) Pa (.lst [])) rg (.rng 0 3) Pa=some (.lst []):=ae.new hrg _ _ ai;have gr:upd (upd (upd H c0 (.tup [.int 0,.int 0,.int 0])) Pa (.lst [])) rg (.rng 0 3) rg=some (.rng 0 3):=ai;have fP:H Pa=none:=(ae.new (o:=.tup [.int 0,.int 0,.int 0]) hc0).free hPa;generalize upd (upd (upd H c0 (.tup [.int 0,.int 0,.int 0])) Pa (.lst [])) rg (.rng 0 3)=H1 at s0 gc gP gr ⊢;refine⟨rg,3,a,[x,y,z],rfl,gr,by decide,rfl,s0.seq ha,rfl,s0 _ _ hP,λH2 D order s2 hD perm pw=>?_⟩;obtain⟨⟨u,v,w⟩,ho,rfl⟩:=Jc perm;obtain⟨u3,v3,w3⟩:=yw ho;have p1:aT x y z v<=aT x y z u:=by
   have:=(Tq.mp pw).1 (v:Int) (by simp)
   rwa [kD u3,kD v3] at this
  have p2:aT x y z w<=aT x y z v:=by
   have:=(Tq.mp (Tq.mp pw).2).1 (w:Int) (by simp)
   rwa [kD v3,kD w3] at this
  have s3:ae H (upd H2 D (.lst ([(u:Int),(v:Int),(w:Int)].map V.int))):=(s0.trans s2).trans (ae.new hD);have hD3:bX K (upd H2 D (.lst ([(u:Int),(v:Int),(w:Int)].map V.int))) D [.int (u:Int),.int (v:Int),.int (w:Int)] true:=bI.of ai;have gc3:=(s2.trans (ae.new (o:=.lst ([(u:Int),(v:Int),(w:Int)].map V.int)) hD)) _ _ gc;have gP3:=(s2.trans (ae.new (o:=.lst ([(u:Int),(v:Int),(w:Int)].map V.int)) hD)) _ _ gP;have DP:D≠Pa:=λz=>by rw[z,s2 _ _ gP] at hD;cases hD
  generalize upd H2 D (.lst ([(u:Int),(v:Int),(w:Int)].map V.int))=H3 at s3 hD3 gc3 gP3 ⊢;have fr:∀ {H':Hp},Mv [Pa] H3 H'->∀ b o,H3 b=some o->b≠Pa->H' b=some o:=λm b o e n=>m b o e (by simp[n])
  have sq:∀ {H':Hp},Mv [Pa] H3 H'->bI K H' a [.int x,.int y,.int z]:=λ{H'} m=>by
   have aP:∀ o,H a=some o->H' a=some o:=λo e=>m _ _ (s3 _ _ e) (λz=>by rw[Nm.mp z,fP] at e;cases e)
   rcases ha with (h|⟨o,h⟩)|h
   ·exact .inl (.inl (aP _ h))
   ·exact .inl (.inr ⟨o,aP _ h⟩)
   ·exact .inr h
  have hlD:∀ {H':Hp},Mv [Pa] H3 H'->bX K H' D [.int (u:Int),.int (v:Int),.int (w:Int)] true:=λ{H'} m=>by
   rcases hD3 with (h|⟨o,h⟩)|h
   ·exact .inl (.inl (fr m _ _ h DP))
   ·exact .inl (.inr ⟨o,fr m _ _ h DP⟩)
   ·exact .inr h
  have iC:∀ (g:Nat) (cc:Kn) (left:Int) (ps:List Pc) (H4:Hp) (ca:Nn) (ys:List V),g < 3->Mv [Pa] H3 H4->H4 ca=some (.tup (fZ cc))->H4 Pa=some (.lst ys)->av K H4 (ps.map Dh) ys->ps.length <= 10 ->
    ∀ R:Hp->Nn->List V->Prop,(∀ H5 cb zs,Mv [Pa] H3 H5->H5 cb=some (.tup (fZ (aF cc (un g))))->H5 Pa=some (.lst zs)->av K H5 ((ps++[(cc,left-aT x y z g)]).map Dh) zs->R H5 cb zs) ->
    ∀ p,H4 p=none->(∀ sa,Bl K sa [[1,0,0],[0,1,0],[0,0,1]]->∃ (bs:List V) (b:Nn),KT K sa bs/\EW bs (g:Int)=some (.ref b)/\KT K b (fZ (un g))) /\
     ∀ cb H5,ae (upd (upd H4 p (.tup [.ref ca,.int (left-aT x y z g)])) Pa (.lst (ys++[.ref p]))) H5->H5 cb=some (.tup (fZ (aF cc (un g))))->R H5 cb (ys++[.ref p]):=by
   intro g cc left ps H4 ca ys g3 m4 hca hPa4 hys hpl R kk p hp;refine⟨λsa hs=>Ef hs g3,λcb H5 s5 hcb=>?_⟩;have pP:p≠Pa:=λz=>by rw[z,hPa4] at hp;cases hp
   have m5:Mv [Pa] H4 (upd (upd H4 p (.tup [.ref ca,.int (left-aT x y z g)])) Pa (.lst (ys++[.ref p]))):=λb o e n=>by
    rw[az (λz=>n (by simp[z])),az (aS e hp)];exact e
   have li:hV H4 [Pa]:=λb mm=>⟨ys,by rw[Nm.mp mm];exact hPa4⟩
   refine kk H5 cb _ ((m4.trans m5).trans (Mv.of s5)) hcb (s5 _ _ ai) ?_;rw[Ot];refine av.same s5 ((av.mv m5 li (pJ ps) hys).snoc (.tup (by rw[az pP];exact ai) (.cons ?_ (.cons (.int _) .nil))));exact iB (m5 _ _ hca (λz=>by rw[Nm.mp z,hPa4] at hca;cases hca))
  refine ⟨D,true,rfl,⟨_,hD3⟩,kA (xs:=[.int (u:Int),.int (v:Int),.int (w:Int)]) (fun i σ H'=>∃ (ca:Nn) (ys:List V) (ow:Option V) (cc:Kn) (left:Int),σ=[some (.ref a),some (.int whole),some (.ref ca),some (.int left),some (.ref Pa),ow]/\Mv [Pa] H3 H'/\H' ca=some (.tup (fZ cc))/\H' Pa=some (.lst ys) /\
    av K H' (((gW (aT x y z) whole u v w).take i).map Dh) ys/\(cc=match i with|0=>(0,0,0)|1=>un u|2=>aF (un u) (un v)|_=>aF (aF (un u) (un v)) (un w))/\left=match i with|0=>whole|1=>aT x y z u|2=>aT x y z v|_=>aT x y z w)
   ⟨c0,[],none,(0,0,0),whole,rfl,Mv.refl,gc3,gP3,.nil,rfl,rfl⟩ (λi σ H' hi ⟨_,_,_,_,_,_,m,_⟩=>hlD m) ?_ ?_⟩
  ·rintro i wv σ H4 ew ⟨ca,ys,ow,cc,left,rfl,m4,hca,hPa4,hys,ecc,eleft⟩;have hpl:((gW (aT x y z) whole u v w).take i).length<=10:=by rw[N8];show min i 4<=10;lia
   obtain⟨g,rfl,g3,hg⟩:∃ g:Nat,wv=.int (g:Int)/\g<3/\((i=0/\g=u)\/(i=1/\g=v)\/(i=2/\g=w)):=by
    rcases vx ew with ⟨rfl,rfl⟩|⟨rfl,rfl⟩|⟨rfl,rfl⟩
    ·exact⟨u,rfl,u3,.inl ⟨rfl,rfl⟩⟩
    ·exact⟨v,rfl,v3,.inr (.inl ⟨rfl,rfl⟩)⟩
    ·exact⟨w,rfl,w3,.inr (.inr ⟨rfl,rfl⟩)⟩
   have hl:=hys.length;rw[Ni] at hl;refine⟨_,rfl,.inl ⟨rfl,_,bI.of hPa4⟩,_,rfl,_,rfl,_,rfl,_,rfl,.inl ⟨a,_,_,_,rfl,rfl,sq m4,zi g3,_,_,rfl,rfl,mV,λp hp=>?_⟩⟩;have pP:p≠Pa:=λz=>by rw[z,hPa4] at hp;cases hp
   obtain⟨t1,t2⟩:=iC g cc left _ H4 ca ys g3 m4 hca hPa4 hys hpl (λH5 cb zs=>∃ (ca:Nn) (ys:List V) (ow:Option V) (cc:Kn) (left:Int),[some (V.ref a),some (V.int whole),some (V.ref cb),some (V.int (aT x y z g)),some (V.ref Pa),some (V.int (g:Int))]=[some (.ref a),some (.int whole),some (.ref ca),some (.int left),some (.ref Pa),ow]/\Mv [Pa] H3 H5/\H5 ca=some (.tup (fZ cc))/\H5 Pa=some (.lst ys) /\
    av K H5 (((gW (aT x y z) whole u v w).take (i+1)).map Dh) ys/\(cc=match i+1 with|0=>(0,0,0)|1=>un u|2=>aF (un u) (un v)|_=>aF (aF (un u) (un v)) (un w))/\left=match i+1 with|0=>whole|1=>aT x y z u|2=>aT x y z v|_=>aT x y z w) (λH5 cb zs m5 hcb hP5 hzs=>by
     refine⟨cb,zs,_,_,_,rfl,m5,hcb,hP5,?_,?_,?_⟩
     ·rcases hg with ⟨rfl,rfl⟩|⟨rfl,rfl⟩|⟨rfl,rfl⟩<;>(subst ecc;subst eleft;exact hzs)
     ·rcases hg with ⟨rfl,rfl⟩|⟨rfl,rfl⟩|⟨rfl,rfl⟩
      ·subst ecc;show aF (0,0,0) (un g)=un g;unfold aF;simp
      ·subst ecc;rfl
      ·subst ecc;rfl
     ·rcases hg with ⟨rfl,rfl⟩|⟨rfl,rfl⟩|⟨rfl,rfl⟩<;>rfl) p hp
   have gP5:upd H4 p (.tup [.ref ca,.int (left-aT x y z g)]) Pa=some (.lst ys):=by rw[az (Px pP)];exact hPa4
   refine⟨Pa,ys,.ref p,rfl,rfl,gP5,bP (by lia),?_⟩;have m6:Mv [Pa] H4 (upd (upd H4 p (.tup [.ref ca,.int (left-aT x y z g)])) Pa (.lst (ys++[.ref p]))):=λb o e n=>by
    rw[az (λz=>n (by simp[z])),az (aS e hp)];exact e
   have ca6:upd (upd H4 p (.tup [.ref ca,.int (left-aT x y z g)])) Pa (.lst (ys++[.ref p])) ca=some (.tup (fZ cc)):=m6 _ _ hca (λz=>by rw[Nm.mp z,hPa4] at hca;cases hca);have sq6:=sq (m4.trans m6);refine⟨_,rfl,λsa hsa=>?_⟩;obtain⟨bs,b,k1,k2,k3⟩:=t1 sa hsa;refine⟨_,rfl,.inr (.inl ⟨sa,bs,_,_,rfl,rfl,k1.sq,k2,ca,b,[(cc.1:Int),(cc.2.1:Int),(cc.2.2:Int)],[((un g).1:Int),((un g).2.1:Int),((un g).2.2:Int)],rfl,cW.of ca6,k3.sq,rfl,by show 3<=10;decide,λcb H5 s5 hcb=>?_⟩)⟩;rw[C7] at hcb;exact⟨_,rfl,_,rfl,.inl ⟨a,_,_,_,rfl,rfl,s5.seq sq6,zi g3,t2 cb H5 s5 hcb⟩⟩
  ·rintro σ H4 ⟨ca,ys,ow,cc,left,rfl,m4,hca,hPa4,hys,ecc,eleft⟩;have hl:=hys.length;rw[Ni] at hl;refine⟨_,rfl,.inl ⟨rfl,_,bI.of hPa4⟩,_,rfl,_,rfl,mV,λp hp=>?_⟩;have pP:p≠Pa:=λz=>by rw[z,hPa4] at hp;cases hp
   refine⟨Pa,ys,.ref p,rfl,rfl,by rw[az (Px pP)];exact hPa4,bP (by rw[<- hl];show 3<=1000;decide),_,rfl,?_⟩;have m6:Mv [Pa] H4 (upd (upd H4 p (.tup [.ref ca,.int left])) Pa (.lst (ys++[.ref p]))):=λb o e n=>by
    rw[az (λz=>n (by simp[z])),az (aS e hp)];exact e
   have li:hV H4 [Pa]:=λb mm=>⟨ys,by rw[Nm.mp mm];exact hPa4⟩
   subst ecc eleft;refine q (u,v,w) Pa _ _ ho p1 p2 (λb o e=>(m4.trans m6) b o (s3 _ _ e) (λz=>by rw[Nm.mp z,fP] at e;cases e)) ai ?_;refine(av.mv m6 li (pJ _) hys).snoc (d:=Dh (aF (aF (un u) (un v)) (un w),aT x y z w)) (.tup (by rw[az pP];exact ai) (.cons ?_ (.cons (.int _) .nil)));exact iB (m6 _ _ hca (λz=>by rw[Nm.mp z,hPa4] at hca;cases hca))
theorem bK:ay ["far","whole","parts","corner","part","beyond","distance"] uB1 (ag eM):=dD
inductive ic (K:HD)(vs:List V)(H:Hp)(Q:VK)(_:XK):Prop
 |mk (a:Nn) (x y z whole:Int) (b:Nat) (_:vs=[.ref a,.int whole]) (_:bI K H a [.int x,.int y,.int z]) (_:Sm b x) (_:Sm b y) (_:Sm b z) (_:Sm b whole) (_:b<=2000) (_:∀ (D:Nn) (ys:List V) (H':Hp),ae H H'->H' D=some (.lst ys)->av K H' ((cJ (aT x y z) whole).map Dh) ys->Q (.ref D) H')
theorem mO (T:c8 K mg w):df P w K mg base (cN P w) 2 "parts_by_eight" uB1 [] (ic K):=by
  refine T.x1r.cal bK (bb:=λ_ _ _ _ _ H vs Q E hr h=>?_);obtain⟨a,x,y,z,whole,b,rfl,ha,sx,sy,sz,sw,hb,q⟩:=h;refine⟨_,(cO.go (af (aA 2 bK.nd (aV aB))
   (af (dn Ow rfl (bH (K:=K) rfl (aj aE (fC T) hr (aH ac))) (am 3 bK.nd) (af (aA 4 bK.nd ac)
   (af (dn Ow rfl (iD (K:=K) rfl rfl T.x5 (aK (ao 3) (ao 0))) (b9 (K:=K) (n:=2) rfl rfl (aq (am 5 bK.nd) (aq (am 6 bK.nd) aY))) (ah (As (i:=4) bK.nd rfl (by first|exact W2 rfl|exact VP rfl) (kL (aQ dh (ao 5) ac (bh _)) (ao 6) (ar cT (ao 1) (ao 6))) Cj)))
   (ah (bo (on Ph PQ Qp kB (ao 2) (aH (aX (aK (ao 3) (ao 4))))))))))
   (ah (au (ao 2)))))),?_⟩
  have fs:=CL sx sy sz sw;have gs:∀ k c,Sm 8000 (mf (aT x y z) whole k c):=λk c=>(fs k c).mono (by lia)
  have ps:∀ t j,Sm 8000 (cX (aT x y z) whole t j):=λt j=>(wQ fs t j).mono (by lia)
  refine⟨by decide,λPa hPa=>⟨2,rfl,by decide,λD xs H1 s1 hD hxs=>?_⟩⟩;have gP:=s1 _ _ (ai (H:=H) (a:=Pa) (o:=.lst []));have s0:ae H H1:=(ae.new hPa).trans s1;have DP:D≠Pa:=λz=>by
   rw[z,gP] at hD;cases hD;have:=hxs.length;exact absurd this (by decide)
  have lx:=hxs.length;rw[Ni] at lx;refine⟨D,true,rfl,⟨_,bI.of hD⟩,kA (xs:=xs) (λi σ H'=>∃ (ys:List V) (o1 o2 o3 o4:Option V),σ=[some (.ref a),some (.int whole),some (.ref Pa),o1,o2,o3,o4]/\Mv [Pa] H1 H'/\H' Pa=some (.lst ys)/\av K H' (((cJ (aT x y z) whole).take i).map Dh) ys)
   ⟨[],_,_,_,_,rfl,Mv.refl,gP,.nil⟩ (λi σ H' hi ⟨_,_,_,_,_,_,m,_⟩=>bI.of (m _ _ hD (by simp[DP]))) ?_ ?_⟩
  ·rintro i wv σ H4 ew ⟨ys,o1,o2,o3,o4,rfl,m4,hP4,hys⟩;obtain⟨d,ed,hd⟩:=hxs.get ew;rw[NB] at ed;obtain⟨t,et,rfl⟩:=Nz.mp ed;obtain⟨ca,rfl,hca⟩:=ku hd;have hca4:H4 ca=some (.tup (fZ t)):=m4 _ _ hca (λz=>by rw[Nm.mp z,gP] at hca;cases hca);have ha4:bI K H4 a [.int x,.int y,.int z]:=by
    have aP:∀ o,H a=some o->H4 a=some o:=λo e=>m4 _ _ (s0 _ _ e) (λz=>by rw[Nm.mp z,hPa] at e;cases e)
    rcases ha with (h|⟨o,h⟩)|h
    ·exact .inl (.inl (aP _ h))
    ·exact .inl (.inr ⟨o,aP _ h⟩)
    ·exact .inr h
   have hl:=hys.length;have e8:(cJ (aT x y z) whole).length=8:=by unfold cJ;rw[Ni];rfl
   rw[Ni,N8,e8] at hl;refine⟨_,rfl,_,rfl,ca,a,false,true,rfl,⟨_,cW.of hca4⟩,⟨_,ha4⟩,Aq (K:=K) (xs:=fZ t) (ys:=[.int x,.int y,.int z]) (λj σ H'=>(∃ o3 o4,σ=[some (.ref a),some (.int whole),some (.ref Pa),some (.ref ca),some (.int (cX (aT x y z) whole t j)),o3,o4])/\ae H4 H')
    ⟨⟨_,_,rfl⟩,ae.refl _⟩ rfl (λj σ H' _ ⟨_,s⟩=>⟨jG s (cW.of hca4),s.seq ha4⟩) ?_ ?_⟩
   ·rintro j u v T σ H5 eu ev ⟨⟨o3,o4,rfl⟩,s5⟩ hT;refine⟨T,_,rfl,cW.of ai,rfl,_,_,rfl,_,_,rfl,rfl,_,rfl,?_⟩;have sT:=s5.trans (ae.new (o:=.tup [u,v]) hT);rcases vx eu with ⟨rfl,rfl⟩|⟨rfl,rfl⟩|⟨rfl,rfl⟩
    ·cases(Nb ev);refine⟨_,rfl,_,_,rfl,rfl,_,rfl,fI (λhc=>?_) (λhc=>?_)⟩
     ·have e:t.1=1:=by have:=Os hc;lia
      have hf:mf (aT x y z) whole 0 t.1=x:=by unfold mf;rw[NZ e];rfl
      have g0:=gs 0 t.1;rw[hf] at g0;exact⟨_,rfl,_,_,rfl,rfl,.inl ⟨ps t 0,g0⟩,⟨_,_,by rw[show cX (aT x y z) whole t (0+1)=cX (aT x y z) whole t 0*x from(show _=cX (aT x y z) whole t 0*mf (aT x y z) whole 0 t.1 from rfl).trans (Ql _ hf)];rfl⟩,sT⟩
     ·have e:¬ t.1=1:=by have:=Qe (by simpa using hc);lia
      have hf:mf (aT x y z) whole 0 t.1=whole-x:=by unfold mf;rw[NS e];rfl
      have g0:=gs 0 t.1;rw[hf] at g0;exact⟨_,rfl,_,rfl,_,_,rfl,rfl,_,_,rfl,rfl,.inl ⟨ps t 0,g0⟩,⟨_,_,by rw[show cX (aT x y z) whole t (0+1)=cX (aT x y z) whole t 0*(whole-x) from(show _=cX (aT x y z) whole t 0*mf (aT x y z) whole 0 t.1 from rfl).trans (Ql _ hf)];rfl⟩,sT⟩
    ·cases(Nb ev);refine⟨_,rfl,_,_,rfl,rfl,_,rfl,fI (λhc=>?_) (λhc=>?_)⟩
     ·have e:t.2.1=1:=by have:=Os hc;lia
      have hf:mf (aT x y z) whole 1 t.2.1=y:=by unfold mf;rw[NZ e];rfl
      have g0:=gs 1 t.2.1;rw[hf] at g0;exact⟨_,rfl,_,_,rfl,rfl,.inl ⟨ps t 1,g0⟩,⟨_,_,by rw[show cX (aT x y z) whole t (1+1)=cX (aT x y z) whole t 1*y from(show _=cX (aT x y z) whole t 1*mf (aT x y z) whole 1 t.2.1 from rfl).trans (Ql _ hf)];rfl⟩,sT⟩
     ·have e:¬ t.2.1=1:=by have:=Qe (by simpa using hc);lia
      have hf:mf (aT x y z) whole 1 t.2.1=whole-y:=by unfold mf;rw[NS e];rfl
      have g0:=gs 1 t.2.1;rw[hf] at g0;exact⟨_,rfl,_,rfl,_,_,rfl,rfl,_,_,rfl,rfl,.inl ⟨ps t 1,g0⟩,⟨_,_,by rw[show cX (aT x y z) whole t (1+1)=cX (aT x y z) whole t 1*(whole-y) from(show _=cX (aT x y z) whole t 1*mf (aT x y z) whole 1 t.2.1 from rfl).trans (Ql _ hf)];rfl⟩,sT⟩
    ·cases(Nb ev);refine⟨_,rfl,_,_,rfl,rfl,_,rfl,fI (λhc=>?_) (λhc=>?_)⟩
     ·have e:t.2.2=1:=by have:=Os hc;lia
      have hf:mf (aT x y z) whole 2 t.2.2=z:=by unfold mf;rw[NZ e];rfl
      have g0:=gs 2 t.2.2;rw[hf] at g0;exact⟨_,rfl,_,_,rfl,rfl,.inl ⟨ps t 2,g0⟩,⟨_,_,by rw[show cX (aT x y z) whole t (2+1)=cX (aT x y z) whole t 2*z from(show _=cX (aT x y z) whole t 2*mf (aT x y z) whole 2 t.2.2 from rfl).trans (Ql _ hf)];rfl⟩,sT⟩
     ·have e:¬ t.2.2=1:=by have:=Qe (by simpa using hc);lia
      have hf:mf (aT x y z) whole 2 t.2.2=whole-z:=by unfold mf;rw[NS e];rfl
      have g0:=gs 2 t.2.2;rw[hf] at g0;exact⟨_,rfl,_,rfl,_,_,rfl,rfl,_,_,rfl,rfl,.inl ⟨ps t 2,g0⟩,⟨_,_,by rw[show cX (aT x y z) whole t (2+1)=cX (aT x y z) whole t 2*(whole-z) from(show _=cX (aT x y z) whole t 2*mf (aT x y z) whole 2 t.2.2 from rfl).trans (Ql _ hf)];rfl⟩,sT⟩
   ·rintro σ H5 ⟨⟨o3,o4,rfl⟩,s5⟩;have hP5:=s5 _ _ hP4;refine⟨_,rfl,.inl ⟨rfl,_,bI.of hP5⟩,_,rfl,_,rfl,mV,λp hp=>?_⟩;have pP:p≠Pa:=λz=>by rw[z,hP5] at hp;cases hp
    refine⟨Pa,ys,.ref p,rfl,rfl,by rw[az (Px pP)];exact hP5,bP (by lia),?_⟩;have m6:Mv [Pa] H5 (upd (upd H5 p (.tup [.ref ca,.int (cX (aT x y z) whole t (fZ t).length)])) Pa (.lst (ys++[.ref p]))):=λb o e n=>by
     rw[az (λz=>n (by simp[z])),az (aS e hp)];exact e
    have li:hV H5 [Pa]:=λb mm=>⟨ys,by rw[Nm.mp mm];exact hP5⟩
    refine⟨_,_,_,_,_,rfl,(m4.trans (Mv.of s5)).trans m6,ai,?_⟩;have et':(cJ (aT x y z) whole)[i]?=some (t,cX (aT x y z) whole t 3):=by
     unfold cJ;rw[NB,et];rfl
    rw[bF et',Ot];refine(av.mv m6 li (pJ _) (av.same s5 hys)).snoc (.tup (by rw[az pP];exact ai) (.cons ?_ (.cons (.int _) .nil)));exact iB (m6 _ _ (s5 _ _ hca4) (λz=>by rw[Nm.mp z,hP4] at hca4;cases hca4))
  ·rintro σ H4 ⟨ys,o1,o2,o3,o4,rfl,m4,hP4,hys⟩;rw[NR (by rw[<- lx];show(cJ (aT x y z) whole).length<=_;unfold cJ;rw[Ni];exact Nj _)] at hys;exact⟨_,rfl,q Pa ys H4 (λb o e=>m4 b o (s0 _ _ e) (λz=>by rw[Nm.mp z,hPa] at e;cases e)) hP4 hys⟩
theorem Bo:ay j0 j0 (ag qP):=dD
def GR:List (Str×Str):=[("four","parts_by_four"),("eight","parts_by_eight")]
inductive Bc (K:HD)(vs:List V)(H:Hp)(Q:VK)(_:XK):Prop
 |mk (i:Str) (_:vs=[.str i]) (_:Q (.bl (GR.lookup i).isSome) H)
theorem By (T:c8 K mg w):df P w K mg base (cN P w) 1 "is_way" j0 [] (Bc K):=by
  refine T.x1s.cal Bo (bb:=λ_ _ _ _ _ H vs Q E hr h=>?_);obtain⟨i,rfl,q⟩:=h;refine⟨_,(cO.go (ah (au (fg (ax (oU (K:=K) rfl) (by rfl) T.x0 aG (aK (ao 0) (cF (v:=.ty "str") rfl T.x12 ID rfl))) (je (fq (DQ (K:=K) (w:=w) (mg:=mg) (kvs:=[("four","parts_by_four"),("eight","parts_by_eight")]) rfl rfl) (ao 0) (ze (K:=K) (w:=w) (mg:=mg) (kvs:=[("four","parts_by_four"),("eight","parts_by_eight")]) rfl T.xr) rfl)))))),?_⟩;refine⟨_,rfl,_,_,_,true,rfl,.str i,(show cS "str" "str"=some true by decide +kernel),_,rfl,aZ ?_⟩;exact⟨_,rfl,λD hD=>⟨i,D,rfl,rfl,hD,q⟩⟩
theorem lO:ay uB4 uB4 (ag ef):=dD
inductive lr (K:HD)(vs:List V)(H:Hp)(Q:VK)(_:XK):Prop
 |mk (a C dx d:Nn) (n:Nat) (f:Kn->R3) (_:vs=[.ref a,.int n,.ref d]) (_:cR K "Grid" C) (_:H a=some (.ins C dx [])) (_:Gr K H n f d) (_:GM n f) (_:2<=n) (_:n<=7) (_:∀ (H':Hp) (L:Nn),Mv [a] H H'->H' a=some (.ins C dx [("knots",.int n),("table",.ref L)])->Gr K H' n f L->H L=none->Q .non H')
theorem lI (T:c8 K mg w):wm P w K mg base (cN P w) 6 "Grid" "__init__" uB4 [] (lr K):=by
  refine T.x1t.cal lO (bb:=λ_ _ _ _ _ H vs Q E hr h=>?_);obtain⟨a,C,dx,d,n,f,rfl,hC,ha,hg,hw,h2,h7,q⟩:=h;refine⟨_,(cO.go (af (bg (bE (bD (aj aE (xG T) hr (aH (ao 1))))) (ah cQ) aN)
   (af (bg (bE (bD (aj aE (vz T) hr (aK (ao 2) (ao 1))))) (ah cQ) aN)
   (af (wS (K:=K) (x:="Grid") rfl T.x2 (.head _) (ao 0) (ao 1))
   (ah (wS (K:=K) (x:="Grid") rfl T.x2 (.tail _ (.head _)) (ao 0) (bN yN (by rfl) T.xi Ap (aH (ao 2))))))))),?_⟩
  have e1:rT 2 7 (.int (n:Int))=true:=by
   show(decide ((2:Int)<=n)&&decide ((n:Int)<=7))=true;rw[Nq (show(2:Int)<=n by lia),Nq (show(n:Int)<=7 by lia)];rfl
  refine⟨_,rfl,.int n,.int n,rfl,.int _,true,by rw[e1],bJ ?_⟩;refine⟨_,rfl,_,rfl,d,n,f,rfl,hg,hw,h7,λH1 s1=>⟨_,rfl,bJ ?_⟩⟩;have ha1:=s1 _ _ ha;have hg1:=hg.same s1;refine⟨_,rfl,_,rfl,a,C,dx,[],rfl,hC,ha1,by decide,?_⟩;obtain⟨ts,pm,vs,hd,hvs⟩:=id hg1;have hlen:=BG.len hvs;have na:d≠a:=λz=>by rw[z,ha1] at hd;cases hd
  have mv1:Mv [a] H1 (upd H1 a (.ins C dx (iI "knots" (.int n) []))):=λb o e nb=>by rw[az (λz=>nb (by simp[z]))];exact e
  have ne:me ts vs≠[]:=λz=>by
   have:=Ql SV z;rw[uY hlen,pm.length_eq,eO] at this;have:0<n^3:=Nat.pow_pos (by lia);rw[Ry] at *;lia
  refine⟨_,rfl,d,_,rfl,.inl (mv1 _ _ hd (by simp[na])),ne,FU h7 pm hlen,λL hL=>?_⟩;refine⟨_,rfl,a,C,dx,_,rfl,hC,by rw[az (λz=>by rw[<- z,ai] at hL;cases hL)];exact ai,by show 1<1000;decide,?_⟩;have La:L≠a:=λz=>by rw[z,ai] at hL;cases hL
  have mv2:Mv [a] H1 (upd (upd (upd H1 a (.ins C dx (iI "knots" (.int n) []))) L (.dT (me ts vs))) a (.ins C dx (iI "table" (.ref L) (iI "knots" (.int n) [])))):=λb o e nb=>by
   have nb:b≠a:=λz=>nb (by simp[z])
   rw[az nb,az (λz=>by rw[<- z,az nb,e] at hL;cases hL),az nb];exact e
  have wkeep:∀ {ts:List Kn}{ws:List V}{H':Hp},Mv [a] H1 H'->av K H1 (ts.map λt=>wD (f t)) ws->av K H' (ts.map λt=>wD (f t)) ws:=λ{ts ws H'} m h=>by
   induction ts generalizing ws with
   |nil=>cases h;exact .nil
   |cons t ts ih=>
    cases h with
    |cons h1 h2=>
     refine .cons ?_ (ih h2);have h1':aw K H1 (.tuple (f t).ds) _:=h1;cases h1' with
     |tup k1 k2=>
      cases eX k2;exact .tup (m _ _ k1 (λz=>by rw[Nm.mp z,ha1] at k1;cases k1)) (.cons (.int _) (.cons (.int _) (.cons (.int _) .nil)))
  refine q _ L (λb o e nb=>mv2 b o (s1 _ _ e) nb) ai ⟨ts,pm,vs,?_,wkeep mv2 hvs⟩ ?_
  ·rw[az La];exact ai
  ·cases z:H L with
   |none=>rfl
   |some o=>
    rw[az La,s1 _ _ z] at hL;cases hL
theorem qR:ay uC9 uC9 (ag il):=dD
inductive qN (K:HD)(vs:List V)(H:Hp)(Q:VK)(_:XK):Prop
 |mk (v x:V) (n:Nat) (f:Kn->R3) (t:Kn) (_:vs=[v,x]) (_:g_ K H n f v) (_:aw K H (Fv t) x) (_:t∈aU n) (_:∀ (w:V) (H':Hp),ae H H'->aw K H' (wD (f t)) w->Q w H')
theorem gu (T:c8 K mg w):wm P w K mg base (cN P w) 5 "Grid" "knot" uC9 [] (qN K):=by
  refine T.x1u.cal qR (bb:=λ_ _ _ _ _ H vs Q E hr h=>?_);obtain⟨v,x,n,f,t,rfl,hv,hx,ht,q⟩:=h;obtain⟨a,C,dx,d,rfl,hC,ha,hg⟩:=id hv;refine⟨_,(cO.go (af (bg (bE (bD (aj aE (qE T) hr (aK (ao 1) (kg (K:=K) (x:="Grid") rfl T.x2 (.head _) (ao 0)))))) (ah cQ) aN)
   (ah (au (Eu hr.u1 (kg (K:=K) (x:="Grid") rfl T.x2 (.tail _ (.head _)) (ao 0)) (ao 1) (λ_ _=>rfl)))))),?_⟩
  have hm:=cZ.mp ht;have e:([(t.1:Int),(t.2.1:Int),(t.2.2:Int)].all λk=>decide (0<=k)&&decide (k<=(n:Int)-1))=true:=by
   simp only[Ru,Ws,VF,NO,Uc];lia
  refine⟨_,rfl,_,rfl,a,C,dx,_,_,rfl,hC,ha,rfl,x,[(t.1:Int),(t.2.1:Int),(t.2.2:Int)],n,rfl,hx,rfl,λH1 s1=>⟨true,by rw[e],bJ ?_⟩⟩;obtain⟨b,rfl,hb⟩:=ku (aw.same s1 hx);obtain⟨w,g1,g2⟩:=Ih (hg.same s1) ht hb;exact⟨_,rfl,a,C,dx,_,_,rfl,hC,s1 _ _ ha,rfl,_,rfl,d,w,rfl,g1,q _ _ s1 g2⟩
theorem qy:ay ["self"] ["self"] (ag iq):=dD
inductive qr (K:HD)(vs:List V)(H:Hp)(Q:VK)(_:XK):Prop
 |mk (v:V) (n:Nat) (f:Kn->R3) (_:vs=[v]) (_:g_ K H n f v) (_:2<=n) (_:n<=7) (_:∀ (w:V) (H':Hp),ae H H'->aw K H' (.tuple [.int n,.int (pY n)]) w->Q w H')
theorem gx (T:c8 K mg w):wm P w K mg base (cN P w) 2 "Grid" "size" ["self"] [] (qr K):=by
  refine T.x1v.cal qy (bb:=λ_ _ _ _ _ H vs Q E hr h=>?_);obtain⟨v,n,f,rfl,hv,h2,h7,q⟩:=h;obtain⟨a,C,dx,d,rfl,hC,ha,hg⟩:=hv;refine⟨_,(cO.go (ah (au (aX (aK (kg (K:=K) (x:="Grid") rfl T.x2 (.head _) (ao 0)) (aj aE (EC T) hr (aH (kg (K:=K) (x:="Grid") rfl T.x2 (.head _) (ao 0))))))))),?_⟩;refine⟨_,rfl,a,C,dx,_,_,rfl,hC,ha,rfl,_,rfl,a,C,dx,_,_,rfl,hC,ha,rfl,n,rfl,h2,h7,mV,λp hp=>?_⟩;exact q _ _ (ae.new hp) (aw.tupN hp (.cons (.int _) (.cons (.int _) .nil)))
theorem fJ:ay ["self","least","parts","worths","amounts"] uC4 (ag gB):=dD
inductive oY (K:HD)(vs:List V)(H:Hp)(Q:VK)(_:XK):Prop
 |mk (v x:V) (D:Nn) (ys:List V) (n:Nat) (f:Kn->R3) (base:Kn) (ps:List Pc) (_:vs=[v,x,.ref D]) (_:g_ K H n f v) (_:aw K H (Fv base) x) (_:H D=some (.lst ys)) (_:av K H (ps.map Dh) ys) (_:ps.length<=10) (_:GM n f) (_:(∀ p∈ps,aF base p.1∈aU n)) (_:(∀ p∈ps,Sm 7000 p.2)) (_:(ps.map (·.2)).sum≠0) (_:Sm 8000 (ps.map (·.2)).sum) (_:∀ (w:V) (H':Hp),ae H H'->aw K H' (AU f base ps).col w->Q w H')
theorem pI (T:c8 K mg w):wm P w K mg base (cN P w) 6 "Grid" "mixed" uC4 [] (oY K):=by
  refine T.x1w.cal fJ (bb:=λ_ _ _ _ _ H vs Q E hr h=>?_);obtain⟨v,x,D,ys,n,f,base,ps,rfl,hv,hx,hD,hys,hl,hw,hk,hp,h0,hS,q⟩:=h;refine⟨_,(cO.go (af (aA 3 fJ.nd (aR ["corner","part"] ["self","least"] [0,1] 2 (bH (K:=K) rfl (ao 2)) (λnd=>(b9 (K:=K) (n:=2) rfl rfl (aq (am 0 nd) (aq (am 1 nd) aY)))) aJ (pO (K:=K) rfl aE (gu T) (hr.mono (by decide)) (ao 2) (aH (aj aE (wu T) hr (aK (ao 3) (ao 0)))))))
   (af (aA 4 fJ.nd (aR ["corner","part"] [] [] 2 (bH (K:=K) rfl (ao 2)) (λnd=>(b9 (K:=K) (n:=2) rfl rfl (aq (am 0 nd) (aq (am 1 nd) aY)))) aJ (ao 1)))
   (ah (au (bN (i_ (K:=K) rfl) (by rfl) T.x3 cG (aH (aR ["k"] ["worths","amounts"] [3,4] 1 (b8 rfl T.x4 (aH ac)) (λnd=>(am 0 nd)) aJ (aj aE (bZ T T.x9) hr (aK (aj aE (jO T) hr (aK (aR ["worth"] ["k"] [0] 1 (bH (K:=K) rfl (ao 1)) (λnd=>(am 0 nd)) aJ (aI K (ao 0) (ao 1))) (ao 2))) (ax (uF (K:=K) rfl rfl) (by rfl) T.xb rH (aH (ao 2))))))))))))),?_⟩
  obtain⟨a,C,dx,d,rfl,hC,ha,hg⟩:=id hv;obtain⟨la,rfl,hla⟩:=ku hx;have lw:∀ {r:R3},r.Wt->∀ g:R3->Int,(∀ r:R3,g r=r.a\/g r=r.b\/g r=r.c)->Sm 8000 (g r):=λ{r} h g hgr=>by
   refine Sm.mono (k:=20) ?_ (by decide);obtain⟨a0,a1,b0,b1,c0,c1⟩:=h;unfold Sm;rcases hgr r with e|e|e<;>(rw[e];lia)
  refine⟨_,rfl,D,true,rfl,⟨_,bI.of hD⟩,bW (es:=ps.map λp=>wD (f (aF base p.1))) (show bX K H D ys true from bI.of hD) hys (by simp) (by simp;lia) (λi e e' u H1 hd he s1 hu R kk S=>?_) (λws H1 s1 hws W hW=>?_)⟩
  ·rw[NB] at hd he;obtain⟨p,ep,rfl⟩:=Nz.mp hd;rw[ep] at he;cases he;obtain⟨ta,ca,rfl,hta,hca⟩:=Cu hu;refine⟨ta,_,rfl,cW.of hta,rfl,_,_,rfl,_,_,rfl,rfl,aZ (B:=S H1) ?_⟩;refine⟨_,rfl,a,C,dx,_,rfl,hC,s1 _ _ ha,rfl,_,rfl,_,rfl,la,ca,[(base.1:Int),(base.2.1:Int),(base.2.2:Int)],[(p.1.1:Int),(p.1.2.1:Int),(p.1.2.2:Int)],rfl,cW.of (s1 _ _ hla),cW.of hca,rfl,by show 3<=10;decide,λpa H2 s2 hpa=>?_⟩;rw[C7] at hpa;exact⟨.ref a,.ref pa,n,f,aF base p.1,rfl,hv.same (s1.trans s2),iB hpa,hk p (NJ ep),λw H3 s3 hw3=>kk _ _ ⟨s2.trans s3,hw3⟩⟩
  have sW:ae H1 (upd H1 W (.lst ws)):=ae.new hW;have hW2:bX K (upd H1 W (.lst ws)) W ws true:=bI.of ai;have hws2:=av.same sW hws;have s2:=s1.trans sW;generalize upd H1 W (.lst ws)=H2 at sW hW2 hws2 s2 ⊢;refine⟨_,rfl,D,true,rfl,⟨_,bI.of (s2 _ _ hD)⟩,bW (es:=(ps.map (·.2)).map P1) (show bX K H2 D ys true from bI.of (s2 _ _ hD)) (av.same s2 hys) (by simp) (by simp;lia) (λi e e' u H3 hd he s3 hu R kk S=>?_) (λks H3 s3 hks L hL=>?_)⟩
  ·rw[NB] at hd he;obtain⟨p,ep,rfl⟩:=Nz.mp hd;rw[NB,ep] at he;cases he;obtain⟨ta,ca,rfl,hta,hca⟩:=Cu hu;exact⟨ta,_,rfl,cW.of hta,rfl,_,_,rfl,_,_,rfl,rfl,aZ (B:=S H3) ⟨_,rfl,kk _ _ ⟨ae.refl _,.int _⟩⟩⟩
  have eks:=bT hks;subst eks;have sL:ae H3 (upd H3 L (.lst ((ps.map (·.2)).map V.int))):=ae.new hL;have hL4:bX K (upd H3 L (.lst ((ps.map (·.2)).map V.int))) L ((ps.map (·.2)).map V.int) true:=bI.of ai;have s4:=s3.trans sL;generalize upd H3 L (.lst ((ps.map (·.2)).map V.int))=H4 at sL hL4 s4 ⊢;have hW4:=bX.same s4 hW2;have hws4:=av.same s4 hws2;refine⟨3,rfl,by decide,by decide,h_ (K:=K) (lo:=0) (ds:=(AU f base ps).ds) (n:=3) rfl (by decide) (λi e H5 he s5 R kk S=>?_) (λzs H5 s5 hzs Z hZ=>?_)⟩
  ·obtain⟨g,rfl,hi,hgv⟩:=Ms he;have hgr:∀ r:R3,g r=r.a\/g r=r.b\/g r=r.c:=λr=>by
    have:=hgv r;rcases vx this with ⟨_,e⟩|⟨_,e⟩|⟨_,e⟩
    ·injection e with e;exact .inl e
    ·injection e with e;exact .inr (.inl e)
    ·injection e with e;exact .inr (.inr e)
   refine aZ (B:=S H5) ⟨_,rfl,W,true,rfl,⟨_,bX.same s5 hW4⟩,bW (es:=(ps.map λp=>g (f (aF base p.1))).map P1) (bX.same s5 hW4) (av.same s5 hws4) (by simp) (by simp;lia) (λj e e' u H6 hd he s6 hu R2 kk2 S2=>?_) (λns H6 s6 hns N hN=>?_)⟩
   ·rw[NB] at hd he;obtain⟨p,ep,rfl⟩:=Nz.mp hd;rw[NB,ep] at he;cases he;obtain⟨wa,rfl,hwa⟩:=hU (b:=false) hu;refine aZ (B:=S2 H6) ⟨_,rfl,_,rfl,?_⟩;have:=rV (K:=K) (Q:=R2) hwa (hgv (f (aF base p.1))) (kk2 _ _ ⟨ae.refl _,.int _⟩);rw[show((0:Int)+(i:Int))=(i:Int) from UZ _];exact this
   ·have ens:=bT hns;subst ens;have hL7:=bX.same ((s5.trans s6).trans (ae.new (o:=.lst ((ps.map λp=>g (f (aF base p.1))).map V.int)) hN)) hL4;refine⟨_,rfl,N,L,true,true,_,_,rfl,bI.of ai,hL7,by simp,by simp;lia,λz hz=>?_,λz hz=>?_,λH7 s7=>?_⟩
    ·obtain⟨p,hp',rfl⟩:=Ov.mp hz;exact lw (hw _ (hk p hp')) g hgr
    ·obtain⟨p,hp',rfl⟩:=Ov.mp hz;exact(hp p hp').mono (by decide)
    ·refine⟨_,rfl,L,_,rfl,bX.same s7 hL7,_,_,rfl,h0,hS,?_⟩;refine xE.sh h0 λw H8 s8 hw8=>kk _ _ ⟨((s6.trans (ae.new hN)).trans s7).trans s8,hw8⟩
  ·exact⟨Z,zs,rfl,.inl ⟨bI.of ai,λl hl=>q _ _ ((((s2.trans s4).trans s5).trans (ae.new hZ)).trans (ae.new hl)) (aw.tupN (ds:=(AU f base ps).ds) hl (av.same (ae.new hZ) hzs))⟩⟩
theorem wx:ay ["grid"] ["grid"] (ag lR):=dD
inductive wB (K:HD)(vs:List V)(H:Hp)(Q:VK)(_:XK):Prop
 |mk (v:V) (n:Nat) (f:Kn->R3) (_:vs=[v]) (_:g_ K H n f v) (_:2<=n) (_:n<=6) (_:∀ (D:Nn) (ys:List V) (H':Hp),ae H H'->H' D=some (.lst ys)->e_ K H' (kb n) ys->Q (.ref D) H')
theorem wM (T:c8 K mg w):df P w K mg base (cN P w) 3 "parts_of" ["grid"] [] (wB K):=by
  refine T.x1x.cal wx (bb:=λ_ _ _ _ _ H vs Q E hr h=>?_);obtain⟨v,n,f,rfl,hv,n2,n6,q⟩:=h;have n7:n<=7:=by lia
  obtain⟨a,C,dx,d,rfl,hC,ha,hg⟩:=id hv;refine⟨_,(cO.go (ah (au (n_ rfl (bH (K:=K) rfl (aj aE (fC T) hr (aH (ar cT (aI K (qp (K:=K) rfl aE (gx T) (hr.mono (by decide)) (ao 0)) ac) ac)))) (mj (by decide +kernel) (by rfl)) (qX (ts:=["least","order"]) (cs:=[]) (js:=[]) (k:=2) (by rfl) rfl rfl) (λ_ _ _ _ _=>(am 0 (show RY (α:=Str) ["least","order"] by decide +kernel))) (λ_ _ _ _ _=>aJ) (λ_ _ _ _ _=>(mq rfl rfl rfl (bH (K:=K) rfl (An (K:=K) (rows:=[[0,1,2],[0,2,1],[1,0,2],[1,2,0],[2,0,1],[2,1,0]]) rfl T.x2l)) (am 1 (show RY (α:=Str) ["least","order"] by decide +kernel)) aJ (qk rfl rfl (aX (aK (ao 0) (ao 1)))))))))),?_⟩;refine⟨_,rfl,a,C,dx,_,rfl,hC,ha,rfl,.ref a,n,f,rfl,hv,n2,n7,λw H1 s1 hw=>?_⟩;obtain⟨wa,ws,rfl,hwa,hws⟩:=bn (b:=false) (ds:=[.int n,.int (pY n)]) hw;have ew:=bT (ns:=[(n:Int),pY n]) hws;subst ew;have e1:(n:Int)-1=((n-1:Nat):Int):=by lia
  refine rV (b:=false) (i:=0) hwa rfl ⟨_,_,rfl,rfl,?_⟩;dsimp only;rw[e1];refine⟨n-1,rfl,by lia,λP ps H2 s2 hP hps=>?_⟩;have few:(aU (n-1)).length<=125:=by
   rw[eO];exact Qz (show n-1<=5 by lia) 3
  have lps:=hps.length;rw[Ni] at lps;refine⟨P,true,rfl,⟨_,bI.of hP⟩,nB (xs:=ps) (λi ys H'=>ae H2 H'/\e_ K H' (gJ ((aU (n-1)).take i)) ys) ⟨ae.refl _,.nil⟩ (λi ys H' _ p=>bI.of (p.1 _ _ hP)) (λi x ys H3 ex p R kk S=>?_) (λys H3 p=>?_)⟩
  ·obtain⟨s3,hy3⟩:=p;obtain⟨dd,ed,hd⟩:=hps.get ex;rw[NB] at ed;obtain⟨t,et,rfl⟩:=Nz.mp ed;obtain⟨ka,rfl,hka⟩:=ku hd;refine aZ (B:=S H3) (λsa hs=>?_);obtain⟨bs,hb1,hb2⟩:=hs;refine⟨sa,false,rfl,⟨_,KT.sq hb1⟩,mE (b:=false) (xs:=bs.map V.ref) (λj σ ys' H'=>(∃ o1,σ=[some (.ref ka),o1])/\ae H2 H'/\e_ K H' (gJ ((aU (n-1)).take i)++fM t j) ys') ⟨⟨_,rfl⟩,s3,by simpa [fM] using hy3⟩ (λj σ ys' H' _ _=>KT.sq hb1) (λj x σ ys' H4 ex p R2 kk2 S2=>?_) (λσ ys' H4 p=>?_)⟩
   ·obtain⟨⟨o1,rfl⟩,s4,hy4⟩:=p;rw[NB] at ex;obtain⟨b,eb,rfl⟩:=Nz.mp ex;obtain⟨r,er,hr⟩:=mZ hb2 eb;have er:(jV.map λo=>[(o.1:Int),(o.2.1:Int),(o.2.2:Int)])[j]?=some r:=er;rw[NB] at er;obtain⟨o,eo,rfl⟩:=Nz.mp er;have hlen:=hy4.length;have hj:j<6:=(Nt.mp eo).1;have lt:ys'.length<=6*125+6:=by
     rw[<- hlen,NL,lu,N8];have:(fM t j).length<=6:=by unfold fM;rw[Ni,N8];exact NP (Nat.min_le_right _ _) (by decide)
     lia
    refine aZ (B:=S2 [some (.ref ka),some (.ref b)] H4) ⟨Qb lt (by decide),_,rfl,_,rfl,mV,λp hp=>kk2 _ _ _ ⟨⟨_,rfl⟩,s4.trans (ae.new hp),?_⟩⟩;rw[xD eo,<- PZ];exact(hy4.same (ae.new hp)).snoc ⟨p,ka,b,rfl,ai,ae.new hp _ _ (s4 _ _ hka),hr⟩
   ·obtain⟨⟨o1,rfl⟩,s4,hy4⟩:=p;have lb:(bs.map V.ref).length=6:=by
     rw[Ni,Uo hb2];rfl
    rw[lb] at hy4;refine kk _ _ _ ⟨s4,?_⟩;rw[bF et,vW];exact hy4
  ·obtain⟨s3,hy3⟩:=p;rw[NR (by lia)] at hy3;have hlen:=hy3.length;rw[lu] at hlen;exact⟨by lia,λD hD=>q D ys _ (((s1.trans s2).trans s3).trans (ae.new hD)) ai (hy3.same (ae.new hD))⟩
theorem bS:ay ["self","colour","way","parts_of","steps","least","tops","below","far"] uA9 (ag b_):=dD
inductive pF (K:HD)(vs:List V)(H:Hp)(Q:VK)(_:XK):Prop
 |mk (v x:V) (mD:Str) (n:Nat) (f:Kn->R3) (c:Q3) (k:Nat) (_:vs=[v,x,.str mD]) (_:g_ K H n f v) (_:GM n f) (_:2<=n) (_:n<=7) (_:aw K H c.col x) (_:c.Wi ((60:Int):Rat)) (_:c.Bd k) (_:k<=400) (_:yS K "parts_by_four" H) (_:(mD="four"\/mD="eight")) (_:∀ (r:Q3) (w:V) (H':Hp),ae H H'->(mD="four"->r=W4 n f c)->(mD="eight"->r=W8 n f c)->r.Bd (12*k+120)->aw K H' r.col w->Q w H')
theorem jk (T:c8 K mg w):Ey P w K mg base (cN P w) 7 "Grid" "worth" uA9 [] 2 0 [.str "four"] (pF K):=by
  refine T.x2o.cal bS (bb:=λ_ _ _ _ _ H vs Q E hr h=>?_);obtain⟨v,x,mD,n,f,c,k,rfl,hv,hw,h2,h7,hx,wi,bd,hk,tb,hway,q⟩:=h;obtain⟨a,C,dx,d,rfl,hC,ha,hg⟩:=id hv;obtain⟨ap0,ap1,ap2⟩:=yc h2 h7;have hlk:∃ fnm,GR.lookup mD=some fnm:=by
   rcases hway with rfl|rfl
   ·exact⟨_,rfl⟩
   ·exact⟨_,rfl⟩
  obtain⟨fnm,hlk⟩:=hlk;have dva:Dv n c.a:=⟨h2,h7,wi.a0,wi.a1⟩
  have dvb:Dv n c.b:=⟨h2,h7,wi.b0,wi.b1⟩
  have dvc:Dv n c.c:=⟨h2,h7,wi.c0,wi.c1⟩
  have sap:Sm 6 (pY n):=by unfold Sm;lia
  have bqs:∀ {y:Rat},Bq k y->Bq (k+6) (c_ n y):=λ{y} h=>fR (Pf h.ne (by lia)) (h.sn.mono (by lia)) ((h.sd.mul sap))
  refine⟨_,(cO.go (af (bg (bE (bD (aj aE (By T) hr (aH (ao 2))))) (ah cQ) aN)
   (af (bo (aj aE (gR T) hr (aH (ao 1))))
   (af (aA 3 bS.nd (EU (G_ (K:=K) (w:=w) (mg:=mg) (kvs:=[("four","parts_by_four"),("eight","parts_by_eight")]) rfl rfl) (ze (K:=K) (w:=w) (mg:=mg) (kvs:=[("four","parts_by_four"),("eight","parts_by_eight")]) rfl T.xr) (ao 2) (λ_ _=>rfl)))
   (af (cH 4 uA6 ["self"] [0] 2 bS.nd (bH (K:=K) rfl (ao 1)) (λnd=>(b9 (K:=K) (n:=2) rfl rfl (aq (am 0 nd) (aq (am 1 nd) aY)))) aJ (aj aE (bZ T T.x9) hr (aK (ao 0) (ar aW (ao 1) (aI K (qp (K:=K) rfl aE (gx T) (hr.mono (by decide)) (ao 2)) ac)))))
   (af (aA 5 bS.nd (bN (i_ (K:=K) rfl) (by rfl) T.x3 cG (aH (aR ["step"] ["self"] [0] 1 (bH (K:=K) rfl (ao 4)) (λnd=>(am 0 nd)) aJ (ax (om rfl) (by rfl) T.xd yI (aK (aj aE (xC T) hr (aH (ao 0))) (ar cT (kg (K:=K) (x:="Grid") rfl T.x2 (.head _) (ao 1)) ac)))))))
   (af (fi (aj aE (da T) hr (aH (ao 4))) (b9 (K:=K) (n:=2) rfl rfl (aq (am 6 bS.nd) (aq (am 7 bS.nd) aY))))
   (af (cH 8 ["top","number"] ["below"] [7] 2 bS.nd (iD (K:=K) rfl rfl T.x5 (aK (ao 6) (ao 5))) (λnd=>(b9 (K:=K) (n:=2) rfl rfl (aq (am 0 nd) (aq (am 1 nd) aY)))) aJ (ar cT (ao 0) (ar aW (ao 1) (ao 2))))
   (ah (au (pO (K:=K) rfl aE (pI T) (hr.mono (by decide)) (ao 0) (aK (ao 5) (Ct (P:=P) (w:=w) (K:=K) (mg:=mg) (base:=base) (CX:=(cN P w)) (k:=2) rfl rfl rfl rfl rfl aE (hr.mono (by decide)) (ao 3) (aK (ao 8) (ao 7))))))))))))))),?_⟩
  refine⟨_,rfl,mD,rfl,true,by rw[hlk];rfl,bJ ?_⟩;refine⟨_,rfl,x,c,rfl,hx,wi,bd.mono (by lia),λH1 s1=>?_⟩;refine λD hD=>⟨_,rfl,mD,fnm,D,rfl,rfl,hD,hlk,λfa hfa=>?_⟩
  have hx1:=aw.same s1 hx;obtain⟨ca,xs,rfl,hca,hxs⟩:=bn (b:=false) (ds:=c.ds) hx1;have hv1:=hv.same s1;refine⟨_,rfl,ca,false,rfl,⟨_,hca⟩,bW (es:=[rD (c_ n c.a),rD (c_ n c.b),rD (c_ n c.c)]) hca hxs rfl (by show 3<=1000;decide) (λi e e' u H2 hd he s2 hu R kk S=>?_) (λss H2 s2 hss St hSt=>?_)⟩
  ·obtain⟨y,rfl,rfl,by_⟩:∃ y:Rat,e=rD y/\e'=rD (c_ n y)/\Bq k y:=by
    rcases vx hd with ⟨rfl,rfl⟩|⟨rfl,rfl⟩|⟨rfl,rfl⟩
    ·exact⟨c.a,rfl,(Nb he).symm,bd.a⟩
    ·exact⟨c.b,rfl,(Nb he).symm,bd.b⟩
    ·exact⟨c.c,rfl,(Nb he).symm,bd.c⟩
   obtain⟨wa,rfl,hwa⟩:=dm hu;refine⟨wa,_,rfl,cW.of hwa,rfl,_,_,rfl,_,_,rfl,rfl,aZ (B:=S H2) ?_⟩;refine⟨_,rfl,_,rfl,_,rfl,a,C,dx,_,rfl,hC,(s1.trans s2) _ _ ha,rfl,.ref a,n,f,rfl,hv1.same s2,h2,h7,λw H3 s3 hw3=>?_⟩;obtain⟨wb,rfl,hwb⟩:=dm (n:=(n:Int)) (d:=pY n) hw3;refine ib hwb ⟨_,_,rfl,rfl,.inl ⟨by_.sd.mono (by lia),sap.mono (by decide)⟩,_,_,rfl,Pf by_.ne (by lia),(by_.sd.mul sap).mono (by lia),?_⟩;exact xE.sh (Pf by_.ne (by lia)) λw H4 s4 hw4=>kk _ _ ⟨s3.trans s4,hw4⟩
  have sS:ae H2 (upd H2 St (.lst ss)):=ae.new hSt;have hS3:aw K (upd H2 St (.lst ss)) (.list [rD (c_ n c.a),rD (c_ n c.b),rD (c_ n c.c)]) (.ref St):=aw.listN hSt hss;have s3:=(s1.trans s2).trans sS;generalize upd H2 St (.lst ss)=H3 at sS hS3 s3 ⊢;obtain⟨St',ss',eS,hSq,hss3⟩:=bn (b:=true) (ds:=[rD (c_ n c.a),rD (c_ n c.b),rD (c_ n c.c)]) hS3;cases eS;refine⟨_,rfl,St,true,rfl,⟨_,hSq⟩,bW (es:=[.int ((eK n c.a:Nat):Int),.int ((eK n c.b:Nat):Int),.int ((eK n c.c:Nat):Int)]) hSq hss3 rfl (by show 3<=1000;decide) (λi e e' u H4 hd he s4 hu R kk S=>?_) (λls H4 s4 hls L hL=>?_)⟩
  ·obtain⟨y,rfl,rfl,by_,dv⟩:∃ y:Rat,e=rD (c_ n y)/\e'=.int ((eK n y:Nat):Int)/\Bq k y/\Dv n y:=by
    rcases vx hd with ⟨rfl,rfl⟩|⟨rfl,rfl⟩|⟨rfl,rfl⟩
    ·exact⟨c.a,rfl,(Nb he).symm,bd.a,dva⟩
    ·exact⟨c.b,rfl,(Nb he).symm,bd.b,dvb⟩
    ·exact⟨c.c,rfl,(Nb he).symm,bd.c,dvc⟩
   refine aZ (B:=S H4) ⟨_,rfl,u,_,_,rfl,hu,(bqs by_).mono (by lia),_,rfl,a,C,dx,_,_,rfl,hC,(s3.trans s4) _ _ ha,rfl,_,_,rfl,rfl,_,_,rfl,?_⟩;have e:(if(n:Int)-2<(c_ n y).num.fdiv ((c_ n y).den:Int) then(n:Int)-2 else(c_ n y).num.fdiv ((c_ n y).den:Int))=((eK n y:Nat):Int):=by
    rw[CK,zc dv];rfl
   rw[e];exact kk _ _ ⟨ae.refl _,.int _⟩
  have els:=bT (ns:=[((eK n c.a:Nat):Int),((eK n c.b:Nat):Int),((eK n c.c:Nat):Int)]) hls;subst els;refine⟨L,_,rfl,.inl ⟨bI.of ai,λle hle=>?_⟩⟩;have s5:ae H3 (upd (upd H4 L (.lst ([((eK n c.a:Nat):Int),((eK n c.b:Nat):Int),((eK n c.c:Nat):Int)].map V.int))) le (.tup ([((eK n c.a:Nat):Int),((eK n c.b:Nat):Int),((eK n c.c:Nat):Int)].map V.int))):=(s4.trans (ae.new hL)).trans (ae.new hle);have hle5:upd (upd H4 L (.lst ([((eK n c.a:Nat):Int),((eK n c.b:Nat):Int),((eK n c.c:Nat):Int)].map V.int))) le (.tup ([((eK n c.a:Nat):Int),((eK n c.b:Nat):Int),((eK n c.c:Nat):Int)].map V.int)) le=some (.tup (fZ (zj n c))):=ai;generalize upd (upd H4 L (.lst ([((eK n c.a:Nat):Int),((eK n c.b:Nat):Int),((eK n c.c:Nat):Int)].map V.int))) le (.tup ([((eK n c.a:Nat):Int),((eK n c.b:Nat):Int),((eK n c.c:Nat):Int)].map V.int))=H5 at s5 hle5 ⊢;have brs:∀ r∈[c_ n c.a,c_ n c.b,c_ n c.c],Bq (k+6) r:=λr hr=>by
   simp only[Nl,NH,OY] at hr;rcases hr with rfl|rfl|rfl
   ·exact bqs bd.a
   ·exact bqs bd.b
   ·exact bqs bd.c
  refine⟨_,rfl,.ref St,true,k+6,[c_ n c.a,c_ n c.b,c_ n c.c],rfl,aw.same s5 hS3,brs,by show 3<=500;decide,by lia,by show 3*(k+6)+(k+6)+1<=7900;lia,λtv H6 s6 htv=>?_⟩;obtain⟨B0,BS⟩:=gm brs 3 (by show 3<=3;decide);rw[NR (by show 3<=3;decide)] at B0 BS;have dvd:∀ r∈[c_ n c.a,c_ n c.b,c_ n c.c],(r.den:Int)∣cM [c_ n c.a,c_ n c.b,c_ n c.c]:=λr hr=>tI hr
  have ovs:∀ r∈[c_ n c.a,c_ n c.b,c_ n c.c],Sm (3*(k+6)+(k+6)+1) (ov (cM [c_ n c.a,c_ n c.b,c_ n c.c]) r):=λr hr=>DX brs hr
  generalize cM [c_ n c.a,c_ n c.b,c_ n c.c]=B at *;obtain⟨ta,ts,rfl,hta,hts⟩:=bn (b:=false) (ds:=[.list ([c_ n c.a,c_ n c.b,c_ n c.c].map λr=>.int (ov B r)),.int B]) htv;obtain⟨t0,rfl,ht0⟩:∃ t0,ts=[t0,.int B]/\aw K H6 (.list ([c_ n c.a,c_ n c.b,c_ n c.c].map λr=>.int (ov B r))) t0:=by
   cases hts with
   |cons k1 k2=>
    cases k2 with
    |cons k3 k4=>
     cases k3;cases k4;exact⟨_,rfl,k1⟩
  refine⟨ta,_,rfl,hta,rfl,_,_,rfl,_,_,rfl,rfl,?_⟩;obtain⟨tl,tls,rfl,htl,htls⟩:=bn (b:=true) (ds:=[c_ n c.a,c_ n c.b,c_ n c.c].map λr=>.int (ov B r)) ht0;have hle6:=s6 _ _ hle5;refine⟨_,rfl,_,rfl,tl,le,true,false,rfl,⟨_,htl⟩,⟨_,cW.of hle6⟩,f8 (fs:=[.int (ov B (c_ n c.a)-((eK n c.a:Nat):Int)*B),.int (ov B (c_ n c.b)-((eK n c.b:Nat):Int)*B),.int (ov B (c_ n c.c)-((eK n c.c:Nat):Int)*B)]) htl (show bX K H6 le (fZ (zj n c)) false from cW.of hle6) htls (gM [((eK n c.a:Nat):Int),((eK n c.b:Nat):Int),((eK n c.c:Nat):Int)]) rfl rfl (by show 3<=1000;decide) (λi e e' e'' u v T H7 hd he hf s7 hu hv' hT R kk S=>?_) (λfs H7 s7 hfs F hF=>?_)⟩
  ·have sle:∀ {m:Nat},m+2<=n->Sm 8000 (m:Int):=λh=>Sm.mono (k:=20) (by unfold Sm;lia) (by decide)
   have sB:Sm 8000 B:=BS.mono (by lia);have l1:=lG dva;have l2:=lG dvb;have l3:=lG dvc;rcases vx hd with ⟨rfl,rfl⟩|⟨rfl,rfl⟩|⟨rfl,rfl⟩
   ·cases(Nb he);cases(Nb hf);cases hu;cases hv';exact⟨T,_,rfl,cW.of hT,rfl,_,_,rfl,_,_,rfl,rfl,aZ (B:=S H7) ⟨_,rfl,_,rfl,_,rfl,_,_,rfl,rfl,.inl ⟨sle l1,sB⟩,_,_,rfl,rfl,kk _ _ ⟨ae.refl _,.int _⟩⟩⟩
   ·cases(Nb he);cases(Nb hf);cases hu;cases hv';exact⟨T,_,rfl,cW.of hT,rfl,_,_,rfl,_,_,rfl,rfl,aZ (B:=S H7) ⟨_,rfl,_,rfl,_,rfl,_,_,rfl,rfl,.inl ⟨sle l2,sB⟩,_,_,rfl,rfl,kk _ _ ⟨ae.refl _,.int _⟩⟩⟩
   ·cases(Nb he);cases(Nb hf);cases hu;cases hv';exact⟨T,_,rfl,cW.of hT,rfl,_,_,rfl,_,_,rfl,rfl,aZ (B:=S H7) ⟨_,rfl,_,rfl,_,rfl,_,_,rfl,rfl,.inl ⟨sle l3,sB⟩,_,_,rfl,rfl,kk _ _ ⟨ae.refl _,.int _⟩⟩⟩
  have efs:=bT (ns:=[ov B (c_ n c.a)-((eK n c.a:Nat):Int)*B,ov B (c_ n c.b)-((eK n c.b:Nat):Int)*B,ov B (c_ n c.c)-((eK n c.c:Nat):Int)*B]) hfs;subst efs;have BR:(B:Rat)≠0:=by
   intro z;have:B=0:=by exact_mod_cast z
   lia
  have ra:((ov B (c_ n c.a)-((eK n c.a:Nat):Int)*B:Int):Rat)=sj n c.a*(B:Rat):=by
   rw[QP,N9,mM (dvd _ (by simp))];unfold sj;grind
  have rb:((ov B (c_ n c.b)-((eK n c.b:Nat):Int)*B:Int):Rat)=sj n c.b*(B:Rat):=by
   rw[QP,N9,mM (dvd _ (by simp))];unfold sj;grind
  have rc:((ov B (c_ n c.c)-((eK n c.c:Nat):Int)*B:Int):Rat)=sj n c.c*(B:Rat):=by
   rw[QP,N9,mM (dvd _ (by simp))];unfold sj;grind
  have sf:∀ {y:Rat},y∈[c.a,c.b,c.c]->Dv n y->Sm (4*k+30) (ov B (c_ n y)-((eK n y:Nat):Int)*B):=λ{y} hy dv=>by
   have h1:=ovs (c_ n y) (by simp only[Nl,NH,OY] at hy ⊢;rcases hy with rfl|rfl|rfl<;>simp);have h2:Sm (3+(3*(k+6)+1)) (((eK n y:Nat):Int)*B):=(show Sm 3 ((eK n y:Nat):Int) by have:=lG dv;unfold Sm;lia).mul BS;have h3:Sm (4*k+29) (ov B (c_ n y)):=h1.mono (by lia);have h4:Sm (4*k+29) (((eK n y:Nat):Int)*B):=h2.mono (by lia);exact h3.sub h4
  have sfa:=sf (by simp) dva;have sfb:=sf (by simp) dvb;have sfc:=sf (by simp) dvc;generalize ov B (c_ n c.a)-((eK n c.a:Nat):Int)*B=fx at *;generalize ov B (c_ n c.b)-((eK n c.b:Nat):Int)*B=fy at *;generalize ov B (c_ n c.c)-((eK n c.c:Nat):Int)*B=fz at *;have s8:ae H7 (upd H7 F (.lst ([fx,fy,fz].map V.int))):=ae.new hF;have hF8:bI K (upd H7 F (.lst ([fx,fy,fz].map V.int))) F [.int fx,.int fy,.int fz]:=bI.of ai;have sAll:ae H (upd H7 F (.lst ([fx,fy,fz].map V.int))):=(((s3.trans s5).trans s6).trans s7).trans s8;have hle8:=(s7.trans s8) _ _ hle6;generalize upd H7 F (.lst ([fx,fy,fz].map V.int))=H8 at s8 hF8 sAll hle8 ⊢;have hB8:Sm (4*k+30) B:=BS.mono (by lia);have cin:∀ t:Kn,t.1<=1->t.2.1<=1->t.2.2<=1->aF (zj n c) t∈aU n:=λt u1 u2 u3=>by
   rw[cZ];have l1:=lG dva;have l2:=lG dvb;have l3:=lG dvc;show eK n c.a+t.1<n/\eK n c.b+t.2.1<n/\eK n c.c+t.2.2<n;lia
  have Hx:∀ j,Sm (4*k+30) (aT fx fy fz j):=λj=>by
   match j with
   |0=>exact sfa
   |1=>exact sfb
   |_+2=>exact sfc
  refine⟨_,rfl,a,C,dx,_,rfl,hC,sAll _ _ ha,rfl,_,rfl,?_⟩;rcases hway with rfl|rfl
  ·cases(Nb hlk);refine⟨_,rfl,iJ K,(nM T).fnV hfa (by decide),_,rfl,_,rfl,F,fx,fy,fz,B,rfl,hF8,tb.same sAll,λo D9 ys H9 ho p1 p2 s9 hD9 hys=>?_⟩;have fall:Da (rd n c) o:=by
    have mono:∀ i j,aT fx fy fz i<=aT fx fy fz j->rd n c i<=rd n c j:=λi j h=>by
     have hp:∀ k,((aT fx fy fz k:Int):Rat)=rd n c k*(B:Rat):=λk=>by
      match k with
      |0=>exact ra
      |1=>exact rb
      |_+2=>exact rc
     have h':((aT fx fy fz i:Int):Rat)<=((aT fx fy fz j:Int):Rat):=by exact_mod_cast h
     rw[hp,hp] at h';exact P7 h' (by exact_mod_cast B0)
    exact⟨ho,mono _ _ p1,mono _ _ p2⟩
   obtain⟨o1,o2,o3⟩:=yw ho;have un1:∀ {j:Nat},j<3->(un j).1<=1/\(un j).2.1<=1/\(un j).2.2<=1:=λ{j} h=>by
    match j,h with
    |0,_=>decide
    |1,_=>decide
    |2,_=>decide
   have u2:∀ {p:Pc},p∈gW (aT fx fy fz) B o.1 o.2.1 o.2.2->(p.1.1<=1/\p.1.2.1<=1/\p.1.2.2<=1)/\Sm (4*k+31) p.2:=λ{p} hp=>by
    simp only[jV,Nl,NH,OY] at ho;simp only[gW,Nl,NH,OY] at hp;refine⟨?_,?_⟩
    ·rcases ho with rfl|rfl|rfl|rfl|rfl|rfl<;>rcases hp with rfl|rfl|rfl|rfl<;>(dsimp only;decide)
    ·rcases hp with rfl|rfl|rfl|rfl
     ·exact hB8.sub (Hx _)
     ·exact(Hx _).sub (Hx _)
     ·exact(Hx _).sub (Hx _)
     ·exact(Hx _).mono (by lia)
   have wtp:∀ p∈gW (aT fx fy fz) B o.1 o.2.1 o.2.2,(f (aF (zj n c) p.1)).Wt:=λp hp=>hw _ (cin p.1 (u2 hp).1.1 (u2 hp).1.2.1 (u2 hp).1.2.2)
   refine⟨.ref a,.ref le,D9,ys,n,f,zj n c,_,rfl,hv.same (sAll.trans s9),iB (s9 _ _ hle8),hD9,hys,by show 4<=10;decide,hw,λp hp=>cin p.1 (u2 hp).1.1 (u2 hp).1.2.1 (u2 hp).1.2.2,λp hp=>(u2 hp).2.mono (by lia),by rw[rP];lia,by rw[rP];exact hB8.mono (by lia),λw Ha sa hwr=>?_⟩;refine q (AU f (zj n c) (gW (aT fx fy fz) B o.1 o.2.1 o.2.2)) w Ha ((sAll.trans s9).trans sa) (λ_=>?_) (λz=>absurd z (by decide)) ?_ hwr
   ·refine Q3.ext ?_ ?_ ?_<;>exact(DG BR ra rb rc).trans (Dt fall)
   ·have h0:((gW (aT fx fy fz) B o.1 o.2.1 o.2.2).map (·.2)).sum≠0:=by rw[rP];lia
    have bb:∀ {g:R3->Int},(∀ p∈gW (aT fx fy fz) B o.1 o.2.1 o.2.2,Sm 10 (g (f (aF (zj n c) p.1))))->Bq (12*k+120) (qg f (zj n c) g (gW (aT fx fy fz) B o.1 o.2.1 o.2.2)):=λhg=>Ok.mono (Cm (n:=n) hg (λp hp=>(u2 hp).2) h0) (by show 10+(4*k+31)+4<=12*k+120;lia)
    exact⟨bb λp hp=>(t6 (wtp p hp)).1,bb λp hp=>(t6 (wtp p hp)).2.1,bb λp hp=>(t6 (wtp p hp)).2.2⟩
  ·cases(Nb hlk);refine⟨_,rfl,ic K,(mO T).fnV hfa (by decide),_,rfl,_,rfl,F,fx,fy,fz,B,4*k+30,rfl,hF8,sfa,sfb,sfc,hB8,by lia,λD9 ys H9 s9 hD9 hys=>?_⟩;have u2:∀ {p:Pc},p∈cJ (aT fx fy fz) B->(p.1.1<=1/\p.1.2.1<=1/\p.1.2.2<=1)/\Sm (12*k+94) p.2:=λ{p} hp=>by
    obtain⟨t,ht,rfl⟩:=Ov.mp hp;have:=cZ.mp ht;exact⟨by show t.1<=1/\t.2.1<=1/\t.2.2<=1;lia,(wQ (CL sfa sfb sfc hB8) t 3).mono (by lia)⟩
   have wtp:∀ p∈cJ (aT fx fy fz) B,(f (aF (zj n c) p.1)).Wt:=λp hp=>hw _ (cin p.1 (u2 hp).1.1 (u2 hp).1.2.1 (u2 hp).1.2.2)
   have l8:(cJ (aT fx fy fz) B).length=8:=by unfold cJ;rw[Ni];rfl
   have h0:((cJ (aT fx fy fz) B).map (·.2)).sum≠0:=by
    rw[mX];exact Pf (Pf (by lia) (by lia)) (by lia)
   refine⟨.ref a,.ref le,D9,ys,n,f,zj n c,_,rfl,hv.same (sAll.trans s9),iB (s9 _ _ hle8),hD9,hys,by rw[l8];decide,hw,λp hp=>cin p.1 (u2 hp).1.1 (u2 hp).1.2.1 (u2 hp).1.2.2,λp hp=>(u2 hp).2.mono (by lia),h0,by rw[mX];exact((hB8.mul hB8).mul hB8).mono (by lia),λw Ha sa hwr=>?_⟩;refine q (AU f (zj n c) (cJ (aT fx fy fz) B)) w Ha ((sAll.trans s9).trans sa) (λz=>absurd z (by decide)) (λ_=>?_) ?_ hwr
   ·refine Q3.ext ?_ ?_ ?_<;>exact A0 BR ra rb rc
   ·have bb:∀ {g:R3->Int},(∀ p∈cJ (aT fx fy fz) B,Sm 10 (g (f (aF (zj n c) p.1))))->Bq (12*k+120) (qg f (zj n c) g (cJ (aT fx fy fz) B)):=λhg=>Ok.mono (Cm (n:=n) hg (λp hp=>(u2 hp).2) h0) (by rw[l8];lia)
    exact⟨bb λp hp=>(t6 (wtp p hp)).1,bb λp hp=>(t6 (wtp p hp)).2.1,bb λp hp=>(t6 (wtp p hp)).2.2⟩
theorem mP:ay j0 j0 (ag eW):=dD
inductive kX (K:HD)(vs:List V)(H:Hp)(Q:VK)(E:XK):Prop
 |mk (v:V) (_:vs=[v]) (_:((∃ n f,g_ K H n f v/\Q .non H)\/∃ T,Ty K H v T/\T∈iX/\Rz K 5 H E))
theorem fV (T:c8 K mg w):df P w K mg base (cN P w) 1 "refuse_no_grid" j0 [] (kX K):=by
  refine T.x1y.calX mP (bb:=λ_ _ _ _ _ H vs Q E hr h=>?_);obtain⟨v,rfl,h⟩:=h;refine⟨_,(cO.go (ah (bg (bE (bD (ax (Ld (K:=K) (x:="Grid") rfl T.x2 T.xx) (by rfl) T.x0 aG (aK (ao 0) (dz (K:=K) (x:="Grid") rfl rfl (AB T.x2)))))) (ah (kC (K:=K) rfl bQ rfl rfl rfl (pL T.x1 (i:=5) rfl) (aH bB))) aN))),?_⟩;rcases h with ⟨n,f,he,q⟩|⟨Tn,hd,hm,qz⟩
  ·obtain⟨a,C,dx,d,rfl,hC,ha,_⟩:=he;refine⟨_,rfl,λD hD=>?_⟩;cases cL hD hC;exact⟨_,_,rfl,hC,.inl ⟨a,dx,_,rfl,ha,_,rfl,bJ q⟩⟩
  ·exact⟨_,rfl,λD hD=>⟨_,_,rfl,hD,.inr ⟨_,hd,hm,_,rfl,aZ ⟨xL,qz.now (ae.refl _) rfl⟩⟩⟩⟩
theorem lf:ay j0 j0 (ag jh):=dD
inductive su (K:HD)(vs:List V)(H:Hp)(Q:VK)(_:XK):Prop
 |mk (x:V) (r:R3) (_:vs=[x]) (_:dA K H (.tuple r.ds) x) (_:r.Hv) (_:∀ H',ae H H'->Q (.bl true) H')
theorem sv (T:c8 K mg w):df P w K mg base (cN P w) 4 "is_weights" j0 [] (su K):=by
  refine T.xp.cal lf (bb:=λ_ _ _ _ _ H vs Q E hr h=>?_);obtain⟨x,r,rfl,hx,hv,q⟩:=h;refine⟨_,(cO.go (ah (au (aj aE (fm T) hr (aa (ao 0) (aa ac (aa (cC rfl T.xg) (aa (cC rfl T.xe) aB)))))))),?_⟩;have e:xN 3 1 100 (.tuple r.ds)=true:=by
   have e1:decide (1<=r.a)=true:=Nq hv.a0;have e2:decide (r.a<=100)=true:=Nq hv.a1;have e3:decide (1<=r.b)=true:=Nq hv.b0;have e4:decide (r.b<=100)=true:=Nq hv.b1;have e5:decide (1<=r.c)=true:=Nq hv.c0;have e6:decide (r.c<=100)=true:=Nq hv.c1;simp[xN,R3.ds,rT,e1,e2,e3,e4,e5,e6]
  exact⟨_,rfl,x,_,3,1,100,rfl,hx,by decide,λH' s'=>by rw[e];exact q H' s'⟩
inductive pG (K:HD)(vs:List V)(H:Hp)(Q:VK)(_:XK):Prop
 |mk (x:V) (d:NQ) (_:vs=[x]) (_:dA K H d x) (_:∀ H',ae H H'->Q (.bl (xN 3 1 100 d)) H')
theorem pd (T:c8 K mg w):df P w K mg base (cN P w) 4 "is_weights" j0 [] (pG K):=by
  refine T.xp.cal lf (bb:=λ_ _ _ _ _ H vs Q E hr h=>?_);obtain⟨x,d,rfl,hx,q⟩:=h;refine⟨_,(cO.go (ah (au (aj aE (fm T) hr (aa (ao 0) (aa ac (aa (cC rfl T.xg) (aa (cC rfl T.xe) aB)))))))),?_⟩;exact⟨_,rfl,x,d,3,1,100,rfl,hx,by decide,q⟩
theorem fk:ay j0 j0 (ag dE):=dD
inductive kc (K:HD)(vs:List V)(H:Hp)(Q:VK)(_:XK):Prop
 |mk (x:V) (r:R3) (_:vs=[x]) (_:dA K H (.tuple r.ds) x) (_:r.Hv) (_:∀ H',ae H H'->Q .non H')
theorem ke (T:c8 K mg w):df P w K mg base (cN P w) 5 "refuse_no_weights" j0 [] (kc K):=by
  refine T.xq.cal fk (bb:=λ_ _ _ _ _ H vs Q E hr h=>?_);obtain⟨x,r,rfl,hx,hv,q⟩:=h;refine⟨_,(cO.go (ah (bg (bE (bD (aj aE (sv T) hr (aH (ao 0))))) (ah cQ) aN))),?_⟩;exact⟨_,rfl,x,r,rfl,hx,hv,λH' s'=>⟨_,rfl,bJ (q _ s')⟩⟩
inductive iV (K:HD)(vs:List V)(H:Hp)(Q:VK)(E:XK):Prop
 |mk (x:V) (d:NQ) (_:vs=[x]) (_:dA K H d x) (_:(xN 3 1 100 d=false->Rz K 0 H E)) (_:(xN 3 1 100 d=true->∀ H',ae H H'->Q .non H'))
theorem d_ (T:c8 K mg w):df P w K mg base (cN P w) 5 "refuse_no_weights" j0 [] (iV K):=by
  refine T.xq.calX fk (bb:=λ_ _ _ _ _ H vs Q E hr h=>?_);obtain⟨x,d,rfl,hx,qz,q⟩:=h;refine⟨_,(cO.go (ah (bg (bE (bD (aj aE (pd T) hr (aH (ao 0))))) (ah (kC (K:=K) rfl bQ rfl rfl rfl (pL T.x1 (i:=0) rfl) (aH bB))) aN))),?_⟩;refine⟨_,rfl,x,d,rfl,hx,λH1 s1=>⟨_,rfl,?_⟩⟩;cases hs:xN 3 1 100 d with
  |true=>exact bJ (q hs _ s1)
  |false=>exact aZ ⟨xL,(qz hs).now s1 rfl⟩
theorem kR:ay j0 j0 (ag dP):=dD
inductive jt (K:HD)(vs:List V)(H:Hp)(Q:VK)(E:XK):Prop
 |mk (x:V) (d:NQ) (_:vs=[x]) (_:aw K H d x) (_:(rT 2 7 d=false->Rz K 0 H E)) (_:(rT 2 7 d=true->Q .non H))
theorem jr (T:c8 K mg w):df P w K mg base (cN P w) 3 "refuse_no_levels" j0 [] (jt K):=by
  refine T.x1z.calX kR (bb:=λ_ _ _ _ _ H vs Q E hr h=>?_);obtain⟨x,d,rfl,hx,qz,q⟩:=h;refine⟨_,(cO.go (ah (bg (bE (bD (aj aE (ck T) hr (aa (ao 0) (aa (cC rfl T.xt) (aa (cC rfl T.xw) aB)))))) (ah (kC (K:=K) rfl bQ rfl rfl rfl (pL T.x1 (i:=0) rfl) (aH bB))) aN))),?_⟩;refine⟨_,rfl,x,d,2,7,rfl,hx,_,rfl,?_⟩;cases hs:rT 2 7 d with
  |true=>exact bJ (q hs)
  |false=>exact aZ ⟨xL,(qz hs).now (ae.refl _) rfl⟩
theorem sI:ay uD0 uD0 (ag ji):=dD
inductive sU (K:HD)(vs:List V)(H:Hp)(Q:VK)(_:XK):Prop
 |mk (n:Nat) (_:vs=[.int n]) (_:2<=n) (_:n<=7) (_:∀ (D:Nn) (ys:List V) (H':Hp),ae H H'->H' D=some (.lst ys)->av K H' ((aU n).map λt=>(AI n t).col) ys->Q (.ref D) H')
theorem sH (T:c8 K mg w):df P w K mg base (cN P w) 3 "colours_of" uD0 [] (sU K):=by
  refine T.x20.cal sI (bb:=λ_ _ _ _ _ H vs Q E hr h=>?_);obtain⟨n,rfl,h2,h7,q⟩:=h;refine⟨_,(cO.go (ah (au (aR ["place"] uD0 [0] 1 (bH (K:=K) rfl (aj aE (fC T) hr (aH (ao 0)))) (λnd=>(am 0 nd)) aJ (bN (i_ (K:=K) rfl) (by rfl) T.x3 cG (aH (aR ["at"] uD0 [1] 1 (bH (K:=K) rfl (ao 0)) (λnd=>(am 0 nd)) aJ (aj aE (bZ T T.x9) hr (aK (ar aW (cC rfl T.xc) (ao 0)) (ar cT (ao 1) ac)))))))))),?_⟩;refine⟨_,rfl,n,rfl,h7,λD xs H1 s1 hD hxs=>?_⟩;have l7:(aU n).length<=343:=by
   rw[eO];exact Qz h7 3
  refine⟨D,true,rfl,⟨_,bI.of hD⟩,bW (K:=K) (b:=true) (es:=(aU n).map λt=>(AI n t).col) (bI.of hD) hxs (by simp) (by rw[Ni];lia) (λi e e' u H2 hd he s2 hu R kk S=>?_) (λzs H2 s2 hzs Z hZ=>?_)⟩
  ·rw[NB] at hd he;obtain⟨t,et,rfl⟩:=Nz.mp hd;rw[et] at he;cases he;obtain⟨ta,rfl,hta⟩:=ku hu;refine aZ (B:=S H2) ⟨_,rfl,ta,false,rfl,⟨_,cW.of hta⟩,bW (K:=K) (b:=false) (ds:=[.int (t.1:Int),.int (t.2.1:Int),.int (t.2.2:Int)]) (es:=(AI n t).ds) (cW.of hta) (.cons (.int _) (.cons (.int _) (.cons (.int _) .nil))) rfl (by show 3<=1000;decide) (λj e e' u H3 hd he s3 hu R2 kk2 S2=>?_) (λws H3 s3 hws W hW=>?_)⟩
   ·obtain⟨m,rfl,rfl⟩:∃ m:Nat,e=.int (m:Int)/\e'=rD (Fw n m):=by
     rcases vx hd with ⟨rfl,rfl⟩|⟨rfl,rfl⟩|⟨rfl,rfl⟩
     ·exact⟨t.1,rfl,(Nb he).symm⟩
     ·exact⟨t.2.1,rfl,(Nb he).symm⟩
     ·exact⟨t.2.2,rfl,(Nb he).symm⟩
    cases hu;refine aZ (B:=S2 H3) ⟨_,rfl,_,_,rfl,rfl,.inr (by unfold Sm;decide),_,rfl,_,_,rfl,rfl,_,_,rfl,by lia,Sm.mono (k:=20) (by unfold Sm;lia) (by decide),xE.sh (by lia) λw H4 s4 hw=>kk2 _ _ ⟨s4,hw⟩⟩
   ·exact⟨W,ws,rfl,.inl ⟨bI.of ai,λl hl=>kk _ _ ⟨(s3.trans (ae.new hW)).trans (ae.new hl),aw.tupN (ds:=(AI n t).ds) hl (av.same (ae.new hW) hws)⟩⟩⟩
  ·exact q Z zs _ ((s1.trans s2).trans (ae.new hZ)) ai (av.same (ae.new hZ) hzs)
theorem cB:ay ["one","other","weights","tops","below","squares"] uA5 (ag dS):=dD
inductive uV (K:HD)(vs:List V)(H:Hp)(Q:VK)(_:XK):Prop
 |mk (x y z:V) (c e:Q3) (r:R3) (_:vs=[x,y,z]) (_:aw K H c.col x) (_:aw K H e.col y) (_:dA K H (.tuple r.ds) z) (_:c.Bd 250) (_:e.Bd 250) (_:r.Hv) (_:∀ (w:V) (H':Hp),ae H H'->Bq 3520 (y9 r c e)->aw K H' (rD (y9 r c e)) w->Q w H')
theorem uU (T:c8 K mg w):vF P w K mg base (cN P w) 6 "far_apart" uA5 ["weights"] 2 1 [] (uV K):=by
  refine T.x21.cal cB (bb:=λ_ _ _ _ _ H vs Q E hr h=>?_);obtain⟨x,y,z,c,e,r,rfl,hx,hy,hz,bc,be,hv,q⟩:=h;refine⟨_,(cO.go (af (bo (aj aE (fS T) hr (aH (ao 0))))
   (af (bo (aj aE (fS T) hr (aH (ao 1))))
   (af (bo (aj aE (ke T) hr (aH (ao 2))))
   (af (fi (aj aE (da T) hr (aH (ar (Dc (K:=K) rfl) (ao 0) (ao 1)))) (b9 (K:=K) (n:=2) rfl rfl (aq (am 3 cB.nd) (aq (am 4 cB.nd) aY))))
   (af (cH 5 ["weight","here","there"] [] [] 3 cB.nd (zd (K:=K) rfl rfl T.x5 (aa (ao 2) (aa (eQ (Bs (K:=K) rfl) (ao 3) ge (gU ac)) (aa (eQ (Bs (K:=K) rfl) (ao 3) (gU ac) ge) aB)))) (λnd=>(re (K:=K) (n:=3) rfl rfl (aq (am 0 nd) (aq (am 1 nd) (aq (am 2 nd) aY))))) aJ (ar aW (ao 0) (ar mh (ar cT (ao 1) (ao 2)) ac)))
   (ah (au (aj aE (bZ T T.x9) hr (aK (ax (uF (K:=K) rfl rfl) (by rfl) T.xb rH (aH (ao 5))) (ar mh (ao 4) ac))))))))))),?_⟩
  refine⟨_,rfl,x,c.a,c.b,c.c,rfl,hx,λH1 s1=>?_⟩;refine⟨_,rfl,y,e.a,e.b,e.c,rfl,aw.same s1 hy,λH2 s2=>?_⟩;refine⟨_,rfl,z,r,rfl,dA.same (s1.trans s2) hz,hv,λH3 s3=>?_⟩;have s03:=(s1.trans s2).trans s3;obtain⟨xa,xs,rfl,hxa,hxs⟩:=bn (b:=false) (ds:=c.ds) (aw.same s03 hx);obtain⟨ya,ys,rfl,hya,hys⟩:=bn (b:=false) (ds:=e.ds) (aw.same s03 hy);obtain⟨x0,x1,x2,rfl,gx0,gx1,gx2⟩:=cV hxs;obtain⟨y0,y1,y2,rfl,gy0,gy1,gy2⟩:=cV hys;obtain⟨rs,hrs⟩:∃ rs:List Rat,rs=[c.a,c.b,c.c,e.a,e.b,e.c]:=⟨_,rfl⟩
  have brs:∀ q∈rs,Bq 250 q:=λq hq=>by
   rw[hrs] at hq;simp only[Nl,NH,OY] at hq;rcases hq with rfl|rfl|rfl|rfl|rfl|rfl
   ·exact bc.a
   ·exact bc.b
   ·exact bc.c
   ·exact be.a
   ·exact be.b
   ·exact be.c
  have lrs:rs.length=6:=by rw[hrs];rfl
  refine⟨_,rfl,_,rfl,xa,ya,_,_,rfl,rfl,hxa,hya,by simp,by show 6<=Nv;decide,λz=>absurd z (by simp),λ_ p hp=>?_⟩;have gp:aw K (upd H3 p (.tup [x0,x1,x2,y0,y1,y2])) (wV false (rs.map rD)) (.ref p):=by
   rw[hrs];exact aw.tupN (ds:=[rD c.a,rD c.b,rD c.c,rD e.a,rD e.b,rD e.c]) hp (.cons gx0 (.cons gx1 (.cons gx2 (.cons gy0 (.cons gy1 (.cons gy2 .nil))))))
  have sp:ae H3 (upd H3 p (.tup [x0,x1,x2,y0,y1,y2])):=ae.new hp;show hJ K [.ref p] (upd H3 p (.tup [x0,x1,x2,y0,y1,y2])) _ E0;generalize upd H3 p (.tup [x0,x1,x2,y0,y1,y2])=H4 at gp sp ⊢;obtain⟨B0,BS⟩:=gm brs rs.length (Nj _);rw[Ra] at B0 BS;have dvd:∀ q∈rs,(q.den:Int)∣cM rs:=λq hq=>tI hq
  have ovs:∀ q∈rs,Sm 1751 (ov (cM rs) q):=λq hq=>(DX brs hq).mono (by rw[lrs];decide)
  have BT:Sm 1501 (cM rs):=BS.mono (by rw[lrs];decide);refine⟨.ref p,false,250,rs,rfl,gp,brs,by rw[lrs];decide,by decide,by rw[lrs];decide,λtv H5 s5 htv=>?_⟩;generalize cM rs=B at *;subst hrs;obtain⟨ta,ts,rfl,hta,hts⟩:=bn (b:=false) (ds:=[.list ([c.a,c.b,c.c,e.a,e.b,e.c].map λq=>.int (ov B q)),.int B]) htv;obtain⟨t0,rfl,ht0⟩:∃ t0,ts=[t0,.int B]/\aw K H5 (.list ([c.a,c.b,c.c,e.a,e.b,e.c].map λq=>.int (ov B q))) t0:=by
   obtain⟨t0,t1,rfl,k0,k1⟩:=pN hts;cases k1;exact⟨t0,rfl,k0⟩
  obtain⟨tl,tls,rfl,htl,htls⟩:=bn (b:=true) (ds:=[c.a,c.b,c.c,e.a,e.b,e.c].map λq=>.int (ov B q)) ht0;have etl:=bT (ns:=[ov B c.a,ov B c.b,ov B c.c,ov B e.a,ov B e.b,ov B e.c]) htls;subst etl;refine⟨ta,_,rfl,hta,rfl,_,_,rfl,_,_,rfl,rfl,_,rfl,_,rfl,3,rfl,tl,_,rfl,htl,λl1 hl1=>?_⟩;have sl1:ae H5 (upd H5 l1 (.lst [.int (ov B c.a),.int (ov B c.b),.int (ov B c.c)])):=ae.new hl1;have gl1:upd H5 l1 (.lst [.int (ov B c.a),.int (ov B c.b),.int (ov B c.c)]) l1=some (.lst [.int (ov B c.a),.int (ov B c.b),.int (ov B c.c)]):=ai;dsimp only;rw[show qL ([ov B c.a,ov B c.b,ov B c.c,ov B e.a,ov B e.b,ov B e.c].map V.int) none (some 3)=[.int (ov B c.a),.int (ov B c.b),.int (ov B c.c)] from rfl];generalize upd H5 l1 (.lst [.int (ov B c.a),.int (ov B c.b),.int (ov B c.c)])=H6 at sl1 gl1 ⊢;refine⟨_,rfl,3,rfl,tl,_,rfl,bX.same (b:=true) sl1 htl,λl2 hl2=>?_⟩;dsimp only;rw[show qL ([ov B c.a,ov B c.b,ov B c.c,ov B e.a,ov B e.b,ov B e.c].map V.int) (some 3) none=[.int (ov B e.a),.int (ov B e.b),.int (ov B e.c)] from rfl];generalize e0:upd H6 l2 _=H7;have sl2:=iy hl2 e0;have gl2:=lX e0;have s07:ae H H7:=(((s03.trans sp).trans s5).trans sl1).trans sl2;obtain⟨za,rfl,hza⟩:∃ za,z=.ref za/\cW K H7 za r.vs:=by
   rcases dA.same s07 hz with h|⟨a,ns,rfl,h1,h2⟩
   ·cases h with
    |tup h q=>
     cases eX q;exact⟨_,rfl,cW.of h⟩
   ·refine⟨a,rfl,?_⟩;have e3:ns=[r.a,r.b,r.c]:=by
     injection h1 with h1
     match ns,h1 with
     |[x,y,z],h1=>
      injection h1 with e1 h1
      injection h1 with e2 h1
      injection h1 with e3 h1
      injection e1 with e1
      injection e2 with e2
      injection e3 with e3
      rw[e1,e2,e3]
    subst e3;exact KT.sq h2
  have bs:=ovs;have two:(2:Int).toNat=2:=rfl;have pw:∀ {m:Int},Sm 1752 m->Sm 3504 (m^2):=λ{m} h=>by
   rw[Qv,Qv,To,Ui];exact(h.mul h).mono (by decide)
  refine⟨za,l1,l2,rfl,⟨_,hza⟩,⟨_,bI.of (sl2 _ _ gl1)⟩,⟨_,bI.of gl2⟩,Ei (K:=K) (es:=[.int (r.a*(ov B c.a-ov B e.a)^2),.int (r.b*(ov B c.b-ov B e.b)^2),.int (r.c*(ov B c.c-ov B e.c)^2)]) hza (bI.of (sl2 _ _ gl1)) (bI.of gl2) rfl (λi d x y z T H8 hd hx8 hy8 hz8 s8 hT R kk S=>?_) (λvs H8 s8 hvs V8 hV8=>?_)⟩
  ·obtain⟨m,t,u,rfl,rfl,rfl,rfl,hm,ht,hu⟩:∃ m t u:Int,x=.int m/\y=.int t/\z=.int u/\d=.int (m*(t-u)^2)/\(1<=m/\m<=100)/\Sm 1751 t/\Sm 1751 u:=by
    rcases vx hd with ⟨rfl,rfl⟩|⟨rfl,rfl⟩|⟨rfl,rfl⟩<;>(cases(Nb hx8);cases(Nb hy8);cases(Nb hz8))
    ·exact⟨_,_,_,rfl,rfl,rfl,rfl,⟨hv.a0,hv.a1⟩,bs _ (by simp),bs _ (by simp)⟩
    ·exact⟨_,_,_,rfl,rfl,rfl,rfl,⟨hv.b0,hv.b1⟩,bs _ (by simp),bs _ (by simp)⟩
    ·exact⟨_,_,_,rfl,rfl,rfl,rfl,⟨hv.c0,hv.c1⟩,bs _ (by simp),bs _ (by simp)⟩
   refine⟨T,_,rfl,.inr (cW.of hT),rfl,_,_,rfl,_,_,rfl,_,_,rfl,rfl,aZ (B:=S H8) ?_⟩;exact⟨_,rfl,_,rfl,_,rfl,_,_,rfl,rfl,_,_,rfl,rfl,⟨by decide,by decide,(ht.sub hu).mono (by decide)⟩,_,_,rfl,rfl,.inr (by unfold Sm;lia),kk _ _ ⟨ae.refl _,.int _⟩⟩
  ·have ev:=bT (ns:=[r.a*(ov B c.a-ov B e.a)^2,r.b*(ov B c.b-ov B e.b)^2,r.c*(ov B c.c-ov B e.c)^2]) hvs;subst ev;have BR:(B:Rat)≠0:=Cv (by lia);have far:=Jm (r:=r) (c:=c) (e:=e) BR (mM (dvd c.a (by simp))) (mM (dvd c.b (by simp))) (mM (dvd c.c (by simp))) (mM (dvd e.a (by simp))) (mM (dvd e.b (by simp))) (mM (dvd e.c (by simp)));have B2:B^2≠0:=by
    rw[Qv,Qv,To,Ui];exact Pf (by lia) (by lia)
   have SB2:Sm 3002 (B^2):=by
    rw[Qv,Qv,To,Ui];exact(BT.mul BT).mono (by decide)
   have sq:∀ {m t u:Int},1<=m/\m<=100->Sm 1751 t->Sm 1751 u->Sm 3511 (m*(t-u)^2):=λ{m t u} hm ht hu=>((show Sm 7 m by unfold Sm;lia).mul (pw ((ht.sub hu).mono (by decide)))).mono (by decide)
   have bq:Bq 3520 (y9 r c e):=by
    rw[<- far];refine fR B2 ?_ (SB2.mono (by decide));refine(u7 (m:=3511) λx hx=>?_).mono (by show 3511+3<=3520;decide);simp only[Nl,NH,OY] at hx;rcases hx with rfl|rfl|rfl
    ·exact sq ⟨hv.a0,hv.a1⟩ (bs _ (by simp)) (bs _ (by simp))
    ·exact sq ⟨hv.b0,hv.b1⟩ (bs _ (by simp)) (bs _ (by simp))
    ·exact sq ⟨hv.c0,hv.c1⟩ (bs _ (by simp)) (bs _ (by simp))
   refine⟨_,rfl,V8,_,rfl,bI.of ai,_,rfl,_,_,rfl,rfl,⟨by decide,by decide,BT.mono (by decide)⟩,_,_,rfl,B2,SB2.mono (by decide),?_⟩;refine xE.sh B2 λw H9 s9 hw=>q w H9 (((s07.trans s8).trans (ae.new hV8)).trans s9) bq ?_
   rw[<- far];exact hw
inductive vU (K:HD)(H:Hp)(x y z:V):Nat->Prop
 |one {d:NQ}:aw K H d x->jw d=false->vU K H x y z 6
 |two {d e:NQ}:aw K H d x->jw d=true->aw K H e y->jw e=false->vU K H x y z 6
 |wt {d e c:NQ}:aw K H d x->jw d=true->aw K H e y->jw e=true->dA K H c z->xN 3 1 100 c=false->vU K H x y z 0
theorem vU.same {K:HD}{H H':Hp}{x y z:V}{i:Nat}(h:vU K H x y z i)(s:ae H H'):vU K H' x y z i:=by
 cases h with
 |one a b=>exact .one (aw.same s a) b
 |two a b c d=>exact .two (aw.same s a) b (aw.same s c) d
 |wt a b c d e f=>exact .wt (aw.same s a) b (aw.same s c) d (dA.same s e) f
inductive qD (K:HD)(vs:List V)(H:Hp)(Q:VK)(E:XK):Prop
 |mk (x y z:V) (i:Nat) (_:vs=[x,y,z]) (_:vU K H x y z i) (_:Rz K i H E)
theorem qI (T:c8 K mg w):vF P w K mg base (cN P w) 6 "far_apart" uA5 ["weights"] 2 1 [] (qD K):=by
  refine T.x21.calX cB (bb:=λ_ _ _ _ _ H vs Q E hr h=>?_);obtain⟨x,y,z,i,rfl,ak,qz⟩:=h;refine⟨_,(cO.go (af (bo (cP bQ rfl (cn T) (hr.mono (by decide)) rfl (aH (ao 0))))
   (af (bo (cP bQ rfl (cn T) (hr.mono (by decide)) rfl (aH (ao 1))))
   (af (bo (cP bQ rfl (d_ T) (hr.mono (by decide)) rfl (aH (ao 2))))
   (af (fi (aj aE (da T) hr (aH (ar (Dc (K:=K) rfl) (ao 0) (ao 1)))) (b9 (K:=K) (n:=2) rfl rfl (aq (am 3 cB.nd) (aq (am 4 cB.nd) aY))))
   (af (cH 5 ["weight","here","there"] [] [] 3 cB.nd (zd (K:=K) rfl rfl T.x5 (aa (ao 2) (aa (eQ (Bs (K:=K) rfl) (ao 3) ge (gU ac)) (aa (eQ (Bs (K:=K) rfl) (ao 3) (gU ac) ge) aB)))) (λnd=>(re (K:=K) (n:=3) rfl rfl (aq (am 0 nd) (aq (am 1 nd) (aq (am 2 nd) aY))))) aJ (ar aW (ao 0) (ar mh (ar cT (ao 1) (ao 2)) ac)))
   (ah (au (aj aE (bZ T T.x9) hr (aK (ax (uF (K:=K) rfl rfl) (by rfl) T.xb rH (aH (ao 5))) (ar mh (ao 4) ac))))))))))),?_⟩
  cases ak with
  |@one d hx hb=>exact⟨_,rfl,x,d,rfl,hx,λ_=>qz.out (ae.refl _),λz=>by rw[hb] at z;cases z⟩
  |@two d e hx hb hy he=>exact⟨_,rfl,x,d,rfl,hx,λz=>(by rw[hb] at z;cases z),λ_ H1 s1=>⟨_,rfl,y,e,rfl,aw.same s1 hy,λ_=>qz.out s1,λz=>by rw[he] at z;cases z⟩⟩
  |@wt d e c hx hb hy he hz hc=>exact⟨_,rfl,x,d,rfl,hx,λz=>(by rw[hb] at z;cases z),λ_ H1 s1=>⟨_,rfl,y,e,rfl,aw.same s1 hy,λz=>(by rw[he] at z;cases z),λ_ H2 s2=>⟨_,rfl,z,c,rfl,dA.same (s1.trans s2) hz,λ_=>qz.out (s1.trans s2),λz=>by rw[hc] at z;cases z⟩⟩⟩
theorem gE:ay ["grid","goal","levels","weights","best","colour","far"] uA0 (ag f6):=dD
inductive ia (K:HD)(H:Hp)(v y s z:V):Option Nat->Prop
 |grid {T:String}:Ty K H v T->T∈iX->ia K H v y s z (some 5)
 |goal {n:Nat}{f:Kn->R3}{d:NQ}:g_ K H n f v->aw K H d y->jw d=false->ia K H v y s z (some 6)
 |lev {n:Nat}{f:Kn->R3}{d c:NQ}:g_ K H n f v->aw K H d y->jw d=true->aw K H c s->rT 2 7 c=false->ia K H v y s z (some 0)
 |wt {n:Nat}{f:Kn->R3}{d c b:NQ}:g_ K H n f v->aw K H d y->jw d=true->aw K H c s->rT 2 7 c=true->dA K H b z->xN 3 1 100 b=false->ia K H v y s z (some 0)
 |good {n m:Nat}{f:Kn->R3}{e:Q3}{r:R3}:g_ K H n f v->GM n f->2<=n->n<=7->aw K H e.col y->e.Bd 250->s=.int m->2<=m->m<=7->dA K H (.tuple r.ds) z->r.Hv->yS K "parts_by_four" H->ia K H v y s z none
theorem ia.same {K:HD}{H H':Hp}{v y s z:V}{o:Option Nat}(h:ia K H v y s z o)(s':ae H H'):ia K H' v y s z o:=by
 cases h with
 |grid a b=>exact .grid (Ty.same a s') b
 |goal a b c=>exact .goal (a.same s') (aw.same s' b) c
 |lev a b c d e=>exact .lev (a.same s') (aw.same s' b) c (aw.same s' d) e
 |wt a b c d e f g=>exact .wt (a.same s') (aw.same s' b) c (aw.same s' d) e (dA.same s' f) g
 |good a b c d e f g h i j k l=>exact .good (a.same s') b c d (aw.same s' e) f g h i (dA.same s' j) k (l.same s')
theorem Jo {r:R3}(hv:r.Hv):xN 3 1 100 (.tuple r.ds)=true:=by
 have e1:decide (1<=r.a)=true:=Nq hv.a0;have e2:decide (r.a<=100)=true:=Nq hv.a1;have e3:decide (1<=r.b)=true:=Nq hv.b0;have e4:decide (r.b<=100)=true:=Nq hv.b1;have e5:decide (1<=r.c)=true:=Nq hv.c0;have e6:decide (r.c<=100)=true:=Nq hv.c1;simp[xN,R3.ds,rT,e1,e2,e3,e4,e5,e6]
theorem Ig {m:Nat}(m2:2<=m)(m7:m<=7):rT 2 7 (.int (m:Int))=true:=by
 show(decide ((2:Int)<=m)&&decide ((m:Int)<=7))=true;rw[Nq (show(2:Int)<=m by lia),Nq (show(m:Int)<=7 by lia)];rfl
inductive u5 (K:HD)(vs:List V)(H:Hp)(Q:VK)(E:XK):Prop
 |mk (v y s z:V) (o:Option Nat) (_:vs=[v,y,s,z]) (_:ia K H v y s z o) (_:(∀ i,o=some i->Rz K i H E)) (_:(o=none->∀ (m:Nat) (F:Kn->Rat) (t:Kn) (w:V) (H':Hp),2<=m->m<=7->t∈aU m->ae H H'->aw K H' (zY m F t) w->Q w H'))
theorem mB (T:c8 K mg w):vF P w K mg base (cN P w) 8 "nearest" uA0 uA7 2 2 [] (u5 K):=by
  refine T.x2p.calX gE (bb:=λ_ _ _ _ _ H vs Q E hr h=>?_);obtain⟨v,y,st,z,o,rfl,ak,qz,q⟩:=h;refine⟨_,(cO.go (af (bo (cP bQ rfl (fV T) (hr.mono (by decide)) rfl (aH (ao 0))))
   (af (bo (cP bQ rfl (cn T) (hr.mono (by decide)) rfl (aH (ao 1))))
   (af (bo (cP bQ rfl (jr T) (hr.mono (by decide)) rfl (aH (ao 2))))
   (af (bo (cP bQ rfl (d_ T) (hr.mono (by decide)) rfl (aH (ao 3))))
   (af (aA 4 gE.nd dF)
   (af (zy (dn Ow rfl (bH (K:=K) rfl (aj aE (sH T) hr (aH (ao 2)))) (am 5 gE.nd) (af (aA 6 gE.nd (Ee aE (uU T) (hr.mono (by decide)) rfl (aK (w9 (K:=K) rfl aE (jk T) (hr.mono (by decide)) (ao 0) (aH (ao 5)) iW) (ao 1)) (fu (ao 3) iW)))
   (ah (bg (WW.pt (fF (aQ Cd (ao 4) dF (bh _)) (ff (bD (aj aE (qG T) hr (aK (ao 6) (aI K (ao 4) ac))))))) (ah (aA 4 gE.nd (aX (aK (ao 5) (ao 6))))) aN)))))
   (ah (au (ao 4)))))))))),?_⟩
  cases ak with
  |@grid T ht hm=>exact⟨_,rfl,v,rfl,.inr ⟨T,ht,hm,(qz 5 rfl).out (ae.refl _)⟩⟩
  |@goal n f d hv hy hb=>exact⟨_,rfl,v,rfl,.inl ⟨n,f,hv,_,rfl,y,d,rfl,hy,λ_=>(qz 6 rfl).out (ae.refl _),λz=>by rw[hb] at z;cases z⟩⟩
  |@lev n f d c hv hy hb hs hc=>exact⟨_,rfl,v,rfl,.inl ⟨n,f,hv,_,rfl,y,d,rfl,hy,λz=>(by rw[hb] at z;cases z),λ_ H1 s1=>⟨_,rfl,st,c,rfl,aw.same s1 hs,λ_=>(qz 0 rfl).out s1,λz=>by rw[hc] at z;cases z⟩⟩⟩
  |@wt n f d c b hv hy hb hs hc hz hw=>exact⟨_,rfl,v,rfl,.inl ⟨n,f,hv,_,rfl,y,d,rfl,hy,λz=>(by rw[hb] at z;cases z),λ_ H1 s1=>⟨_,rfl,st,c,rfl,aw.same s1 hs,λz=>(by rw[hc] at z;cases z),λ_=>⟨_,rfl,z,b,rfl,dA.same s1 hz,λ_=>(qz 0 rfl).out s1,λz=>by rw[hw] at z;cases z⟩⟩⟩⟩
  |@good n m f e r hv wt n2 n7 hy be es m2 m7 hz hr3 tb=>
   subst es;refine⟨_,rfl,v,rfl,.inl ⟨n,f,hv,?_⟩⟩;refine⟨_,rfl,y,e.col,rfl,hy,λz=>(by rw[qU] at z;cases z),λ_ H1 s1=>?_⟩;refine⟨_,rfl,.int m,.int m,rfl,.int _,λz=>(by rw[Ig m2 m7] at z;cases z),λ_=>?_⟩;refine⟨_,rfl,z,.tuple r.ds,rfl,dA.same s1 hz,λz=>(by rw[Jo hr3] at z;cases z),λ_ H2 s2=>?_⟩;refine⟨_,rfl,m,rfl,m2,m7,λD ys H3 s3 hD hys=>?_⟩;have s03:=(s1.trans s2).trans s3;obtain⟨F,hF⟩:∃ F,F=Ls n f m e r:=⟨_,rfl⟩
   obtain⟨a,C,dx,d,rfl,hC,ha,hg⟩:=id hv;have ly:=hys.length;rw[Ni] at ly;have enc:∀ {b:Option Kn}{w:V}{H':Hp},(match b with|none=>w=.non|some t=>aw K H' (zY m F t) w/\t∈aU m/\Bq 3520 (F t))->(b=none/\w=.non)\/∃ t p c x,b=some t/\w=.ref p/\H' p=some (.tup [c,x])/\aw K H' (AI m t).col c/\aw K H' (rD (F t)) x/\t∈aU m/\Bq 3520 (F t):=λ{b w H'} h=>by
    cases b with
    |none=>exact .inl ⟨rfl,h⟩
    |some t=>
     obtain⟨h1,h2,h3⟩:=h;cases h1 with
     |tup k1 k2=>
      obtain⟨c,x,rfl,g1,g2⟩:=pN k2;exact .inr ⟨t,_,c,x,rfl,rfl,k1,g1,g2,h2,h3⟩
   refine⟨D,true,rfl,⟨_,bI.of hD⟩,kA (K:=K) (xs:=ys) (λi σ H'=>(∃ (bv:V) (o5 o6:Option V),σ=[some (.ref a),some y,some (.int m),some z,some bv,o5,o6]/\(match HR F ((aU m).take i) with|none=>bv=.non|some t=>aw K H' (zY m F t) bv/\t∈aU m/\Bq 3520 (F t)))/\ae H3 H')
    ⟨⟨.non,_,_,rfl,rfl⟩,ae.refl _⟩ (λi σ H' _ ⟨_,s⟩=>bI.of (s _ _ hD)) ?_ ?_⟩
   ·rintro i xv σ H4 ex ⟨⟨bv,o5,o6,rfl,hb⟩,s4⟩;obtain⟨dd,ed,hd⟩:=hys.get ex;rw[NB] at ed;obtain⟨t,et,rfl⟩:=Nz.mp ed;have htm:=NJ et;obtain⟨wi,bd⟩:=GU m2 m7 htm;have s04:=s03.trans s4;have hcv:=aw.same s4 hd;refine⟨_,rfl,a,C,dx,_,rfl,hC,s04 _ _ ha,rfl,_,rfl,.ref a,xv,"four",n,f,AI m t,9,rfl,hv.same s04,wt,n2,n7,hcv,wi,bd,by decide,tb.same s04,.inl rfl,λr4 w4 H5 s5 e4 _ bd4 hw4=>?_⟩;obtain rfl:=e4 rfl;have s05:=s04.trans s5;refine⟨_,rfl,_,rfl,w4,y,z,_,e,r,rfl,hw4,aw.same s05 hy,dA.same s05 hz,⟨bd4.a.mono (by decide),bd4.b.mono (by decide),bd4.c.mono (by decide)⟩,be,hr3,λfv H6 s6 bq hfv=>?_⟩;have eF:y9 r (W4 n f (AI m t)) e=F t:=by rw[hF];rfl
    rw[eF] at bq hfv;have s46:=s5.trans s6;have hcv6:=aw.same s46 hcv;have mkp:∀ (p:Nn),H6 p=none->aw K (upd H6 p (.tup [xv,fv])) (zY m F t) (.ref p):=λp hp=>aw.tupN (ds:=[(AI m t).col,rD (F t)]) hp (.cons hcv6 (.cons hfv .nil))
    have c_:HR F ((aU m).take (i+1))=Gm F (HR F ((aU m).take i)) t:=by rw[bF et,wk]
    rcases enc hb with ⟨eb,rfl⟩|⟨tb',p,c,x,eb,rfl,hp,h1,h2,hm',hbq⟩
    ·refine⟨_,rfl,rfl,_,rfl,aZ (aZ ⟨_,rfl,_,rfl,mV,λp hp=>⟨⟨.ref p,_,_,rfl,?_⟩,(s4.trans s46).trans (ae.new hp)⟩⟩)⟩;rw[c_,eb];exact⟨mkp p hp,htm,bq⟩
    ·refine⟨_,rfl,rfl,_,rfl,bJ ⟨_,rfl,_,rfl,ib (s46 _ _ hp) ⟨fv,x,_,_,rfl,hfv,aw.same s46 h2,bq.mono (by decide),hbq.mono (by decide),_,rfl,fI (λhc=>?_) (λhc=>?_)⟩⟩⟩
     ·refine⟨_,rfl,_,rfl,mV,λp hp=>⟨⟨.ref p,_,_,rfl,?_⟩,(s4.trans s46).trans (ae.new hp)⟩⟩;rw[c_,eb];show match (if F t<F tb' then some t else some tb') with|none=>_|some t=>_
      rw[NZ (Os hc)];exact⟨mkp p hp,htm,bq⟩
     ·refine⟨⟨.ref p,_,_,rfl,?_⟩,s4.trans s46⟩;rw[c_,eb];show match (if F t<F tb' then some t else some tb') with|none=>_|some t=>_
      rw[NS (λz=>hc (Nq z))];exact⟨aw.same s46 (.tup hp (.cons h1 (.cons h2 .nil))),hm',hbq⟩
   ·rintro σ H4 ⟨⟨bv,o5,o6,rfl,hb⟩,s4⟩;rw[NR (by lia)] at hb;rcases enc hb with ⟨eb,rfl⟩|⟨t,p,c,x,eb,rfl,hp,h1,h2,hm',hbq⟩
    ·exfalso;have:∀ ts:List Kn,ts≠[]->HR F ts≠none:=λts hne hn=>by
      obtain⟨ts',t,rfl⟩:∃ ts' t,ts=ts'++[t]:=⟨ts.dropLast,ts.getLast hne,(List.dropLast_concat_getLast hne).symm⟩
      rw[wk] at hn;unfold Gm at hn
      split at hn
      ·cases hn
      ·split at hn<;>cases hn
     refine this _ (λz=>?_) eb;have:=Ql SV z;rw[eO,Ry] at this;have:0<m^3:=Nat.pow_pos (by lia);lia
    ·subst hF;exact⟨_,rfl,q rfl m _ t _ H4 m2 m7 hm' (s03.trans s4) (.tup hp (.cons h1 (.cons h2 .nil)))⟩
theorem gz:ay ["grid","goal","levels","weights","colour","far"] uA0 (ag c7):=dD
inductive n9 (K:HD)(vs:List V)(H:Hp)(Q:VK)(E:XK):Prop
 |mk (v y s z:V) (o:Option Nat) (_:vs=[v,y,s,z]) (_:ia K H v y s z o) (_:(∀ i,o=some i->Rz K i H E)) (_:(o=none->∀ (w:V) (H':Hp),ae H H'->Q w H'))
theorem nr (T:c8 K mg w):vF P w K mg base (cN P w) 9 "shown_worth" uA0 uA7 2 2 [] (n9 K):=by
  refine T.x2q.calX gz (bb:=λ_ _ _ _ _ H vs Q E hr h=>?_);obtain⟨v,y,st,z,o,rfl,ak,qz,q⟩:=h;refine⟨_,(cO.go (af (fi (kE bQ rfl (mB T) (hr.mono (by decide)) rfl (aK (ao 0) (ao 1)) (fu (ao 2) (fu (ao 3) iW))) (b9 (K:=K) (n:=2) rfl rfl (aq (am 4 gz.nd) (aq (am 5 gz.nd) aY))))
   (ah (au (w9 (K:=K) rfl aE (jk T) (hr.mono (by decide)) (ao 0) (aH (ao 4)) iW))))),?_⟩
  refine⟨_,rfl,_,rfl,_,rfl,_,rfl,v,y,st,z,o,rfl,ak,λi hi=>(qz i hi).out (ae.refl _),λhn m F t w H1 m2 m7 ht s1 hw=>?_⟩;subst hn;cases ak with
  |@good n _ f e r hv wt n2 n7 hy be es _ _ hz hr3 tb=>
   obtain⟨a,C,dx,d,rfl,hC,ha,hg⟩:=id hv;cases hw with
   |tup h1 h2=>
    obtain⟨c,x,rfl,g1,g2⟩:=pN h2;obtain⟨wi,bd⟩:=GU m2 m7 ht;refine⟨_,_,rfl,cW.of h1,rfl,_,_,rfl,_,_,rfl,rfl,?_⟩;exact⟨_,rfl,a,C,dx,_,rfl,hC,s1 _ _ ha,rfl,_,rfl,.ref a,c,"four",n,f,AI m t,9,rfl,hv.same s1,wt,n2,n7,g1,wi,bd,by decide,tb.same s1,.inl rfl,λr4 w4 H2 s2 e4 _ bd4 hw4=>q rfl w4 H2 (s1.trans s2)⟩
theorem dH:ay ["grid","least","order","place","worths","way"] uC5 (ag gg):=dD
inductive o8 (K:HD)(vs:List V)(H:Hp)(Q:VK)(_:XK):Prop
 |mk (v:V) (a b:Nn) (n:Nat) (f:Kn->R3) (t:Kn) (o:Nat×Nat×Nat) (_:vs=[v,.ref a,.ref b]) (_:g_ K H n f v) (_:H a=some (.tup (fZ t))) (_:KT K b (fZ o)) (_:o∈jV) (_:Fi n t) (_:∀ (w:V) (H':Hp),ae H H'->aw K H' (.list ((GV t o 4).map λu=>wD (f u))) w->Q w H')
theorem o_ (T:c8 K mg w):df P w K mg base (cN P w) 6 "worths_along" uC5 [] (o8 K):=by
  refine T.x22.cal dH (bb:=λ_ _ _ _ _ H vs Q E hr h=>?_);obtain⟨v,a,b,n,f,t,o,rfl,hv,ha,hb,ho,hlow,q⟩:=h;obtain⟨g,C,dx,d,rfl,hC,hg,hgr⟩:=id hv;refine⟨_,(cO.go (af (aA 3 dH.nd (bN (qV (K:=K) rfl) (by rfl) T.x8 i8 (aH (ao 1))))
   (af (aA 4 dH.nd (aV (aH (pO (K:=K) rfl aE (gu T) (hr.mono (by decide)) (ao 0) (aH (ao 1))))))
   (af (dn Ow rfl (bH (K:=K) rfl (ao 2)) (am 5 dH.nd) (af (Dd (ao 3) (ao 5) DN ac I_ mH)
   (ah (bo (on Ph PQ Qp kB (ao 4) (aH (pO (K:=K) rfl aE (gu T) (hr.mono (by decide)) (ao 0) (aH (bN (i_ (K:=K) rfl) (by rfl) T.x3 cG (aH (ao 3)))))))))))
   (ah (au (ao 4))))))),?_⟩
  have mem:∀ {i:Nat},i<=3->aF t (lg o i)∈aU n:=λhi=>Ew hlow (CY ho hi)
  have t0:aF t (lg o 0)=t:=LQ t;refine⟨_,rfl,a,_,rfl,.inr (cW.of ha),λpl hpl=>?_⟩;generalize e0:upd H pl _=H1;have s1:=iy hpl e0;have gp:=lX e0;have tm:t∈aU n:=by
   have:=mem (i:=0) (by decide);rw[t0] at this;exact this
  refine⟨_,rfl,g,C,dx,_,rfl,hC,s1 _ _ hg,rfl,_,rfl,.ref g,.ref a,n,f,t,rfl,hv.same s1,iB (s1 _ _ ha),tm,λw0 H2 s2 hw0=>⟨xL,λwl hwl=>?_⟩⟩;have gw:upd H2 wl (.lst [w0]) wl=some (.lst [w0]):=ai;have sw:ae H2 (upd H2 wl (.lst [w0])):=ae.new hwl;have nwp:wl≠pl:=λz=>by rw[z,s2 _ _ gp] at hwl;cases hwl
  have nwl:H wl=none:=wI (s1.trans s2) hwl;have hws0:av K (upd H2 wl (.lst [w0])) ((GV t o 1).map λu=>wD (f u)) [w0]:=by
   have e:(GV t o 1).map (λu=>wD (f u))=[wD (f t)]:=by
    show[wD (f (aF t (lg o 0)))]=_;rw[t0]
   rw[e];exact .cons (aw.same sw hw0) .nil
  generalize upd H2 wl (.lst [w0])=H3 at gw sw hws0 ⊢;have s3:ae H H3:=(s1.trans s2).trans sw;refine⟨_,rfl,b,false,rfl,⟨_,KT.sq hb⟩,kA (K:=K) (b:=false) (xs:=fZ o) (λi σ H'=>(∃ o5:Option V,σ=[some (.ref g),some (.ref a),some (.ref b),some (.ref pl),some (.ref wl),o5])/\ae H H'/\H' pl=some (.lst (fZ (aF t (lg o i))))/\∃ ws,H' wl=some (.lst ws)/\av K H' ((GV t o (i+1)).map λu=>wD (f u)) ws)
   ⟨⟨_,rfl⟩,s3,by rw[t0];exact(s2.trans sw) _ _ gp,[w0],gw,hws0⟩ (λi σ H' _ _=>KT.sq hb) ?_ ?_⟩
  ·rintro i xv σ H4 ex ⟨⟨o5,rfl⟩,s4,hp4,ws,hw4,hws⟩;have hi:i<3:=(Nt.mp ex).1;have exv:xv=.int ((mD o i:Nat):Int):=by
    match i,hi,ex with
    |0,_,ex=>exact(Nb ex).symm
    |1,_,ex=>exact(Nb ex).symm
    |2,_,ex=>exact(Nb ex).symm
   subst exv;have w3:=Ds (i:=i) ho;obtain⟨m,em,es⟩:=Jq (t:=aF t (lg o i)) w3;rw[CB] at es;refine⟨_,rfl,_,rfl,pl,_,_,_,rfl,rfl,by lia,hp4,(show(fZ (aF t (lg o i)))[((mD o i:Nat):Int).toNat]?=some (.int m) by rw[Op];exact em),_,_,rfl,rfl,pl,_,_,mD o i,rfl,rfl,hp4,Aj (by show mD o i<3;exact w3),?_⟩;have es:(fZ (aF t (lg o i))).set (mD o i) (.int (m+1))=fZ (aF t (lg o (i+1))):=es;rw[es];have sA:ae H (upd H4 pl (.lst (fZ (aF t (lg o (i+1)))))):=mK s4 hpl;have gA:upd H4 pl (.lst (fZ (aF t (lg o (i+1))))) pl=some (.lst (fZ (aF t (lg o (i+1))))):=ai;have hwA:upd H4 pl (.lst (fZ (aF t (lg o (i+1))))) wl=some (.lst ws):=by rw[az nwp];exact hw4
   have hwsA:=av.lput (zs:=fZ (aF t (lg o (i+1)))) hp4 (pK _) hws;generalize upd H4 pl (.lst (fZ (aF t (lg o (i+1)))))=HA at sA gA hwA hwsA ⊢;refine⟨_,rfl,.inl ⟨rfl,_,bI.of hwA⟩,_,rfl,g,C,dx,_,rfl,hC,sA _ _ hg,rfl,_,rfl,pl,_,rfl,.inl ⟨bI.of gA,λl hl=>?_⟩⟩;generalize e0:upd HA l _=HB;have sl:=iy hl e0;have gl:=lX e0;refine⟨.ref g,.ref l,n,f,aF t (lg o (i+1)),rfl,hv.same (sA.trans sl),iB gl,mem (by lia),λw1 HC sC hw1=>?_⟩;have sAC:=sl.trans sC;have hwC:=sAC _ _ hwA;have lw:=hws.length;rw[Ni] at lw;have lw4:ws.length<=4:=by
    rw[<- lw];show(List.map _ _).length<=4;rw[Ni,T5];lia
   refine⟨wl,ws,w1,rfl,rfl,hwC,bP (by lia),⟨_,rfl⟩,mK (sA.trans sAC) nwl,by rw[az nwp.symm];exact sAC _ _ gA,_,ai,?_⟩;rw[Cb,Ot];exact(av.lput hwC (pK _) (av.same sAC hwsA)).snoc (by
    have:=av.lput (zs:=ws++[w1]) hwC (ds:=[wD (f (aF t (lg o (i+1))))]) rfl (.cons hw1 .nil);cases this with
    |cons h _=>exact h)
  ·rintro σ H4 ⟨⟨o5,rfl⟩,s4,hp4,ws,hw4,hws⟩;exact⟨_,rfl,q _ H4 s4 (.lst (.inl hw4) hws)⟩
theorem qW:ay ["worths"] ["worths"] (ag iw):=dD
inductive qJ (K:HD)(vs:List V)(H:Hp)(Q:VK)(_:XK):Prop
 |mk (x:V) (r0 r1 r2 r3:R3) (_:vs=[x]) (_:aw K H (.list [wD r0,wD r1,wD r2,wD r3]) x) (_:∀ (w:V) (H':Hp),ae H H'->aw K H' (Hs r0 r1 r2 r3).d w->Q w H')
theorem qw (T:c8 K mg w):df P w K mg base (cN P w) 1 "differences" ["worths"] [] (qJ K):=by
  refine T.x23.cal qW (bb:=λ_ _ _ _ _ H vs Q E hr h=>?_);obtain⟨x,r0,r1,r2,r3,rfl,hx,q⟩:=h;refine⟨_,(cO.go (ah (au (aR tR [] [] 2 (iD (K:=K) rfl rfl T.x5 (aK (ao 0) (eQ (Bs (K:=K) rfl) (ao 0) (gU ac) ge))) (λnd=>(b9 (K:=K) (n:=2) rfl rfl (aq (am 0 nd) (aq (am 1 nd) aY)))) aJ (aR ["low","high"] [] [] 2 (iD (K:=K) rfl rfl T.x5 (aK (ao 0) (ao 1))) (λnd=>(b9 (K:=K) (n:=2) rfl rfl (aq (am 0 nd) (aq (am 1 nd) aY)))) aJ (ar cT (ao 1) (ao 0))))))),?_⟩;obtain⟨xa,xs,rfl,hxa,hxs⟩:=bn (b:=true) (ds:=[wD r0,wD r1,wD r2,wD r3]) hx;obtain⟨y0,ys,rfl,h0,hys⟩:∃ y0 ys,xs=y0::ys/\aw K H (wD r0) y0/\av K H [wD r1,wD r2,wD r3] ys:=by
   cases hxs with
   |cons h t=>exact⟨_,_,rfl,h,t⟩
  refine⟨_,rfl,_,rfl,1,rfl,xa,_,rfl,hxa,λp hp=>?_⟩;rw[vA (y0::ys) (by simp)];have sp:ae H (upd H p (.lst ys)):=ae.new hp;have gp:upd H p (.lst ys) p=some (.lst ys):=ai;dsimp only [List.drop];generalize upd H p (.lst ys)=H1 at sp gp ⊢;have hxs1:av K H1 [wD r0,wD r1,wD r2,wD r3] (y0::ys):=av.same sp (.cons h0 hys);refine⟨xa,p,true,true,rfl,⟨_,bX.same sp hxa⟩,⟨_,bI.of gp⟩,tH (K:=K) (fs:=[jg true (r1.sub r0),jg true (r2.sub r1),jg true (r3.sub r2)]) (bX.same sp hxa) (show bX K H1 p ys true from bI.of gp) hxs1 (av.same sp hys) (by show 3<=4;decide) rfl (by show 4<=1000;decide) (λi d e f' x y T H2 hd he hf s2 hx2 hy2 hT R kk S=>?_) (λzs H2 s2 hzs Z hZ=>?_)⟩
  ·obtain⟨u,w,rfl,rfl,rfl⟩:∃ u w:R3,d=wD u/\e=wD w/\f'=jg true (w.sub u):=by
    rcases vx he with ⟨rfl,rfl⟩|⟨rfl,rfl⟩|⟨rfl,rfl⟩
    ·exact⟨r0,r1,(Nb hd).symm,rfl,(Nb hf).symm⟩
    ·exact⟨r1,r2,(Nb hd).symm,rfl,(Nb hf).symm⟩
    ·exact⟨r2,r3,(Nb hd).symm,rfl,(Nb hf).symm⟩
   obtain⟨ua,rfl,hua⟩:=hU (b:=false) hx2;obtain⟨wa,rfl,hwa⟩:=hU (b:=false) hy2;refine⟨T,_,rfl,cW.of hT,rfl,_,_,rfl,_,_,rfl,rfl,aZ (B:=S H2) ⟨_,rfl,_,rfl,ua,wa,false,false,rfl,⟨_,hua⟩,⟨_,hwa⟩,f8 (K:=K) (fs:=(w.sub u).ds) hua hwa (rF _) (rF _) rfl rfl (by show 3<=1000;decide) (λj d e g' x y T' H3 hd he hf s3 hx3 hy3 hT' R' kk' S'=>?_) (λzs H3 s3 hzs Z hZ=>?_)⟩⟩
   ·obtain⟨k,l,rfl,rfl,rfl⟩:∃ k l:Int,d=.int k/\e=.int l/\g'=.int (l-k):=by
     rcases vx hd with ⟨rfl,rfl⟩|⟨rfl,rfl⟩|⟨rfl,rfl⟩<;>(cases(Nb he);cases(Nb hf);exact⟨_,_,rfl,rfl,rfl⟩)
    cases hx3;cases hy3;exact⟨T',_,rfl,cW.of hT',rfl,_,_,rfl,_,_,rfl,rfl,aZ (B:=S' H3) ⟨_,rfl,_,rfl,_,_,rfl,rfl,kk' _ _ ⟨ae.refl _,.int _⟩⟩⟩
   ·exact kk _ _ ⟨s3.trans (ae.new hZ),aw.listN hZ hzs⟩
  ·exact q _ _ ((sp.trans s2).trans (ae.new hZ)) (aw.listN hZ hzs)
theorem cA:ay ["goal","start","rows","size","tops","below","away","first","second","third","across"] uB8 (ag jF):=dD
inductive uf (K:HD)(vs:List V)(H:Hp)(Q:VK)(_:XK):Prop
 |mk (x y z:V) (e:Q3) (r:R3) (s:S9) (_:vs=[x,y,z,.int s.det]) (_:aw K H e.col x) (_:e.Bd 250) (_:aw K H (wD r) y) (_:r.In 4000) (_:aw K H s.d z) (_:s.In) (_:s.det≠0) (_:∀ (D:Nn) (ws:List V) (H':Hp),ae H H'->H' D=some (.lst ws)->av K H' (Bz e r s).ds ws->Q (.ref D) H')
theorem vg (T:c8 K mg w):df P w K mg base (cN P w) 3 "distances" uB8 [] (uf K):=by
  refine T.x24.cal cA (bb:=λ_ _ _ _ _ H vs Q E hr h=>?_);obtain⟨x,y,z,e,r,sq,rfl,hx,be,hy,hr3,hz,hin,hd,q⟩:=h;refine⟨_,(cO.go (af (fi (aj aE (da T) hr (aH (ao 0))) (b9 (K:=K) (n:=2) rfl rfl (aq (am 4 cA.nd) (aq (am 5 cA.nd) aY))))
   (af (aA 6 cA.nd (aR ["top","number"] ["below"] [5] 2 (iD (K:=K) rfl rfl T.x5 (aK (ao 4) (ao 1))) (λnd=>(b9 (K:=K) (n:=2) rfl rfl (aq (am 0 nd) (aq (am 1 nd) aY)))) aJ (ar cT (ao 0) (ar aW (ao 1) (ao 2)))))
   (af (fi (ao 2) (re (K:=K) (n:=3) rfl rfl (aq (am 7 cA.nd) (aq (am 8 cA.nd) (aq (am 9 cA.nd) aY)))))
   (af (aA 10 cA.nd (aV (aa (aj aE (jd T) hr (aK (ao 8) (ao 9))) (aa (aj aE (jd T) hr (aK (ao 9) (ao 7))) (aa (aj aE (jd T) hr (aK (ao 7) (ao 8))) aB)))))
   (ah (au (aR ["row"] ["away","size","below"] [6,3,5] 1 (bH (K:=K) rfl (ao 10)) (λnd=>(am 0 nd)) aJ (aj aE (bZ T T.x9) hr (aK (aj aE (jO T) hr (aK (ao 1) (ao 0))) (ar aW (ao 2) (ao 3)))))))))))),?_⟩
  refine⟨_,rfl,x,false,250,[e.a,e.b,e.c],rfl,hx,yd be,by show 3<=500;decide,by decide,by show 3*250+250+1<=7900;decide,λtv H1 s1 htv=>?_⟩;obtain⟨B0,BS⟩:=Db be;obtain⟨z0,z1⟩:=GJ be hin hd;obtain⟨w1,w2,w3⟩:=zm be hr3;obtain⟨ta,ts,rfl,hta,hts⟩:=bn (b:=false) (ds:=[.list ([e.a,e.b,e.c].map λq=>.int (ov (dB e) q)),.int (dB e)]) htv;obtain⟨t0,rfl,ht0⟩:∃ t0,ts=[t0,.int (dB e)]/\aw K H1 (.list ([e.a,e.b,e.c].map λq=>.int (ov (dB e) q))) t0:=by
   obtain⟨t0,t1,rfl,k0,k1⟩:=pN hts;cases k1;exact⟨t0,rfl,k0⟩
  obtain⟨tl,tls,rfl,htl,htls⟩:=bn (b:=true) (ds:=[e.a,e.b,e.c].map λq=>.int (ov (dB e) q)) ht0;have etl:=bT (ns:=[ov (dB e) e.a,ov (dB e) e.b,ov (dB e) e.c]) htls;subst etl;obtain⟨ya,rfl,hya⟩:=hU (b:=false) (aw.same s1 hy);refine⟨ta,_,rfl,hta,rfl,_,_,rfl,_,_,rfl,rfl,?_⟩;refine⟨_,rfl,_,rfl,tl,ya,true,false,rfl,⟨_,htl⟩,⟨_,hya⟩,f8 (K:=K) (fs:=(dR e r).ds) htl hya (gM [ov (dB e) e.a,ov (dB e) e.b,ov (dB e) e.c]) (rF _) rfl rfl (by show 3<=1000;decide) (λj d e' g' x y T' H3 hd he hf s3 hx3 hy3 hT' R' kk' S'=>?_) (λzs H3 s3 hzs Z hZ=>?_)⟩
  ·obtain⟨k,l,rfl,rfl,rfl,hl⟩:∃ k l:Int,d=.int k/\e'=.int l/\g'=.int (k-l*dB e)/\Sm 13 l:=by
    rcases vx hd with ⟨rfl,rfl⟩|⟨rfl,rfl⟩|⟨rfl,rfl⟩<;>(cases(Nb he);cases(Nb hf))
    ·exact⟨_,_,rfl,rfl,rfl,jv hr3.a1 hr3.a2⟩
    ·exact⟨_,_,rfl,rfl,rfl,jv hr3.b1 hr3.b2⟩
    ·exact⟨_,_,rfl,rfl,rfl,jv hr3.c1 hr3.c2⟩
   cases hx3;cases hy3;exact⟨T',_,rfl,cW.of hT',rfl,_,_,rfl,_,_,rfl,rfl,aZ (B:=S' H3) ⟨_,rfl,_,rfl,_,rfl,_,_,rfl,rfl,.inr (hl.mono (by decide)),_,_,rfl,rfl,kk' _ _ ⟨ae.refl _,.int _⟩⟩⟩
  ·have ez:=eX hzs;subst ez;have sZ:ae H3 (upd H3 Z (.lst (dR e r).vs)):=ae.new hZ;have gZ:upd H3 Z (.lst (dR e r).vs) Z=some (.lst (dR e r).vs):=ai;have s04:ae H (upd H3 Z (.lst (dR e r).vs)):=(s1.trans s3).trans sZ;generalize upd H3 Z (.lst (dR e r).vs)=H4 at sZ gZ s04 ⊢;obtain⟨a,xs,rfl,ha,hds⟩:=bn (aw.same s04 hz);obtain⟨x0,x1,x2,rfl,g0,g1,g2⟩:=cV hds;refine⟨_,rfl,a,_,rfl,nE ha,rfl,_,_,rfl,_,_,rfl,_,_,rfl,rfl,?_⟩;refine⟨_,rfl,_,rfl,x1,x2,_,_,sq.y,sq.z,rfl,g1,g2,hin.y,hin.z,λv0 H5 s5 h0=>?_⟩;refine⟨_,rfl,_,rfl,x2,x0,_,_,sq.z,sq.x,rfl,aw.same s5 g2,aw.same s5 g0,hin.z,hin.x,λv1 H6 s6 h1=>?_⟩;refine⟨_,rfl,_,rfl,x0,x1,_,_,sq.x,sq.y,rfl,aw.same (s5.trans s6) g0,aw.same (s5.trans s6) g1,hin.x,hin.y,λv2 H7 s7 h2=>?_⟩;refine⟨sk,λC hC=>?_⟩;have sC:ae H7 (upd H7 C (.lst [v0,v1,v2])):=ae.new hC;have hcs:av K (upd H7 C (.lst [v0,v1,v2])) [jg true sq.c0,jg true sq.c1,jg true sq.c2] [v0,v1,v2]:=.cons (aw.same ((s6.trans s7).trans sC) h0) (.cons (aw.same (s7.trans sC) h1) (.cons (aw.same sC h2) .nil));have hC1:bX K (upd H7 C (.lst [v0,v1,v2])) C [v0,v1,v2] true:=bI.of ai;have s48:ae H4 (upd H7 C (.lst [v0,v1,v2])):=(s5.trans s6).trans (s7.trans sC);generalize upd H7 C (.lst [v0,v1,v2])=H8 at hcs hC1 s48 ⊢;have sms:∀ m∈[(dR e r).a,(dR e r).b,(dR e r).c],Sm 8000 m:=λm hm=>by
    simp only[Nl,NH,OY] at hm;rcases hm with rfl|rfl|rfl
    ·exact w1.mono (by decide)
    ·exact w2.mono (by decide)
    ·exact w3.mono (by decide)
   have smc:∀ {c:R3},c.In 200000000->∀ m∈[c.a,c.b,c.c],Sm 8000 m:=λ{c} hc m hm=>by
    simp only[Nl,NH,OY] at hm;rcases hm with rfl|rfl|rfl
    ·exact(BX hc.a1 hc.a2).mono (by decide)
    ·exact(BX hc.b1 hc.b2).mono (by decide)
    ·exact(BX hc.c1 hc.c2).mono (by decide)
   refine⟨_,rfl,C,true,rfl,⟨_,hC1⟩,bW (es:=(Bz e r sq).ds) hC1 hcs rfl (by show 3<=1000;decide) (λi d e' u H9 hd9 he s9 hu R kk S=>?_) (λzs H9 s9 hzs D hD=>q D zs _ (s04.trans ((s48.trans s9).trans (ae.new hD))) ai (av.same (ae.new hD) hzs))⟩;refine aZ (B:=S H9) ?_;have dsm:=(CJ hin).mono (show 60<=64 by decide);obtain⟨c,rfl,rfl,hc⟩:∃ c:R3,d=jg true c/\e'=rD (((dR e r).dot c:Rat)/((sq.det*dB e:Int):Rat))/\c.In 200000000:=by
    rcases vx hd9 with ⟨rfl,rfl⟩|⟨rfl,rfl⟩|⟨rfl,rfl⟩<;>cases(Nb he)
    ·exact⟨_,rfl,rfl,gC hin.y hin.z⟩
    ·exact⟨_,rfl,rfl,gC hin.z hin.x⟩
    ·exact⟨_,rfl,rfl,gC hin.x hin.y⟩
   obtain⟨g,rfl,hg⟩:=hU hu;refine⟨_,rfl,_,rfl,Z,g,true,true,[(dR e r).a,(dR e r).b,(dR e r).c],[c.a,c.b,c.c],rfl,bI.of ((s48.trans s9) _ _ gZ),hg,rfl,by show 3<=1000;decide,sms,smc hc,λH10 s10=>?_⟩;rw[Fp];exact⟨_,rfl,_,rfl,_,_,rfl,rfl,.inr dsm,_,_,rfl,z0,z1.mono (by decide),xE.sh z0 λv8 H8 s8 hv8=>kk _ _ ⟨s10.trans s8,hv8⟩⟩
theorem kY:ay ["far","falling"] ["far"] (ag i9):=dD
inductive sJ (K:HD)(vs:List V)(H:Hp)(Q:VK)(_:XK):Prop
 |mk (a:Nn) (ws:List V) (p:Q3) (_:vs=[.ref a]) (_:H a=some (.lst ws)) (_:av K H p.ds ws) (_:p.Bd 3900) (_:∀ (H':Hp),ae H H'->Q (.bl (Kb p)) H')
theorem sM (T:c8 K mg w):df P w K mg base (cN P w) 3 "is_in_part" ["far"] [] (sJ K):=by
  refine T.x25.cal kY (bb:=λ_ _ _ _ _ H vs Q E hr h=>?_);obtain⟨a,ws,p,rfl,ha,hws,bp,q⟩:=h;refine⟨_,(cO.go (af (aA 1 kY.nd (ar lS (ar lS (aV (aH (aj aE (bZ T T.xa) hr (aH ac)))) (ao 0)) (aV (aH (aj aE (bZ T T.xa) hr (aH ac))))))
   (ah (au (Ai (ax (Kt (K:=K) rfl rfl) (by rfl) T.xz HU (aH (aR tR [] [] 2 (iD (K:=K) rfl rfl T.x5 (aK (ao 1) (eQ (Bs (K:=K) rfl) (ao 1) (gU ac) ge))) (λnd=>(b9 (K:=K) (n:=2) rfl rfl (aq (am 0 nd) (aq (am 1 nd) aY)))) aJ (aj aE (qG T) hr (aK (ao 0) (ao 1))))))))))),?_⟩
  obtain⟨x0,x1,x2,rfl,g0,g1,g2⟩:=cV hws;have o1:Sm 8000 (1:Int):=Sm.mono (k:=20) (by unfold Sm;decide) (by decide);refine⟨1,1,rfl,by decide,o1,xE.sh (by decide) λv1 H1 s1 hv1=>?_⟩;rw[jM] at hv1;refine⟨xL,λp1 hp1=>?_⟩;generalize e0:upd H1 p1 _=H2;have s2:=iy hp1 e0;have gp:=lX e0;refine⟨_,rfl,p1,a,_,_,rfl,rfl,gp,(s1.trans s2) _ _ ha,by show 4<=Nv;decide,λZ hZ=>?_⟩;generalize e0:upd H2 Z _=H3;have s3:=iy hZ e0;have gZ:=lX e0;refine⟨0,1,rfl,by decide,o1,xE.sh (by decide) λv2 H4 s4 hv2=>?_⟩;rw[jM] at hv2;refine⟨xL,λp2 hp2=>?_⟩;generalize e0:upd H4 p2 _=H5;have s5:=iy hp2 e0;have gq:=lX e0;refine⟨Z,p2,_,_,rfl,rfl,(s4.trans s5) _ _ gZ,gq,by show 5<=Nv;decide,λF hF=>?_⟩;generalize e0:upd H5 F _=H6;have s6:=iy hF e0;have gF:=lX e0;refine⟨_,rfl,_,rfl,1,rfl,F,_,rfl,bI.of gF,λG hG=>?_⟩;rw[vA _ (by simp)];generalize e0:upd H6 G _=H7;have s7:=iy hG e0;have gG:=lX e0;have s05:ae H H7:=((s1.trans s2).trans (s3.trans (s4.trans s5))).trans (s6.trans s7);have h1:av K H7 p.ds [x0,x1,x2]:=av.same s05 (.cons g0 (.cons g1 (.cons g2 .nil)));have hd1:av K H7 [rD p.a,rD p.b,rD p.c,rD ((0:Int):Rat)] [x0,x1,x2,v2]:=by
   obtain⟨_,_,_,e,k0,k1,k2⟩:=cV h1;cases e;exact .cons k0 (.cons k1 (.cons k2 (.cons (aw.same (s5.trans (s6.trans s7)) hv2) .nil)))
  have hd0:av K H7 [rD ((1:Int):Rat),rD p.a,rD p.b,rD p.c,rD ((0:Int):Rat)] [v1,x0,x1,x2,v2]:=.cons (aw.same ((s2.trans (s3.trans (s4.trans s5))).trans (s6.trans s7)) hv1) hd1;have b0:Bq 3900 ((0:Int):Rat):=Ok.mono L5 (by decide);have b1:Bq 3900 ((1:Int):Rat):=by
   rw[<- jM];exact fR (by decide) (Sm.mono (k:=20) (by unfold Sm;decide) (by decide)) (Sm.mono (k:=20) (by unfold Sm;decide) (by decide))
  refine⟨F,G,true,true,rfl,⟨_,bI.of (s7 _ _ gF)⟩,⟨_,bI.of gG⟩,tH (K:=K) (fs:=[.bool (decide (1<p.a)),.bool (decide (p.a<p.b)),.bool (decide (p.b<p.c)),.bool (decide (p.c<0))]) (bI.of (s7 _ _ gF)) (show bX K H7 G [x0,x1,x2,v2] true from bI.of gG) hd0 hd1 (by show 4<=5;decide) rfl (by show 5<=1000;decide) (λi d e f' x y T H8 hd he hf s8 hx8 hy8 hT R kk S=>?_) (λzs H8 s8 hzs Z hZ=>?_)⟩
  ·obtain⟨u,w,rfl,rfl,rfl,bu,bw⟩:∃ u w:Rat,d=rD u/\e=rD w/\f'=.bool (decide (u<w))/\Bq 3900 u/\Bq 3900 w:=by
    match i,hd,he,hf with
    |0,hd,he,hf=>cases hd;cases he;cases hf;exact⟨_,_,rfl,rfl,rfl,b1,bp.a⟩
    |1,hd,he,hf=>cases hd;cases he;cases hf;exact⟨_,_,rfl,rfl,rfl,bp.a,bp.b⟩
    |2,hd,he,hf=>cases hd;cases he;cases hf;exact⟨_,_,rfl,rfl,rfl,bp.b,bp.c⟩
    |3,hd,he,hf=>cases hd;cases he;cases hf;exact⟨_,_,rfl,rfl,rfl,bp.c,b0⟩
    |n+4,_,he,_=>simp at he
   exact⟨T,_,rfl,cW.of hT,rfl,_,_,rfl,_,_,rfl,rfl,aZ (B:=S H8) ⟨_,rfl,_,rfl,x,y,u,w,rfl,hx8,hy8,bu,bw,kk _ _ ⟨ae.refl _,.bl _⟩⟩⟩
  ·have ez:=dU (bs:=[decide (1<p.a),decide (p.a<p.b),decide (p.b<p.c),decide (p.c<0)]) hzs;subst ez;exact⟨Z,_,rfl,bI.of ai,_,rfl,q _ ((s05.trans s8).trans (ae.new hZ))⟩
theorem fW:ay ["least","order","far","apart","numbers","way","distance"] uB6 (ag jC):=dD
inductive u8 (K:HD)(vs:List V)(H:Hp)(Q:VK)(_:XK):Prop
 |mk (a b x:Nn) (ws:List V) (t:Kn) (o:Nat×Nat×Nat) (p:Q3) (ap:Int) (_:vs=[.ref a,.ref b,.ref x,.int ap]) (_:H a=some (.tup (fZ t))) (_:t.1<64) (_:t.2.1<64) (_:t.2.2<64) (_:KT K b (fZ o)) (_:o∈jV) (_:H x=some (.lst ws)) (_:av K H p.ds ws) (_:p.Bd 1035) (_:0<=ap) (_:ap<=60) (_:∀ (w:V) (H':Hp),ae H H'->(EY t o p ap).Bd 1060->aw K H' (EY t o p ap).col w->Q w H')
theorem uy (T:c8 K mg w):df P w K mg base (cN P w) 5 "colour_at" uB6 [] (u8 K):=by
  refine T.x26.cal fW (bb:=λ_ _ _ _ _ H vs Q E hr h=>?_);obtain⟨a,b,x,ws,t,o,p,ap,rfl,ha,t1,t2,t3,hb,ho,hx,hws,bp,a0,a1,q⟩:=h;refine⟨_,(cO.go (af (aA 4 fW.nd (aV (aa (aj aE (bZ T T.xa) hr (aH ac)) (aa (aj aE (bZ T T.xa) hr (aH ac)) (aa (aj aE (bZ T T.xa) hr (aH ac)) aB)))))
   (af (dn Ow rfl (iD (K:=K) rfl rfl T.x5 (aK (ao 1) (ao 2))) (b9 (K:=K) (n:=2) rfl rfl (aq (am 5 fW.nd) (aq (am 6 fW.nd) aY))) (ah (fi (aj aE (sg T) hr (aK (aj aE (DO T) hr (aK (aj aE (bZ T T.xa) hr (aH (aI K (ao 0) (ao 5)))) (ao 6))) (aj aE (bZ T T.xa) hr (aH (ao 3))))) (uG (ao 4) (ao 5) mH))))
   (ah (au (bN (i_ (K:=K) rfl) (by rfl) T.x3 cG (aH (ao 4)))))))),?_⟩
  obtain⟨x0,x1,x2,rfl,g0,g1,g2⟩:=cV hws;have o1:Sm 8000 (1:Int):=Sm.mono (k:=20) (by unfold Sm;decide) (by decide);refine⟨0,1,rfl,by decide,o1,xE.sh (by decide) λv0 H1 s1 hv0=>?_⟩;refine⟨0,1,rfl,by decide,o1,xE.sh (by decide) λv1 H2 s2 hv1=>?_⟩;refine⟨0,1,rfl,by decide,o1,xE.sh (by decide) λv2 H3 s3 hv2=>?_⟩;rw[jM] at hv0 hv1 hv2;refine⟨sk,λN hN=>?_⟩;have hN0:H N=none:=wI ((s1.trans s2).trans s3) hN;generalize e0:upd H3 N _=H4;have s4:=iy hN e0;have gN:=lX e0;have hn0:av K H4 ((lY t o p ap 0).map rD) [v0,v1,v2]:=.cons (aw.same ((s2.trans s3).trans s4) hv0) (.cons (aw.same (s3.trans s4) hv1) (.cons (aw.same s4 hv2) .nil));have s04:ae H H4:=((s1.trans s2).trans s3).trans s4;refine⟨_,rfl,_,rfl,b,x,false,true,rfl,⟨_,KT.sq hb⟩,⟨_,bI.of (s04 _ _ hx)⟩,Aq (K:=K) (xs:=fZ o) (ys:=[x0,x1,x2]) (λi σ H'=>(∃ o5 o6:Option V,σ=[some (.ref a),some (.ref b),some (.ref x),some (.int ap),some (.ref N),o5,o6])/\ae H H'/\∃ ns,H' N=some (.lst ns)/\av K H' ((lY t o p ap i).map rD) ns)
   ⟨⟨_,_,rfl⟩,s04,_,gN,hn0⟩ rfl (λi σ H' _ pv=>⟨KT.sq hb,bI.of (pv.2.1 _ _ hx)⟩) ?_ ?_⟩
  ·rintro i xv yv T σ H5 ex ey ⟨⟨o5,o6,rfl⟩,s5,ns,hns,hds⟩ hT;have hi:i<3:=(Nt.mp ex).1;have exv:xv=.int ((mD o i:Nat):Int):=by
    match i,hi,ex with
    |0,_,ex=>exact(Nb ex).symm
    |1,_,ex=>exact(Nb ex).symm
    |2,_,ex=>exact(Nb ex).symm
   subst exv;have hyv:aw K H5 (rD ([p.a,p.b,p.c].getD i 0)) yv/\Bq 1035 ([p.a,p.b,p.c].getD i 0):=by
    match i,hi,ey with
    |0,_,ey=>cases ey;exact⟨aw.same s5 g0,bp.a⟩
    |1,_,ey=>cases ey;exact⟨aw.same s5 g1,bp.b⟩
    |2,_,ey=>cases ey;exact⟨aw.same s5 g2,bp.c⟩
   obtain⟨hyv,byv⟩:=hyv;have w3:=Ds (i:=i) ho;have sT:ae H5 (upd H5 T (.tup [.int (mD o i:Nat),yv])):=ae.new hT;refine⟨T,_,rfl,cW.of ai,rfl,_,_,rfl,_,_,rfl,rfl,?_⟩;generalize upd H5 T (.tup [.int (mD o i:Nat),yv])=H6 at sT ⊢;have s06:=s5.trans sT;refine⟨_,rfl,_,rfl,rV (b:=false) (i:=mD o i) (cW.of (s06 _ _ ha)) (Jy w3) ?_⟩;have o7:Sm 7 (1:Int):=by unfold Sm;decide
   have bk:Bq 7 ((((Lr t).getD (mD o i) 0:Int):Rat)/((1:Int):Rat)):=fR (by decide) (CQ t1 t2 t3) o7;have ba:Bq 7 (((ap:Int):Rat)/((1:Int):Rat)):=fR (by decide) (show Sm 7 ap by unfold Sm;lia) o7;refine⟨_,1,rfl,by decide,o1,xE.sh (by decide) λu1 H7 s7 hu1=>?_⟩;refine⟨_,rfl,u1,yv,_,_,_,_,rfl,hu1,aw.same (sT.trans s7) hyv,bk.mono (by decide),byv.mono (by decide),xE.sh (zK _ _) ?_⟩;rw[<- Ae];refine λu2 H8 s8 hu2=>⟨_,rfl,ap,1,rfl,by decide,o1,xE.sh (by decide) λu3 H9 s9 hu3=>?_⟩
   refine⟨u2,u3,_,_,_,_,rfl,aw.same s9 hu2,hu3,Ok.mono (Bq.add bk byv) (by decide),ba.mono (by decide),xE.sh (zK _ _) ?_⟩;rw[<- zZ];refine λu4 H10 s10 hu4=>?_
   have s6':ae H5 H10:=((sT.trans s7).trans s8).trans (s9.trans s10);have hnsA:=s6' _ _ hns;have ln:ns.length=3:=by rw[<- hds.length,Ni,mJ]
   refine⟨_,rfl,_,rfl,N,ns,_,mD o i,rfl,rfl,hnsA,Aj (by rw[ln];exact w3),⟨_,_,rfl⟩,mK (s5.trans s6') hN0,_,ai,?_⟩;have e:(lY t o p ap (i+1)).map rD=((lY t o p ap i).map rD).set (mD o i) (rD (((((Lr t).getD (mD o i) 0:Int):Rat)/((1:Int):Rat)+[p.a,p.b,p.c].getD i 0)*(((ap:Int):Rat)/((1:Int):Rat)))):=by rw[lY,List.map_set]
   rw[e];have k1:=av.lput (zs:=ns.set (mD o i) u4) hnsA (ut _) (av.same s6' hds);have k2:=av.lput (zs:=ns.set (mD o i) u4) hnsA (ds:=[rD _]) (ut [_]) (.cons hu4 .nil);cases k2 with
   |cons k2 _=>exact w_ k2 _ k1
  ·rintro σ H5 ⟨⟨o5,o6,rfl⟩,s5,ns,hns,hds⟩;have hds':av K H5 (EY t o p ap).ds ns:=by rw[<- Ik];exact hds
   refine⟨_,rfl,N,ns,rfl,.inl ⟨bI.of hns,λl hl=>?_⟩⟩;exact q _ _ (s5.trans (ae.new hl)) (Js t1 t2 t3 bp a0 a1) (aw.tupN (ds:=(EY t o p ap).ds) hl hds')
theorem dg:ay ["grid","least","order","goal","worths","rows","size","far"] uB7 (ag ip):=dD
inductive qK (K:HD)(vs:List V)(H:Hp)(Q:VK)(_:XK):Prop
 |mk (v y:V) (a b:Nn) (n:Nat) (f:Kn->R3) (t:Kn) (o:Nat×Nat×Nat) (e:Q3) (_:vs=[v,.ref a,.ref b,y]) (_:g_ K H n f v) (_:GM n f) (_:2<=n) (_:n<=7) (_:H a=some (.tup (fZ t))) (_:KT K b (fZ o)) (_:o∈jV) (_:Fi n t) (_:aw K H e.col y) (_:e.Bd 250) (_:(∀ H',ae H H'->vE n f e (t,o)=none->Q .non H')) (_:∀ (c:Q3) (w:V) (H':Hp),ae H H'->vE n f e (t,o)=some c->c.Bd 1060->aw K H' c.col w->Q w H')
theorem rG (T:c8 K mg w):df P w K mg base (cN P w) 7 "way_in_part" uB7 [] (qK K):=by
  refine T.x27.cal dg (bb:=λ_ _ _ _ _ H vs Q E hr h=>?_);obtain⟨v,y,a,b,n,f,t,o,e,rfl,hv,wt,n2,n7,ha,hb,ho,hlow,hy,be,q0,q1⟩:=h;obtain⟨g,C,dx,d,rfl,hC,hg,hgr⟩:=id hv;refine⟨_,(cO.go (af (aA 4 dg.nd (aj aE (o_ T) hr (aa (ao 0) (aa (ao 1) (aa (ao 2) aB)))))
   (af (aA 5 dg.nd (aj aE (qw T) hr (aH (ao 4))))
   (af (aA 6 dg.nd (aj aE (A6 T) hr (aH (ao 5))))
   (af (bg (aQ dh (ao 6) ac (bh _)) (ah (au dF)) aN)
   (af (aA 7 dg.nd (aj aE (vg T) hr (aa (ao 3) (aa (aI K (ao 4) ac) (aa (ao 5) (aa (ao 6) aB))))))
   (af (bg (bE (bD (aj aE (sM T) hr (aH (ao 7))))) (ah (au dF)) aN)
   (ah (au (aj aE (uy T) hr (aa (ao 1) (aa (ao 2) (aa (ao 7) (aa (aI K (qp (K:=K) rfl aE (gx T) (hr.mono (by decide)) (ao 0)) ac) aB)))))))))))))),?_⟩
  have mem:∀ {i:Nat},i<=3->(f (aF t (lg o i))).Wt:=λhi=>wt _ (Ew hlow (CY ho hi))
  refine⟨_,rfl,_,rfl,_,rfl,.ref g,a,b,n,f,t,o,rfl,hv,ha,hb,ho,hlow,λw H1 s1 hw=>?_⟩;obtain⟨wa,ws,rfl,hwa,hws⟩:=bn (b:=true) (ds:=(GV t o 4).map λu=>wD (f u)) hw;obtain⟨y0,ys,rfl,h0⟩:∃ y0 ys,ws=y0::ys/\aw K H1 (wD (f (aF t (lg o 0)))) y0:=by
   cases hws with
   |cons h t=>exact⟨_,_,rfl,h⟩
  refine⟨_,rfl,.ref wa,_,_,_,_,rfl,hw,λw2 H2 s2 hw2=>?_⟩;have hin:(oO f (t,o)).In:=Jn (mem (by decide)) (mem (by decide)) (mem (by decide)) (mem (by decide));refine⟨_,rfl,w2,oO f (t,o),rfl,hw2,hin,λH3 s3=>?_⟩;have s03:=(s1.trans s2).trans s3;have r0:=Ki (mem (i:=0) (by decide));refine⟨_,rfl,_,_,rfl,rfl,_,rfl,fI (λhc=>?_) (λhc=>?_)⟩
  ·have hd:=Os hc;exact q0 _ s03 (by unfold vE;rw[NZ hd])
  ·have hd:(oO f (t,o)).det≠0:=λz=>hc (Nq z)
   refine⟨_,rfl,_,rfl,rV (b:=true) (i:=0) (bX.same (b:=true) (s2.trans s3) hwa) rfl ⟨_,rfl,_,rfl,y,y0,w2,e,f (aF t (lg o 0)),oO f (t,o),rfl,aw.same s03 hy,be,aw.same (s2.trans s3) h0,r0,aw.same s3 hw2,hin,hd,λD ws H4 s4 hD hws=>?_⟩⟩;have bf:=HE be r0 hin hd;generalize hF:Bz e (f (aF t (lg o 0))) (oO f (t,o))=F at bf hws;have s04:=s03.trans s4;refine⟨_,rfl,D,ws,F,rfl,hD,hws,bf.mono (by decide),λH5 s5=>?_⟩;have s05:=s04.trans s5;have ew:vE n f e (t,o)=if Kb F=true then some (EY t o F (pY n)) else none:=by unfold vE;rw[NS hd];dsimp only;rw[hF]
   refine⟨_,rfl,fI (λhc=>?_) (λhc=>?_)⟩
   ·have hc':Kb F=false:=by simpa using hc
    exact q0 _ s05 (by rw[ew,hc'];rfl)
   ·have hc':Kb F=true:=by simpa using hc
    refine⟨_,rfl,_,rfl,_,rfl,_,rfl,g,C,dx,_,rfl,hC,s05 _ _ hg,rfl,.ref g,n,f,rfl,hv.same s05,n2,n7,λw6 H6 s6 hw6=>?_⟩;obtain⟨sa,ss,rfl,hsa,hss⟩:=bn (b:=false) (ds:=[.int n,.int (pY n)]) hw6;have es:=bT (ns:=[(n:Int),pY n]) hss;subst es;have s06:=s05.trans s6;obtain⟨p0,p1⟩:=KS n2 n7;obtain⟨l1,l2,l3⟩:=id hlow;refine rV (b:=false) (i:=1) hsa rfl ⟨a,b,D,ws,t,o,F,pY n,rfl,s06 _ _ ha,by lia,by lia,by lia,hb,ho,(s5.trans s6) _ _ hD,av.same (s5.trans s6) hws,bf,p0,p1,λw7 H7 s7 bd7 hw7=>?_⟩;exact q1 _ w7 H7 (s06.trans s7) (by rw[ew,NZ hc']) bd7 hw7
theorem tW:ay ["colours","scale"] ["colours"] (ag iR):=dD
inductive Bg (K:HD)(vs:List V)(H:Hp)(Q:VK)(_:XK):Prop
 |mk (l:Nn) (xs:List (Q3×Nn)) (_:vs=[.ref l]) (_:H l=some (.lst (xs.map λp=>.ref p.2))) (_:(∀ p∈xs,aw K H p.1.col (.ref p.2))) (_:(∀ p∈xs,p.1.Bd 1060)) (_:xs.length<64) (_:yS K "rising" H) (_:∀ (z:Int) (D:Nn) (H':Hp),MS xs z->ae H H'->H' D=some (.lst ((ET z xs).map λp=>.ref p.2))->Q (.ref D) H')
theorem AT (T:c8 K mg w):df P w K mg base (cN P w) 1 "rising" ["colours"] [] (Bg K):=by
  refine T.x2r.cal tW (bb:=λ_ _ _ _ _ H vs Q E hcv hr h=>?_);obtain⟨l,xs,rfl,hl,hxs,bx,hn,⟨Pt,tb,hP⟩,q⟩:=h;obtain⟨c,rfl,hcd⟩:=hcv Pt tb;refine⟨_,(cO.go (af (aA 1 tW.nd (ar mh (Ec (K:=K) rfl rfl rfl T.xj (n_ rfl (bH (K:=K) rfl (ao 0)) (mj (by decide +kernel) (by rfl)) (qX (ts:=uB5) (cs:=[]) (js:=[]) (k:=3) (by rfl) rfl rfl) (λ_ _ _ _ _=>(am 0 (show RY (α:=Str) uB5 by decide +kernel))) (λ_ _ _ _ _=>aJ) (λ_ _ _ _ _=>(mq rfl rfl rfl (bH (K:=K) rfl (ao 0)) (b9 (K:=K) (n:=2) rfl rfl (aq (am 1 (show RY (α:=Str) uB5 by decide +kernel)) (aq (am 2 (show RY (α:=Str) uB5 by decide +kernel)) aY))) aJ (qk rfl rfl (ao 2)))))) ac))
   (ah (au (Ba (K:=K) (i:=1) rfl rfl hr.u2 hr rfl T.xk rfl hcd rfl rfl (ao 0)))))),?_⟩
  refine⟨_,rfl,l,true,rfl,⟨_,bI.of hl⟩,nB (xs:=xs.map λp=>V.ref p.2) (λi ys H'=>ae H H'/\ys=(qh (xs.take i)).map V.int) ⟨ae.refl _,rfl⟩ (λi ys H' _ p=>bI.of (p.1 _ _ hl)) (λi x ys H3 ex p R kk S=>?_) (λys H3 p=>?_)⟩
  ·obtain⟨s3,ey⟩:=p;rw[NB] at ex;obtain⟨p,ep,rfl⟩:=Nz.mp ex;have pm:=NJ ep;obtain⟨xa,ya,za,hpa,hrw⟩:=Cs (aw.same s3 (hxs p pm));refine aZ (B:=S H3) ⟨_,rfl,p.2,false,rfl,⟨_,cW.of hpa⟩,mE (b:=false) (xs:=[V.ref xa,V.ref ya,V.ref za]) (λj σ ys' H'=>(∃ o1 o2:Option V,σ=[some (.ref p.2),o1,o2])/\ae H3 H'/\ys'=(qh (xs.take i)++((mF p.1).take j).map (·.2)).map V.int) ⟨⟨_,_,rfl⟩,ae.refl _,by simpa using ey⟩ (λj σ ys' H' _ pv=>cW.of (pv.2.1 _ _ hpa)) (λj v σ ys' H4 ev pv R2 kk2 S2=>?_) (λσ ys' H4 pv=>?_)⟩
   ·obtain⟨⟨o1,o2,rfl⟩,s4,ey4⟩:=pv;have hj:j<3:=(Nt.mp ev).1;obtain⟨r,er⟩:∃ r,(mF p.1)[j]?=some r:=⟨_,N7 (show j<3 from hj)⟩
    obtain⟨b,rfl,hb⟩:=hrw j v r ev er;have lt:ys'.length<=3*64+3:=by
     rw[ey4,Ni,NL,vO,N8,Ni,N8];have:(mF p.1).length=3:=rfl;lia
    refine⟨b,_,rfl,cW.of (s4 _ _ hb),rfl,_,_,rfl,_,_,rfl,rfl,aZ (B:=S2 [some (.ref p.2),some (.int r.1),some (.int r.2)] H4) ⟨Qb lt (by decide),_,rfl,kk2 _ _ _ ⟨⟨_,_,rfl⟩,s4,?_⟩⟩⟩;rw[bF er,ey4];simp only[Ot,PZ,NE,PU]
   ·obtain⟨⟨o1,o2,rfl⟩,s4,ey4⟩:=pv;refine kk _ _ _ ⟨s3.trans s4,?_⟩;rw[bF ep,Ax,ey4];rfl
  ·obtain⟨s3,ey⟩:=p;rw[NR (by rw[Ni];exact Nj _)] at ey;have dsm:=Fn bx;have ly:ys.length<=1000:=by rw[ey,Ni,vO];lia
   refine⟨ly,λD hD=>⟨D,qh xs,rfl,bI.of (by rw[ey];exact ai),λm hm=>?_⟩⟩;obtain⟨m1,sm,mx⟩:=Fk (k:=1060) (by unfold Sm;decide +kernel) dsm hm;have s4:ae H (upd H3 D (.lst ys)):=s3.trans (ae.new hD);have sz:Sm 2120 (m^2):=by
    rw[Qv,Qv,To,Ui];exact(sm.mul sm).mono (by decide)
   refine⟨_,_,rfl,rfl,⟨by decide,by decide,sm.mono (by decide)⟩,?_⟩;refine⟨_,rfl,l,xs,m^2,rfl,bI.of (s4 _ _ hl),λp hp=>aw.same s4 (hxs p hp),hn,rfl,λp hp r hr=>?_,s4 _ _ hP,λH2 D2 s5 hD2=>q (m^2) D2 _ ⟨m,rfl,m1,mx⟩ ((s4.trans s5).trans (ae.new hD2)) ai⟩;have b:=bx p hp;unfold mF at hr;simp only[Nl,NH,OY] at hr;have all:∀ {u:Rat},Bq 1060 u->Sm 8000 u.num/\Sm 8000 (m^2)/\Sm 8000 (u.num*m^2)/\Sm 8000 (u.den:Int):=λ{u} bu=>⟨bu.sn.mono (by decide),sz.mono (by decide),(bu.sn.mul sz).mono (by decide),bu.sd.mono (by decide)⟩
   rcases hr with rfl|rfl|rfl
   ·exact all b.a
   ·exact all b.b
   ·exact all b.c
theorem dX:ay ["grid","goal","found","least","order","colour"] uB2 (ag jA):=dD
inductive rQ (K:HD)(H:Hp)(v y:V):Option Nat->Prop
 |grid {T:String}:Ty K H v T->T∈iX->rQ K H v y (some 5)
 |goal {n:Nat}{f:Kn->R3}{d:NQ}:g_ K H n f v->aw K H d y->jw d=false->rQ K H v y (some 6)
 |good {n:Nat}{f:Kn->R3}{e:Q3}:g_ K H n f v->GM n f->2<=n->n<=3->aw K H e.col y->e.Bd 250->yS K "rising" H->rQ K H v y none
theorem rQ.same {K:HD}{H H':Hp}{v y:V}{o:Option Nat}(h:rQ K H v y o)(s:ae H H'):rQ K H' v y o:=by
 cases h with
 |grid a b=>exact .grid (Ty.same a s) b
 |goal a b c=>exact .goal (a.same s) (aw.same s b) c
 |good a b c d e f g=>exact .good (a.same s) b c d (aw.same s e) f (g.same s)
inductive rE (K:HD)(vs:List V)(H:Hp)(Q:VK)(E:XK):Prop
 |mk (v y:V) (o:Option Nat) (_:vs=[v,y]) (_:rQ K H v y o) (_:(∀ i,o=some i->Rz K i H E)) (_:(o=none->∀ (D:Nn) (zs:List V) (H':Hp),ae H H'->H' D=some (.lst zs)->Q (.ref D) H'))
theorem jL (T:c8 K mg w):df P w K mg base (cN P w) 8 "ways_back" uB2 [] (rE K):=by
  refine T.x28.calX dX (bb:=λ_ _ _ _ _ H vs Q E hr h=>?_);obtain⟨v,y,o,rfl,ak,qz,q⟩:=h;refine⟨_,(cO.go (af (bo (cP bQ rfl (fV T) (hr.mono (by decide)) rfl (aH (ao 0))))
   (af (bo (cP bQ rfl (cn T) (hr.mono (by decide)) rfl (aH (ao 1))))
   (af (aA 2 dX.nd (AQ (P:=P) (w:=w) rfl rfl))
   (af (zy (dn Ow rfl (bH (K:=K) rfl (aj aE (wM T) hr (aH (ao 0)))) (b9 (K:=K) (n:=2) rfl rfl (aq (am 3 dX.nd) (aq (am 4 dX.nd) aY))) (af (aA 5 dX.nd (aj aE (rG T) hr (aa (ao 0) (aa (ao 3) (aa (ao 4) (aa (ao 1) aB))))))
   (ah (bg (aQ Fe (ao 5) dF (bh _)) (ah (AS (P:=P) (w:=w) (K:=K) rfl rfl hr.u2 (ao 2) (ao 5) dk rfl)) aN)))))
   (ah (au (aj aE (AT T) hr (aH (bN (xP (P:=P) (w:=w) (K:=K) rfl rfl rfl) (by rfl) T.x8 i8 (aH (ao 2)))))))))))),?_⟩
  cases ak with
  |@grid T ht hm=>exact⟨_,rfl,v,rfl,.inr ⟨T,ht,hm,(qz 5 rfl).out (ae.refl _)⟩⟩
  |@goal n f d hv hy hb=>exact⟨_,rfl,v,rfl,.inl ⟨n,f,hv,_,rfl,y,d,rfl,hy,λ_=>(qz 6 rfl).out (ae.refl _),λz=>by rw[hb] at z;cases z⟩⟩
  |@good n f e hv wt n2 n3 hy be tb=>
   refine⟨_,rfl,v,rfl,.inl ⟨n,f,hv,?_⟩⟩;refine⟨_,rfl,y,e.col,rfl,hy,λz=>(by rw[qU] at z;cases z),λ_ H1 s1=>?_⟩;refine λF hF=>?_
   have sF:ae H1 (upd H1 F (BJ P w F [])):=ae.new hF;have gF:upd H1 F (BJ P w F []) F=some (BJ P w F []):=ai;generalize upd H1 F (BJ P w F [])=H2 at sF gF ⊢;refine⟨_,rfl,v,n,f,rfl,hv.same (s1.trans sF),n2,by lia,λD ys H3 s3 hD hys=>?_⟩;have few:=A2 n3;have ly:=hys.length;refine⟨D,true,rfl,⟨_,bI.of hD⟩,kA (K:=K) (xs:=ys) (λi σ H'=>(∃ o3 o4 o5:Option V,σ=[some v,some y,some (.ref F),o3,o4,o5])/\ae H1 H'/\eJ H3 H'/\∃ xs,H' F=some (BJ P w F xs)/\xs.map (·.1)=Bj n f e ((kb n).take i)/\CI K H' xs/\(∀ p∈xs,p.1.Bd 1060)/\xs.length<=i)
    ⟨⟨_,_,_,rfl⟩,sF.trans s3,eJ.refl _,[],s3 _ _ gF,rfl,FS,λ_ h=>(by cases h),Nj _⟩ (λi σ H' _ pv=>bI.of (pv.2.2.1 _ _ hD (λ_ z=>nomatch z))) ?_ ?_⟩
   ·rintro i xv σ H4 ex ⟨⟨o3,o4,o5,rfl⟩,s4,se,xs,hFx,ew,ks,bd,lx⟩;have hi:i<ys.length:=(Nt.mp ex).1;obtain⟨p,ep,hpI⟩:=hys.get ex;obtain⟨pq,a,b,rfl,hq,ha,hb⟩:=hpI.sameE se;have pm:=yU.mp (NJ ep);have low:=FJ n2 pm.1;have c_:Bj n f e ((kb n).take (i+1))=vL n f e (Bj n f e ((kb n).take i)) p:=by rw[bF ep,AL]
    refine⟨pq,_,rfl,cW.of hq,rfl,_,_,rfl,_,_,rfl,rfl,?_⟩;refine⟨_,rfl,_,rfl,_,rfl,_,rfl,v,y,a,b,n,f,p.1,p.2,e,rfl,hv.same (s1.trans s4),wt,n2,by lia,ha,hb,pm.2,low,aw.same (s1.trans s4) hy,be,λH5 s5 hn=>?_,λc w5 H5 s5 hc bc hw=>?_⟩
    ·refine⟨_,rfl,rfl,_,rfl,bJ ⟨⟨_,_,_,rfl⟩,s4.trans s5,se.trans (sE s5),xs,s5 _ _ hFx,?_,ks.same s5,bd,by lia⟩⟩;rw[c_,ew];unfold vL;rw[show vE n f e p=none from hn]
    ·obtain⟨cb,cs,rfl,_,_⟩:=bn (b:=false) (ds:=c.ds) hw;have hF5:=s5 _ _ hFx;refine⟨_,rfl,rfl,_,rfl,aZ ⟨_,rfl,_,rfl,F,cb,xs,c,rfl,rfl,rfl,hF5,hw,ks.same s5,by lia,⟨_,_,_,rfl⟩,mK (s4.trans s5) hF,(se.trans (sE s5)).trans (eJ.put hF5),q_ xs c cb,ai,?_,(ks.same s5).put hw (eJ.put hF5),λp' hp'=>?_,NP (Fy _ _ _) (by lia)⟩⟩
     ·rw[c_,Ac,ew];unfold vL;rw[show vE n f e p=some c from hc]
     ·rcases zo hp' with hp'|rfl
      ·exact bd _ hp'
      ·exact bc
   ·rintro σ H4 ⟨⟨o3,o4,o5,rfl⟩,s4,se,xs,hFx,ew,ks,bd,lx⟩;rw[NR (by lia)] at ew;refine⟨_,rfl,F,xs,rfl,hFx,ks,by lia,λL hL=>?_⟩;have sL:ae H4 (upd H4 L (.lst (xs.map λp=>.ref p.2))):=ae.new hL;have gL:upd H4 L (.lst (xs.map λp=>.ref p.2)) L=some (.lst (xs.map λp=>.ref p.2)):=ai;generalize upd H4 L (.lst (xs.map λp=>.ref p.2))=H5 at sL gL ⊢;have s05:=(s1.trans s4).trans sL;exact⟨L,xs,rfl,gL,(ks.same sL).1,bd,by lia,tb.same s05,λz D6 H6 hz s6 hD6=>q rfl D6 _ H6 (s05.trans s6) hD6⟩
theorem rW:ay uB2 uB2 (ag iY):=dD
inductive oW (K:HD)(vs:List V)(H:Hp)(Q:VK)(E:XK):Prop
 |mk (v y:V) (o:Option Nat) (_:vs=[v,y]) (_:rQ K H v y o) (_:(∀ i,o=some i->Rz K i H E)) (_:(o=none->∀ (b:Bool) (H':Hp),ae H H'->Q (.bl b) H'))
theorem pH (T:c8 K mg w):df P w K mg base (cN P w) 9 "is_reached" uB2 [] (oW K):=by
  refine T.x29.calX rW (bb:=λ_ _ _ _ _ H vs Q E hr h=>?_);obtain⟨v,y,o,rfl,ak,qz,q⟩:=h;refine⟨_,(cO.go (ah (au (fq CN (ax (k_ (K:=K) rfl) (by rfl) T.x6 gQ (aH (cP bQ rfl (jL T) (hr.mono (by decide)) rfl (aK (ao 0) (ao 1))))) ac (bh _))))),?_⟩;exact⟨_,rfl,_,rfl,v,y,o,rfl,ak,λi hi=>(qz i hi).out (ae.refl _),λhn D zs H1 s1 hD=>⟨D,_,rfl,.inl (bI.of hD),_,_,rfl,rfl,q hn _ _ s1⟩⟩
theorem uX:ay uA4 uA4 (ag jN):=dD
inductive uH (K:HD)(vs:List V)(H:Hp)(Q:VK)(_:XK):Prop
 |mk (a:Nn) (ns:List Int) (_:vs=[.ref a]) (_:bI K H a (ns.map V.int)) (_:ns.length<=63) (_:∀ t r H',ae H H'->H t=none->H r=none->cE H' t r->Q (.ref t) H')
theorem t_ (T:c8 K mg w):df P w K mg base (cN P w) 1 "_law_town" uA4 [] (uH K):=by
  refine T.x2a.cal uX (bb:=λ_ _ _ _ _ H vs Q E hr h=>?_);obtain⟨a,ns,rfl,hS,hl,q⟩:=h;refine⟨_,(cO.go (ah (au (aV (aK (kL (aQ (E7 (K:=K) rfl hr.units) (ao 0) (aV aB) (bh _)) (bN (qV (K:=K) rfl) (by rfl) T.x8 i8 (aH (ao 0))) (aV (aH ac))) ac))))),?_⟩;refine⟨_,rfl,by decide,λp hp=>⟨a,p,ns,rfl,rfl,(ae.new hp).seq hS,ai,_,rfl,?_⟩⟩;have s1:ae H (upd H p (.lst [])):=ae.new hp
  by_cases hn:ns=[]
  ·rw[Nq hn];refine bJ ⟨by decide,λr hr=>⟨mV,λt ht=>?_⟩⟩;have s2:=s1.trans (ae.new (o:=.lst [.int 0]) hr);exact q t r _ (s2.trans (ae.new ht)) (s2.free ht) (s1.free hr) ⟨[0],0,ai,by rw[az (aS ai ht)];exact ai,by decide,by decide⟩
  ·rw[On hn];refine aZ ⟨_,rfl,a,ns.map V.int,rfl,.inl (s1.seq hS),λr hr=>⟨mV,λt ht=>?_⟩⟩;have s2:=s1.trans (ae.new (o:=.lst (ns.map V.int)) hr);exact q t r _ (s2.trans (ae.new ht)) (s2.free ht) (s1.free hr) ⟨ns,0,ai,by rw[az (aS ai ht)];exact ai,hn,hl⟩
theorem dw:ay ["_law_town_here","_law_many","_law_row","_law_at","_law_cell","_law_mixed"] uB9 (ag jZ):=dD
inductive vk (_:HD)(vs:List V)(H:Hp)(Q:VK)(_:XK):Prop
 |mk (t r:Nn) (many:Int) (_:vs=[.ref t,.int many]) (_:cE H t r) (_:0<many) (_:Sm 8000 many) (_:∀ (d:Int) (H':Hp),0<=d->d<many->cE H' t r->Mv [t,r] H H'->Q (.int d) H')
theorem bV (T:c8 K mg w):df P w K mg base (cN P w) 1 "_law_draw" uB9 [] (vk K):=by
  refine T.x2b.cal dw (bb:=λ_ _ _ _ _ H vs Q E hr h=>?_);obtain⟨t,r,many,rfl,tw,hm,sm,q⟩:=h;have htr:=tw.ne;obtain⟨cells,k,ht,hw,hne,hlen⟩:=tw;refine⟨_,(cO.go (af (aA 2 dw.nd (aI K (ao 0) ac))
   (af (fi (ar fG (aI K (ao 0) ac) ac) (uG (ao 0) ac mH))
   (af (aA 3 dw.nd (ar jB (aI K (ao 0) ac) (ax (k_ (K:=K) rfl) (by rfl) T.x6 gQ (aH (ao 2)))))
   (af (aA 4 dw.nd (aI K (ao 2) (ao 3)))
   (af (bg (aQ KZ (ao 4) ac (bh _)) (af (fi (ar di (ao 4) (ao 1)) (uG (ao 2) (ao 3) mH))
   (ah (au (ar jB (ao 4) (ao 1))))) aN)
   (af (aA 5 dw.nd (ar jB (ar fG (ao 4) (ar aW ac (aI K (ao 0) ac))) ac))
   (af (aA 5 dw.nd (ar jB (ar CS (ao 5) ac) ac))
   (ah (au (ar jB (ar di (ar jB (ar fG (ar aW (ar di (ao 5) ac) ac) (ao 5)) ac) ac) (ao 1)))))))))))),?_⟩
  have nz:0<cells.length:=Vx.mpr hne;have hw1:∀ o,upd H t o r=some (.lst (cells.map V.int)):=λo=>by rw[az htr.symm];exact hw
  refine⟨_,rfl,He ht ?_⟩;refine⟨_,rfl,yX ht ⟨_,_,rfl,rfl,_,rfl,t,_,1,1,rfl,rfl,ht,rfl,?_⟩⟩;refine⟨_,rfl,yX (x:=.ref r) (y:=.int (k+1)) ai ⟨_,rfl,r,cells.map V.int,rfl,.inl (bI.of (hw1 _)),_,_,rfl,rfl,?_,?_⟩⟩
  ·show(0:Int)<((cells.map V.int).length:Int);rw[Ni];lia
  have e0:((cells.map V.int).length:Int)=(cells.length:Int):=by rw[Ni]
  obtain⟨j,hj⟩:∃ j:Nat,(k+1)%((cells.map V.int).length:Int)=(j:Int):=⟨_,(Int.toNat_of_nonneg (Qn _ (by lia))).symm⟩
  have hjl:j<cells.length:=by
   have:=Pz (k+1) (show 0<((cells.map V.int).length:Int) by lia);lia
  simp only[hj];refine⟨_,rfl,_,rfl,.inl ⟨r,_,_,.int cells[j],rfl,rfl,bI.of (hw1 _),mz (by simp[hjl]),?_⟩⟩;generalize cells[j]=c;refine⟨_,rfl,_,_,rfl,rfl,_,rfl,?_⟩;refine fI (λhc=>?_) (λhc=>?_)
  ·refine⟨_,rfl,_,rfl,_,_,rfl,rfl,⟨by lia,sm⟩,_,rfl,_,rfl,r,_,_,j,rfl,rfl,hw1 _,?_,?_⟩
   ·rw[Ni];unfold EX;rw[NZ (show(0:Int)<=(j:Int) by lia),NZ (show(j:Int)<(cells.length:Int) by lia)];rfl
   refine⟨_,rfl,_,rfl,_,_,rfl,rfl,hm,?_⟩;refine q _ _ (Qn _ (by lia)) (Pz _ hm) ⟨cells.set j (c.fdiv many),k+1,?_,?_,?_,?_⟩ ?_
   ·rw[az htr];exact ai
   ·rw[ai,List.map_set]
   ·intro z;have:=Ql SV z;rw[SW] at this;exact absurd this (by rw[Ry];lia)
   ·rw[SW];exact hlen
   ·exact(Mv.upd (by simp)).trans (Mv.upd (by simp))
  ·refine⟨_,rfl,_,rfl,yX (x:=.ref r) (y:=.int (k+1)) ai ⟨_,_,rfl,rfl,.inr (by unfold Sm;decide),_,_,rfl,rfl,_,_,rfl,rfl,(by show(0:Int)<4294967291;decide),?_⟩⟩;dsimp only;have b1:=Qn (c+104729*(k+1)) (show(4294967291:Int)≠0 by decide);have b2:=Pz (c+104729*(k+1)) (show(0:Int)<4294967291 by decide);generalize (c+104729*(k+1))%4294967291=m1 at b1 b2 ⊢;refine⟨_,rfl,_,_,rfl,rfl,⟨by decide,by decide,by lia⟩,_,_,rfl,rfl,(by show(0:Int)<4294967279;decide),?_⟩;dsimp only;have b3:=Qn (m1^(5:Int).toNat) (show(4294967279:Int)≠0 by decide);have b4:=Pz (m1^(5:Int).toNat) (show(0:Int)<4294967279 by decide);generalize m1^(5:Int).toNat%4294967279=m2 at b3 b4 ⊢;have b5:Sm 64 (m2.fdiv 64):=by
    rw[Pn _ (by decide)];unfold Sm;lia
   refine⟨_,rfl,_,_,rfl,rfl,⟨by decide,by unfold Sm;decide⟩,_,_,rfl,rfl,.inr b5,_,rfl,_,_,rfl,rfl,_,_,rfl,rfl,(by show(0:Int)<4294967231;decide),_,_,rfl,rfl,⟨by decide,by unfold Sm;decide⟩,_,rfl,_,_,rfl,rfl,hm,?_⟩;exact q _ _ (Qn _ (by lia)) (Pz _ hm) ⟨cells,k+1,ai,hw1 _,hne,hlen⟩ (Mv.upd (by simp))
theorem uD:ay uA8 uA8 (ag j6):=dD
inductive uq (K:HD)(vs:List V)(H:Hp)(Q:VK)(_:XK):Prop
 |mk (t r p:Nn) (xs:List V) (_:vs=[.ref t,.ref p]) (_:cE H t r) (_:H p=some (.lst xs)) (_:p≠t) (_:p≠r) (_:xs≠[]) (_:xs.length<=1000) (_:∀ (i:Nat) (v:V) (H':Hp),xs[i]?=some v->cE H' t r->Mv [t,r] H H'->Q v H')
theorem c5 (T:c8 K mg w):df P w K mg base (cN P w) 2 "_law_pick" uA8 [] (uq K):=by
  refine T.x2c.cal uD (bb:=λ_ _ _ _ _ H vs Q E hr h=>?_);obtain⟨t,r,p,xs,rfl,tw,hp,n1,n2,hne,hl,q⟩:=h;refine⟨_,(cO.go (ah (au (aI K (ao 1) (aj aE (bV T) hr (aK (ao 0) (ax (k_ (K:=K) rfl) (by rfl) T.x6 gQ (aH (ao 1))))))))),?_⟩;have nz:0<xs.length:=Vx.mpr hne;refine⟨_,rfl,_,rfl,_,rfl,p,xs,rfl,.inl (bI.of hp),t,r,_,rfl,tw,by lia,?_,λd H' h0 h1 tw' mv=>?_⟩
  ·refine Sm.mono (k:=64) ?_ (by decide);unfold Sm;lia
  obtain⟨j,rfl⟩:=Rs h0;have hj:j<xs.length:=by lia
  exact .inl ⟨p,xs,_,xs[j],rfl,rfl,bI.of (mv p _ hp (by simp[n1,n2])),mz (by simp[hj]),q j _ _ (by simp[hj]) tw' mv⟩
theorem cw:ay ["_law_caught","_law_kinds","_law_words"] ["_law_caught"] (ag gh):=dD
inductive oX (K:HD)(vs:List V)(H:Hp)(Q:VK)(_:XK):Prop
 |mk (v:V) (i:Nat) (x:Str) (_:vs=[v]) (_:KW K H i v) (_:jS[i]?=some x) (_:∀ H',ae H H'->Q (.str x) H')
theorem wE {i:Nat}(h:i<11):([V.bl (i==0),V.bl (i==1),V.bl (i==2)]++[V.bl (i==3),V.bl (i==4),V.bl (i==5)]++[V.bl (i==6),V.bl (i==7),V.bl (i==8)]++[V.bl (i==9),V.bl (i==10)]).countP (λz=>L2.eqV z (V.bl true))=1:=by
 match i,h with
 |0,_=>rfl
 |1,_=>rfl
 |2,_=>rfl
 |3,_=>rfl
 |4,_=>rfl
 |5,_=>rfl
 |6,_=>rfl
 |7,_=>rfl
 |8,_=>rfl
 |9,_=>rfl
 |10,_=>rfl
theorem wU {i:Nat} (h:i < 11):(∃ a,([V.bl (i == 0),V.bl (i == 1),V.bl (i == 2)] ++ [V.bl (i == 3),V.bl (i == 4),V.bl (i == 5)] ++ [V.bl (i == 6),V.bl (i == 7),V.bl (i == 8)] ++ [V.bl (i == 9),V.bl (i == 10)])[i]?=some a/\L2.eqV a (V.bl true)=true) /\
  ∀ m a,m<i->([V.bl (i==0),V.bl (i==1),V.bl (i==2)]++[V.bl (i==3),V.bl (i==4),V.bl (i==5)]++[V.bl (i==6),V.bl (i==7),V.bl (i==8)]++[V.bl (i==9),V.bl (i==10)])[m]?=some a->L2.eqV a (V.bl true)=false:=by
 have at':∀ m a,([V.bl (i==0),V.bl (i==1),V.bl (i==2)]++[V.bl (i==3),V.bl (i==4),V.bl (i==5)]++[V.bl (i==6),V.bl (i==7),V.bl (i==8)]++[V.bl (i==9),V.bl (i==10)])[m]?=some a->a=V.bl (i==m):=λm a e=>by
  match m,e with
  |0,e=>exact(Nb e).symm
  |1,e=>exact(Nb e).symm
  |2,e=>exact(Nb e).symm
  |3,e=>exact(Nb e).symm
  |4,e=>exact(Nb e).symm
  |5,e=>exact(Nb e).symm
  |6,e=>exact(Nb e).symm
  |7,e=>exact(Nb e).symm
  |8,e=>exact(Nb e).symm
  |9,e=>exact(Nb e).symm
  |10,e=>exact(Nb e).symm
  |m+11,e=>simp at e
 refine⟨⟨V.bl (i==i),?_,by simp[eqV]⟩,λm a hm e=>?_⟩
 ·match i,h with
  |0,_=>rfl
  |1,_=>rfl
  |2,_=>rfl
  |3,_=>rfl
  |4,_=>rfl
  |5,_=>rfl
  |6,_=>rfl
  |7,_=>rfl
  |8,_=>rfl
  |9,_=>rfl
  |10,_=>rfl
 ·rw[at' m a e,show(i==m)=false by simp;lia];rfl
theorem pe (T:c8 K mg w):df P w K mg base (cN P w) 1 "_law_refusal" ["_law_caught"] [] (oX K):=by
  refine T.x2d.cal cw (bb:=λ_ _ _ _ _ H vs Q E hr h=>?_);obtain⟨v,i,x,rfl,⟨e,C,rfl,hk,hH⟩,hx,q⟩:=h;refine⟨_,(cO.go (af (aA 1 cw.nd (aV (aa (ax (iN (K:=K) rfl) (by rfl) T.x0 aG (aK (ao 0) (dz (K:=K) rfl rfl (cz T.x1 (i:=0) rfl)))) (aa (ax (iN (K:=K) rfl) (by rfl) T.x0 aG (aK (ao 0) (dz (K:=K) rfl rfl (cz T.x1 (i:=1) rfl)))) (aa (ax (iN (K:=K) rfl) (by rfl) T.x0 aG (aK (ao 0) (dz (K:=K) rfl rfl (cz T.x1 (i:=2) rfl)))) aB)))))
   (af (aA 1 cw.nd (ar lS (ao 1) (aV (aa (ax (iN (K:=K) rfl) (by rfl) T.x0 aG (aK (ao 0) (dz (K:=K) rfl rfl (cz T.x1 (i:=3) rfl)))) (aa (ax (iN (K:=K) rfl) (by rfl) T.x0 aG (aK (ao 0) (dz (K:=K) rfl rfl (cz T.x1 (i:=4) rfl)))) (aa (ax (iN (K:=K) rfl) (by rfl) T.x0 aG (aK (ao 0) (dz (K:=K) rfl rfl (cz T.x1 (i:=5) rfl)))) aB))))))
   (af (aA 1 cw.nd (ar lS (ao 1) (aV (aa (ax (iN (K:=K) rfl) (by rfl) T.x0 aG (aK (ao 0) (dz (K:=K) rfl rfl (cz T.x1 (i:=6) rfl)))) (aa (ax (iN (K:=K) rfl) (by rfl) T.x0 aG (aK (ao 0) (dz (K:=K) rfl rfl (cz T.x1 (i:=7) rfl)))) (aa (ax (iN (K:=K) rfl) (by rfl) T.x0 aG (aK (ao 0) (dz (K:=K) rfl rfl (cz T.x1 (i:=8) rfl)))) aB))))))
   (af (aA 1 cw.nd (ar lS (ao 1) (aV (aK (ax (iN (K:=K) rfl) (by rfl) T.x0 aG (aK (ao 0) (dz (K:=K) rfl rfl (cz T.x1 (i:=9) rfl)))) (ax (iN (K:=K) rfl) (by rfl) T.x0 aG (aK (ao 0) (dz (K:=K) rfl rfl (cz T.x1 (i:=10) rfl))))))))
   (af (bg (WW.pt (fF (aQ nO (on Ph Ut PySem.F.type_list_count EO (ao 1) (aH dk)) ac (bh _)) (fF (bE (bD (ax (iN (K:=K) rfl) (by rfl) T.x0 aG (aK (ao 0) (dz (K:=K) rfl rfl (Ft T.x1)))))) (ff (bE (bD (ax (iN (K:=K) rfl) (by rfl) T.x0 aG (aK (ao 0) (cF (v:=.ty "ValueError") rfl T.xy sV rfl))))))))) (ah (au bB)) aN)
   (af (aA 2 cw.nd (aV (aa bB (aa bB (aa bB (aa bB (aa bB (aa bB (aa bB (aa bB (aa bB (aa bB (aa bB aB)))))))))))))
   (ah (au (aI K (ao 2) (on Ph Uu PySem.F.type_list_index B' (ao 1) (aH dk)))))))))))),?_⟩
  have R:=T.x1;obtain⟨_,_,_,_,_,tab⟩:=gO R;have ex:=(tab i C hk).1;have hi:i<11:=(Nt.mp hx).1;clear tab;refine⟨_,rfl,λD0 k0=>⟨e,C,_,_,_,rfl,hH,ex,.inl ⟨_,rfl,rfl⟩,dZ R hk (j:=0) ⟨_,rfl,k0⟩,?_⟩⟩;refine⟨_,rfl,λD1 k1=>⟨e,C,_,_,_,rfl,hH,ex,.inl ⟨_,rfl,rfl⟩,dZ R hk (j:=1) ⟨_,rfl,k1⟩,?_⟩⟩;refine⟨_,rfl,λD2 k2=>⟨e,C,_,_,_,rfl,hH,ex,.inl ⟨_,rfl,rfl⟩,dZ R hk (j:=2) ⟨_,rfl,k2⟩,?_⟩⟩;refine⟨sk,λl0 h0=>?_⟩;have z0:ae H (upd H l0 (.lst [V.bl (i==0),V.bl (i==1),V.bl (i==2)])):=ae.new h0;have g0:(upd H l0 (.lst [V.bl (i==0),V.bl (i==1),V.bl (i==2)])) l0=some (.lst [V.bl (i==0),V.bl (i==1),V.bl (i==2)]):=ai;have hH:=z0 _ _ hH;generalize upd H l0 (.lst [V.bl (i==0),V.bl (i==1),V.bl (i==2)])=G0 at z0 g0 hH ⊢;refine⟨_,rfl,?_⟩;refine⟨_,rfl,λD3 k3=>⟨e,C,_,_,_,rfl,hH,ex,.inl ⟨_,rfl,rfl⟩,dZ R hk (j:=3) ⟨_,rfl,k3⟩,?_⟩⟩;refine⟨_,rfl,λD4 k4=>⟨e,C,_,_,_,rfl,hH,ex,.inl ⟨_,rfl,rfl⟩,dZ R hk (j:=4) ⟨_,rfl,k4⟩,?_⟩⟩;refine⟨_,rfl,λD5 k5=>⟨e,C,_,_,_,rfl,hH,ex,.inl ⟨_,rfl,rfl⟩,dZ R hk (j:=5) ⟨_,rfl,k5⟩,?_⟩⟩;refine⟨sk,λm1 hm1=>?_⟩;have y1:ae G0 (upd G0 m1 (.lst [V.bl (i==3),V.bl (i==4),V.bl (i==5)])):=ae.new hm1;have f1:(upd G0 m1 (.lst [V.bl (i==3),V.bl (i==4),V.bl (i==5)])) m1=some (.lst [V.bl (i==3),V.bl (i==4),V.bl (i==5)]):=ai;have g0:=y1 _ _ g0;have hH:=y1 _ _ hH;generalize upd G0 m1 (.lst [V.bl (i==3),V.bl (i==4),V.bl (i==5)])=F1 at y1 f1 g0 hH ⊢;refine⟨l0,m1,_,_,rfl,rfl,g0,f1,by show 6<=Nv;decide,λl1 h1=>?_⟩;have x1:ae F1 (upd F1 l1 (.lst ([V.bl (i==0),V.bl (i==1),V.bl (i==2)]++[V.bl (i==3),V.bl (i==4),V.bl (i==5)]))):=ae.new h1;have g1:(upd F1 l1 (.lst ([V.bl (i==0),V.bl (i==1),V.bl (i==2)]++[V.bl (i==3),V.bl (i==4),V.bl (i==5)]))) l1=some (.lst ([V.bl (i==0),V.bl (i==1),V.bl (i==2)]++[V.bl (i==3),V.bl (i==4),V.bl (i==5)])):=ai;have hH:=x1 _ _ hH;have z1:=z0.trans (y1.trans x1);generalize upd F1 l1 (.lst ([V.bl (i==0),V.bl (i==1),V.bl (i==2)]++[V.bl (i==3),V.bl (i==4),V.bl (i==5)]))=G1 at x1 g1 hH z1 ⊢;refine⟨_,rfl,?_⟩;refine⟨_,rfl,λD6 k6=>⟨e,C,_,_,_,rfl,hH,ex,.inl ⟨_,rfl,rfl⟩,dZ R hk (j:=6) ⟨_,rfl,k6⟩,?_⟩⟩;refine⟨_,rfl,λD7 k7=>⟨e,C,_,_,_,rfl,hH,ex,.inl ⟨_,rfl,rfl⟩,dZ R hk (j:=7) ⟨_,rfl,k7⟩,?_⟩⟩;refine⟨_,rfl,λD8 k8=>⟨e,C,_,_,_,rfl,hH,ex,.inl ⟨_,rfl,rfl⟩,dZ R hk (j:=8) ⟨_,rfl,k8⟩,?_⟩⟩;refine⟨sk,λm2 hm2=>?_⟩;have y2:ae G1 (upd G1 m2 (.lst [V.bl (i==6),V.bl (i==7),V.bl (i==8)])):=ae.new hm2;have f2:(upd G1 m2 (.lst [V.bl (i==6),V.bl (i==7),V.bl (i==8)])) m2=some (.lst [V.bl (i==6),V.bl (i==7),V.bl (i==8)]):=ai;have g1:=y2 _ _ g1;have hH:=y2 _ _ hH;generalize upd G1 m2 (.lst [V.bl (i==6),V.bl (i==7),V.bl (i==8)])=F2 at y2 f2 g1 hH ⊢;refine⟨l1,m2,_,_,rfl,rfl,g1,f2,by show 9<=Nv;decide,λl2 h2=>?_⟩;have x2:ae F2 (upd F2 l2 (.lst (([V.bl (i==0),V.bl (i==1),V.bl (i==2)]++[V.bl (i==3),V.bl (i==4),V.bl (i==5)])++[V.bl (i==6),V.bl (i==7),V.bl (i==8)]))):=ae.new h2
  have g2:(upd F2 l2 (.lst (([V.bl (i==0),V.bl (i==1),V.bl (i==2)]++[V.bl (i==3),V.bl (i==4),V.bl (i==5)])++[V.bl (i==6),V.bl (i==7),V.bl (i==8)]))) l2=some (.lst (([V.bl (i==0),V.bl (i==1),V.bl (i==2)]++[V.bl (i==3),V.bl (i==4),V.bl (i==5)])++[V.bl (i==6),V.bl (i==7),V.bl (i==8)])):=ai;have hH:=x2 _ _ hH;have z2:=z1.trans (y2.trans x2);generalize upd F2 l2 (.lst (([V.bl (i==0),V.bl (i==1),V.bl (i==2)]++[V.bl (i==3),V.bl (i==4),V.bl (i==5)])++[V.bl (i==6),V.bl (i==7),V.bl (i==8)]))=G2 at x2 g2 hH z2 ⊢;refine⟨_,rfl,?_⟩;refine⟨_,rfl,λD9 k9=>⟨e,C,_,_,_,rfl,hH,ex,.inl ⟨_,rfl,rfl⟩,dZ R hk (j:=9) ⟨_,rfl,k9⟩,?_⟩⟩;refine⟨_,rfl,λD10 k10=>⟨e,C,_,_,_,rfl,hH,ex,.inl ⟨_,rfl,rfl⟩,dZ R hk (j:=10) ⟨_,rfl,k10⟩,?_⟩⟩;refine⟨mV,λm3 hm3=>?_⟩;have y3:ae G2 (upd G2 m3 (.lst [V.bl (i==9),V.bl (i==10)])):=ae.new hm3;have f3:(upd G2 m3 (.lst [V.bl (i==9),V.bl (i==10)])) m3=some (.lst [V.bl (i==9),V.bl (i==10)]):=ai;have g2:=y3 _ _ g2;have hH:=y3 _ _ hH;generalize upd G2 m3 (.lst [V.bl (i==9),V.bl (i==10)])=F3 at y3 f3 g2 hH ⊢;refine⟨l2,m3,_,_,rfl,rfl,g2,f3,by show 11<=Nv;decide,λl3 h3=>?_⟩;have x3:ae F3 (upd F3 l3 (.lst ((([V.bl (i==0),V.bl (i==1),V.bl (i==2)]++[V.bl (i==3),V.bl (i==4),V.bl (i==5)])++[V.bl (i==6),V.bl (i==7),V.bl (i==8)])++[V.bl (i==9),V.bl (i==10)]))):=ae.new h3;have g3:(upd F3 l3 (.lst ((([V.bl (i==0),V.bl (i==1),V.bl (i==2)]++[V.bl (i==3),V.bl (i==4),V.bl (i==5)])++[V.bl (i==6),V.bl (i==7),V.bl (i==8)])++[V.bl (i==9),V.bl (i==10)]))) l3=some (.lst ((([V.bl (i==0),V.bl (i==1),V.bl (i==2)]++[V.bl (i==3),V.bl (i==4),V.bl (i==5)])++[V.bl (i==6),V.bl (i==7),V.bl (i==8)])++[V.bl (i==9),V.bl (i==10)])):=ai;have hH:=x3 _ _ hH;have z3:=z2.trans (y3.trans x3);generalize upd F3 l3 (.lst ((([V.bl (i==0),V.bl (i==1),V.bl (i==2)]++[V.bl (i==3),V.bl (i==4),V.bl (i==5)])++[V.bl (i==6),V.bl (i==7),V.bl (i==8)])++[V.bl (i==9),V.bl (i==10)]))=G3 at x3 g3 hH z3 ⊢;have fl:((([V.bl (i==0),V.bl (i==1),V.bl (i==2)]++[V.bl (i==3),V.bl (i==4),V.bl (i==5)])++[V.bl (i==6),V.bl (i==7),V.bl (i==8)])++[V.bl (i==9),V.bl (i==10)]).all jo=true:=rfl;refine⟨_,rfl,.inl ⟨rfl,_,bI.of g3⟩,l3,_,_,rfl,rfl,g3,rfl,fl,_,_,rfl,rfl,_,rfl,?_⟩;rw[wE hi];refine bJ ?_;refine⟨_,rfl,λDT kT=>⟨e,C,_,_,_,rfl,hH,ex,.inl ⟨_,rfl,rfl⟩,C4 R hk kT,_,rfl,bJ ?_⟩⟩;refine⟨_,rfl,e,C,_,_,_,rfl,hH,ex,.inr ⟨_,rfl,rfl⟩,CA R hk,_,rfl,bJ ?_⟩;refine⟨by show 11<=Nv;decide,λwl hw=>?_⟩;obtain⟨hit,hno⟩:=wU hi;have zw:ae G3 (upd G3 wl (.lst (jS.map V.str))):=ae.new hw;have g3:=zw _ _ g3;refine⟨_,rfl,_,rfl,.inl ⟨rfl,_,bI.of g3⟩,l3,_,_,i,rfl,rfl,g3,rfl,fl,by show 11<=1000;decide,hit,hno,?_⟩;refine .inl ⟨wl,_,_,_,rfl,rfl,bI.of ai,mz (v:=V.str x) ?_,q _ (z3.trans zw)⟩;show(jS.map V.str)[i]?=some (.str x);rw[NB,hx];rfl
theorem ie:ay ["_law_one","_law_two","_law_a","_law_b"] uC6 (ag lZ):=dD
inductive vY (K:HD)(vs:List V)(H:Hp)(Q:VK)(_:XK):Prop
 |mk (t b:Int) (_:vs=[.int t,.int b]) (_:b≠0) (_:Sm 8000 b) (_:Sh K H t b Q)
theorem vN (T:c8 K mg w):df P w K mg base (cN P w) 1 "_law_low" uC6 [] (vY K):=by
  refine T.x2e.cal ie (bb:=λ_ _ _ _ _ H vs Q E hr h=>?_);obtain⟨t,b,rfl,hb,sb,q⟩:=h;refine⟨_,(cO.go (af (bg (aQ zR (ao 1) ac (bh _)) (ah (mS (i:=0) (j:=1) rfl ie.nd rfl rfl (by decide) rfl rfl (aK (ar cT ac (ao 0)) (ar cT ac (ao 1))) rfl)) aN)
   (af (mS (i:=2) (j:=3) rfl ie.nd rfl rfl (by decide) rfl rfl (aK (ax (AN rfl) (by rfl) T.xj DR (aK (ao 0) (ar cT ac (ao 0)))) (ao 1)) rfl)
   (af (tY Ow (aQ CN (ao 3) ac (bh _)) (ah (mS (i:=2) (j:=3) rfl ie.nd rfl rfl (by decide) rfl rfl (aK (ao 3) (ar jB (ao 2) (ao 3))) rfl)))
   (ah (au (aX (aK (ar di (ao 0) (ao 2)) (ar di (ao 1) (ao 2)))))))))),?_⟩
  have core:∃ t' b':Int,(b<0->t'=0-t/\b'=0-b)/\(¬ b<0->t'=t/\b'=b)/\0<b'/\Sm 8000 b'/\∀ n d,CM t' b' n d->CM t b n d:=by
   by_cases hc:b<0
   ·refine⟨0-t,0-b,λ_=>⟨rfl,rfl⟩,λz=>absurd hc z,by lia,by rw[Wr];exact sb.neg,λn d z=>⟨z.1,z.2.1,?_⟩⟩;have:=z.2.2;rw[Wr,Wr,WV,Int.neg_mul] at this;lia
   ·exact⟨t,b,λz=>absurd z hc,λ_=>⟨rfl,rfl⟩,by lia,sb,λ_ _ z=>z⟩
  obtain⟨t',b',c1,c2,hb',sb',lw⟩:=core;refine⟨_,rfl,_,_,rfl,rfl,_,rfl,?_⟩
  suffices c6:Km _ _ _ [some (.int t'),some (.int b'),none,none] H by
   refine fI (λhc=>?_) (λhc=>?_)
   ·obtain⟨rfl,rfl⟩:=c1 (Os hc);exact⟨_,rfl,_,_,rfl,rfl,_,rfl,_,_,rfl,rfl,_,_,rfl,c6⟩
   ·obtain⟨rfl,rfl⟩:=c2 (λz=>hc (Nq z));exact c6
  refine⟨_,rfl,_,rfl,_,_,rfl,rfl,_,_,rfl,_,rfl,_,_,rfl,?_⟩;refine⟨λm σ H'=>∃ x y:Int,σ=[some (.int t'),some (.int b'),some (.int x),some (.int y)]/\H'=H/\0<=x/\0<=y/\O3 x y=O3 t' b'/\m=y.toNat,⟨_,_,_,rfl,rfl,?_,?_,?_,rfl⟩,?_⟩
  ·split<;>lia
  ·lia
  ·rw[<- Aa t' b',show(if b'<0 then -b' else b')=b' from NS (by lia)]
   congr 1
   by_cases h1:t'<0
   ·rw[NZ h1,NZ (show 0-t'>t' by lia)];lia
   ·rw[NS h1]
    split<;>lia
  ·rintro m σ H' ⟨x,y,rfl,rfl,hx,hy,hg,rfl⟩;refine⟨_,rfl,_,_,rfl,rfl,_,rfl,?_⟩;refine fI (λhc=>?_) (λhc=>?_)
   ·have hc:=Os hc;refine⟨_,λ_ _ z=>z,?_⟩;refine⟨_,rfl,_,rfl,_,rfl,_,_,rfl,rfl,hc,_,_,rfl,?_⟩;have h1:=Qn x (show y≠0 by lia);have h2:=Pz x hc;exact⟨(x%y).toNat,by lia,y,x%y,rfl,rfl,hy,h1,by rw[vR hx hc];exact hg,rfl⟩
   ·have hc:¬ (0<y):=λz=>hc (Nq z)
    have hy0:y=0:=by lia
    subst hy0;have e:x=(O3 t' b':Int):=by
     rw[<- hg,VI];lia
    subst e;have gb:Sm 8000 (O3 t' b':Int):=sb'.le (DS (by lia));have gn:(O3 t' b':Int)≠0:=by
     have:=QG t' (show b'≠0 by lia);lia
    refine⟨_,rfl,_,rfl,_,_,rfl,rfl,⟨gn,gb⟩,_,rfl,_,rfl,_,_,rfl,rfl,⟨gn,gb⟩,mV,λp hp=>?_⟩;exact q _ _ _ _ (ae.new hp) (zX ai) (lw _ _ (y_ (by lia) rfl (by rw[NS (by lia)])))
theorem kZ:ay ["_law_town_here","_law_cap","_law_below"] uA1 (ag jc):=dD
inductive si (K:HD)(vs:List V)(H:Hp)(Q:VK)(_:XK):Prop
 |mk (t r:Nn) (cap:Int) (_:vs=[.ref t,.int cap]) (_:cE H t r) (_:0<cap) (_:cap<=1000) (_:∀ (v:V) (q:Rat) (H':Hp),aw K H' (rD q) v->0<=q->q<=(cap:Rat)->Bq 17 q->cE H' t r->Mv [t,r] H H'->Q v H')
theorem fe (T:c8 K mg w):df P w K mg base (cN P w) 3 "_law_share" uA1 [] (si K):=by
  refine T.x2f.cal kZ (bb:=λ_ _ _ _ _ H vs Q E hr h=>?_);obtain⟨t,r,cap,rfl,tw,c0,c1,q⟩:=h;refine⟨_,(cO.go (af (aA 2 kZ.nd (aj aE (c5 T) hr (aK (ao 0) (aV (aa ac (aa ac (aa ac (aa ac (aa ac (aa ac aB))))))))))
   (ah (au (aj aE (c5 T) hr (aK (ao 0) (ar lS (ar nJ (aV (aH (aj aE (vN T) hr (aK (aj aE (bV T) hr (aK (ao 0) (ar fG (ar aW (ao 1) (ao 2)) ac))) (ao 2))))) ac) (aV (aK (aX (aK ac ac)) (aX (aK (ao 1) ac))))))))))),?_⟩
  have s64:∀ {n:Int},0<n->n<100000->Sm 8000 n:=λh1 h2=>Sm.mono (k:=20) (by unfold Sm;lia) (by decide)
  refine⟨_,rfl,(by show 6<=Nv;decide),λp hp=>?_⟩;have sp:=ae.new (o:=.lst [.int 1,.int 1,.int 2,.int 3,.int 7,.int 60]) hp;have np:=tw.not hp;refine⟨t,r,p,_,rfl,tw.same sp,ai,λz=>np (by simp[z]),λz=>np (by simp[z]),by simp,by show 6<=1000;decide,λj v G hv tw1 mv1=>?_⟩;obtain⟨b,rfl,b0,b1⟩:∃ b:Int,v=.int b/\0<b/\b<=60:=by
   match j,hv with
   |0,hv=>exact⟨1,(Nb hv).symm,by decide,by decide⟩
   |1,hv=>exact⟨1,(Nb hv).symm,by decide,by decide⟩
   |2,hv=>exact⟨2,(Nb hv).symm,by decide,by decide⟩
   |3,hv=>exact⟨3,(Nb hv).symm,by decide,by decide⟩
   |4,hv=>exact⟨7,(Nb hv).symm,by decide,by decide⟩
   |5,hv=>exact⟨60,(Nb hv).symm,by decide,by decide⟩
  have cb:cap*b<=60000:=Int.le_trans (Int.mul_le_mul_of_nonneg_right c1 (by lia)) (by lia);have cb0:0<=cap*b:=Qg (by lia) (by lia);have mv1:=(Mv.of sp).trans mv1;clear hv sp np hp;refine⟨_,rfl,_,rfl,_,rfl,_,rfl,_,_,rfl,rfl,.inr ((KH (by lia) c1).mono (by decide)),_,_,rfl,rfl,?_⟩;refine⟨t,r,_,rfl,tw1,by lia,s64 (by lia) (by lia),λd H2 d0 d1 tw2 mv2=>?_⟩;have bq:Bq 17 ((d:Rat)/(b:Rat)):=fR (by lia) (by unfold Sm;lia) (by unfold Sm;lia);have bp:(0:Rat)<(b:Rat):=Rat.intCast_pos.mpr b0;have hd0:(0:Rat)<=(d:Rat):=VU.mpr d0;have hd1:(d:Rat)<=(cap:Rat)*(b:Rat):=by rw[<- N9];exact Rat.intCast_le_intCast.mpr (by lia)
  have nb:=Cv (n:=b) (by lia);have eq:(d:Rat)=(d:Rat)/(b:Rat)*(b:Rat):=by grind
  have q0:0<=(d:Rat)/(b:Rat):=Rat.not_lt.mp λz=>by
   have:=Ta z bp;grind
  have q1:(d:Rat)/(b:Rat)<=(cap:Rat):=Rat.not_lt.mp λz=>by
   have:=Ta z bp;grind
  refine⟨_,rfl,_,_,rfl,by lia,s64 (by lia) (by lia),xE.sh (by lia) λv3 H3 s3 hv3=>?_⟩;refine⟨xL,λp1 hp1=>?_⟩;have s4:=ae.new (o:=.lst [v3]) hp1;refine E4 (n:=4) rfl (by decide) ai λp2 hp2=>?_
  have s5:=ae.new (o:=.lst (Np 4 v3)) hp2;refine⟨mV,λp3 hp3=>?_⟩;have s6:=ae.new (o:=.tup [.int 0,.int 1]) hp3;refine⟨_,rfl,mV,λp4 hp4=>?_⟩;have s7:=ae.new (o:=.tup [.int cap,.int 1]) hp4;refine⟨mV,λp5 hp5=>?_⟩;have s8:=ae.new (o:=.lst [.ref p3,.ref p4]) hp5;have s67:=s6.trans (s7.trans s8);refine⟨p2,p5,_,_,rfl,rfl,s67 _ _ ai,ai,(by show 4+2<=Nv;decide),λp6 hp6=>?_⟩;have s9:=ae.new (o:=.lst (Np 4 v3++[.ref p3,.ref p4])) hp6;have g3:=s9 _ _ (s8 _ _ (s7 _ _ (ai (H:=upd (upd H3 p1 (.lst [v3])) p2 (.lst (Np 4 v3))) (a:=p3) (o:=.tup [.int 0,.int 1]))));have g4:=s9 _ _ (s8 _ _ (ai (H:=upd (upd (upd H3 p1 (.lst [v3])) p2 (.lst (Np 4 v3))) p3 (.tup [.int 0,.int 1])) (a:=p4) (o:=.tup [.int cap,.int 1])));have sA:ae H3 _:=((s4.trans s5).trans s67).trans s9;have hv:=aw.same sA hv3;have twA:=(tw2.same s3).same sA;have n6:p6∉[t,r]:=((tw2.same s3).same ((s4.trans s5).trans s67)).not hp6;have mvA:=(mv1.trans mv2).trans (Mv.of (s3.trans sA));have gA:upd (upd (upd (upd (upd (upd H3 p1 (.lst [v3])) p2 (.lst (Np 4 v3))) p3 (.tup [.int 0,.int 1])) p4 (.tup [.int cap,.int 1])) p5 (.lst [.ref p3,.ref p4])) p6 (.lst (Np 4 v3++[.ref p3,.ref p4])) p6=some (.lst (Np 4 v3++[.ref p3,.ref p4])):=ai;generalize upd (upd (upd (upd (upd (upd H3 p1 (.lst [v3])) p2 (.lst (Np 4 v3))) p3 (.tup [.int 0,.int 1])) p4 (.tup [.int cap,.int 1])) p5 (.lst [.ref p3,.ref p4])) p6 (.lst (Np 4 v3++[.ref p3,.ref p4]))=GA at g3 g4 sA hv twA mvA gA ⊢;refine⟨t,r,p6,_,rfl,twA,gA,λz=>n6 (by simp[z]),λz=>n6 (by simp[z]),by simp,by show 6<=1000;decide,λj v H7 hj tw7 mv7=>?_⟩;have one:∀ {n:Int}{a:Nn},GA a=some (.tup [.int n,.int 1])->aw K GA (rD (n:Rat)) (.ref a):=λ{n a} h=>by rw[Ip];exact zX h
  obtain⟨z,hz,z0,z1,bz⟩:∃ z:Rat,aw K GA (rD z) v/\0<=z/\z<=(cap:Rat)/\Bq 17 z:=by
   have cp:(0:Rat)<=(cap:Rat):=VU.mpr (by lia)
   match j,hj with
   |0,hj=>cases hj;exact⟨_,hv,q0,q1,bq⟩
   |1,hj=>cases hj;exact⟨_,hv,q0,q1,bq⟩
   |2,hj=>cases hj;exact⟨_,hv,q0,q1,bq⟩
   |3,hj=>cases hj;exact⟨_,hv,q0,q1,bq⟩
   |4,hj=>cases hj;exact⟨_,one g3,Rat.le_refl,cp,(Eb (n:=0) (k:=17) (by unfold Sm;decide) (by decide))⟩
   |5,hj=>cases hj;exact⟨_,one g4,cp,Rat.le_refl,(Eb (KH (by lia) c1) (by decide)).mono (by decide)⟩
  exact q v z H7 (aw.mv mv7 twA.lists rfl hz) z0 z1 bz tw7 (mvA.trans mv7)
theorem sN:ay uA1 uA1 (ag i7):=dD
inductive sR (K:HD)(vs:List V)(H:Hp)(Q:VK)(_:XK):Prop
 |mk (t r:Nn) (cap:Int) (_:vs=[.ref t,.int cap]) (_:cE H t r) (_:0<cap) (_:cap<=1000) (_:∀ (v:V) (c:Q3) (H':Hp),aw K H' c.col v->c.Wi cap->c.Bd 17->cE H' t r->Mv [t,r] H H'->Q v H')
theorem r_ (T:c8 K mg w):df P w K mg base (cN P w) 4 "_law_three" uA1 [] (sR K):=by
  refine T.x2g.cal sN (bb:=λ_ _ _ _ _ H vs Q E hr h=>?_);obtain⟨t,r,cap,rfl,tw,c0,c1,q⟩:=h;refine⟨_,(cO.go (af (bg (aQ dh (aj aE (bV T) hr (aK (ao 0) ac)) ac (bh _)) (ah (au (ar Gq (aX (aH (aj aE (fe T) hr (aK (ao 0) (ao 1))))) ac))) aN)
   (ah (au (aX (aa (aj aE (fe T) hr (aK (ao 0) (ao 1))) (aa (aj aE (fe T) hr (aK (ao 0) (ao 1))) (aa (aj aE (fe T) hr (aK (ao 0) (ao 1))) aB)))))))),?_⟩
  refine⟨_,rfl,t,r,6,rfl,tw,by decide,by unfold Sm;decide,λd H1 d0 d1 tw1 mv1=>⟨_,_,rfl,rfl,_,rfl,?_⟩⟩;refine fI (λ_=>?_) (λ_=>?_)
  ·refine⟨_,rfl,_,rfl,t,r,cap,rfl,tw1,c0,c1,λv z H2 hv z0 z1 bz tw2 mv2=>⟨xL,λp hp=>?_⟩⟩;have s3:=ae.new (o:=.tup [v]) hp;refine⟨p,_,rfl,rfl,ai,λp2 hp2=>?_⟩;have s4:=ae.new (o:=.tup [v,v,v]) hp2;have hv:=aw.same (s3.trans s4) hv;exact q _ ⟨z,z,z⟩ _ (.tup ai (.cons hv (.cons hv (.cons hv .nil)))) ⟨z0,z1,z0,z1,z0,z1⟩ ⟨bz,bz,bz⟩ (tw2.same (s3.trans s4)) ((mv1.trans mv2).trans (Mv.of (s3.trans s4)))
  ·refine⟨_,rfl,_,rfl,t,r,cap,rfl,tw1,c0,c1,λv1 z1 H2 hv1 a0 a1 ba tw2 mv2=>?_⟩;refine⟨_,rfl,_,rfl,t,r,cap,rfl,tw2,c0,c1,λv2 z2 H3 hv2 b0 b1 bb GN mv3=>?_⟩;refine⟨_,rfl,_,rfl,t,r,cap,rfl,GN,c0,c1,λv3 z3 H4 hv3 k0 k1 bk tw4 mv4=>⟨sk,λp hp=>?_⟩⟩;have s:=ae.new (o:=.tup [v1,v2,v3]) hp;exact q _ ⟨z1,z2,z3⟩ _ (aw.tupN hp (.cons (aw.mv (mv3.trans mv4) tw2.lists rfl hv1) (.cons (aw.mv mv4 GN.lists rfl hv2) (.cons hv3 .nil)))) ⟨a0,a1,b0,b1,k0,k1⟩ ⟨ba,bb,bk⟩ (tw4.same s) ((((mv1.trans mv2).trans mv3).trans mv4).trans (Mv.of s))
theorem lv:ay uB0 uB0 (ag eh):=dD
def zn:List NQ:=[.none,.int 5,.bool true,.tuple [.int 1],.tuple [.int 2,.int 4],.tuple [.int 1,.int 0],.tuple [.int 1,.int (0-1)],.list [.int 1,.int 2],.tuple [.bool true,.int 1],.tuple [.int 0,.int 2],.str "1",.tuple [.int 1,.int 2,.int 3]]
theorem Ja {i:Nat}{d:NQ}(h:zn[i]?=some d):shB d=false:=by
 have e:zn.all (λd=>!shB d)=true:=by decide +kernel
 have z:=Og.mp e d (NJ h)
 simpa using z
inductive ma (K:HD)(vs:List V)(H:Hp)(Q:VK)(_:XK):Prop
 |mk (t r:Nn) (_:vs=[.ref t]) (_:cE H t r) (_:∀ (v:V) (d:NQ) (H':Hp),d∈zn->aw K (cut [t,r] H') d v->shB d=false->cE H' t r->Mv [t,r] H H'->Q v H')
theorem lM (T:c8 K mg w):df P w K mg base (cN P w) 3 "_law_odd_shares" uB0 [] (ma K):=by
  refine T.x2h.cal lv (bb:=λ_ _ _ _ _ H vs Q E hr h=>?_);obtain⟨t,r,rfl,tw,q⟩:=h;refine⟨_,(cO.go (ah (au (aj aE (c5 T) hr (aK (ao 0) (aV (aa dF (aa ac (aa dk (aa (aX (aH ac)) (aa (aX (aK ac ac)) (aa (aX (aK ac ac)) (aa (aX (aK ac (ar cT ac ac))) (aa (aV (aK ac ac)) (aa (aX (aK dk ac)) (aa (aX (aK ac ac)) (aa bB (aa (aX (aa ac (aa ac (aa ac aB)))) aB)))))))))))))))))),?_⟩;obtain⟨_,_,k1,k2,_⟩:=id tw;have m0:=Mv.refl (T:=[t,r]) (H:=H);refine⟨_,rfl,xL,λp3 hp3=>?_⟩;have np3:p3∉[t,r]:=λz=>by
   rcases Nl.mp z with z|z
   ·rw[z,k1] at hp3;cases hp3
   ·rw[Nm.mp z,k2] at hp3;cases hp3
  have dp3:aw K (cut [t,r] (upd H p3 (.tup [.int 1]))) (.tuple [.int 1]) (.ref p3):=aw.tupC np3 (.cons (.int _) .nil);generalize e0:upd H p3 _=G1 at dp3 ⊢;have zp3:=iy hp3 e0;have k1:=zp3 _ _ k1;have k2:=zp3 _ _ k2;have tw:=tw.same zp3;have m0:=m0.trans (Mv.of zp3);clear zp3 hp3 np3;refine⟨mV,λp4 hp4=>?_⟩;have np4:p4∉[t,r]:=λz=>by
   rcases Nl.mp z with z|z
   ·rw[z,k1] at hp4;cases hp4
   ·rw[Nm.mp z,k2] at hp4;cases hp4
  have dp4:aw K (cut [t,r] (upd G1 p4 (.tup [.int 2,.int 4]))) (.tuple [.int 2,.int 4]) (.ref p4):=aw.tupC np4 (.cons (.int _) (.cons (.int _) .nil));generalize e0:upd G1 p4 _=G2 at dp4 ⊢;have zp4:=iy hp4 e0;have k1:=zp4 _ _ k1;have k2:=zp4 _ _ k2;have tw:=tw.same zp4;have dp3:=aw.same (ae.cut (T:=[t,r]) zp4) dp3;have m0:=m0.trans (Mv.of zp4);clear zp4 hp4 np4;refine⟨mV,λp5 hp5=>?_⟩;have np5:p5∉[t,r]:=λz=>by
   rcases Nl.mp z with z|z
   ·rw[z,k1] at hp5;cases hp5
   ·rw[Nm.mp z,k2] at hp5;cases hp5
  have dp5:aw K (cut [t,r] (upd G2 p5 (.tup [.int 1,.int 0]))) (.tuple [.int 1,.int 0]) (.ref p5):=aw.tupC np5 (.cons (.int _) (.cons (.int _) .nil));generalize e0:upd G2 p5 _=G3 at dp5 ⊢;have zp5:=iy hp5 e0;have k1:=zp5 _ _ k1;have k2:=zp5 _ _ k2;have tw:=tw.same zp5;have dp3:=aw.same (ae.cut (T:=[t,r]) zp5) dp3;have dp4:=aw.same (ae.cut (T:=[t,r]) zp5) dp4;have m0:=m0.trans (Mv.of zp5);clear zp5 hp5 np5;refine⟨_,_,rfl,rfl,mV,λp6 hp6=>?_⟩;have np6:p6∉[t,r]:=λz=>by
   rcases Nl.mp z with z|z
   ·rw[z,k1] at hp6;cases hp6
   ·rw[Nm.mp z,k2] at hp6;cases hp6
  have dp6:aw K (cut [t,r] (upd G3 p6 (.tup [.int 1,.int (0-1)]))) (.tuple [.int 1,.int (0-1)]) (.ref p6):=aw.tupC np6 (.cons (.int _) (.cons (.int _) .nil));generalize e0:upd G3 p6 _=G4 at dp6 ⊢;have zp6:=iy hp6 e0;have k1:=zp6 _ _ k1;have k2:=zp6 _ _ k2;have tw:=tw.same zp6;have dp3:=aw.same (ae.cut (T:=[t,r]) zp6) dp3;have dp4:=aw.same (ae.cut (T:=[t,r]) zp6) dp4;have dp5:=aw.same (ae.cut (T:=[t,r]) zp6) dp5;have m0:=m0.trans (Mv.of zp6);clear zp6 hp6 np6;refine⟨mV,λp7 hp7=>?_⟩;have np7:p7∉[t,r]:=λz=>by
   rcases Nl.mp z with z|z
   ·rw[z,k1] at hp7;cases hp7
   ·rw[Nm.mp z,k2] at hp7;cases hp7
  have dp7:aw K (cut [t,r] (upd G4 p7 (.lst [.int 1,.int 2]))) (.list [.int 1,.int 2]) (.ref p7):=aw.lstC np7 (.cons (.int _) (.cons (.int _) .nil));generalize e0:upd G4 p7 _=G5 at dp7 ⊢;have zp7:=iy hp7 e0;have k1:=zp7 _ _ k1;have k2:=zp7 _ _ k2;have tw:=tw.same zp7;have dp3:=aw.same (ae.cut (T:=[t,r]) zp7) dp3;have dp4:=aw.same (ae.cut (T:=[t,r]) zp7) dp4;have dp5:=aw.same (ae.cut (T:=[t,r]) zp7) dp5;have dp6:=aw.same (ae.cut (T:=[t,r]) zp7) dp6;have m0:=m0.trans (Mv.of zp7);clear zp7 hp7 np7;refine⟨mV,λp8 hp8=>?_⟩;have np8:p8∉[t,r]:=λz=>by
   rcases Nl.mp z with z|z
   ·rw[z,k1] at hp8;cases hp8
   ·rw[Nm.mp z,k2] at hp8;cases hp8
  have dp8:aw K (cut [t,r] (upd G5 p8 (.tup [.bl true,.int 1]))) (.tuple [.bool true,.int 1]) (.ref p8):=aw.tupC np8 (.cons (.bl _) (.cons (.int _) .nil));generalize e0:upd G5 p8 _=G6 at dp8 ⊢;have zp8:=iy hp8 e0;have k1:=zp8 _ _ k1;have k2:=zp8 _ _ k2;have tw:=tw.same zp8;have dp3:=aw.same (ae.cut (T:=[t,r]) zp8) dp3;have dp4:=aw.same (ae.cut (T:=[t,r]) zp8) dp4;have dp5:=aw.same (ae.cut (T:=[t,r]) zp8) dp5;have dp6:=aw.same (ae.cut (T:=[t,r]) zp8) dp6;have dp7:=aw.same (ae.cut (T:=[t,r]) zp8) dp7;have m0:=m0.trans (Mv.of zp8);clear zp8 hp8 np8;refine⟨mV,λp9 hp9=>?_⟩;have np9:p9∉[t,r]:=λz=>by
   rcases Nl.mp z with z|z
   ·rw[z,k1] at hp9;cases hp9
   ·rw[Nm.mp z,k2] at hp9;cases hp9
  have dp9:aw K (cut [t,r] (upd G6 p9 (.tup [.int 0,.int 2]))) (.tuple [.int 0,.int 2]) (.ref p9):=aw.tupC np9 (.cons (.int _) (.cons (.int _) .nil));have zp9:ae G6 (upd G6 p9 (.tup [.int 0,.int 2])):=ae.new hp9;have k1:=zp9 _ _ k1;have k2:=zp9 _ _ k2;have tw:=tw.same zp9;have dp3:=aw.same (ae.cut (T:=[t,r]) zp9) dp3;have dp4:=aw.same (ae.cut (T:=[t,r]) zp9) dp4;have dp5:=aw.same (ae.cut (T:=[t,r]) zp9) dp5;have dp6:=aw.same (ae.cut (T:=[t,r]) zp9) dp6;have dp7:=aw.same (ae.cut (T:=[t,r]) zp9) dp7;have dp8:=aw.same (ae.cut (T:=[t,r]) zp9) dp8;have m0:=m0.trans (Mv.of zp9);generalize upd G6 p9 (.tup [.int 0,.int 2])=G7 at k1 k2 tw m0 dp9 dp3 dp4 dp5 dp6 dp7 dp8 ⊢;clear zp9 hp9 np9;refine⟨sk,λp11 hp11=>?_⟩;have np11:p11∉[t,r]:=λz=>by
   rcases Nl.mp z with z|z
   ·rw[z,k1] at hp11;cases hp11
   ·rw[Nm.mp z,k2] at hp11;cases hp11
  have dp11:aw K (cut [t,r] (upd G7 p11 (.tup [.int 1,.int 2,.int 3]))) (.tuple [.int 1,.int 2,.int 3]) (.ref p11):=aw.tupC np11 (.cons (.int _) (.cons (.int _) (.cons (.int _) .nil)));have zp11:ae G7 (upd G7 p11 (.tup [.int 1,.int 2,.int 3])):=ae.new hp11;have k1:=zp11 _ _ k1;have k2:=zp11 _ _ k2;have tw:=tw.same zp11;have dp3:=aw.same (ae.cut (T:=[t,r]) zp11) dp3;have dp4:=aw.same (ae.cut (T:=[t,r]) zp11) dp4;have dp5:=aw.same (ae.cut (T:=[t,r]) zp11) dp5;have dp6:=aw.same (ae.cut (T:=[t,r]) zp11) dp6;have dp7:=aw.same (ae.cut (T:=[t,r]) zp11) dp7;have dp8:=aw.same (ae.cut (T:=[t,r]) zp11) dp8;have dp9:=aw.same (ae.cut (T:=[t,r]) zp11) dp9;have m0:=m0.trans (Mv.of zp11);generalize upd G7 p11 (.tup [.int 1,.int 2,.int 3])=G8 at k1 k2 tw m0 dp11 dp3 dp4 dp5 dp6 dp7 dp8 dp9 ⊢;clear zp11 hp11 np11;refine⟨by show 12<=Nv;decide,λL hL=>?_⟩;have nL:L∉[t,r]:=λz=>by
   rcases Nl.mp z with z|z
   ·rw[z,k1] at hL;cases hL
   ·rw[Nm.mp z,k2] at hL;cases hL
  have zL:ae G8 (upd G8 L (.lst [.non,.int 5,.bl true,.ref p3,.ref p4,.ref p5,.ref p6,.ref p7,.ref p8,.ref p9,.str "1",.ref p11])):=ae.new hL;have hds:av K (cut [t,r] (upd G8 L (.lst [.non,.int 5,.bl true,.ref p3,.ref p4,.ref p5,.ref p6,.ref p7,.ref p8,.ref p9,.str "1",.ref p11]))) zn [.non,.int 5,.bl true,.ref p3,.ref p4,.ref p5,.ref p6,.ref p7,.ref p8,.ref p9,.str "1",.ref p11]:=(.cons (.non) (.cons (.int _) (.cons (.bl _) (.cons (aw.same (ae.cut (T:=[t,r]) zL) dp3) (.cons (aw.same (ae.cut (T:=[t,r]) zL) dp4) (.cons (aw.same (ae.cut (T:=[t,r]) zL) dp5) (.cons (aw.same (ae.cut (T:=[t,r]) zL) dp6) (.cons (aw.same (ae.cut (T:=[t,r]) zL) dp7) (.cons (aw.same (ae.cut (T:=[t,r]) zL) dp8) (.cons (aw.same (ae.cut (T:=[t,r]) zL) dp9) (.cons (.str _) (.cons (aw.same (ae.cut (T:=[t,r]) zL) dp11) .nil))))))))))))
  refine⟨t,r,L,_,rfl,tw.same zL,ai,λz=>nL (by simp[z]),λz=>nL (by simp[z]),by simp,by show 12<=1000;decide,λi v H' hv tw' mv=>?_⟩;obtain⟨d,hd,hdv⟩:=hds.get hv;exact q v d H' (NJ hd) (aw.same mv.cut hdv) (Ja hd) tw' ((m0.trans (Mv.of zL)).trans mv)
theorem bL:ay ["_law_town_here","_law_size","_law_table","_law_kind","_law_rows","_law_a","_law_b","_law_c","_law_worth"] uC0 (ag jE):=dD
inductive u_ (K:HD)(vs:List V)(H:Hp)(Q:VK)(_:XK):Prop
 |mk (t r:Nn) (n:Nat) (_:vs=[.ref t,.int n]) (_:cE H t r) (_:2<=n) (_:n<=7) (_:∀ (d:Nn) (f:Kn->R3) (H':Hp),BG K H' (aU n) f d->GM n f->cE H' t r->Mv [t,r] H H'->H d=none->Q (.ref d) H')
structure R4 where
 w:Int
 x:Int
 y:Int
 z:Int
def R4.ds (r:R4):List NQ:=[.int r.w,.int r.x,.int r.y,.int r.z]
structure R4.In (r:R4):Prop where
 w0:0<=r.w
 w1:r.w<200
 x0:0<=r.x
 x1:r.x<90
 y0:0<=r.y
 y1:r.y<90
 z0:0<=r.z
 z1:r.z<90
theorem C8 {K:HD}{H:Hp}{r:R4}{v:V}(h:aw K H (.list r.ds) v):∃ a,v=.ref a/\bI K H a [.int r.w,.int r.x,.int r.y,.int r.z]:=by
 obtain⟨a,xs,rfl,ha,hx⟩:=bn (b:=true) (ds:=r.ds) h;have e:xs=[r.w,r.x,r.y,r.z].map V.int:=bT (ns:=[r.w,r.x,r.y,r.z]) hx;subst e;exact⟨a,rfl,ha⟩
structure R3.Up (r:R3):Prop where
 a:0<=r.a
 b:0<=r.b
 c:0<=r.c
theorem Kz {ds:List NQ}(hl:ds.length=3)(h:∀ d∈ds,∃ i:Int,d=.int i/\0<=i):∃ r:R3,ds=r.ds/\r.Up:=by
 match ds,hl,h with
 |[x,y,z],_,h=>
  obtain⟨a,rfl,a1⟩:=h x (by simp);obtain⟨b,rfl,b1⟩:=h y (by simp);obtain⟨c,rfl,c1⟩:=h z (by simp);exact⟨⟨a,b,c⟩,rfl,a1,b1,c1⟩
structure jp (K:HD)(t r d R:Nn)(rs:NQ)(H1:Hp)(ts:List Kn)(H':Hp):Prop where
 tw:cE H' t r
 mv:Mv [t,r,d] H1 H'
 rs:aw K (cut [t,r] H') rs (.ref R)
 gr:∃ f,BG K H' ts f d/\∀ u∈ts,(f u).Wt
theorem jp.same {K:HD}{t r d R:Nn}{rs:NQ}{H1 H2 H3:Hp}{ts:List Kn}(h:jp K t r d R rs H1 ts H2)(s:ae H2 H3):jp K t r d R rs H1 ts H3:=
 ⟨h.tw.same s,h.mv.trans (Mv.of s),aw.same (ae.cut s) h.rs,let ⟨f,a,b⟩:=h.gr;⟨f,a.same s,b⟩⟩
theorem jp.draw {K:HD}{t r d R:Nn}{rs:NQ}{H1 H2 H3:Hp}{ts:List Kn}(h:jp K t r d R rs H1 ts H2)(tw:cE H3 t r)(m:Mv [t,r] H2 H3):jp K t r d R rs H1 ts H3:=
 ⟨tw,h.mv.trans m.wide,aw.same m.cut h.rs,let ⟨f,a,b⟩:=h.gr;⟨f,a.mv m h.tw.lists,b⟩⟩
theorem ve (T:c8 K mg w):df P w K mg base (cN P w) 2 "_law_grid" uC0 [] (u_ K):=by
  refine T.x2i.cal bL (bb:=λ_ _ _ _ _ H vs Q E hr h=>?_);obtain⟨t,r,n,rfl,tw,h2,h7,q⟩:=h;refine⟨_,(cO.go (af (aA 2 bL.nd A5)
   (af (aA 3 bL.nd (aj aE (bV T) hr (aK (ao 0) ac)))
   (af (cH 4 ["_law_k"] uB0 [0] 1 bL.nd (b8 rfl T.x4 (aH ac)) (λnd=>(am 0 nd)) aJ (aV (aa (aj aE (bV T) hr (aK (ao 1) ac)) (aa (aj aE (bV T) hr (aK (ao 1) ac)) (aa (aj aE (bV T) hr (aK (ao 1) ac)) (aa (aj aE (bV T) hr (aK (ao 1) ac)) aB))))))
   (af (dn Ow rfl (b8 rfl T.x4 (aH (ao 1))) (am 5 bL.nd) (ah (dn Ow rfl (b8 rfl T.x4 (aH (ao 1))) (am 6 bL.nd) (ah (dn Ow rfl (b8 rfl T.x4 (aH (ao 1))) (am 7 bL.nd) (af (bg (aQ dh (ao 3) ac (bh _)) (ah (cH 8 uC3 ["_law_a","_law_b","_law_c"] [5,6,7] 4 bL.nd (bH (K:=K) rfl (ao 4)) (λnd=>(re (K:=K) (n:=4) rfl rfl (aq (am 0 nd) (aq (am 1 nd) (aq (am 2 nd) (aq (am 3 nd) aY)))))) aJ (ar fG (ar fG (ar fG (ao 0) (ar aW (ao 1) (ao 4))) (ar aW (ao 2) (ao 5))) (ar aW (ao 3) (ao 6))))) (ah (bg (aQ dh (ao 3) ac (bh _)) (ah (cH 8 ["_law_k"] uB0 [0] 1 bL.nd (b8 rfl T.x4 (aH ac)) (λnd=>(am 0 nd)) aJ (aj aE (bV T) hr (aK (ao 1) ac)))) (ah (cH 8 uC3 ["_law_a","_law_size","_law_b","_law_c"] [5,1,6,7] 4 bL.nd (bH (K:=K) rfl (ao 4)) (λnd=>(re (K:=K) (n:=4) rfl rfl (aq (am 0 nd) (aq (am 1 nd) (aq (am 2 nd) (aq (am 3 nd) aY)))))) aJ (ax (om rfl) (by rfl) T.xd yI (aK ac (ar fG (ar fG (ar fG (ao 0) (ar di (ar aW (ar aW (ao 1) (ao 4)) (ao 4)) (ao 5))) (ar aW ac (ao 6))) (ar aW ac (ao 7))))))))))
   (af (bg (WW.pt (zQ (aQ dh (ao 5) (ao 6) (bh _)) (zQ (aQ dh (ao 6) (ao 7) (bh _)) (Eh (aQ dh (ao 3) ac (bh _)))))) (ah (aA 8 bL.nd (ar nJ (aV (aH (aI K (ao 8) ac))) ac))) aN)
   (ah (Cg hr.u1 (ao 2) (aX (aa (ao 5) (aa (ao 6) (aa (ao 7) aB)))) (bN (i_ (K:=K) rfl) (by rfl) T.x3 cG (aH (aR ["_law_one"] [] [] 1 (bH (K:=K) rfl (ao 8)) (λnd=>(am 0 nd)) aJ (ax (om rfl) (by rfl) T.xd yI (aK ac (ao 0)))))) rfl)))))))))
   (ah (au (ao 2)))))))),?_⟩
  have s64:∀ {n:Int},0<n->n<100000->Sm 8000 n:=λh1 h2=>Sm.mono (k:=20) (by unfold Sm;lia) (by decide)
  refine λd hd=>?_
  have sd:ae H (upd H d (.dT [])):=ae.new hd;have tw0:=tw.same sd;have gd0:upd H d (.dT []) d=some (.dT []):=ai;generalize hH0:upd H d (.dT [])=H0 at sd tw0 gd0 ⊢;refine⟨_,rfl,t,r,3,rfl,tw0,by decide,s64 (by decide) (by decide),λkd H1 k0 k3 tw1 mv1=>?_⟩;refine⟨3,rfl,by decide,by decide,oJ (K:=K) (lo:=0) (n:=3) (Pd:=λd=>∃ r:R4,d=.list r.ds/\r.In) tw1 (by decide) (λi H2 hi tw2 mv2 R kk S=>?_) (λds ys H2 hl hP tw2 mv2 hys R hR=>?_)⟩
  ·refine aZ (B:=S H2) ⟨_,rfl,t,r,200,rfl,tw2,by decide,s64 (by decide) (by decide),λx1 H3 a1 b1 GN mv3=>?_⟩;refine⟨_,rfl,t,r,90,rfl,GN,by decide,s64 (by decide) (by decide),λx2 H4 a2 b2 tw4 mv4=>?_⟩;refine⟨_,rfl,t,r,90,rfl,tw4,by decide,s64 (by decide) (by decide),λx3 H5 a3 b3 tw5 mv5=>?_⟩;refine⟨_,rfl,t,r,90,rfl,tw5,by decide,s64 (by decide) (by decide),λx4 H6 a4 b4 tw6 mv6=>⟨M',λL hL=>?_⟩⟩;exact kk _ _ ⟨tw6.same (ae.new hL),(((mv3.trans mv4).trans mv5).trans mv6).trans (Mv.of (ae.new hL)),_,⟨⟨x1,x2,x3,x4⟩,rfl,a1,b1,a2,b2,a3,b3,a4,b4⟩,vS tw6 hL (.cons (.int _) (.cons (.int _) (.cons (.int _) (.cons (.int _) .nil))))⟩
  obtain⟨r1,r2,r3,rfl,i1,i2,i3⟩:∃ r1 r2 r3:R4,ds=[.list r1.ds,.list r2.ds,.list r3.ds]/\r1.In/\r2.In/\r3.In:=by
   match ds,hl,hP with
   |[x,y,z],_,h=>
    obtain⟨a,rfl,a1⟩:=h x (by simp);obtain⟨b,rfl,b1⟩:=h y (by simp);obtain⟨c,rfl,c1⟩:=h z (by simp);exact⟨a,b,c,rfl,a1,b1,c1⟩
  have nd:d∉[t,r]:=λm=>by
   obtain⟨xs,e⟩:=tw0.lists d m;rw[gd0] at e;cases e
  have gi0:jp K t r d R (.list [.list r1.ds,.list r2.ds,.list r3.ds]) H0 [] (upd H2 R (.lst ys)):=⟨tw2.same (ae.new hR),((mv1.trans mv2).trans (Mv.of (ae.new hR))).wide,vS tw2 hR hys,λ_=>⟨0,0,0⟩,⟨[],ae.new hR _ _ (mv2 _ _ (mv1 _ _ gd0 nd) nd),.nil⟩,λ_ m=>nomatch m⟩
  generalize upd H2 R (.lst ys)=H3 at gi0 ⊢;have lt:∀ {x:Int}{m:Nat},0<=x->x<200->m<7->Sm 64 x:=λh1 h2 _=>by unfold Sm;lia
  have inr:∀ {rr:R4},rr=r1\/rr=r2\/rr=r3->rr.In:=λh=>by rcases h with rfl|rfl|rfl<;>assumption
  refine⟨_,rfl,(n:Int),rfl,by lia,by lia,iO (lo:=0) (n:=(n:Int).toNat) (λi σ H'=>(∃ oa ob oc ow,σ=[some (.ref t),some (.int n),some (.ref d),some (.int kd),some (.ref R),oa,ob,oc,ow])/\jp K t r d R (.list [.list r1.ds,.list r2.ds,.list r3.ds]) H0 (r9 n i) H')
   ⟨⟨_,_,_,_,rfl⟩,gi0⟩ ?_ ?_⟩
  ·rintro i σ H4 hi ⟨⟨oa,ob,oc,ow,rfl⟩,gi1⟩;have hi:i<n:=by lia
   refine⟨_,rfl,(n:Int),rfl,by lia,by lia,iO (lo:=0) (n:=(n:Int).toNat) (λj σ H'=>(∃ ob oc ow,σ=[some (.ref t),some (.int n),some (.ref d),some (.int kd),some (.ref R),some (.int (0+i)),ob,oc,ow])/\jp K t r d R (.list [.list r1.ds,.list r2.ds,.list r3.ds]) H0 (r9 n i++rS n i j) H')
    ⟨⟨_,_,_,rfl⟩,by simpa [rS] using gi1⟩ ?_ ?_⟩
   ·rintro j σ H5 hj ⟨⟨ob,oc,ow,rfl⟩,gi2⟩;have hj:j<n:=by lia
    refine⟨_,rfl,(n:Int),rfl,by lia,by lia,iO (lo:=0) (n:=(n:Int).toNat) (λk σ H'=>(∃ oc ow,σ=[some (.ref t),some (.int n),some (.ref d),some (.int kd),some (.ref R),some (.int (0+i)),some (.int (0+j)),oc,ow])/\jp K t r d R (.list [.list r1.ds,.list r2.ds,.list r3.ds]) H0 (r9 n i++rS n i j++tU i j k) H')
     ⟨⟨_,_,rfl⟩,by simpa [tU] using gi2⟩ ?_ ?_⟩
    ·rintro k σ H6 hk ⟨⟨oc,ow,rfl⟩,gi3⟩;have hk:k<n:=by lia
     obtain⟨b0,xs,eb,hb,hxs⟩:=bn (b:=true) (ds:=[.list r1.ds,.list r2.ds,.list r3.ds]) (aw.uncut gi3.rs);cases eb;apply MO (I:=λwv H'=>∃ (W:Nn) (wr:R3),wv=.ref W/\jp K t r d R (.list [.list r1.ds,.list r2.ds,.list r3.ds]) H0 (r9 n i++rS n i j++tU i j k) H'/\H' W=some (.lst wr.vs)/\wr.Up)
     case main=>
      intro rest1;refine⟨_,rfl,_,_,rfl,rfl,_,rfl,fI (λhc=>?k0) (λhc=>?kx)⟩
      case' k0=>
       refine⟨_,rfl,R,true,rfl,⟨_,hb⟩,bW (es:=[.int (r1.w+r1.x*(0+i)+r1.y*(0+j)+r1.z*(0+k)),.int (r2.w+r2.x*(0+i)+r2.y*(0+j)+r2.z*(0+k)),.int (r3.w+r3.x*(0+i)+r3.y*(0+j)+r3.z*(0+k))]) hb hxs rfl (by show 3<=1000;decide) (λii dd ee u H7 hd he s7 hu RR kk S=>?_) (λzs H7 s7 hzs W hW=>?_)⟩
       ·obtain⟨rr,hrr,rfl,rfl⟩:∃ rr:R4,(rr=r1\/rr=r2\/rr=r3)/\dd=.list rr.ds/\ee=.int (rr.w+rr.x*(0+i)+rr.y*(0+j)+rr.z*(0+k)):=by
         rcases vx hd with ⟨rfl,rfl⟩|⟨rfl,rfl⟩|⟨rfl,rfl⟩
         ·exact⟨r1,.inl rfl,rfl,(Nb he).symm⟩
         ·exact⟨r2,.inr (.inl rfl),rfl,(Nb he).symm⟩
         ·exact⟨r3,.inr (.inr rfl),rfl,(Nb he).symm⟩
        obtain⟨w0,w1,x0,x1,y0,y1,z0,z1⟩:=inr hrr;obtain⟨ra,rfl,hra⟩:=C8 hu;refine⟨ra,_,rfl,.inl hra,rfl,_,_,rfl,_,_,rfl,_,_,rfl,_,_,rfl,rfl,aZ (B:=S H7) ?_⟩;exact⟨_,rfl,_,rfl,_,rfl,_,_,rfl,rfl,.inr (by unfold Sm;lia),_,_,rfl,rfl,_,rfl,_,rfl,_,_,rfl,rfl,.inr (by unfold Sm;lia),_,_,rfl,rfl,_,rfl,_,rfl,_,_,rfl,rfl,.inr (by unfold Sm;lia),_,_,rfl,rfl,kk _ _ ⟨ae.refl _,.int _⟩⟩
       have zz:=bT (ns:=[r1.w+r1.x*(0+i)+r1.y*(0+j)+r1.z*(0+k),r2.w+r2.x*(0+i)+r2.y*(0+j)+r2.z*(0+k),r3.w+r3.x*(0+i)+r3.y*(0+j)+r3.z*(0+k)]) hzs;subst zz;have gi4:=(gi3.same s7).same (ae.new (o:=.lst ([r1.w+r1.x*(0+i)+r1.y*(0+j)+r1.z*(0+k),r2.w+r2.x*(0+i)+r2.y*(0+j)+r2.z*(0+k),r3.w+r3.x*(0+i)+r3.y*(0+j)+r3.z*(0+k)].map V.int)) hW);have pos:∀ {rr:R4},rr.In->0<=rr.w+rr.x*(0+(i:Int))+rr.y*(0+(j:Int))+rr.z*(0+(k:Int)):=λh=>by
        have p1:=Qg h.x0 (show(0:Int)<=0+i by lia);have p2:=Qg h.y0 (show(0:Int)<=0+j by lia);have p3:=Qg h.z0 (show(0:Int)<=0+k by lia);have p4:=h.w0;lia
       obtain⟨wr,ewr,up⟩:∃ wr:R3,upd H7 W (.lst ([r1.w+r1.x*(0+i)+r1.y*(0+j)+r1.z*(0+k),r2.w+r2.x*(0+i)+r2.y*(0+j)+r2.z*(0+k),r3.w+r3.x*(0+i)+r3.y*(0+j)+r3.z*(0+k)].map V.int)) W=some (.lst wr.vs)/\wr.Up:=⟨⟨_,_,_⟩,ai,pos i1,pos i2,pos i3⟩
       generalize upd H7 W (.lst ([r1.w+r1.x*(0+i)+r1.y*(0+j)+r1.z*(0+k),r2.w+r2.x*(0+i)+r2.y*(0+j)+r2.z*(0+k),r3.w+r3.x*(0+i)+r3.y*(0+j)+r3.z*(0+k)].map V.int))=H8 at gi4 ewr ⊢
      case' kx=>
       refine⟨_,rfl,_,_,rfl,rfl,_,rfl,fI (λhc1=>?k1) (λhc1=>?k2)⟩
      case' k1=>
       refine⟨3,rfl,by decide,by decide,oJ (K:=K) (lo:=0) (n:=3) (Pd:=λd=>∃ i:Int,d=.int i/\0<=i) gi3.tw (by decide) (λii H7 hii tw7 mv7 RR kk S=>aZ (B:=S H7) ⟨_,rfl,t,r,1001,rfl,tw7,by decide,s64 (by decide) (by decide),λx1 H9 a1 b1 tw9 mv9=>kk _ _ ⟨tw9,mv9,_,⟨x1,rfl,a1⟩,.int _⟩⟩) (λds ws H7 hl hP tw7 mv7 hws W hW=>?_)⟩;obtain⟨wr,rfl,up⟩:=Kz hl hP;have zz:=eX hws;subst zz;have gi4:=(gi3.draw tw7 mv7).same (ae.new (o:=.lst wr.vs) hW);have ewr:upd H7 W (.lst wr.vs) W=some (.lst wr.vs):=ai;generalize upd H7 W (.lst wr.vs)=H8 at gi4 ewr ⊢
      case' k2=>
       have e2:∃ g:R4->Int,g=λrr=>if rr.w+(rr.x*(0+(i:Int))*(0+(i:Int))).fdiv n+40*(0+(j:Int))+30*(0+(k:Int))<1000 then rr.w+(rr.x*(0+(i:Int))*(0+(i:Int))).fdiv n+40*(0+(j:Int))+30*(0+(k:Int)) else 1000:=⟨_,rfl⟩
       obtain⟨g,hg⟩:=e2;refine⟨_,rfl,R,true,rfl,⟨_,hb⟩,bW (es:=[.int (g r1),.int (g r2),.int (g r3)]) hb hxs rfl (by show 3<=1000;decide) (λii dd ee u H7 hd he s7 hu RR kk S=>?_) (λzs H7 s7 hzs W hW=>?_)⟩
       ·obtain⟨rr,hrr,rfl,rfl⟩:∃ rr:R4,(rr=r1\/rr=r2\/rr=r3)/\dd=.list rr.ds/\ee=.int (g rr):=by
         rcases vx hd with ⟨rfl,rfl⟩|⟨rfl,rfl⟩|⟨rfl,rfl⟩
         ·exact⟨r1,.inl rfl,rfl,(Nb he).symm⟩
         ·exact⟨r2,.inr (.inl rfl),rfl,(Nb he).symm⟩
         ·exact⟨r3,.inr (.inr rfl),rfl,(Nb he).symm⟩
        obtain⟨w0,w1,x0,x1,y0,y1,z0,z1⟩:=inr hrr;obtain⟨ra,rfl,hra⟩:=C8 hu;have sx:Sm 64 (rr.x*(0+(i:Int))):=((show Sm 10 rr.x by unfold Sm;lia).mul (show Sm 10 (0+(i:Int)) by unfold Sm;lia)).mono (by decide);refine⟨ra,_,rfl,.inl hra,rfl,_,_,rfl,_,_,rfl,_,_,rfl,_,_,rfl,rfl,aZ (B:=S H7) ?_⟩;refine⟨_,rfl,_,rfl,_,rfl,_,_,rfl,rfl,.inr (by unfold Sm;lia),_,rfl,_,_,rfl,rfl,.inr sx,_,rfl,_,_,rfl,rfl,⟨by lia,Sm.mono (k:=20) (by unfold Sm;lia) (by decide)⟩,_,_,rfl,rfl,_,rfl,_,_,rfl,rfl,.inr (by unfold Sm;decide),_,_,rfl,rfl,_,rfl,_,_,rfl,rfl,.inr (by unfold Sm;decide),_,_,rfl,rfl,_,_,rfl,kk _ _ ⟨ae.refl _,?_⟩⟩;rw[hg];exact .int _
       have zz:=bT (ns:=[g r1,g r2,g r3]) hzs;subst zz;have gi4:=(gi3.same s7).same (ae.new (o:=.lst ([g r1,g r2,g r3].map V.int)) hW);have pos:∀ {rr:R4},rr.In->0<=g rr:=λ{rr} h=>by
        have p1:=Qg (Qg h.x0 (show(0:Int)<=0+i by lia)) (show(0:Int)<=0+i by lia);have p2:0<=(rr.x*(0+(i:Int))*(0+(i:Int))).fdiv n:=by
         rw[Pn _ (by lia)];exact UX p1 (by lia)
        have p4:=h.w0;rw[hg];dsimp only
        split<;>lia
       obtain⟨wr,ewr,up⟩:∃ wr:R3,upd H7 W (.lst ([g r1,g r2,g r3].map V.int)) W=some (.lst wr.vs)/\wr.Up:=⟨⟨_,_,_⟩,ai,pos i1,pos i2,pos i3⟩
       generalize upd H7 W (.lst ([g r1,g r2,g r3].map V.int))=H8 at gi4 ewr ⊢
      all_goals
       obtain⟨wv,ewv⟩:∃ wv,wv=V.ref W:=⟨_,rfl⟩
       rw[<- ewv];exact rest1 wv H8 ⟨W,wr,ewv,gi4,ewr,up⟩
     clear gi3 hb hxs;rintro wv H8 ⟨W,wr,rfl,gi4,ewr,up⟩;apply MO (I:=λwv H'=>∃ (W:Nn) (wr:R3),wv=.ref W/\jp K t r d R (.list [.list r1.ds,.list r2.ds,.list r3.ds]) H0 (r9 n i++rS n i j++tU i j k) H'/\H' W=some (.lst wr.vs)/\wr.Up)
     case main=>
      intro rest2;refine⟨_,rfl,_,rfl,_,_,rfl,rfl,_,rfl,fI (λc1=>?c1t) (λc1=>bJ ?c1f)⟩
      case c1t=>
       refine⟨_,rfl,_,rfl,_,_,rfl,rfl,_,rfl,fI (λc2=>?c2t) (λc2=>bJ ?c2f)⟩
       case c2t=>
        refine⟨_,rfl,_,_,rfl,rfl,_,rfl,fI (λc3=>?c3t) (λc3=>?c3f)⟩
        case c3t=>
         refine⟨_,rfl,.inl ⟨W,_,0,.int wr.a,rfl,rfl,bI.of ewr,rfl,xL,λp hp=>⟨p,3,_,rfl,rfl,ai,by decide,by decide,by show 3<=Nv;decide,λp2 hp2=>?_⟩⟩⟩;have gi4:=(gi4.same (ae.new (o:=.lst [.int wr.a]) hp)).same (ae.new (o:=.lst (Np (3:Int).toNat [V.int wr.a]).flatten) hp2);have ewr2:upd (upd H8 p (.lst [.int wr.a])) p2 (.lst (Np (3:Int).toNat [V.int wr.a]).flatten) p2=some (.lst (R3.mk wr.a wr.a wr.a).vs):=ai;generalize upd (upd H8 p (.lst [.int wr.a])) p2 (.lst (Np (3:Int).toNat [V.int wr.a]).flatten)=H9 at gi4 ewr2 ⊢;obtain⟨wv,ewv⟩:∃ wv,wv=V.ref p2:=⟨_,rfl⟩
         rw[<- ewv];exact rest2 wv H9 ⟨p2,_,ewv,gi4,ewr2,up.a,up.a,up.a⟩
        case c3f=>exact rest2 (.ref W) H8 ⟨W,wr,rfl,gi4,ewr,up⟩
       case c2f=>exact rest2 (.ref W) H8 ⟨W,wr,rfl,gi4,ewr,up⟩
      case c1f=>exact rest2 (.ref W) H8 ⟨W,wr,rfl,gi4,ewr,up⟩
     clear gi4 ewr up;rintro wv H8 ⟨W,wr,rfl,gi4,ewr,up⟩;refine⟨_,rfl,_,true,rfl,⟨_,bI.of ewr⟩,bW (es:=[.int (min 1000 wr.a),.int (min 1000 wr.b),.int (min 1000 wr.c)]) (K:=K) (b:=true) (bI.of ewr) (.cons (.int wr.a) (.cons (.int wr.b) (.cons (.int wr.c) .nil))) rfl (by show 3<=1000;decide) (λii dd ee u H9 hd he s9 hu RR kk S=>?_) (λzs H9 s9 hzs D9 hD9=>?_)⟩
     ·refine aZ (B:=S H9) ?_;rcases vx hd with ⟨rfl,rfl⟩|⟨rfl,rfl⟩|⟨rfl,rfl⟩<;>(cases hu;cases(Nb he);exact⟨_,rfl,_,_,rfl,by rw[CK];exact kk _ _ ⟨ae.refl _,.int _⟩⟩)
     ·have zz:=bT (ns:=[min 1000 wr.a,min 1000 wr.b,min 1000 wr.c]) hzs;subst zz;refine⟨D9,_,rfl,.inl ⟨bI.of ai,λl hl=>?_⟩⟩;have wtl:(R3.mk (min 1000 wr.a) (min 1000 wr.b) (min 1000 wr.c)).Wt:=by
       obtain⟨u1,u2,u3⟩:=up;exact⟨by show 0<=min 1000 wr.a;lia,by show min 1000 wr.a<=1000;lia,by show 0<=min 1000 wr.b;lia,by show min 1000 wr.b<=1000;lia,by show 0<=min 1000 wr.c;lia,by show min 1000 wr.c<=1000;lia⟩
      have gi5:=((gi4.same s9).same (ae.new (o:=.lst ([min 1000 wr.a,min 1000 wr.b,min 1000 wr.c].map V.int)) hD9)).same (ae.new (o:=.tup ([min 1000 wr.a,min 1000 wr.b,min 1000 wr.c].map V.int)) hl);have hlt:aw K (upd (upd H9 D9 (.lst ([min 1000 wr.a,min 1000 wr.b,min 1000 wr.c].map V.int))) l (.tup ([min 1000 wr.a,min 1000 wr.b,min 1000 wr.c].map V.int))) (wD ⟨min 1000 wr.a,min 1000 wr.b,min 1000 wr.c⟩) (.ref l):=aw.tupN hl (.cons (.int _) (.cons (.int _) (.cons (.int _) .nil)));generalize upd (upd H9 D9 (.lst ([min 1000 wr.a,min 1000 wr.b,min 1000 wr.c].map V.int))) l (.tup ([min 1000 wr.a,min 1000 wr.b,min 1000 wr.c].map V.int))=Ha at gi5 hlt ⊢;generalize R3.mk (min 1000 wr.a) (min 1000 wr.b) (min 1000 wr.c)=wf at wtl hlt;refine⟨_,rfl,_,rfl,_,rfl,_,rfl,sk,λkt hkt=>?_⟩;have ek:[V.int (0+(i:Int)),V.int (0+(j:Int)),V.int (0+(k:Int))]=(cY (i,j,k)).map kV:=by rw[UZ,UZ,UZ];rfl
      have gi6:=gi5.same (ae.new (o:=.tup [V.int (0+(i:Int)),V.int (0+(j:Int)),V.int (0+(k:Int))]) hkt);have hlt:=aw.same (ae.new (o:=.tup [V.int (0+(i:Int)),V.int (0+(j:Int)),V.int (0+(k:Int))]) hkt) hlt;have hkt':upd Ha kt (.tup [V.int (0+(i:Int)),V.int (0+(j:Int)),V.int (0+(k:Int))]) kt=some (.tup ((cY (i,j,k)).map kV)):=by rw[<- ek];exact ai
      generalize upd Ha kt (.tup [V.int (0+(i:Int)),V.int (0+(j:Int)),V.int (0+(k:Int))])=Hb at gi6 hlt hkt' ⊢;obtain⟨f,⟨vs,gd,gv⟩,gw⟩:=gi6.gr;have hlen:=BG.len gv;have fresh:((i,j,k):Kn)∉r9 n i++rS n i j++tU i j k:=λm=>by
       rcases Ou.mp m with m|m
       ·rcases Ou.mp m with m|m
        ·have:=(Fx.mp m).1;exact absurd this (N0 _)
        ·have:=(zO.mp m).2.1;exact absurd this (N0 _)
       ·have:=(zg.mp m).2.2;exact absurd this (N0 _)
      refine⟨d,_,rfl,El.t (k:=cY (i,j,k)) gd hkt' (by rw[uY hlen];exact bP (NP (Cc h7 hi hj (PV hk)) (by decide))),⟨_,_,rfl⟩,?_⟩;rw[Hg hlen fresh,wZ,<- PZ];have sdb:jq Hb (upd Hb d (.dT (me (r9 n i++rS n i j++tU i j k++[(i,j,k)]) (vs++[.ref l])))):=jq.put gd;refine⟨gi6.tw.sameD sdb,gi6.mv.trans λb o e nb=>?_,aw.sameD (jq.cut sdb) gi6.rs,λu=>if u=(i,j,k) then wf else f u,⟨_,ai,?_⟩,λu hu=>?_⟩
      ·rw[az (λz=>nb (by simp[z]))];exact e
      ·rw[Ot];refine(av.sameD sdb (show av K Hb _ _ from ?_)).snoc ?_
       ·have cg:(r9 n i++rS n i j++tU i j k).map (λu=>wD (if u=(i,j,k) then wf else f u))=(r9 n i++rS n i j++tU i j k).map (λu=>wD (f u)):=Vy λu hu=>by
         have nu:u≠(i,j,k):=λz=>fresh (z▸hu)
         rw[NS nu]
        rw[cg];exact gv
       ·show aw K _ (wD (if((i,j,k):Kn)=(i,j,k) then wf else f (i,j,k))) _;rw[NZ rfl];exact aw.sameD sdb hlt
      ·show(if u=(i,j,k) then wf else f u).Wt;rcases Ou.mp hu with hu|hu
       ·have nu:u≠(i,j,k):=λz=>fresh (z▸hu)
        rw[NS nu];exact gw u hu
       ·rw[NZ (Nm.mp hu)];exact wtl
    ·rintro σ H6 ⟨⟨oc,ow,rfl⟩,gi3⟩;refine⟨⟨_,_,_,rfl⟩,?_⟩;rw[qf,<- PZ];exact gi3
   ·rintro σ H5 ⟨⟨ob,oc,ow,rfl⟩,gi2⟩;refine⟨⟨_,_,_,_,rfl⟩,?_⟩;rw[qY];exact gi2
  ·rintro σ H4 ⟨⟨oa,ob,oc,ow,rfl⟩,gi1⟩;obtain⟨f,g1,g2⟩:=gi1.gr;refine⟨_,rfl,q d f H4 g1 (λu hu=>g2 u hu) gi1.tw (λb o e nb=>?_) hd⟩;refine gi1.mv b o (sd _ _ e) λz=>?_
   simp only[Nl,NH,OY] at z nb;rcases z with z|z|z
   ·exact nb (.inl z)
   ·exact nb (.inr z)
   ·rw[z,hd] at e;cases e
theorem wT:ay oR oR (ag l9):=dD
inductive lh (K:HD)(H:Hp)(v y s z:V):Int->Option Nat->Prop
 |n0 {o:Option Nat}:ia K H v y s z o->lh K H v y s z 0 o
 |n1 {o:Option Nat}:ia K H v y s z o->lh K H v y s z 1 o
 |w2 {o:Option Nat}:rQ K H v y o->lh K H v y s z 2 o
 |w3 {o:Option Nat}:rQ K H v y o->lh K H v y s z 3 o
 |f4 {i:Nat}:vU K H v y z i->lh K H v y s z 4 (some i)
inductive rX (K:HD)(vs:List V)(H:Hp)(Q:VK)(E:XK):Prop
 |mk (k:Int) (v y s z:V) (o:Option Nat) (_:vs=[.int k,v,y,s,z]) (_:lh K H v y s z k o) (_:(∀ i,o=some i->Rz K i H E)) (_:(o=none->∀ w H',ae H H'->Q w H'))
theorem sQ (T:c8 K mg w):df P w K mg base (cN P w) 10 "_law_did" oR [] (rX K):=by
  refine T.x2j.calX wT (bb:=λ_ _ _ _ _ H vs Q E hr h=>?_);obtain⟨k,v,y,st,z,o,rfl,ak,qz,q⟩:=h;refine⟨_,(cO.go (af (bg (aQ dh (ao 0) ac (bh _)) (ah (au (kE bQ rfl (mB T) (hr.mono (by decide)) rfl (aK (ao 1) (ao 2)) (fu (ao 3) (fu (ao 4) iW))))) aN)
   (af (bg (aQ dh (ao 0) ac (bh _)) (ah (au (kE bQ rfl (nr T) (hr.mono (by decide)) rfl (aK (ao 1) (ao 2)) (fu (ao 3) (fu (ao 4) iW))))) aN)
   (af (bg (aQ dh (ao 0) ac (bh _)) (ah (au (cP bQ rfl (jL T) (hr.mono (by decide)) rfl (aK (ao 1) (ao 2))))) aN)
   (ah (au (kL (aQ dh (ao 0) ac (bh _)) (cP bQ rfl (pH T) (hr.mono (by decide)) rfl (aK (ao 1) (ao 2))) (kE bQ rfl (qI T) (hr.mono (by decide)) rfl (aK (ao 1) (ao 2)) (fu (ao 4) iW))))))))),?_⟩
  cases ak with
  |n0 hn=>exact⟨_,rfl,_,_,rfl,rfl,true,rfl,aZ ⟨_,rfl,_,rfl,_,rfl,_,rfl,v,y,st,z,o,rfl,hn,λi hi=>(qz i hi).out (ae.refl _),λhn m F t w H1 _ _ _ s1 _=>q hn w H1 s1⟩⟩
  |n1 hn=>exact⟨_,rfl,_,_,rfl,rfl,false,rfl,bJ ⟨_,rfl,_,_,rfl,rfl,true,rfl,aZ ⟨_,rfl,_,rfl,_,rfl,_,rfl,v,y,st,z,o,rfl,hn,λi hi=>(qz i hi).out (ae.refl _),λhn w H1 s1=>q hn w H1 s1⟩⟩⟩
  |w2 hw=>exact⟨_,rfl,_,_,rfl,rfl,false,rfl,bJ ⟨_,rfl,_,_,rfl,rfl,false,rfl,bJ ⟨_,rfl,_,_,rfl,rfl,true,rfl,aZ ⟨_,rfl,_,rfl,v,y,o,rfl,hw,λi hi=>(qz i hi).out (ae.refl _),λhn D zs H1 s1 _=>q hn _ H1 s1⟩⟩⟩⟩
  |w3 hw=>exact⟨_,rfl,_,_,rfl,rfl,false,rfl,bJ ⟨_,rfl,_,_,rfl,rfl,false,rfl,bJ ⟨_,rfl,_,_,rfl,rfl,false,rfl,bJ ⟨_,rfl,_,_,rfl,rfl,true,rfl,aZ ⟨_,rfl,_,rfl,v,y,o,rfl,hw,λi hi=>(qz i hi).out (ae.refl _),λhn b H1 s1=>q hn _ H1 s1⟩⟩⟩⟩⟩
  |@f4 i hf=>exact⟨_,rfl,_,_,rfl,rfl,false,rfl,bJ ⟨_,rfl,_,_,rfl,rfl,false,rfl,bJ ⟨_,rfl,_,_,rfl,rfl,false,rfl,bJ ⟨_,rfl,_,_,rfl,rfl,false,rfl,bJ ⟨_,rfl,_,rfl,_,rfl,v,y,z,i,rfl,hf,(qz i rfl).out (ae.refl _)⟩⟩⟩⟩⟩
theorem fY:ay ["_law_kind","_law_grid_here","_law_goal","_law_steps","_law_heavy","_law_caught","e"] oR (ag jI):=dD
def Kw:Option Nat->Str
 |none=>"told"
 |some i=>jS.getD i ""
theorem C_ {K:HD}{H:Hp}{v y s z:V}{k:Int}{i:Nat}(h:lh K H v y s z k (some i)):jS[i]?=some (Kw (some i)):=by
 cases h with
 |n0 h=>cases h<;>rfl
 |n1 h=>cases h<;>rfl
 |w2 h=>cases h<;>rfl
 |w3 h=>cases h<;>rfl
 |f4 h=>cases h<;>rfl
inductive vf (K:HD)(vs:List V)(H:Hp)(Q:VK)(_:XK):Prop
 |mk (k:Int) (v y s z:V) (o:Option Nat) (_:vs=[.int k,v,y,s,z]) (_:lh K H v y s z k o) (_:∀ H',ae H H'->Q (.str (Kw o)) H')
theorem bU (T:c8 K mg w):df P w K mg base (cN P w) 11 "_law_told" oR [] (vf K):=by
  refine T.x2k.cal fY (bb:=λ_ _ _ _ _ H vs Q E hr h=>?_);obtain⟨k,v,y,st,z,o,rfl,ak,q⟩:=h;refine⟨_,(cO.go (af (aA 5 fY.nd dF)
   (af (FN (K:=K) (i:=6) rfl fY.nd rfl rfl rfl rfl rfl rfl (λ_ _ W hT=>(ah (bo (cP hT rfl (sQ T) (hr.mono (by decide)) rfl (aa (ao 0) (aa (ao 1) (aa (ao 2) (aa (ao 3) (aa (ao 4) aB))))))))) (λ_=>(ah (aA 5 fY.nd (ao 6)))))
   (ah (au (kL (aQ Cd (ao 5) dF (bh _)) bB (aj aE (pe T) hr (aH (ao 5))))))))),?_⟩
  refine⟨_,rfl,_,rfl,_,rfl,_,rfl,_,rfl,k,v,y,st,z,o,rfl,ak,λi hi=>?_,λhn w H1 s1=>?_⟩
  ·subst hi;have hw:=C_ ak;refine Rz.caught T.x1 λC H1 ee hk s1 he=>?_
   refine⟨_,rfl,_,rfl,rfl,_,rfl,?_⟩;refine bJ ⟨_,rfl,.ref ee,i,_,rfl,⟨ee,C,rfl,hk,ai⟩,hw,λH2 s2=>?_⟩;exact q _ ((s1.trans (ae.new he)).trans s2)
  ·subst hn;exact⟨_,rfl,rfl,_,rfl,aZ (q _ s1)⟩
theorem fB:ay ["_law_script","_law_town_here","_law_grid_here","_law_goal","_law_turn","_law_thing","_law_odd","_law_steps","_law_heavy","_law_kind","_law_found"] uA4 (ag mr):=dD
structure FQ (K:HD)(f:Kn->R3)(t r g:Nn)(e:Q3)(y:V)(H:Hp):Prop where
 tw:cE H t r
 gi:g_ K H 2 f (.ref g)
 go:aw K H e.col y
 t4:yS K "parts_by_four" H
 tr:yS K "rising" H
theorem FQ.same {K:HD}{f:Kn->R3}{t r g:Nn}{e:Q3}{y:V}{H H':Hp}(h:FQ K f t r g e y H)(s:ae H H'):FQ K f t r g e y H':=⟨h.tw.same s,h.gi.same s,aw.same s h.go,h.t4.same s,h.tr.same s⟩
theorem FQ.mv {K:HD}{f:Kn->R3}{t r g:Nn}{e:Q3}{y:V}{H H':Hp}(h:FQ K f t r g e y H)(m:Mv [t,r] H H')(tw:cE H' t r):FQ K f t r g e y H':=⟨tw,h.gi.mv m h.tw.lists,aw.mv m h.tw.lists rfl h.go,h.t4.mv m h.tw.lists,h.tr.mv m h.tw.lists⟩
theorem E3 {K:HD}{H:Hp}{e:Q3}{y:V}(h:aw K H e.col y):∃ ga x0 x1 x2,y=.ref ga/\H ga=some (.tup [x0,x1,x2])/\aw K H (rD e.a) x0/\aw K H (rD e.b) x1/\aw K H (rD e.c) x2:=by
 cases h with
 |tup k q=>
  obtain⟨x0,x1,x2,rfl,g0,g1,g2⟩:=cV q;exact⟨_,x0,x1,x2,rfl,k,g0,g1,g2⟩
theorem IA {K:HD}{H:Hp}{v y s z:V}{o:Option Nat}{j:Nat}(hn:ia K H v y s z o)(hw:rQ K H v y o)(h:j<4):lh K H v y s z (0+(j:Int)) o:=by
 match j,h with
 |0,_=>exact .n0 hn
 |1,_=>exact .n1 hn
 |2,_=>exact .w2 hw
 |3,_=>exact .w3 hw
theorem G' {K:HD}{H:Hp}{v y s z:V}{o:Option Nat}{j:Nat}(hn:ia K H v y s z o)(h:j<2):lh K H v y s z (0+(j:Int)) o:=by
 match j,h with
 |0,_=>exact .n0 hn
 |1,_=>exact .n1 hn
theorem Hy (T:c8 K mg w){f:Nn}{fd:OK}(F:Kq K "law" "law" mr f fd):gt P w K mg base (cN P w) 12 f fd uA4 (qx ["parts_by_four","rising"] K):=by
 refine Kq.okX F fB (λvs H Q E h=>?_) (λcdv A outer s H vs Q E hr h=>?_)
 ·obtain⟨a,ns,rfl,_⟩:=h;rfl
 ·obtain⟨a,ns,rfl,hS,hl,hT,q⟩:=h;refine⟨_,(cO.go (af (aA 1 fB.nd (aj aE (t_ T) hr (aH (ao 0))))
   (af (aA 2 fB.nd (FI (K:=K) rfl aE (lI T) (hr.mono (by decide)) rfl (aK ac (aj aE (ve T) hr (aK (ao 1) ac)))))
   (af (aA 3 fB.nd (aj aE (r_ T) hr (aK (ao 1) ac)))
   (af (dn Ow rfl (b8 rfl T.x4 (aH ac)) (am 4 fB.nd) (af (aA 5 fB.nd (aj aE (c5 T) hr (aK (ao 1) (aV (aa dF (aa ac (aa t5 (aa bB (aa (aX (aK ac t5)) aB)))))))))
   (af (aA 6 fB.nd (aj aE (c5 T) hr (aK (ao 1) (aV (aa dF (aa ac (aa (eQ (JQ (K:=K) rfl) (ao 3) ge (gU ac)) (aa (bN (qV (K:=K) rfl) (by rfl) T.x8 i8 (aH (ao 3))) (aa (aX (aa ac (aa ac (aa ac aB)))) (aa (aX (aa (aI K (ao 3) ac) (aa (aI K (ao 3) ac) (aa (aj aE (lM T) hr (aH (ao 1))) aB)))) aB))))))))))
   (af (aA 7 fB.nd (aj aE (c5 T) hr (aK (ao 1) (aV (aa ac (aa ac (aa dk (aa dF (aa bB (aa (ar cT ac ac) aB))))))))))
   (af (aA 8 fB.nd (aj aE (c5 T) hr (aK (ao 1) (aV (aa dF (aa (aX (aK ac ac)) (aa (aV (aa ac (aa ac (aa ac aB)))) (aa (aX (aa ac (aa ac (aa ac aB)))) (aa (aX (aa ac (aa ac (aa ac aB)))) (aa (aX (aa ac (aa ac (aa dk aB)))) (aa ac aB)))))))))))
   (af (bg (aQ (zP (K:=K) rfl hr.units) (aR ["_law_kind"] ["_law_thing","_law_odd","_law_steps","_law_heavy"] [5,6,7,8] 1 (b8 rfl T.x4 (aH ac)) (λnd=>(am 0 nd)) aJ (aj aE (bU T) hr (aa (ao 0) (aa (ao 1) (aa (ao 2) (aa (ao 3) (aa (ao 4) aB))))))) (ar nJ (aV (aH bB)) ac) (bh _)) (ah (au dk)) aN)
   (af (bg (aQ (zP (K:=K) rfl hr.units) (aR ["_law_kind"] ["_law_grid_here","_law_odd","_law_steps","_law_heavy"] [2,6,7,8] 1 (b8 rfl T.x4 (aH ac)) (λnd=>(am 0 nd)) aJ (aj aE (bU T) hr (aa (ao 0) (aa (ao 1) (aa (ao 2) (aa (ao 3) (aa (ao 4) aB))))))) (ar nJ (aV (aH bB)) ac) (bh _)) (ah (au dk)) aN)
   (af (dn Ow rfl (b8 rfl T.x4 (aH ac)) (am 9 fB.nd) (af (aA 10 fB.nd (aV (aK (aj aE (bU T) hr (aa (ao 9) (aa (ao 2) (aa (ao 3) (aa (ao 7) (aa (ao 8) aB)))))) (aj aE (bU T) hr (aa (ao 9) (aa (ao 2) (aa (ao 3) (aa ac (aa (ao 8) aB)))))))))
   (ah (bg (aQ (zP (K:=K) rfl hr.units) (ar lS (ao 10) (aV (aH (aj aE (bU T) hr (aa (ao 9) (aa (ao 2) (aa (ao 3) (aa (ao 7) (aa (aX (aa ac (aa ac (aa ac aB)))) aB))))))))) (ar nJ (aV (aH bB)) ac) (bh _)) (ah (au dk)) aN))))
   (af (aA 10 fB.nd (aV (aa (aj aE (bU T) hr (aa ac (aa (ao 6) (aa (ao 3) (aa ac (aa (ao 8) aB)))))) (aa (aj aE (bU T) hr (aa ac (aa (ao 3) (aa (ao 6) (aa ac (aa (ao 8) aB)))))) (aa (aj aE (bU T) hr (aa ac (aa (ao 3) (aa (ao 3) (aa ac (aa (ao 8) aB)))))) aB)))))
   (ah (bg (aQ (zP (K:=K) rfl hr.units) (ao 10) (aV (aa bB (aa bB (aa bB aB)))) (bh _)) (ah (au dk)) aN)))))))))))
   (ah (au (fq (JU (K:=K) rfl hr.units) (aR ["_law_kind"] ["_law_grid_here","_law_goal"] [2,3] 1 (b8 rfl T.x4 (aH ac)) (λnd=>(am 0 nd)) aJ (aj aE (bU T) hr (aa (ao 0) (aa (ao 1) (aa (ao 2) (aa ac (aa (aX (aa ac (aa ac (aa ac aB)))) aB))))))) (ar nJ (aV (aH bB)) ac) (bh _))))))))),?_⟩
  have tb4:=hT "parts_by_four" (by simp);have tbr:=hT "rising" (by simp);refine⟨_,rfl,a,ns,rfl,hS,hl,λt r H0 s0 _ _ tw0=>?_⟩;replace tb4:=tb4.same s0;replace tbr:=tbr.same s0;clear hS hl s0 hT;refine⟨_,rfl,t,r,2,rfl,tw0,by decide,by decide,λd f H3 gp wt GN mv3 nd=>?_⟩;replace tb4:=tb4.mv mv3 tw0.lists;replace tbr:=tbr.mv mv3 tw0.lists;refine λC g dx hC hg hdx hne=>?_
  generalize e0:upd (upd H3 dx _) g _=H5;have s5:=Mq hg hdx hne e0;have gv:=lX e0;refine⟨g,C,dx,d,2,f,rfl,hC,gv,⟨_,.refl _,gp.same s5⟩,wt,by decide,by decide,λH6 Lt mv6 hg6 gL hL=>⟨rfl,?_⟩⟩;have s6:ae H3 H6:=λb o e=>mv6 _ _ (s5 _ _ e) (λz=>by rw[Nm.mp z,hg] at e;cases e)
  have gi:g_ K H6 2 f (.ref g):=⟨g,C,dx,Lt,rfl,hC,hg6,gL⟩
  have tw6:=GN.same s6;refine⟨_,rfl,t,r,1000,rfl,tw6,by decide,by decide,λy e H7 hy _ be tw7 mv7=>?_⟩;have Y:FQ K f t r g e y H7:=⟨tw7,gi.mv mv7 tw6.lists,hy,(tb4.same s6).mv mv7 tw6.lists,(tbr.same s6).mv mv7 tw6.lists⟩
  replace be:=be.mono (show 17<=250 by decide);clear mv6 hg6 gL hL s6 s5 gv hg hdx hne GN mv3 nd gp tb4 tbr gi tw6 hy tw7 mv7;refine⟨8,rfl,by decide,by decide,iO (lo:=0) (n:=8) (λi σ H'=>∃ v4 v5 v6 v7 v8 v9 v10:Option V,σ=[some (.ref a),some (.ref t),some (.ref g),some y,v4,v5,v6,v7,v8,v9,v10]/\FQ K f t r g e y H') ⟨_,_,_,_,_,_,_,rfl,Y⟩ ?_ ?_⟩
  ·rintro i σ H1 hi ⟨v4,v5,v6,v7,v8,v9,v10,rfl,Y⟩;obtain⟨ga,x0,x1,x2,rfl,gga,g0,g1,g2⟩:=E3 (aw.cutT Y.tw.lists rfl Y.go);obtain⟨tw,mm,L⟩:cE H1 t r/\Mv [t,r] H1 H1/\av K (cut [t,r] H1) [rD e.a,rD e.b,rD e.c] [x0,x1,x2]:=⟨Y.tw,Mv.refl,.cons g0 (.cons g1 (.cons g2 .nil))⟩
   clear g0 g1 g2;refine⟨_,rfl,λp1 h1=>?_⟩;obtain⟨tw,mm,L,k1,z1⟩:=sX tw mm L h1;replace gga:=z1 _ _ gga;generalize upd H1 p1 (.dK [])=G1 at tw mm L k1 z1 gga ⊢;clear z1 h1 k1;refine λp2 h2=>?_
   obtain⟨tw,mm,L,k2,z2⟩:=sX tw mm L h2;replace gga:=z2 _ _ gga;generalize upd G1 p2 (.dK [])=G2 at tw mm L k2 z2 gga ⊢;clear z2 h2 k2;refine⟨mV,λp3 h3=>?_⟩;obtain⟨tw,mm,L,k3,z3⟩:=fj tw mm L (.cons (.int 2) (.cons (L.at (i:=0) rfl rfl) .nil)) h3;replace gga:=z3 _ _ gga;generalize upd G2 p3 (.tup [.int 2,.ref p2])=G3 at tw mm L k3 z3 gga ⊢;clear z3 h3 k3;refine⟨(by show 5<=Nv;decide),λp4 h4=>?_⟩;obtain⟨tw,mm,L,k4,z4⟩:=iL tw mm L (.cons .non (.cons (.int 5) (.cons (L.at (i:=2) rfl rfl) (.cons (.str "grid") (.cons (L.at (i:=0) rfl rfl) .nil))))) h4;replace gga:=z4 _ _ gga;generalize upd G3 p4 (.lst [.non,.int 5,.ref p1,.str "grid",.ref p3])=G4 at tw mm L k4 z4 gga ⊢;clear z4 h4;obtain⟨k4a,k4b⟩:=jU k4;have W:av K (cut [t,r] G4) [.none,.int 5,.dict [],.str "grid",.tuple [.int 2,.dict []]] [.non,.int 5,.ref p1,.str "grid",.ref p3]:=.cons .non (.cons (.int 5) (.cons (L.at (i:=3) rfl rfl) (.cons (.str "grid") (.cons (L.at (i:=1) rfl rfl) .nil))));refine⟨t,r,p4,_,rfl,tw,k4a,λz=>k4b (by simp[z]),λz=>k4b (by simp[z]),by simp,by show 5<=1000;decide,λj th G5 hv tw mv=>?_⟩;obtain⟨td,_,kt⟩:=W.get hv;replace kt:=aw.same mv.cut kt;replace L:=av.same mv.cut L;replace gga:=mv.cut _ _ gga;replace mm:=mm.trans mv;replace L:av K (cut [t,r] G5) [rD e.a,rD e.b,rD e.c,td] [x0,x1,x2,th]:=.cons (L.at (i:=4) rfl rfl) (.cons (L.at (i:=5) rfl rfl) (.cons (L.at (i:=6) rfl rfl) (.cons kt .nil)));clear W k4 k4a k4b mv hv kt;refine⟨_,rfl,_,rfl,2,rfl,ga,_,rfl,cW.of (jU gga).1,(by show ¬ (HT.sIx 3 0 none=0/\HT.sIx 3 3 (some 2)=3);decide),λp1 h1=>?_⟩;rw[show qL [x0,x1,x2] none (some 2)=[x0,x1] from rfl];obtain⟨tw,mm,L,k1,z1⟩:=fj tw mm L (.cons (L.at (i:=0) rfl rfl) (.cons (L.at (i:=1) rfl rfl) .nil)) h1;replace gga:=z1 _ _ gga;generalize upd G5 p1 (.tup [x0,x1])=G6 at tw mm L k1 z1 gga ⊢;clear z1 h1 k1;refine⟨_,rfl,ga,_,rfl,.inr (cW.of (jU gga).1),λp2 h2=>?_⟩;obtain⟨tw,mm,L,k2,z2⟩:=iL tw mm L (.cons (L.at (i:=1) rfl rfl) (.cons (L.at (i:=2) rfl rfl) (.cons (L.at (i:=3) rfl rfl) .nil))) h2;replace gga:=z2 _ _ gga;generalize upd G6 p2 (.lst [x0,x1,x2])=G7 at tw mm L k2 z2 gga ⊢;clear z2 h2 k2;refine⟨sk,λp3 h3=>?_⟩;obtain⟨tw,mm,L,k3,z3⟩:=fj tw mm L (.cons (.int 0) (.cons (.int 1) (.cons (.int 2) .nil))) h3;replace gga:=z3 _ _ gga;generalize upd G7 p3 (.tup [.int 0,.int 1,.int 2])=G8 at tw mm L k3 z3 gga ⊢;clear z3 h3 k3;refine⟨_,rfl,rV (b:=false) (i:=0) (cW.of (jU gga).1) rfl ⟨_,rfl,rV (b:=false) (i:=1) (cW.of (jU gga).1) rfl ⟨_,rfl,t,r,rfl,tw,λov od G9 _ ko so tw mv=>?_⟩⟩⟩;replace L:=av.same mv.cut L;replace gga:=mv.cut _ _ gga;replace mm:=mm.trans mv;clear mv;replace L:=av.cons ko L;refine⟨sk,λp4 h4=>?_⟩;obtain⟨tw,mm,L,k4,z4⟩:=fj tw mm L (.cons (L.at (i:=4) rfl rfl) (.cons (L.at (i:=5) rfl rfl) (.cons (L.at (i:=0) rfl rfl) .nil))) h4;replace gga:=z4 _ _ gga;generalize upd G9 p4 (.tup [x0,x1,ov])=G10 at tw mm L k4 z4 gga ⊢;clear z4 h4 k4 ko;refine⟨(by show 6<=Nv;decide),λp5 h5=>?_⟩
   have W:av K (cut [t,r] G10) [.none,.int 5,.tuple [rD e.a,rD e.b],.list [rD e.a,rD e.b,rD e.c],.tuple [.int 0,.int 1,.int 2],.tuple [rD e.a,rD e.b,od]] [.non,.int 5,.ref p1,.ref p2,.ref p3,.ref p4]:=.cons .non (.cons (.int 5) (.cons (L.at (i:=4) rfl rfl) (.cons (L.at (i:=3) rfl rfl) (.cons (L.at (i:=2) rfl rfl) (.cons (L.at (i:=0) rfl rfl) .nil)))));obtain⟨tw,mm,L,k5,z5⟩:=iL tw mm L W h5;replace gga:=z5 _ _ gga;replace W:=av.same z5 W;generalize upd G10 p5 (.lst [.non,.int 5,.ref p1,.ref p2,.ref p3,.ref p4])=G11 at tw mm L k5 z5 gga W ⊢;clear z5 h5;obtain⟨k5a,k5b⟩:=jU k5;refine⟨t,r,p5,_,rfl,tw,k5a,λz=>k5b (by simp[z]),λz=>k5b (by simp[z]),by simp,by show 6<=1000;decide,λj2 vo G12 hv tw mv=>?_⟩;obtain⟨wd,hwd,kw⟩:=W.get hv;have nc:jw wd=false:=by
    match j2,hwd with
    |0,h=>cases h;rfl
    |1,h=>cases h;rfl
    |2,h=>cases h;exact wF (by show 2≠3;decide)
    |3,h=>cases h;rfl
    |4,h=>cases h;decide
    |5,h=>
     cases h;show(shB (rD e.a)&&(shB (rD e.b)&&(shB od&&true)))=false;rw[so];simp
    |j+6,h=>simp at h
   replace kw:=aw.same mv.cut kw;replace L:=av.same mv.cut L;replace mm:=mm.trans mv;replace L:av K (cut [t,r] G12) [td,wd] [th,vo]:=.cons (L.at (i:=9) rfl rfl) (.cons kw .nil);clear W k5 k5a k5b mv hv kw gga so hwd;refine⟨_,rfl,_,_,rfl,rfl,(by show 6<=Nv;decide),λp6 h6=>?_⟩;have W:av K (cut [t,r] G12) [.int 1,.int 8,.bool true,.none,.str "3",.int (0-1)] [.int 1,.int 8,.bl true,.non,.str "3",.int (0-1)]:=.cons (.int _) (.cons (.int _) (.cons (.bl _) (.cons .non (.cons (.str _) (.cons (.int _) .nil)))));obtain⟨tw,mm,L,k6,z6⟩:=iL tw mm L W h6;replace W:=av.same z6 W;generalize upd G12 p6 (.lst [.int 1,.int 8,.bl true,.non,.str "3",.int (0-1)])=G13 at tw mm L k6 z6 W ⊢;clear z6 h6;obtain⟨k6a,k6b⟩:=jU k6;refine⟨t,r,p6,_,rfl,tw,k6a,λz=>k6b (by simp[z]),λz=>k6b (by simp[z]),by simp,by show 6<=1000;decide,λj3 vs G14 hv tw mv=>?_⟩;obtain⟨sd,hsd,ks⟩:=W.get hv;have ns:rT 2 7 sd=false:=by
    match j3,hsd with
    |0,h=>cases h;rfl
    |1,h=>cases h;rfl
    |2,h=>cases h;rfl
    |3,h=>cases h;rfl
    |4,h=>cases h;rfl
    |5,h=>cases h;rfl
    |j+6,h=>simp at h
   replace ks:=aw.same mv.cut ks;replace L:=av.same mv.cut L;replace mm:=mm.trans mv;replace L:av K (cut [t,r] G14) [td,wd,sd] [th,vo,vs]:=.cons (L.at (i:=1) rfl rfl) (.cons (L.at (i:=2) rfl rfl) (.cons ks .nil));clear W k6 k6a k6b mv hv ks hsd;refine⟨_,rfl,mV,λp1 h1=>?_⟩;obtain⟨tw,mm,L,k1,z1⟩:=fj tw mm L (.cons (.int 1) (.cons (.int 1) .nil)) h1;generalize upd G14 p1 (.tup [.int 1,.int 1])=G15 at tw mm L k1 z1 ⊢;clear z1 h1 k1;refine⟨sk,λp2 h2=>?_⟩;obtain⟨tw,mm,L,k2,z2⟩:=iL tw mm L (.cons (.int 1) (.cons (.int 1) (.cons (.int 1) .nil))) h2;generalize upd G15 p2 (.lst [.int 1,.int 1,.int 1])=G16 at tw mm L k2 z2 ⊢;clear z2 h2 k2;refine⟨sk,λp3 h3=>?_⟩;obtain⟨tw,mm,L,k3,z3⟩:=fj tw mm L (.cons (.int 0) (.cons (.int 1) (.cons (.int 1) .nil))) h3;generalize upd G16 p3 (.tup [.int 0,.int 1,.int 1])=G17 at tw mm L k3 z3 ⊢;clear z3 h3 k3;refine⟨sk,λp4 h4=>?_⟩;obtain⟨tw,mm,L,k4,z4⟩:=fj tw mm L (.cons (.int 1) (.cons (.int 101) (.cons (.int 1) .nil))) h4;generalize upd G17 p4 (.tup [.int 1,.int 101,.int 1])=G18 at tw mm L k4 z4 ⊢;clear z4 h4 k4;refine⟨sk,λp5 h5=>?_⟩;obtain⟨tw,mm,L,k5,z5⟩:=fj tw mm L (.cons (.int 1) (.cons (.int 1) (.cons (.bl true) .nil))) h5;generalize upd G18 p5 (.tup [.int 1,.int 1,.bl true])=G19 at tw mm L k5 z5 ⊢;clear z5 h5 k5;refine⟨(by show 7<=Nv;decide),λp6 h6=>?_⟩;have W:av K (cut [t,r] G19) [.none,.tuple [.int 1,.int 1],.list [.int 1,.int 1,.int 1],.tuple [.int 0,.int 1,.int 1],.tuple [.int 1,.int 101,.int 1],.tuple [.int 1,.int 1,.bool true],.int 5] [.non,.ref p1,.ref p2,.ref p3,.ref p4,.ref p5,.int 5]:=.cons .non (.cons (L.at (i:=4) rfl rfl) (.cons (L.at (i:=3) rfl rfl) (.cons (L.at (i:=2) rfl rfl) (.cons (L.at (i:=1) rfl rfl) (.cons (L.at (i:=0) rfl rfl) (.cons (.int _) .nil))))));obtain⟨tw,mm,L,k6,z6⟩:=iL tw mm L W h6;replace W:=av.same z6 W;generalize upd G19 p6 (.lst [.non,.ref p1,.ref p2,.ref p3,.ref p4,.ref p5,.int 5])=G20 at tw mm L k6 z6 W ⊢;clear z6 h6;obtain⟨k6a,k6b⟩:=jU k6;refine⟨t,r,p6,_,rfl,tw,k6a,λz=>k6b (by simp[z]),λz=>k6b (by simp[z]),by simp,by show 7<=1000;decide,λj4 vh G21 hv tw mv=>?_⟩;obtain⟨hd,hhd,kh⟩:=W.get hv;have nh:xN 3 1 100 hd=false:=by
    match j4,hhd with
    |0,h=>cases h;rfl
    |1,h=>cases h;rfl
    |2,h=>cases h;rfl
    |3,h=>cases h;rfl
    |4,h=>cases h;rfl
    |5,h=>cases h;rfl
    |6,h=>cases h;rfl
    |j+7,h=>simp at h
   replace kh:=aw.uncut (aw.same mv.cut kh);replace L:=av.same mv.cut L;replace mm:=mm.trans mv;have kt:aw K G21 td th:=aw.uncut (L.at (i:=6) rfl rfl);have kw:aw K G21 wd vo:=aw.uncut (L.at (i:=7) rfl rfl);have ks:aw K G21 sd vs:=aw.uncut (L.at (i:=8) rfl rfl);replace Y:=Y.mv mm tw;clear W k6 k6a k6b mv hv hhd L tw mm;have cy:=qU e;refine⟨4,rfl,by decide,by decide,h_ (K:=K) (lo:=0) (n:=4) (ds:=Np 4 (.str "grid")) rfl (by decide) (λj d H2 he s2 R kk S=>?_) (λys H2 s2 hys E1 hE1=>?_)⟩
   ·have hj:j<4:=(Nt.mp he).1;have he:d=.str "grid":=(Tp.mp (NJ he)).2;subst he;exact aZ (B:=S H2) ⟨_,rfl,_,rfl,_,rfl,_,rfl,_,rfl,_,th,vo,vs,vh,some 5,rfl,IA (.grid (aw.same s2 kt).ty Dm) (.grid (aw.same s2 kt).ty Dm) hj,λH3 s3=>kk _ _ ⟨s3,.str _⟩⟩
   refine⟨xL,yW rfl (by decide) (by decide +kernel) (aw.listN hE1 hys) λH3 s3=>⟨_,rfl,bJ ?_⟩⟩;replace s3:=(s2.trans (ae.new hE1)).trans s3;clear s2 hE1 hys kt;replace Y:=Y.same s3;replace kw:=aw.same s3 kw;replace ks:=aw.same s3 ks;replace kh:=aw.same s3 kh;clear s3;refine⟨4,rfl,by decide,by decide,h_ (K:=K) (lo:=0) (n:=4) (ds:=Np 4 (.str "colour")) rfl (by decide) (λj d H4 he s4 R kk S=>?_) (λys H4 s4 hys E1 hE1=>?_)⟩
   ·have hj:j<4:=(Nt.mp he).1;have he:d=.str "colour":=(Tp.mp (NJ he)).2;subst he;exact aZ (B:=S H4) ⟨_,rfl,_,rfl,_,rfl,_,rfl,_,rfl,_,.ref g,vo,vs,vh,some 6,rfl,IA (.goal (Y.gi.same s4) (aw.same s4 kw) nc) (.goal (Y.gi.same s4) (aw.same s4 kw) nc) hj,λH5 s5=>kk _ _ ⟨s5,.str _⟩⟩
   refine⟨xL,yW rfl (by decide) (by decide +kernel) (aw.listN hE1 hys) λH5 s5=>⟨_,rfl,bJ ?_⟩⟩;replace s5:=(s4.trans (ae.new hE1)).trans s5;clear s4 hE1 hys;replace Y:=Y.same s5;replace kw:=aw.same s5 kw;replace ks:=aw.same s5 ks;replace kh:=aw.same s5 kh;clear s5;refine⟨2,rfl,by decide,by decide,iO (lo:=0) (n:=2) (λi' σ H'=>∃ u9 u10:Option V,σ=[some (.ref a),some (.ref t),some (.ref g),some (.ref ga),some (.int (0+(i:Int))),some th,some vo,some vs,some vh,u9,u10]/\FQ K f t r g e (.ref ga) H'/\aw K H' wd vo/\aw K H' sd vs/\aw K H' hd vh) ⟨_,_,rfl,Y,kw,ks,kh⟩ ?_ ?_⟩
   ·clear Y kw ks kh;rintro j σ H6 hj ⟨u9,u10,rfl,Y,kw,ks,kh⟩;refine⟨_,rfl,_,rfl,_,rfl,_,rfl,_,rfl,_,.ref g,.ref ga,vs,vh,some 0,rfl,G' (.lev Y.gi Y.go cy ks ns) hj,λH7 s7=>?_⟩;refine⟨_,rfl,_,rfl,_,rfl,_,rfl,_,.ref g,.ref ga,.int 2,vh,some 0,rfl,G' (.wt (Y.gi.same s7) (aw.same s7 Y.go) cy (.int 2) rfl (.inl (aw.same s7 kh)) nh) hj,λH8 s8=>?_⟩;refine⟨mV,λF hF=>?_⟩;generalize e0:upd H8 F _=H9;have s9:=iy hF e0;have gF:=lX e0;refine⟨_,rfl,_,rfl,_,rfl,_,rfl,_,rfl,sk,λT3 hT3=>?_⟩;generalize e0:upd H9 T3 _=H10;have s10:=iy hT3 e0;have sA:=((s7.trans s8).trans s9).trans s10;refine⟨_,.ref g,.ref ga,vs,.ref T3,some 0,rfl,G' (.lev (Y.gi.same sA) (aw.same sA Y.go) cy (aw.same sA ks) ns) hj,λH11 s11=>?_⟩;refine⟨xL,λX aE=>?_⟩;generalize e0:upd H11 X _=H12;have s12:=iy aE e0;have gX:=lX e0;refine⟨F,X,_,_,rfl,rfl,((s10.trans s11).trans s12) _ _ gF,gX,by show 3<=Nv;decide,λZ hZ=>?_⟩;refine⟨xL,yW (x:="number") (n:=3) rfl (by decide) (by decide +kernel) (aw.listN (ds:=[.str "number",.str "number",.str "number"]) hZ (.cons (.str _) (.cons (.str _) (.cons (.str _) .nil)))) λH13 s13=>⟨_,rfl,bJ ?_⟩⟩;have sB:=((sA.trans s11).trans s12).trans ((ae.new hZ).trans s13);exact⟨_,_,rfl,Y.same sB,aw.same sB kw,aw.same sB ks,aw.same sB kh⟩
   ·clear Y kw ks kh;rintro σ H6 ⟨u9,u10,rfl,Y,kw,ks,kh⟩;refine⟨_,rfl,_,rfl,_,rfl,4,vo,.ref ga,.int 0,vh,some 6,rfl,.f4 (.one kw nc),λH7 s7=>?_⟩;refine⟨_,rfl,_,rfl,_,rfl,4,.ref ga,vo,.int 0,vh,some 6,rfl,.f4 (.two (aw.same s7 Y.go) cy (aw.same s7 kw) nc),λH8 s8=>?_⟩;have s68:=s7.trans s8;refine⟨_,rfl,_,rfl,_,rfl,4,.ref ga,.ref ga,.int 0,vh,some 0,rfl,.f4 (.wt (aw.same s68 Y.go) cy (aw.same s68 Y.go) cy (.inl (aw.same s68 kh)) nh),λH9 s9=>?_⟩;refine⟨sk,λF hF=>?_⟩;generalize e0:upd H9 F _=H10;have s10:=iy hF e0;have gF:=lX e0;refine⟨_,rfl,sk,λX aE=>?_⟩;generalize e0:upd H10 X _=H11;have s11:=iy aE e0;have gX:=lX e0;refine⟨.list [.str "colour",.str "colour",.str "number"],.list [.str "colour",.str "colour",.str "number"],.lst (.inl (s11 _ _ gF)) (.cons (.str _) (.cons (.str _) (.cons (.str _) .nil))),.lst (.inl gX) (.cons (.str _) (.cons (.str _) (.cons (.str _) .nil))),by decide +kernel,by decide +kernel,_,rfl,?_⟩;rw[show SL (.list [.str "colour",.str "colour",.str "number"]) (.list [.str "colour",.str "colour",.str "number"])=true by decide +kernel];exact bJ ⟨_,_,_,_,_,_,_,rfl,Y.same ((s68.trans s9).trans (s10.trans s11))⟩
  ·rintro σ H1 ⟨v4,v5,v6,v7,v8,v9,v10,rfl,Y⟩;refine⟨4,rfl,by decide,by decide,h_ (K:=K) (lo:=0) (n:=4) (ds:=Np 4 (.str "told")) rfl (by decide) (λj d H2 he s2 R kk S=>?_) (λys H2 s2 hys E1 hE1=>?_)⟩
   ·have hj:j<4:=(Nt.mp he).1;have he:d=.str "told":=(Tp.mp (NJ he)).2;subst he;have Y2:=Y.same s2;refine aZ (B:=S H2) ⟨_,rfl,_,rfl,_,rfl,sk,λX aE=>?_⟩;generalize e0:upd H2 X _=H3;have s3:=iy aE e0;have gX:=lX e0;have Y3:=Y2.same s3;exact⟨_,.ref g,y,.int 2,.ref X,none,rfl,IA (.good (m:=2) (r:=⟨100,1,1⟩) Y3.gi wt (by decide) (by decide) Y3.go be rfl (by decide) (by decide) (.inl (.tup gX (.cons (.int _) (.cons (.int _) (.cons (.int _) .nil))))) ⟨by decide,by decide,by decide,by decide,by decide,by decide⟩ Y3.t4) (.good Y3.gi wt (by decide) (by decide) Y3.go be Y3.tr) hj,λH4 s4=>kk _ _ ⟨s3.trans s4,.str _⟩⟩
   ·exact⟨xL,I9 rfl (by decide) (by decide +kernel) (aw.listN hE1 hys) λH6 s6=>q _⟩
end
structure LL (K:HD):Prop where
 xy:Nw K Nk "ValueError"=some none
 xh:Nw K Nk "abs"=some none
 x7:Nw K Nk "all"=some none
 xz:Nw K Nk "any"=some none
 x10:Nw K Nk "bool"=some none
 xi:Nw K Nk "dict"=some none
 x11:Nw K Nk "int"=some none
 x0:Nw K Nk "isinstance"=some none
 x6:Nw K Nk "len"=some none
 x8:Nw K Nk "list"=some none
 xj:Nw K Nk "max"=some none
 xd:Nw K Nk "min"=some none
 x4:Nw K Nk "range"=some none
 xk:Nw K Nk "sorted"=some none
 x12:Nw K Nk "str"=some none
 xb:Nw K Nk "sum"=some none
 x3:Nw K Nk "tuple"=some none
 x5:Nw K Nk "zip"=some none
structure MI (K:HD):Prop where
 xs:∃ t,Nw K Nk "FEWEST_KNOTS"=some (some (.int 2 t))
 xt:∃ t,Nw K Nk "FEWEST_LEVELS"=some (some (.int 2 t))
 xe:∃ t,Nw K Nk "GREATEST_WEIGHT"=some (some (.int 100 t))
 xu:∃ t,Nw K Nk "GREATEST_grids"=some (some (.int 1000 t))
 xf:∃ t,Nw K Nk "GREATEST_squares"=some (some (.int 4000 t))
 xg:∃ t,Nw K Nk "LEAST_WEIGHT"=some (some (.int 1 t))
 xv:∃ t,Nw K Nk "MOST_KNOTS"=some (some (.int 7 t))
 xw:∃ t,Nw K Nk "MOST_LEVELS"=some (some (.int 7 t))
 xc:∃ t,Nw K Nk "REACH"=some (some (.int 60 t))
structure Me (K:HD):Prop where
 x2:lq K "Grid" ["knots","table"]=true
 xx:MD K "Grid"=true
 x1:Bx K=true
structure RawD (K:HD):Prop where
 x13:AtD K "is_whole" lD
 x14:AtD K "is_whole_within" dY
 xl:AtD K "is_tuple_within" eC
 x15:AtD K "greatest_measure" dJ
 x16:AtD K "is_share" lB
 x17:AtD K "refuse_no_share" eD
 x18:AtD K "added" vj
 x19:AtD K "multiplied" iS
 x1a:AtD K "floor_of" lF
 x1b:AtD K "is_less" ng
 x1c:AtD K "is_within" jz
 x1d:AtD K "over_one_below" eT
 xm:AtD K "is_colour" jQ
 x1e:AtD K "is_row" rf
 x1f:AtD K "is_square" j8
 x1g:AtD K "refuse_no_square" dQ
 xn:AtD K "refuse_no_colour" dM
 x1h:AtD K "crossed" nv
 xo:AtD K "whole_sum" jP
 x1i:AtD K "volume" qj
 x1j:AtD K "is_knots" lK
 x1k:AtD K "is_knot" nY
 x1l:AtD K "is_worth" lA
 x1m:AtD K "apart" ud
 x1n:AtD K "is_table" lH
 x1o:AtD K "refuse_no_device_colour" cu
 x1p:AtD K "places_below" gT
 x1q:AtD K "moved" uO
 x1r:AtD K "parts_by_eight" eM
 x1s:AtD K "is_way" qP
 x1x:AtD K "parts_of" lR
 x1y:AtD K "refuse_no_grid" eW
 xp:AtD K "is_weights" jh
 xq:AtD K "refuse_no_weights" dE
 x1z:AtD K "refuse_no_levels" dP
 x20:AtD K "colours_of" ji
 x22:AtD K "worths_along" gg
 x23:AtD K "differences" iw
 x24:AtD K "distances" jF
 x25:AtD K "is_in_part" i9
 x26:AtD K "colour_at" jC
 x27:AtD K "way_in_part" ip
 x28:AtD K "ways_back" jA
 x29:AtD K "is_reached" iY
 x2a:AtD K "_law_town" jN
 x2b:AtD K "_law_draw" jZ
 x2c:AtD K "_law_pick" j6
 x2d:AtD K "_law_refusal" gh
 x2e:AtD K "_law_low" lZ
 x2f:AtD K "_law_share" jc
 x2g:AtD K "_law_three" i7
 x2h:AtD K "_law_odd_shares" eh
 x2i:AtD K "_law_grid" jE
 x2j:AtD K "_law_did" l9
 x2k:AtD K "_law_told" jI
structure L7 (K:HD):Prop where
 x1t:AtM K "Grid" "__init__" "Grid.__init__" ef
 x1u:AtM K "Grid" "knot" "Grid.knot" il
 x1v:AtM K "Grid" "size" "Grid.size" iq
 x1w:AtM K "Grid" "mixed" "Grid.mixed" gB
set_option autoImplicit true in
set_option relaxedAutoImplicit true in
theorem all_mk {l:U6}{w:N6}{K:HD}{h:OZ}{mg:Str->Option Nd}{fa:Nn}{tA:List Nn} (X:K.In h) (G:h.Ns Nk mg) (hfa:mg "law"=some (.ref fa))
  (RN:LL K)
  (RG:MI K)
  (RB:Me K)
  (RD:RawD K)
  (RM:L7 K)
  (nC:Nw K Nk "Grid"=some (some (.ref IL)))
  (pS:Nw K Nk "share"=some (some (.ref zq)))
  (pU:K.lookup zq=some ⟨K5,KN,.func (NF "share" "share" (aO fX) (aL fX) (ag fX) (.ref F4) Kv J_ Kk Lq Ck Lp),K7⟩)
  (pQ:NU K Ck "share"=true)
  (pX:NM K (.ref zq)=true)
  (pZ:K.lookup F4=some ED)
  (pM:ED.data=.seq #[.int 1 C0] LI)
  (bR:Nw K Nk "parts_by_four"=some (some (.ref fE)))
  (dG:K.lookup fE=some ⟨Aw,Be,.func (NF "parts_by_four" "parts_by_four" (aO cx) (aL cx) (ag cx) .none Bu Az Bh Bn (.ref eZ) Bb),A1⟩)
  (fL:NU K (.ref eZ) "parts_by_four"=true)
  (fH:NM K (.ref fE)=true)
  (du:K.lookup eZ=some ⟨.type "code",z_,.fields ou,Al⟩)
  (dy:zS ou eZ cU)
  (eN:K.lookup cU=none)
  (eR:cU∈tA)
  (eg:NV K (.ref IL) "worth"=some (some (.ref gY)))
  (eA:K.lookup gY=some ⟨B4,B6,.func (NF "worth" "Grid.worth" (aO b_) (aL b_) (ag b_) .none (.ref o9) B3 B7 B5 pB B1),B8⟩)
  (eE:NU K pB "Grid.worth"=true)
  (dW:NM K (.ref gY)=true)
  (eB:Qw K (.ref gY)=true)
  (fK:K.lookup o9=some ⟨.type "dict",none,.dict #[⟨A9,.str "way" AC,.str "four" og⟩] AR,#[]⟩)
  (jJ:Nw K Nk "far_apart"=some (some (.ref oB)))
  (jK:K.lookup oB=some ⟨FG,F_,.func (NF "far_apart" "far_apart" (aO dS) (aL dS) (ag dS) .none Go Gy Fl F9 vi F5),FV⟩)
  (jT:NU K vi "far_apart"=true)
  (jH:NM K (.ref oB)=true)
  (nR:Nw K Nk "nearest"=some (some (.ref t7)))
  (mW:K.lookup t7=some ⟨HN,IC,.func (NF "nearest" "nearest" (aO f6) (aL f6) (ag f6) .none Ie Ho Ia Jh yY Iy),GZ⟩)
  (nU:NU K yY "nearest"=true)
  (nN:NM K (.ref t7)=true)
  (ix:Nw K Nk "shown_worth"=some (some (.ref lm)))
  (im:K.lookup lm=some ⟨B_,Df,.func (NF "shown_worth" "shown_worth" (aO c7) (aL c7) (ag c7) .none ER DU Cr Dq qi EV),Dy⟩)
  (ij:NU K qi "shown_worth"=true)
  (iu:NM K (.ref lm)=true)
  (iF:Nw K Nk "rising"=some (some (.ref vQ)))
  (mI:K.lookup vQ=some ⟨JJ,JH,.func (NF "rising" "rising" (aO iR) (aL iR) (ag iR) .none JK JM JI JL (.ref oh) JD),JE⟩)
  (rJ:NU K (.ref oh) "rising"=true)
  (rM:NM K (.ref vQ)=true)
  (kq:K.lookup oh=some ⟨.type "code",Hr,.fields Bm,Hc⟩)
  (kK:zS Bm oh iP)
  (nK:K.lookup iP=none)
  (nj:iP∈tA)
  (a_law:Nw K Nk "law"=some (some (.ref f_law)))
  (l_law:K.lookup f_law=some ⟨MB,Mx,.func (NF "law" "law" (aO mr) (aL mr) (ag mr) .none Hf IX Jb Jt Ek Ju),L4⟩)
  (c_law:NU K Ek "law"=true)
  (k_law:NM K (.ref f_law)=true)
  (eY:Nw K Nk "parts_by_eight"=some (some (.ref nV)))
  (uA:Nw K Nk "WAYS"=some (some (.ref xO)))
  (ux:K.lookup xO=some ⟨.type "dict",none,.dict vp FE,#[]⟩)
  (uN:W3 w.params vp.toList)
  (vn:Tt (λ(e:O2) (p:Str×Nn)=>∃ t,e.key=.str p.1 t/\e.val=.ref p.2) vp.toList [("four",fE),("eight",nV)])
  (u6:(xO==OB)=false)
  (z_k_ORDERS:Nw K Nk "ORDERS"=some (some (.ref TA_ORDERS)))
  (nI:K.lookup TA_ORDERS=some oTA_ORDERS)
  (m9:oTA_ORDERS.cls=.type "tuple"/\oTA_ORDERS.data=.seq iTA_ORDERS nTA_ORDERS/\iTA_ORDERS.size<=Nv/\aM [.ref TA_ORDERS_0,.ref TA_ORDERS_1,.ref TA_ORDERS_2,.ref TA_ORDERS_3,.ref TA_ORDERS_4,.ref TA_ORDERS_5] iTA_ORDERS.toList)
  (kt_ORDERS_0:K.lookup TA_ORDERS_0=some oTA_ORDERS_0)
  (ku_ORDERS_0:oTA_ORDERS_0.cls=.type "tuple"/\oTA_ORDERS_0.data=.seq iTA_ORDERS_0 nTA_ORDERS_0/\iTA_ORDERS_0.size<=Nv/\aM ([0,1,2].map V.int) iTA_ORDERS_0.toList)
  (kt_ORDERS_1:K.lookup TA_ORDERS_1=some oTA_ORDERS_1)
  (ku_ORDERS_1:oTA_ORDERS_1.cls=.type "tuple"/\oTA_ORDERS_1.data=.seq iTA_ORDERS_1 nTA_ORDERS_1/\iTA_ORDERS_1.size<=Nv/\aM ([0,2,1].map V.int) iTA_ORDERS_1.toList)
  (kt_ORDERS_2:K.lookup TA_ORDERS_2=some oTA_ORDERS_2)
  (ku_ORDERS_2:oTA_ORDERS_2.cls=.type "tuple"/\oTA_ORDERS_2.data=.seq iTA_ORDERS_2 nTA_ORDERS_2/\iTA_ORDERS_2.size<=Nv/\aM ([1,0,2].map V.int) iTA_ORDERS_2.toList)
  (kt_ORDERS_3:K.lookup TA_ORDERS_3=some oTA_ORDERS_3)
  (ku_ORDERS_3:oTA_ORDERS_3.cls=.type "tuple"/\oTA_ORDERS_3.data=.seq iTA_ORDERS_3 nTA_ORDERS_3/\iTA_ORDERS_3.size<=Nv/\aM ([1,2,0].map V.int) iTA_ORDERS_3.toList)
  (kt_ORDERS_4:K.lookup TA_ORDERS_4=some oTA_ORDERS_4)
  (ku_ORDERS_4:oTA_ORDERS_4.cls=.type "tuple"/\oTA_ORDERS_4.data=.seq iTA_ORDERS_4 nTA_ORDERS_4/\iTA_ORDERS_4.size<=Nv/\aM ([2,0,1].map V.int) iTA_ORDERS_4.toList)
  (kt_ORDERS_5:K.lookup TA_ORDERS_5=some oTA_ORDERS_5)
  (ku_ORDERS_5:oTA_ORDERS_5.cls=.type "tuple"/\oTA_ORDERS_5.data=.seq iTA_ORDERS_5 nTA_ORDERS_5/\iTA_ORDERS_5.size<=Nv/\aM ([2,1,0].map V.int) iTA_ORDERS_5.toList)
  (z_k_STEPS:Nw K Nk "STEPS"=some (some (.ref TA_STEPS)))
  (rh:K.lookup TA_STEPS=some oTA_STEPS)
  (qA:oTA_STEPS.cls=.type "tuple"/\oTA_STEPS.data=.seq iTA_STEPS nTA_STEPS/\iTA_STEPS.size<=Nv/\aM [.ref TA_STEPS_0,.ref TA_STEPS_1,.ref TA_STEPS_2] iTA_STEPS.toList)
  (kt_STEPS_0:K.lookup TA_STEPS_0=some oTA_STEPS_0)
  (ku_STEPS_0:oTA_STEPS_0.cls=.type "tuple"/\oTA_STEPS_0.data=.seq iTA_STEPS_0 nTA_STEPS_0/\iTA_STEPS_0.size<=Nv/\aM ([1,0,0].map V.int) iTA_STEPS_0.toList)
  (kt_STEPS_1:K.lookup TA_STEPS_1=some oTA_STEPS_1)
  (ku_STEPS_1:oTA_STEPS_1.cls=.type "tuple"/\oTA_STEPS_1.data=.seq iTA_STEPS_1 nTA_STEPS_1/\iTA_STEPS_1.size<=Nv/\aM ([0,1,0].map V.int) iTA_STEPS_1.toList)
  (kt_STEPS_2:K.lookup TA_STEPS_2=some oTA_STEPS_2)
  (ku_STEPS_2:oTA_STEPS_2.cls=.type "tuple"/\oTA_STEPS_2.data=.seq iTA_STEPS_2 nTA_STEPS_2/\iTA_STEPS_2.size<=Nv/\aM ([0,0,1].map V.int) iTA_STEPS_2.toList)
  (nd_:[cU,iP].Nodup)
  : ∃ (ts:List (Str×Nn)) (fd:OK),uu K tA ts/\(∀ (s:Nh) (v:Nd),Vu s fd ⟨[v],[]⟩ [("_law_script",v)])/\∀ base:OZ,K.In base->base.Ns Nk mg->gt l.prog w K mg base (cN l.prog w) 12 fa fd uA4 (qx (ts.map (·.1)) K):=by
 have tabs:uu K tA [("parts_by_four",cU),("rising",iP)]:=⟨nd_,λp m=>by
  simp only[Nl,NH,OY] at m;rcases m with rfl|rfl
  ·exact⟨eR,eN,Dp du dy,CZ bR dG rfl rfl du dy⟩
  ·exact⟨nj,nK,Dp kq kK,CZ iF mI rfl rfl kq kK⟩⟩
 refine⟨[("parts_by_four",cU),("rising",iP)],NF "law" "law" (aO mr) (aL mr) (ag mr) .none Hf IX Jb Jt Ek Ju,tabs,λs v=>.of_eq rfl,?_⟩;show ∀ base:OZ,K.In base->base.Ns Nk mg->gt l.prog w K mg base (cN l.prog w) 12 fa _ uA4 (qx ["parts_by_four","rising"] K);have e:=hfa.symm.trans (N1 X G a_law);cases e;have FR:de K mg "share" fX uA6 []:=zN (ds:=[]) pU pQ pX (N1 X G pS) pZ pM .nil λus hl=>match us,hl with|[_,_],_=>⟨_,rfl,rfl⟩
 have D_share_d:de K mg "share" fX uA6 [.int 1]:=zN (ds:=[.int 1 C0]) pU pQ pX (N1 X G pS) pZ pM (.cons ⟨_,rfl⟩ (.nil)) λus hl=>match us,(show us.length=1 by simpa using hl) with|[_],_=>⟨_,rfl,rfl⟩
 have ph:A8 K mg "parts_by_four" cx uB1:=⟨yl dG fL fH (N1 X G bR) λus hl=>match us,hl with|[_,_],_=>rfl,_,bR,N1 X G bR⟩
 have mn:qS K mg "Grid" "worth" "Grid.worth" b_ uA9 [] 2 0 [.str "four"]:=Bw (t:=og) eA eE dW eB nC eg RB.x2 (N1 X G nC) fK λus ws h1 h2=>match us,h1,ws,h2 with|[_,_],_,[],_=>⟨_,_,rfl,rfl⟩
 have CV:qS K mg "Grid" "worth" "Grid.worth" b_ uA9 ["way"] 2 1 []:=Er eA eE dW eB nC eg RB.x2 (N1 X G nC) λus ws h1 h2=>match us,h1,ws,h2 with|[_,_],_,[_],_=>rfl
 have xF:rL K mg "far_apart" dS uA5 ["weights"] 2 1 []:=uS jK jT jH (N1 X G jJ) λus ws h1 h2=>match us,h1,ws,h2 with|[_,_],_,[_],_=>rfl
 have AH:rL K mg "nearest" f6 uA0 uA7 2 2 []:=uS mW nU nN (N1 X G nR) λus ws h1 h2=>match us,h1,ws,h2 with|[_,_],_,[_,_],_=>rfl
 have rZ:rL K mg "shown_worth" c7 uA0 uA7 2 2 []:=uS im ij iu (N1 X G ix) λus ws h1 h2=>match us,h1,ws,h2 with|[_,_],_,[_,_],_=>rfl
 have Ej:A8 K mg "rising" iR ["colours"]:=⟨yl mI rJ rM (N1 X G iF) λus hl=>match us,hl with|[_],_=>rfl,_,iF,N1 X G iF⟩
 have T:c8 K mg w:=⟨RB.x2,⟨xO,N1 X G uA,⟨vp,FE,ux,uN,vM vn (.cons ⟨rfl,N1 X G bR⟩ (.cons ⟨rfl,N1 X G eY⟩ (.nil)))⟩,u6⟩,FC X G RG.xs,FC X G RG.xt,FC X G RG.xe,FC X G RG.xu,FC X G RG.xf,FC X G RG.xg,FC X G RG.xv,FC X G RG.xw,FC X G RG.xc,RB.xx,⟨_,N1 X G z_k_ORDERS,[TA_ORDERS_0,TA_ORDERS_1,TA_ORDERS_2,TA_ORDERS_3,TA_ORDERS_4,TA_ORDERS_5],j9 nI m9,.cons (j9 kt_ORDERS_0 ku_ORDERS_0) (.cons (j9 kt_ORDERS_1 ku_ORDERS_1) (.cons (j9 kt_ORDERS_2 ku_ORDERS_2) (.cons (j9 kt_ORDERS_3 ku_ORDERS_3) (.cons (j9 kt_ORDERS_4 ku_ORDERS_4) (.cons (j9 kt_ORDERS_5 ku_ORDERS_5) (.nil))))))⟩,⟨_,N1 X G z_k_STEPS,[TA_STEPS_0,TA_STEPS_1,TA_STEPS_2],j9 rh qA,.cons (j9 kt_STEPS_0 ku_STEPS_0) (.cons (j9 kt_STEPS_1 ku_STEPS_1) (.cons (j9 kt_STEPS_2 ku_STEPS_2) (.nil)))⟩,NW X G RN.xy,NW X G RN.xh,NW X G RN.x7,NW X G RN.xz,NW X G RN.x10,NW X G RN.xi,NW X G RN.x11,NW X G RN.x0,NW X G RN.x6,NW X G RN.x8,NW X G RN.xj,NW X G RN.xd,NW X G RN.x4,NW X G RN.xk,NW X G RN.x12,NW X G RN.xb,NW X G RN.x3,NW X G RN.x5,RB.x1,RD.x13.d1 X G λ_ _ _ _ _ _ _=>rfl,RD.x14.d3 X G λ_ _ _ _ _ _ _ _ _=>rfl,RD.xl.d4 X G λ_ _ _ _ _ _ _ _ _ _=>rfl,RD.x15.d2 X G λ_ _ _ _ _ _ _ _=>rfl,RD.x16.d1 X G λ_ _ _ _ _ _ _=>rfl,RD.x17.d1 X G λ_ _ _ _ _ _ _=>rfl,FR,D_share_d,RD.x18.d2 X G λ_ _ _ _ _ _ _ _=>rfl,RD.x19.d2 X G λ_ _ _ _ _ _ _ _=>rfl,RD.x1a.d1 X G λ_ _ _ _ _ _ _=>rfl,RD.x1b.d2 X G λ_ _ _ _ _ _ _ _=>rfl,RD.x1c.d3 X G λ_ _ _ _ _ _ _ _ _=>rfl,RD.x1d.d1 X G λ_ _ _ _ _ _ _=>rfl,RD.xm.d1 X G λ_ _ _ _ _ _ _=>rfl,RD.x1e.d1 X G λ_ _ _ _ _ _ _=>rfl,RD.x1f.d1 X G λ_ _ _ _ _ _ _=>rfl,RD.x1g.d1 X G λ_ _ _ _ _ _ _=>rfl,RD.xn.d1 X G λ_ _ _ _ _ _ _=>rfl,RD.x1h.d2 X G λ_ _ _ _ _ _ _ _=>rfl,RD.xo.d2 X G λ_ _ _ _ _ _ _ _=>rfl,RD.x1i.d1 X G λ_ _ _ _ _ _ _=>rfl,RD.x1j.d1 X G λ_ _ _ _ _ _ _=>rfl,RD.x1k.d2 X G λ_ _ _ _ _ _ _ _=>rfl,RD.x1l.d1 X G λ_ _ _ _ _ _ _=>rfl,RD.x1m.d1 X G λ_ _ _ _ _ _ _=>rfl,RD.x1n.d2 X G λ_ _ _ _ _ _ _ _=>rfl,RD.x1o.d1 X G λ_ _ _ _ _ _ _=>rfl,RD.x1p.d1 X G λ_ _ _ _ _ _ _=>rfl,RD.x1q.d2 X G λ_ _ _ _ _ _ _ _=>rfl,ph,RD.x1r.d2 X G λ_ _ _ _ _ _ _ _=>rfl,RD.x1s.d1 X G λ_ _ _ _ _ _ _=>rfl,RM.x1t.d3 X G RB.x2 λ_ _ _ _ _ _ _ _ _=>rfl,RM.x1u.d2 X G RB.x2 λ_ _ _ _ _ _ _ _=>rfl,RM.x1v.d1 X G RB.x2 λ_ _ _ _ _ _ _=>rfl,RM.x1w.d3 X G RB.x2 λ_ _ _ _ _ _ _ _ _=>rfl,RD.x1x.d1 X G λ_ _ _ _ _ _ _=>rfl,mn,RD.x1y.d1 X G λ_ _ _ _ _ _ _=>rfl,RD.xp.d1 X G λ_ _ _ _ _ _ _=>rfl,RD.xq.d1 X G λ_ _ _ _ _ _ _=>rfl,RD.x1z.d1 X G λ_ _ _ _ _ _ _=>rfl,RD.x20.d1 X G λ_ _ _ _ _ _ _=>rfl,xF,AH,rZ,RD.x22.d3 X G λ_ _ _ _ _ _ _ _ _=>rfl,RD.x23.d1 X G λ_ _ _ _ _ _ _=>rfl,RD.x24.d4 X G λ_ _ _ _ _ _ _ _ _ _=>rfl,RD.x25.d1 X G λ_ _ _ _ _ _ _=>rfl,RD.x26.d4 X G λ_ _ _ _ _ _ _ _ _ _=>rfl,RD.x27.d4 X G λ_ _ _ _ _ _ _ _ _ _=>rfl,Ej,RD.x28.d2 X G λ_ _ _ _ _ _ _ _=>rfl,RD.x29.d2 X G λ_ _ _ _ _ _ _ _=>rfl,RD.x2a.d1 X G λ_ _ _ _ _ _ _=>rfl,RD.x2b.d2 X G λ_ _ _ _ _ _ _ _=>rfl,RD.x2c.d2 X G λ_ _ _ _ _ _ _ _=>rfl,RD.x2d.d1 X G λ_ _ _ _ _ _ _=>rfl,RD.x2e.d2 X G λ_ _ _ _ _ _ _ _=>rfl,RD.x2f.d2 X G λ_ _ _ _ _ _ _ _=>rfl,RD.x2g.d2 X G λ_ _ _ _ _ _ _ _=>rfl,RD.x2h.d1 X G λ_ _ _ _ _ _ _=>rfl,RD.x2i.d2 X G λ_ _ _ _ _ _ _ _=>rfl,RD.x2j.d5 X G λ_ _ _ _ _ _ _ _ _ _ _=>rfl,RD.x2k.d5 X G λ_ _ _ _ _ _ _ _ _ _ _=>rfl⟩
 intro base _ _;exact Hy T (Jf (st:=mr) l_law c_law k_law)
theorem walk {l:U6}{qq:ND}{loose:List Str}{XP:(Str->Option Nd)->OZ->Prop}{YP:N6->OZ->Prop}{d:DefRec}{K:Params->HD} (hn:l.most=some 63) (hdf:d.params.defaults=[])
  {tA:List Nn}(hY:∀ (w:N6) (h:OZ),YP w h->(K w.params).In h)(hY2:∀ (w:N6) (h:OZ),YP w h->∀ P∈tA,h.get? P=some { cls:=.none,data:=.fields #[] })
  (F:∀ (w:N6) (mg:Str->Option Nd) (fa:Nn) (h:OZ),(K w.params).In h->h.Ns Nk mg->mg d.name=some (.ref fa) ->
   ∃ (ts:List (Str×Nn)) (fd:OK),uu (K w.params) tA ts/\(∀ (s:Nh) (u:Nd),Vu s fd ⟨[u],[]⟩ [("_law_script",u)])/\∀ base:OZ,(K w.params).In base->base.Ns Nk mg->gt l.prog w (K w.params) mg base (cN l.prog w) 12 fa fd uA4 (qx (ts.map (·.1)) (K w.params))) :
  PySem.W.WalkO qq loose XP YP l.row.toRowW d [] (λf vs=>Xf f vs):=
 C6 (k:=12) (x:="_law_script") (CX:=λw=>(cN l.prog w)) (sp:=qx) hn hdf ⟨rfl,by decide,by decide⟩ hY hY2 F (λ_ _ _ a ns hl hS hx=>⟨a,ns,rfl,hS,hl,hx,λ_=>rfl⟩) λ_ _ _ _ _ z=>aE _ _ _ _ _ z
end TR
structure PySem.W.Fast:Prop where (tw11005416087608550289 tw16961114259231495167 tw13024237574439942173 tw5436682030977014618 tw2751256373337763482 tw3147526028761743814 tw11777407497469982869 tw6001717038311149982 tw712713496013615365 tw2160849915824526699 tw10431469154093294581 tw8436530160736009360 tw2189083084042090538 tw4093767879414707172 tw2676843592655635620 tw17759896432009649475 tw16841911487424805673 tw7065196719004243891 tw6120182273995987132 tw7278785582919488944 tw15033955877899513596 tw9163165448754949749 tw4474713727929711433 tw7584632095464733088 tw2665240380794478994 tw4281507839435051173 tw12034529301306174921 tw1412740530120496292 tw2722488453247368933 tw13829962260199835005 tw17414668654560261147 tw12547405615149952144 tw9710099541301140052 tw6713341489776905936 tw13356604809853321433 tw7688979939289370735 tw2814323819105013536 tw3460285631491471125 tw12167299970027779144 tw12898090522228144885 tw5537817507392989653 tw11153153508526483930 tw16722107753131164798 tw11508990581299447217 tw8304633187807414167 tw2741873632871005216 tw3098650099140747022 tw10529045621032112366 tw10878928649346011383 tw17433127649407918184 tw10390482368437308569 tw6635308346962479080 tw14128983903752205361 tw10603143352884091963 tw762086774411644278 tw14629286070300789365 tw7322514246937062873 tw13806330515562733422 tw16533215646563549364 tw7248845548418910902 tw1170385438896378882 tw15723654588110580511 tw11946387830046516350 tw8825162913410286258 tw16185704055785746005 tw1907836534053997609 tw15947647130110478186 tw4176825680039273684 tw2277915949350974105 tw14487527823945880428 tw6378806651969179500 tw9260318993456638099 tw10730576693287656530 tw6402916115382163858 tw5592372978825801913 tw14826177535649044375 tw10739874383668656933 tw10389062239691775310 tw17046096045785654947 tw4457959611799429069 tw5604612198321115192 tw15222332372811614217 tw14311672346811155353 tw6912286791834777270 tw389293857268017419 tw8833616674579841614 tw8944215012541032381 tw8778366847834218611 tw8747985713270642733 tw3630272499721540530 tw11338626320482080499 tw4597815385576468134 tw17073235208701992485 tw339439721115762322 tw13895680192520055762 tw18207409883674633938 tw4405448371221827527 tw16384439140991806783 tw3385933572985670982 tw10331999991888368441 tw5038384010532428476 tw4980140527982668341 tw742631366065748520 tw8496193100864723656 tw16465593609481640178 tw15205757427332607434 tw3118298348987422539 tw4390797449953558910 tw7552313124721640998 tw458718153551410122 tw1458990553923950628 tw18061576374422830899 tw3108895857925891490 tw7701206972830202835 tw6396331504414538614 tw1518778390776439061 tw13117630064387061732 tw12393102470124775321 tw1033676573840564546 tw2921955949234042905 tw10903896904804885137 tw12565873126479838405 tw33234580464227390 tw9543468381871051307 tw12219991291213907806 tw2823216200127434161 tw8285252794096307263 tw8909242652020886083 tw13746998892945896379 tw13847044474285973499 tw13388965833669666276 tw4264081679122543088 tw6476580888114417154 tw6870746385239966495 tw1263967677752543249 tw2967490044939989336 tw11952477930567621874 tw18341738661075694032 tw18110657700751752285 tw9968159385064940992 tw11184866247832198560 tw11541705735650031255 tw11058303210591314183 tw13293551360239819688 tw8814036488958755382 tw7178035218553466079 tw4067815757315547829 tw16125420976334230825 tw3233896803269703781 tw11761349524474078816 tw9782023096404202743 tw2567421499174656370 tw1079591558480608011 tw1465323455660320587 tw15298900538261440622 tw10359542671894330909 tw6444516253810627288 tw18413814469370856019 tw13134941210049971533 tw13199729302030882127 tw4300094868723162120 tw2172234463874113851 tw13286289571150574103 tw5015022444150963414 tw1795160799524644816 tw1004069938510958103 tw15880390783846022804 tw11585360663251666296 tw5013638513523630438 tw6964094701891464083 tw13714852714726911494 tw4859734572699260181 tw15949244316578860110 tw14501481116986427847 tw8448212820200922264 tw1533441465748716200 tw10655748616871804723 tw15475978851898036225 tw3989479032631141843 tw5460839103156490355 tw14658087427065294694 tw1472440295775117869 tw1767030960806834266 tw1883237382899310815 tw10724245740811167722 tw3077542962614442176 tw17005501169546722342 tw8272097745575462802 tw10001672964801549812 tw11885026404814110956 tw16487439284483679431 tw18258668509641539482 tw15119518809363000867 tw861496751670352014 tw17671675577250476544 tw12633828063325142719 tw17104474477144972880 tw11743933684675789561 tw2085265430543479928 tw11295242663489925416 tw16459841118089479913 tw447428436793059352 tw5696645661432515775 tw5377165049785673667 tw7414010573002950339 tw14679537144843913636 tw1850020990947682144 tw15038907488803771077 tw567007231936248111 tw12338650192612810321 tw2686165998756800595 tw494646508529277540 tw10425520727199286604 tw4425618200553884352 tw14950271274146609868 tw10400045042747823484 tw5196759822161362443 tw7964215165433185901 tw3173132913699765277 tw9076898019658295828 tw17587229409955882539 tw633009365376584080 tw7655854475604959112 tw399450672336781322 tw13978132714364018399 tw12136313849458608638 tw10247165532039185998 tw12327683043751691236 tw5907910379304580903 tw118235534785816970 tw7084645254394758144 tw7791558485633453695 tw7184905207665178889 tw614605754266332349 tw2752378990822121778 tw13527570700298136667 tw999549934190671058 tw5639401547097530696 tw3723018712987422907 tw9660479759348254115 tw16721598984663783637 tw1737470218998021460 tw17504726168438525102 tw194257007207401626 tw14648495855601312867 tw12656214998345289242 tw10436566418119696596 tw10450588501212990103 tw5666733265482009870 tw15073642199361114758 tw9521837781910690958 tw5496553226734743180 tw18016538209129171597 tw10970525784644540422 tw17288059297915622733 tw1787170527422088266 tw16352500801324485674 tw14330708407545506320 tw518165344253706303 tw6740894548243528974 tw7011013932798396944 tw16268191913985120837 tw2802247004202718591 tw14312361521171817476 tw6662216172905757224 tw10223255098612430181 tw7174931572554189984 tw10849837294478439864 tw10932051153688463308 tw2231833182268738489 tw17374668970321060316 tw4338793210719728903 tw7397265170488562441 tw3862297159422679713 tw2889245533212489289 tw18338118948054000243 tw10101134421528325465 tw17006074292114755404 tw9907622450517387944 tw15108356728430710263 tw13401966074150468156 tw937748465485546299 tw5283235508950224984 tw14756626342057711627 tw16388236798151156811 tw11616380766574286416 tw11366317186628457999 tw14667695438274304377 tw4808620062290051450 tw18248154226008902656 tw823995417405126400 tw17560002484553144835 tw15720974740661636457 tw2159384732428261692 tw7867138551988935840 tw7222409842568514106 tw18087896308188114481 tw5865058398415345364 tw6386177721840022207 tw4343409185493698948 tw10079861526637649655 tw6174662308321284123 tw16905567037494718340 tw17226317814781303388 tw531344753546570821 tw8271582210643076840 tw5178064492238976065 tw17838647334191207472 tw3285991715500346631 tw2896925681482729109 tw13897025351767303703 tw6738933609535470613 tw17775394924025540681 tw12325986916861892890 tw7155255687562470616 tw1203714281815665861 tw18339764926095981045 tw12032546336807882977 tw3491146545979227302 tw4655885659242187376 tw8413089526598382666 tw6869059470813022305 tw6909764152773421402 tw16230731353816480448 tw6946418123265928581 tw2686110956944767638 tw10412319939605945557 tw6224217400067033806 tw15817226609592570133 tw17821028561486811899 tw17500060268175523787 tw12447927224501729187 tw10071057523077466009 tw459753753920806078 tw7328398951499278185 tw4654949655800699783 tw6093946194476772898 tw10267753499616427366 tw642024891790544567 tw10199001866192545507 tw1472555029683126229 tw13525804630222200214 tw11788480050232564265 tw13461410502392134220 tw17476370609920554154 tw5448181491967042465 tw6878962315960136321 tw11358145252474535373 tw14250319884919036134:True)
open PySem PySem.W PyProof.Rows
set_option maxRecDepth 100000 in
set_option maxHeartbeats 0 in
theorem PySem.Challenge.cw_tintroads_k16_nearest_refused_holds : PySem.Challenge.rw_tintroads_k16_nearest_refused.Holds := by
  w_on;o_law;k_head;(case hw=>w_witness2)
  k_fill
  refine TR.walk (l:=PySem.Challenge.rw_tintroads_k16_nearest_refused) rfl rfl (fun w h Y=>PySem.W.km_in_of Y) (fun w h Y=>PySem.W.km_tabs_of Y) ?F
  case F=>
    intro w mg fa h KX G hmg
    refine' TR.all_mk KX G hmg ?RN ?RG ?RB ?RD ?RM ?nC ?pS ?pU ?pQ ?pX ?pZ ?pM ?bR ?dG ?fL ?fH ?du ?dy ?eN ?eR ?eg ?eA ?eE ?dW ?eB ?fK ?jJ ?jK ?jT ?jH ?nR ?mW ?nU ?nN ?ix ?im ?ij ?iu ?iF ?mI ?rJ ?rM ?kq ?kK ?nK ?nj ?a_law ?l_law ?c_law ?k_law ?eY ?uA ?ux ?uN ?vn ?u6 ?z_k_ORDERS ?nI ?m9 ?kt_ORDERS_0 ?ku_ORDERS_0 ?kt_ORDERS_1 ?ku_ORDERS_1 ?kt_ORDERS_2 ?ku_ORDERS_2 ?kt_ORDERS_3 ?ku_ORDERS_3 ?kt_ORDERS_4 ?ku_ORDERS_4 ?kt_ORDERS_5 ?ku_ORDERS_5 ?z_k_STEPS ?rh ?qA ?kt_STEPS_0 ?ku_STEPS_0 ?kt_STEPS_1 ?ku_STEPS_1 ?kt_STEPS_2 ?ku_STEPS_2 ?nd_
    (case RN=>constructor <;> k_is)
    (case RG=>constructor <;> (refine' TR.gOf ?a;(case a=>k_is)))
    (case RB=>constructor <;> kernel_rfl)
    (case RD=>constructor <;> (refine' TR.AtD.of ?a ?b ?c ?d;(case a=>k_is);(case b=>k_is);(case c=>k_is);(case d=>k_is)))
    (case RM=>constructor <;> (refine' TR.AtM.of ?a ?b ?c ?d ?e ?f;(case a=>k_is);(case b=>k_is);(case c=>k_is);(case d=>k_is);(case e=>k_is);(case f=>k_is)))
    (case nC=>k_is)
    (case pS=>k_is)
    (case pU=>k_is)
    (case pQ=>k_is)
    (case pX=>k_is)
    (case pZ=>k_is)
    (case pM=>first | rfl | k_is)
    (case bR=>k_is)
    (case dG=>k_is)
    (case fL=>k_is)
    (case fH=>k_is)
    (case du=>k_is)
    (case dy=>exact ⟨_,_,_,_,_,_,_,rfl,rfl,rfl,rfl,rfl,rfl,by decide⟩)
    (case eN=>kernel_rfl)
    (case eR=>decide)
    (case eY=>k_is)
    (case eg=>k_is)
    (case eA=>k_is)
    (case eE=>k_is)
    (case dW=>k_is)
    (case eB=>k_is)
    (case fK=>k_is)
    (case jJ=>k_is)
    (case jK=>k_is)
    (case jT=>k_is)
    (case jH=>k_is)
    (case nR=>k_is)
    (case mW=>k_is)
    (case nU=>k_is)
    (case nN=>k_is)
    (case ix=>k_is)
    (case im=>k_is)
    (case ij=>k_is)
    (case iu=>k_is)
    (case iF=>k_is)
    (case mI=>k_is)
    (case rJ=>k_is)
    (case rM=>k_is)
    (case kq=>k_is)
    (case kK=>exact ⟨_,_,_,_,_,_,_,rfl,rfl,rfl,rfl,rfl,rfl,by decide⟩)
    (case nK=>kernel_rfl)
    (case nj=>decide)
    (case a_law=>k_is)
    (case l_law=>k_is)
    (case c_law=>k_is)
    (case k_law=>k_is)
    (case uA=>k_is)
    (case ux=>k_is)
    (case uN=>first | exact ⟨⟨_,_,rfl,rfl⟩,⟨_,_,rfl,rfl⟩,trivial⟩ | (k_is;exact ⟨⟨_,_,rfl,rfl⟩,⟨_,_,rfl,rfl⟩,trivial⟩))
    (case vn=>exact .cons ⟨_,rfl,rfl⟩ (.cons ⟨_,rfl,rfl⟩ (.nil)))
    (case u6=>first | rfl | decide)
    (case z_k_ORDERS=>k_is)
    (case nI=>k_is)
    (case m9=>exact ⟨rfl,rfl,by decide,.cons rfl (.cons rfl (.cons rfl (.cons rfl (.cons rfl (.cons rfl (.nil))))))⟩)
    (case kt_ORDERS_0=>k_is)
    (case ku_ORDERS_0=>exact ⟨rfl,rfl,by decide,.cons ⟨_,rfl⟩ (.cons ⟨_,rfl⟩ (.cons ⟨_,rfl⟩ .nil))⟩)
    (case kt_ORDERS_1=>k_is)
    (case ku_ORDERS_1=>exact ⟨rfl,rfl,by decide,.cons ⟨_,rfl⟩ (.cons ⟨_,rfl⟩ (.cons ⟨_,rfl⟩ .nil))⟩)
    (case kt_ORDERS_2=>k_is)
    (case ku_ORDERS_2=>exact ⟨rfl,rfl,by decide,.cons ⟨_,rfl⟩ (.cons ⟨_,rfl⟩ (.cons ⟨_,rfl⟩ .nil))⟩)
    (case kt_ORDERS_3=>k_is)
    (case ku_ORDERS_3=>exact ⟨rfl,rfl,by decide,.cons ⟨_,rfl⟩ (.cons ⟨_,rfl⟩ (.cons ⟨_,rfl⟩ .nil))⟩)
    (case kt_ORDERS_4=>k_is)
    (case ku_ORDERS_4=>exact ⟨rfl,rfl,by decide,.cons ⟨_,rfl⟩ (.cons ⟨_,rfl⟩ (.cons ⟨_,rfl⟩ .nil))⟩)
    (case kt_ORDERS_5=>k_is)
    (case ku_ORDERS_5=>exact ⟨rfl,rfl,by decide,.cons ⟨_,rfl⟩ (.cons ⟨_,rfl⟩ (.cons ⟨_,rfl⟩ .nil))⟩)
    (case z_k_STEPS=>k_is)
    (case rh=>k_is)
    (case qA=>exact ⟨rfl,rfl,by decide,.cons rfl (.cons rfl (.cons rfl (.nil)))⟩)
    (case kt_STEPS_0=>k_is)
    (case ku_STEPS_0=>exact ⟨rfl,rfl,by decide,.cons ⟨_,rfl⟩ (.cons ⟨_,rfl⟩ (.cons ⟨_,rfl⟩ .nil))⟩)
    (case kt_STEPS_1=>k_is)
    (case ku_STEPS_1=>exact ⟨rfl,rfl,by decide,.cons ⟨_,rfl⟩ (.cons ⟨_,rfl⟩ (.cons ⟨_,rfl⟩ .nil))⟩)
    (case kt_STEPS_2=>k_is)
    (case ku_STEPS_2=>exact ⟨rfl,rfl,by decide,.cons ⟨_,rfl⟩ (.cons ⟨_,rfl⟩ (.cons ⟨_,rfl⟩ .nil))⟩)
    (case nd_=>decide)
#print axioms PySem.Challenge.cw_tintroads_k16_nearest_refused_holds
