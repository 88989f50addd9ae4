import PyProof.Rows.All
import Wide.All
import OpenK.AllK
import Wide.FinOn
import Lean
import PyProof.EqAt
import PyProof.EqKinds
import PyProof.TupleCall
import KE.KTryMore
import PyProof.ExcAttrAll.ValueError
import PyProof.NsDelKeeps
import KE.KDictOf
import KE.KPairComp
import KE.KSortKey
import KE.KLam
import KE.KRevSl
import PyProof.ListRange
import KE.KSortTup
import KE.KDictSum
import KE.KIntText
import PySem.Challenge.RW_tintroads_k20_whole_round
section
open Lean
def ZTh(n:Syntax):Bool:=match n[0].getId with|.str _ s=>s.toList.head?.any Char.isLower|_=>false
end
local macro_rules (kind:=Lean.Parser.Command.declaration)
 |s=>do
  if (s[1].isOfKind ``Lean.Parser.Command.definition||s[1].isOfKind ``Lean.Parser.Command.abbrev)&&s[0].getArgs.all (·.getNumArgs==0) then
   let t<-Lean.MonadRef.withRef .missing `(command|noncomputable def x:=0)
   pure (s.setArg 0 t.raw[0])
  else Lean.Macro.throwUnsupported
local macro_rules
 |`(command|def $n:declId $b* : $t := $v)=>if ZTh n then Lean.MonadRef.withRef .missing `(command|theorem $n:declId $b* : $t := $v) else Lean.Macro.throwUnsupported
local macro_rules|`($a⁻¹)=>`(($a).heap.objs.size)
local macro_rules|`(⇑$a)=>`(($a).length)
local macro_rules|`(↥$a)=>`(.ref $a)
local macro_rules|`(↑$a)=>`(.int $a)
local macro_rules|`($a\$b)=>`(($a).trans $b)
local macro_rules|`($a>>$b)=>`(($a).heap.get? $b)
local macro_rules|`(tactic|show $e)=>`(tactic|exact $e)
theorem U.{u}{α:Sort u}{a:α}:a=a:=rfl
theorem O {p:Prop}(h:p:=by decide):p:=h
theorem Y {p:Prop}(h:p:=by lia):p:=h
def zyA {p:Prop}(h:p:=by simp):p:=h
def zyB {p:Prop}(h:p:=by decide +kernel):p:=h
open Option renaming some->Z
open PySem renaming wpAny_bind->HD,wpAny_pure->Mm,Value->Mo,Shared->Mt,mainGlobals->ME,Addr->MF,wpAny->MI,sizeLine->MO,model->MW,Program->MY,starEach->M0,wpAny_newObj_type->No,World->Nr,wpAny_call_entry->Nt,wpAny_callSpecial?_slot->Nu,wpAny_holding->Nv,Around->Nw,bootBuiltins->Ny,wpAny_mono->NI,PyData->NM,sizeLine_eq->NN,wpAny_field->NS,wpAny_setState_of->NU,wpAny_truthy_bool->NV,wpAny_Call_Name_kw->NX,codeAny_builtin->N0,wpAny_seqItems->N2,wpAny_setField_rec->N3,sysModules->Oe,wpAny_setField->Of,Stmt->On,foldedSetIterable->Op,wpAny_dictEntries->Oq,compareOp->Ow,Heap->Oz,wpAny_pyIter_list->OG,Builtin->OJ,rawInt->ON,wpAny_attempt->OO,wpAny_isInstance->OP,FuncData->OQ,DictEntry->OS,mem_of_lookup->OV,keywordEach->OX,Expr->OZ,wpAny_typeNameOfWhole_itemiter->O4,wpAny_typeNameOfWhole_keyiter->O9,wpAny_loadName_local->O_,plainId_quiet->Pe,wpAny_standAt->Pf,wpAny_specialOf->Pm,assignEach->Pq,wpAny_rule->Pr,codeAny_mono->PF,compEnvC->PH,wpAny_pyIter_tuple->PJ,wpAny_typeNameOf_itemiter->PN,codeAny->P0,wpAny_call->P1,wpAny_comprehension_free->P2,wpAny_passesOwn->P3,wpAny_typeNameOf_keyiter->P4,wpAny_letGo->Qc,NameKind->Qk,SetTable->Ql,Scope->Qw,backTo->Qx,tupleKeyHash->Qy,wpAny_dictEpoch->Qz,eval->QA,Comprehension->QC,backToKw->QI,bindArgs->QJ,pyNext->QM,codeAny_call_builtin->QO,intKind->QP,lookup_relabel_local->QQ,tupleKind->QS,wpAny_fieldsOf->QT,wpAny_askSetting->QX,wpAny_forIn_list->QY,isInstance->Rb,wpAny_Name->Rc,cellsFrom->Ro,wpAny_execs_nil->Rr,wpAny_updateSeq->Rs,wpAny_isOneOf_itemiter->Rv,IsItemIter->RC,builtinsNs->RO,call_meets->RP,sliceBounds->RQ,wpAny_assign_Name->RS,wpAny_of_eq->RT,wpAny_pyIter_slot->RU,binaryOp->RX,firstArgMember->RY,wpAny_tryCatch->RZ,codeAmong->R9,isSubtype_tuple_tuple->R_,wpAny_notOrdered_dict->Sa,wpAny_storeName_local->Sb,wpAny_newFunctionEnv->Sq,wpAny_setFlight_none->Sr,wpAny_updateSeq_pair->Ss,wpAny_newList->Sx,Keyword->SE,argBest->SU,letOwnedTupleGo->SV,pickOrder->SW,swapsWith->SX,wpAny_loadName_free->SY,Paired->Tc,intItems->Tg,wpAny_tupleItemsOf->Th,isSubtype_stop->Tw,wpAny_binaryOp_repeat_ref->Tx,wpAny_newTuple->Tz,KeyKind->Um,frameOf->Uo,attributeBase->Uq,behindInMarks->Ur,wpAny_handled->Ut,wpAny_onRaise->Uu,wpAny_throw->Uv,checkBuiltinCall->UB,codeAny_compStart_list->UN,wpAny_Assign_Subscript->UP,wpAny_pyNext_list_item->UQ,IsPair->UX,argsOk->Vf,codeAny_of_tree->Vg,pushCells_keeps->Vi,seqItems?->Vj,size_of_entries->Vk,IsTupleKey->Vl,entryOfKey->Vn,setEntries->Vo,setField->Vp,typeIs_int->Vq,newFunctionEnv->VE,wpAny_runValue->VG,BindsTo->VI,setNext->VT,standAt->VU,Arguments->VX,IsItemIterOut->V2,TriplesOk->We,eval_ListComp->Wg,noteFrame->Wj,pyIter->Wk,rangeSize_one->Wl,relayAll->Wm,getItem->WK,numAt->WL,typeLookup->WN,valueAt->WO,Within->WW,seqSlot_of->W6,HeapKind->W8,atKey->Xm,call->Xq
open PySem.W renaming Frag->KE,nsIn->ML,fnOf->M5,findIn->M7,keepIn->M8,mg_none_of->Nb,codeIn->Nj,mg_of->Nn,subIn->N8,kitOne->Ov,emptyDict->OF,Looks->OY,isFn->O3,typeIn->Ph,instObj->Pk,callWith_K->PC,clsIn->Qa,cellsFrom_some->Qi,kla_obj->Qu,methodCall_KW->Qv,looks_findIn->QN,kla_fn->QR,plainGet->QV,excIn->Rl,mroIn->Rm,hasDictIn->RI,specialIn->RJ,CodeHd->RW,hideAll_none->So,hideAll->SJ,hideAll_get->SK,isClsIn->SL,makesIn->SM,plainGet_of->SN,takesIn->SO,KasT->Td,lookIn->Tv,plainOver->TZ,OpenLaw->U_,takerIn->Va,kla_callFunE->Vz,kla_codeExpr->VA,kitAny->VC,callWith_KW->VR,looks_mroIn->VS,of_hideAll->V',kas_place->WD,kitx_dict->WE,kitx_list->WF,handedIn->W3,kas_sort->W5,KeysLit->Xc,kia_one->Xd,kitMeta->Xe,InstAt->Xi,exmOne->Xj,tabObj->Xk
open PySem.Heap renaming get?_push_of_some->Ml,lt_size->Mr,get?_push_size->Ms,get?_update_other->MV,get?_update_self->M4,SameBut->NF,size_push->NQ,get?_none_of_le->Sk,ExtBut->SD,size_update->Uy,IsTuple->UT,IsList->VN,get?_push_ne->Ws
open Option.some renaming inj->Mn,injEq->WC
open List renaming getElem?_eq_some_iff->Mp,length_map->Mq,mem_singleton->Mu,getElem?_map->Mw,mem_cons_of_mem->Mx,mem_cons->MA,getElem?_eq_getElem->MC,mem_of_getElem?->MD,size_toArray->MJ,mem_append_right->MM,replicate->MN,length_append->MP,not_mem_nil->MQ,map_cons->MR,mem_cons_self->MS,mem_map->Nd,take_of_length_le->Nh,mem_append->Nk,length_take->Nl,getElem?_zip_eq_some->Nm,length_cons->Np,map_append->Nx,mem_filterMap->NA,all_eq_true->NE,range->NG,getLast?_eq_getElem?->NJ,getElem?_append_right->NR,lookup_cons->NT,getElem?_append_left->NY,getElem_of_mem->N5,mem_range->Od,mem_append_left->Oh,mem_of_getLast?->Ot,nodup_cons->Ou,getElem_mem->Oy,map_map->OD,pairwise_cons->OL,append_assoc->OT,replicate_succ->OU,find?_cons->O1,range_succ->O2,map_nil->Px,of_mem_zip->PU,all_cons->P7,flatMap_append->P8,take_length->Qf,zipWith->Qs,Nodup->QD,flatten_cons->QE,length_range->QF,getD_eq_getElem?_getD->QK,mem_flatMap->QU,filterMap_cons->Q1,lookup->Q2,getElem?_drop->Rj,getElem?_replicate->Rk,foldl_append->RF,length_singleton->R5,any_eq_true->Sd,getElem?_zipWith_eq_some->Se,length_drop->Sf,getElem?_of_mem->Sl,getElem?_set_ne->Sn,any_cons->Sw,append_nil->SF,length_nil->SG,length_set->SH,length_zip->SI,length_eraseIdx_of_lt->S4,getElem?_take->S8,map_replicate->S_,drop_eq_getElem_cons->Tq,getElem?_eq_none_iff->Tr,mem_of_find?_eq_some->Ts,nodup_nil->Tt,pairwise_iff_getElem->Tu,ext_getElem?->TN,filterMap_cons_some->TQ,nodup_append->TU,take_sublist->TV,length->Uc,length_eq_zero_iff->Ud,cons_append->UA,drop_of_length_le->UH,getElem?_set_self->UI,pairwise_lt_range->UJ,zipWith_cons_cons->UK,all_nil->UY,eq_replicate_iff->UZ,foldl_cons->U0,getElem?_eq_none->U1,getElem?_toArray->U2,length_replicate->U3,toArray->U4,zipWith_nil_left->U5,pairwise_append->Vv,length_pos_iff->VO,map_congr_left->VP,toList_toArray->VQ,find?_eq_none->V3,find?_toArray->V4,sum_cons->V5,any_eq_false->Wu,drop_sublist->Wv,flatMap_cons->Ww,getElem_drop->Wx,getElem_take->Wy,push_toArray->Wz,foldl->Xo
open Nat renaming le_refl->Mz,ne_of_lt->MH,lt_of_lt_of_le->MK,le_trans->M1,lt_irrefl->Nq,lt_succ_of_lt->NB,le_of_lt->N4,zero_le->N7,lt_succ_self->N_,ne_of_gt->Oi,zero_add->Ol,not_lt->O6,add_assoc->Py,lt_of_le_of_lt->Pz,pow_le_pow_right->PP,add_comm->P5,add_zero->P6,pow_le_pow_left->P_,le_add_right->Qg,le_of_succ_le->QG,le_succ->Q5,lt_two_pow_self->Q6,succ_mul->R6,add_right_comm->Ta,lt_succ_iff_lt_or_eq->TW,lt_trichotomy->TX,le_mul_of_pos_right->Uf,eq_of_beq_eq_true->U6,le_of_eq->U7,lt_or_ge->U8,sub_self->U9,mul_le_mul_right->Vw,mul_le_mul->VB,mul_comm->WV,beq->W_,log2_lt->Xa
open Option renaming map_eq_some_iff->MG,isSome_iff_exists->OE,mem_toList->RH,isSome_some->V6,isSome_map->WB,getD_none->W2,map_some->Xb
open PySem.Value renaming ref->MT,none->Nc,type->OW,isStrOf->PD,int->PZ,bool->Ra,isInt_shape->T5,str->Ve,builtin->Wf,float->Xg
open Rat renaming intCast_mul->MU,intCast_sub->M6,intCast_add->Oa,not_lt->O8,le_trans->Pj,den_intCast->PX,num_intCast->PY,le_of_mul_le_mul_right->QL,le_of_lt->Q_,lt_irrefl->Rn,div_def->SQ,mul_lt_mul_of_pos_right->SR,intCast_nonneg->Te,intCast_le_intCast->UL,le_antisymm->Vb,mul_zero->Vc,le_iff->Vm,mul_nonneg->VD,div_mul_cancel->V_,le_refl->Xf
open Bool renaming and_eq_true->MX,false_eq_true->M2,false_ne_true->M3,false_and->Pg,not_true->Pu,beq_eq_decide_eq->Qn,and_true->QB,and_false->RV,not_eq_true'->TD,true_and->T8,or_eq_true->US,or_false->VY,eq_false_iff->Wp
open PySem.Heap.SameBut renaming update->M_,refl->RA
open PySem.Obj renaming data_mapFields->Nf,mapFields->NC,mapSeq->NH,isFreed_of_fields->NK,cls_mapFields->PV,data_mapDictKeys->Vx,putSet->WA
open Int renaming toNat_natCast->Ng,gcd->Os,mul_ne_zero->OK,fdiv_eq_ediv_of_nonneg->OR,emod_lt_of_pos->O5,le_of_lt->Pw,mul_nonneg->PM,emod_nonneg->PQ,mul_fdiv_cancel_left->PR,toNat->Qe,gcd_pos_of_ne_zero_right->Qj,mul_comm->Q8,eq_ofNat_of_zero_le->Rh,mul_assoc->Ri,zero_add->S7,eq_of_mul_eq_mul_left->Tl,natAbs_mul->Tn,mul_left_comm->TL,ofNat_ne_zero->TM,le_refl->Ub,ediv_nonneg->UU,natAbs_dvd_natAbs->UV,zero_sub->UW,gcd_zero_right->V1,gcd_comm->WT,le_trans->WU,mul_neg->W'
open Array renaming getElem?_eq_some_iff->Ni,length_toList->ND,getElem_toList->Og,getElem?_toList->O0,forIn_toList->Ps,toArray_toList->Sj,perm_iff_toList_perm->SZ,getElem?_eq_getElem->Ti,getD->TC,getElem?_eq_none->UD,toList_append->VH,toList_push->Wo
open PySem.AutoSeq1 renaming wpAny_loadPart'->Nz
open PySem.SetTable renaming below->NL,grown->Qh,insertAt->T4,advance->W7,Probe->Xl
open PySem.PassesOwn renaming never->NO
open PySem.Around renaming under_plainId->NP,under->WP
open PySem.NameKind renaming free->NW,cell->N6
open PyProof.Rows renaming seqObj->N9,IntsAre->OA,callWith_type1->OM,assignInOrder_cons->Qm,get?_update_seq->Rq,callWith_builtin1->R7,assign_Tuple_tuple->Tf,assignInOrder_nil->T6,listUpdate_at->Us,call_function_entry_kw->UM,subscriptTail_builtinR->UO,AllBare->UR,entry_list_sort->Vh,slot_list_sort->VF,subscriptTail->Wn,Subscript_->WH,sortedHeap->WM
open PySem.Builtin.Tuple renaming tupleHashOf->Oc
open Ne renaming symm->Om
open PySem.F renaming slot_dict_itemiterator_next->Ox,slot_dict_keyiterator_next->OI,plainAttrs_list->Pb,slot_tuple_iterator_next->Po,plain_max_loop->Pp,slot_list_append->Qd,called_set->Qq,type_list_append->Q9,slot_int_rmul->Rf,slot_tuple_eq->Rg,slot_tuple_mul->Ru,args_dict_itemiterator_next_1->Rx,slot_tuple_hash->Ry,args_dict_keyiterator_next_1->R0,entry_dict_itemiterator_next->R1,entry_dict_keyiterator_next->Sc,args_tuple_iterator_next_1->Sv,entry_tuple_iterator_next->SB,slot_zip_next->SC,excBase_ValueError->S5,plain_list_iadd->TK,attr_ValueError->Uh,slot_dict_items->Ui,slot_list_count->Uj,slot_list_index->Uk,slot_tuple_rmul->Ul,entry_max_loop->Uw,slot_dict_iter->Ux,slot_dict_items_iter->UG,args_int_rmul_2->Vu,slot_list_lt->Vy,entry_int_rmul->VL,slot_int_index->VM,fills_int_mul->V0
open False renaming elim->OC
open PySem.Builtin.Dict_items renaming ownsTuple->OH,ownedTupleFields->QZ,ownedTupleIsFree->Q0,pairFromOwner->Rt,newIterator->WQ,dictOf->Xh
open PySem.PyData renaming int->O7,bool->Qt,eqv->QH,eqvAll->V8
open PySem.Builtin.SmallTypes renaming nextOf->PL
open PySem.MeetsSeq3 renaming plain_eq_loop->P9,entry_eq_loop->Ue
open PySem.Builtin.Dict renaming showsAll->Qo,entriesForEmpty->Su,updateFrom->T9,mergeDict->UE,quietEq->Vr
open PySem.Builtin.List renaming listExtendWith->Qp,listLengthHint->SA,listSameRef->TH,listTooLong->TJ
open ForInStep renaming yield->Qr
open PySem.Shared renaming heap->Q7,TypeIs->Wd
open PyProof.Rows.F renaming plain_set_update_loop->Re,entry_set_update_loop->Ua
open List.Pairwise renaming nil->RE
open PySem.SetTable.below renaming go->RK
open PySem.Str renaming ofString->R8
open PySem.W.Looks renaming ld->Sg,andThen->U'
open Sum renaming inl->Si,inr->WI
open PySem.Builtin.Builtins renaming bindParams->Sy
open PySem.Builtin.Int renaming intBits->Sz
open PySem.Calls renaming Name_function_global->S0,call_function_entry->Tk,callWith_builtin->UF,evalArgs_plain->Vt,spliced_cons->VZ,spliced_nil->Wq
open PySem.Code renaming quiet_builtin->S6,isFrame->WS
open PySem.Builtin.ObjectAttr renaming bindTo->Tj,dataDescriptor?->VW,takesStores->WR,getOf->Xn,find->Xr
open List.Perm renaming refl->To
open PySem.Builtin.Frozenset renaming sizeOf->TF
open PyProof renaming noPylong_of_log2->TY
open PySem.Builtin.Getset_descriptor renaming descrCheckInstance->T7,descrNameAndClass->T_,descrGetter->Vs,descrGet->VV
open PySem.Paired renaming length->Ug
open PySem.IntMulOk renaming of_bits->Uz,of_left->W1
open PySem.SeqAt renaming shaped->Vd
open PySem.EntryCells renaming newEntry->VJ
open Prod.mk renaming injEq->V7
open PySem.W.KF renaming slot_gs->V9
open PySem.ScopeKind renaming function->Wa
open PySem.SeqAt.EqAt renaming int_str->Wb,str_int->Wc
open PySem.Heap.IsTuple renaming push->Wr
open PySem.SetTable.probe renaming go->WG
open PySem.Walks renaming list->WJ
open PySem.Sem renaming wp_bind'->WY
open PySem.pickOrder renaming go->WZ
open PySem.Heap.IsList renaming push->W0
open And renaming intro->W9
open Or renaming inr->Xp
open PySem.Value.ref renaming inj->Xs
abbrev MB:=@decide_eq_true
abbrev MZ:=@if_neg
abbrev M':=@if_pos
abbrev Na:=@decide_eq_false
abbrev NZ:=@beq_iff_eq
abbrev N1:=@of_decide_eq_true
abbrev Ob:=@or_false
abbrev Oj:=@if_false
abbrev Oo:=@decide_eq_true_eq
abbrev OB:=@beq_eq_false_iff_ne
abbrev Qb:=@if_true
abbrev QW:=@beq_self_eq_true
abbrev Rp:=@congrArg
abbrev RL:=@bne_self_eq_false
abbrev UC:=@decide_eq_decide
set_option autoImplicit true
set_option relaxedAutoImplicit true
set_option Elab.async false
set_option linter.all false
set_option maxRecDepth 100000
set_option compiler.extract_closed false
set_option genSizeOf false
local macro_rules|`($a<|>$b:ident)=>`(autoParam $a $(Lean.mkIdent (b.getId++`_auto_1)))
theorem C'(_:True:=by rfl):True:=trivial
theorem Cb(_:True:=by decide):True:=trivial
theorem E'(_:True:=by intro _;rfl):True:=trivial
theorem F'(_:True:=by decide +kernel):True:=trivial
theorem FL(_:True:=by first|show .inl rfl|show .inr rfl|assumption):True:=trivial
theorem G5(_:True:=by intro _ _ _ _ h;cases h;subst_vars;rfl):True:=trivial
theorem J9(_:True:=by intros;rfl):True:=trivial
theorem K1(_:True:=by intro _ _ _ _ _ _ b h;first|show us1 h λ_=>rfl|show us2 h λ_ _=>rfl|show us3 h λ_ _ _=>rfl|show us4 h λ_ _ _ _=>rfl|show us5 h λ_ _ _ _ _=>rfl):True:=trivial
theorem La(_:True:=by first|show Or.inl rfl|show Xp rfl):True:=trivial
namespace L2
open PySem PySem.Spec PyProof.Rows
abbrev Bk:=Sum Int Str
def Fy:Bk->Mo->Bool
 |.inl k,v=>Value.isInt k v
 |.inr x,v=>PD x v
def Ld (w:Nr):Bk->Int
 |.inl k=>hashInt k
 |.inr x=>hashStr w x
theorem ck:∀ {k:Bk}{v:Mo},Fy k v=true->(∃ i t,k=Si i/\v=PZ i t)\/(∃ x t,k=WI x/\v=Ve x t)
 |.inl i,v,h=>by
  obtain⟨t,e⟩:=T5 h;show .inl ⟨i,t,U,e⟩
 |.inr x,v,h=>by
  obtain⟨t,e⟩:=Value.isStrOf_shape h;show .inr ⟨x,t,U,e⟩
def aae (i:Int)(t:Tok):Fy (.inl i) (.int i t)=true:=by simp[Fy,Value.isInt]
def zi (x:Str)(t:Tok):Fy (.inr x) (.str x t)=true:=by simp[Fy,PD]
def afB (a b:Int):decide ((Si a:Bk)=Si b)=(a==b):=by
 by_cases e:a=b
 .subst e;simp
 .have h:¬ (Si a:Bk)=Si b:=λq=>e (Sum.inl.inj q)
  rw[Na h];show(OB.mpr e).symm
def aen (a b:Str):decide ((WI a:Bk)=WI b)=decide (a=b):=by
 by_cases e:a=b
 .subst e;simp
 .have h:¬ (WI a:Bk)=WI b:=λq=>e (Sum.inr.inj q)
  rw[Na h,Na e]
def afd (a:Int)(b:Str):decide ((Si a:Bk)=WI b)=false:=Na (λq=>nomatch q)
def aeW (a:Str)(b:Int):decide ((WI a:Bk)=Si b)=false:=Na (λq=>nomatch q)
def Aw (prog:MY)(w:Nr):Um prog w Bk where
 is:=Fy
 hash:=Ld w
 inj:=λv a b g f=>by
  rcases ck g with ⟨i,t,rfl,rfl⟩|⟨x,t,rfl,rfl⟩
  .rcases ck f with ⟨j,u,rfl,e⟩|⟨y,u,rfl,e⟩
   .injection e with c _;rw[c]
   .show nomatch e
  .rcases ck f with ⟨j,u,rfl,e⟩|⟨y,u,rfl,e⟩
   .show nomatch e
   .injection e with c _;rw[c]
 byValue:=λk v h=>by
  rcases ck h with ⟨i,t,rfl,rfl⟩|⟨x,t,rfl,rfl⟩<;>rfl
 pyHash:=λd h=>by
  rcases ck d with ⟨i,t,rfl,rfl⟩|⟨x,t,rfl,rfl⟩
  .show wpAny_pyHash_int h
  .show wpAny_pyHash_str h
 eqBool:=λl d h=>by
  rcases ck l with ⟨i,t,rfl,rfl⟩|⟨x,t,rfl,rfl⟩
  .rcases ck d with ⟨j,u,rfl,rfl⟩|⟨y,u,rfl,rfl⟩
   .rw[afB] at h;show wpAny_eqBool_int h
   .rw[afd] at h;show Wb i t y u _ _ _ _ h
  .rcases ck d with ⟨j,u,rfl,rfl⟩|⟨y,u,rfl,rfl⟩
   .rw[aeW] at h;show Wc x t j u _ _ _ _ h
   .rw[aen] at h;show wpAny_eqBool_str h
 «strs»:=λk x t v h=>by
  rcases ck h with ⟨i,u,rfl,e⟩|⟨y,u,rfl,e⟩
  .show nomatch e
  .injection e with c _
   subst c;cases v<;>rfl
def uR (prog:MY)(w:Nr)(i:Int)(t:Tok):(Aw prog w).is (.inl i) (.int i t)=true:=aae i t
def uY (prog:MY)(w:Nr)(x:Str)(t:Tok):(Aw prog w).is (.inr x) (.str x t)=true:=zi x t
inductive V where
 |non|bl (b:Bool)|int (i:Int)|str (x:Str)|byt (b:Array UInt8)|flt (b:UInt64)|ref (a:MF)|ty (n:String)
 deriving DecidableEq
def Ao:V->Mo->Prop
 |.non,u=>u=Nc
 |.bl b,u=>u=Ra b
 |.int i,u=>∃ t,u=PZ i t
 |.str x,u=>∃ t,u=Ve x t
 |.byt b,u=>∃ t,u=Value.bytes b t
 |.flt b,u=>∃ t,u=Xg b t
 |.ref a,u=>u=MT a
 |.ty n,u=>u=OW n
abbrev Ah:List V->List Mo->Prop:=Tc Ao
def Ah.length (r:Ah xs us):⇑xs=⇑us:=Ug r
theorem Ah.get:∀ {xs:List V}{a:List Mo}{i:Nat}{x:V},Ah xs a->xs[i]?=Z x->∃ u,a[i]?=Z u/\Ao x u
 |_,_,_,_,.nil,e=>by simp at e
 |_,_,0,_,.cons r _,e=>by simp at e;subst e;show⟨_,U,r⟩
 |_,_,i+1,x,.cons _ t,e=>by
  obtain⟨u,b,c⟩:=Ah.get t (by simpa using e);show⟨u,by simpa using b,c⟩
theorem Ah.set (r:Ao x u):∀ {xs:List V}{a:List Mo} (i:Nat),Ah xs a->Ah (xs.set i x) (a.set i u)
 |_,_,_,.nil=>.nil
 |_,_,0,.cons _ t=>.cons r t
 |_,_,i+1,.cons q t=>.cons q (Ah.set r i t)
theorem Ah.append:∀ {xs ys:List V}{a b:List Mo},Ah xs a->Ah ys b->Ah (xs++ys) (a++b)
 |_,_,_,_,.nil,s=>s
 |_,_,_,_,.cons r t,s=>.cons r (Ah.append t s)
theorem Ah.take:∀ {xs:List V}{a:List Mo} (n:Nat),Ah xs a->Ah (xs.take n) (a.take n)
 |_,_,0,_=>.nil
 |_,_,_+1,.nil=>.nil
 |_,_,n+1,.cons r t=>.cons r (Ah.take n t)
theorem Ah.drop:∀ {xs:List V}{a:List Mo} (n:Nat),Ah xs a->Ah (xs.drop n) (a.drop n)
 |_,_,0,r=>r
 |_,_,_+1,.nil=>.nil
 |_,_,n+1,.cons _ t=>Ah.drop n t
def CI:Option V->Option Mo->Prop
 |some v,Z u=>Ao v u
 |none,none=>True
 |_,_=>False
def KV {a:Type}:List (a×V)->List (a×Mo)->Prop:=Tc λ(p:a×V) (q:a×Mo)=>p.1=q.1/\Ao p.2 q.2
noncomputable def kV:Bk->V
 |.inl i=>.int i
 |.inr x=>.str x
abbrev _root_.X2:=List (List Bk×V)
abbrev _root_.X5:=List (Str×V)
inductive HO where
  |lst (xs:List V)
  |tup (xs:List V)
  |dK (kvs:List (Bk×V))|dT (kvs:X2)
  |set (S:Int->Bool) (n:Nat)
  |ins (C dx:MF) (fs:X5)
  |own (x:MF)
  |xd (fs:X5)
  |met (f x:MF)
  |rng (lo hi:Int)
  |frz (o:Obj) (u:HO)
  |tbl (ps:Array Mo)
  |ext (φ:Oz->Prop)
abbrev Hp:=MF->Option HO
noncomputable def upd (H:Hp)(a:MF)(o:HO):Hp:=λb=>if b=a then Z o else H b
def ae:upd H a o a=Z o:=by unfold upd;rw[M' rfl]
def ar (h:b≠a):upd H a o b=H b:=by unfold upd;rw[MZ h]
def ac5:upd (upd H a o) a u=upd H a u:=by funext b;unfold upd;split<;>rfl
def ad6 {H:Hp}{a b:MF}{o u:HO}(h:H a=Z o)(h':H b=Z u)(d:o≠u):a≠b:=by intro e;subst e;rw[h] at h';show d (Mn h')
def aI {H:Hp}{a b:MF}{o:HO}(h:H a=Z o)(h':H b=none):a≠b:=by intro e;subst e;rw[h] at h';cases h'
section
variable (P:MY)(w:Nr)
def At (H:Hp)(h:Oz)(a:MF):HO->Prop
 |.lst e=>⇑e<=MO/\∃ (b:List Mo) (n:Nat),Ah e b/\h.get? a=Z { cls:=.type "list",data:=.seq b.toArray n }
 |.tup e=>⇑e<=MO/\∃ b:List Mo,Ah e b/\IsTup h a b.toArray
 |.dK d=>⇑d<=MO/\(a==Oe)=false/\∃ vs,KV d vs/\h.DictOf (Aw P w) a vs
 | .dT d=>⇑d <= MO/\(a == Oe)=false/\∃ e:List (List Bk × MF × Mo),
   Tc (λ(p:List Bk×V) (q:List Bk×MF×Mo)=>p.1=q.1/\H q.2.1=Z (.tup (p.1.map kV))/\Ao p.2 q.2.2) d e /\
   ∃ o i j,h.get? a=Z o/\o.ExactDict/\o.data=.dict i j/\i.toList=e.map (Vn (QS (Aw P w)))/\(e.map (·.1)).Nodup
 |.set S n=>h.SetOf (QP P w) a S n
 | .ins C i fs=>H i=Z (.own a)/\⇑fs <= 1000/\i ≠ a/\h.get? a=Z (Pk C i) /\
   ∃ g,h.Ns1 i g/\(∀ f,CI (fs.lookup f) (g f))/\WW g (fs.map (·.1))
 |.own _=>∃ o,h.get? a=Z o
 |.xd fs=>∃ g,h.Ns1 a g/\∀ f,CI (fs.lookup f) (g f)
 |.rng lo i=>∃ t u v,h.get? a=Z { cls:=.type "range",data:=.fields #[.int lo t,.int i u,.int 1 v] }
 |.frz o u=>h.get? a=Z o/\At H h a u
 |.tbl l=>∃ j:Array Mo,h.get? a=Z { cls:=.none,data:=.fields j }/\We j.toList/\∃ (q:Str) (t:Nat),l[0]?=Z (.str q t)/\∀ i cv,R9 i j.toList=Z cv->∃ c o vs k,cv=↥c/\H c=Z (.own a)/\h.get? c=Z o/\o.data=.fields vs/\vs[1]?=Z (.str q k)
 |.met f x=>h.get? a=Z (PySem.W.methodObj ↥f ↥x)
 |.ext i=>i h/\(∃ o,h.get? a=Z o)/\∀ k j:Oz,i k->(∀ o,k.get? a=Z o->j.get? a=Z o)->i j
def B9 (H:Hp)(h:Oz):Prop:=∀ a o,H a=Z o->At P w H h a o
end
section
variable {P:MY}{w:Nr}{H H':Hp}{h h':Oz}{a:MF}{o:HO}
def At.lt (x:At P w H h a o):a<h.objs.size:=by
 cases o with
 |lst c=>obtain⟨_,_,_,_,e⟩:=x;show Mr e
 |tup c=>obtain⟨_,_,_,p⟩:=x;show p.lt
 |dK b=>obtain⟨_,_,_,_,o,_,_,e,_⟩:=x;show Mr e
 |dT b=>obtain⟨_,_,_,_,o,_,_,e,_⟩:=x;show Mr e
 |set S n=>obtain⟨o,_,_,_,e,_⟩:=x;show Mr e
 |ins C d fs=>obtain⟨_,_,_,e,_⟩:=x;show Mr e
 |own y=>obtain⟨_,e⟩:=x;show Mr e
 |xd fs=>obtain⟨_,⟨_,_,_,e,_⟩,_⟩:=x;show Mr e
 |rng lo d=>obtain⟨_,_,_,e⟩:=x;show Mr e
 |frz d u=>obtain⟨e,_⟩:=x;show Mr e
 |tbl d=>obtain⟨_,e,_⟩:=x;show Mr e
 |met f y=>show Mr (show h.get? a=Z _ from x)
 |ext d=>obtain⟨_,⟨_,e⟩,_⟩:=x;show Mr e
theorem Paired.mapP:∀ {c:List α}{d:List β},Tc F c d->(∀ a b,F a b->G a b)->Tc G c d
 |_,_,.nil,_=>.nil
 |_,_,.cons r t,f=>.cons (f _ _ r) (Paired.mapP t f)
def At.stay (x:At P w H h a o) (k:∀ b u,(b=a\/H b=Z (.own a))->h.get? b=Z u->h'.get? b=Z u)
  (E:∀ b,H b=Z (.own a)->H' b=Z (.own a))(L:∀ b xs,H b=Z (.tup xs)->H' b=Z (.tup xs)):At P w H' h' a o:=by
 induction o with
 |lst xs=>obtain⟨z,l,n,r,e⟩:=x;show⟨z,l,n,r,k _ _ (.inl rfl) e⟩
 |tup xs=>obtain⟨z,l,r,g,e,c⟩:=x;show⟨z,l,r,g,k _ _ (.inl rfl) e,c⟩
 |dK s=>obtain⟨z,y,vs,r,g,j,i,e,c⟩:=x;show⟨z,y,vs,r,g,j,i,k _ _ (.inl rfl) e,c⟩
 |dT s=>
  obtain⟨z,y,xs,r,g,j,i,e,c⟩:=x;show⟨z,y,xs,Paired.mapP r λp q z=>⟨z.1,L _ _ z.2.1,z.2.2⟩,g,j,i,k _ _ (.inl rfl) e,c⟩
 |set S n=>obtain⟨g,j,i,t,e,c⟩:=x;show⟨g,j,i,t,k _ _ (.inl rfl) e,c⟩
 |ins C D fs=>
  obtain⟨d,z,ne,e,B,⟨A,j,i,m,c⟩,r⟩:=x;show⟨E _ d,z,ne,k _ _ (.inl rfl) e,B,⟨A,j,i,k _ _ (.inr d) m,c⟩,r⟩
 |own y=>obtain⟨g,e⟩:=x;show⟨g,k _ _ (.inl rfl) e⟩
 |xd fs=>obtain⟨B,⟨A,j,i,e,c⟩,r⟩:=x;show⟨B,⟨A,j,i,k _ _ (.inl rfl) e,c⟩,r⟩
 |rng lo m=>obtain⟨t,u,v,e⟩:=x;show⟨t,u,v,k _ _ (.inl rfl) e⟩
 |frz g u m=>obtain⟨e,q⟩:=x;show⟨k _ _ (.inl rfl) e,m q⟩
 |tbl X=>
  obtain⟨R,e,G,q,M,T,f⟩:=x;refine⟨R,k _ _ (.inl rfl) e,G,q,M,T,λm cv z=>?_⟩;obtain⟨c,J,vs,Q,I,D,F,N⟩:=f m cv z;show⟨c,J,vs,Q,I,E _ D,k _ _ (.inr D) F,N⟩
 |met f y=>
  show k a _ (.inl rfl) x
 |ext m=>obtain⟨p,⟨o,e⟩,st⟩:=x;show⟨st _ _ p λo q=>k _ _ (.inl rfl) q,⟨o,k _ _ (.inl rfl) e⟩,st⟩
def B9.lt (x:B9 P w H h)(e:H a=Z o):a<h.objs.size:=(x a o e).lt
def B9.fresh (x:B9 P w H h)(e:h.objs.size<=a):H a=none:=by
 cases q:H a with
 |none=>rfl
 |some u=>show absurd (MK (x.lt q) e) (Nq _)
def B9.kept (x:B9 P w H h)(k:∀ b u,h.get? b=Z u->h'.get? b=Z u):B9 P w H h':=λa o e=>
 (x a o e).stay (λb u _ q=>k b u q) (λ_ q=>q) λ_ _ q=>q
def B9.laid (x:B9 P w H h)(k:∀ b u,h.get? b=Z u->h'.get? b=Z u)(g:h.objs.size<=a)(new:At P w (upd H a o) h' a o):B9 P w (upd H a o) h':=λb u e=>by
 have d:=x.fresh g
 by_cases f:b=a
 .subst f;rw[ae] at e;cases e;show new
 .rw[ar f] at e;show(x b u e).stay (λc v _ q=>k c v q) (λc q=>by rw[ar (aI q d)];show q) λc i q=>by rw[ar (aI q d)];show q
end
def Rd (H:Hp)(a:MF)(u:HO):Prop:=H a=Z u\/∃ o,H a=Z (.frz o u)
def Rd.ok (r:Rd H a u)(x:B9 P w H h):At P w H h a u:=by
 rcases r with r|⟨o,r⟩
 .show x a u r
 .obtain⟨_,q⟩:=x a _ r;show q
def Kb:Option HO->Prop
 |some (.lst _)=>True
 |some (.dK _)=>True
 |some (.dT _)=>True
 |some (.set _ _)=>True
 |some (.ins _ _ _)=>True
 |some (.ext _)=>True
 |_=>False
section
variable {P:MY}{w:Nr}{H:Hp}{h h':Oz}{x e:MF}{o':HO}
def B9.write (ok:B9 P w H h) (g:Kb (H x)) (he:e=x\/H e=Z (.own x)) (k:∀ b u,b ≠ e->h.get? b=Z u->h'.get? b=Z u) (m:∃ u,h'.get? e=Z u)
  (new:At P w (upd H x o') h' x o'):B9 P w (upd H x o') h':=λb u q=>by
 have d:∀ c y,H c=Z (.own y)->c≠x:=λc y r z=>by subst z;rw[r] at g;show g
 have f:∀ c l,H c=Z (.tup l)->c≠x:=λc l r z=>by subst z;rw[r] at g;show g
 by_cases i:b=x
 .subst i;rw[ae] at q;cases q;show new
 .rw[ar i] at q
  by_cases a:b=e
  .have j:H b=Z (.own x):=by
    rcases he with z|z
    .show absurd (a\z) i
    .rw[a];show z
   rw[q] at j;cases j;obtain⟨v,n⟩:=m;show⟨v,by rw[a];show n⟩
  .refine(ok b u q).stay (λc v j r=>k c v ?_ r) (λc r=>by rw[ar (d c b r)];show r) λc l r=>by rw[ar (f c l r)];show r
   rcases j with rfl|j
   .show a
   .rintro rfl;rcases he with z|z
    .show d c b j z
    .rw[j] at z;cases z;show i rfl
end
structure Un (fs ex:List MF)(H H':Hp)(h h':Oz):Prop where
 keep:∀ b o,h.get? b=Z o->H b=none->b∉fs->b∉ex->h'.get? b=Z o
 slot:∀ b o,h.get? b=Z o->H b=none->b∈fs->b∉ex->∃ sl,h'.get? b=Z { o with slots:=sl }
 free:∀ b o,h.get? b=Z o->H b=none->b∉ex->H' b=none
 there:∀ b o,h.get? b=Z o->b∉ex->∃ o',h'.get? b=Z o'
 tups:∀ b xs,H b=Z (.tup xs)->H' b=Z (.tup xs)
 frzs:∀ b o u,H b=Z (.frz o u)->H' b=Z (.frz o u)
 tbls:∀ b ps,H b=Z (.tbl ps)->∃ more,H' b=Z (.tbl (ps++more))
section
variable {fs fs' ex ex':List MF}{H H1 H2:Hp}{h h1 h2 h':Oz}{a x e:MF}{o:HO}
def Un.any (u:Un fs ex H H1 h h1)(q:h.get? b=Z ob)(n:H b=none)(a:b∉ex):∃ d,h1.get? b=Z { ob with slots:=d }:=by
 by_cases c:b∈fs
 .show u.slot b ob q n c a
 .show⟨ob.slots,u.keep b ob q n c a⟩
def Un.kept (k:∀ b u,h.get? b=Z u->h'.get? b=Z u):Un fs ex H H h h':=
 ⟨λb a q _ _ _=>k b a q,λb a q _ _ _=>⟨a.slots,k b a q⟩,λ_ _ _ n _=>n,λb a q _=>⟨a,k b a q⟩,λ_ _ q=>q,λ_ _ _ q=>q,λ_ c q=>⟨#[],by rw[q];simp⟩⟩
def Un.refl:Un fs ex H H h h:=Un.kept λ_ _ q=>q
def Un.laid (k:∀ b u,h.get? b=Z u->h'.get? b=Z u)(d:h.objs.size<=a)(c:H a=none):Un fs ex H (upd H a o) h h' where
 keep:=λb u q _ _ _=>k b u q
 slot:=λb u q _ _ _=>⟨u.slots,k b u q⟩
 free:=λb u q n _=>by rw[ar (MH (MK (Mr q) d))];show n
 there:=λb u q _=>⟨u,k b u q⟩
 tups:=λb e q=>by rw[ar (aI q c)];show q
 frzs:=λb u e q=>by rw[ar (aI q c)];show q
 tbls:=λb f q=>⟨#[],by rw[ar (aI q c),q];simp⟩
def Un.write (c:Kb (H x))(he:e=x\/H e=Z (.own x))(k:∀ b u,b≠e->h.get? b=Z u->h'.get? b=Z u)(f:∃ u,h'.get? e=Z u):Un fs ex H (upd H x o) h h':=by
 have g:∀ b,H b=none->b≠x:=λb n z=>by subst z;rw[n] at c;show c
 have i:∀ b,H b=none->b≠e:=λb n z=>by
  subst z;rcases he with r|r
  .show g b n r
  .rw[n] at r;cases r
 have d:∀ b u,H b=Z u->¬ Kb (Z u)->b≠x:=λb u q j z=>by subst z;rw[q] at c;show j c
 refine⟨λb u q n _ _=>k b u (i b n) q,λb u q n _ _=>⟨u.slots,k b u (i b n) q⟩,λb u q n _=>by rw[ar (g b n)];show n,λb u q _=>?_,
  λb l q=>by rw[ar (d b _ q λz=>z)];show q,λb u l q=>by rw[ar (d b _ q λz=>z)];show q,λb m q=>⟨#[],by rw[ar (d b _ q λz=>z),q];simp⟩⟩
 by_cases a:b=e
 .subst a;show f
 .show⟨u,k b u a q⟩
end
def Lf (h:Oz)(H:Hp):List MF:=(NG h.objs.size).filter λa=>(H a).isSome
def GR (h:Oz)(H:Hp):Oz:=SJ h (Lf h H)
def yM (h:Oz)(H:Hp):(GR h H).objs.size=h.objs.size:=PySem.W.hideAll_size _ _
def p8 (e:h.get? b=Z o)(n:H b=none):(GR h H).get? b=Z o:=
 SK _ e λa=>by
  have q:=(List.mem_filter.mp a).2;rw[n] at q;simp at q
def acU (e:(GR h H).get? b=Z o):h.get? b=Z o/\H b=none:=by
 have a:=V' (Lf h H) e;refine⟨a,?_⟩;cases q:H b with
 |none=>rfl
 |some x=>
  have z:(GR h H).get? b=none:=So (Lf h H) (List.mem_filter.mpr ⟨Od.mpr (Mr a),by simp[q]⟩);rw[z] at e;cases e
def Dt (g h:Oz)(L:MF):List (MF×Obj):=(NG h.objs.size).filterMap λa=>if a=L\/(g.get? a).isSome=true then none else(h.get? a).map λo=>(a,o)
def vw (c:a≠L)(d:g.get? a=none)(b:h.get? a=Z o):(a,o)∈Dt g h L:=
 NA.mpr ⟨a,Od.mpr (Mr b),by simp[c,d,b]⟩
def pL (c:p∈Dt g h L):p.1≠L/\g.get? p.1=none/\h.get? p.1=Z p.2:=by
 obtain⟨b,_,e⟩:=NA.mp c
 split at e
 .cases e
 .rename_i a
  cases q:h.get? b with
  |none=>rw[q] at e;simp at e
  |some u=>
   rw[q] at e;simp only[Xb,WC] at e;subst e;refine⟨λz=>a (.inl z),?_,q⟩;cases r:g.get? b with
   |none=>rfl
   |some v=>show(a (.inr (by simp[r]))).elim
def AQ (g h:Oz)(L d:MF):List (MF×Obj):=(Dt g h L).filter λp=>decide (p.1≠d)
def aaD:News g L h (Dt g h L):=λp d=>let ⟨a,b,c⟩:=pL d;⟨c,a,b⟩
abbrev _root_.O':=Str->Option Mo
structure Mod (K:KE)(mg:O')(base:Oz):Prop where
 kin:K.In base
 glob:base.Ns ME mg
 blt:∃ mb,base.Ns RO mb/\∀ x:Str,x≠"__name__"->mb x=Ny x
 nolimit:base.NoLimit
 bm:∃ bm o,mg "__builtins__"=Z ↥bm/\bm≠RO/\base.get? bm=Z o/\o.cls=.type "module"/\o.dict=Z RO/\o.data=.plain
structure Cx where
 prog:MY
 w:Nr
 K:KE
 mg:Str->Option Mo
 base:Oz
 A:Nw
 N:List Str
 s₀:Mt
 H₀:Hp
 env:Env
 outer:List Env
 stack:List Env
 ex:List MF
 fn:Str->Bool
 calm:Bool
 pn:List (MF×Obj)
 xe:Mo->Mt->Prop
def BJ (l:List Env):List MF:=l.filterMap (·.frame)
abbrev Cx.fs (X:Cx):List MF:=BJ X.outer
def Kr (a:Qw)(x:Str):Prop:=a.names.lookup x=Z .local\/a.names.lookup x=Z .cell\/a.names.lookup x=Z .free
def JJ (a:Qw)(x:Str):Prop:=a.names.lookup x=Z .local\/a.names.lookup x=Z .cell
def LA (env:Env)(h:Oz)(m:O')(x:Str)(u:Mo):Prop:=
 (env.kindOf x=Z .local/\m x=Z u)\/((env.kindOf x=Z .cell\/env.kindOf x=Z .free)/\∃ c,env.cells.lookup x=Z c/\h.IsCell c (Z u))
structure Cx.Ok (X:Cx):Prop where
 mod:Mod X.K X.mg X.base
 kind:X.env.scope.kind=.function
 glob:X.env.globals=ME
 blt:X.env.builtins=RO
 above:X.s₀.heap.objs.size<=X.env.locals
 inj:∀ x y c,X.env.cells.lookup x=Z c->X.env.cells.lookup y=Z c->x=y
 has:∀ x,(X.env.kindOf x=Z .cell\/X.env.kindOf x=Z .free)->∃ c,X.env.cells.lookup x=Z c
 cab:∀ x c,X.fn x=true->X.env.cells.lookup x=Z c->X.s₀.heap.objs.size<=c
 hd:X.calm=true->X.A.handled=none
 frames:X.A.frames=Z X.stack
 stk:X.stack=X.outer\/(X.stack=X.env::X.outer/\X.env.frame=Z X.env.locals)
 exf:∀ b∈X.ex,b≠X.env.locals/\∀ x c,X.env.cells.lookup x=Z c->c≠b
 bs:∀ b o,X.base.get? b=Z o->X.s₀>>b=Z o/\X.H₀ b=none
 bsz:X.base.objs.size<=X.s₀.heap.objs.size
 noex:∀ b o,X.base.get? b=Z o->b∉X.ex
 exfs:∀ b∈X.ex,b∉X.fs
 funs:X.s₀.heap.FunFrames X.base X.outer
 frf:∀ b∈X.fs,X.H₀ b=none
abbrev _root_.Lb:=List (MF×Obj)
structure Ag (X:Cx)(pins:Lb)(σ:List (Option V))(H:Hp)(s:Mt):Prop where
 ok:X.Ok
 os:s.os=X.s₀.os
 bare:UR s.gens
 base:Un X.fs X.ex X.H₀ H X.s₀.heap s.heap
 loc:∃ m,s.heap.Ns X.env.locals m/\∀ (i:Nat) (x:Str) (v:V),X.N[i]?=Z x->σ[i]?=Z (Z v)->Kr X.env.scope x->∃ u,Ao v u/\LA X.env s.heap m x u
 cell:∀ x c,X.env.cells.lookup x=Z c->∃ v,s.heap.IsCell c v
 free:H X.env.locals=none
 freeC:∀ x c,X.env.cells.lookup x=Z c->H c=none
 pin:∀ p∈X.pn++pins,s>>p.1=Z p.2/\H p.1=none/\p.1≠X.env.locals/\p.1∉X.fs/\∀ v,p.2.data≠.cell v
 hok:B9 X.prog X.w H s.heap
 len:⇑σ=⇑X.N
variable {X:Cx}{pins:Lb}
section
variable {σ:List (Option V)}{H H':Hp}{s:Mt}{h':Oz}
def Cx.Ok.nofr (ok:X.Ok)(e:X.base.get? b=Z o):b∉X.fs:=λa=>by
 have:=(ok.funs.mem a).1;rw[e] at this;cases this
def Ag.bs (I:Ag X pins σ H s):∀ b o,X.base.get? b=Z o->s>>b=Z o/\H b=none:=λb o e=>
 ⟨I.base.keep b o (I.ok.bs b o e).1 (I.ok.bs b o e).2 (I.ok.nofr e) (I.ok.noex b o e),I.base.free b o (I.ok.bs b o e).1 (I.ok.bs b o e).2 (I.ok.noex b o e)⟩
def Ag.bk (I:Ag X pins σ H s):∀ b o,X.base.get? b=Z o->s>>b=Z o:=λb o e=>(I.bs b o e).1
def Ag.mod (I:Ag X pins σ H s):Mod X.K X.mg X.base:=I.ok.mod
def Ag.kIn (I:Ag X pins σ H s):X.K.In s.heap:=I.ok.mod.kin.keeps I.bk
def Ag.lt (I:Ag X pins σ H s):X.env.locals<s⁻¹:=let ⟨_,hn,_⟩:=I.loc;hn.lt
def Ag.sz (I:Ag X pins σ H s):X.s₀.heap.objs.size<=s⁻¹:=M1 I.ok.above (N4 I.lt)
def Ag.nofs (I:Ag X pins σ H s)(h:s⁻¹<=a):a∉X.fs:=λb=>by
 obtain⟨_,o,c,_⟩:=I.ok.funs.mem b;show absurd (MK (Mr c) (M1 I.sz h)) (Nq _)
def Ag.cne (I:Ag X pins σ H s):∀ x c,X.env.cells.lookup x=Z c->c≠X.env.locals:=λx c e z=>by
 obtain⟨v,o,f,d⟩:=I.cell x c e;obtain⟨m,⟨g,i,h,b,a,_⟩,_⟩:=I.loc;rw[z,b] at f;cases f;rw[a] at d;cases d
def Ag.funs (I:Ag X pins σ H s):s.heap.FunFrames X.base X.outer:=by
 have all:∀ (l:List Env),(∀ b∈BJ l,b∈X.fs)->X.s₀.heap.FunFrames X.base l->s.heap.FunFrames X.base l:=by
  intro l
  induction l with
  |nil=>intro _ _;trivial
  |cons i r h=>
   intro f p;obtain⟨j,⟨L,o,d,g,m,k⟩,n⟩:=p;have a:=f L (by unfold BJ;rw[Q1,d];show MS);obtain⟨q,e⟩:=I.base.slot L o m (I.ok.frf L a) a λz=>I.ok.exfs L z a
   show⟨j,⟨L,_,d,g,e,k⟩,h (λb c=>f b (by unfold BJ;rw[Q1,d];show Mx _ c)) n⟩
 show all X.outer (λ_ c=>c) I.ok.funs
def Ag.stack (I:Ag X pins σ H s):s.heap.FunFrames X.base X.stack:=by
 rcases I.ok.stk with e|⟨e,b⟩
 .rw[e];show I.funs
 .rw[e];obtain⟨m,a,_⟩:=I.loc;show .cons (by rw[I.ok.kind];decide) b a (Sk (M1 I.ok.bsz I.ok.above)) I.funs
def Ag.stkSub (I:Ag X pins σ H s):∀ b∈BJ X.stack,b∈X.env.locals::X.fs:=λb a=>by
 rcases I.ok.stk with e|⟨e,c⟩
 .rw[e] at a;show Mx _ a
 .rw[e] at a;unfold BJ at a;rw[Q1,c] at a;show a
def Ag.stkFree (I:Ag X pins σ H s):∀ b∈BJ X.stack,H b=none:=λb a=>by
 rcases MA.mp (I.stkSub b a) with e|a
 .rw[e];show I.free
 .obtain⟨_,o,c,_⟩:=I.ok.funs.mem a;show I.base.free b o c (I.ok.frf b a) λz=>I.ok.exfs b z a
def Ag.step {g':Array GenState}{t':Nat}{d':Drawn}{ch:List MF} (I:Ag X pins σ H s)
  (f:∀ b∈ch,(b∈X.ex\/X.s₀.heap.objs.size<=b)/\b≠X.env.locals/\(∀ x c,X.env.cells.lookup x=Z c->c≠b)/\∀ p∈X.pn++pins,p.1≠b)
  (keep:∀ b o,b≠X.env.locals->b∉X.fs->b∉ch->s>>b=Z o->H b=none->h'.get? b=Z o)
  (y:∀ b o,b≠X.env.locals->b∈X.fs->b∉ch->s>>b=Z o->H b=none->∃ S,h'.get? b=Z { o with slots:=S })(free:∀ b o,b∉ch->s>>b=Z o->H b=none->H' b=none)
  (there:∀ b o,b∉ch->s>>b=Z o->∃ D,h'.get? b=Z D)
  (C:∀ b xs,H b=Z (.tup xs)->H' b=Z (.tup xs))(E:∀ b o u,H b=Z (.frz o u)->H' b=Z (.frz o u))(G:∀ b M,H b=Z (.tbl M)->∃ L,H' b=Z (.tbl (M++L)))
  (ns:∀ m,s.heap.Ns X.env.locals m->h'.Ns X.env.locals m)(R:B9 X.prog X.w H' h')(hg:UR g'):
  Ag X pins σ H' { s with heap:=h',gens:=g',drawn:=d',toks:=t' }:=by
 have J:∀ b o,X.s₀>>b=Z o->b≠X.env.locals:=λb o e=>MH (MK (Mr e) I.ok.above)
 have j:∀ b o,X.s₀>>b=Z o->b∉X.ex->b∉ch:=λb o e a A=>by
  rcases(f b A).1 with z|z
  .show a z
  .show absurd (MK (Mr e) z) (Nq _)
 have h:∀ x c,X.env.cells.lookup x=Z c->∀ v,s.heap.IsCell c v->h'.IsCell c v:=λx c e v ⟨o,B,Q⟩=>by
  have g:c∉ch:=λz=>(f c z).2.2.1 x c e rfl
  by_cases T:c∈X.fs
  .obtain⟨S,q⟩:=y c o (I.cne x c e) T g B (I.freeC x c e);show⟨_,q,Q⟩
  .show⟨o,keep c o (I.cne x c e) T g B (I.freeC x c e),Q⟩
 refine⟨I.ok,I.os,hg,⟨λb o e n A a=>?_,λb o e n A a=>?_,λb o e n a=>?_,λb o e a=>?_,λb xs e=>C b xs (I.base.tups b xs e),λb o xs e=>E b o xs (I.base.frzs b o xs e),λb M e=>?_⟩,?_,λx c e=>?_,?_,λx c e=>?_,λp hp=>?_,R,I.len⟩
 .show keep b o (J b o e) A (j b o e a) (I.base.keep b o e n A a) (I.base.free b o e n a)
 .obtain⟨S,t⟩:=I.base.slot b o e n A a;obtain⟨N,F⟩:=y b _ (J b o e) A (j b o e a) t (I.base.free b o e n a);show⟨N,F⟩
 .obtain⟨D,t⟩:=I.base.there b o e a;show free b D (j b o e a) t (I.base.free b o e n a)
 .obtain⟨D,t⟩:=I.base.there b o e a;show there b D (j b o e a) t
 .obtain⟨m1,t⟩:=I.base.tbls b M e;obtain⟨N,F⟩:=G b _ t;show⟨m1++N,by rw[F,Array.append_assoc]⟩
 .obtain⟨m,N,hl⟩:=I.loc;refine⟨m,ns m N,λi x v t F e3=>?_⟩;obtain⟨u,r,l⟩:=hl i x v t F e3;refine⟨u,r,?_⟩;rcases l with l|⟨k,c,e,z⟩
  .show .inl l
  .show .inr ⟨k,c,e,h x c e _ z⟩
 .obtain⟨v,z⟩:=I.cell x c e;show⟨v,h x c e v z⟩
 .obtain⟨m,⟨o,_,_,B,_⟩,_⟩:=I.loc;show free _ o (λz=>(f _ z).2.1 U) B I.free
 .obtain⟨v,o,B,Q⟩:=I.cell x c e;show free c o (λz=>(f c z).2.2.1 x c e rfl) B (I.freeC x c e)
 .obtain⟨e,n,ne,N,d⟩:=I.pin p hp;have g:p.1∉ch:=λz=>(f p.1 z).2.2.2 p hp rfl
  show⟨keep p.1 p.2 ne N g e n,free p.1 p.2 g e n,ne,N,d⟩
def Ag.un {t':Nat}(I:Ag X pins σ H s)(u:Un X.fs [] H H' s.heap h')(f:B9 X.prog X.w H' h'):Ag X pins σ H' { s with heap:=h',toks:=t' }:=by
 obtain⟨m,⟨o,t,q,h,r⟩,_⟩:=id I.loc;obtain⟨v,i⟩:=u.any h I.free zyA;show I.step (ch:=[]) (λ_ z=>nomatch z) (λb o _ c _ e n=>u.keep b o e n c zyA) (λb o _ c _ e n=>u.slot b o e n c zyA) (λb o _ e n=>u.free b o e n zyA) (λb o _ e=>u.there b o e zyA) u.tups u.frzs u.tbls (λl k=>by
  obtain⟨p,g,d,a,j⟩:=k;rw[h] at a;cases a;show⟨_,g,d,i,j⟩) f I.bare
def Ag.call {l:Array GenState}{t':Nat}{d':Drawn}{ch:List MF} (I:Ag X pins σ H s) (u:Un (BJ X.stack) ch H H' s.heap h') (i:B9 X.prog X.w H' h') (y:UR l)
  (d:∀ b∈ch,(b∈X.ex\/X.s₀.heap.objs.size<=b)/\b≠X.env.locals/\(∀ x c,X.env.cells.lookup x=Z c->c≠b)/\∀ p∈X.pn++pins,p.1≠b):
  Ag X pins σ H' { s with heap:=h',gens:=l,drawn:=d',toks:=t' }:=by
 obtain⟨m,⟨o,D,C,k,r⟩,_⟩:=id I.loc;obtain⟨E,g⟩:=u.any k I.free λz=>(d _ z).2.1 U
 show I.step d (λb o g v a e n=>u.keep b o e n (λz=>(MA.mp (I.stkSub b z)).elim g v) a) (λb o _ _ a e n=>u.any e n a) (λb o a e n=>u.free b o e n a) (λb o a e=>u.there b o e a) u.tups u.frzs u.tbls (λA t=>by
  obtain⟨B,j,h,f,q⟩:=t;rw[k] at f;cases f;show⟨_,j,h,g,q⟩) i y
def Ag.turned {t':Nat}{a:MF} (I:Ag X pins σ H s) (k:∀ b o,b ≠ a->s>>b=Z o->h'.get? b=Z o) (i:H a=none) (g:a ≠ X.env.locals)
  (C:a∈X.ex\/X.s₀.heap.objs.size<=a)(A:∀ x c,X.env.cells.lookup x=Z c->c≠a)(h:∀ p∈X.pn++pins,p.1≠a):Ag X pins σ H { s with heap:=h',toks:=t' }:=by
 have f:∀ b u,H b=Z u->b≠a:=λb u e z=>by rw[z,i] at e;cases e
 refine I.step (ch:=[a]) (λb l=>?_) (λb o _ _ d e _=>k b o (λz=>d (by simp[z])) e) (λb o _ _ d e _=>⟨o.slots,k b o (λz=>d (by simp[z])) e⟩) (λ_ _ _ _ n=>n)
  (λb o d e=>⟨o,k b o (λz=>d (by simp[z])) e⟩) (λ_ _ e=>e) (λ_ _ _ e=>e) (λb D e=>⟨#[],by rw[e];simp⟩) (λm j=>?_) (λb u e=>?_) I.bare
 .have e:b=a:=by simpa using l
  subst e;show⟨C,g,A,h⟩
 .obtain⟨o,y,t,B,r⟩:=j;show⟨o,y,t,k _ o (Om g) B,r⟩
 .refine(I.hok b u e).stay (λc v d q=>k c v ?_ q) (λ_ q=>q) λ_ _ q=>q
  rcases d with z|z
  .rw[z];show f b u e
  .show f c _ z
def Ag.tok (I:Ag X pins σ H s)(t:Nat):Ag X pins σ H { s with toks:=t }:=I.un (h':=s.heap) (t':=t) Un.refl I.hok
def Ag.kept (I:Ag X pins σ H s)(k:∀ b u,s>>b=Z u->h'.get? b=Z u):Ag X pins σ H { s with heap:=h',toks:=t' }:=I.un (Un.kept k) (I.hok.kept k)
def Ag.laid (I:Ag X pins σ H s) (k:∀ b u,s>>b=Z u->h'.get? b=Z u) (c:s⁻¹ <= a) (new:At X.prog X.w (upd H a o) h' a o) :
  Ag X pins σ (upd H a o) { s with heap:=h',toks:=t' }:=I.un (Un.laid k c (I.hok.fresh c)) (I.hok.laid k c new)
def Ag.write (I:Ag X pins σ H s) (c:Kb (H x)) (he:e=x\/H e=Z (.own x)) (k:∀ b u,b ≠ e->s>>b=Z u->h'.get? b=Z u) (a:∃ u,h'.get? e=Z u)
  (new:At X.prog X.w (upd H x o) h' x o):Ag X pins σ (upd H x o) { s with heap:=h',toks:=t' }:=I.un (Un.write c he k a) (I.hok.write c he k a new)
def Ag.pins_of (I:Ag X pins σ H s)(h:∀ p∈pins',s>>p.1=Z p.2/\H p.1=none/\p.1≠X.env.locals/\p.1∉X.fs/\∀ v,p.2.data≠.cell v):Ag X pins' σ H s:=
 ⟨I.ok,I.os,I.bare,I.base,I.loc,I.cell,I.free,I.freeC,λp a=>(Nk.mp a).elim (λz=>I.pin p (Oh _ z)) (h p),I.hok,I.len⟩
def oF {N:List Str}(d:N.Nodup){i j:Nat}{x:Str}(a:N[i]?=Z x)(b:N[j]?=Z x):i=j:=by obtain⟨f,c⟩:=Mp.mp a;obtain⟨g,e⟩:=Mp.mp b;show(List.getElem_inj d).mp (c\e.symm)
abbrev _root_.My:=Mo->Mt->Prop
def qQ {M:Model}{A:Nw}{E:My}{i:Nat}{x:Str}{v:V}{u:Mo}{Q:Unit->Mt->Prop} (I:Ag X pins σ H s) (hN:X.N.Nodup) (G:X.N[i]?=Z x) (B:JJ X.env.scope x) (r:Ao v u)
  (h:∀ s',Ag X pins (σ.set i (Z v)) H s'->(∃ a,NF a s.heap s'.heap/\(a=X.env.locals\/X.env.cells.lookup x=Z a))->Q () s')(hf:X.fn x=true\/X.env.scope.names.lookup x=Z .local<|>FL):MI M A (storeName X.env x u) Q E s:=by
 obtain⟨m,hn,hl⟩:=id I.loc;have T:(X.env.scope.kind==.class||(X.env.scope.kind==.module&&X.env.locals != X.env.globals))=false:=by rw[I.ok.kind];rfl
 have Gσ:i<⇑σ:=by rw[I.len];show(Mp.mp G).1
 have cne:=I.cne;have l:∀ {a:MF}{h':Oz},(∃ o,s>>a=Z o/\H a=none)->NF a s.heap h'->B9 X.prog X.w H h':=λ{a h'} ha f b ob e=>by
  obtain⟨_,_,C⟩:=ha;refine(I.hok b ob e).stay (λc w' t q=>f.2 c ?_\q) (λ_ q=>q) λ_ _ q=>q
  rintro rfl;rcases t with rfl|t
  .rw[C] at e;cases e
  .rw[C] at t;cases t
 rcases B with F|F
 .refine Sb F hn (λh' S f=>?_) T;obtain⟨oL,_,_,J,_⟩:=id hn;refine h _ ⟨I.ok,I.os,I.bare,⟨λb o e n L B=>?_,λb o e n L B=>?_,I.base.free,λb o e B=>?_,I.base.tups,I.base.frzs,I.base.tbls⟩,⟨_,S,λj y v' g D e3=>?_⟩,λy c e=>?_,I.free,I.freeC,λp hp=>?_,l ⟨oL,J,I.free⟩ f,by simpa using I.len⟩ ⟨_,f,.inl rfl⟩
  .show(f.2 b (MH (MK (Mr e) I.ok.above))).trans (I.base.keep b o e n L B)
  .obtain⟨sl,g⟩:=I.base.slot b o e n L B;show⟨sl,f.2 b (MH (MK (Mr e) I.ok.above))\g⟩
  .obtain⟨o',g⟩:=I.base.there b o e B;show⟨o',f.2 b (MH (MK (Mr e) I.ok.above))\g⟩
  .by_cases R:j=i
   .subst R;rw[G] at g;cases g;rw[UI Gσ] at D;cases D;show⟨u,r,.inl ⟨F,zyA⟩⟩
   .rw[Sn (Om R)] at D;obtain⟨u',r',q⟩:=hl j y v' g D e3;refine⟨u',r',?_⟩;rcases q with ⟨k,e⟩|⟨k,c,e,z⟩
    .refine .inl ⟨k,?_⟩;have:y≠x:=λe=>R (oF hN g (e▸G))
     simp[this,e]
    .show .inr ⟨k,c,e,z.sameBut f (cne y c e)⟩
  .obtain⟨w',z⟩:=I.cell y c e;show⟨w',z.sameBut f (cne y c e)⟩
  .obtain⟨e,n,ne,nf,d⟩:=I.pin p hp;show⟨f.2 p.1 ne\e,n,ne,nf,d⟩
 .have J:X.fn x=true:=by
   rcases hf with z|z
   .show z
   .rw[z] at F;cases F
  obtain⟨c,t⟩:=I.ok.has x (.inl F);obtain⟨w',z⟩:=I.cell x c t;refine wpAny_storeName_cell I.ok.kind F t z (λh' hc' f=>?_);obtain⟨oc,hoc,S⟩:=id z;refine h { s with heap:=h' } ⟨I.ok,I.os,I.bare,⟨λb o e n L B=>?_,λb o e n L B=>?_,I.base.free,λb o e B=>?_,I.base.tups,I.base.frzs,I.base.tbls⟩,⟨m,hn.sameBut f (Om (cne x c t)),λj y v' g D e3=>?_⟩,λy c' e=>?_,I.free,I.freeC,λp hp=>?_,l ⟨oc,hoc,I.freeC x c t⟩ f,by simpa using I.len⟩ ⟨c,f,.inr t⟩
  .show(f.2 b (MH (MK (Mr e) (I.ok.cab x c J t)))).trans (I.base.keep b o e n L B)
  .obtain⟨sl,g⟩:=I.base.slot b o e n L B;show⟨sl,f.2 b (MH (MK (Mr e) (I.ok.cab x c J t)))\g⟩
  .obtain⟨o',g⟩:=I.base.there b o e B;show⟨o',f.2 b (MH (MK (Mr e) (I.ok.cab x c J t)))\g⟩
  .by_cases R:j=i
   .subst R;rw[G] at g;cases g;rw[UI Gσ] at D;cases D;show⟨u,r,.inr ⟨.inl F,c,t,hc'⟩⟩
   .rw[Sn (Om R)] at D;obtain⟨u',r',q⟩:=hl j y v' g D e3;refine⟨u',r',?_⟩;rcases q with q|⟨k,c',e,z'⟩
    .show .inl q
    .refine .inr ⟨k,c',e,z'.sameBut f ?_⟩;rintro rfl;show R (oF hN g (I.ok.inj _ _ _ e t▸G))
  .by_cases hcc:c'=c
   .subst hcc;show⟨_,hc'⟩
   .obtain⟨w2,z2⟩:=I.cell y c' e;show⟨w2,z2.sameBut f hcc⟩
  .obtain⟨e,n,ne,nf,d⟩:=I.pin p hp;refine⟨f.2 p.1 ?_\e,n,ne,nf,d⟩;intro q;rw[q,hoc] at e;show d w' (by rw[<- (Mn e)];show S)
def iC (I:Ag X pins σ H s) (e:X.N.Nodup) (c:X.N[i]?=Z x) (b:JJ X.env.scope x) (r:Ao v u)
  (h:∀ a,Ag X pins (σ.set i (Z v)) H a->Q () a)(f:X.fn x=true\/X.env.scope.names.lookup x=Z .local<|>FL):MI M A (storeName X.env x u) Q E s:=
 qQ I e c b r (λa d _=>h a d) f
def Ag.call' (I:Ag X pins σ H s) (g:s'.os=s.os) (u:Un (BJ X.stack) ch H H' s.heap s'.heap) (d:B9 X.prog X.w H' s'.heap) (f:UR s'.gens)
  (a:∀ b∈ch,(b∈X.ex\/X.s₀.heap.objs.size<=b)/\b≠X.env.locals/\(∀ x c,X.env.cells.lookup x=Z c->c≠b)/\∀ p∈X.pn++pins,p.1≠b):Ag X pins σ H' s':=by
 obtain⟨h',h,k,i,j⟩:=s';have e:=g;subst e;show I.call u d f a
end
abbrev XK:=Mo->Option MF->Hp->Prop
abbrev St:=List (Option V)
abbrev VK:=V->Hp->Prop
abbrev TE:=St->Hp->VK->Prop
abbrev TT:=St->Hp->(Bool->Hp->Prop)->Prop
abbrev TA:=St->Hp->(List V->Hp->Prop)->Prop
structure EK where
 nx:St->Hp->Prop
 rt:VK
 bk:St->Hp->Prop:=λ_ _=>False
 ct:St->Hp->Prop:=λ_ _=>False
abbrev TS:=EK->St->Hp->Prop
def EP (X:Cx)(a:Lb)(d:St)(Q:VK)(u:Mo)(c:Mt):Prop:=∃ v b,Ag X a d b c/\Ao v u/\Q v b
abbrev _root_.X6:=Bool->Hp->Prop
def TP (X:Cx)(a:Lb)(e:St)(Q:X6)(b:Bool)(d:Mt):Prop:=∃ c,Ag X a e c d/\Q b c
abbrev _root_.SS:=List V->Hp->Prop
def AP (X:Cx)(a:Lb)(d:St)(Q:SS)(e:List Mo)(c:Mt):Prop:=∃ vs b,Ag X a d b c/\Ah vs e/\Q vs b
def SP (X:Cx)(b:Lb)(D:EK)(f:Flow)(d:Mt):Prop:=
 match f with
 |.next=>∃ a c,Ag X b a c d/\D.nx a c
 |.brk=>∃ a c,Ag X b a c d/\D.bk a c
 |.cont=>∃ a c,Ag X b a c d/\D.ct a c
 |.ret u=>∃ v a c,Ag X b a c d/\Ao v u/\D.rt v c
noncomputable def qE (X:Cx)(e:OZ)(t:TE):Prop:=
 ∀ (a:Lb) (s:Mt) (b:St) (H:Hp) (Q:VK),Ag X a b H s->t b H Q->MI (MW X.prog X.w) X.A (QA e X.env) (EP X a b Q) X.xe s
structure PE (X:Cx)(e:OZ)(t:TE):Prop where
 go:qE X e t
instance {X:Cx}{e:OZ}{t:TE}:CoeFun (PE X e t) λ_=>qE X e t:=⟨PE.go⟩
noncomputable def qT (X:Cx)(e:OZ)(t:TT):Prop:=
 ∀ (a:Lb) (s:Mt) (b:St) (H:Hp) (Q:X6),Ag X a b H s->t b H Q->MI (MW X.prog X.w) X.A (isTrue e X.env (QA e X.env)) (TP X a b Q) X.xe s
structure PT (X:Cx)(e:OZ)(t:TT):Prop where
 go:qT X e t
instance {X:Cx}{e:OZ}{t:TT}:CoeFun (PT X e t) λ_=>qT X e t:=⟨PT.go⟩
noncomputable def qW (X:Cx)(e:OZ)(t:TT):Prop:=
 ∀ (b:Sem Mo) (a:Lb) (s:Mt) (c:St) (H:Hp) (Q:X6),Ag X a c H s->t c H Q->MI (MW X.prog X.w) X.A (isTrue e X.env b) (TP X a c Q) X.xe s
structure PW (X:Cx)(e:OZ)(t:TT):Prop where
 go:qW X e t
instance {X:Cx}{e:OZ}{t:TT}:CoeFun (PW X e t) λ_=>qW X e t:=⟨PW.go⟩
def PW.pt (h:PW X e t):PT X e t:=⟨h _⟩
noncomputable def qA (X:Cx)(es:List OZ)(t:TA):Prop:=
 ∀ (c:Pos) (a:Lb) (s:Mt) (b:St) (H:Hp) (Q:SS),Ag X a b H s->t b H Q->MI (MW X.prog X.w) X.A (spliced (Qx c (M0 es X.env))) (AP X a b Q) X.xe s
structure PA (X:Cx)(es:List OZ)(t:TA):Prop where
 go:qA X es t
instance {X:Cx}{es:List OZ}{t:TA}:CoeFun (PA X es t) λ_=>qA X es t:=⟨PA.go⟩
noncomputable def qS (X:Cx)(st:On)(t:TS):Prop:=
 ∀ (a:Lb) (s:Mt) (b:St) (H:Hp) (D:EK),Ag X a b H s->t D b H->MI (MW X.prog X.w) X.A (exec st X.env) (SP X a D) X.xe s
structure PS (X:Cx)(st:On)(t:TS):Prop where
 go:qS X st t
instance {X:Cx}{st:On}{t:TS}:CoeFun (PS X st t) λ_=>qS X st t:=⟨PS.go⟩
def L5 (X:Cx)(st:List On)(t:TS):Prop:=
 ∀ (a:Lb) (s:Mt) (b:St) (H:Hp) (D:EK),Ag X a b H s->t D b H->MI (MW X.prog X.w) X.A (execs st X.env) (SP X a D) X.xe s
structure EH (X:Cx)(st:List On)(t:TS):Prop where
 go:L5 X st t
instance {X:Cx}{st:List On}{t:TS}:CoeFun (EH X st t) λ_=>L5 X st t:=⟨EH.go⟩
def bo (h:MI M A t Q E s)(b:∀ a s,Q a s->Q' a s):MI M A t Q' E s:=NI h b λ_ _ x=>x
variable {pos:Pos}
section
inductive BC (i:Nat)(σ:St)(H:Hp)(Q:VK):Prop
 |mk (v:V) (_:σ[i]?=Z (Z v)) (_:Q v H)
noncomputable def tC (v:V):TE:=λ_ H Q=>Q v H
def afj (y:X.N[i]?=Z x)(q:Kr X.env.scope x)(j:(x==("__debug__":Str))=false<|>Cb)(g:(x==("__classdict__":Str))=false<|>Cb):PE X (.Name x pos) (BC i):=by
 refine⟨λf s n H Q I h=>?_⟩;obtain⟨v,e,h⟩:=h;obtain⟨m,o,t⟩:=I.loc;obtain⟨u,r,l⟩:=t i x v y e q;have b:EP X f n Q u s:=⟨v,H,I,r,h⟩
 rcases l with ⟨d,p⟩|⟨d,c,k,a⟩
 .show Rc (O_ I.ok.kind d o p b) j
 .rcases d with d|d
  .show Rc (wpAny_loadName_cell I.ok.kind d k a b) j
  .show Rc (SY I.ok.kind d k a b g) j
def aa {i j pos}:PE X (.Constant ↑i j pos) (tC ↑i):=⟨λ_ _ _ H _ I h=>wpAny_Constant_int ⟨↑i,H,I.tok _,⟨_,U⟩,h⟩⟩
def eF {b j pos}:PE X (.Constant (.bool b) j pos) (tC (.bl b)):=⟨λ_ _ _ H _ I h=>Constant_bool ⟨.bl b,H,I,U,h⟩⟩
def fh {j pos}:PE X (.Constant .none j pos) (tC .non):=⟨λ_ _ _ H _ I h=>Constant_none ⟨.non,H,I,U,h⟩⟩
def c7 {x j pos}:PE X (.Constant (.str x) j pos) (tC (.str x)):=⟨λ_ _ _ H _ I h=>Calls.Constant_str ⟨.str x,H,I.tok _,⟨_,U⟩,h⟩⟩
def Gl (X:Cx)(x:Str):Prop:=X.env.kindOf x=Z .globalImplicit
def eB (I:Ag X pins σ H s) (b:Gl X x) (a:X.mg x=Z u) (h:Q u s)
  (c:(x==("__debug__":Str))=false<|>Cb):MI (MW X.prog X.w) X.A (QA (.Name x pos) X.env) Q E s:=
 S0 I.ok.kind b (Calls.loadGlobal_global (by rw[I.ok.glob];show I.mod.glob.keeps I.bk) a h) c
def gH (I:Ag X pins σ H s) (d:Gl X x) (c:X.mg x=none) (g:Ny x=Z u) (h:Q u s)
  (b:x≠"__name__"<|>Cb)(e:(x==("__debug__":Str))=false<|>Cb):MI (MW X.prog X.w) X.A (QA (.Name x pos) X.env) Q E s:=by
 obtain⟨i,a,f⟩:=I.mod.blt;show S0 I.ok.kind d (Calls.loadGlobal_builtin (by rw[I.ok.glob];show I.mod.glob.keeps I.bk) c (by rw[I.ok.blt];show a.keeps I.bk) (f x b\g) h) e
def adA (b:Gl X x)(a:X.mg x=Z u)(r:Ao v u)(c:(x==("__debug__":Str))=false<|>Cb):PE X (.Name x pos) (tC v):=⟨λ_ _ _ H _ I h=>eB I b a ⟨v,H,I,r,h⟩ c⟩
def bO (c:Gl X x)(b:X.mg x=none)(e:Ny x=Z u)(r:Ao v u)(a:x≠"__name__"<|>Cb)(d:(x==("__debug__":Str))=false<|>Cb):PE X (.Name x pos) (tC v):=⟨λ_ _ _ H _ I h=>gH I c b e ⟨v,H,I,r,h⟩ a d⟩
variable {a b:OZ}{ta tb:TE}
inductive L6 (x:V)(H:Hp)(Q:X6):Prop
 |mk (c:Bool) (_:x=.bl c) (_:Q c H)
noncomputable def tB (t:TE):TT:=λa H Q=>t a H λx b=>L6 x b Q
def aM (h:PE X e t)(he:(∀ a,isTrue e X.env a=(do let v <- a;VU e.pos;holding [v] (truthy v)))<|>E'):PT X e (tB t):=by refine ⟨λb s f H Q I hw=>isTrue_plain (bo (h b s f H _ I hw) λv l c=>?_) (he _)⟩;obtain⟨x,k,j,i,g⟩:=c;obtain⟨d,rfl,q⟩:=g;cases i;show NV ⟨k,j,q⟩
variable {tA tB':TT}{AQ:List OZ}
def Im (t u:TT):TT:=λa H Q=>t a H λc b=>if c=true then u a b Q else Q false b
def L_ (t u:TT):TT:=λa H Q=>t a H λc b=>if c=true then Q true b else u a b Q
def Ly (t:TT):TT:=λa H Q=>t a H λc b=>Q (!c) b
def nr (f:PT X a tA):PW X (.BoolOp .And [a] pos) tA:=by
 refine⟨λg b s d H Q I h=>isTrue_and (bo (f b s d H Q I h) λc i e=>?_)⟩;cases c with
 |true=>show isTrue_and_nil e
 |false=>show e
def dw (f:PT X a tA):PW X (.BoolOp .Or [a] pos) tA:=by
 refine⟨λg b s d H Q I h=>isTrue_or (bo (f b s d H Q I h) λc i e=>?_)⟩;cases c with
 |false=>show isTrue_or_nil e
 |true=>show e
def kE (l:PT X a tA)(k:PW X (.BoolOp .And (b::AQ) pos) tB'):PW X (.BoolOp .And (a::b::AQ) pos) (Im tA tB'):=by
 refine ⟨λm d s f H Q I h=>isTrue_and (bo (l d s f H _ I h) λc n e=>?_)⟩;obtain⟨i,g,j⟩:=e;cases c with
 |true=>show k m d n f i Q g j
 |false=>show⟨i,g,j⟩
def dS (l:PT X a tA)(k:PW X (.BoolOp .Or (b::AQ) pos) tB'):PW X (.BoolOp .Or (a::b::AQ) pos) (L_ tA tB'):=by
 refine ⟨λm d s f H Q I h=>isTrue_or (bo (l d s f H _ I h) λc n e=>?_)⟩;obtain⟨i,g,j⟩:=e;cases c with
 |true=>show⟨i,g,j⟩
 |false=>show k m d n f i Q g j
def aO (e:PT X a tA):PT X (.UnaryOp .Not a pos) (Ly tA):=by show⟨λb s d H Q I h=>isTrue_not (e b s d H (λc f=>Q (!c) f) I h)⟩
def Ke (ta tb:TE):TE:=λa H Q=>ta a H λx b=>∃ c,x=.bl c/\if c=true then tb a b Q else Q (.bl false) b
def K' (ta tb:TE):TE:=λa H Q=>ta a H λx b=>∃ c,x=.bl c/\if c=true then Q (.bl true) b else tb a b Q
def JW (ta:TE):TE:=λa H Q=>ta a H λx b=>∃ c,x=.bl c/\Q (.bl (!c)) b
def fg {op}(h:PE X a t):PE X (.BoolOp op [a] pos) t:=⟨λb s c H Q I hw=>BoolOp_one (h b s c H Q I hw)⟩
def cZ (k:PE X a ta)(m:PE X (.BoolOp .And (b::AQ) pos) tb):PE X (.BoolOp .And (a::b::AQ) pos) (Ke ta tb):=by
 refine ⟨λd s g H Q I h=>BoolOp_and (bo (k d s g H _ I h) λv n f=>?_)⟩;obtain⟨x,j,i,l,e⟩:=f;obtain⟨c,rfl,e⟩:=e;cases l;refine NV ?_;cases c with
 |true=>show m d n g j Q i e
 |false=>show⟨.bl false,j,i,U,e⟩
def aeg (k:PE X a ta)(m:PE X (.BoolOp .Or (b::AQ) pos) tb):PE X (.BoolOp .Or (a::b::AQ) pos) (K' ta tb):=by
 refine ⟨λd s g H Q I h=>BoolOp_or (bo (k d s g H _ I h) λv n f=>?_)⟩;obtain⟨x,j,i,l,e⟩:=f;obtain⟨c,rfl,e⟩:=e;cases l;refine NV ?_;cases c with
 |false=>show m d n g j Q i e
 |true=>show⟨.bl true,j,i,U,e⟩
def pV (j:PE X a ta):PE X (.UnaryOp .Not a pos) (JW ta):=by refine ⟨λb s g H Q I h=>UnaryOp_ (bo (j b s g H _ I h) λv l d=>?_)⟩;obtain⟨x,k,i,f,e⟩:=d;obtain⟨c,rfl,e⟩:=e;cases f;show not_of (NV ⟨.bl (!c),k,i,U,e⟩)
def LR (t:TT)(ta tb:TE):TE:=λa H Q=>t a H λc b=>if c=true then ta a b Q else tb a b Q
def iH (o:PT X c tA)(n:PE X a ta)(m:PE X b tb):PE X (.IfExp c a b pos) (LR tA ta tb):=by
 refine ⟨λe s f H Q I h=>wpAny_IfExp (bo (o e s f H _ I h) λd k g=>?_)⟩;obtain⟨j,i,l⟩:=g;cases d with
 |true=>show n e k f j Q i l
 |false=>show m e k f j Q i l
end
def An (K:KE)(H:Hp)(a:MF)(xs:List V):Prop:=
 Rd H a (.lst xs) \/
  ∃ (o:Obj) (b:Array Mo) (n:Nat),K.lookup a=Z o/\o.cls=.type "list"/\o.dict=none/\o.data=.seq b n/\b.size<=MO/\Ah xs b.toList
def AZ (K:KE)(H:Hp)(a:MF)(xs:List V):Prop:=
 Rd H a (.tup xs) \/
  ∃ (o:Obj) (b:Array Mo) (n:Nat),K.lookup a=Z o/\o.cls=.type "tuple"/\o.data=.seq b n/\b.size<=MO/\Ah xs b.toList
def K_:Mo->Option V
 |.none=>Z .non
 |.bool b=>Z (.bl b)
 |.int i _=>Z ↑i
 |.str x _=>Z (.str x)
 |.bytes b _=>Z (.byt b)
 |.float b _=>Z (.flt b)
 |.ref a=>Z ↥a
 |.type n=>Z (.ty n)
 |_=>none
def Ao.abs (r:Ao x u):K_ u=Z x:=by
 cases x with
 |non=>cases r;rfl
 |bl _=>cases r;rfl
 |int _=>obtain⟨t,rfl⟩:=r;rfl
 |str _=>obtain⟨t,rfl⟩:=r;rfl
 |byt _=>obtain⟨t,rfl⟩:=r;rfl
 |flt _=>obtain⟨t,rfl⟩:=r;rfl
 |ref _=>cases r;rfl
 |ty _=>cases r;rfl
def Ao.inj (r:Ao x u)(q:Ao y u):x=y:=Mn (r.abs.symm\q.abs)
theorem Ah.inj:∀ {xs ys:List V}{a:List Mo},Ah xs a->Ah ys a->xs=ys
 |_,_,_,.nil,.nil=>rfl
 |_,_,_,.cons r t,.cons c b=>by rw[r.inj c,Ah.inj t b]
section
variable {σ:St}{H:Hp}{s:Mt}{a:MF}{xs ys:List V}
def An.of {K:KE}(h:H a=Z (.lst xs)):An K H a xs:=.inl (.inl h)
def AZ.of {K:KE}(h:H a=Z (.tup xs)):AZ K H a xs:=.inl (.inl h)
def Ag.list (I:Ag X pins σ H s)(h:An X.K H a xs):∃ b:List Mo,Ah xs b/\PlainL s.heap a b.toArray/\⇑xs<=MO:=by
 rcases h with h|⟨o,b,n,f,d,c,g,i,r⟩
 .obtain⟨z,b,n,r,e⟩:=h.ok I.hok;show⟨b,r,⟨_,n,e,U,U,U⟩,z⟩
 .refine⟨b.toList,r,⟨o,n,I.kIn a o f,d,c,by simpa using g⟩,?_⟩;have e:=⇑r;simp only[ND] at e;lia
def Ag.tuple (I:Ag X pins σ H s)(h:AZ X.K H a xs):∃ b:List Mo,Ah xs b/\IsTup s.heap a b.toArray/\⇑xs<=MO:=by
 rcases h with h|⟨o,b,n,d,c,f,g,r⟩
 .obtain⟨z,b,r,p⟩:=h.ok I.hok;show⟨b,r,p,z⟩
 .refine⟨b.toList,r,⟨o,I.kIn a o d,c,n,by simpa using f⟩,?_⟩;have e:=⇑r;simp only[ND] at e;lia
def Ag.list_inj (I:Ag X pins σ H s)(h:An X.K H a xs)(h':An X.K H a ys):xs=ys:=by
 obtain⟨c,r,⟨o,n,e,_,_,d⟩,_⟩:=I.list h;obtain⟨b,j,⟨l,k,f,_,_,g⟩,_⟩:=I.list h';rw[e] at f;cases f;rw[d] at g;injection g with i _
 have:c=b:=by simpa using Rp Array.toList i
 subst this;show r.inj j
def Ag.tuple_inj (I:Ag X pins σ H s)(h:AZ X.K H a xs)(h':AZ X.K H a ys):xs=ys:=by
 obtain⟨c,r,⟨o,e,_,n,d⟩,_⟩:=I.tuple h;obtain⟨b,j,⟨l,f,_,k,g⟩,_⟩:=I.tuple h';rw[e] at f;cases f;rw[d] at g;injection g with i _
 have:c=b:=by simpa using Rp Array.toList i
 subst this;show r.inj j
end
abbrev Cx.wish (X:Cx)(E:My):Cx:={ X with xe:=E }
abbrev Cx.nox (X:Cx):Cx:=X.wish λ_ _=>False
def Cx.Ok.wish {X:Cx}(ok:X.Ok)(E:My):(X.wish E).Ok:=
 ⟨ok.mod,ok.kind,ok.glob,ok.blt,ok.above,ok.inj,ok.has,ok.cab,ok.hd,ok.frames,ok.stk,ok.exf,ok.bs,ok.bsz,ok.noex,ok.exfs,ok.funs,ok.frf⟩
def Cx.Ok.unwish {X:Cx}{E:My}(ok:(X.wish E).Ok):X.Ok:=
 ⟨ok.mod,ok.kind,ok.glob,ok.blt,ok.above,ok.inj,ok.has,ok.cab,ok.hd,ok.frames,ok.stk,ok.exf,ok.bs,ok.bsz,ok.noex,ok.exfs,ok.funs,ok.frf⟩
section
variable {σ:St}{H:Hp}{s:Mt}{E:My}
def Ag.wish (I:Ag X pins σ H s)(E:My):Ag (X.wish E) pins σ H s:=⟨I.ok.wish E,I.os,I.bare,I.base,I.loc,I.cell,I.free,I.freeC,I.pin,I.hok,I.len⟩
def Ag.unwish (I:Ag (X.wish E) pins σ H s):Ag X pins σ H s:=⟨I.ok.unwish,I.os,I.bare,I.base,I.loc,I.cell,I.free,I.freeC,I.pin,I.hok,I.len⟩
def SP.unwish (h:SP (X.wish E) pins D f s'):SP X pins D f s':=by
 cases f with
 |next=>obtain⟨a,b,I,q⟩:=h;show⟨a,b,I.unwish,q⟩
 |brk=>obtain⟨a,b,I,q⟩:=h;show⟨a,b,I.unwish,q⟩
 |cont=>obtain⟨a,b,I,q⟩:=h;show⟨a,b,I.unwish,q⟩
 |ret u=>obtain⟨v,a,b,I,r,q⟩:=h;show⟨v,a,b,I.unwish,r,q⟩
def EH.nox {st:List On}{t:TS}(h:EH X.nox st t):EH X st t:=⟨λpins s σ H D I hw=>
 NI (h pins s σ H D (I.wish _) hw) (λ_ _ q=>q.unwish) λ_ _ z=>OC z⟩
end
section
variable {st:On}{AQ:List On}{t u:TS}{e:OZ}{te:TE}
def Kl:TS:=λD a H=>D.nx a H
def Kc (t u:TS):TS:=λD a H=>t { D with nx:=u D } a H
def aE:EH X [] Kl:=⟨λ_ _ a H _ I h=>Rr ⟨a,H,I,h⟩⟩
def ac (j:PS X st t)(g:EH X AQ u):EH X (st::AQ) (Kc t u):=by
 refine⟨λa s c H D I h=>wpAny_execs_cons (bo (j a s c H { D with nx:=u D } I h) λf i q=>?_)⟩;cases f with
 |next=>
  obtain⟨b,e,d,q⟩:=q;show g a i b e D d q
 |ret v=>show q
 |brk=>show q
 |cont=>show q
def ag (b:PS X st t):EH X [st] t:=by
 refine⟨λa s c H D I h=>wpAny_execs_cons (bo (b a s c H D I h) λf d q=>?_)⟩;cases f with
 |next=>show Rr q
 |ret v=>show q
 |brk=>show q
 |cont=>show q
def Ag.quiet (I:Ag X pins σ H s):interactive X.env=false:=by simp[interactive,I.ok.kind]
def Kz (te:TE):TS:=λD a H=>te a H λ_ b=>D.nx a b
def bg (he:PE X e te)(i:SX e none pos.line X.env=pure false<|>C'):PS X (.Expr e pos) (Kz te):=by refine ⟨λa s c H D I h=>wpAny_Expr_any (bo (he a s c H _ I h) λv k b=>?_) I.quiet i⟩;obtain⟨x,g,d,j,f⟩:=b;show⟨c,g,d,f⟩
def K7 (te:TE):TS:=λD a H=>te a H D.rt
def ao (he:PE X e te):PS X (.Return (Z e) pos) (K7 te):=by refine ⟨λa s c H D I h=>wpAny_Return_some (bo (he a s c H _ I h) λv j b=>?_)⟩;obtain⟨x,g,f,d,i⟩:=b;show⟨x,c,g,f,d,i⟩
def K8 (c:TT)(t u:TS):TS:=λD a H=>c a H λb d=>if b=true then t D a d else u D a d
def aQ (o:PT X c tc)(n:EH X a t)(m:EH X b u):PS X (.If c a b pos) (K8 tc t u):=by
 refine ⟨λe s f H D I h=>wpAny_If (bo (o e s f H _ I h) λd k g=>?_)⟩;obtain⟨j,i,l⟩:=g;cases d with
 |true=>show n e k f j D i l
 |false=>show m e k f j D i l
def Ju:TS:=λ_ _ _=>False
def bG:PS X st Ju:=⟨λ_ _ _ _ _ _ h=>h.elim⟩
end
abbrev TG:=V->St->Hp->(St->Hp->Prop)->Prop
abbrev I9:=List V->St->Hp->(St->Hp->Prop)->Prop
noncomputable def qG (X:Cx)(a:OZ)(t:TG):Prop:=
 ∀ (b:Lb) (s:Mt) (d:St) (H:Hp) (v:V) (u:Mo) (Q:St->Hp->Prop),Ag X b d H s->Ao v u->t v d H Q ->
  MI (MW X.prog X.w) X.A (assign a X.env u) (λ_ f=>∃ c e,Ag X b c e f/\Q c e) X.xe s
structure PG (X:Cx)(target:OZ)(t:TG):Prop where
 go:qG X target t
instance {X:Cx}{target:OZ}{t:TG}:CoeFun (PG X target t) λ_=>qG X target t:=⟨PG.go⟩
def LX (X:Cx)(ts:List OZ)(t:I9):Prop:=
 ∀ (a:Lb) (s:Mt) (c:St) (H:Hp) (vs:List V) (d:List Mo) (Q:St->Hp->Prop),Ag X a c H s->Ah vs d->t vs c H Q ->
  MI (MW X.prog X.w) X.A (assignInOrder ((Pq ts X.env).map (·.2)) d) (λ_ f=>∃ b e,Ag X a b e f/\Q b e) X.xe s
structure IJ (X:Cx)(ts:List OZ)(t:I9):Prop where
 go:LX X ts t
instance {X:Cx}{ts:List OZ}{t:I9}:CoeFun (IJ X ts t) λ_=>LX X ts t:=⟨IJ.go⟩
abbrev JE:=V->V->V->Hp->(Hp->Prop)->Prop
def JG (X:Cx)(t:JE):Prop:=
 ∀ (a:Lb) (s:Mt) (b:St) (H:Hp) (o i v:V) (ov c u:Mo) (Q:Hp->Prop),Ag X a b H s->Ao o ov->Ao i c->Ao v u->t o i v H Q ->
  MI (MW X.prog X.w) X.A (setItem ov c u) (λ_ e=>∃ d,Ag X a b d e/\Q d) X.xe s
abbrev KG:=V->V->Hp->VK->Prop
def K3 (X:Cx)(c:Operator)(t:KG):Prop:=
 ∀ (a:Lb) (s:Mt) (b:St) (H:Hp) (x y:V) (v u:Mo) (Q:VK),Ag X a b H s->Ao x v->Ao y u->t x y H Q ->
  MI (MW X.prog X.w) X.A (inplaceOp c v u) (EP X a b Q) X.xe s
def Gg (i:Nat):TG:=λv a H Q=>Q (a.set i (Z v)) H
def ac7 (e:X.N.Nodup)(c:X.N[i]?=Z x)(b:JJ X.env.scope x)(f:X.fn x=true\/X.env.scope.names.lookup x=Z .local<|>FL):PG X (.Name x pos) (Gg i):=by show⟨λa s j H v u Q I r h=>RS (iC I e c b r (λg d=>⟨_,H,d,h⟩) f)⟩
def LG:I9:=λvs a H Q=>vs=[]/\Q a H
def J7 (t:TG)(u:I9):I9:=λvs b H Q=>∃ v r,vs=v::r/\t v b H λa c=>u r a c Q
def aK:IJ X [] LG:=by refine⟨λa s b H vs c Q I r h=>?_⟩;obtain⟨e,h⟩:=h;subst e;cases r;show T6 ⟨b,H,I,h⟩
def aj (o:PG X e t) (m:IJ X es u)
  (j:(Pq (e::es) X.env).map (·.2)=assign e X.env::(Pq es X.env).map (·.2)<|>C'):IJ X (e::es) (J7 t u):=by
 refine⟨λa s d H vs q Q I r h=>?_⟩;obtain⟨v,p,g,h⟩:=h;subst g;cases r with
 |cons r i=>
  rw[j];refine Qm (bo (o a s d H _ _ _ I r h) λ_ n c=>?_);obtain⟨b,l,k,f⟩:=c;show(m a n b l _ _ Q k i f)
def Kq (K:KE)(n:Nat)(t:I9):TG:=λv c H Q=>∃ a b,v=↥a/\AZ K H a b/\⇑b=n/\t b c H Q
def aeX (x:X.calm=true) (h:IJ X es t)
  (j:⇑(Pq es X.env)=n<|>C')(d:(Pq es X.env).findIdx? (·.1)=none<|>C'):PG X (.Tuple es k pos) (Kq X.K n t):=by
 refine⟨λc s f H v u Q I r hw=>?_⟩;obtain⟨a,A,l,hq,z,hw⟩:=hw;subst l;cases r;obtain⟨p,g,y,B⟩:=I.tuple hq;refine Tf (I.ok.hd x) y (by simp[j,<- z,⇑g]) d λi m=>?_
 have q:Ag X c f H { s with heap:=i }:=I.kept λb o e=>m b o (MH (Mr e)) e
 show h c _ f H A _ Q q (by simpa using g) hw
def Li (c f:TE)(t:JE):TG:=λv a H Q=>c a H λo d=>f a d λi e=>t o i v e λb=>Q a b
def wE (C:PE X o to) (B:PE X i ti) (q:JG X t)
  (g:∀ v,assign (.Subscript o i pos) X.env v=(do
   let ov <- holding [v] (QA o X.env)
   let b <- holding [v,ov] (QA i X.env)
   VU pos
   holding [v,ov,b] (setItem ov b v)
   release [v,ov,b] []):=by intro _;rfl):PG X (.Subscript o i pos) (Li to ti t):=by
 refine⟨λa s c H v u Q I r h=>?_⟩;rw[g];refine HD (Nv (bo (C a s c H _ I h) λov E e=>?_));obtain⟨x,D,A,n,m⟩:=e;refine (HD (Nv (bo (B a E c D _ A m) λb l f=>?_)));obtain⟨y,j,G,z,k⟩:=f;refine (HD (Pf (HD (Nv (bo (q a l c j x y v ov b u _ G n z r k) λ_ L d=>?_)))));obtain⟨F,p,J⟩:=d;show(wpAny_release ⟨c,F,p,J⟩)
def Jq (c:TE)(g:TG):TS:=λD a H=>c a H λx b=>g x a b D.nx
def dA (he:PE X e te) (k:PG X tg g) (i:swapsWithSole [tg] e pos.line X.env=pure false<|>C') (hw:swappedStores [tg] e X.env=pure none<|>C')
  (n:(Pq [tg] X.env).map (·.2)=[assign tg X.env]<|>C'):PS X (.Assign [tg] e pos) (Jq te g):=by
 refine ⟨λa s c H D I h=>wpAny_Assign_stores (bo (he a s c H _ I h) λv m b=>?_) i hw⟩;obtain⟨x,l,j,f,d⟩:=b;rw[n];show bo (k a m c l x v _ j f d) λ_ o q=>q
def aeS (p:X.N.Nodup) (m:X.N[i]?=Z x) (g:JJ X.env.scope x) (he:PE X e te) (k:SX e (Z (.Name x pos')) pos.line X.env=pure false<|>C') (j:X.fn x=true\/X.env.scope.names.lookup x=Z .local<|>FL) :
  PS X (.Assign [.Name x pos'] e pos) (Jq te (Gg i)):=by
 refine ⟨λa s c H D I h=>wpAny_Assign_Name (bo (he a s c H _ I h) λv r b=>?_) k⟩;obtain⟨y,n,l,f,d⟩:=b;show(iC l p m g f (λq o=>⟨_,n,o,d⟩) j)
def Ln (i j:Nat)(b:TA):TS:=λD a H=>b a H λvs c=>∃ v w,vs=[v,w]/\D.nx ((a.set i (Z v)).set j (Z w)) c
def oU {kt k2 pt2} (R:X.calm=true) (A:X.N.Nodup) (Q:X.N[i]?=Z x) (hj:X.N[j]?=Z y) (f:i ≠ j)
  (u:X.env.scope.names.lookup x=Z .local)(r:X.env.scope.names.lookup y=Z .local)(B:PA X [a,b] ta)
  (hw:swappedStores [.Tuple [.Name x px,.Name y py] kt pt] (.Tuple [a,b] k2 pt2) X.env=pure (Z [x,y]))
  (L:swapsWithSole [.Tuple [.Name x px,.Name y py] kt pt] (.Tuple [a,b] k2 pt2) pos.line X.env=pure false<|>C'):
  PS X (.Assign [.Tuple [.Name x px,.Name y py] kt pt] (.Tuple [a,b] k2 pt2) pos) (Ln i j ta):=by
 refine⟨λc s n H D I h=>?_⟩;rw[exec_Assign_arm];refine HD (Pf ?_);rw[L];refine HD (Mm ?_);rw[MZ O];refine HD (Tuple_ (bo (B _ c s n H _ I h) λT d l=>?_));obtain⟨vs,z,M,C,g⟩:=l;obtain⟨v,w,F,g⟩:=g;subst F;obtain⟨u1,u2,rfl,S,m⟩:∃ u1 u2,T=[u1,u2]/\Ao v u1/\Ao w u2:=by
  cases C with
  |cons p q=>
   cases q with
   |cons J E=>
    cases E;show⟨_,_,U,p,J⟩
 refine No ?_ (O:2<=MO);have I2:Ag X c n z { d with heap:=d.heap.push { cls:=.type "tuple",data:=.seq [u1,u2].toArray } }:=M.kept λb o e=>Ml _ e
 rw[hw];refine HD (Mm ?_);refine HD (Pr (HD (unpackItems_tuple (items:=#[u1,u2]) (I.ok.hd R) (IsTup.new d.heap _) λh' k=>?_)));refine HD (Qm (wpAny_bindName (iC (I2.kept (h':=h') (t':=d.toks) λb o e=>k b o (MH (Mr e)) e) A hj (.inl r) m (λs2 G=>(Qm (wpAny_bindName (iC G A Q (.inl u) S (λs3 t=>T6 (Mm ?_)) (.inr u))))) (.inr r))));rw[List.set_comm _ _ (Om f)] at t;show⟨_,z,t,g⟩
def Lx (i:Nat)(e:TE)(d:KG):TS:=λD a H=>∃ x,a[i]?=Z (Z x)/\e a H λy b=>d x y b λz c=>D.nx (a.set i (Z z)) c
def abB (hN:X.N.Nodup) (t:X.N[i]?=Z x) (n:JJ X.env.scope x) (he:PE X e te) (ho:K3 X op ti) (R:X.fn x=true\/X.env.scope.names.lookup x=Z .local<|>FL) :
  PS X (.AugAssign (.Name x pos') op e pos) (Lx i te ti):=by
 refine⟨λa s q H D I h=>?_⟩;obtain⟨v,L,h⟩:=h;obtain⟨m,J,hl⟩:=I.loc;have j:Kr X.env.scope x:=by rcases n with k|k;show .inl k;show .inr (.inl k)
 obtain⟨u,r,l⟩:=hl i x v t L j;refine wpAny_AugAssign_Name ?_;have B:MI (MW X.prog X.w) X.A (QA e X.env) (λw g=>MI (MW X.prog X.w) X.A (inplaceOp op u w) (λr f=>MI (MW X.prog X.w) X.A (storeName X.env x r) (λ_=>SP X a D .next) X.xe f) X.xe g) X.xe s:=by
  refine bo (he a s q H _ I h) λw s1 o=>?_;obtain⟨y,H1,T,G,F⟩:=o;refine bo (ho a s1 q H1 v y u w _ T r G F) λz s2 p=>?_;obtain⟨zv,C,I2,S,E⟩:=p;show iC I2 hN t n S (λs3 M=>⟨_,C,M,E⟩) R
 rcases l with ⟨b,Q⟩|⟨b,c,hc,d⟩
 .show O_ I.ok.kind b J Q B
 .rcases b with b|b
  .show wpAny_loadName_cell I.ok.kind b hc d B
  .rcases n with k|k
   .have:X.env.scope.names.lookup x=Z .free:=b;rw[k] at this;cases this
   .have:X.env.scope.names.lookup x=Z .free:=b;rw[k] at this;cases this
def JY (n f l:TE)(b:V->V->Hp->VK->Prop)(d:KG)(a:JE):TS:=λD c H=>n c H λo j=>f c j λi e=>b o i e λx m=>l c m λy h=>d x y h λz g=>a o i z g λk=>D.nx c k
def KI (X:Cx)(t:V->V->Hp->VK->Prop):Prop:=
 ∀ (a:Lb) (s:Mt) (b:St) (H:Hp) (o i:V) (ov c:Mo) (Q:VK),Ag X a b H s->Ao o ov->Ao i c->t o i H Q ->
  MI (MW X.prog X.w) X.A (WK ov c) (EP X a b Q) X.xe s
def ad4 (ho:PE X o to) (hi:PE X i ti) (hg:KI X tget) (he:PE X e te) (hp:K3 X op tip) (Q:JG X tset)
  (x:(∀ ov c new,augStore i ov c new=(do holding [new,ov,c] (setItem ov c new);release [new,ov,c] [];pure .next))<|>J9):PS X (.AugAssign (.Subscript o i tpos) op e pos) (JY to ti te tget tip tset):=by
 refine ⟨λa s b H D I h=>wpAny_AugAssign_SubscriptAny (bo (ho a s b H _ I h) λov s1 j=>?_) x⟩;obtain⟨r,H1,T,n,E⟩:=j;refine (bo (hi a s1 b H1 _ T E) λc A l=>?_);obtain⟨q,y,I2,p,z⟩:=l;refine bo (hg a A b y r q ov c _ I2 n p z) λf u g=>?_;obtain⟨t,H3,J,G,q3⟩:=g;refine bo (he a u b H3 _ J q3) λv s4 d=>?_;obtain⟨L,N,M,r4,q4⟩:=d;refine bo (hp a s4 b N t L f v _ M G r4 q4) λnew R k=>?_;obtain⟨S,B,C,r5,F⟩:=k;refine bo (Q a R b B r q S ov c new _ C n p r5 F) λ_ s6 m=>?_;obtain⟨H6,I6,q6⟩:=m;show⟨b,H6,I6,q6⟩
def Md (f:Int->Int->Int):KG:=λx y H Q=>∃ i j,x=↑i/\y=↑j/\Q ↑(f i j) H
def abX:K3 X .Add (Md λi j=>i+j):=by intro a s f H x y v u Q I c e h;obtain⟨i,j,d,b,q⟩:=h;subst d;subst b;obtain⟨t,rfl⟩:=c;obtain⟨g,rfl⟩:=e;show iadd_int ⟨↑_,H,I.tok _,⟨_,U⟩,q⟩
def Jw (c:TT)(h:TS):TS:=λD a H=>∃ W:Nat->St->Hp->Prop,(∃ m,W m a H)/\∀ m a H,W m a H ->
 c a H λb f=>if b=true then ∃ N:St->Hp->Prop,(∀ d g,N d g->∃ e,e<m/\W e d g)/\h { D with nx:=N,ct:=N,bk:=D.nx } a f else D.nx a f
def oi (x:PassesOwn (MW X.prog X.w) X.A X.env X.xe)(R:PT X c tc)(J:EH X body tb):PS X (.While c body [] pos) (Jw tc tb):=by
 refine⟨λa s E H D I h=>?_⟩;obtain⟨W,⟨M,L⟩,B5⟩:=h;refine wpAny_While (codeAny_whileLoop (λn C=>∃ g u,Ag X a g u C/\W n g u) ?_ M ⟨E,H,I,L⟩);rintro n S ⟨e,y,Q,G⟩;refine P3 x (bo (R a S e y _ Q (B5 n e y G)) λb F r=>?_);obtain⟨t,z,j⟩:=r;cases b with
 |true=>
  obtain⟨N,B,j⟩:=j;rw[M' rfl];refine P3 x (bo (J a F e t _ z j) λf T k=>?_);cases f with
  |next=>
   obtain⟨d,i,p,l⟩:=k;obtain⟨m,q,o⟩:=B d i l;show⟨m,q,d,i,p,o⟩
  |cont=>
   obtain⟨d,i,p,l⟩:=k;obtain⟨m,q,o⟩:=B d i l;show⟨m,q,d,i,p,o⟩
  |brk=>show k
  |ret v=>show k
 |false=>
  rw[MZ M3];show Rr ⟨e,t,z,j⟩
structure It where
 go:Nat->Hp->Prop
 yld:Nat->Hp->V->Hp->Prop
 stop:Nat->Hp->Prop
def Dq (X:Cx)(a:Lb)(H:Hp)(b:MF):Prop:=
 H b=none/\b≠X.env.locals/\b∉X.fs/\(b∈X.ex\/X.s₀.heap.objs.size<=b)/\(∀ x c,X.env.cells.lookup x=Z c->c≠b)/\∀ p∈X.pn++a,p.1≠b
def Ag.fpOk (I:Ag X pins σ H s)(a:s⁻¹<=b)(d:H' b=none):Dq X pins H' b:=by
 refine⟨d,Oi (MK I.lt a),I.nofs a,.inr (M1 I.sz a),λx c e z=>?_,λp f z=>?_⟩
 .obtain⟨v,q⟩:=I.cell x c e;show absurd (MK q.lt (by rw[z];show a)) (Nq _)
 .show absurd (MK (Mr (I.pin p f).1) (by rw[z];show a)) (Nq _)
structure GX (P:MY)(w:Nr)(K:KE)(tg:OZ)(J:It)(fp:List MF)(it:MF)(tn:Nat->Oz->Prop):Prop where
 mem:it∈fp
 obj:∀ i h,tn i h->∀ b∈fp,∃ o,h.get? b=Z o/\∀ v,o.data≠.cell v
 keep:∀ i h h',tn i h->(∀ b∈fp,∀ o,h.get? b=Z o->h'.get? b=Z o)->tn i h'
 item:∀ (X:Cx),X.prog=P->X.w=w->X.K=K->X.calm=true->∀ (i:Nat) (pins:Lb) (s:Mt) (σ:St) (H:Hp) (E:My),Ag X pins σ H s->(∀ b∈fp,Dq X pins H b)->tn i s.heap->J.go i H ->
  MI (MW P w) X.A (QM ↥it) (λr s1=>∃ u,r=Z u /\
   MI (MW P w) X.A (SV tg ↥it u) (λ_ s2=>∃ x H',Ag X pins σ H' s2/\Ao x u/\J.yld i H x H'/\tn (i+1) s2.heap/\∀ b∈fp,H' b=none) E s1) E s
 done:∀ (X:Cx),X.prog=P->X.w=w->X.K=K->X.calm=true->∀ (i:Nat) (pins:Lb) (s:Mt) (σ:St) (H:Hp) (E:My),Ag X pins σ H s->(∀ b∈fp,Dq X pins H b)->tn i s.heap->J.stop i H ->
  MI (MW P w) X.A (QM ↥it) (λr s1=>r=none/\Ag X pins σ H s1) E s
 self:∀ (A:Nw) (i:Nat) (s:Mt) (Q:My) (E:My),tn i s.heap->Q ↥it s->MI (MW P w) A (Wk ↥it) Q E s
abbrev TI:=St->Hp->(It->Hp->Prop)->Prop
def LW (X:Cx)(a:Lb)(h:St)(i:OZ)(R:It->Hp->Prop)(d:Mo)(s2:Mt):Prop:=
 ∃ (f:MF) (g:List MF) (e:Nat->Oz->Prop) (J:It) (c:Hp),d=↥f/\Ag X a h c s2/\GX X.prog X.w X.K i J g f e/\e 0 s2.heap/\(∀ b∈g,Dq X a c b)/\R J c
noncomputable def qI (X:Cx)(e b:OZ)(wi:TI):Prop:=
 ∀ (a:Lb) (s:Mt) (c:St) (H:Hp) (R:It->Hp->Prop),Ag X a c H s->wi c H R ->
  MI (MW X.prog X.w) X.A (QA b X.env) (λv d=>MI (MW X.prog X.w) X.A (Wk v) (LW X a c e R) X.xe d) X.xe s
structure PI (X:Cx)(tg iter:OZ)(wi:TI):Prop where
 go:qI X tg iter wi
instance {X:Cx}{tg iter:OZ}{wi:TI}:CoeFun (PI X tg iter wi) λ_=>qI X tg iter wi:=⟨PI.go⟩
def yu (d:s>>it=Z o) (e:o.cls=.type n) (c:o.data=.fields vs)
  (b:["enumerate","zip","dict_itemiterator","dict_reverseitemiterator","odict_iterator","itertools.zip_longest","itertools.pairwise"].contains n=false)(a:Q () s):MI M A (SV tg ↥it u) Q E s:=by
 cases tg<;>first
  |show Mm a
  | (cases u <;> first
    |show Mm a
    | (refine HD (wpAny_load d ?_)
       rw[e,c];change MI M A (if(["enumerate","zip","dict_itemiterator","dict_reverseitemiterator","odict_iterator","itertools.zip_longest","itertools.pairwise"].contains n&&vs[0]?==Z (ON _))=true then _ else _) Q E s;rw[MZ (by intro h;rw[b,Pg] at h;cases h)];show Mm a))
def Ka (K:KE)(a:MF):It:=
 ⟨λi H=>∃ b x,An K H a b/\b[i]?=Z x,λi H x c=>c=H/\∀ b,An K H a b->b[i]?=Z x,λi H=>∃ b,An K H a b/\⇑b<=i⟩
def Kw (K:KE)(a:MF):It:=
 ⟨λi H=>∃ b x,AZ K H a b/\b[i]?=Z x,λi H x c=>c=H/\∀ b,AZ K H a b->b[i]?=Z x,λi H=>∃ b,AZ K H a b/\⇑b<=i⟩
def IA (lo:Int)(n:Nat):It:=⟨λi _=>i<n,λi H x a=>a=H/\x=↑(lo+i),λi _=>n<=i⟩
def zM {K:KE}(a j:MF):GX P w K tg (Ka K a) [j] j (λi h=>h.IsListIter j a i) where
 mem:=zyA
 obj:=λi h st b g=>by
  have e:b=j:=by simpa using g
  subst e;obtain⟨o,e,c,d⟩:=st;show⟨o,e,λv z=>by rw[d] at z;cases z⟩
 keep:=λi h n st k=>st.at λo e=>k j zyA o e
 item:=by
  intro X r hw J M i f s L H E I m st F;subst r hw J;obtain⟨xs,x,hq,t⟩:=F;obtain⟨y,G,p,hz⟩:=I.list hq;obtain⟨u,Q,ru⟩:=G.get t;obtain⟨A,C,f2,B,D,q⟩:=m j zyA;refine UQ st p.isList (by simpa using Q) λn l S=>?_
  have T:Ag X f L H { s with heap:=n }:=I.turned (λb o g e=>S.2 b g\e) A C B D q;obtain⟨o,e,c,d⟩:=id l;show⟨u,U,yu e c d O ⟨x,H,T,ru,⟨U,λys N=>by rw[I.list_inj N hq];show t⟩,l,λb g=>(m b g).1⟩⟩
 done:=by
  intro X r hw J M i f s L H E I m st F;subst r hw J;obtain⟨xs,hq,t⟩:=F;obtain⟨y,G,p,hz⟩:=I.list hq;obtain⟨A,C,f2,B,D,q⟩:=m j zyA;have hl:=⇑G;show wpAny_pyNext_list_end (I.ok.hd M) st p.isList (by simp;lia) λn R=>⟨U,I.turned (λb o g e=>R b o g e) A C B D q⟩
 self:=λ_ _ _ _ _ st h=>wpAny_pyIter_listiter st h
def wJ {K:KE}(a l:MF):GX P w K tg (Kw K a) [l] l (λi h=>h.IsTupleIter l a i) where
 mem:=zyA
 obj:=λi h st b g=>by
  have e:b=l:=by simpa using g
  subst e;obtain⟨o,e,c,d⟩:=st;show⟨o,e,λv z=>by rw[d] at z;cases z⟩
 keep:=λi h q st k=>st.at λo e=>k l zyA o e
 item:=by
  intro X t hw J M i f s L H E I n st F;subst t hw J;obtain⟨xs,x,hq,y⟩:=F;obtain⟨j,G,p,hz⟩:=I.tuple hq;obtain⟨u,Q,ru⟩:=G.get y;obtain⟨A,C,f2,B,D,r⟩:=n l zyA;refine wpAny_pyNext_tuple_item st (show s.heap.IsTuple a j.toArray from p) (by simpa using Q) λq m S=>?_
  have T:Ag X f L H { s with heap:=q }:=I.turned (λb o g e=>S.2 b g\e) A C B D r;obtain⟨o,e,c,d⟩:=id m;show⟨u,U,yu e c d O ⟨x,H,T,ru,⟨U,λys N=>by rw[I.tuple_inj N hq];show y⟩,m,λb g=>(n b g).1⟩⟩
 done:=by
  intro X t hw J M i f s L H E I n st F;subst t hw J;obtain⟨xs,hq,y⟩:=F;obtain⟨j,G,p,hz⟩:=I.tuple hq;obtain⟨A,C,f2,B,D,r⟩:=n l zyA;have hl:=⇑G;show wpAny_pyNext_tuple_end (I.ok.hd M) st (show s.heap.IsTuple a j.toArray from p) (by simp;lia) λq R=>⟨U,I.turned (λb o g e=>R b o g e) A C B D r⟩
 self:=λ_ _ _ _ _ st h=>wpAny_pyIter_tupleiter st h
def wX {K:KE}(c:MF)(lo:Int)(n:Nat):GX P w K tg (IA lo n) [c] c (λi h=>IsRangeIter h c (lo+(i:Nat)*1) ((n:Int)-(i:Nat)) 1) where
 mem:=zyA
 obj:=λi h st b d=>by
  have e:b=c:=by simpa using d
  subst e;show⟨_,st,λv z=>by
   cases z⟩
 keep:=λi h j st k=>k c zyA _ st
 item:=by
  intro X m hw A y i a s B H E I g st x;subst m hw A;obtain⟨p,r,J,q,u,l⟩:=g c zyA;refine(Walks.range (prog:=X.prog) (w:=X.w) (I.ok.hd y) c lo 1 n).item i s _ _ x st λv j F D f L=>?_
  obtain⟨t,rfl⟩:=D;have G:Ag X a B H { s with heap:=j,toks:=F }:=I.turned (λb o d e=>L b o (by simpa using d) e) p r q u l;refine⟨_,U,yu f rfl rfl O ⟨↑(lo+i),H,G,⟨t,?_⟩,⟨U,U⟩,f,λb d=>(g b d).1⟩⟩;rw[Int.mul_one]
 done:=by
  intro X m hw A y i a s B H E I g st x;subst m hw A;obtain⟨p,r,J,q,u,l⟩:=g c zyA;show wpAny_pyNext_range_end (I.ok.hd y) st (by have:n<=i:=x;lia) λj C=>⟨U,I.turned (λb o d e=>C b o d e) p r q u l⟩
 self:=λ_ _ _ _ _ st h=>wpAny_pyIter_rangeiter st h
section
variable {tg:OZ}
def aby {lo a:Int} (I:Ag X pins σ H s) (l:-(2 ^ 62) <= lo) (k:lo < 2 ^ 62) (d:-(2 ^ 62) <= a) (h:a < 2 ^ 62)
  (q:R (IA lo (a-lo).toNat) H):MI (MW X.prog X.w) X.A (Wk ↥s⁻¹) (LW X pins σ tg R) E { s with heap:=s.heap.push { cls:=.type "range",data:=.fields #[.int lo t,.int a u,.int 1 v] },toks:=j }:=by
 refine wpAny_pyIter_range (IsRange.new ..) (small_one l k d h) ?_;have c:Ag X pins σ H { s with heap:=s.heap.push { cls:=.type "range",data:=.fields #[.int lo t,.int a u,.int 1 v] },toks:=j }:=I.kept λb o e=>Ml _ e
 refine⟨(s.heap.push { cls:=.type "range",data:=.fields #[.int lo t,.int a u,.int 1 v] }).objs.size,[(s.heap.push { cls:=.type "range",data:=.fields #[.int lo t,.int a u,.int 1 v] }).objs.size],_,_,H,U,
  c.kept λb o e=>Ml _ e,wX _ lo (a-lo).toNat,?_,λb i=>?_,q⟩
 .have g:lo+((0:Nat):Int)*1=lo:=zyA
  have f:(((a-lo).toNat:Nat):Int)-((0:Nat):Int)=Builtin.Range.rangeSize lo a 1:=by rw[Wl];split<;>lia
  change IsRangeIter _ _ (lo+((0:Nat):Int)*1) ((((a-lo).toNat:Nat):Int)-((0:Nat):Int)) 1;rw[g,f];show Ms _ U
 .have e:b=(s.heap.push { cls:=.type "range",data:=.fields #[.int lo t,.int a u,.int 1 v] }).objs.size:=by simpa using i
  subst e;show c.fpOk (Mz _) (c.hok.fresh (Mz _))
def Kf (b:TA):TI:=λa H R=>b a H λvs c=>∃ j:Int,vs=[↑j]/\-(2^62)<=j/\j<2^62/\R (IA 0 j.toNat) c
def aR (u:Gl X "range")(l:X.mg "range"=none)(g:PA X [a] ta)(n:M0 [a] X.env=[(false,QA a X.env)]<|>C'):PI X tg (.Call (.Name "range" p) [a] [] pos) (Kf ta):=by
 refine ⟨λb s f H R I h=>Call_ (gH I u l boot_range (OM (bo (g pos b s f H _ I h) λy x d=>?_) n rfl))⟩;obtain⟨vs,v,o,k,c⟩:=d;obtain⟨j,e,c,i,q⟩:=c;subst e;cases k with
 |cons r m=>
  cases m;obtain⟨t,rfl⟩:=r;show call_range_1 (aby o Y Y c i (by simpa using q))
def Lp (wi:TI)(g:TG)(h:TS):TS:=λD a H=>wi a H λJ j=>∃ W:Nat->Nat->St->Hp->Prop,(∃ m,W 0 m a j)/\∀ i m a H,W i m a H ->
 (J.stop i H/\D.nx a H)\/(J.go i H/\∃ N:St->Hp->Prop,(∀ c b,N c b->∃ e,e<m/\W (i+1) e c b)/\∀ x b,J.yld i H x b->g x a b λd f=>h { D with nx:=N,ct:=N,bk:=D.nx } d f)
def B4 (a:List MF)(h:Oz):List (MF×Obj):=a.filterMap λb=>(h.get? b).map λo=>(b,o)
def fc (a:b∈fp)(e:h.get? b=Z o):(b,o)∈B4 fp h:=NA.mpr ⟨b,a,by rw[e];rfl⟩
def lN (d:p∈B4 fp h):p.1∈fp/\h.get? p.1=Z p.2:=by
 obtain⟨b,c,e⟩:=NA.mp d;cases q:h.get? b with
 |none=>rw[q] at e;cases e
 |some o=>
  rw[q] at e;have a:=Mn e;subst a;show⟨c,q⟩
def Ag.pinned (I:Ag X pins σ H s)(k:∀ b∈fp,Dq X pins H b)(i:∀ b∈fp,∃ o,s>>b=Z o/\∀ v,o.data≠.cell v):Ag X (pins++B4 fp s.heap) σ H s:=
 I.pins_of λp h=>(Nk.mp h).elim (λz=>I.pin p (MM _ z)) λz=>by
  obtain⟨c,e⟩:=lN z;obtain⟨f,j,g,_⟩:=k p.1 c;obtain⟨o,a,d⟩:=i p.1 c;rw[e] at a;cases a;show⟨e,f,j,g,d⟩
def Ag.unpinned (I:Ag X (pins++pl) σ H s):Ag X pins σ H s:=I.pins_of λp a=>I.pin p (MM _ (Oh _ a))
def fj (G:PassesOwn (MW X.prog X.w) X.A X.env X.xe) (hc:X.calm=true) (hi:PI X tg iter wi) (hg:PG X tg g) (l:EH X body tb)
  (hs:(∀ x,Op iter X.env x=pure x)<|>E'):PS X (.For tg iter body [] pos) (Lp wi g tb):=by
 refine⟨λa s σ H D I h=>wpAny_For (bo (hi a s σ H _ I h) λv s1 h1=>bo h1 λitv s2 h2=>?_) hs⟩;obtain⟨it,M,tn,J,H2,e,I2,T,R,f2,W,⟨m0,w0⟩,B5⟩:=h2;subst e;have j:∀ {y:Hp},(∀ b∈M,y b=none)->∀ b∈M,Dq X a y b:=λhn b l=>⟨hn b l,(f2 b l).2⟩
 refine codeAny_forLoop_any (λn s'=>∃ i k y,Ag X a k y s'/\tn i s'.heap/\(∀ b∈M,y b=none)/\W i n k y) ?_ m0 ⟨0,σ,H2,I2,R,λb l=>(f2 b l).1,w0⟩;rintro n s3 ⟨i,t,Q,I3,F,L,w3⟩;rcases B5 i n t Q w3 with ⟨E,qn⟩|⟨go,N,hN,step⟩
 .refine P3 G (bo (T.done X rfl rfl rfl hc i a s3 t Q X.xe I3 (j L) F E) λr s4 c=>?_);obtain⟨hr,p⟩:=c;subst hr;show Rr ⟨t,Q,p,qn⟩
 .refine P3 G (bo (T.item X rfl rfl rfl hc i a s3 t Q X.xe I3 (j L) F go) λr s4 zz1=>?_);obtain⟨u,hr,h4⟩:=zz1;subst hr;refine P3 G (bo h4 λ_ s5 zz2=>?_);obtain⟨x,H5,I5,r5,y5,B,S⟩:=zz2;refine P3 G (bo (hg _ s5 t H5 x u _ (I5.pinned (j S) (T.obj _ _ B)) r5 (step x H5 y5)) λ_ s6 zz3=>?_);obtain⟨σ6,H6,I6,q6⟩:=zz3;refine(P3 G (bo (l _ s6 σ6 H6 _ I6 q6) λf s7 z=>?_));have again:∀ {c:St}{q:Hp},Ag X (a++B4 M s5.heap) c q s7->N c q->∃ m,m<n/\∃ i k y,Ag X a k y s7/\tn i s7.heap/\(∀ b∈M,y b=none)/\W i m k y:=λ{c q} p C=>by
   obtain⟨m',hm,w7⟩:=hN c q C;refine⟨m',hm,i+1,c,q,p.unpinned,T.keep _ _ _ B λb l o e=>(p.pin (b,o) (MM _ (MM _ (fc l e)))).1,λb l=>?_,w7⟩;obtain⟨o,e,d⟩:=T.obj _ _ B b l;show(p.pin (b,o) (MM _ (MM _ (fc l e)))).2.1
  cases f with
  |next=>obtain⟨c,q,p,C⟩:=z;show again p C
  |cont=>obtain⟨c,q,p,C⟩:=z;show again p C
  |brk=>obtain⟨c,q,p,z⟩:=z;show⟨c,q,p.unpinned,z⟩
  |ret v=>obtain⟨x7,c,q,p,r7,z⟩:=z;show⟨x7,c,q,p.unpinned,r7,z⟩
end
def aa2 {K:KE}{a:MF}{xs:List V}{g:TG}{l:TS}{D:EK}{b:St}{H:Hp} (c:Nat->St->Hp->Prop) (u:c 0 b H) (t:∀ i b H,i <= ⇑xs->c i b H->An K H a xs)
  (o:∀ i x b H,xs[i]?=Z x->c i b H->g x b H λf j=>l { D with nx:=c (i+1),ct:=c (i+1),bk:=D.nx } f j)(s:∀ b H,c ⇑xs b H->D.nx b H):
  ∃ W:Nat->Nat->St->Hp->Prop,(∃ m,W 0 m b H)/\∀ i m b H,W i m b H ->
   ((Ka K a).stop i H/\D.nx b H)\/((Ka K a).go i H/\∃ N:St->Hp->Prop,(∀ d H',N d H'->∃ k,k<m/\W (i+1) k d H')/\∀ x H',(Ka K a).yld i H x H'->g x b H' λf j=>l { D with nx:=N,ct:=N,bk:=D.nx } f j):=by
 refine⟨λi m b H=>m=⇑xs-i/\i<=⇑xs/\c i b H,⟨⇑xs,zyA,N7 _,u⟩,?_⟩;rintro i m b H ⟨rfl,r,p⟩;have q:=t i b H r p
 by_cases h:i<⇑xs
 .refine .inr ⟨⟨xs,xs[i],q,by simp[h]⟩,c (i+1),λd H' n=>⟨⇑xs-(i+1),Y,U,h,n⟩,λx H' y=>?_⟩;obtain⟨e,y⟩:=y;subst e;show o i x b _ (y xs q) p
 .have e:i=⇑xs:=Y
  subst e;show .inl ⟨⟨xs,q,Mz _⟩,s b H p⟩
def adV {K:KE}{a:MF}{xs:List V}{g:TG}{l:TS}{D:EK}{b:St}{H:Hp} (c:Nat->St->Hp->Prop) (u:c 0 b H) (t:∀ i b H,i <= ⇑xs->c i b H->AZ K H a xs)
  (o:∀ i x b H,xs[i]?=Z x->c i b H->g x b H λf j=>l { D with nx:=c (i+1),ct:=c (i+1),bk:=D.nx } f j)(s:∀ b H,c ⇑xs b H->D.nx b H):
  ∃ W:Nat->Nat->St->Hp->Prop,(∃ m,W 0 m b H)/\∀ i m b H,W i m b H ->
   ((Kw K a).stop i H/\D.nx b H)\/((Kw K a).go i H/\∃ N:St->Hp->Prop,(∀ d H',N d H'->∃ k,k<m/\W (i+1) k d H')/\∀ x H',(Kw K a).yld i H x H'->g x b H' λf j=>l { D with nx:=N,ct:=N,bk:=D.nx } f j):=by
 refine⟨λi m b H=>m=⇑xs-i/\i<=⇑xs/\c i b H,⟨⇑xs,zyA,N7 _,u⟩,?_⟩;rintro i m b H ⟨rfl,r,p⟩;have q:=t i b H r p
 by_cases h:i<⇑xs
 .refine .inr ⟨⟨xs,xs[i],q,by simp[h]⟩,c (i+1),λd H' n=>⟨⇑xs-(i+1),Y,U,h,n⟩,λx H' y=>?_⟩;obtain⟨e,y⟩:=y;subst e;show o i x b _ (y xs q) p
 .have e:i=⇑xs:=Y
  subst e;show .inl ⟨⟨xs,q,Mz _⟩,s b H p⟩
def iB {lo:Int}{n:Nat}{g:TG}{k:TS}{D:EK}{a:St}{H:Hp} (d:Nat->St->Hp->Prop) (r:d 0 a H)
  (o:∀ i a H,i<n->d i a H->g ↑(lo+i) a H λf h=>k { D with nx:=d (i+1),ct:=d (i+1),bk:=D.nx } f h)(q:∀ a H,d n a H->D.nx a H):
  ∃ W:Nat->Nat->St->Hp->Prop,(∃ m,W 0 m a H)/\∀ i m a H,W i m a H ->
   ((IA lo n).stop i H/\D.nx a H)\/((IA lo n).go i H/\∃ N:St->Hp->Prop,(∀ b H',N b H'->∃ j,j<m/\W (i+1) j b H')/\∀ x H',(IA lo n).yld i H x H'->g x a H' λf h=>k { D with nx:=N,ct:=N,bk:=D.nx } f h):=by
 refine⟨λi m a H=>m=n-i/\i<=n/\d i a H,⟨n,zyA,N7 _,r⟩,?_⟩;rintro i m a H ⟨rfl,s,p⟩
 by_cases c:i<n
 .refine .inr ⟨c,d (i+1),λb H' l=>⟨n-(i+1),Y,U,c,l⟩,λx H' y=>?_⟩;obtain⟨e,y⟩:=y;subst e y;show o i a _ c p
 .have e:i=n:=Y
  subst e;show .inl ⟨Mz _,q a H p⟩
abbrev R2:=V->V->Hp->VK->Prop
def Ct (X:Cx)(f:Mo->Mo->Sem Mo)(r:R2):Prop:=
 ∀ (a:Lb) (s:Mt) (b:St) (H:Hp) (x y:V) (v u:Mo) (Q:VK),Ag X a b H s->Ao x v->Ao y u->r x y H Q ->
  MI (MW X.prog X.w) X.A (f v u) (EP X a b Q) X.xe s
def LL (X:Cx)(f:Mo->Sem Mo)(r:V->Hp->VK->Prop):Prop:=
 ∀ (a:Lb) (s:Mt) (b:St) (H:Hp) (x:V) (v:Mo) (Q:VK),Ag X a b H s->Ao x v->r x H Q ->
  MI (MW X.prog X.w) X.A (f v) (EP X a b Q) X.xe s
def AI (X:Cx)(f:Mo)(r:List V->Hp->VK->Prop):Prop:=
 ∀ (a:Lb) (s:Mt) (b:St) (H:Hp) (d:List V) (c:List Mo) (Q:VK),Ag X a b H s->Ah d c->r d H Q ->
  MI (MW X.prog X.w) X.A (call f c) (EP X a b Q) X.xe s
def HL (r:R2)(b c:TE):TE:=λa H Q=>b a H λx d=>c a d λy e=>r x y e Q
def Mc (r:V->Hp->VK->Prop)(b:TE):TE:=λa H Q=>b a H λx c=>r x c Q
inductive rI (C:Int->Int->Prop)(g:Int->Int->V)(x y:V)(H:Hp)(Q:VK):Prop
 |mk (i j:Int) (_:x=↑i) (_:y=↑j) (_:C i j) (_:Q (g i j) H)
inductive HS (g:Int->Int->V)(x y:V)(H:Hp)(Q:VK):Prop
 |mk (i j:Int) (_:x=↑i) (_:y=↑j) (_:Q (g i j) H)
noncomputable def rU (g:Int->V):V->Hp->VK->Prop:=λx H Q=>∃ i,x=↑i/\Q (g i) H
section
variable {a b c:OZ}{ta tb tc:TE}
def aex (m:PE X a ta) (q:PE X b tb) {c:List (MF × Obj)}{s:Mt}{d:St}{H:Hp}{R:V->V->Hp->Prop} (I:Ag X c d H s)
  (h:ta d H λx k=>tb d k λy e=>R x y e){Q:My}{f:Mo->Mo->Sem Mo}
  (r:∀ v u s2 x y e,Ag X c d e s2->Ao x v->Ao y u->R x y e->MI (MW X.prog X.w) X.A (f v u) Q X.xe s2):
  MI (MW X.prog X.w) X.A (QA a X.env) (λv g=>MI (MW X.prog X.w) X.A (QA b X.env) (λu i=>MI (MW X.prog X.w) X.A (f v u) Q X.xe i) X.xe g) X.xe s:=by
 refine bo (m c s d H _ I h) λv B j=>?_;obtain⟨x,k,z,p,o⟩:=j;refine bo (q c B d k _ z o) λu s2 l=>?_;obtain⟨y,e,C,t,n⟩:=l;show r v u s2 x y e C p t n
def au {d:Operator}{r:R2}(l:Ct X (RX d) r)(g:PE X a ta)(k:PE X b tb):PE X (.BinOp a d b pos) (HL r ta tb):=by show⟨λc s e H Q I h=>wpAny_BinOp (aex g k I h λv u j x y i n m f q=>l c j e i x y v u Q n m f q)⟩
def xO (i:LL X (unaryOp op) r)(g:PE X a ta):PE X (.UnaryOp op a pos) (Mc r ta):=by refine ⟨λb s d H Q I h=>UnaryOp_ (bo (g b s d H _ I h) λv k c=>?_)⟩;obtain⟨x,j,f,e,l⟩:=c;show i b k d j x v Q f e l
def opI {f:Mo->Mo->Sem Mo}{C:Int->Int->Prop}{g:Int->Int->Int}
  (rule:∀ (i j:Int) (t u:Tok) (s:Mt) (Q:My) (E:My),C i j->Q (.int (g i j) s.toks) { s with toks:=s.toks+1 }->MI (MW X.prog X.w) X.A (f (.int i t) (.int j u)) Q E s):
  Ct X f (rI C λi j=>↑(g i j)):=by
 intro a s k H x y v u Q I e b h;obtain⟨i,j,rfl,rfl,d,q⟩:=h;obtain⟨t,rfl⟩:=e;obtain⟨c,rfl⟩:=b;show rule i j t c s _ _ d ⟨↑(g i j),H,I.tok _,⟨_,U⟩,q⟩
def af8 {f:Mo->Mo->Sem Mo}{g:Int->Int->Int}
  (rule:∀ (i j:Int) (t u:Tok) (s:Mt) (Q:My) (E:My),Q (.int (g i j) s.toks) { s with toks:=s.toks+1 }->MI (MW X.prog X.w) X.A (f (.int i t) (.int j u)) Q E s):
  Ct X f (HS λi j=>↑(g i j)):=by
 intro a s e H x y v u Q I d b h;obtain⟨i,j,rfl,rfl,q⟩:=h;obtain⟨t,rfl⟩:=d;obtain⟨c,rfl⟩:=b;show rule i j t c s _ _ ⟨↑(g i j),H,I.tok _,⟨_,U⟩,q⟩
def zL {f:Mo->Mo->Sem Mo}{g:Int->Int->Bool}
  (rule:∀ (i j:Int) (t u:Tok) (s:Mt) (Q:My) (E:My),Q (.bool (g i j)) s->MI (MW X.prog X.w) X.A (f (.int i t) (.int j u)) Q E s):
  Ct X f (HS λi j=>.bl (g i j)):=by
 intro a s e H x y v u Q I d b h;obtain⟨i,j,rfl,rfl,q⟩:=h;obtain⟨t,rfl⟩:=d;obtain⟨c,rfl⟩:=b;show rule i j t c s _ _ ⟨.bl (g i j),H,I,U,q⟩
def LD (i j:Int):Prop:=0<=j/\j<=1000000/\i.natAbs<2^64
def bZ:Ct X (RX .Add) (HS λi j=>↑(i+j)):=af8 λ_ _ _ _ _ _ _ q=>add_int q
def bI:Ct X (RX .Sub) (HS λi j=>↑(i-j)):=af8 λ_ _ _ _ _ _ _ q=>sub_int q
def jw:Ct X (RX .Mod) (rI (λ_ j=>0<j) λi j=>↑(i%j)):=opI λi j _ _ _ _ _ a q=>by
 have b:=a;show mod_int' Y (by rw[Int.fmod_eq_emod_of_nonneg i Y];show q)
def aav:Ct X (RX .Pow) (rI LD λi j=>↑(i^j.toNat)):=opI λ_ _ _ _ _ _ _ a q=>pow_int_small a.1 a.2.1 a.2.2 q
def unI {f:Mo->Sem Mo}{g:Int->Int}
  (rule:∀ (i:Int) (t:Tok) (s:Mt) (Q:My) (E:My),Q (.int (g i) s.toks) { s with toks:=s.toks+1 }->MI (MW X.prog X.w) X.A (f (.int i t)) Q E s):
  LL X f (rU λi=>↑(g i)):=by
 intro a s c H x v Q I b h;obtain⟨i,rfl,q⟩:=h;obtain⟨t,rfl⟩:=b;show rule i t s _ _ ⟨↑(g i),H,I.tok _,⟨_,U⟩,q⟩
def tT:LL X (unaryOp .USub) (rU λi=>↑(-i)):=unI λ_ _ _ _ _ q=>neg_int q
end
section
variable {a b c:OZ}{ta tb tc:TE}
def wO (I:Ag X pins σ H s)(q:Q (.bl k) H)(e:k=k'):EP X pins σ Q (.bool k') s:=by subst e;show⟨.bl k,H,I,U,q⟩
def n5:Ct X (Ow .Lt) (HS λi j=>.bl (decide (i<j))):=zL λ_ _ _ _ _ _ _ q=>lt_int q
def mF:Ct X (Ow .LtE) (HS λi j=>.bl (decide (i<=j))):=zL λ_ _ _ _ _ _ _ q=>le_int q
def qZ:Ct X (Ow .Gt) (HS λi j=>.bl (decide (j<i))):=zL λ_ _ _ _ _ _ _ q=>gt_int q
def af1:Ct X (Ow .GtE) (HS λi j=>.bl (decide (j<=i))):=zL λ_ _ _ _ _ _ _ q=>ge_int q
def vJ:Ct X (Ow .Is) (λx y H Q=>y=.non/\Q (.bl (decide (x=.non))) H):=by
 intro a s d H x y v u Q I b c h;obtain⟨rfl,q⟩:=h;cases c;refine is_none_gen (wO I q ?_);cases x<;>first
  |(cases b;rfl)
  |(obtain⟨t,rfl⟩:=b;rfl)
def tE:Ct X (Ow .IsNot) (λx y H Q=>y=.non/\Q (.bl (!decide (x=.non))) H):=by
 intro a s d H x y v u Q I b c h;obtain⟨rfl,q⟩:=h;cases c;refine isnot_none_gen (wO I q ?_);cases x<;>first
  |(cases b;rfl)
  |(obtain⟨t,rfl⟩:=b;rfl)
def aA (b:OZ)(h:op≠.In<|>Cb)(c:op≠.NotIn<|>Cb):Ur op b=false:=by
 have a:(op==CmpOp.In)=false:=by cases op<;>first|rfl|show absurd rfl h
 have d:(op==CmpOp.NotIn)=false:=by cases op<;>first|rfl|show absurd rfl c
 cases b<;>simp[Ur,a,d]
def bh (l:Ct X (Ow op) r)(f:PE X a ta)(k:PE X b tb)(j:Ur op b=false):PE X (.Compare a [op] [b] pos) (HL r ta tb):=by show⟨λc s d H Q I h=>wpAny_Compare1 (aex f k I h λv u i x y g n m e q=>l c i d g x y v u Q n m e q) j⟩
def DQ (t:TE):TT:=λa H Q=>t a H λx b=>L6 x b Q
def aG (C:Ct X (Ow op) r)(g:PE X a ta)(t:PE X b tb)(q:Ur op b=false):PT X (.Compare a [op] [b] pos) (DQ (HL r ta tb)):=by
 refine⟨λd s f H Q I h=>?_⟩;refine wpAny_isTrue_Compare1 (bo (g d s f H _ I h) λv E ⟨x,D,B,n,m⟩=>bo (t d E f D _ B m) λu l ⟨y,i,G,A,j⟩=>
  bo (C d l f i x y v u _ G n A j) λc L ⟨z,F,p,o,k,e,J⟩=>?_) q
 subst e;cases o;show NV ⟨F,p,J⟩
def Iu (r g:R2)(ta tb tc:TE):TE:=λa H Q=>ta a H λx d=>tb a d λy e=>r x y e λz b=>∃ k,z=.bl k /\
 (if k=true then tc a b λc f=>g y c f Q else Q (.bl false) b)
def ul (T:Ct X (Ow op) r) (i:Ct X (Ow op') r') (t:PE X a ta) (L:PE X b tb) (hc:PE X c tc)
  (G:lastMarks [op,op'] [b,c]=false:=by with_unfolding_all rfl):PE X (.Compare a [op,op'] [b,c] pos) (Iu r r' ta tb tc):=by
 refine⟨λf s g H Q I h=>?_⟩;refine Compare_chain (bo (t f s g H _ I h) λv s1 ⟨x,H1,R,E,D⟩=>chain_link (bo (L f s1 g H1 _ R D) λu C ⟨y,A,I2,m,B⟩=>
  bo (T f C g A x y v u _ I2 E m B) λd q ⟨z,n,l,F,k,e,o⟩=>?_)) G
 subst e;cases F;refine NV ?_;cases k with
 |false=>show ite_ff ⟨.bl false,n,l,U,o⟩
 |true=>refine ite_tt (chain_last (bo (hc f q g n _ l o) λJ S j=>?_));obtain⟨p,N,M,r4,q4⟩:=j;show i f S g N y p u J Q M m r4 q4
def aaL (ho:Ct X (Ow op) r) (i:Ct X (Ow op') r') (A:PE X a ta) (T:PE X b tb) (hc:PE X c tc)
  (R:lastMarks [op,op'] [b,c]=false:=by with_unfolding_all rfl):PT X (.Compare a [op,op'] [b,c] pos) (DQ (Iu r r' ta tb tc)):=by
 refine⟨λf s g H Q I h=>?_⟩;refine isTrue_chain (bo (A f s g H _ I h) λv s1 ⟨x,H1,I1,L,G⟩=>test_link (bo (T f s1 g H1 _ I1 G) λu D ⟨y,B,I2,n,C⟩=>
  bo (ho f D g B x y v u _ I2 L n C) λd t ⟨z,o,m,N,k,e,p⟩=>?_)) R
 subst e;cases N;refine NV ?_;cases k with
 |false=>
  obtain⟨q,j,l⟩:=p;cases j;show ite_ff ⟨o,m,l⟩
 |true=>
  refine ite_tt (test_last (bo (hc f t g o _ m p) λS s4 j=>?_));obtain⟨q,H4,I4,r4,q4⟩:=j;refine bo (i f s4 g H4 y q u S _ I4 n r4 q4) λd' s5 l=>?_;obtain⟨z2,E,F,r5,k2,J,M⟩:=l;subst J;cases r5;show NV ⟨E,F,M⟩
def kC:(MO:Nat)<2^63:=by rw[NN];decide
def fV (r:Ah [x] us):∃ u,us=[u]/\Ao x u:=by
 cases r with
 |cons a b=>cases b;show⟨_,U,a⟩
def j9 (r:Ah [x,y] us):∃ u a,us=[u,a]/\Ao x u/\Ao y a:=by
 cases r with
 |cons b c=>
  cases c with
  |cons d e=>cases e;show⟨_,_,U,b,d⟩
def uE:AI X (.builtin "abs") (λxs H Q=>∃ i,xs=[↑i]/\Q ↑(if i<0 then -i else i) H):=by intro a s b H xs d Q I r h;obtain⟨i,rfl,q⟩:=h;obtain⟨u,rfl,t,rfl⟩:=fV r;show call_abs_int λu c=>⟨↑(if i<0 then -i else i),H,I.tok _,⟨_,U⟩,q⟩
def zl (c:X.calm=true):AI X (.builtin "max") (λxs H Q=>∃ i j,xs=[↑i,↑j]/\Q ↑(if j>i then j else i) H):=by
 intro b s d H xs m Q I r h;obtain⟨i,j,rfl,q⟩:=h;obtain⟨u,f,rfl,⟨t,rfl⟩,⟨g,rfl⟩⟩:=j9 r;refine max_two_ints (I.ok.hd c) λe l k=>⟨_,H,I.kept k,?_,q⟩
 by_cases a:j>i
 .rw[M' a,M' a];show⟨_,U⟩
 .rw[MZ a,MZ a];show⟨_,U⟩
def jW (c:X.calm=true):AI X (.builtin "min") (λxs H Q=>∃ i j,xs=[↑i,↑j]/\Q ↑(if j<i then j else i) H):=by
 intro b s d H xs m Q I r h;obtain⟨i,j,rfl,q⟩:=h;obtain⟨u,f,rfl,⟨t,rfl⟩,⟨g,rfl⟩⟩:=j9 r;refine min_two_ints (I.ok.hd c) λe l k=>⟨_,H,I.kept k,?_,q⟩
 by_cases a:j<i
 .rw[M' a,M' a];show⟨_,U⟩
 .rw[MZ a,MZ a];show⟨_,U⟩
end
structure GL (h:Oz)(x dx C:MF)(mA:O'):Prop where
 obj:h.get? x=Z (Pk C dx)
 ns:h.Ns1 dx mA
 ne:dx≠x
def zH {h:Oz}{c:MF}{g:O'}(n:h.Ns1 c g):∃ f,h.get? c=Z f/\∀ name,Tv name f=Z (g name):=by
 obtain⟨o,d,r,m,l,k,_,j⟩:=n;refine⟨o,m,λname=>?_⟩;have e:=j name;unfold nsFind findBy at e;rw[<- Array.find?_toList] at e;unfold Tv;rw[l];dsimp only
 split
 .rename_i y q
  rw[q] at e;show Rp Z e
 .rename_i q
  rw[q] at e;have a:d.toList.any (·.refKey)=false:=by
   rw[Wu];intro y i;obtain⟨z,t,b⟩:=k y (Array.mem_toList_iff.mp i);simp[DictEntry.refKey,b]
  have p:¬ d.toList.any (·.refKey)=true:=by rw[a];show M3
  rw[MZ p];show Rp Z e
def GL.look (I:GL h x dx C mA):∃ a,Xi h x (Pk C dx) C (Z a)/\∀ name,Tv name a=Z (mA name):=
 let ⟨a,ho,hl⟩:=zH I.ns
 ⟨a,⟨I.obj,U,U,ho⟩,hl⟩
section
variable {prog:MY}{w:Nr}{A:Nw}{E:My}{s:Mt}{K:KE}{x dx C f:MF}{mA:O'}{name:Str}{v:Mo}
def acN (X:K.In s.heap) (I:GL s.heap x dx C mA) (c:QV K C name=true) (hh:RI K C=true)
  (d:M7 K ↥C name=Z none)(e:mA name=Z v)(a:W3 v=true)(h:Q v { s with toks:=s.toks+1 }):
  MI (MW prog w) A (getAttr ↥x name expr) Q E s:=by
 obtain⟨f,J,b⟩:=I.look;show PySem.W.get_value X J (SN c).1 (PySem.W.findObj_own hh d rfl (by rw[b,e])) a h
def aaz (X:K.In s.heap) (I:GL s.heap x dx C mA) (a:QV K C name=true)
  (e:M7 K ↥C name=Z (Z ↥f))(c:O3 K ↥f=true)(g:mA name=none)(h:Q (↥f,[↥x]) s):
  MI (MW prog w) A (getMethod ↥x name pl) Q E s:=by
 obtain⟨d,J,b⟩:=I.look;show PySem.W.method_fn X J (SN a).1 (SN a).2 e (NZ.mp c) (by change(Tv name d).map (·.isSome)=Z false;rw[b,g];rfl) h
def ade (X:K.In s.heap) (I:GL s.heap x dx C mA)
  (j:M7 K ↥C "__setattr__"=Z (Z (.builtin "object.__setattr__")))(l:TZ K C=true)(n:Va K C name=Z none)(hh:RI K C=true)
  (hw:WW mA ns)(hsz:⇑ns<=MO)
  (h:∀ h',GL h' x dx C (λy=>if y=name then Z v else mA y)->NF dx s.heap h'->Q () { s with heap:=h',toks:=s.toks+2 }):
  MI (MW prog w) A (setAttr ↥x name v) Q E s:=by
 obtain⟨o,J,p⟩:=I.look;refine PySem.W.set_plain X J j (PySem.W.osa_open X J l n λb=>?_);obtain⟨r,m,e⟩:=PySem.W.any_some hh;refine HD (Mm (HD (HD (wpAny_loadPart I.obj (HD (PySem.W.Looks.here (PySem.W.looks_clsIn X m) ?_))))));rw[e];refine Mm (HD (Mm (HD (wpAny_nsSet1 (s:={ s with toks:=s.toks+1 }) I.ns λh' a c=>?_))));obtain⟨q,i,k,f,g,d⟩:=a.count (PySem.Within.cons name v hw);show HD (wpAny_lookBehind f (by rw[g];show pastItsLine_dict (M1 d (by rw[Np];lia))) (Mm (h _ ⟨c.2 _ (Om I.ne)\I.obj,a,I.ne⟩ c)))
def pG (X:K.In s.heap) (a:SM K C=true)
  (b:M7 K ↥C "__init__"=Z (Z ↥f))(c:Ph K ↥f=Z (.type "function"))
  (h:P0 (MW prog w) (A.under (.builtin "type.__call__" ⟨↥C::vs,kw⟩)) (.call ↥f ⟨↥(s⁻¹+1)::vs,kw⟩) (PySem.W.InitBack (s⁻¹+1) R)
   { s with heap:=(s.heap.push OF).push (Pk C s⁻¹) }) :
  P0 (MW prog w) A (.call ↥C ⟨vs,kw⟩) R s:=by
 obtain⟨e,g,d,t,os⟩:=s;show PySem.W.make_core (PySem.W.makes_of X a) (QN X b) (λself=>PySem.W.bind_fn X self c) (.inl rfl) h
end
def A8 (f:Str)(v:V):List (Str×V)->List (Str×V)
 |[]=>[(f,v)]
 |(g,x)::r=>if g=f then(g,v)::r else(g,x)::A8 f v r
theorem mB (f g:Str)(v:V):∀ fs:List (Str×V),(A8 f v fs).lookup g=if g=f then Z v else fs.lookup g
 |[]=>by
  change Q2 g [(f,v)]=_
  by_cases h:g=f
  .have a:(g==f)=true:=NZ.mpr h;simp only[Q2,a,M' h]
  .have a:(g==f)=false:=OB.mpr h;simp only[Q2,a,MZ h]
 |(k,x)::r=>by
  rw[show A8 f v ((k,x)::r)=(if k=f then(k,v)::r else(k,x)::A8 f v r) from rfl]
  by_cases b:k=f
  .rw[M' b]
   by_cases h:g=k
   .have a:(g==k)=true:=NZ.mpr h;simp only[Q2,a,M' (h\b)]
   .have a:(g==k)=false:=OB.mpr h;simp only[Q2,a,MZ (λe:g=f=>h (e\b.symm))]
  .rw[MZ b]
   by_cases h:g=k
   .have a:(g==k)=true:=NZ.mpr h;simp only[Q2,a,MZ (λe:g=f=>b (h.symm\e))]
   .have a:(g==k)=false:=OB.mpr h;simp only[Q2,a];show(mB f g v r)
theorem me (f:Str)(v:V):∀ fs:List (Str×V),f∈(A8 f v fs).map (·.1)/\∀ g,g∈fs.map (·.1)->g∈(A8 f v fs).map (·.1)
 |[]=>⟨by simp[A8],λg h=>by simp at h⟩
 |(k,x)::r=>by
  obtain⟨b,c⟩:=me f v r;rw[show A8 f v ((k,x)::r)=(if k=f then(k,v)::r else(k,x)::A8 f v r) from rfl]
  by_cases a:k=f
  .rw[M' a];subst a;show⟨zyA,λg h=>by simpa using h⟩
  .rw[MZ a];refine⟨?_,λg h=>?_⟩
   .rw[MR];show Mx _ b
   .rw[MR] at h ⊢;rcases MA.mp h with e|e
    .show MA.mpr (.inl e)
    .show Mx _ (c g e)
theorem mE (f:Str)(v:V):∀ fs:List (Str×V),⇑(A8 f v fs)<=⇑fs+1
 |[]=>by simp[A8]
 |(k,x)::r=>by
  have b:=mE f v r;rw[show A8 f v ((k,x)::r)=(if k=f then(k,v)::r else(k,x)::A8 f v r) from rfl]
  by_cases a:k=f
  .rw[M' a,Np,Np];lia
  .rw[MZ a,Np,Np];lia
def CI.some_of (r:CI (Z v) o):∃ u,o=Z u/\Ao v u:=by
 cases o with
 |none=>show(show False from r).elim
 |some u=>show⟨u,U,r⟩
def CI.none_of (r:CI none o):o=none:=by
 cases o with
 |none=>rfl
 |some u=>show(show False from r).elim
def zS (r:Ao v u):W3 u=true:=by
 cases v with
 |non=>cases(show u=Nc from r);rfl
 |bl b=>cases(show u=Ra b from r);rfl
 |int i=>obtain⟨t,e⟩:=(show ∃ t,u=PZ i t from r);cases e;rfl
 |str x=>obtain⟨t,e⟩:=(show ∃ t,u=Ve x t from r);cases e;rfl
 |byt b=>obtain⟨t,e⟩:=(show ∃ t,u=Value.bytes b t from r);cases e;rfl
 |flt b=>obtain⟨t,e⟩:=(show ∃ t,u=Xg b t from r);cases e;rfl
 |ref a=>cases(show u=MT a from r);rfl
 |ty n=>cases(show u=OW n from r);rfl
section
variable {P:MY}{w:Nr}{H H':Hp}{h h':Oz}{a C dx:MF}{fs fs':X5}
def ny (c:B9 P w H h)(e:H a=Z (.ins C dx fs)):∃ b,GL h a dx C b/\(∀ f,CI (fs.lookup f) (b f))/\WW b (fs.map (·.1))/\⇑fs<=1000/\H dx=Z (.own a):=by
 obtain⟨d,z,ne,g,b,n,r,q⟩:=(show At P w H h a (.ins C dx fs) from c a _ e)
 show⟨b,⟨g,n,ne⟩,r,q,z,d⟩
end
structure JL (K:KE)(C:MF):Prop where
 pg:QV K C Str.empty=true
 hd:RI K C=true
 po:TZ K C=true
 sa:M7 K ↥C "__setattr__"=Z (Z (.builtin "object.__setattr__"))
def JL.get {K:KE}(c:JL K C)(f:Str):QV K C f=true:=c.pg
def EZ (K:KE)(C:MF)(f:Str):Prop:=M7 K ↥C f=Z none
def EZ.taker {K:KE}(n:EZ K C f):Va K C f=Z none:=by unfold Va;rw[show M7 K ↥C f=Z none from n];rfl
structure Ic (K:KE)(C:MF)(m:Str)(f:MF):Prop where
 at_:M7 K ↥C m=Z (Z ↥f)
 fn:O3 K ↥f=true
 kp:M8 K ↥f=true
section
variable {σ:St}{H:Hp}{s:Mt}{a C dx:MF}{fs:X5}{f:Str}{v:V}{A:Nw}{E:My}
def wV (I:Ag X pins σ H s) (e:H a=Z (.ins C dx fs)) (c:JL X.K C) (n:EZ X.K C f) (l:fs.lookup f=Z v)
  (h:∀ u g,Ag X pins σ H g->Ao v u->Q u g):MI (MW X.prog X.w) A (getAttr ↥a f b) Q E s:=by
 obtain⟨k,d,r,_,_,_⟩:=ny I.hok e;obtain⟨u,j,i⟩:=CI.some_of (by rw[<- l];show r f);show acN I.kIn d (c.get f) c.hd n j (zS i) (h u _ (I.tok _) i)
def iP (I:Ag X pins σ H s) (e:H a=Z (.ins C dx fs)) (c:JL X.K C) (k:Ic X.K C m g) (l:fs.lookup m=none)
  (h:Q (↥g,[↥a]) s):MI (MW X.prog X.w) A (getMethod ↥a m pl) Q E s:=by
 obtain⟨d,b,r,_,_,_⟩:=ny I.hok e;show aaz I.kIn b (c.get m) k.at_ k.fn (CI.none_of (by rw[<- l];show r m)) h
def vN (I:Ag X pins σ H s) (e:H a=Z (.ins C dx fs)) (c:JL X.K C) (n:EZ X.K C f) (D:⇑fs < 1000) (m:Ao y u)
  (h:∀ j,Ag X pins σ (upd H a (.ins C dx (A8 f y fs))) j->Q () j):MI (MW X.prog X.w) A (setAttr ↥a f u) Q E s:=by
 obtain⟨l,d,r,wi,_,k⟩:=ny I.hok e;have x:⇑(fs.map (·.1))<=MO:=by rw[Mq,NN];lia
 refine ade I.kIn d c.sa c.po n.taker c.hd wi x λB i t=>h _ ?_
 refine I.write (by rw[e];show True.intro) (.inr k) (λb q p z=>t.2 b p\z) (let ⟨o,_,_,e',_⟩:=i.ns;⟨o,e'⟩) ⟨by rw[ar d.ne];show k,?_,d.ne,i.obj,_,i.ns,λg=>?_,λg v=>?_⟩
 .have:=mE f y fs;lia
 .change CI ((A8 f y fs).lookup g) (if g=f then Z u else l g);rw[mB]
  by_cases q:g=f
  .rw[M' q,M' q];show m
  .rw[MZ q,MZ q];show r g
 .by_cases q:g=f
  .rw[q];show(me f y fs).1
  .refine(me f y fs).2 g (wi g λz=>v ?_);change(if g=f then Z u else l g)=none;rw[MZ q];show z
def Ag.made (I:Ag X pins σ H s):Ag X pins σ (upd (upd H s⁻¹ (.own (s⁻¹ + 1))) (s⁻¹ + 1) (.ins C s⁻¹ []))
  { s with heap:=(s.heap.push OF).push (Pk C s⁻¹) }:=by
 have c:(s.heap.push OF).get? s⁻¹=Z OF:=Ms s.heap rfl;have g:((s.heap.push OF).push (Pk C s⁻¹)).get? (s⁻¹+1)=Z (Pk C s⁻¹):=by
  have:=Ms (s.heap.push OF) (o:=Pk C s⁻¹) U
  rwa [NQ] at this
 have h:(s.heap.push OF).Ns s⁻¹ (λ_=>none):=⟨OF,#[],_,c,U,(λe f=>absurd f zyA),λ_=>rfl⟩
 refine(I.laid (a:=s⁻¹) (o:=.own (s⁻¹+1)) (h':=s.heap.push OF) (t':=s.toks) (λb u q=>Ml _ q) (Mz _) ⟨_,c⟩).laid (o:=.ins C s⁻¹ []) (t':=s.toks) (λb u q=>Ml _ q) (U7 (NQ _ _)) ?_;have ne:s⁻¹≠s⁻¹+1:=MH (N_ _);refine⟨by rw[ar ne,ae],N7 _,ne,g,λ_=>none,(Heap.Ns1.of_empty h).at λo q=>Ml _ q,λ_=>True.intro,λy d=>absurd rfl d⟩
def adN (b:Uq e f env (QA e env)=QA e env)
  (h:MI (MW prog w) A (QA e env) (λo a=>MI (MW prog w) A (getAttr o f true) Q E a) E s):MI (MW prog w) A (QA (.Attribute e f pos) env) Q E s:=
 Attribute_any_ h (by rw[arm_eval_Attribute,b])
end
section
variable {σ:St}{H:Hp}{s:Mt}{A:Nw}{E:My}{Q:My}{c:Mo}{b:Bool}
inductive Dc (K:KE)(H:Hp):V->Mo->Prop where
 |non:Dc K H .non (.type "NoneType")
 |bl (x:Bool):Dc K H (.bl x) (.type "bool")
 |int (i:Int):Dc K H ↑i (.type "int")
 |str (x:Str):Dc K H (.str x) (.type "str")
 |flt (x:UInt64):Dc K H (.flt x) (.type "float")
 |lst {a:MF}{xs:List V} (e:H a=Z (.lst xs)):Dc K H ↥a (.type "list")
 |frz {a:MF}{o:Obj}{xs:List V} (e:H a=Z (.frz o (.lst xs))):Dc K H ↥a (.type "list")
 |tup {a:MF}{xs:List V} (e:H a=Z (.tup xs)):Dc K H ↥a (.type "tuple")
 |dK {a:MF}{kvs:List (Bk×V)} (e:H a=Z (.dK kvs)):Dc K H ↥a (.type "dict")
 |dT {a:MF}{kvs:X2} (e:H a=Z (.dT kvs)):Dc K H ↥a (.type "dict")
 | ins {a C dx:MF}{fs:List (Str × V)} (e:H a=Z (.ins C dx fs)) (cl:JL K C) (ha:M7 K ↥C "__class__"=Z (Z (.builtin "object.__class__")))
   (hn:RJ K (.builtin "object.__class__") "__get__"=Z (Z (.builtin "getset_descriptor.__get__")))(htk:SO K (.builtin "object.__class__")=Z true)
   (hm:Rm K C (.type "object")=Z true):Dc K H ↥a ↥C
def acs (I:Ag X pins σ H s)(b:Ao x u)(ty:Dc X.K H x t):∃ h,PySem.W.KitX X.K u t h/\h s.heap/\u≠.builtin "__main__.__loader__#opaque":=by
 cases ty with
 |non=>cases(show u=Nc from b);show⟨_,PySem.W.kitx_none,True.intro,λz=>nomatch z⟩
 |bl y=>cases(show u=Ra y from b);show⟨_,PySem.W.kitx_bool,True.intro,λz=>nomatch z⟩
 |int i=>obtain⟨t,q⟩:=(show ∃ t,u=PZ i t from b);cases q;show⟨_,PySem.W.kitx_int,True.intro,λz=>nomatch z⟩
 |str y=>obtain⟨t,q⟩:=(show ∃ t,u=Ve y t from b);cases q;show⟨_,PySem.W.kitx_str,True.intro,λz=>nomatch z⟩
 |flt y=>obtain⟨t,q⟩:=(show ∃ t,u=Xg y t from b);cases q;show⟨_,PySem.W.kitx_float,True.intro,λz=>nomatch z⟩
 |@lst a f c=>
  cases(show u=MT a from b);obtain⟨_,_,n,_,d⟩:=(show At X.prog X.w H s.heap a (.lst f) from I.hok a _ c)
  show⟨_,WF,⟨_,d,U⟩,λz=>nomatch z⟩
 |@frz a j f c=>
  cases(show u=MT a from b);obtain⟨_,_,_,n,_,d⟩:=(show At X.prog X.w H s.heap a (.frz j (.lst f)) from I.hok a _ c)
  show⟨_,WF,⟨_,d,U⟩,λz=>nomatch z⟩
 |@tup a f c=>
  cases(show u=MT a from b);obtain⟨_,_,_,p⟩:=(show At X.prog X.w H s.heap a (.tup f) from I.hok a _ c)
  obtain⟨o,d,g,_⟩:=p;show⟨_,PySem.W.kitx_tuple,⟨o,d,g⟩,λz=>nomatch z⟩
 |@dK a e c=>
  cases(show u=MT a from b);obtain⟨_,_,vs,_,p⟩:=(show At X.prog X.w H s.heap a (.dK e) from I.hok a _ c)
  obtain⟨o,B,A,d,g,_⟩:=p;show⟨_,WE,⟨o,d,g.1⟩,λz=>nomatch z⟩
 |@dT a e c=>
  cases(show u=MT a from b);obtain⟨_,_,f,_,o,B,A,d,g,_⟩:=(show At X.prog X.w H s.heap a (.dT e) from I.hok a _ c)
  show⟨_,WE,⟨o,d,g.1⟩,λz=>nomatch z⟩
 |@ins a C D fs c l m r j v=>
  cases(show u=MT a from b);obtain⟨F,k,_⟩:=ny I.hok c;obtain⟨E,J,_⟩:=k.look;show⟨_,(PySem.W.kitx_own (l.get _) l.hd m r j v),J,λz=>nomatch z⟩
def lS (I:Ag X pins σ H s) (f:Ao x u) (ty:Dc X.K H x t) (e:Ov X.K t c=Z b) (h:∀ d,Q (.bool b) { s with toks:=d }) :
  MI (MW X.prog X.w) A (call (.builtin "isinstance") [u,c]) Q E s:=by
 obtain⟨g,a,b,c⟩:=acs I f ty;show Xd a I.kIn b e c h
end
structure Room (k:Nat)(A:Nw):Prop where
 hd:A.handled=none
 dp:A.depth+3*k+5<recursionLimit
 un:A.units+16*k+200<cLine
def Room.mono (r:Room k A)(h:j<=k):Room j A:=⟨r.hd,by have:=r.dp;lia,by have:=r.un;lia⟩
def Room.deeper (r:Room (k+1) A)(env:Env):Room k (A.deeper env):=
 ⟨r.hd,by have:=r.dp;change A.depth+1+3*k+5<_;lia,by have:=r.un;change A.units+3+16*k+200<_;lia⟩
def vT {A:Nw}{C:MF}{b:List Mo}{a:List (Str×Mo)}:(A.under (.builtin "type.__call__" ⟨↥C::b,a⟩)).depth=A.depth+1:=by first|rfl|simp[WP,Code.weight,Code.isCreation,Code.isGuard,Code.isCaller,Code.frames,WS,guardIds]
def wB {A:Nw}{C:MF}{b:List Mo}{a:List (Str×Mo)}:(A.under (.builtin "type.__call__" ⟨↥C::b,a⟩)).units=A.units+1:=by first|rfl|simp[WP,Code.cUnits,Code.frames,WS]
def Room.make (r:Room (k+1) A)(C:MF)(b:List Mo)(a:List (Str×Mo)):Room k (A.under (.builtin "type.__call__" ⟨↥C::b,a⟩)):=
 ⟨r.hd,by have:=r.dp;rw[vT];lia,by have:=r.un;rw[wB];lia⟩
def Room.depth (r:Room k A):A.depth<recursionLimit:=by have:=r.dp;lia
def Room.units (r:Room k A):A.units+64<cLine:=by have:=r.un;lia
def Db:TA:=λ_ H Q=>Q [] H
def A4 (b:TE)(c:TA):TA:=λa H Q=>b a H λx d=>c a d λf e=>Q (x::f) e
section
variable {e:OZ}{es:List OZ}{te:TE}{t:TA}
def aH:PA X [] Db:=⟨λ_ _ _ _ H Q I h=>Wq ⟨[],H,I,.nil,h⟩⟩
def ai (f:PE X e te)(p:PA X es t)(l:M0 (e::es) X.env=(false,QA e X.env)::M0 es X.env<|>C'):PA X (e::es) (A4 te t):=by refine⟨λpos a s d H Q I h=>?_⟩;rw[l];change MI _ _ (spliced ((false,QA e X.env)::Qx pos (M0 es X.env))) _ _ s;refine VZ (bo (f a s d H _ I h) λu q b=>?_);obtain⟨x,o,n,k,j⟩:=b;refine (bo (p pos a q d o _ n j) λz y c=>?_);obtain⟨v,g,r,m,i⟩:=c;show⟨x::v,g,r,.cons k m,i⟩
def LH (t:TA):TE:=λc H Q=>t c H λb a=>⇑b<=MO/\∀ p,a p=none->Q ↥p (upd a p (.tup b))
def LK (t:TA):TE:=λc H Q=>t c H λb a=>⇑b<=MO/\∀ p,a p=none->Q ↥p (upd a p (.lst b))
def aV {x1}(h:PA X es t):PE X (.Tuple es x1 pos) (LH t):=by refine ⟨λa s g H Q I hq=>wpAny_Tuple_spliced (bo (h pos a s g H _ I hq) λj f c=>?_)⟩;obtain⟨k,i,d,r,z,q⟩:=c;refine⟨by rw[<- ⇑r];show z,?_⟩;refine⟨↥f⁻¹,upd i f⁻¹ (.tup k),d.laid (λb u e=>Ml _ e) (Mz _) ?_,U,q _ (d.hok.fresh (Mz _))⟩;show⟨z,j,r,⟨_,Ms _ U,U,_,U⟩⟩
def a_ (h:PA X es t):PE X (.List es pos) (LK t):=by refine ⟨λa s g H Q I hq=>wpAny_List_spliced (bo (h pos a s g H _ I hq) λj f c=>?_)⟩;obtain⟨k,i,d,r,z,q⟩:=c;refine⟨by rw[<- ⇑r];show z,?_⟩;refine⟨↥f⁻¹,upd i f⁻¹ (.lst k),d.laid (λb u e=>Ml _ e) (Mz _) ?_,U,q _ (d.hok.fresh (Mz _))⟩;show⟨z,j,0,r,Ms _ U⟩
end
abbrev Sp:=List V->Hp->VK->XK->Prop
abbrev C_:=List Env->Hp->Mt->XK->Mo->Mt->Prop
structure Ht (P:MY)(w:Nr)(K:KE)(mg:O')(base:Oz)(A:Nw)(outer:List Env)(s:Mt)(H:Hp):Prop where
 frames:A.frames=Z outer
 mod:Mod K mg base
 bs:∀ b o,base.get? b=Z o->s>>b=Z o/\H b=none
 bsz:base.objs.size<=s⁻¹
 funs:s.heap.FunFrames base outer
 frf:∀ b∈BJ outer,H b=none
 hok:B9 P w H s.heap
 bare:UR s.gens
def CE (a:List Env)(P:MY)(w:Nr)(H:Hp)(s:Mt)(Q:VK)(u:Mo)(b:Mt):Prop:=
 ∃ v c,b.os=s.os/\UR b.gens/\Un (BJ a) [] H c s.heap b.heap/\B9 P w c b.heap/\Ao v u/\Q v c
def CR (CX:C_)(a:List Env)(P:MY)(w:Nr)(H:Hp)(s:Mt)(Q:VK)(E:XK)(r:Result)(b:Mt):Prop:=
 match r with
 |.ok (.ret u)=>CE a P w H s Q u b
 |.ok _=>False
 |.error e=>CX a H s E e b
structure Bw (P:MY)(w:Nr)(K:KE)(mg:O')(base:Oz)(CX:C_)(k:Nat)(f:MF)(fd:OQ)(ps:List Str)(sp:Sp):Prop where
 len:∀ vs H Q E,sp vs H Q E->⇑vs=⇑ps
 run:∀ (A:Nw) (outer:List Env) (s:Mt) (H:Hp) (args:Args) (us:List Mo) (vs:List V) (Q:VK) (E:XK),Room k A->Ht P w K mg base A outer s H->VI s fd args (ps.zip us)->Ah vs us->sp vs H Q E ->
  P0 (MW P w) A (.call ↥f args) (CR CX outer P w H s Q E) s
def Bw.mono {K:KE}{j k:Nat} (F:Bw P w K mg base CX j f fd ps sp) (h:j <= k) :
  Bw P w K mg base CX k f fd ps sp:=⟨F.len,λA a s H b c vs Q E d=>F.run A a s H b c vs Q E (d.mono h)⟩
def Ht.make {K:KE} (e:Ht P w K mg base A outer s H) (C:MF) (a:List Mo) (b:List (Str × Mo)) :
  Ht P w K mg base (A.under (.builtin "type.__call__" ⟨↥C::a,b⟩)) outer s H:=⟨by first|show e.frames|(simpa [WP,Code.envs,WS,pushEnvs] using e.frames),e.mod,e.bs,e.bsz,e.funs,e.frf,e.hok,e.bare⟩
section
variable {σ:St}{H:Hp}{s s':Mt}
def Ag.env0 (I:Ag X pins σ H s):Ht X.prog X.w X.K X.mg X.base X.A X.stack s H:=
 ⟨I.ok.frames,I.ok.mod,I.bs,M1 I.ok.bsz I.sz,I.stack,I.stkFree,I.hok,I.bare⟩
def Ag.after (I:Ag X pins σ H s)(h:CE X.stack X.prog X.w H s Q u s'):EP X pins σ Q u s':=by obtain⟨v,f,os,a,un,e,r,q⟩:=h;obtain⟨i,g,d,t,c⟩:=s';obtain rfl:c=s.os:=os;show⟨v,f,I.call un e a (λb z=>absurd z zyA),r,q⟩
end
def DM (sp:Sp)(a:List V)(E:XK)(t:TA):TE:=λb H Q=>t b H λvs c=>sp (vs++a) c Q E
def Cr (K:KE)(c:OQ)(b:List Str)(ds:List Mo):Prop:=
 ∀ (s:Mt) (a:List Mo),K.In s.heap->⇑(a++ds)=⇑b->VI s c ⟨a,[]⟩ (b.zip (a++ds))
def Cr.all {K:KE}(h:∀ a:List Mo,⇑a=⇑ps->QJ fd ⟨a,[]⟩=pure (ps.zip a)):Cr K fd ps []:=λs a _ b=>by
 rw[SF] at b ⊢;show .of_eq (h a b)
def ES (CX:C_)(X:Cx)(E:XK):Prop:=∀ (a:Lb) (c:St) (H:Hp) (s:Mt) (e:Mo) (b:Mt),Ag X a c H s->CX X.stack H s E e b->X.xe e b
variable {CX:C_}
section
variable {k:Nat}{f C:MF}{fd:OQ}{ps:List Str}{sp:Sp}{dvs:List V}{ds:List Mo}{E:XK}{x m:Str}{p apos:Pos}{e o:OZ}{es:List OZ}{ta:TE}{t:TA}
def tO (F:Bw X.prog X.w X.K X.mg X.base CX k f fd ps sp) (j:Room k X.A) (g:Cr X.K fd ps ds) (i:Ah dvs ds) (d:ES CX X E)
  (I:Ag X pins σ H s)(r:Ah vs us)(h:sp (vs++dvs) H Q E):MI (MW X.prog X.w) X.A (call ↥f us) (EP X pins σ Q) X.xe s:=by
 have a:=r.append i;have c:⇑(us++ds)=⇑ps:=by rw[<- ⇑a];show F.len _ _ _ _ h
 refine P1 (PF (F.run X.A X.stack s H ⟨us,[]⟩ (us++ds) (vs++dvs) Q E j I.env0 (g s us I.kIn c) a h) λr b hq=>?_);cases r with
 |error e=>show d pins σ H s e b I hq
 |ok l=>
  cases l with
  |ret u=>show I.after hq
  |next=>show OC hq
  |brk=>show OC hq
  |cont=>show OC hq
def ada (F:Bw X.prog X.w X.K X.mg X.base CX k f fd ps sp) (y:Room k X.A) (u:Gl X x) (l:X.mg x=Z ↥f) (o:M8 X.K ↥f=true) (n:Cr X.K fd ps ds) (v:Ah dvs ds) (m:ES CX X E)
  (j:PA X (e::es) t)(d:(x==("__debug__":Str))=false<|>Cb)(he:M0 (e::es) X.env=(false,QA e X.env)::M0 es X.env<|>C')(b:(Qx pos (M0 es X.env)).any (·.1)=false<|>C'):
  PE X (.Call (.Name x p) (e::es) [] pos) (DM sp dvs E t):=by
 refine ⟨λa s i H Q I h=>NX (eB I u l (PC (h₀:=X.base) I.ok.mod.kin o (bo (j pos a s i H _ I h) λC B c=>?_) he b) d)⟩;obtain⟨vs,z,g,r,q⟩:=c;show⟨g.kIn,tO F y n v m g r q⟩
structure Mk (K:KE)(C f:MF):Prop where
 makes:SM K C=true
 init:M7 K ↥C "__init__"=Z (Z ↥f)
 fn:O3 K ↥f=true
 kp:M8 K ↥C=true
def aaW (M:Mk X.K C f) (F:Bw X.prog X.w X.K X.mg X.base CX k f fd ps sp) (p:Room (k + 1) X.A) (n:Cr X.K fd ps ds) (o:Ah dvs ds)
  (m:ES CX X E)(I:Ag X pins σ H s)(r:Ah vs us)
  (h:∀ x b,H x=none->H b=none->b≠x->sp (↥x::(vs++dvs)) (upd (upd H b (.own x)) x (.ins C b [])) (λv i=>v=.non/\Q ↥x i) E):
  MI (MW X.prog X.w) X.A (call ↥C us) (EP X pins σ Q) X.xe s:=by
 have hq:=h (s⁻¹+1) s⁻¹ (I.hok.fresh (Q5 _)) (I.hok.fresh (Mz _)) (MH (N_ _));have c:=Ag.made (C:=C) I;have d:Ah (V.ref (s⁻¹+1)::(vs++dvs)) (MT (s⁻¹+1)::(us++ds)):=.cons rfl (r.append o);have z:⇑(MT (s⁻¹+1)::us++ds)=⇑ps:=by
  have e:=⇑d;rw[F.len _ _ _ _ hq] at e;show e.symm
 refine P1 (pG I.kIn M.makes M.init (NZ.mp M.fn) (PF (F.run _ X.stack _ _ ⟨MT (s⁻¹+1)::us,[]⟩ (MT (s⁻¹+1)::(us++ds)) _ _ E (p.make C us [])
  (c.env0.make C us []) (n _ (MT (s⁻¹+1)::us) c.kIn z) d hq) λr g a=>?_))
 cases r with
 |error e=>show m pins σ _ _ e g c a
 |ok y=>
  cases y with
  |ret u=>
   obtain⟨v,j,l,t,q,B⟩:=c.after a;subst q;show⟨t,⟨V.ref (s⁻¹+1),j,l,U,B⟩⟩
  |next=>show OC a
  |brk=>show OC a
  |cont=>show OC a
end
noncomputable def qK (X:Cx)(c:List SE)(t:TA):Prop:=
 ∀ (d:Pos) (a:Lb) (s:Mt) (b:St) (H:Hp) (Q:SS),Ag X a b H s->t b H Q->MI (MW X.prog X.w) X.A (evalAll ((QI d (OX c X.env)).map (·.2))) (AP X a b Q) X.xe s
structure PK (X:Cx)(kws:List SE)(t:TA):Prop where
 go:qK X kws t
instance {X:Cx}{kws:List SE}{t:TA}:CoeFun (PK X kws t) λ_=>qK X kws t:=⟨PK.go⟩
section
variable {k:Nat}{f C:MF}{fd:OQ}{ps ks:List Str}{sp:Sp}{E:XK}{x m:Str}{p apos kpos:Pos}{e o:OZ}{es:List OZ}{kws:List SE}{te ta:TE}{t tk:TA}{nm:Option Str}
def oX:PK X [] Db:=⟨λ_ _ _ _ H Q I h=>wpAny_evalAll_nil ⟨[],H,I,.nil,h⟩⟩
def jC (f:PE X e te)(o:PK X kws t):PK X (⟨nm,e,kpos⟩::kws) (A4 te t):=by refine⟨λpos a s d H Q I h=>?_⟩;change MI _ _ (evalAll ((do let v <- QA e X.env;VU pos;pure v)::(QI pos (OX kws X.env)).map (·.2))) _ _ s;refine wpAny_evalAll_cons (HD (bo (f a s d H _ I h) λu p b=>?_));obtain⟨x,n,m,k,j⟩:=b;refine HD (Pf (Mm (bo (o pos a p d n _ m j) λz y c=>?_)));obtain⟨r,g,q,l,i⟩:=c;show⟨x::r,g,q,.cons k l,i⟩
abbrev _root_.X4:=List V->List V->List V
structure C4 (K:KE)(fd:OQ)(ps ks:List Str)(g:List Mo->List Mo->List Mo)(gV:X4):Prop where
 to:∀ (s:Mt) (us ws:List Mo),K.In s.heap->⇑(g us ws)=⇑ps->VI s fd ⟨us,ks.zip ws⟩ (ps.zip (g us ws))
 rel:∀ {vs:List V}{us:List Mo}{zs:List V}{ws:List Mo},Ah vs us->Ah zs ws->Ah (gV vs zs) (g us ws)
variable {g:List Mo->List Mo->List Mo}{gV:X4}
def ac3 (F:Bw X.prog X.w X.K X.mg X.base CX k f fd ps sp) (l:Room k X.A) (b:C4 X.K fd ps ks g gV) (i:ES CX X E)
  (I:Ag X pins σ H s)(r:Ah vs us)(j:Ah zs ws)(h:sp (gV vs zs) H Q E):MI (MW X.prog X.w) X.A (call ↥f us (ks.zip ws)) (EP X pins σ Q) X.xe s:=by
 have a:=b.rel r j;have d:⇑(g us ws)=⇑ps:=by rw[<- ⇑a];show F.len _ _ _ _ h
 refine P1 (PF (F.run X.A X.stack s H ⟨us,ks.zip ws⟩ (g us ws) (gV vs zs) Q E l I.env0 (b.to s us ws I.kIn d) a h) λr c hq=>?_);cases r with
 |error e=>show i pins σ H s e c I hq
 |ok m=>
  cases m with
  |ret u=>show I.after hq
  |next=>show OC hq
  |brk=>show OC hq
  |cont=>show OC hq
end
structure Ac (N P:List Str)(sc:Qw):Prop where
 kind:sc.kind=.function
 co:sc.isCoroutine=false
 gen:sc.isGenerator=false
 nd:N.Nodup
 pre:N.take ⇑P=P
 par:∀ x∈P,sc.names.lookup x=Z .local\/sc.names.lookup x=Z .cell
 nofree:∀ y∈sc.names,y.2≠.free
theorem rA {kindOf:Str->Option Qk}{x:Str}:∀ {a:List (Str×Mo)}{m:O'},(∀ v,(x,v)∉a)->bindL kindOf a m x=m x
 |[],_,_=>rfl
 |(n,v)::r,m,h=>by
  unfold bindL;rw[rA λw hw=>h w (Mx _ hw)]
  split
  .have:x≠n:=by rintro rfl;show h v MS
   simp[this]
  .rfl
theorem rp {kindOf:Str->Option Qk}{x:Str}:∀ {a:List (Str×Mo)}{m:O'},(∀ v,(x,v)∉a)->bindC kindOf a m x=m x
 |[],_,_=>rfl
 |(n,v)::r,m,h=>by
  unfold bindC;rw[rp λw hw=>h w (Mx _ hw)]
  split
  .rfl
  .have:x≠n:=by rintro rfl;show h v MS
   simp[this]
theorem qV {kindOf:Str->Option Qk}{x:Str}{v:Mo}:∀ {P:List Str}{vs:List Mo}{i:Nat}{m:O'},P.Nodup->P[i]?=Z x->vs[i]?=Z v->kindOf x=Z .local ->
  bindL kindOf (P.zip vs) m x=Z v
 |[],_,_,_,_,h,_,_=>by simp at h
 |_::_,[],_,_,_,_,h,_=>by simp at h
 |p::P,w::vs,0,m,c,a,b,d=>by
  simp at a b;subst a;subst b;change bindL kindOf ((p,w)::P.zip vs) m p=_;unfold bindL;rw[rA λv e=>(Ou.mp c).1 (PU e).1,M' d];simp
 |p::P,w::vs,i+1,m,c,a,b,d=>by
  change bindL kindOf ((p,w)::P.zip vs) m x=_;show qV (Ou.mp c).2 (by simpa using a) (by simpa using b) d
theorem qP {kindOf:Str->Option Qk}{x:Str}{v:Mo}:∀ {P:List Str}{vs:List Mo}{i:Nat}{m:O'},P.Nodup->P[i]?=Z x->vs[i]?=Z v->kindOf x ≠ Z .local ->
  bindC kindOf (P.zip vs) m x=Z v
 |[],_,_,_,_,h,_,_=>by simp at h
 |_::_,[],_,_,_,_,h,_=>by simp at h
 |p::P,w::vs,0,m,c,a,b,d=>by
  simp at a b;subst a;subst b;change bindC kindOf ((p,w)::P.zip vs) m p=_;unfold bindC;rw[rp λv e=>(Ou.mp c).1 (PU e).1,MZ d];simp
 |p::P,w::vs,i+1,m,c,a,b,d=>by
  change bindC kindOf ((p,w)::P.zip vs) m x=_;show qP (Ou.mp c).2 (by simpa using a) (by simpa using b) d
def B2 (N:List Str)(vs:List V):St:=vs.map Z++MN (⇑N-⇑vs) none
def DH (CX:C_)(P:MY)(w:Nr)(K:KE)(mg:O')(base:Oz)(N:List Str)(c:Str)(a:Qw)(f:MF)(g:Mo)(A:Nw)(b:List Env)(s:Mt)(H:Hp)(E:XK):Cx where
 prog:=P
 w:=w
 K:=K
 mg:=mg
 base:=base
 A:=A.deeper (envOfC c a s⁻¹ f g)
 N:=N
 s₀:=s
 H₀:=H
 env:=envOfC c a s⁻¹ f g
 outer:=b
 stack:=envOfC c a s⁻¹ f g::b
 ex:=[]
 calm:=true
 fn:=λ_=>true
 pn:=[]
 xe:=λe h=>MI (MW P w) (A.deeper (envOfC c a s⁻¹ f g)) (leaving (envOfC c a s⁻¹ f g) e) (λ_ d=>CX b H s E e d) (λi d=>CX b H s E i d) h
def vz {a:Qw}{n:Nat}{x:Str}(h:a.names.lookup x=Z .cell):∃ c,(Ro n a.names []).lookup x=Z c:=by show OE.mp (Qi a.names n [] (.inl h))
def aab {CX:C_}{P:MY}{w:Nr}{K:KE}{mg:O'}{base:Oz}{N t:List Str}{j:Str}{d:Qw}{f:MF}{G:Mo}{A:Nw}{g:List Env}{s s1:Mt}{H:Hp}{E:XK}{I:List Mo}{vs:List V}
  (S:Ac N t d)(R:A.handled=none)(m:Ht P w K mg base A g s H)(hl:⇑vs=⇑t)(r:Ah vs I)
  (x:InCallC s s⁻¹ (bindL (envOfC j d s⁻¹ f G).kindOf (t.zip I) λ_=>none) (Ro (s⁻¹+1) d.names []) (bindC (envOfC j d s⁻¹ f G).kindOf (t.zip I) λ_=>none) s1):
  Ag (DH CX P w K mg base N j d f G A g s H E) [] (B2 N vs) H s1:=by
 have M:⇑t<=⇑N:=by have:=Rp Uc S.pre;rw[Nl] at this;lia
 obtain⟨F,tk,rfl,L⟩:=x.done;have o:∀ b:MF,b∉(DH CX P w K mg base N j d f G A g s H E).ex:=λb z=>absurd (show b∈([]:List MF) from z) zyA
 refine⟨⟨m.mod,S.kind,U,U,Mz _,λy z c F l=>?_,λy n=>?_,λy c _ h=>?_,λ_=>R,Around.frames_deeper m.frames,.inr ⟨U,U⟩,λb z=>absurd z (o b),m.bs,m.bsz,λb _ _=>o b,λb z=>absurd z (o b),m.funs,m.frf⟩,
  U,m.bare,Un.kept L,⟨_,x.toInCall.ns,λi y v F l X=>?_⟩,λy c h=>⟨_,x.cell y c h⟩,m.hok.fresh (Mz _),λy c h=>?_,λp C=>absurd (show p∈([]:List (MF×Obj)) from C) zyA,m.hok.kept L,?_⟩
 .show name_of_addr x.apart (OV F) (OV l)
 .have n:d.names.lookup y=Z .cell\/d.names.lookup y=Z .free:=n;rcases n with n|n
  .show vz n
  .show absurd rfl (S.nofree _ (OV n))
 .show N4 (x.above y c (OV h))
 .have D:i<⇑vs:=by
   unfold B2 at l
   by_cases D:i<⇑vs
   .show D
   .rw[NR (by simpa using D)] at l;rw[Rk] at l
    split at l<;>cases l
  have Q:vs[i]?=Z v:=by
   unfold B2 at l;rw[NY (by simpa using D),Mw] at l;cases e:vs[i]? with
   |none=>rw[e] at l;cases l
   |some a=>rw[e] at l;cases l;rfl
  obtain⟨u,J,T⟩:=r.get Q;have C:t[i]?=Z y:=by
   rw[<- S.pre,List.getElem?_take_of_lt Y];show F
  have B:t.Nodup:=by rw[<- S.pre];show S.nd.sublist (TV _ _)
  refine⟨u,T,?_⟩;rcases S.par y (MD C) with k|k
  .show .inl ⟨k,qV B C J k⟩
  .obtain⟨c,e⟩:=vz k;refine .inr ⟨.inl k,c,e,?_⟩;have q:=x.cell y c e;rw[qP B C J (by change d.names.lookup y≠_;rw[k];decide)] at q;show q
 .show m.hok.fresh (N4 (x.above y c (OV h)))
 .unfold B2;change _=⇑N;rw[MP,Mq,U3];lia
abbrev _root_.S1:=Array (Option Mo)
def nZ {CX:C_}{P:MY}{w:Nr}{K:KE}{mg:O'}{base:Oz}{k:Nat}{f:MF}{name d:Str}{g:VX}{body:List On}{a:Qw}{dV kV m X h R oc:Mo}{M od:Option MF}
  {G:S1}{N C:List Str}{sp:Sp}(lk:K.lookup f=Z ⟨oc,od,.func (M5 name d g body a dV kV m X M h R),G⟩)(F:Nj K h d=true)(S:Ac N C a)
  (len:∀ vs H Q E,sp vs H Q E->⇑vs=⇑C)
  (bb:∀ (A:Nw) (c:List Env) (s:Mt) (H:Hp) (vs:List V) (Q:VK) (E:XK),Room k (A.deeper (envOfC d a s⁻¹ f h))->sp vs H Q E ->
   ∃ t,EH (DH CX P w K mg base N d a f h A c s H E) body t/\t { nx:=λ_ H'=>Q .non H',rt:=Q } (B2 N vs) H) :
  Bw P w K mg base CX (k+1) f (M5 name d g body a dV kV m X M h R) C sp:=by
 refine⟨len,λA c s H T us vs Q E I B hb r p=>?_⟩;have KX:=B.mod.kin.keeps λb o e=>(B.bs b o e).1
 have j:∀ y∈C.zip us,a.names.lookup y.1=Z .local\/(a.names.lookup y.1=Z .cell/\((Ro (s⁻¹+1) a.names []).lookup y.1).isSome=true):=λ⟨n,v⟩ hy=>by
  rcases S.par n (PU hy).1 with q|q
  .show .inl q
  .show .inr ⟨q,Qi _ _ _ (.inl q)⟩
 refine codeAny_call_function I.depth (KX _ _ lk) U S.co S.gen rfl (PySem.W.codeRec_of KX F) (hb _ _ _ _ (wpAny_newFunctionEnv_cells S.kind j λenv he s1 x=>?_));subst he;refine⟨(B.mod.nolimit.keeps λb o e=>(B.bs b o e).1).keeps x.toInCall.keep,codeAny_func ?_⟩;obtain⟨t,ht,hq⟩:=bb A c s H vs Q E (I.deeper _) p;refine NI (ht [] s1 (B2 N vs) H _ (aab S I.hd B (len _ _ _ _ p) r x) hq) (λfl D l=>?_) λe D l=>l
 have z:∀ {i:St}{H':Hp}{v:V}{u:Mo},Ag (DH CX P w K mg base N d a f h A c s H E) [] i H' D->Ao v u->Q v H'->CE c P w H s Q u D:=
  λ{i H' v u} J L q=>⟨v,H',J.os,J.bare,J.base,J.hok,L,q⟩
 cases fl with
 |ret u=>
  obtain⟨v,i,H',J,L,q⟩:=l;show z J L q
 |next=>
  obtain⟨i,H',J,q⟩:=l;show z (v:=V.non) J rfl q
 |brk=>
  obtain⟨_,_,_,q⟩:=l;show OC q
 |cont=>
  obtain⟨_,_,_,q⟩:=l;show OC q
section
variable {x:Str}{p:Pos}{e:OZ}{es:List OZ}{t:TA}{id T:String}{r:List V->Hp->VK->Prop}
def Lm (r:List V->Hp->VK->Prop)(t:TA):TE:=λa H Q=>t a H λvs b=>r vs b Q
def aq (q:AI X (.builtin id) r) (o:Gl X x) (l:X.mg x=none) (m:Ny x=Z (.builtin id)) (g:PA X (e :: es) t) (k:x ≠ "__name__"<|>Cb) (d:(x == ("__debug__":Str))=false<|>Cb)
  (he:M0 (e::es) X.env=(false,QA e X.env)::M0 es X.env<|>C')(b:(Qx pos (M0 es X.env)).any (·.1)=false<|>C'):PE X (.Call (.Name x p) (e::es) [] pos) (Lm r t):=by
 refine ⟨λa s f H Q I h=>NX (gH I o l m (R7 (bo (g pos a s f H _ I h) λy v c=>?_) he b) k d)⟩;obtain⟨vs,u,n,j,i⟩:=c;show q a v f u vs y Q n j i
def aS (q:AI X (.type T) r) (o:Gl X x) (l:X.mg x=none) (m:Ny x=Z (.type T)) (g:PA X (e :: es) t) (k:x ≠ "__name__"<|>Cb) (d:(x == ("__debug__":Str))=false<|>Cb)
  (he:M0 (e::es) X.env=(false,QA e X.env)::M0 es X.env<|>C')(b:(Qx pos (M0 es X.env)).any (·.1)=false<|>C'):PE X (.Call (.Name x p) (e::es) [] pos) (Lm r t):=by
 refine ⟨λa s f H Q I h=>NX (gH I o l m (OM (bo (g pos a s f H _ I h) λy v c=>?_) he b) k d)⟩;obtain⟨vs,u,n,j,i⟩:=c;show q a v f u vs y Q n j i
end
end L2
namespace HT
open PySem PyProof.Rows
section
variable {prog:MY}{w:Nr}{A:Nw}{E:My}{s:Mt}
noncomputable def sIx (n d:Nat):Option Int->Nat
 |none=>d
 |some v=>if v<0 then(v+(n:Int)).toNat else min v.toNat n
def sIx_none (n d:Nat):sIx n d none=d:=U
def sIx_nat (n d k:Nat):sIx n d (Z (k:Int))=min k n:=by change(if(k:Int)<0 then((k:Int)+(n:Int)).toNat else min (k:Int).toNat n)=min k n;rw[MZ Y,Ng]
end
end HT
namespace L2
open PySem PySem.Spec PyProof.Rows
abbrev TO:=St->Hp->(Option Int->Hp->Prop)->Prop
noncomputable def qO (X:Cx)(e:Option OZ)(t:TO):Prop:=
 ∀ (a:Lb) (s:Mt) (b:St) (H:Hp) (Q:Option Int->Hp->Prop),Ag X a b H s->t b H Q ->
  MI (MW X.prog X.w) X.A (evalPart e X.env) (λu d=>∃ o c,Ag X a b c d/\IsPart u o/\Q o c) X.xe s
structure PO (X:Cx)(e:Option OZ)(t:TO):Prop where
 go:qO X e t
instance {X:Cx}{e:Option OZ}{t:TO}:CoeFun (PO X e t) λ_=>qO X e t:=⟨PO.go⟩
def IU:TO:=λ_ H Q=>Q none H
def Kg (t:TE):TO:=λa H Q=>t a H λx b=>∃ i,x=↑i/\Q (Z i) b
def oH:∀ {a:List Mo},Ah (ns.map V.int) a->OA a ns:=by
 induction ns with
 |nil=>intro a r;rw[Px] at r;cases r;show .nil
 |cons n ns d=>
  intro a r;rw[MR] at r;cases r with
  |cons b c=>
   obtain⟨t,e⟩:=b;subst e;show .cons n t (d c)
variable {X:Cx}{pos:Pos}
section
variable {e:OZ}{te:TE}{lo hi:Option OZ}{tl th:TO}{p2:Pos}
def lA:PO X none IU:=by refine⟨λa s b H Q I h=>?_⟩;rw[evalPart_none];show Mm ⟨none,H,I,.none,h⟩
def lF (h:PE X e te):PO X (Z e) (Kg te):=by
 refine⟨λa s c H Q I hw=>?_⟩;rw[evalPart_some];refine bo (h a s c H _ I hw) λu k b=>?_;obtain⟨x,j,g,f,d⟩:=b
 obtain⟨i,rfl,q⟩:=d;obtain⟨t,rfl⟩:=f;show⟨Z i,j,g,.int i t,q⟩
def Lo (X:Cx)(r:V->Option Int->Option Int->Hp->VK->Prop):Prop:=
 ∀ (a:Lb) (s:Mt) (b:St) (H:Hp) (x:V) (v c d:Mo) (lo hi:Option Int) (e:MF) (Q:VK),Ag X a b H s->Ao x v->s.heap.IsSliceOf e c d .none->IsPart c lo->IsPart d hi->r x lo hi H Q ->
  ∃ T id,WN (.type T) "__getitem__"=pure (Z (.builtin id))/\s.TypeIs v T/\MI (MW X.prog X.w) X.A (WK v ↥e) (EP X a b Q) X.xe s
def Ma (r:V->Option Int->Option Int->Hp->VK->Prop)(te:TE)(tl th:TO):TE:=λa H Q=>te a H λx c=>tl a c λl d=>th a d λu b=>r x l u b Q
def jd (N:Lo X r)(he:PE X e te)(S:PO X lo tl)(y:PO X hi th):PE X (.Subscript e (.Slice lo hi none p2) pos) (Ma r te tl th):=by
 refine ⟨λa s d H Q I h=>WH (bo (he a s d H _ I h) λv R j=>?_)⟩;obtain⟨x,L,F,B,z⟩:=j;refine wpAny_Slice (bo (S a R d L _ F z) λg t k=>?_);obtain⟨l,o,I2,C,p⟩:=k;refine bo (y a t d o _ I2 p) λf c i=>?_;obtain⟨u,m,D,G,q3⟩:=i;rw[evalPart_none];refine Mm ?_;have E:Ag X a d m { c with heap:=c.heap.push { cls:=.type "slice",data:=.fields #[g,f,.none] } }:=D.kept λb ob q=>Ml _ q
 obtain⟨T,id,n,M,J⟩:=N a { c with heap:=c.heap.push { cls:=.type "slice",data:=.fields #[g,f,.none] } } d m x v g f l u c⁻¹ Q E B (Heap.IsSliceOf.new ..) C G q3;change MI (MW X.prog X.w) X.A (Wn e (.Slice lo hi none p2) v ↥c⁻¹) (EP X a d Q) X.xe { c with heap:=c.heap.push { cls:=.type "slice",data:=.fields #[g,f,.none] } };show tail_any M n J (by with_unfolding_all rfl)
def GN (xs:List V)(lo hi:Option Int):List V:=(xs.drop (HT.sIx ⇑xs 0 lo)).take (HT.sIx ⇑xs ⇑xs hi-HT.sIx ⇑xs 0 lo)
def vm (xs:List V)(lo hi:Option Int):⇑(GN xs lo hi)<=⇑xs:=by unfold GN;rw[Nl,Sf];lia
end
def G_ (n:Nat)(i:Int):Option Nat:=if 0<=i then(if i<n then Z i.toNat else none) else if -(n:Int)<=i then Z (i+n).toNat else none
def He {α:Type}(xs:List α)(i:Int):Option α:=(G_ ⇑xs i).bind λj=>xs[j]?
def yj {i:Int}(h:G_ n i=Z j):seqIndex? i n=Z j/\j<n/\-(n:Int)<=i/\i<n:=by
 unfold G_ at h
 by_cases b:0<=i
 .rw[M' b] at h
  by_cases a:i<n
  .rw[M' a] at h;have e:=Mn h;show⟨by rw[seqIndex_of b a,e],Y,Y,a⟩
  .rw[MZ a] at h;cases h
 .rw[MZ b] at h
  by_cases a:-(n:Int)<=i
  .rw[M' a] at h;have e:=Mn h;show⟨by rw[seqIndex_neg Y a,e],Y,a,Y⟩
  .rw[MZ a] at h;cases h
def tK {i:Int}(h:He xs i=Z v):∃ j,seqIndex? i ⇑xs=Z j/\xs[j]?=Z v/\j<⇑xs/\-(⇑xs:Int)<=i/\i<⇑xs:=by
 unfold He at h;cases e:G_ ⇑xs i with
 |none=>rw[e] at h;cases h
 |some j=>
  rw[e] at h;obtain⟨a,d,c,b⟩:=yj e;show⟨j,a,h,d,c,b⟩
def jG {j:Nat}(h:xs[j]?=Z v):He xs (j:Int)=Z v:=by
 have a:=(Mp.mp h).1;have e:G_ ⇑xs (j:Int)=Z j:=by
  unfold G_;rw[M' Y,M' Y];simp
 unfold He;rw[e];show h
def pM (xs:List α)(v:α):He (xs++[v]) (-1)=Z v:=by
 have a:⇑(xs++[v])=⇑xs+1:=zyA
 have e:G_ ⇑(xs++[v]) (-1)=Z ⇑xs:=by
  unfold G_;rw[a,MZ O,M' Y]
  congr 1
  lia
 unfold He;rw[e];simp
def Hk (b:OZ):Prop:=∀ o i,subscripted b false o i=operate [o,i] (WK o i)
def Ij (X:Cx)(r:R2):Prop:=
 ∀ (c a:OZ) (b:Lb) (s:Mt) (d:St) (H:Hp) (x y:V) (v u:Mo) (Q:VK),Ag X b d H s->Ao x v->Ao y u->r x y H Q ->
  subscripted a false v u=operate [v,u] (WK v u)->MI (MW X.prog X.w) X.A (Wn c a v u) (EP X b d Q) X.xe s
abbrev _root_.X7:=V->List V->Hp->VK->Prop
def Lw (X:Cx)(id:String)(r:X7):Prop:=
 ∀ (a:Lb) (s:Mt) (b:St) (H:Hp) (x:V) (d:List V) (v:Mo) (c:List Mo) (Q:VK),Ag X a b H s->Ao x v->Ah d c->r x d H Q ->
  MI (MW X.prog X.w) X.A (call (.builtin id) (v::c)) (EP X a b Q) X.xe s
section
variable {a b:OZ}{ta tb:TE}
def Ij.or (h:Ij X r)(h':Ij X r'):Ij X (λx y H Q=>r x y H Q\/r' x y H Q):=by
 intro b a c s d H x y v u Q I f e q g;rcases q with q|q
 .show h b a c s d H x y v u Q I f e q g
 .show h' b a c s d H x y v u Q I f e q g
def aee (l:Ij X r)(f:PE X a ta)(j:PE X b tb)(k:Hk b):PE X (.Subscript a b pos) (HL r ta tb):=by show⟨λc s d H Q I h=>WH (aex f j I h λv u i x y g n m e q=>l a b c i d g x y v u Q n m e q (k _ _))⟩
inductive Kx (K:KE)(x y:V)(H:Hp)(Q:VK):Prop
 |mk (p:MF) (xs:List V) (i:Int) (v:V) (_:x=↥p) (_:y=↑i) (_:An K H p xs) (_:He xs i=Z v) (_:Q v H)
inductive Kp (K:KE)(x y:V)(H:Hp)(Q:VK):Prop
 |mk (p:MF) (xs:List V) (i:Int) (v:V) (_:x=↥p) (_:y=↑i) (_:AZ K H p xs) (_:He xs i=Z v) (_:Q v H)
def Km:R2:=λx y H Q=>∃ z i c,x=.str z/\y=↑i/\⇑z<=MO/\He z.cps.toList i=Z c/\Q (.str ⟨#[c]⟩) H
def adx:Ij X (Kx X.K):=by
 intro l d a s A H x y v u Q I F B h n;obtain⟨p,R,i,z,rfl,rfl,hq,C,q⟩:=h;cases F;obtain⟨t,rfl⟩:=B;obtain⟨f,r,e,N⟩:=I.list hq;obtain⟨j,c,E,L,D,J⟩:=tK C;obtain⟨w,m,g⟩:=r.get E;have G:=⇑r;have M:=kC;have b:EP X a A Q w s:=⟨z,H,I,g,q⟩
 by_cases o:0<=i
 .have k:i.toNat=j:=by
   rw[seqIndex_of o J] at c;show Mn c
  show item_listR e.isList o Y (by rw[k];simpa using m) b n
 .have k:(i+(f.toArray.size:Int)).toNat=j:=by
   rw[seqIndex_neg Y D] at c;rw[MJ,<- G];show Mn c
  show UO e.isList.typeIs slot_list_getitem.lookup
   (wpAny_getItem_list_neg e.isList Y (by rw[MJ]<;>lia) Y (by rw[k];simpa using m) ⟨U,b⟩) n
def aeH:Ij X (Kp X.K):=by
 intro d b a s g H x y v u Q I B k h o;obtain⟨p,L,i,z,rfl,rfl,hq,l,q⟩:=h;cases B;obtain⟨t,rfl⟩:=k;obtain⟨n,r,e,G⟩:=I.tuple hq;obtain⟨j,C,A,D,F,J⟩:=tK l;obtain⟨w,m,c⟩:=r.get A;have E:=kC;show UO e.typeIs slot_tuple_getitem.lookup
  (getItem_tuple (j:=j) (Q:=λr f=>r=w/\EP X a g Q r f) e Y Y (by rw[MJ,<- ⇑r];show C) (by simpa using m) ⟨U,⟨z,H,I,c,q⟩⟩) o
def aer:Ij X Km:=by
 intro b a d s r H x y v u Q I n f h l;obtain⟨z,i,c,rfl,rfl,D,g,q⟩:=h;obtain⟨t,rfl⟩:=n;obtain⟨C,rfl⟩:=f;obtain⟨j,e,m,A,k,p⟩:=tK g;have o:⇑z.cps.toList=⇑z:=by simp[Str.length]
 rw[o] at e k p;have B:=kC;show tail_any (typeIs_str s z t) slot_str_getitem.lookup (getItem_str (by
  rw[Na Y,Na Y,VY]) (by rw[e];simpa using m) ⟨.str ⟨#[c]⟩,H,I.tok _,⟨_,U⟩,q⟩) l
def IE (K:KE):R2:=λx y H Q=>Kx K x y H Q\/Kp K x y H Q\/Km x y H Q
def afm:Ij X (IE X.K):=adx.or (aeH.or aer)
def v6 (a:List Mo)(n j:Nat)(u:Mo):NH (·.setIfInBounds j u) { cls:=.type "list",data:=.seq a.toArray n }={ cls:=.type "list",data:=.seq (a.set j u).toArray n }:=by simp[NH]
def Ag.lst {b:List (MF × Obj)}{c:St}{H:Hp}{s:Mt}{p:MF}{xs:List V} (I:Ag X b c H s) (h:H p=Z (.lst xs)) :
  ∃ (a:List Mo) (n:Nat),Ah xs a/\s>>p=Z { cls:=.type "list",data:=.seq a.toArray n }/\⇑xs<=MO:=by
 obtain⟨z,a,n,r,e⟩:=I.hok p _ h;show⟨a,n,r,e,z⟩
def Ag.lstUpd {a:List (MF × Obj)}{g:St}{H:Hp}{s:Mt}{p:MF}{xs ys:List V}{c its':List Mo}{n d:Nat}{f:Obj->Obj} (I:Ag X a g H s) (h:H p=Z (.lst xs))
  (k:s>>p=Z { cls:=.type "list",data:=.seq c.toArray n })(i:f { cls:=.type "list",data:=.seq c.toArray n }={ cls:=.type "list",data:=.seq its'.toArray d })(r:Ah ys its')(l:⇑ys<=MO)(t:Nat):
  Ag X a g (upd H p (.lst ys)) { s with heap:=s.heap.update p f,toks:=t }:=by
 have e:(s.heap.update p f).get? p=Z { cls:=.type "list",data:=.seq its'.toArray d }:=by
  rw[M4 f k (by rw[i]<;>rfl),i]
 refine I.write (by rw[h];trivial) (.inl rfl) (λb u j q=>MV _ _ (Om j)\q) ⟨_,e⟩ ?_;show⟨l,its',d,r,e⟩
def KB:V->V->V->Hp->(Hp->Prop)->Prop:=λo i v H Q=>∃ p a k j,o=↥p/\i=↑k/\H p=Z (.lst a)/\G_ ⇑a k=Z j/\Q (upd H p (.lst (a.set j v)))
def kZ:JG X KB:=by
 intro a s z H o i v ov J u Q I A B C h;obtain⟨p,F,k,j,rfl,rfl,x,E,q⟩:=h;cases A;obtain⟨t,rfl⟩:=B;obtain⟨b,n,r,e,D⟩:=I.lst x;obtain⟨c,L,l,m⟩:=yj E;have f:=⇑r;have G:=kC;have g:Ag X a z (upd H p (.lst (F.set j v))) { s with heap:=s.heap.update p (NH (·.setIfInBounds j u)) }:=
  I.lstUpd x e (v6 b n j u) (r.set C j) (by rw[SH];show D) s.toks
 by_cases y:0<=k
 .have d:k.toNat=j:=by
   rw[seqIndex_of y m] at c;show Mn c
  show PySem.W.ki_setAt e y Y (by rw[MJ,<- f];show m) (by rw[d];show⟨_,g,q⟩)
 .have d:(k+(b.toArray.size:Int)).toNat=j:=by
   rw[seqIndex_neg Y l] at c;rw[MJ,<- f];show Mn c
  show PySem.W.ki_setBack e Y (by rw[MJ,<- f];show l) Y (by rw[d];show⟨_,g,q⟩)
def sP (lo a:Option Int)(n:Nat):(RQ lo a none n).1=((HT.sIx n 0 lo:Nat):Int)/\(RQ lo a none n).2.1=((HT.sIx n n a:Nat):Int)/\(RQ lo a none n).2.2=1:=by
 refine⟨?_,?_,U⟩
 .cases lo with
  |none=>simp[RQ,HT.sIx]
  |some i=>
   simp only[RQ,HT.sIx,W2,show(1:Int)>0 by decide,Qb]
   by_cases h:i<0
   .simp only[h,Qb]<;>lia
   .simp only[h,Oj]<;>lia
 .cases a with
  |none=>simp[RQ,HT.sIx]
  |some i=>
   simp only[RQ,HT.sIx,W2,show(1:Int)>0 by decide,Qb]
   by_cases h:i<0
   .simp only[h,Qb]<;>lia
   .simp only[h,Oj]<;>lia
def qr (a:List Mo)(lo b:Option Int):slicePick a.toArray lo b none=((a.drop (HT.sIx ⇑a 0 lo)).take (HT.sIx ⇑a ⇑a b-HT.sIx ⇑a 0 lo)).toArray:=by obtain⟨c,e,d⟩:=sP lo b a.toArray.size;unfold slicePick;rw[c,e,d];simp only[sliceRange_one,pick_run,MJ]<;>rfl
def J' (K:KE):V->Option Int->Option Int->Hp->VK->Prop:=λx lo c H Q=>∃ a b,x=↥a/\An K H a b/\∀ p,H p=none->Q ↥p (upd H p (.lst (GN b lo c)))
def adh:Lo X (J' X.K):=by intro e s p H x v z u lo f y Q I n l i m h;obtain⟨a,d,rfl,j,q⟩:=h;cases n;obtain⟨k,r,g,o⟩:=I.list j;have c:=⇑r;refine⟨"list",_,slot_list_getitem.lookup,g.isList.typeIs,wpAny_getItem_list_slice g.isList l i m .none zyA ?_ (by rw[MJ]<;>lia)⟩;rw[qr,<- c];refine⟨↥s⁻¹,_,I.laid (λb t q=>Ml _ q) (Mz _) ?_,U,q _ (I.hok.fresh (Mz _))⟩;show⟨M1 (vm d lo f) o,_,0,(r.drop (HT.sIx ⇑d 0 lo)).take (HT.sIx ⇑d ⇑d f-HT.sIx ⇑d 0 lo),Ms _ U⟩
def CP:V->Bool
 |.non=>true
 |.bl _=>true
 |.int _=>true
 |.str _=>true
 |_=>false
def HZ:V->V->Bool
 |.non,.non=>true
 |.bl a,.bl b=>a==b
 |.bl a,↑b=>(if a then 1 else 0)==b
 |.int a,.bl b=>a==(if b then 1 else 0)
 |.int a,↑b=>a==b
 |.str a,.str b=>a==b
 |_,_=>false
def aet (e:Ao y u)(c:Ao x v)(g:CP y=true)(f:CP x=true):SeqAt.EqAt A s u v (HZ y x):=by
 cases y with
 |non=>
  cases e;cases x with
  |non=>cases c;show SeqAt.EqAt.same _
  |bl b=>cases c;show SeqAt.EqAt.none_bool b
  |int b=>obtain⟨t,rfl⟩:=c;show SeqAt.EqAt.none_int b t
  |str b=>obtain⟨t,rfl⟩:=c;show SeqAt.EqAt.none_str b t
  |_=>show absurd (show false=true from f) M3
 |bl a=>
  cases e;cases x with
  |non=>cases c;show SeqAt.EqAt.bool_none a
  |bl b=>cases c;show SeqAt.EqAt.bool_bool a b
  |int b=>obtain⟨t,rfl⟩:=c;show SeqAt.EqAt.bool_int a b t
  |str b=>obtain⟨t,rfl⟩:=c;show SeqAt.EqAt.bool_str a b t
  |_=>show absurd (show false=true from f) M3
 |int a=>
  obtain⟨d,rfl⟩:=e;cases x with
  |non=>cases c;show SeqAt.EqAt.int_none a d
  |bl b=>cases c;show SeqAt.EqAt.int_bool a d b
  |int b=>obtain⟨t,rfl⟩:=c;show SeqAt.EqAt.int_int a d b t
  |str b=>obtain⟨t,rfl⟩:=c;show Wb a d b t
  |_=>show absurd (show false=true from f) M3
 |str a=>
  obtain⟨d,rfl⟩:=e;cases x with
  |non=>cases c;show SeqAt.EqAt.str_none a d
  |bl b=>cases c;show SeqAt.EqAt.str_bool a d b
  |int b=>obtain⟨t,rfl⟩:=c;show Wc a d b t
  |str b=>obtain⟨t,rfl⟩:=c;show SeqAt.EqAt.str_str a d b t
  |_=>show absurd (show false=true from f) M3
 |_=>show absurd (show false=true from g) M3
def JQ (x:V)(u:Mo):Bool:=match u with
 |.none=>HZ .non x
 |.bool b=>HZ (.bl b) x
 |.int i _=>HZ ↑i x
 |.str z _=>HZ (.str z) x
 |_=>false
def vX (r:Ao y u)(f:CP y=true):JQ x u=HZ y x:=by
 cases y with
 |non=>cases r;rfl
 |bl b=>cases r;rfl
 |int i=>obtain⟨t,rfl⟩:=r;rfl
 |str z=>obtain⟨t,rfl⟩:=r;rfl
 |_=>show absurd (show false=true from f) M3
theorem oY (c:Ao x v)(d:CP x=true):∀ {xs:List V}{b:List Mo},Ah xs b->xs.all CP=true->∀ u∈b,SeqAt.EqAt A s u v (JQ x u)
 |_,_,.nil,_=>λu a=>by cases a
 |y::xs,u::b,.cons r t,f=>λe a=>by
  rw[P7,MX] at f;rcases MA.mp a with rfl|a
  .rw[vX r f.1];show aet r c f.1 d
  .show oY c d t f.2 e a
def uh:AI X (.builtin "len") (λxs H Q=>∃ p ys,xs=[↥p]/\(An X.K H p ys\/AZ X.K H p ys)/\Q ↑⇑ys H):=by
 intro e s i H xs k Q I r h;obtain⟨p,ys,rfl,hq,q⟩:=h;obtain⟨u,rfl,f⟩:=fV r;cases f;have j:=kC;rcases hq with hq|hq
 .obtain⟨d,b,c,g⟩:=I.list hq;have a:=⇑b;show Calls.call_len_list c.isList (by simp only[MJ]<;>lia) ⟨↑⇑ys,H,I.tok _,⟨s.toks+1,by rw[MJ,a]⟩,q⟩
 .obtain⟨d,b,c,g⟩:=I.tuple hq;have a:=⇑b;show len_tuple c (by simp only[MJ]<;>lia) ⟨↑⇑ys,H,I.tok _,⟨s.toks+1,by rw[MJ,a]⟩,q⟩
def ud:AI X (.type "list") (λxs H Q=>∃ p ys,xs=[↥p]/\(An X.K H p ys\/AZ X.K H p ys)/\∀ l,H l=none->Q ↥l (upd H l (.lst ys))):=by
 intro i s A H xs C Q I r h;obtain ⟨p,ys,rfl,hq,q⟩:=h;obtain ⟨u,rfl,B⟩:=fV r;cases B;have j:∀ (a:List Mo),Ah ys a->⇑ys <= MO->∀ (c:Oz) (d:Nat),(∀ b z,s>>b=Z z->c.get? b=Z z) ->
   c.get? s⁻¹=Z { cls:=.type "list",dict:=none,data:=.seq a.toArray d,slots:=#[] }->EP X i A Q ↥s⁻¹ { s with heap:=c }:=λa f k c d m e=>
  ⟨↥s⁻¹,_,I.laid m (Mz _) (show At X.prog X.w _ c _ (.lst ys) from⟨k,a,d,f,e⟩),U,q _ (I.hok.fresh (Mz _))⟩
 rcases hq with hq|hq
 .obtain⟨a,f,t,k⟩:=I.list hq;have g:=⇑f;obtain⟨o,x,y,n,v⟩:=t.isList;show call_list_seq p (.inl rfl) x y v (λc d m e=>j a f k c d m e) (by simp only[MJ]<;>lia)
 .obtain⟨a,f,t,k⟩:=I.tuple hq;have g:=⇑f;obtain⟨o,x,y,n,v⟩:=t;show call_list_seq p (.inr rfl) x y v (λc d m e=>j a f k c d m e) (by simp only[MJ]<;>lia)
def qH:AI X (.type "tuple") (λxs H Q=>∃ p ys,xs=[↥p]/\((An X.K H p ys/\∀ l,H l=none->Q ↥l (upd H l (.tup ys)))\/(AZ X.K H p ys/\Q ↥p H))):=by
 intro a s i H xs x Q I r h;obtain⟨p,ys,rfl,h⟩:=h;obtain⟨u,rfl,n⟩:=fV r;cases n;rcases h with ⟨hq,q⟩|⟨hq,q⟩
 .obtain⟨c,f,g,m⟩:=I.list hq;have j:=⇑f;refine call_tuple_list g.isList (λd t=>?_) (by simp only[MJ]<;>lia);have k:Ag X a i H { s with heap:=d }:=I.kept t;have v:Ag X a i (upd H d.objs.size (.tup ys)) { s with heap:=d.push { cls:=.type "tuple",data:=.seq c.toArray } }:=
   k.laid (λb o e=>Ml _ e) (Mz _) (show At X.prog X.w _ _ _ (.tup ys) from⟨m,c,f,IsTup.new _ _⟩)
  show⟨↥d.objs.size,_,v,U,q _ (k.hok.fresh (Mz _))⟩
 .obtain⟨c,f,g,m⟩:=I.tuple hq;show call_tuple_same g ⟨↥p,H,I,U,q⟩
def LU (K:KE)(T:String)(x:V)(H:Hp):Prop:=match x with
 |.str _=>T="str"
 |.int _=>T="int"
 | .ref p=>(T="list"/\∃ b,An K H p b)\/(T="tuple"/\∃ o,K.lookup p=Z o/\o.cls=.type "tuple"/\o.dict=none) \/
   (T="dict"/\((∃ a,H p=Z (.dK a))\/∃ a,H p=Z (.dT a)))\/(T="set"/\∃ S n,H p=Z (.set S n))
 |_=>False
def ace (I:Ag X pins σ H s) (r:Ao x v) (ty:LU X.K T x H) :
  s.TypeIs v T/\∀ a,v=↥a->∃ j,s>>a=Z j/\j.dict=none:=by
 cases x with
 |str z=>
  obtain⟨t,rfl⟩:=r;cases(show T="str" from ty);show⟨typeIs_str s z t,λ_ e=>nomatch e⟩
 |int i=>
  obtain⟨t,rfl⟩:=r;cases(show T="int" from ty);show⟨Vq s i t,λ_ e=>nomatch e⟩
 |ref p=>
  cases r;rcases ty with ⟨rfl,m,hq⟩|⟨rfl,o,b,l,h⟩|⟨rfl,b⟩|⟨rfl,S,n,b⟩
  .obtain⟨k,_,g,_⟩:=I.list hq;refine⟨g.isList.typeIs,λa e=>?_⟩;cases e;obtain⟨o,n,e,c,h,_⟩:=g;show⟨o,e,h⟩
  .refine⟨⟨o,I.kIn p o b,l⟩,λa e=>?_⟩;cases e;show⟨o,I.kIn _ o b,h⟩
  .have z:∃ o,s>>p=Z o/\o.ExactDict:=by
    rcases b with ⟨g,b⟩|⟨g,b⟩
    .obtain⟨_,_,_,_,o,_,_,e,d,_⟩:=I.hok p _ b;show⟨o,e,d⟩
    .obtain⟨_,_,_,_,o,_,_,e,d,_⟩:=I.hok p _ b;show⟨o,e,d⟩
   obtain⟨o,e,d⟩:=z;refine⟨⟨o,e,d.1⟩,λa f=>?_⟩;cases f;show⟨o,e,d.2.1⟩
  .obtain⟨o,_,_,_,e,d,_⟩:=I.hok p _ b;refine⟨⟨o,e,d.1⟩,λa f=>?_⟩;cases f;show⟨o,e,d.2.1⟩
 |_=>show OC ty
def Me (K:KE)(T:String)(r:X7)(c:TE)(t:TA):TE:=λa H Q=>c a H λx b=>LU K T x b/\t a b λe d=>r x e d Q
variable {o e:OZ}{es:List OZ}{to:TE}{t:TA}{name:Str}{apos cpos:Pos}{T id:String}{r:X7}
def uI (D:PlainAttrs T) (f:Slot T name id) (k:typeOf (.builtin id)=pure (.type "method_descriptor")) (A:Lw X id r) (E:PE X o to) (p:PA X (e :: es) t)
  (c:Uq o name X.env (QA o X.env)=QA o X.env<|>C')
  (d:((Qx cpos (M0 (e::es) X.env)).all (λx=>!x.1)&&(QI cpos (OX [] X.env)).all (λx=>x.1.isSome)
   &&decide (⇑(e::es)+⇑([]:List SE)+(if([]:List SE).isEmpty then 0 else 1)<30))=true:=by rfl)
  (b:(apos.endLine==cpos.line)=true<|>C')(B:M0 (e::es) X.env=(false,QA e X.env)::M0 es X.env<|>C')(hplain:(Qx cpos (M0 es X.env)).any (·.1)=false<|>C'):
  PE X (.Call (.Attribute o name apos) (e::es) [] cpos) (Me X.K T r to t):=by
 refine ⟨λa s g H Q I h=>wpAny_Call_method_late c d b rfl (bo (E a s g H _ I h) λv J i=>?_)⟩;obtain⟨x,F,n,m,ty,z⟩:=i;obtain⟨L,G⟩:=ace n m ty;refine⟨T,id,D,f,k,L,G,?_⟩;have l:=p cpos a J g F _ n z;rw[B] at l ⊢;refine UF (by change(false||(Qx cpos (M0 es X.env)).any (·.1))=false;rw[hplain]<;>rfl) (Vt (bo l λM y j=>?_));obtain⟨vs,q,N,C,u⟩:=j;show A a y g q x vs v M Q N m C u
end
def Mi (X:Cx)(id:String)(r:X7):Prop:=
 ∀ (a:Lb) (s:Mt) (b:St) (H:Hp) (x:V) (d:List V) (v:Mo) (c:List Mo) (Q:VK),Ag X a b H s->Ao x v->Ah d c->r x d H Q ->
  MI (MW X.prog X.w) X.A (call (.builtin id) (v::c)) (EP X a b Q) X.xe s
theorem Ah.one:∀ {x:V}{a:List Mo},Ah [x] a->∃ u,a=[u]/\Ao x u
 |_,_,h=>by cases h with|cons r q=>cases q;show⟨_,U,r⟩
theorem Ah.rep (h:Ah xs us):∀ k:Nat,Ah (MN k xs).flatten (MN k us).flatten
 |0=>.nil
 |k+1=>by
  rw[OU,OU,QE,QE];show Ah.append h (Ah.rep h k)
theorem rE (a:List Mo):∀ (k:Nat) (acc:List Mo),
  Xo (λc b=>c++b) acc.toArray (MN k a.toArray)=(acc++(MN k a).flatten).toArray
 |0,acc=>zyA
 |k+1,acc=>by
  have e:acc.toArray++a.toArray=(acc++a).toArray:=zyA
  have d:(acc++a)++(MN k a).flatten=acc++(MN (k+1) a).flatten:=by
   rw[OU,QE,OT]
  rw[<- d,<- rE a k (acc++a),<- e,OU,U0]
section
variable {pins:Lb}{σ:St}{H:Hp}{s:Mt}{l b:MF}{xs ys zs:List V}
def Ag.lset {a its':List Mo}{n:Nat}{f:Array Mo->Array Mo}{t':Nat} (I:Ag X pins σ H s) (h:H l=Z (.lst xs))
  (e:s>>l=Z { cls:=.type "list",data:=.seq a.toArray n })(d:f a.toArray=its'.toArray)(g:Ah ys its')(i:⇑ys<=MO):
  Ag X pins σ (upd H l (.lst ys)) { s with heap:=s.heap.update l (NH f),toks:=t' }:=by
 have q:=PySem.IsL.update e f;rw[d] at q;refine I.write (by rw[h];show trivial) (.inl rfl) (λj u c b=>MV s.heap (NH f) (Om c)\b) ⟨_,q⟩ ?_;show⟨i,its',_,g,q⟩
def Ag.lnew (I:Ag X pins σ H s) (c:Ah ys a) (b:⇑ys <= MO) :
  Ag X pins σ (upd H s⁻¹ (.lst ys)) { s with heap:=s.heap.push { cls:=.type "list",data:=.seq a.toArray },toks:=t' }:=
 I.laid (λ_ _ q=>Ml _ q) (Mz _) ⟨b,a,0,c,Ms _ U⟩
def Ag.fresh (I:Ag X pins σ H s):H s⁻¹=none:=I.hok.fresh (Mz _)
def Ag.lstM (I:Ag X pins σ H s)(b:H l=Z (.lst xs)):⇑xs<=MO/\∃ (a:List Mo) (n:Nat),Ah xs a/\⇑xs=⇑a/\s>>l=Z { cls:=.type "list",data:=.seq a.toArray n }:=by obtain⟨z,a,n,r,e⟩:=I.hok l _ b;show⟨z,a,n,r,⇑r,e⟩
def aaA (h:n<=MO):TJ n=false:=by show Na Y
end
def IH:V->List V->Hp->VK->Prop:=λx vs H Q=>∃ l a y,x=↥l/\vs=[y]/\H l=Z (.lst a)/\⇑a<MO/\Q .non (upd H l (.lst (a++[y])))
def l8:Mi X "list.append" IH:=by intro b s i H x vs v m Q I d f h;obtain⟨l,o,y,rfl,rfl,c,j,q⟩:=h;cases d;obtain⟨u,rfl,g⟩:=f.one;obtain⟨z,a,n,r,k,e⟩:=I.lstM c;refine RP Qd ⟨_,e,U⟩ F.entry_list_append (F.args_list_append_2 _ _) (PySem.list_append l a.toArray n u (by rw[MJ];lia)) ⟨e,.non,_,I.lset (its':=a++[u]) c e zyA (r.append (.cons g .nil)) ?_,U,q⟩;rw[MP,R5];lia
def LJ:R2:=λx y H Q=>∃ l b c a,x=↥l/\y=↥b/\H l=Z (.lst c)/\H b=Z (.lst a)/\⇑c+⇑a<=MO/\∀ p,H p=none->Q ↥p (upd H p (.lst (c++a)))
def iY:Ct X (RX .Add) LJ:=by
 intro d s t H x y v u Q I o f h;obtain⟨l,b,F,E,rfl,rfl,m,g,C,q⟩:=h;cases o;cases f;obtain⟨z,c,n,r,D,e⟩:=I.lstM m;obtain⟨B,a,A,k,j,i⟩:=I.lstM g;refine PySem.P.add_list e i ?_ (by rw[MJ,MJ];lia);have p:c.toArray++a.toArray=(c++a).toArray:=zyA
 rw[p];show⟨↥_,_,I.lnew (r.append k) (by rw[MP];lia),U,q _ I.fresh⟩
def Jt:R2:=λx y H Q=>∃ l k a,x=↥l/\y=↑k/\H l=Z (.lst a)/\-(2^63)<=k/\k<2^63/\⇑a*k.toNat<=MO /\
 ∀ p,H p=none->Q ↥p (upd H p (.lst (MN k.toNat a).flatten))
def adI (xs:List α)(k:Nat):(MN k xs).flatten.length=k*⇑xs:=by
 induction k with
 |zero=>simp
 |succ k a=>rw[OU,QE,MP,a,R6,P5]
def wm:Ct X (RX .Mult) Jt:=by
 intro p s N H x y v u Q I J C h;obtain⟨l,k,S,rfl,rfl,E,L,G,A,q⟩:=h;cases J;obtain⟨t,rfl⟩:=C;obtain⟨z,b,n,r,M,e⟩:=I.lstM E;have d:b.toArray.size*k.toNat<=MO:=by rw[MJ,<- M];show A
 have i:¬ b.toArray.size*k.toNat>(2^63-1)/8:=by
  have:(MO:Nat)<=(2^63-1)/8:=O
  lia
 have g:¬ (!Builtin.List.listFitsIndex k)=true:=by
  rw[fitsIndex_both L G];show M3
 have c:¬ TJ (b.toArray.size*k.toNat)=true:=by
  rw[aaA d];show M3
 have f:Xo (λo j=>o++j) #[] (MN (if b.toArray.isEmpty=true then 0 else k.toNat) b.toArray)=(MN k.toNat b).flatten.toArray:=by
  have D:∀ m:Nat,Xo (λo j=>o++j) #[] (MN m b.toArray)=(MN m b).flatten.toArray:=λm=>by
   have:=rE b m [];rw[List.nil_append] at this;show this
  rw[D];cases b with
  |nil=>simp
  |cons a R=>rw[MZ zyA]
 refine Tx O ⟨_,e,U⟩ (λB=>Vq B k t) noFill_list_mul V0 Rf repeat_list VM.lookup
  (RP Rf (Vq s k t) VL (Vu _ _) (int___rmul___int_list k t l b.toArray n)
   ⟨e,U,⟨_,e,U⟩,RP F.slot_list_mul ⟨_,e,U⟩ F.entry_list_mul (F.args_list_mul_2 _ _) (AutoListH.list___mul___list_int_3 l b.toArray n k t g i c) ⟨e,?_⟩⟩)
 rw[f];show⟨↥_,_,I.lnew (r.rep k.toNat) (by rw[adI,WV];show A),U,q _ I.fresh⟩
end L2
namespace Att
open PySem PySem.W PySem.Calls PyProof.Rows
def mZ:∀ (ns:List Int) (vs:List Mo),WellAll P h vs (ns.map WData.int)->OA vs ns:=by
 intro ns
 induction ns with
 |nil=>
  intro vs w;rw[Px] at w;cases w;show .nil
 |cons n ns c=>
  intro vs w;rw[MR] at w;cases w with
  |cons a b=>
   cases a;show .cons _ _ (c _ b)
def zu {l:OpenLaw}{n:Nat} (s:l.most=Z n) {P:Params}{h:Oz}{b:List WData}{c:List Mo}
  (e:l.row.toRowW.claim.pre b=true)(k:WellAll P h c b):
  ∃ a vs ns,c=[MT a]/\b=[WData.list (ns.map WData.int)]/\h.get? a=Z { cls:=.type "list",data:=.seq vs.toArray }/\OA vs ns/\⇑ns<=n:=by
 have t:l.pre.holds [] { args:=b }=true:=(pre_splitW e).2;obtain⟨d,r,rfl,x,u⟩:=hasAllW_cons ((pre_splitW e).1);obtain rfl:=hasAllW_nil u;obtain⟨z,rfl,m⟩:=hasW_list x;obtain⟨ns,rfl⟩:=items_int m;have f:⇑ns<=n:=by
  have i:(WTm.not (.lt (.lit ↑(n:Int)) (.len (.arg 0)))).holds [] { args:=[.list (ns.map .int)] }=true:=by
   have i:=(holds_andW t).1;rw[s] at i;show i
  have j:=condW_of i (w_not (w_lt w_lit (w_len_list (w_arg rfl))));rw[Mq] at j;refine Nat.le_of_not_lt λq=>?_
  have p:(n:Int)<((⇑ns:Nat):Int):=Y
  first
   |(rw[MB p] at j;show absurd j O)
   |(simp at j;lia)
 cases k with
 |cons o y=>
  cases y;cases o with
  |list v g=>show⟨_,_,ns,U,U,v,mZ ns _ g,f⟩
def yI (l:OpenLaw)(a:List WData):l.row.toRowW.claim.post a (.bool true) a=true:=
 postW_of
  (show WShape.has [] (.bool true) .bool=true by first|rfl|decide|simp[WShape.has,WShape.arms,WShape.armsAll])
  (show(WTm.eq .res (.lit (.bool true))).value [] { args:=a,res:=Z (.bool true),after:=a }=Z (.bool (true==true)) from w_eq_bool (w_res rfl) w_lit) U
def attach_call {l:OpenLaw}{n:Nat}{q:MY}{e:List Str}{E:(Str->Option Mo)->Oz->Prop}{C:Nr->Oz->Prop}{d:DefRec}
  (H:l.most=Z n)(x:d.params.defaults=[])
  (call:∀ (w:Nr) (c b:Mt) (mg s:O') (fa:MF) (o:Obj) (v p g:Mo) (a:MF) (vs:List Mo) (ns:List Int),
   Ground q e [] E w c mg s b.heap->C w b.heap ->
   b.heap.get? fa=Z o->o.data=.func (docDef d.name d.params d.body d.scope v p g)->b.heap.CodeRec p d.name->mg d.name=Z ↥fa ->
   b.heap.get? a=Z { cls:=.type "list",data:=.seq vs.toArray }->OA vs ns->⇑ns<=n->b.gens=#[] ->
   P0 (MW l.prog w) callerA (.call ↥fa ⟨[↥a],[]⟩) (λr m=>r=.ok (.ret (.bool true))/\OldK b.heap m.heap/\m.os=b.os/\UR m.gens) b) :
  WalkO q e E C l.row.toRowW d [] (λf vs=>Xq f vs):=by
 intro w c b mg s G y fa o v p g S kV Q N u B hmg M A D X k z L t T;obtain rfl:S=.none:=Dflts.none B x;obtain rfl:kV=.none:=Dflts.noKw B;obtain⟨a,vs,ns,rfl,rfl,i,h,j⟩:=zu H k t;refine enter_call (PF (call w c b mg s fa o v p g a vs ns G y Q (fd_plain N) u hmg i h j M) λr m hq=>?_);obtain⟨rfl,R,F,I⟩:=hq;show⟨.inl ⟨.bool true,.bool true,[],U,λ_=>rfl,.bool true,yI l _,λ_=>⟨RE,λ_ J=>(nomatch J)⟩⟩,R,F,I⟩
end Att
namespace L2
open PySem PySem.Spec PyProof.Rows
theorem ix:∀ {vs:List Mo}{ns:List Int},OA vs ns->Ah (ns.map V.int) vs
 |_,_,.nil=>.nil
 |_,_,.cons n t h=>.cons ⟨t,U⟩ (ix h)
end L2
namespace L2
open PySem PySem.Spec PyProof.Rows
def AJ (s:On)(j:Nat):On:=match s with
 |.ClassDef _ _ _ body _ _ _ _ _ _ _=>body.getD j (.Pass ⟨0,0,0,0⟩)
 |_=>.Pass ⟨0,0,0,0⟩
def Ak (s:On):VX:=match s with
 |.FunctionDef _ a _ _ _ _ _ _ _ _=>a
 |_=>{ posonlyargs:=[],args:=[],vararg:=none,kwonlyargs:=[],kw_defaults:=[],kwarg:=none,defaults:=[] }
def Ai (s:On):List On:=match s with
 |.FunctionDef _ _ b _ _ _ _ _ _ _=>b
 |_=>[]
def Ab (s:On):Qw:=match s with
 |.FunctionDef _ _ _ _ _ _ a _ _ _=>a
 |_=>{ kind:=.function,names:=[],isGenerator:=false,isCoroutine:=false }
abbrev E0:XK:=λ_ _ _=>False
structure JP (K:KE)(x qual:Str)(st:On)(f:MF)(fd:OQ):Prop where
 ex:∃ (oc:Mo) (od:Option MF) (kV doc pm:Mo) (an:Option MF) (cdv ct:Mo) (osl:S1),
  fd=M5 x qual (Ak st) (Ai st) (Ab st) .none kV doc pm an cdv ct/\K.lookup f=Z ⟨oc,od,.func fd,osl⟩/\Nj K cdv qual=true
 kp:M8 K ↥f=true
section
variable {P:MY}{w:Nr}{K:KE}{mg:O'}{base:Oz}
def afq {x a:Str}{st:On}{f:MF}{j:Mo}{m h:Option MF}{e:S1}{kV d i b g:Mo} (l:K.lookup f=Z ⟨j,m,.func (M5 x a (Ak st) (Ai st) (Ab st) .none kV d i h b g),e⟩)
  (c:Nj K b a=true)(k:M8 K ↥f=true):JP K x a st f (M5 x a (Ak st) (Ai st) (Ab st) .none kV d i h b g):=⟨⟨j,m,kV,d,i,h,b,g,e,U,l,c⟩,k⟩
end
def fu (h:n<=1000):n<MO:=Pz h O
section
variable {X:Cx}
def pv (i:Nat) (c:X.N[i]?=Z x<|>C') (d:Kr X.env.scope x:=by first | show Or.inl rfl | show Xp (Or.inl rfl) | show Xp (Xp rfl)) (b:(x == ("__debug__":Str))=false<|>Cb)
  (a:(x==("__classdict__":Str))=false<|>Cb):PE X (.Name x pos) (BC i):=afj c d b a
end
def aN {A B:Prop}(h:B):if false=true then A else B:=by rw[MZ M3];show h
def aF {A B:Prop}(h:A):if true=true then A else B:=by rw[M' rfl];show h
def dg {c A B:Prop}[Decidable c](a:c->A)(b:¬ c->B):if c then A else B:=by
 by_cases h:c
 .rw[M' h];show a h
 .rw[MZ h];show b h
def afU {c A B:Prop}[Decidable c](a:c)(h:B):if(!decide c)=true then A else B:=by rw[MB a];show aN h
def Aa (H H':Hp):Prop:=∀ b o,H b=Z o->H' b=Z o
def Aa.refl (H:Hp):Aa H H:=λ_ _ h=>h
def Aa.trans (a:Aa H H1)(b:Aa H1 H2):Aa H H2:=λc o h=>b c o (a c o h)
def Aa.free (e:Aa H H')(h:H' l=Option.none):H l=Option.none:=by
 cases q:H l with
 |none=>rfl
 |some o=>
  rw[e l o q] at h;cases h
def Aa.seq {K:KE}(e:Aa H H')(h:An K H a xs):An K H' a xs:=by
 rcases h with (h|⟨o,h⟩)|h
 .show .inl (.inl (e _ _ h))
 .show .inl (.inr ⟨o,e _ _ h⟩)
 .show .inr h
end L2
set_option Elab.async false
set_option linter.all false
set_option maxRecDepth 100000
set_option maxHeartbeats 4000000
namespace TR
def Hw (t b n d:Int):Prop:=0<d/\Os n d=1/\n*b=t*d
def Sm (k:Nat)(x:Int):Prop:=x.natAbs<2^k
def vp {a b:Int}(d:0<=a)(c:0<b):Os b (a%b)=Os a b:=by obtain⟨x,rfl⟩:=Rh d;obtain⟨y,rfl⟩:=Rh (Pw c);change Nat.gcd y ((x:Int)%(y:Int)).natAbs=Nat.gcd x y;rw[show((x:Int)%(y:Int)).natAbs=x%y from rfl,Nat.gcd_comm,<- Nat.gcd_rec,Nat.gcd_comm]
def vD {k m n:Int}(h:k∣m*n)(c:Os k m=1):k∣n:=by
 have a:k.natAbs∣m.natAbs*n.natAbs:=by rw[<- Tn];show UV.mpr h
 show UV.mp (Nat.Coprime.dvd_of_dvd_mul_left (show Nat.Coprime k.natAbs m.natAbs from c) a)
def vG {t b g m:Int}(v:b≠0)(k:g=(Os t b:Int))(q:m=if b<0 then -g else g):Hw t b (t.fdiv m) (b.fdiv m):=by
 have c:0<g:=by
  rw[k];have:0<Os t b:=Qj _ v;lia
 have r:g∣t:=by rw[k];show Int.gcd_dvd_left ..
 have s:g∣b:=by rw[k];show Int.gcd_dvd_right ..
 obtain⟨x,d⟩:=r;obtain⟨y,a⟩:=s;have i:Os x y=1:=by
  have A:Os t b=Os x y*g.natAbs:=by
   rw[d,a,Int.gcd_mul_left,WV]
  have z:g.natAbs=Os t b:=by rw[k];rfl
  have u:0<g.natAbs:=Y
  rw[<- z] at A;show Nat.eq_of_mul_eq_mul_right u Y
 by_cases n:b<0
 .have j:m=-g:=by rw[q,M' n]
  have f:y<0:=by
   rw[a] at n;rcases Int.lt_or_le y 0 with h|h
   .show h
   .have:=PM (Pw c) h;lia
  have o:t.fdiv m=-x:=by
   have e:t=m*(-x):=by rw[j,Int.neg_mul_neg];show d
   rw[e];show PR _ Y
  have l:b.fdiv m=-y:=by
   have e:b=m*(-y):=by rw[j,Int.neg_mul_neg];show a
   rw[e];show PR _ Y
  rw[o,l];refine⟨Y,by rw[Int.gcd_neg,Int.neg_gcd];show i,?_⟩;rw[Int.neg_mul,W',d,a,TL,Ri]
 .have j:m=g:=by rw[q,MZ n]
  have f:0<y:=by
   have p:0<b:=Y
   rw[a] at p;rcases Int.lt_or_le 0 y with h|h
   .show h
   .have:=PM (Pw c) (show 0<=-y by lia);rw[W'] at this;lia
  have o:t.fdiv m=x:=by
   rw[d,j];show PR _ Y
  have l:b.fdiv m=y:=by
   rw[a,j];show PR _ Y
  rw[o,l];refine⟨f,i,?_⟩;rw[d,a,TL,Ri]
def kr {t b n d a d':Int}(k:b≠0)(h:Hw t b n d)(h':Hw t b a d'):n=a/\d=d':=by
 obtain⟨p,o,f⟩:=h;obtain⟨k1,k2,q⟩:=h';have e:n*d'=a*d:=by
  have i:b*(n*d')=b*(a*d):=by
   have l:b*(n*d')=(n*b)*d':=by rw[Q8 n b,Ri]
   have j:b*(a*d)=(a*b)*d:=by rw[Q8 a b,Ri]
   rw[l,j,f,q,Ri,Ri,Q8 d d']
  show Tl k i
 have m:d∣d':=by
  have:d∣n*d':=⟨a,by rw[e,Q8]⟩
  show vD this (by rw[WT];show o)
 have c:d'∣d:=by
  have:d'∣a*d:=⟨n,by rw[<- e,Q8]⟩
  show vD this (by rw[WT];show k2)
 have r:=Int.le_of_dvd k1 m;have s:=Int.le_of_dvd p c;have g:d=d':=Y
 subst g;show⟨Int.eq_of_mul_eq_mul_right Y e,U⟩
def oP {t b n d:Int}(j:b≠0)(h:Hw t b n d):n.natAbs<=t.natAbs/\d.natAbs<=b.natAbs:=by
 obtain⟨l,k,c⟩:=h;have g:d∣b:=by
  have:d∣n*b:=⟨t,by rw[c,Q8]⟩
  show vD this (by rw[WT];show k)
 obtain⟨y,a⟩:=g;have e:t=n*y:=by
  have:d*(n*y)=d*t:=by
   rw[TL,<- a,c,Q8]
  show(Tl Y this).symm
 have i:y≠0:=by rintro rfl;simp at a;show j a
 have f:0<y.natAbs:=Y
 constructor
 .rw[e,Tn];show Uf _ f
 .rw[a,Tn];show Uf _ f
def vq {n d:Int}(a:0<d)(h:Os n d=1):Hw n d n d:=⟨a,h,U⟩
def acp (b:Int):Hw 0 b 0 1:=⟨O,zyA,Y⟩
def Sm.mono {x:Int}(h:Sm k x)(l:k<=j):Sm j x:=MK h (PP O l)
def Sm.mul {x y:Int}(h:Sm k x)(h':Sm j y):Sm (k+j) (x*y):=by unfold Sm at *;rw[Tn,Nat.pow_add];show Nat.mul_lt_mul'' h h'
def Sm.add {x y:Int}(h:Sm k x)(h':Sm k y):Sm (k+1) (x+y):=by unfold Sm at *;have:=Int.natAbs_add_le x y;rw[Nat.pow_succ];lia
def Sm.neg {x:Int}(h:Sm k x):Sm k (-x):=by unfold Sm at *;rw[Int.natAbs_neg];show h
def Sm.sub {x y:Int}(h:Sm k x)(h':Sm k y):Sm (k+1) (x-y):=by rw[Int.sub_eq_add_neg];show Sm.add h h'.neg
def Sm.le {x y:Int}(h:Sm k x)(l:y.natAbs<=x.natAbs):Sm k y:=Pz l h
def xC (a b:Int):Os (if a<0 then -a else a) (if b<0 then -b else b)=Os a b:=by split<;>split<;>simp
def abF {t b:Int}(a:b≠0):((Os t b:Int)).natAbs<=b.natAbs:=by have:Os t b∣b.natAbs:=Nat.gcd_dvd_right ..;show Nat.le_of_dvd Y this
open PySem PySem.Spec PyProof.Rows L2
def acC:Ny "int"=Z (.type "int"):=zyB
def xU:Ny "bool"=Z (.type "bool"):=zyB
def aZ:Ny "tuple"=Z (.type "tuple"):=zyB
def eO:Ny "list"=Z (.type "list"):=zyB
def afl:Ny "str"=Z (.type "str"):=zyB
def x_:Ny "dict"=Z (.type "dict"):=zyB
def aeC:Ny "set"=Z (.type "set"):=zyB
def acE:Ny "abs"=Z (.builtin "abs"):=zyB
def cS:Ny "len"=Z (.builtin "len"):=zyB
def acJ:Ny "max"=Z (.builtin "max"):=zyB
def sk:Ny "min"=Z (.builtin "min"):=zyB
def vQ:Ny "sum"=Z (.builtin "sum"):=zyB
def fM:Ny "all"=Z (.builtin "all"):=zyB
def jD:Ny "sorted"=Z (.builtin "sorted"):=zyB
def aw:Ny "isinstance"=Z (.builtin "isinstance"):=zyB
mutual
inductive Ad (K:KE)(H:Hp):NM->V->Prop
 |non:Ad K H .none .non
 |bl (b:Bool):Ad K H (.bool b) (.bl b)
 |int (i:Int):Ad K H ↑i ↑i
 |str (x:Str):Ad K H (.str x) (.str x)
 |lst {a:MF}{xs:List V}{ds:List NM}:Rd H a (.lst xs)->Af K H ds xs->Ad K H (.list ds) ↥a
 |tup {a:MF}{xs:List V}{ds:List NM}:H a=Z (.tup xs)->Af K H ds xs->Ad K H (.tuple ds) ↥a
 |dct {a:MF}:H a=Z (.dK [])->Ad K H (.dict []) ↥a
inductive Af (K:KE)(H:Hp):List NM->List V->Prop
 |nil:Af K H [] []
 |cons {d:NM}{v:V}{ds:List NM}{vs:List V}:Ad K H d v->Af K H ds vs->Af K H (d::ds) (v::vs)
end
variable {X:Cx}
section
variable {pins:Lb}{σ:L2.St}{H H':Hp}{s:Mt}
mutual
theorem jh (I:Ag X pins σ H s):∀ {d:NM}{v:V}{u:Mo},Ad X.K H d v->Ao v u->∃ as,Reads s.heap u d as
 |_,_,_,.non,r=>by cases r;show⟨_,.none⟩
 |_,_,_,.bl b,r=>by cases r;show⟨_,.bool b⟩
 |_,_,_,↑i,r=>by obtain⟨t,rfl⟩:=r;show⟨_,.int i t⟩
 |_,_,_,.str x,r=>by obtain⟨t,rfl⟩:=r;show⟨_,.str x t⟩
 |_,_,_,.lst h q,r=>by
  cases r;obtain⟨a,f,⟨o,n,e,c,_,d⟩,_⟩:=I.list (.inl h);obtain⟨as,z⟩:=jz I q f;show⟨_,.list e c d (by simpa using z)⟩
 |_,_,_,.tup h q,r=>by
  cases r;obtain⟨a,f,⟨o,e,c,n,d⟩,_⟩:=I.tuple (.inl (.inl h));obtain⟨as,z⟩:=jz I q f;show⟨_,.tuple e c d (by simpa using z)⟩
 |_,_,_,.dct h,r=>by
  cases r;obtain⟨_,_,vs,m,o,g,C,A,p,B,_,k,_⟩:=(show At X.prog X.w H s.heap _ (.dK []) from I.hok _ _ h)
  cases m;have j:g.toList=[]:=by
   cases z:g.toList with
   |nil=>rfl
   |cons y l=>rw[z] at k;cases k
  show⟨_,.dict A p.1 B (by rw[j];show .nil) (by rw[j];show .nil)⟩
theorem jz (I:Ag X pins σ H s):∀ {ds:List NM}{vs:List V}{a:List Mo},Af X.K H ds vs->Ah vs a->∃ as,ReadsAll s.heap a ds as
 |_,_,_,.nil,r=>by
  cases r;show⟨_,.nil⟩
 |_,_,_,.cons h q,r=>by
  cases r with
  |cons r b=>
   obtain⟨as,z⟩:=jh I h r;obtain⟨bs,y⟩:=jz I q b;show⟨_,.cons z y⟩
end
end
def acx {K:KE}(e:Aa H H')(h:AZ K H a xs):AZ K H' a xs:=by
 rcases h with (h|⟨o,h⟩)|h
 .show .inl (.inl (e _ _ h))
 .show .inl (.inr ⟨o,e _ _ h⟩)
 .show .inr h
def Rd.same (e:Aa H H')(h:Rd H a u):Rd H' a u:=by
 rcases h with h|⟨o,h⟩
 .show .inl (e _ _ h)
 .show .inr ⟨o,e _ _ h⟩
def Ad.all {K:KE}(b:∀ a xs,Rd H a (.lst xs)->Rd H' a (.lst xs))(e:∀ a xs,H a=Z (.tup xs)->H' a=Z (.tup xs))(c:∀ a,H a=Z (.dK [])->H' a=Z (.dK []))(h:Ad K H d v):Ad K H' d v:=
 Ad.rec (motive_1:=λd v _=>Ad K H' d v) (motive_2:=λds vs _=>Af K H' ds vs) .non .bl .int .str (λh _ q=>.lst (b _ _ h) q) (λh _ q=>.tup (e _ _ h) q) (λh=>.dct (c _ h)) .nil (λ_ _ h q=>.cons h q) h
def Af.all {K:KE}(b:∀ a xs,Rd H a (.lst xs)->Rd H' a (.lst xs))(d:∀ a xs,H a=Z (.tup xs)->H' a=Z (.tup xs))(c:∀ a,H a=Z (.dK [])->H' a=Z (.dK []))(h:Af K H ds vs):Af K H' ds vs:=
 Af.rec (motive_1:=λ_ _ _=>True) (motive_2:=λds vs _=>Af K H' ds vs) trivial (λ_=>trivial) (λ_=>trivial) (λ_=>trivial) (λ_ _ _=>trivial) (λ_ _ _=>trivial) (λ_=>trivial) .nil (λh _ _ q=>.cons (h.all b d c) q) h
def Ad.same {K:KE}(e:Aa H H')(h:Ad K H d v):Ad K H' d v:=h.all (λ_ _=>Rd.same e) (λ_ _=>e _ _) (λ_=>e _ _)
def Af.same {K:KE}(e:Aa H H')(h:Af K H ds vs):Af K H' ds vs:=h.all (λ_ _=>Rd.same e) (λ_ _=>e _ _) (λ_=>e _ _)
def Aa.new (h:H p=none):Aa H (upd H p o):=λb u e=>by rw[ar (aI e h)];show e
def Mv (T:List MF)(H H':Hp):Prop:=∀ b o,H b=Z o->b∉T->H' b=Z o
def Mv.of (h:Aa H H'):Mv T H H':=λb o e _=>h b o e
def Mv.refl:Mv T H H:=λ_ _ e _=>e
def Mv.trans (a:Mv T H H1)(b:Mv T H1 H2):Mv T H H2:=λc o e n=>b c o (a c o e n) n
mutual
def Fl:NM->Bool
 |.tuple a=>Bn a
 |.none=>true
 |.bool _=>true
 |.int _=>true
 |.str _=>true
 |_=>false
def Bn:List NM->Bool
 |[]=>true
 |x::a=>Fl x&&Bn a
end
def AC (H:Hp)(T:List MF):Prop:=∀ b∈T,∃ a,H b=Z (.lst a)
def AC.not (h:AC H T)(e:H b=Z o)(n:∀ xs,o≠.lst xs):b∉T:=λm=>by
 obtain⟨xs,q⟩:=h b m;rw[e] at q;show n xs (Mn q)
def Af.allT {K:KE}(c:∀ a xs,H a=Z (.tup xs)->H' a=Z (.tup xs))(h:Af K H ds vs):Bn ds=true->Af K H' ds vs:=
 Af.rec (motive_1:=λd v _=>Fl d=true->Ad K H' d v) (λ_=>.non) (λb _=>.bl b) (λi _=>↑i) (λx _=>.str x) (λ_ _ _ t=>by simp[Fl] at t) (λh _ q t=>.tup (c _ _ h) (q (by simpa [Fl] using t))) (λ_ t=>by simp[Fl] at t) (λ_=>.nil) (λ_ _ h q t=>by
  simp only[Bn,MX] at t;show .cons (h t.1) (q t.2)) h
def Ad.allT {K:KE}(b:∀ a xs,H a=Z (.tup xs)->H' a=Z (.tup xs))(h:Ad K H d v)(t:Fl d=true):Ad K H' d v:=by
 cases Af.allT b (.cons h .nil) (by rw[Bn,t];rfl) with
 |cons h _=>show h
def Ad.mv {K:KE}(e:Mv T H H')(l:AC H T)(t:Fl d=true)(h:Ad K H d v):Ad K H' d v:=h.allT (λ_ _ h=>e _ _ h (l.not h λ_ z=>nomatch z)) t
def Af.mv {K:KE}(e:Mv T H H')(l:AC H T)(t:Bn ds=true)(h:Af K H ds vs):Af K H' ds vs:=h.allT (λ_ _ h=>e _ _ h (l.not h λ_ z=>nomatch z)) t
def JM (K:KE):R2:=λx y H Q=>∃ d e,Ad K H d x/\Ad K H e y/\Vd d=true/\Vd e=true/\Q (.bl (QH d e)) H
def IQ (K:KE):R2:=λx y H Q=>∃ d e,Ad K H d x/\Ad K H e y/\Vd d=true/\Vd e=true/\Q (.bl (!QH d e)) H
def afb (g:X.A.units+64<cLine):Ct X (Ow .Eq) (JM X.K):=by intro a s n H x y v u Q I l b h;obtain⟨d,e,k,f,c,m,q⟩:=h;obtain⟨o,i⟩:=jh I k l;obtain⟨bs,j⟩:=jh I f b;show eq_dataH i j c m g ⟨.bl _,H,I,U,q⟩
def aft (g:X.A.units+64<cLine):Ct X (Ow .NotEq) (IQ X.K):=by intro a s n H x y v u Q I l b h;obtain⟨d,e,k,f,c,m,q⟩:=h;obtain⟨o,i⟩:=jh I k l;obtain⟨bs,j⟩:=jh I f b;show ne_dataH i j c m g ⟨.bl _,H,I,U,q⟩
def Iq (K:KE):R2:=λx y H Q=>∃ a b ns,x=↥a/\y=↥b/\An K H a (ns.map V.int)/\H b=Z (.lst [])/\Q (.bl (!decide (ns=[]))) H
def abH (g:X.A.units+64<cLine):Ct X (Ow .NotEq) (Iq X.K):=by intro d s n H x y v u Q I m e h;obtain⟨a,b,ns,rfl,rfl,f,k,q⟩:=h;cases m;cases e;obtain⟨p,i,j,_⟩:=I.list f;obtain⟨o,l,c,_⟩:=I.list (An.of k);cases l;show PySem.W.ke_ne_ints j.isList c.isList (oH i) .nil g ⟨.bl _,H,I,U,q⟩
def bY:Ct X (Ow .Eq) (HS λi j=>.bl (decide (i=j))):=zL λ_ _ _ _ _ _ _ q=>eq_int (by rw[Qn];show q)
def iQ:Ct X (Ow .NotEq) (HS λi j=>.bl (!decide (i=j))):=zL λ_ _ _ _ _ _ _ q=>ne_int (by rw[bne,Qn];show q)
def Sm.bits {x:Int}(h:Sm k x):Sz x<=k:=by
 unfold Sz
 split
 .show N7 _
 .rename_i a
  have b:x.natAbs≠0:=by
   intro z;apply a;have:x=0:=Y
   subst this;rfl
  have:x.natAbs.log2<k:=(Xa b).mpr h;lia
def DX (i j:Int):Prop:=(Sm 8000 i/\Sm 8000 j)\/Sm 64 i
def aD:Ct X (RX .Mult) (rI DX λi j=>↑(i*j)):=opI λi j _ _ _ _ _ b q=>mul_int q (by
 rcases b with ⟨a,c⟩|a
 .show Uz (M1 a.bits O) (M1 c.bits O)
 .show W1 a.bits)
def KN (_ j:Int):Prop:=j≠0/\Sm 8000 j
def c5:Ct X (RX .FloorDiv) (rI KN λi j=>↑(i.fdiv j)):=opI λi j _ _ _ _ _ a q=>floordiv_int a.1 q (.inl (TY (by
 by_cases b:j.natAbs=0
 .rw[b];decide
 .show MK ((Xa b).mpr a.2) O)))
def Bx (a b:String):Option Bool:=if((OW a==OW b)=true) then Z true else if Xe b=true then(fastBuiltinMro a).map (·.contains (.type b)) else none
def uD (K:KE)(a b:String):Ov K (.type a) (.type b)=Bx a b:=U
abbrev Ty (K:KE)(H:Hp)(x:V)(T:String):Prop:=Dc K H x (.type T)
def KA (K:KE):List V->Hp->VK->Prop:=λa H Q=>∃ x T S b,a=[x,.ty S]/\Ty K H x T/\Bx T S=Z b/\Q (.bl b) H
def abd:AI X (.builtin "isinstance") (KA X.K):=by intro a s g H j i Q I r h;obtain⟨x,T,S,b,rfl,ty,e,q⟩:=h;obtain⟨u,v,rfl,d,f⟩:=j9 r;cases(show v=OW S from f);show lS I d ty (by rw[uD];show e) λc=>⟨.bl b,H,I.tok c,U,q⟩
def EG (a:String):List String->Option Bool
 |[]=>Z false
 |b::r=>match Bx a b with
  |some true=>Z true
  |some false=>EG a r
  |none=>none
def L7:NM->String
 |.none=>"NoneType"
 |.bool _=>"bool"
 |.int _=>"int"
 |.str _=>"str"
 |.list _=>"list"
 |.tuple _=>"tuple"
 |.dict _=>"dict"
def Ad.ty {K:KE}(h:Ad K H d x):Ty K H x (L7 d):=by
 cases h with
 |non=>show .non
 |bl b=>show .bl b
 |int i=>show .int i
 |str x=>show .str x
 |lst h _=>
  rcases h with h|⟨o,h⟩
  .show .lst h
  .show .frz h
 |tup h _=>show .tup h
 |dct h=>show .dK h
def HN (CX:C_):Prop:=∀ a H s e b,CX a H s E0 e b->False
def mr (h:HN CX):ES CX X E0:=λ_ _ _ _ _ _ _ z=>(h _ _ _ _ _ z).elim
structure ID (P:MY)(w:Nr)(K:KE)(mg:O')(base:Oz)(CX:C_)(k:Nat)(x:Str)(ps:List Str)(dvs:List V)(sp:Sp):Prop where
 ex:∃ (f:MF) (fd:OQ) (ds:List Mo),Bw P w K mg base CX k f fd ps sp/\mg x=Z ↥f/\M8 K ↥f=true/\Cr K fd ps ds/\Ah dvs ds
variable {CX:C_}
section
variable {k:Nat}{x:Str}{ps:List Str}{sp:Sp}{dvs:List V}{p pos:Pos}{e:OZ}{es:List OZ}{t:TA}
def aff (l:HN CX) (C:ID X.prog X.w X.K X.mg X.base CX k x ps dvs sp) (j:Room k X.A) (d:Gl X x) (h:PA X (e :: es) t) (b:(x == ("__debug__":Str))=false<|>Cb)
  (he:M0 (e::es) X.env=(false,QA e X.env)::M0 es X.env<|>C')(a:(Qx pos (M0 es X.env)).any (·.1)=false<|>C'):PE X (.Call (.Name x p) (e::es) [] pos) (DM sp dvs E0 t):=by
 obtain⟨f,n,ds,F,c,m,g,i⟩:=C.ex;show ada F j d c m g i (mr l) h b he a
end
structure AK (K:KE)(mg:O')(x:Str)(st:On)(ps:List Str)(dvs:List V):Prop where
 ex:∃ (f:MF) (fd:OQ) (oc:Mo) (od:Option MF) (dV kV doc pm:Mo) (an:Option MF) (cdv ct:Mo) (osl:S1) (ds:List Mo),
  fd=M5 x x (Ak st) (Ai st) (Ab st) dV kV doc pm an cdv ct/\K.lookup f=Z ⟨oc,od,.func fd,osl⟩/\Nj K cdv x=true /\
  mg x=Z ↥f/\M8 K ↥f=true/\Cr K fd ps ds/\Ah dvs ds
section
variable {P:MY}{w:Nr}{K:KE}{mg:O'}{base:Oz}
def AK.cal {x:Str}{st:On}{N d:List Str}{c:List V}{k:Nat}{sp:Sp} (F:AK K mg x st d c) (S:Ac N d (Ab st)) (len:(∀ vs H Q E,sp vs H Q E->⇑vs=⇑d)<|>G5)
  (bb:∀ (f:MF) (b:Mo) (A:Nw) (a:List Env) (s:Mt) (H:Hp) (vs:List V) (Q:VK) (E:XK),Room k (A.deeper (envOfC x (Ab st) s⁻¹ f b))->sp vs H Q E ->
   ∃ t,EH (DH CX P w K mg base N x (Ab st) f b A a s H E).nox (Ai st) t/\t { nx:=λ_ H'=>Q .non H',rt:=Q } (B2 N vs) H):ID P w K mg base CX (k+1) x d c sp:=by
 obtain⟨f,y,z,C,D,kV,j,B,u,b,v,p,ds,rfl,i,g,l,n,m,o⟩:=F.ex;refine⟨f,_,ds,nZ i g S len λA a s H vs Q E r e=>?_,l,n,m,o⟩;obtain⟨t,h,q⟩:=bb f b A a s H vs Q E r e;show⟨t,h.nox,q⟩
def vR {x:Str}{st:On}{n:List Str}{f:MF}{o:Mo}{p e:Option MF}{d:S1}{kV b i a g:Mo} (l:K.lookup f=Z ⟨o,p,.func (M5 x x (Ak st) (Ai st) (Ab st) .none kV b i e a g),d⟩)
  (c:Nj K a x=true)(k:M8 K ↥f=true)(m:mg x=Z ↥f)
  (h:∀ j:List Mo,⇑j=⇑n->QJ (M5 x x (Ak st) (Ai st) (Ab st) .none kV b i e a g) ⟨j,[]⟩=pure (n.zip j)):AK K mg x st n []:=
 ⟨f,_,o,p,.none,kV,b,i,e,a,g,d,[],U,l,c,m,k,.all h,.nil⟩
def ye {x:Str}{st:On}{q:List Str}{f T:MF}{t:Mo}{u i:Option MF}{e:S1}{kV b p a j:Mo}{o:Obj}{items:Array Mo}{n:Nat}{ds:List Mo}{d:List V}
  (l:K.lookup f=Z ⟨t,u,.func (M5 x x (Ak st) (Ai st) (Ab st) ↥T kV b p i a j),e⟩)
  (c:Nj K a x=true)(k:M8 K ↥f=true)(m:mg x=Z ↥f)(z:K.lookup T=Z o)(v:o.data=.seq items n)(y:Ah d ds)
  (h:∀ g:List Mo,⇑(g++ds)=⇑q->∃ r:Option (Array Mo)->Sem (List (Str×Mo)),QJ (M5 x x (Ak st) (Ai st) (Ab st) ↥T kV b p i a j) ⟨g,[]⟩=Vj ↥T>>=r/\r (Z items)=pure (q.zip (g++ds))):AK K mg x st q d:=
 ⟨f,_,t,u,↥T,kV,b,p,i,a,j,e,ds,U,l,c,m,k,λs g X C=>by
  obtain⟨r,B,A⟩:=h g C;show BindsTo.of_defaults rfl (X T o z) v B A,y⟩
end
end TR
namespace TR
open PySem PySem.Spec PyProof.Rows L2
abbrev F8 (n d:Int):NM:=.tuple [↑n,↑d]
def aU {K:KE}{n d:Int}(h:Ad K H (F8 n d) v):∃ a,v=↥a/\H a=Z (.tup [↑n,↑d]):=by
 cases h with
 |tup h q=>
  cases q with
  |cons f e=>
   cases f;cases e with
   |cons c b=>
    cases c;cases b;show⟨_,U,h⟩
def ji {K:KE}{n d:Int}(h:H a=Z (.tup [↑n,↑d])):Ad K H (F8 n d) ↥a:=.tup h (.cons ↑_ (.cons ↑_ .nil))
def aau (n d m e:Int):QH (F8 n d) (F8 m e)=(decide (n=m)&&decide (d=e)):=by simp only[QH,V8,QB,Qn]
def uz {n d m e:Int}(h:n=m/\d=e):QH (F8 n d) (F8 m e)=true:=by rw[aau,MB h.1,MB h.2];rfl
def Sh (K:KE)(H:Hp)(t b:Int)(Q:VK):Prop:=∀ v n d a,Aa H a->Ad K a (F8 n d) v->Hw t b n d->Q v a
structure Ok (k:Nat)(n d:Int):Prop where
 pos:0<d
 co:Os n d=1
 sn:Sm k n
 sd:Sm k d
def Hw.ok {t b n d:Int}(h:Hw t b n d)(a:b≠0)(st:Sm k t)(c:Sm k b):Ok k n d:=
 ⟨h.1,h.2.1,st.le (oP a h).1,c.le (oP a h).2⟩
def Ok.mono {n d:Int}(h:Ok j n d)(l:j<=k):Ok k n d:=⟨h.pos,h.co,h.sn.mono l,h.sd.mono l⟩
def Ok.neg {n d:Int}(h:Ok k n d):Ok k (-n) d:=⟨h.pos,by rw[Int.neg_gcd];show h.co,h.sn.neg,h.sd⟩
def Ok.ne {n d:Int}(h:Ok k n d):d≠0:=by have:=h.pos;lia
noncomputable def shB:NM->Bool
 |.tuple [↑n,↑d]=>decide (1<=d)&&decide (Os n d=1)
 |_=>false
def Ok.shB {n d:Int}(h:Ok k n d):TR.shB (F8 n d)=true:=by have:=h.pos;change(decide (1<=d)&&decide (Os n d=1))=true;rw[MB (show 1<=d by lia),MB h.co];rfl
def le1:[a].length<=MO:=by change 1<=MO;decide
def iX:[a,b].length<=MO:=by change 2<=MO;decide
def sX:[a,b,c].length<=MO:=by change 3<=MO;decide
section
variable {K:KE}{H:Hp}{Q:VK}{a:MF}{x y z:V}
def dD (h:H a=Z (.tup [x,y]))(q:Q x H):IE K ↥a ↑0 H Q:=.inr (.inl ⟨a,_,0,x,U,U,AZ.of h,U,q⟩)
def cB (h:H a=Z (.tup [x,y]))(q:Q y H):IE K ↥a ↑1 H Q:=.inr (.inl ⟨a,_,1,y,U,U,AZ.of h,U,q⟩)
def afh (h:H a=Z (.lst [x,y]))(q:Q x H):IE K ↥a ↑0 H Q:=.inl ⟨a,_,0,x,U,U,An.of h,U,q⟩
def vM (h:H a=Z (.lst [x,y]))(q:Q y H):IE K ↥a ↑1 H Q:=.inl ⟨a,_,1,y,U,U,An.of h,U,q⟩
end
def Gd:V->Bool
 |.int _=>true
 |_=>false
def ab1 {K:KE}(h:Ty K H x T):∃ b,Bx T "int"=Z b/\if b=true then ∃ c,Bx T "bool"=Z c/\Gd x=!c else Gd x=false:=by
 cases h with
 |non=>show⟨false,zyB,aN rfl⟩
 |bl b=>show⟨true,zyB,aF ⟨true,zyB,U⟩⟩
 |int i=>show⟨true,zyB,aF ⟨false,zyB,U⟩⟩
 |str x=>show⟨false,zyB,aN rfl⟩
 |flt x=>show⟨false,zyB,aN rfl⟩
 |lst e=>show⟨false,zyB,aN rfl⟩
 |frz e=>show⟨false,zyB,aN rfl⟩
 |tup e=>show⟨false,zyB,aN rfl⟩
 |dK e=>show⟨false,zyB,aN rfl⟩
 |dT e=>show⟨false,zyB,aN rfl⟩
theorem Af.length {K:KE}:∀ {ds:List NM}{xs:List V},Af K H ds xs->⇑ds=⇑xs
 |[],_,h=>by cases h;rfl
 |_::_,_,h=>by
  cases h with
  |cons _ q=>rw[Np,Np,Af.length q]
def acV (h:⇑ds≠2):shB (.tuple ds)=false:=by
 match ds,h with
 |[],_=>rfl
 |[a],_=>cases a<;>rfl
 |[a,b],h=>show absurd rfl h
 |a::b::c::r,_=>cases a<;>(try rfl)<;>cases b<;>rfl
def afZ {K:KE}(g:Ad K H d x)(h:Gd x=false):shB (.tuple [d,e])=false:=by
 cases g with
 |int i=>show absurd h (by simp[Gd])
 |_=>rfl
def af3 {K:KE}(g:Ad K H e x)(h:Gd x=false):shB (.tuple [d,e])=false:=by
 cases g with
 |int i=>show absurd h (by simp[Gd])
 |_=>cases d<;>rfl
def xA {K:KE}(g:Ad K H d x)(h:Gd x=true):∃ n,d=↑n/\x=↑n:=by
 cases g with
 |int i=>show⟨i,U,U⟩
 |_=>show absurd h (by simp[Gd])
def Az (H:Hp)(t r:MF):Prop:=∃ (a:List Int) (k:Int),H t=Z (.lst [↥r,↑k])/\H r=Z (.lst (a.map V.int))/\a≠[]/\⇑a<=63
def Az.lists (h:Az H t r):AC H [t,r]:=λb m=>by
 obtain⟨c,k,a,d,_⟩:=h;rcases MA.mp m with rfl|m
 .show⟨_,a⟩
 .cases Mu.mp m;show⟨_,d⟩
def Az.same (h:Az H t r)(e:Aa H H'):Az H' t r:=by obtain⟨c,k,a,f,d,b⟩:=h;show⟨c,k,e _ _ a,e _ _ f,d,b⟩
def Az.ne (h:Az H t r):t≠r:=by
 obtain⟨c,k,a,d,b,e⟩:=h;refine ad6 a d λz=>?_
 cases c with
 |nil=>show b rfl
 |cons x c=>
  injection z with z
  injection z with z _
  cases z
def lj [Decidable p](h:p):V.bl (decide p)=V.bl true:=by rw[MB h]
def Mv.upd (m:p∈[t,r]):Mv [t,r] H (upd H p o):=λb u e n=>by
 rw[ar (show b≠p from λz=>n (z▸m))];show e
def JP.okX {P:MY}{w:Nr}{K:KE}{mg:O'}{base:Oz}{CX:C_}{x b:Str}{st:On}{f:MF}{i:OQ}{N g:List Str}{k:Nat}{sp:Sp} (F:JP K x b st f i) (S:Ac N g (Ab st)) (len:(∀ vs H Q E,sp vs H Q E->⇑vs=⇑g)<|>G5)
  (bb:∀ (c:Mo) (A:Nw) (a:List Env) (s:Mt) (H:Hp) (vs:List V) (Q:VK) (E:XK),Room k (A.deeper (envOfC b (Ab st) s⁻¹ f c))->sp vs H Q E ->
   ∃ t,EH (DH CX P w K mg base N b (Ab st) f c A a s H E).nox (Ai st) t/\t { nx:=λ_ H'=>Q .non H',rt:=Q } (B2 N vs) H):Bw P w K mg base CX (k+1) f i g sp:=by
 obtain⟨r,v,kV,l,u,o,c,p,m,rfl,j,e⟩:=F.ex;refine nZ j e S len λA a s H vs Q E n d=>?_
 obtain⟨t,h,q⟩:=bb c A a s H vs Q E n d;show⟨t,h.nox,q⟩
abbrev _root_.X':=List (Str×MF)
def Av (X:Cx)(N:List Str)(a:Qw)(d:X')(C:MF)(e:Mt)(c:Hp)(f:List MF)(b:Lb):Cx:=
 { X with N:=N,s₀:=e,H₀:=c,env:=PH a d C X.env,outer:=X.stack,stack:=X.stack,ex:=f,fn:=λx=>a.names.lookup x==Z .cell,pn:=X.pn++b,xe:=λ_ _=>False }
def GS (k:Nat)(js:List Nat)(a:L2.St):L2.St:=MN k none++js.map λj=>(a[j]?).join
def Fg (cells:X'):List (Str×Qk)->List (Str×MF)->List (Str×MF)
 |[],a=>a
 |(n,k)::r,a=>if(k==.free)=true then Fg cells r ((n,(cells.lookup n).getD 0)::a) else Fg cells r a
def lW (h:∀ y∈scope.names,y.2=.free->∃ c,env.cells.lookup y.1=Z c):closureFor scope env=pure (Fg env.cells scope.names []):=by
 have f:∀ (names:List (Str × Qk)) (a:List (Str × MF)),(∀ y ∈ names,y.2=.free->∃ c,env.cells.lookup y.1=Z c) ->
   (forIn names a λ(x:Str×Qk) (r:X')=>(match x with
    |(b,d)=>if(d==.free)=true then(do let c <- cellOf env b;pure (Qr ((b,c)::r))) else pure (Qr r):Sem (ForInStep (List (Str×MF)))))=(pure (Fg env.cells names a):Sem (List (Str×MF))):=by
  intro names
  induction names with
  |nil=>intro a _;rfl
  |cons y r g=>
   intro a d;obtain⟨n,k⟩:=y;have j:=λz l=>d z (Mx _ l)
   rw[List.forIn_cons];unfold Fg
   by_cases b:(k==NW)=true
   .obtain⟨c,i⟩:=d (n,k) MS (by simpa using b);simp only[b,Qb];have e:cellOf env n=pure c:=by unfold cellOf;rw[i]
    rw[e,i];show g _ j
   .simp only[b];show g _ j
 have:=f scope.names [] h
 first
  |show this
  |(simp only[bind_pure];show this)
  |(rw[bind_pure];show this)
  |(show(forIn scope.names [] _>>=λr=>pure r)=_;rw[bind_pure];show this)
theorem dR:∀ {names:List (Str×Qk)}{acc:X'}{x:Str}{c:MF},(∀ y∈names,y.2=.free->∃ c,cells.lookup y.1=Z c)->(Fg cells names acc).lookup x=Z c->acc.lookup x=Z c\/((x,NW)∈names/\cells.lookup x=Z c)
 |[],_,_,_,_,e=>.inl e
 |(n,k)::r,acc,x,c,h,e=>by
  unfold Fg at e;have i:=λz j=>h z (Mx _ j)
  by_cases d:(k==NW)=true
  .rw[M' d] at e;have b:k=.free:=by simpa using d
   rcases dR i e with e|⟨m,e⟩
   .rw[NT] at e;cases hx:x==n with
    |true=>
     rw[hx] at e;have f:x=n:=by simpa using hx
     obtain⟨g,a⟩:=h (n,k) MS b;have a:cells.lookup n=Z g:=a;rw[a] at e;have e:g=c:=by simpa using e
     subst e f b;show .inr ⟨MS,a⟩
    |false=>
     rw[hx] at e;show .inl e
   .show .inr ⟨Mx _ m,e⟩
  .rw[MZ d] at e;rcases dR i e with e|⟨m,e⟩
   .show .inl e
   .show .inr ⟨Mx _ m,e⟩
theorem gf:∀ {names:List (Str×Qk)}{acc:X'}{x:Str},(∃ c,acc.lookup x=Z c)\/(x,NW)∈names->∃ c,(Fg cells names acc).lookup x=Z c
 |[],_,_,h=>by
  rcases h with h|h
  .show h
  .cases h
 |(n,k)::r,acc,x,h=>by
  unfold Fg
  by_cases a:(k==NW)=true
  .rw[M' a];refine gf ?_;rcases h with ⟨c,e⟩|h
   .refine .inl ?_;rw[NT];cases x==n with
    |true=>show⟨_,U⟩
    |false=>show⟨c,e⟩
   .rcases MA.mp h with e|h
    .injection e with b d
     subst b;show .inl ⟨_,by rw[NT];simp;rfl⟩
    .show .inr h
  .rw[MZ a];refine gf ?_;rcases h with h|h
   .show .inl h
   .rcases MA.mp h with e|h
    .injection e with b d
     subst d;show absurd rfl a
    .show .inr h
theorem lX:∀ {names:List (Str×Qk)}{n:Nat}{acc:X'}{x:Str}{c:MF},(Ro n names acc).lookup x=Z c->acc.lookup x=Z c\/((x,N6)∈names/\n<=c)
 |[],_,_,_,_,e=>.inl e
 |(y,k)::r,n,acc,x,c,e=>by
  unfold Ro at e
  by_cases b:(k==N6)=true
  .rw[M' b] at e;rcases lX e with e|⟨m,l⟩
   .rw[NT] at e;cases hx:x==y with
    |true=>
     rw[hx] at e;have e:n=c:=by simpa using e
     have a:x=y:=by simpa using hx
     have d:k=.cell:=by simpa using b
     subst e a d;show .inr ⟨MS,Mz _⟩
    |false=>
     rw[hx] at e;show .inl e
   .show .inr ⟨Mx _ m,QG l⟩
  .rw[MZ b] at e;rcases lX e with e|⟨m,l⟩
   .show .inl e
   .show .inr ⟨Mx _ m,l⟩
structure Gi (X:Cx)(scope:Qw):Prop where
 kind:scope.kind=.function
 once:∀ y∈scope.names,scope.names.lookup y.1=Z y.2
 one:∀ y∈scope.names,∀ z∈scope.names,y.2=.cell->z.2=.cell->y.1=z.1
 kinds:∀ y∈scope.names,y.2=.local\/y.2=.globalImplicit\/y.2=.cell\/y.2=.free
 free:∀ y∈scope.names,y.2=.free->∃ c,X.env.cells.lookup y.1=Z c
abbrev Aj (X:Cx)(a:Qw)(C:MF):List (Str×MF):=Ro (C+1) a.names (Fg X.env.cells a.names [])
variable {X:Cx}
section
variable {scope:Qw}{C:MF}(S:Gi X scope)
include S
def gE (e:(Aj X scope C).lookup x=Z c):(X.env.cells.lookup x=Z c/\scope.names.lookup x=Z .free)\/(C+1<=c/\scope.names.lookup x=Z .cell):=by
 rcases lX e with e|⟨m,l⟩
 .rcases dR S.free e with e|⟨m,e⟩
  .cases e
  .show .inl ⟨e,S.once _ m⟩
 .show .inr ⟨l,S.once _ m⟩
def aeP (e:(Aj X scope C).lookup x=Z c)(f:(Aj X scope C).lookup y=Z c)(h:∀ x y c,X.env.cells.lookup x=Z c->X.env.cells.lookup y=Z c->x=y)(d:∀ x c,X.env.cells.lookup x=Z c->c<C):x=y:=by
 rcases gE S e with ⟨a,_⟩|⟨a,k⟩
 .rcases gE S f with ⟨b,_⟩|⟨b,_⟩
  .show h x y c a b
  .show absurd (d x c a) (O6.mpr (QG b))
 .rcases gE S f with ⟨b,_⟩|⟨b,g⟩
  .show absurd (d y c b) (O6.mpr (QG a))
  .show S.one (x,.cell) (OV k) (y,.cell) (OV g) U U
def aa6 (h:(PH scope (Aj X scope C) C X.env).kindOf x=Z .cell\/(PH scope (Aj X scope C) C X.env).kindOf x=Z .free):∃ c,(Aj X scope C).lookup x=Z c:=by
 have f:∀ (a:List (Str × Qk)),((a.map fun (n,k)=>if (k == NW && X.env.scope.kind == .function && X.env.kindOf n == Z .cell) then (n,N6) else (n,k)).lookup x=Z .cell \/
   (a.map λ(n,k)=>if(k==NW&&X.env.scope.kind==.function&&X.env.kindOf n==Z .cell) then(n,N6) else(n,k)).lookup x=Z .free)->(x,NW)∈a\/(x,N6)∈a:=by
  intro a
  induction a with
  |nil=>intro h;simp at h
  |cons y r i=>
   intro h;obtain⟨n,k⟩:=y
   by_cases b:(x==n)=true
   .have d:x=n:=by simpa using b
    subst d
    by_cases g:(k==NW&&X.env.scope.kind==.function&&X.env.kindOf x==Z .cell)=true
    .have:k=.free:=by
      rw[MX,MX] at g
      simpa using g.1.1
     subst this;show .inl MS
    .simp only[MR,g,NT,b] at h;rcases h with h|h
     .have:k=.cell:=by simpa using h
      subst this;show .inr MS
     .have:k=.free:=by simpa using h
      subst this;show .inl MS
   .have d:(x==n)=false:=by simpa using b
    have e:∀ (g:Qk),((((n,k) :: r).map fun (n,k)=>if (k == NW && X.env.scope.kind == .function && X.env.kindOf n == Z .cell) then (n,N6) else (n,k)).lookup x=Z g) ->
      ((r.map λ(n,k)=>if(k==NW&&X.env.scope.kind==.function&&X.env.kindOf n==Z .cell) then(n,N6) else(n,k)).lookup x=Z g):=λg h=>by
     rw[MR,NT] at h;have:(x==((λ(y:Str×Qk)=>match y with|(n,k)=>if(k==NW&&X.env.scope.kind==Wa&&X.env.kindOf n==Z N6) then(n,N6) else(n,k)) (n,k)).1)=false:=by
      change(x==(if(k==NW&&X.env.scope.kind==Wa&&X.env.kindOf n==Z N6)=true then(n,N6) else(n,k)).1)=false
      split<;>show d
     rw[this] at h;show h
    rcases h with h|h
    .rcases i (.inl (e _ h)) with z|z
     .show .inl (Mx _ z)
     .show .inr (Mx _ z)
    .rcases i (.inr (e _ h)) with z|z
     .show .inl (Mx _ z)
     .show .inr (Mx _ z)
 rcases f scope.names h with z|z
 .obtain⟨c,e⟩:=gf (.inr z);show OE.mp (Qi _ _ _ (.inr (by rw[e];rfl)))
 .show OE.mp (Qi _ _ _ (.inl (S.once _ z)))
end
def aat
  (p:∀ h',(∃ m,h'.Ns s⁻¹ m)->(∀ x c,(Ro (s⁻¹+1) scope.names cl).lookup x=Z c->cl.lookup x=Z c\/h'.IsCell c none)->(∀ b o,s>>b=Z o->h'.get? b=Z o) ->
   Q (newEnv scope s⁻¹ globals (Ro (s⁻¹+1) scope.names cl) qual none .none (Z env) RO) { s with heap:=h' }) :
  MI M A (VE scope globals cl [] qual none .none (Z env)) Q E s:=by
 have f:∀ (names:List (Str×Qk)) (h:Oz) (a:X') (x:Str) (c:MF),(Ro h.objs.size names a).lookup x=Z c->a.lookup x=Z c\/(pushCells h names).IsCell c none:=by
  intro names
  induction names with
  |nil=>intro h a x c e;show .inl e
  |cons y r i=>
   intro h a x c e;obtain⟨n,k⟩:=y;unfold Ro at e;unfold pushCells
   by_cases j:(k==N6)=true
   .rw[M' j] at e ⊢;have q:h.objs.size+1=(h.push { cls:=.type "cell",data:=.cell none }).objs.size:=(NQ ..).symm;rw[q] at e;rcases i _ _ _ _ e with e|e
    .rw[NT] at e;cases hx:x==n with
     |true=>
      rw[hx] at e;have e:h.objs.size=c:=by simpa using e
      subst e;show .inr ⟨_,Vi r _ _ _ (Ms _ U),U⟩
     |false=>
      rw[hx] at e;show .inl e
    .show .inr e
   .rw[MZ j] at e ⊢;show i _ _ _ _ e
 simp only[VE,V6,Qb];refine HD (wpAny_alloc (HD (wpAny_layCells _ (λl d g=>by cases hkc:d==N6<;>simp[hkc]) _ _ _ _ ?_)));rw[show({ s with heap:=s.heap.push { cls:=.type "dict",data:=.dict #[] } }:Mt).heap.objs.size=s⁻¹+1 from NQ ..];simp only[List.forIn_nil];refine HD (Mm (Mm (p _ ⟨_,(Heap.Ns.new s.heap (.type "dict")).keeps (Vi _ _)⟩ (λx c e=>?_) λb o e=>Vi _ _ b o (Ml _ e))));have:=f scope.names (s.heap.push { cls:=.type "dict",data:=.dict #[] }) cl x c;rw[NQ] at this;show this e
variable {pins:Lb}
section
variable {σ:L2.St}{H H2:Hp}{s s2:Mt}
def EC (X:Cx)(a:Qw)(N:List Str)(σ b:L2.St):Prop:=
 ∀ (i:Nat) (x:Str) (v:V),N[i]?=Z x->b[i]?=Z (Z v)->∃ j:Nat,X.N[j]?=Z x/\σ[j]?=Z (Z v)/\(X.env.kindOf x=Z .cell\/X.env.kindOf x=Z .free)/\a.names.lookup x=Z .free /\
  ((PH a [] 0 X.env).kindOf x=Z .cell\/(PH a [] 0 X.env).kindOf x=Z .free)
def tW (I:Ag X pins σ H s)(a:b≠X.env.locals)(c:b∉X.fs):b∉BJ X.stack:=λz=>(MA.mp (I.stkSub b z)).elim a c
def abb (I:Ag X pins σ H2 s2) (S:Gi X scope)
  (A:EC X scope N σ σ0)(n:⇑σ0=⇑N)(G:∀ b∈fp,Dq X pins H2 b)(fo:∀ b∈fp,∃ o,s2>>b=Z o)(B:s2⁻¹<=C)(L:s2⁻¹<=D)(hDC:D≠C)
  (d:∀ b o,s2>>b=Z o->F.get? b=Z o)(Q:∃ m,F.Ns C m)(R:F.get? D=Z oD)(T:∀ v,oD.data≠.cell v)(M:∀ x c,(Aj X scope C).lookup x=Z c->C+1<=c->F.IsCell c none):
  Ag (Av X N scope (Aj X scope C) C s2 H2 fp pins) [(D,oD)] σ0 H2 { s2 with heap:=F,toks:=tk }:=by
 have g:∀ b,b<s2⁻¹->b≠C/\b≠D:=λb a=>⟨λz=>absurd (z▸a) (O6.mpr B),λz=>absurd (z▸a) (O6.mpr L)⟩
 have f:∀ x c,X.env.cells.lookup x=Z c->c<s2⁻¹:=λx c e=>by
  obtain⟨v,q⟩:=I.cell x c e;show q.lt
 have big:∀ c:MF,C+1<=c->s2⁻¹<=c:=λc h=>M1 B (QG h)
 have s:∀ b∈BJ X.stack,b<s2⁻¹:=λb a=>by
  obtain⟨_,o,E,_⟩:=I.stack.mem a;show Mr E
 refine⟨⟨I.ok.mod,S.kind,I.ok.glob,I.ok.blt,B,?_,?_,?_,I.ok.hd,I.ok.frames,.inl rfl,?_,?_,?_,?_,?_,I.stack,I.stkFree⟩,U,I.bare,Un.kept d,?_,?_,?_,?_,?_,I.hok.kept d,n⟩
 .intro x y c J H;show aeP S J H I.ok.inj λx c e=>MK (f x c e) B
 .intro x t;show aa6 S t
 .intro x c t e;rcases gE S e with ⟨_,k⟩|⟨l,_⟩
  .have t:(scope.names.lookup x==Z N6)=true:=t;rw[k] at t;cases t
  .show big c l
 .intro b a;obtain⟨o,E⟩:=fo b a;refine⟨(g b (Mr E)).1,λx c e=>?_⟩;rcases gE S e with ⟨e,_⟩|⟨l,_⟩
  .show(G b a).2.2.2.2.1 x c e
  .show λz=>absurd (Mr E) (O6.mpr (z▸big c l))
 .show λb o e=>I.bs b o e
 .show M1 I.ok.bsz I.sz
 .intro b o e a;rcases(G b a).2.2.2.1 with z|z
  .show I.ok.noex b o e z
  .show absurd (MK (Mr e) (M1 I.ok.bsz z)) (Nq _)
 .intro b a;show tW I (G b a).2.1 (G b a).2.2.1
 .obtain⟨m1,hm1⟩:=Q;refine⟨m1,hm1,λi x v J H _=>?_⟩;obtain⟨j,j1,j2,j3,jf,j4⟩:=A i x v J H;obtain⟨m,hn,hl⟩:=I.loc;have t:Kr X.env.scope x:=by
   rcases j3 with z|z
   .show .inr (.inl z)
   .show .inr (.inr z)
  obtain⟨u,r,l⟩:=hl j x v j1 j2 t;refine⟨u,r,.inr ⟨j4,?_⟩⟩;obtain⟨c,hc⟩:=aa6 S j4;rcases l with ⟨k,_⟩|⟨_,c',e',z'⟩
  .exfalso;rcases j3 with z|z<;>(rw[z] at k;cases k)
  .rcases gE S hc with ⟨e,_⟩|⟨_,k⟩
   .rw[e'] at e;cases e;show⟨_,hc,z'.keeps d⟩
   .rw[jf] at k;cases k
 .intro x c e;rcases gE S e with ⟨e,_⟩|⟨l,_⟩
  .obtain⟨v,q⟩:=I.cell x c e;show⟨v,q.keeps d⟩
  .show⟨_,M x c e l⟩
 .show I.hok.fresh B
 .intro x c e;rcases gE S e with ⟨e,_⟩|⟨l,_⟩
  .show I.freeC x c e
  .show I.hok.fresh (big c l)
 .intro p t;rcases Nk.mp t with t|t
  .obtain⟨q1,q2,q3,q4,q5⟩:=I.pin p t;show⟨d _ _ q1,q2,(g _ (Mr q1)).1,tW I q3 q4,q5⟩
  .cases Mu.mp t;show⟨R,I.hok.fresh L,hDC,λz=>absurd (s D z) (O6.mpr L),T⟩
def acg (I:Ag X pins σ H2 s2)
  (v:∀ b∈fp,Dq X pins H2 b)(h:s2⁻¹<=D)(J:Ag (Av X N scope (Aj X scope C) C s2 H2 fp pins) ((D,{ cls:=.type "list",data:=.seq its.toArray n })::pl) σ0 H' s')(r:Ah ys its)(t:⇑ys<=MO):
  Ag X pins σ (upd H' D (.lst ys)) s':=by
 have i:=J.pin (D,{ cls:=.type "list",data:=.seq its.toArray n }) (MM _ MS);have g:H' D=none:=i.2.1;have d:Un (BJ X.stack) fp H2 H' s2.heap s'.heap:=J.base;have a:H2 D=none:=I.hok.fresh h;have u:Un (BJ X.stack) fp H2 (upd H' D (.lst ys)) s2.heap s'.heap:=by
  refine⟨d.keep,d.slot,λb o e k l=>?_,d.there,λb j e=>?_,λb o w e=>?_,λb y e=>?_⟩
  .rw[ar (show b≠D from λz=>absurd (Mr e) (O6.mpr (by rw[z];show h)))];show d.free b o e k l
  .rw[ar (aI e a)];show d.tups b j e
  .rw[ar (aI e a)];show d.frzs b o w e
  .rw[ar (aI e a)];show d.tbls b y e
 refine I.call' J.os u (λb o e=>?_) J.bare λb f=>?_
 .by_cases f:b=D
  .subst f;rw[ae] at e;cases e;show⟨t,its,n,r,i.1⟩
  .rw[ar f] at e;show(J.hok b o e).stay (λ_ _ _ q=>q) (λc q=>by rw[ar (aI q g)];show q) λc j q=>by rw[ar (aI q g)];show q
 .obtain⟨_,m,_,x,p,s⟩:=v b f;show⟨x,m,p,s⟩
def LQ (X:Cx)(a:List OZ)(t:TT):Prop:=
 ∀ (pins:Lb) (s:Mt) (σ:L2.St) (H:Hp) (Q:X6),Ag X pins σ H s->t σ H Q ->
  MI (MW X.prog X.w) X.A (forIn a true λc r=>if r=true then do let ok <- isTrue c X.env (QA c X.env);pure (Qr ok) else pure (Qr r)) (TP X pins σ Q) X.xe s
structure HK (X:Cx)(ifs:List OZ)(t:TT):Prop where
 go:LQ X ifs t
instance {X:Cx}{ifs:List OZ}{t:TT}:CoeFun (HK X ifs t) λ_=>LQ X ifs t:=⟨HK.go⟩
def JU:TT:=λ_ H Q=>Q true H
def ax:HK X [] JU:=⟨λ_ _ _ H _ I h=>wpAny_tests_nil ⟨H,I,h⟩⟩
def acX (h:PT X c t):HK X [c] t:=⟨λpins s σ H Q I hq=>wpAny_tests_one (h pins s σ H Q I hq)⟩
abbrev TB:=L2.St->Hp->List V->(L2.St->Hp->List V->Prop)->Prop
def G8 (c:TE):TB:=λσ H a Q=>⇑a<MO/\c σ H λy b=>Q σ b (a++[y])
def ER (J:It)(g:TG)(tt:TT)(l:TB)(f:L2.St)(Fin:SS)(n:Hp):Prop:=∃ W:Nat->Nat->List V->Hp->Prop,(∃ m,W 0 m [] n)/\∀ i m d H2,W i m d H2 ->
 (J.stop i H2/\⇑d<=MO/\Fin d H2) \/
 (J.go i H2/\∀ x j,J.yld i H2 x j->g x f j λc k=>tt c k λb h=>if b=true then l c h d λ_ o e=>∃ a,a<m/\W (i+1) a e o else ∃ a,a<m/\W (i+1) a d h)
abbrev Bi (J:It)(g:TG)(tt:TT)(c:TE)(a:L2.St)(Fin:SS)(b:Hp):Prop:=ER J g tt (G8 c) a Fin b
end
def EB (a:Qw):Bool:=a.kind==.function&&a.names.all (λy=>a.names.lookup y.1==Z y.2)&&a.names.all (λy=>a.names.all λz=>!(y.2==.cell&&z.2==.cell)||y.1==z.1) &&
 a.names.all λy=>y.2==.local||y.2==.globalImplicit||y.2==.cell||y.2==.free
def jU (h:EB scope=true)(d:(scope.names.all λy=>!(y.2==.free)||(X.env.cells.lookup y.1).isSome)=true):Gi X scope:=by
 unfold EB at h;simp only[MX,NE] at h;obtain⟨⟨⟨f,j⟩,i⟩,g⟩:=h;refine⟨by simpa using f,λy c=>by simpa using j y c,λy c z k a b=>?_,λy c=>?_,λy c e=>?_⟩
 .have:=i y c z k;rw[a,b] at this
  simpa using this
 .have:=g y c;simp only[US,NZ] at this;rcases this with ((q|q)|q)|q
  .show .inl q
  .show .inr (.inl q)
  .show .inr (.inr (.inl q))
  .show .inr (.inr (.inr q))
 .rw[NE] at d;have:=d y c;rw[e] at this;show OE.mp (by simpa using this)
def Du (X:Cx)(a:Qw)(cs:List Str)(js:List Nat):Bool:=(cs.zip js).all λp=>(X.N[p.2]?==Z p.1)&&(X.env.kindOf p.1==Z .cell||X.env.kindOf p.1==Z .free)&&(a.names.lookup p.1==Z .free) &&
 ((PH a [] 0 X.env).kindOf p.1==Z .cell||(PH a [] 0 X.env).kindOf p.1==Z .free)
def l7 (h:Du X scope cs js=true) (f:⇑cs=⇑js) (l:⇑ts=k) (b:L2.St) (_:⇑b=⇑X.N) :
  EC X scope (ts++cs) b (GS k js b)/\⇑(GS k js b)=⇑(ts++cs):=by
 subst l;refine⟨λi x v d a=>?_,by unfold GS;simp[f]⟩;unfold GS at a;have e:⇑ts<=i:=by
  rcases U8 i ⇑ts with z|z
  .rw[NY (by simpa using z),Rk,M' z] at a;cases a
  .show z
 rw[NR e] at d;rw[NR (by simpa using e),U3,Mw] at a;cases hj:js[i-⇑ts]? with
 |none=>rw[hj] at a;cases a
 |some j=>
  rw[hj] at a;have a:(b[j]?).join=Z v:=Mn a;have g:b[j]?=Z (Z v):=by
   cases q:b[j]? with
   |none=>rw[q] at a;cases a
   |some o=>rw[q] at a;show Rp Z a
  have m:(x,j)∈cs.zip js:=by
   have:(cs.zip js)[i-⇑ts]?=Z (x,j):=by rw[Nm];show⟨d,hj⟩
   show MD this
  unfold Du at h;rw[NE] at h;have c:=h _ m;simp only[MX,US,NZ] at c;show⟨j,c.1.1.1,g,c.1.1.2,c.1.2,c.2⟩
def Ff (b:Bool)(h:Oz)(j q:MF)(k:Nat)(a:Array Mo):Prop:=match b with
 |true=>h.IsListIter j q k/\h.IsList q a
 |false=>h.IsTupleIter j q k/\h.IsTuple q a
def Ff.keep (x:Ff b h j q k its)(d:∀ o,h.get? j=Z o->g.get? j=Z o)(e:∀ o,h.get? q=Z o->g.get? q=Z o):Ff b g j q k its:=by
 cases b with
 |true=>
  obtain⟨⟨o,a,r⟩,⟨u,c,t⟩⟩:=x;show⟨⟨o,d o a,r⟩,⟨u,e u c,t⟩⟩
 |false=>
  obtain⟨⟨o,a,r⟩,⟨u,c,t⟩⟩:=x;show⟨⟨o,d o a,r⟩,⟨u,e u c,t⟩⟩
def Ff.ext (x:Ff b h j q k its)(e:SD c h g)(d:j≠c)(f:q≠c):Ff b g j q k its:=
 x.keep (λo a=>e j o d a) λo a=>e q o f a
def Ff.there (x:Ff b h j q k its):∃ o vs,h.get? j=Z o/\o.data=.fields vs:=by
 cases b with
 |true=>
  obtain⟨⟨o,a,_,d⟩,_⟩:=x;show⟨o,_,a,d⟩
 |false=>
  obtain⟨⟨o,a,_,d⟩,_⟩:=x;show⟨o,_,a,d⟩
def Ff.src (x:Ff b h j q k its):∃ o n,h.get? q=Z o/\o.data=.seq its n:=by
 cases b with
 |true=>
  obtain⟨_,⟨o,a,_,n,d⟩⟩:=x;show⟨o,n,a,d⟩
 |false=>
  obtain⟨_,⟨o,a,_,n,d⟩⟩:=x;show⟨o,n,a,d⟩
def Ff.ne (x:Ff b h j q k its):q≠j:=λz=>by
 obtain⟨o,vs,a,d⟩:=x.there;obtain⟨u,n,c,t⟩:=x.src;rw[z,a] at c;cases c;rw[d] at t;cases t
variable {prog:MY}
section
variable {w:Nr}{A:Nw}{E:My}{s:Mt}
def ady (c:s.heap.IsTupleIter j q k) (h:s.heap.IsTuple q its) (l:its[k]?=Z v)
  (d:∀ g,g.IsTupleIter j q (k+1)->NF j s.heap g->Q v { s with heap:=g }):MI (MW prog w) A (PL ↥j) Q E s:=by
 obtain⟨m,b,i,a⟩:=id c;obtain⟨n,f,_,o,e⟩:=h;refine HD (Nu c.typeIs Po (Nt Po c.typeIs SB ?_ (Sv _)));change MI _ _ (field ↥j 0>>=_) _ _ s;refine HD (NS b a rfl (HD (NS b a rfl (HD (N2 f e ?_)))));simp only[Ng,l];refine HD (Of b a zyA (Mm ⟨v,U,Mm (d _ (⟨_,M4 _ b (NK (Nf a _)),PV ..\i,?_⟩) (M_ ..))⟩));rw[Nf a];simp[ON]
def adZ (hh:A.handled=none) (a:s.heap.IsTupleIter j q k) (i:s.heap.IsTuple q its) (l:its[k]?=none)
  (d:∀ g e,SD j s.heap g->(∃ o,g.get? e=Z o/\o.cls=.type "StopIteration")->E ↥e { s with heap:=g }):MI (MW prog w) A (PL ↥j) Q E s:=by
 obtain⟨n,b,r,c⟩:=id a;obtain⟨p,h,_,t,f⟩:=i;refine HD (Nu a.typeIs Po (Nt Po a.typeIs SB ?_ (Sv _)));change MI _ _ (field ↥j 0>>=_) _ _ s;refine HD (NS b c rfl (HD (NS b c rfl (HD (N2 h f ?_)))));simp only[Ng,l];refine HD (Pr (HD (Of b c zyA (HD (HD (m:=RY _ _) (RT (by first|rfl|(unfold RY;rfl)) (No (HD (Ut ?_)) (by size_fits))))))))
 first|rw[hh]|rw[show A.in1.handled=none from hh]
 refine HD (Mm (Uv (d _ _ (((M_ ..).extBut.push _).push _) ⟨_,Ms _ U,U⟩)))
def Ff.next (x:Ff b s.heap j q k its) (f:its[k]?=Z v)
  (d:∀ g,Ff b g j q (k+1) its->NF j s.heap g->Q v { s with heap:=g }):MI (MW prog w) A (PL ↥j) Q E s:=by
 have e:=x.ne;cases b with
 |true=>show wpAny_nextOf_list_item x.1 x.2 f λg a c=>d g ⟨a,x.2.extBut c.extBut e⟩ c
 |false=>show ady x.1 x.2 f λg a c=>d g ⟨a,x.2.extBut c.extBut e⟩ c
def Ff.stops (hh:A.handled=none) (x:Ff b s.heap j q k its) (c:its[k]?=none)
  (a:∀ g e,SD j s.heap g->(∃ o,g.get? e=Z o/\o.cls=.type "StopIteration")->E ↥e { s with heap:=g }):MI (MW prog w) A (PL ↥j) Q E s:=by
 cases b with
 |true=>show wpAny_nextOf_list_end hh x.1 x.2 c a
 |false=>show adZ hh x.1 x.2 c a
structure Lv (b1 b2:Bool)(h:Oz)(z ti to j1 j2 q1 q2:MF)(f0:Mo)(k:Nat)(xs ys:Array Mo):Prop where
 zp:IsZip h z ti to f0
 pi:UX h ti ↥j1 ↥j2
 po:∃ a b,UX h to a b
 s1:Ff b1 h j1 q1 k xs
 s2:Ff b2 h j2 q2 k ys
structure LZ (z ti to j1 j2 q1 q2:MF):Prop where
 a1:ti≠z
 a2:to≠z
 a3:j1≠z
 a4:j2≠z
 a5:ti≠to
 a6:ti≠j1
 a7:ti≠j2
 a8:to≠j1
 a9:to≠j2
 b1:j1≠j2
 c1:q1≠z
 c2:q1≠to
 c4:q1≠j2
 d1:q2≠z
 d2:q2≠to
 d3:q2≠j1
def afW (D:LZ z ti to j1 j2 q1 q2) (C:Lv b1 b2 s.heap z ti to j1 j2 q1 q2 .none k xs ys) (hx:xs[k]?=Z x) (hy:ys[k]?=Z y)
  (v:∀ g,Lv b1 b2 g z ti to j1 j2 q1 q2 (ON s⁻¹) (k+1) xs ys->UX g s⁻¹ x y->(∀ c o,c≠z->c≠to->c≠j1->c≠j2->s>>c=Z o->g.get? c=Z o)->Q (Z ↥s⁻¹) { s with heap:=g }):
  MI (MW prog w) A (QM ↥z) Q E s:=by
 obtain⟨d,T,⟨pa,R,ho⟩,G,u⟩:=C;have X:s.TypeIs ↥z "zip":=⟨_,d,U⟩
 refine HD (OO (Nu X SC (Nt SC X F.entry_zip_next ?_ (F.args_zip_next_1 _))));change MI _ _ (field ↥z 2>>=_) _ _ s;refine HD (NS d rfl rfl (HD (NS d rfl rfl (HD (N2 T rfl (HD (HD (NS d rfl rfl (Mm (HD (Pr (HD (NS d rfl rfl (HD (N3 d zyA λg1 z1 i=>(HD (HD (HD (Uu ?_)))))))))))))))))));refine HD ((G.ext i.extBut D.a3 D.c1).next hx λg2 i2 h=>Mm ?_);have S:UX g2 to pa R:=h.extBut _ _ D.a8 (i.extBut _ _ D.a2 ho);refine HD (N2 S rfl (HD (Ss S λg3 o3 j=>(HD (Qc (Mm (HD (HD (Uu (HD ((((u.ext i.extBut D.a4 D.d1).ext h.extBut D.b1.symm D.d3).ext j.extBut D.a9.symm D.d2).next hy λg4 i4 l=>Mm ?_)))))))))));have J:UX g4 to x R:=l.extBut _ _ D.a9 o3;refine HD (N2 J rfl (HD (Ss J λa q f=>?_)));have q:UX a to x y:=q;refine HD (Qc (Mm (Mm (HD (N2 q rfl (HD (Tz ?_)))))));have sz:a.objs.size=s⁻¹:=by rw[f.1,l.1,j.1,h.1,i.1]
 have L:IsZip a z ti to .ellipsis:=f.extBut _ _ D.a2.symm (l.extBut _ _ D.a4.symm (j.extBut _ _ D.a2.symm (h.extBut _ _ D.a3.symm z1)));have H:∀ c o,c≠z->c≠to->c≠j1->c≠j2->s>>c=Z o->a.get? c=Z o:=λc o p m r t e=>
  f.extBut _ _ m (l.extBut _ _ t (j.extBut _ _ m (h.extBut _ _ r (i.extBut _ _ p e))))
 have lz:z<a.objs.size:=Mr L;refine HD ?_;have z6:IsZip (a.push { cls:=.type "tuple",data:=.seq #[x,y] }) z ti to .ellipsis:=Ml _ L;refine HD (N3 z6 zyA λg7 z7 M=>(N3 z7 zyA λB z8 I=>?_));have b:∀ c o,c≠z->a.get? c=Z o->B.get? c=Z o:=λc o n e=>I.extBut _ _ n (M.extBut _ _ n (Ml _ e))
 have N:UX B a.objs.size x y:=I.extBut _ _ (Oi lz) (M.extBut _ _ (Oi lz) (Ms _ U));rw[sz] at z8 N;refine Mm ⟨_,U,Mm ?_⟩;rw[sz];show v B ⟨z8,b _ _ D.a1 (H _ _ D.a1 D.a5 D.a6 D.a7 T),⟨x,y,b _ _ D.a2 q⟩,(((i2.ext j.extBut D.a8.symm D.c2).ext l.extBut D.b1 D.c4).ext f.extBut D.a8.symm D.c2).keep (λo e=>b _ o D.a3 e) (λo e=>b _ o D.c1 e),(i4.ext f.extBut D.a9.symm D.d2).keep (λo e=>b _ o D.a4 e) (λo e=>b _ o D.d1 e)⟩ N
  λc o p m r t e=>b c o p (H c o p m r t e)
def afX (hh:A.handled=none) (D:LZ z ti to j1 j2 q1 q2) (v:Lv b1 b2 s.heap z ti to j1 j2 q1 q2 .none k xs ys) (S:xs[k]?=none\/ys[k]?=none)
  (t:∀ g,(∀ c o,c≠z->c≠to->c≠j1->c≠j2->s>>c=Z o->g.get? c=Z o)->Q none { s with heap:=g }):MI (MW prog w) A (QM ↥z) Q E s:=by
 obtain⟨j,T,⟨X,R,ho⟩,m,q⟩:=v;have H:s.TypeIs ↥z "zip":=⟨_,j,U⟩
 have a:∀ (g:Oz) (e:MF),(∀ c o,c ≠ z->c ≠ to->c ≠ j1->c ≠ j2->s>>c=Z o->g.get? c=Z o)->(∃ o,g.get? e=Z o/\o.cls=.type "StopIteration") ->
   MI (MW prog w) A (do if <- Rb ↥e (.type "StopIteration") then pure none else throw ↥e) Q E { s with heap:=g }:=λg e kk ⟨o,h1,h2⟩=>
  HD (OP ⟨o,h1,h2⟩ Tw (Mm (t g kk)))
 refine HD (OO (Nu H SC (Nt SC H F.entry_zip_next ?_ (F.args_zip_next_1 _))));change MI _ _ (field ↥z 2>>=_) _ _ s;refine HD (NS j rfl rfl (HD (NS j rfl rfl (HD (N2 T rfl (HD (HD (NS j rfl rfl (Mm (HD (Pr (HD (NS j rfl rfl (HD (N3 j zyA λg1 G h=>(HD (HD (HD (Uu ?_)))))))))))))))))));cases hx:xs[k]? with
 |none=>
  refine HD ((m.ext h.extBut D.a3 D.c1).stops hh hx λr e f p=>?_);obtain⟨y,b,d⟩:=p;have B:IsZip r z ti to .ellipsis:=f _ _ D.a3.symm G;have ne:e≠z:=λc=>by subst c;rw[B] at b;cases b;simp at d
  show N3 B zyA λL _ i=>a L e (λc o l _ n _ u=>i.extBut _ _ l (f _ _ n (h.extBut _ _ l u))) ⟨y,i.extBut _ _ ne b,d⟩
 |some x=>
  refine HD ((m.ext h.extBut D.a3 D.c1).next hx λr i2 f=>Mm ?_);have C:UX r to X R:=f.extBut _ _ D.a8 (h.extBut _ _ D.a2 ho);refine HD (N2 C rfl (HD (Ss C λL o3 i=>(HD (Qc (Mm (HD (HD (Uu (HD ((((q.ext h.extBut D.a4 D.d1).ext f.extBut D.b1.symm D.d3).ext i.extBut D.a9.symm D.d2).stops hh (S.resolve_left (by rw[hx];show λc=>nomatch c)) λg4 e I p=>?_)))))))))));obtain⟨y,b,d⟩:=p;have J:IsZip g4 z ti to .ellipsis:=I _ _ D.a4.symm (i.extBut _ _ D.a2.symm (f.extBut _ _ D.a3.symm G));have ne:e≠z:=λc=>by subst c;rw[J] at b;cases b;simp at d
  show N3 J zyA λg5 _ B=>a g5 e (λc o l N n M u=>B.extBut _ _ l (I _ _ M (i.extBut _ _ N (f.extBut _ _ n (h.extBut _ _ l u))))) ⟨y,B.extBut _ _ ne b,d⟩
end
def AF (K:KE)(H:Hp)(a:MF)(xs:List V):Bool->Prop
 |true=>An K H a xs
 |false=>AZ K H a xs
def HU (h:Oz)(j q:MF)(k:Nat):Bool->Prop
 |true=>h.IsListIter j q k
 |false=>h.IsTupleIter j q k
theorem HU.keep:∀ {b:Bool},HU h j q k b->(∀ o,h.get? j=Z o->g.get? j=Z o)->HU g j q k b
 |true,⟨o,e,r⟩,f=>⟨o,f o e,r⟩
 |false,⟨o,e,r⟩,f=>⟨o,f o e,r⟩
theorem HU.fields:∀ {b:Bool},HU h j q k b->∃ o vs,h.get? j=Z o/\o.data=.fields vs
 |true,⟨o,e,_,d⟩=>⟨o,_,e,d⟩
 |false,⟨o,e,_,d⟩=>⟨o,_,e,d⟩
section
variable {σ:L2.St}{H:Hp}{s:Mt}
theorem nR (I:Ag X pins σ H s):∀ {b:Bool},AF X.K H q xs b->HU s.heap j q k b->∃ a:List Mo,Ah xs a/\Ff b s.heap j q k a.toArray
 |true,h,i=>by
  obtain⟨a,c,p,_⟩:=I.list h;show⟨a,c,i,p.isList⟩
 |false,h,i=>by
  obtain⟨a,c,p,_⟩:=I.tuple h;show⟨a,c,i,p⟩
def acZ (x:Ff b h j q k its):HU h j q k b:=by
 cases b with
 |true=>show x.1
 |false=>show x.1
theorem xJ (I:Ag X pins σ H s):∀ {b:Bool},AF X.K H q xs b->AF X.K H q ys b->xs=ys
 |true,h,a=>I.list_inj h a
 |false,h,a=>I.tuple_inj h a
theorem rJ (I:Ag X pins σ H s):∀ {b:Bool},AF X.K H q xs b->∃ o a n,s>>q=Z o/\o.data=.seq a n
 |true,h=>by
  obtain⟨a,c,⟨o,n,e,_,_,d⟩,_⟩:=I.list h;show⟨o,_,n,e,d⟩
 |false,h=>by
  obtain⟨a,c,⟨o,e,_,n,d⟩,_⟩:=I.tuple h;show⟨o,_,n,e,d⟩
def iE (I:Ag X pins σ H s) (d:H T=none) (j:X.s₀.heap.objs.size <= T) (g:T ≠ X.env.locals) (i:∀ x c,X.env.cells.lookup x=Z c->c ≠ T) (f:∀ p ∈ X.pn ++ pins,p.1 ≠ T)
  (ok:At X.prog X.w (upd H T o) s.heap T o):Ag X pins σ (upd H T o) s:=by
 have J:=I.step (t':=s.toks) (d':=s.drawn) (H':=upd H T o) (ch:=[T]) (λb a=>?_) (λb o _ _ _ e _=>e) (λb o _ _ _ e _=>⟨o.slots,e⟩) (λb o a _ n=>by rw[ar (show b≠T from λz=>a (by simp[z]))];show n)
  (λb o _ e=>⟨o,e⟩) (λb k e=>by rw[ar (aI e d)];show e) (λb u w e=>by rw[ar (aI e d)];show e) (λb l e=>⟨#[],by rw[ar (aI e d),e];simp⟩) (λm h=>h) (λb u e=>?_) I.bare
 .show J
 .cases Mu.mp a;show⟨.inr j,g,i,f⟩
 .by_cases a:b=T
  .subst a;rw[ae] at e;cases e;show ok
  .rw[ar a] at e;show(I.hok b u e).stay (λ_ _ _ q=>q) (λc q=>by rw[ar (aI q d)];show q) λc k q=>by rw[ar (aI q d)];show q
end
def Jx (K:KE)(d c:Bool)(f e:MF):It:=
 ⟨λi H=>∃ b a x y,AF K H f b d/\AF K H e a c/\b[i]?=Z x/\a[i]?=Z y,
  λi H v g=>∃ x y T,(∀ b,AF K H f b d->b[i]?=Z x)/\(∀ a,AF K H e a c->a[i]?=Z y)/\H T=none/\v=↥T/\g=upd H T (.tup [x,y]),
  λi H=>∃ b a,AF K H f b d/\AF K H e a c/\(⇑b<=i\/⇑a<=i)⟩
def LF (z f d c e l j:MF)(i g:Bool)(k:Nat)(h:Oz):Prop:=IsZip h z f d .none/\UX h f ↥c ↥e/\(∃ a b,UX h d a b)/\HU h c l k i/\HU h e j k g
def abT {K:KE}{tk:Nat} (D:ti ≠ z/\to ≠ z/\j1 ≠ z/\j2 ≠ z/\ti ≠ to/\ti ≠ j1/\ti ≠ j2/\to ≠ j1/\to ≠ j2/\j1 ≠ j2) :
  GX P w K (.Tuple elts tk pos) (Jx K b1 b2 q1 q2) [z,ti,to,j1,j2] z (LF z ti to j1 j2 q1 q2 b1 b2) where
 mem:=zyA
 obj:=λi h st b f=>by
  obtain⟨h1,h2,⟨a,c,h3⟩,h4,h5⟩:=st;simp only[MA,MQ,Ob] at f;rcases f with rfl|rfl|rfl|rfl|rfl
  .show⟨_,h1,λv e=>nomatch e⟩
  .show⟨_,h2,λv e=>nomatch e⟩
  .show⟨_,h3,λv e=>nomatch e⟩
  .obtain⟨o,vs,e,d⟩:=h4.fields;show⟨o,e,λv u=>by rw[d] at u;cases u⟩
  .obtain⟨o,vs,e,d⟩:=h5.fields;show⟨o,e,λv u=>by rw[d] at u;cases u⟩
 keep:=λi h h' st k=>by
  obtain⟨h1,h2,⟨a,c,h3⟩,h4,h5⟩:=st;show⟨k z zyA _ h1,k ti zyA _ h2,⟨a,c,k to zyA _ h3⟩,h4.keep λo e=>k j1 zyA o e,h5.keep λo e=>k j2 zyA o e⟩
 item:=by
  intro X hP hw hK hc i L s σ H E I B st hg;subst hP hw hK;obtain⟨xs,ys,x,y,l,p,hx,hy⟩:=hg;obtain⟨hz,hi,⟨a,c,ho⟩,t1,t2⟩:=st;obtain⟨us,r1,s1⟩:=nR I l t1;obtain⟨vs,r2,s2⟩:=nR I p t2;obtain⟨u,eu,ru⟩:=r1.get hx;obtain⟨v,ev,rv⟩:=r2.get hy;obtain⟨d1,d2,d3,d4,d5,d6,d7,d8,d9,d10⟩:=D;have tr:∀ {q:MF}{G:List V}{b:Bool},AF X.K H q G b->∀ S∈[z,ti,to,j1,j2],(∃ o R,s>>S=Z o/\o.data=.fields R)->q≠S:=λ{q G b} hq S _ ⟨o,R,e,d⟩ n=>by
   obtain⟨N,r,nn,A,d'⟩:=rJ I hq;rw[n,e] at A;cases A;rw[d] at d';cases d'
  have zf:∃ o R,s>>z=Z o/\o.data=.fields R:=⟨_,_,hz,U⟩
  have Q:∀ {q:MF}{G:List V}{b:Bool},AF X.K H q G b->q≠to:=λ{q G b} hq n=>by
   have C:H to=none:=(B to zyA).1;cases b with
   |true=>
    obtain⟨r,_,⟨N,nn,A,cc,_,d'⟩,_⟩:=I.list hq;rw[n,ho] at A;cases A;simp at cc
   |false=>
    rcases hq with (hq|⟨N,hq⟩)|⟨N,r,nn,kk,_⟩
    .rw[n,C] at hq;cases hq
    .rw[n,C] at hq;cases hq
    .have bb:=I.mod.kin q N kk;rw[n] at bb;rcases((B to zyA).2).2.2.1 with e|e
     .show I.ok.noex to N bb e
     .show absurd (MK (Mr bb) (M1 I.ok.bsz e)) (Nq _)
  refine afW (⟨d1,d2,d3,d4,d5,d6,d7,d8,d9,d10,tr l z zyA zf,Q l,tr l j2 zyA t2.fields,tr p z zyA zf,Q p,tr p j1 zyA t1.fields⟩) ⟨hz,hi,⟨a,c,ho⟩,s1,s2⟩ (by simpa using eu) (by simpa using ev) λg M hp kk=>⟨_,U,wpAny_letOwnedTupleGo_zip M.zp λg' z' sb=>?_⟩
  have tz:s⁻¹≠z:=Oi (Mr hz);have fp0:∀ b∈[z,ti,to,j1,j2],b≠s⁻¹:=λb f n=>by
   simp only[MA,MQ,Ob] at f;rcases f with rfl|rfl|rfl|rfl|rfl
   .show tz n.symm
   .show Nq _ (n▸Mr hi)
   .show Nq _ (n▸Mr ho)
   .obtain⟨o,_,e,_⟩:=t1.fields;show Nq _ (n▸Mr e)
   .obtain⟨o,_,e,_⟩:=t2.fields;show Nq _ (n▸Mr e)
  have k2:∀ b o,b∉[z,ti,to,j1,j2]->s>>b=Z o->g'.get? b=Z o:=λb o f e=>
   sb.extBut b o (λn=>f (by simp[n])) (kk b o (λn=>f (by simp[n])) (λn=>f (by simp[n])) (λn=>f (by simp[n])) (λn=>f (by simp[n])) e)
  have J:∀ b T,H b=Z T->b∉[z,ti,to,j1,j2]:=λb T e f=>by rw[(B b f).1] at e;cases e
  have I1:Ag X L σ H { s with heap:=g' }:=by
   refine I.step (λb f=>?_) (λb o _ _ f e _=>k2 b o f e) (λb o _ _ f e _=>⟨o.slots,k2 b o f e⟩) (λ_ _ _ _ n=>n) (λb o f e=>⟨o,k2 b o f e⟩) (λ_ _ e=>e) (λ_ _ _ e=>e)
    (λb ps e=>⟨#[],by rw[e];simp⟩) (λm hm=>?_) (λb T e=>?_) I.bare
   .obtain⟨_,g1,_,g3,g4,g5⟩:=B b f;show⟨g3,g1,g4,g5⟩
   .obtain⟨o,es,ep,ho',r'⟩:=hm;show⟨o,es,ep,k2 _ o (λn=>(B _ n).2.1 U) ho',r'⟩
   .refine(I.hok b T e).stay (λc' v' t q=>k2 c' v' ?_ q) (λ_ q=>q) λ_ _ q=>q
    rcases t with rfl|t
    .show J _ _ e
    .show J _ _ t
  have hT:g'.get? s⁻¹=Z { cls:=.type "tuple",data:=.seq #[u,v] }:=sb.extBut _ _ tz hp;have fT:H s⁻¹=none:=I.hok.fresh (Mz _);have F:=I.fpOk (Mz _) fT;have I2:Ag X L σ (upd H s⁻¹ (.tup [x,y])) { s with heap:=g' }:=iE I1 fT I.sz F.2.1 F.2.2.2.2.1 F.2.2.2.2.2 ⟨(O:2<=MO),[u,v],.cons ru (.cons rv .nil),⟨_,hT,U,_,U⟩⟩;have cl:∀ {j q:MF}{b:Bool}{r:Array Mo},Ff b g j q (i+1) r->j≠z->HU g' j q (i+1) b:=λ{j q b r} x n=>(acZ x).keep λo e=>sb.extBut _ _ n e
  show⟨↥s⁻¹,_,I2,U,⟨x,y,s⁻¹,λxs' h'=>by rw[xJ I h' l];show hx,λys' h'=>by rw[xJ I h' p];show hy,fT,U,U⟩,
   ⟨z',sb.extBut _ _ d1 M.pi,(let ⟨a',S,A⟩:=M.po;⟨a',S,sb.extBut _ _ d2 A⟩),cl M.s1 d3,cl M.s2 d4⟩,λb f=>by rw[ar (fp0 b f)];show(B b f).1⟩
 done:=by
  intro X hP hw hK hc i L s σ H E I B st hg;subst hP hw hK;obtain⟨xs,ys,l,p,hl⟩:=hg;obtain⟨hz,hi,⟨a,c,ho⟩,t1,t2⟩:=st;obtain⟨us,r1,s1⟩:=nR I l t1;obtain⟨vs,r2,s2⟩:=nR I p t2;have l1:=⇑r1;have l2:=⇑r2;obtain⟨d1,d2,d3,d4,d5,d6,d7,d8,d9,d10⟩:=D;have tr:∀ {q:MF}{G:List V}{b:Bool},AF X.K H q G b->∀ S∈[z,ti,to,j1,j2],(∃ o R,s>>S=Z o/\o.data=.fields R)->q≠S:=λ{q G b} hq S _ ⟨o,R,e,d⟩ n=>by
   obtain⟨N,r,nn,A,d'⟩:=rJ I hq;rw[n,e] at A;cases A;rw[d] at d';cases d'
  have zf:∃ o R,s>>z=Z o/\o.data=.fields R:=⟨_,_,hz,U⟩
  have Q:∀ {q:MF}{G:List V}{b:Bool},AF X.K H q G b->q≠to:=λ{q G b} hq n=>by
   have C:H to=none:=(B to zyA).1;cases b with
   |true=>
    obtain⟨r,_,⟨N,nn,A,cc,_,d'⟩,_⟩:=I.list hq;rw[n,ho] at A;cases A;simp at cc
   |false=>
    rcases hq with (hq|⟨N,hq⟩)|⟨N,r,nn,kk,_⟩
    .rw[n,C] at hq;cases hq
    .rw[n,C] at hq;cases hq
    .have bb:=I.mod.kin q N kk;rw[n] at bb;rcases((B to zyA).2).2.2.1 with e|e
     .show I.ok.noex to N bb e
     .show absurd (MK (Mr bb) (M1 I.ok.bsz e)) (Nq _)
  have J:∀ b T,H b=Z T->b∉[z,ti,to,j1,j2]:=λb T e f=>by rw[(B b f).1] at e;cases e
  refine afX (I.ok.hd hc) (⟨d1,d2,d3,d4,d5,d6,d7,d8,d9,d10,tr l z zyA zf,Q l,tr l j2 zyA t2.fields,tr p z zyA zf,Q p,tr p j1 zyA t1.fields⟩) ⟨hz,hi,⟨a,c,ho⟩,s1,s2⟩ (by simp;lia) λg kk=>⟨U,?_⟩
  have k2:∀ b o,b∉[z,ti,to,j1,j2]->s>>b=Z o->g.get? b=Z o:=λb o f e=>
   kk b o (λn=>f (by simp[n])) (λn=>f (by simp[n])) (λn=>f (by simp[n])) (λn=>f (by simp[n])) e
  refine I.step (λb f=>?_) (λb o _ _ f e _=>k2 b o f e) (λb o _ _ f e _=>⟨o.slots,k2 b o f e⟩) (λ_ _ _ _ n=>n) (λb o f e=>⟨o,k2 b o f e⟩) (λ_ _ e=>e) (λ_ _ _ e=>e)
   (λb ps e=>⟨#[],by rw[e];simp⟩) (λm hm=>?_) (λb T e=>?_) I.bare
  .obtain⟨_,g1,_,g3,g4,g5⟩:=B b f;show⟨g3,g1,g4,g5⟩
  .obtain⟨o,es,ep,ho',r'⟩:=hm;show⟨o,es,ep,k2 _ o (λn=>(B _ n).2.1 U) ho',r'⟩
  .refine(I.hok b T e).stay (λc' v' t q=>k2 c' v' ?_ q) (λ_ q=>q) λ_ _ q=>q
   rcases t with rfl|t
   .show J _ _ e
   .show J _ _ t
 self:=λ_ _ _ _ _ st h=>wpAny_pyIter_zip st.1 h
def aeo:Ny "zip"=Z (.type "zip"):=zyB
def neN (h:@Ne Nat a b):@Ne MF a b:=h
def Jr (q:MF):Bool->Obj
 |true=>{ cls:=.type "list_iterator",data:=.fields #[↥q,.int 0 0] }
 |false=>{ cls:=.type "tuple_iterator",data:=.fields #[↥q,.int 0 0] }
def HV (h:Oz)(q:MF)(a:Array Mo):Bool->Prop
 |true=>h.IsList q a
 |false=>h.IsTuple q a
abbrev zA (h:Oz)(b:MF)(a:Bool):Oz:=h.push (Jr b a)
abbrev zB (h:Oz)(d c:MF)(b a:Bool):Oz:=(zA h d b).push (Jr c a)
abbrev zC (h:Oz)(b d:MF)(a c:Bool):Oz:=(zB h b d a c).push { cls:=.type "tuple",data:=.seq #[↥h.objs.size,↥(zA h b a).objs.size] }
abbrev zD (h:Oz)(d c:MF)(b a:Bool):Oz:=(zC h d c b a).push { cls:=.type "tuple",data:=.seq #[.none,.none] }
abbrev zE (h:Oz)(d c:MF)(b a:Bool):Oz:=(zD h d c b a).push { cls:=.type "zip",data:=.fields #[.none,.bool false,.bool false,↥(zB h d c b a).objs.size,↥(zC h d c b a).objs.size] }
def afN (a b:MF) (xs ys:Array Mo) (i f:Bool):Meets (OJ.«zip.__new__» ⟨[.type "zip",↥a,↥b],[]⟩)
  (λ_ R s=>HV s.heap a xs i/\HV s.heap b ys f/\R (.ok (.ret ↥(zD s.heap a b i f).objs.size)) { s with heap:=zE s.heap a b i f }):=
 .of_wp λm w A R s h=>by
  obtain⟨e,g,d,c,os⟩:=s;obtain⟨k,j,h⟩:=h;have l:=sub_zip;cases i<;>cases f
  .have k1:UT (Q7 ⟨e,g,d,c,os⟩) a xs:=k;have k2:UT (Q7 ⟨e.push { cls:=.type "tuple_iterator",data:=.fields #[↥a,.int 0 0] },g,d,c,os⟩) b ys:=Wr j _
   wp_walk using PJ k1,PJ k2
   show⟨_,U,h⟩
  .have k1:UT (Q7 ⟨e,g,d,c,os⟩) a xs:=k;have k2:VN (Q7 ⟨e.push { cls:=.type "tuple_iterator",data:=.fields #[↥a,.int 0 0] },g,d,c,os⟩) b ys:=W0 j _
   wp_walk using PJ k1,OG k2
   show⟨_,U,h⟩
  .have k1:VN (Q7 ⟨e,g,d,c,os⟩) a xs:=k;have k2:UT (Q7 ⟨e.push { cls:=.type "list_iterator",data:=.fields #[↥a,.int 0 0] },g,d,c,os⟩) b ys:=Wr j _
   wp_walk using OG k1,PJ k2
   show⟨_,U,h⟩
  .have k1:VN (Q7 ⟨e,g,d,c,os⟩) a xs:=k;have k2:VN (Q7 ⟨e.push { cls:=.type "list_iterator",data:=.fields #[↥a,.int 0 0] },g,d,c,os⟩) b ys:=W0 j _
   wp_walk using OG k1,OG k2
   show⟨_,U,h⟩
section
variable {w:Nr}{A:Nw}{E:My}{s:Mt}
def agl (r:HV s.heap q1 xs b1) (p:HV s.heap q2 ys b2)
  (d:∀ g,IsZip g (s⁻¹+4) (s⁻¹+2) (s⁻¹+3) .none->UX g (s⁻¹+2) ↥s⁻¹ ↥(s⁻¹+1) ->
   UX g (s⁻¹+3) .none .none->g.get? s⁻¹=Z (Jr q1 b1)->g.get? (s⁻¹+1)=Z (Jr q2 b2)->(∀ c o,s>>c=Z o->g.get? c=Z o)->Q ↥(s⁻¹+4) { s with heap:=g }) :
  MI (MW prog w) A (call (.type "zip") [↥q1,↥q2]) Q E s:=by
 refine callType_new F.called_zip O (F.typeCall_zip_2 _ _) (F.newCall_zip_2 _ _) (λa=>F.args_object_init_3 a _ _) F.entry_zip_new (afN q1 q2 xs ys b1 b2) ⟨r,p,?_⟩;have l:(zA s.heap q1 b1).objs.size=s⁻¹+1:=NQ ..;have k:(zB s.heap q1 q2 b1 b2).objs.size=s⁻¹+2:=zyA
 have f:(zC s.heap q1 q2 b1 b2).objs.size=s⁻¹+3:=zyA
 have j:(zD s.heap q1 q2 b1 b2).objs.size=s⁻¹+4:=zyA
 have i:∀ b q,(Jr q b).isFreed=false:=λb q=>by cases b<;>rfl
 have e:(zE s.heap q1 q2 b1 b2).get? (zD s.heap q1 q2 b1 b2).objs.size=Z _:=Ms _ U;have n:(zE s.heap q1 q2 b1 b2).get? (zC s.heap q1 q2 b1 b2).objs.size=Z _:=Ml _ (Ms _ U);have m:(zE s.heap q1 q2 b1 b2).get? (zB s.heap q1 q2 b1 b2).objs.size=Z _:=Ml _ (Ml _ (Ms _ U));have h:(zE s.heap q1 q2 b1 b2).get? (zA s.heap q1 b1).objs.size=Z (Jr q2 b2):=Ml _ (Ml _ (Ml _ (Ms _ (i _ _))));rw[k,f,j] at e;rw[l,k] at m;rw[f] at n;rw[l] at h;rw[j];show⟨⟨_,e,U⟩,d _ e m n (Ml _ (Ml _ (Ml _ (Ml _ (Ms _ (i _ _)))))) h λc o x=>Ml _ (Ml _ (Ml _ (Ml _ (Ml _ x))))⟩
end
section
variable {tg:OZ}
theorem uc (I:Ag X pins σ H s):∀ {b:Bool},AF X.K H q xs b->∃ a:List Mo,Ah xs a/\HV s.heap q a.toArray b
 |true,h=>by
  obtain⟨a,c,p,_⟩:=I.list h;show⟨a,c,p.isList⟩
 |false,h=>by
  obtain⟨a,c,p,_⟩:=I.tuple h;show⟨a,c,p⟩
def JX (K:KE)(g:TA):TI:=λf H R=>g f H λvs a=>∃ c b e d,vs=[↥c,↥b]/\(∃ i,AF K a c i e)/\(∃ h,AF K a b h d)/\R (Jx K e d c b) a
def aev (L:Gl X "zip") (B:X.mg "zip"=none) (x:PA X [a,b] ta) (G:M0 [a,b] X.env=[(false,QA a X.env),(false,QA b X.env)]<|>C') (d:M0 [b] X.env=[(false,QA b X.env)]<|>C') :
  PI X (.Tuple elts tk tpos) (.Call (.Name "zip" p) [a,b] [] pos) (JX X.K ta):=by
 refine ⟨λf s r H R I h=>Call_ (gH I L B aeo (OM (bo (x pos f s r H _ I h) λus c k=>?_) (by rw[G,d]) (by rw[d];rfl)))⟩;obtain⟨vs,M,i,A,z⟩:=k;obtain⟨qa,qb,b1,b2,rfl,⟨xs,C⟩,⟨ys,y⟩,q⟩:=z;obtain⟨u,v,rfl,Q,N⟩:=j9 A;cases Q;cases N;obtain⟨D,_,T⟩:=uc i C;obtain⟨t,_,F⟩:=uc i y;refine agl T F λg l o S J E kk=>wpAny_pyIter_zip l ?_
 have n:∀ {j q:MF}{b:Bool},g.get? j=Z (Jr q b)->HU g j q 0 b:=λ{j q b} e=>by cases b<;>show⟨_,e,U,U⟩
 refine⟨c⁻¹+4,[c⁻¹+4,c⁻¹+2,c⁻¹+3,c⁻¹,c⁻¹+1],_,_,M,U,i.kept kk,
  abT ⟨neN Y,neN Y,neN Y,neN Y,neN Y,neN Y,neN Y,neN Y,neN Y,neN Y⟩,⟨l,o,⟨_,_,S⟩,n J,n E⟩,λb m=>?_,q⟩
 have le:c⁻¹<=b:=by
  simp only[MA,MQ,Ob] at m;rcases m with e|e|e|e|e<;>(rw[e];lia)
 show i.fpOk le (i.hok.fresh le)
def Hf (K:KE)(a:MF):Bool->It
 |true=>Ka K a
 |false=>Kw K a
inductive Mb (K:KE)(x:V)(H:Hp)(R:It->Hp->Prop):Prop
 |mk (a:MF) (b:Bool) (_:x=↥a) (_:∃ xs,AF K H a xs b) (_:R (Hf K a b) H)
def Jm (K:KE)(c:TE):TI:=λa H R=>c a H λx b=>Mb K x b R
def ae0 (y:PE X l tl):PI X tg l (Jm X.K tl):=by
 refine ⟨λd s n H R I h=>bo (y d s n H _ I h) λv g i=>?_⟩;obtain⟨x,j,f,r,p⟩:=i;obtain⟨a,b,e,⟨A,hq⟩,q⟩:=p;subst e;cases r;obtain⟨t,z,k⟩:=uc f hq;have m:∀ c∈[g⁻¹],Dq X d j c:=λc u=>by
  cases Mu.mp u;show f.fpOk (Mz _) (f.hok.fresh (Mz _))
 cases b with
 |true=>show OG k ⟨g⁻¹,[g⁻¹],_,_,j,U,f.kept λb o e=>Ml _ e,zM a _,⟨_,Ms _ U,U,U⟩,m,q⟩
 |false=>show PJ k ⟨g⁻¹,[g⁻¹],_,_,j,U,f.kept λb o e=>Ml _ e,wJ a _,⟨_,Ms _ U,U,U⟩,m,q⟩
end
theorem rB (K:KE)(a:String):∀ bs:List String,VC K (.type a) (bs.map OW)=EG a bs
 |[]=>rfl
 |b::r=>by
  change(match Ov K (.type a) (.type b) with|some true=>Z true|some false=>VC K (.type a) (r.map OW)|none=>none)=_;rw[uD,rB K a r];rfl
def Jd (K:KE):List V->Hp->VK->Prop:=λd H Q=>∃ x T p c a b,d=[x,↥p]/\Ty K H x T/\H p=Z (.tup [.ty c,.ty a])/\EG T [c,a]=Z b/\Q (.bl b) H
def agF (I:Ag X pins σ H s) (f:Ao x u) (ty:Dc X.K H x t) (i:s>>tp=Z ⟨.type "tuple",dd,.seq its.toArray nn,sl⟩) (e:VC X.K t its=Z b) (h:∀ d,Q (.bool b) { s with toks:=d }) :
  MI (MW X.prog X.w) A (call (.builtin "isinstance") [u,↥tp]) Q E s:=by
 obtain⟨g,a,b,c⟩:=acs I f ty;show PySem.W.kia_tup a I.kIn b i e c h
def yV:AI X (.builtin "isinstance") (Jd X.K):=by intro c s B H G E Q I r h;obtain⟨x,T,p,f,d,b,rfl,ty,m,e,q⟩:=h;obtain⟨u,v,rfl,o,t⟩:=j9 r;cases(show v=MT p from t);obtain⟨_,k,j,⟨F,C,A,D⟩,y,g,n,a⟩:=I.hok p _ m;obtain⟨u1,u2,rfl,i,z⟩:=j9 j;cases(show u1=OW f from i);cases(show u2=OW d from z);simp only at g a;subst g a;show agF I o ty y (rB X.K T [f,d]\e) λl=>⟨.bl b,H,I.tok l,U,q⟩
def aaj (bs:List Bool):(NG ⇑bs).all (λi=>(bs[i]?).getD true)=bs.all id:=by
 rw[Bool.eq_iff_iff,NE,NE];constructor
 .intro h b c;obtain⟨i,a,rfl⟩:=N5 c;have:=h i (Od.mpr a)
  simpa [a] using this
 .intro h i a;have a:=Od.mp a
  simpa [a] using h bs[i] (Oy a)
def aaw (B:X.calm=true):AI X (.builtin "all") (λxs H Q=>∃ (p:MF) (bs:List Bool),xs=[↥p]/\An X.K H p (bs.map V.bl)/\Q (.bl (bs.all id)) H):=by
 intro a s m H xs J Q I r h;obtain⟨p,bs,rfl,z,q⟩:=h;obtain⟨u,rfl,C⟩:=fV r;cases C;obtain⟨c,k,d,G⟩:=I.list z;have l:=⇑k;rw[Mq] at l;have lt:p<s⁻¹:=by
  obtain⟨o,e,_⟩:=d.isList;show Mr e
 refine call_all_walk (OG d.isList (⟨s⁻¹,_,_,_,_,_,λi=>(bs[i]?).getD true,U,WJ (show X.A.in1.handled=none from I.ok.hd B) _ p (MH lt) c.toArray,⟨⟨_,Ms _ U,U,U⟩,d.isList.push _⟩,λi v E L F g hq=>?_,λn y D=>?_⟩))
 .have j:i<⇑bs:=by
   have:=(Ni.mp g).1;rw[MJ] at this;lia
  obtain⟨w,t,f⟩:=k.get (i:=i) (x:=.bl bs[i]) (by simp[j]);have:c[i]?=Z v:=by simpa using g
  rw[t] at this;rw[(Mn this).symm.trans f];refine NV ?_;have e:(bs[i]?).getD true=bs[i]:=by simp[j]
  show e▸hq
 .have f:Ag X a m H { s with heap:=n,toks:=y }:=I.kept λb o e=>D b o (by simp;show MH (Mr e)) (Ml _ e)
  refine⟨.bl _,H,f,?_,q⟩;change Ra _=Ra _;rw[<- aaj,MJ,<- l]
def aeu {x:Int}(h:Sm 60 x):-1152921504606846976<x/\x<1152921504606846976:=by
 have a:(2:Nat)^60=1152921504606846976:=O
 unfold Sm at h;rw[a] at h;lia
def yY (T:X.calm=true):AI X (.builtin "sum") (λxs H Q=>∃ (p:MF) (a b c:Int),xs=[↥p]/\An X.K H p [↑a,↑b,↑c]/\Sm 60 a/\Sm 60 b/\Sm 60 c/\Q ↑(a+b+c) H):=by
 intro g s F H xs us Q I r h;obtain⟨p,a,b,c,rfl,S,E,B,z,q⟩:=h;obtain⟨u,rfl,ru⟩:=fV r;cases ru;obtain⟨l,f,k,hz⟩:=I.list S;obtain⟨u1,u2,m,rfl,⟨C,rfl⟩,⟨x,rfl⟩,⟨D,rfl⟩⟩:∃ u1 u2 m,l=[u1,u2,m]/\Ao ↑a u1/\Ao ↑b u2/\Ao ↑c m:=by
  cases f with
  |cons J f=>
   cases f with
   |cons N f=>
    cases f with
    |cons L f=>
     cases f;show⟨_,_,_,U,J,N,L⟩
 have lt:p<s⁻¹:=by
  obtain⟨o,e,_⟩:=k.isList;show Mr e
 obtain⟨a1,a2⟩:=aeu E;obtain⟨b1,b2⟩:=aeu B;obtain⟨c1,c2⟩:=aeu z;clear E B z;refine call_sum_walk (OG k.isList ?_);refine⟨s⁻¹,_,_,_,_,_,λi=>if i=0 then a else if i=1 then b else c,U,WJ (show X.A.in1.handled=none from I.ok.hd T) _ p (MH lt) [.int a C,.int b x,.int c D].toArray,
  ⟨⟨_,Ms _ U,U,U⟩,k.isList.push _⟩,λb y=>?_,λi v d=>?_,λj t=>?_,λG R M kk=>?_⟩
 .change b<(s.heap.push _).objs.size;rw[NQ];simp only[MA,MQ,Ob] at y;rcases y with rfl|rfl
  .show N_ _
  .show NB lt
 .match i,d with
  |0,d=>show⟨C,(Mn d).symm⟩
  |1,d=>show⟨x,(Mn d).symm⟩
  |2,d=>show⟨D,(Mn d).symm⟩
  |n+3,d=>simp at d
 .match j,t with
  |0,_=>simp only[preSum,InLong];simp;lia
  |1,_=>simp only[preSum,InLong];simp;lia
  |2,_=>simp only[preSum,InLong];simp;lia
  |n+3,t=>simp at t;lia
 .have J:Ag X g F H { s with heap:=G,toks:=R }:=I.kept λb o e=>kk b o (by simp;show MH (Mr e)) (Ml _ e)
  refine⟨↑(a+b+c),H,J,⟨M,?_⟩,q⟩
  congr 1
  change preSum _ 3=_;simp[preSum]
section
variable {pos:Pos}
def KD (K:KE)(n:Nat)(t:I9):TG:=λv c H Q=>∃ a b,v=↥a/\(An K H a b\/AZ K H a b)/\⇑b=n/\t b c H Q
def ae3 (q:X.calm=true) (h:IJ X es t)
  (p:⇑(Pq es X.env)=n<|>C')(d:(Pq es X.env).findIdx? (·.1)=none<|>C'):PG X (.Tuple es k pos) (KD X.K n t):=by
 refine⟨λc s i H v u Q I r hw=>?_⟩;obtain⟨a,y,z,hq,x,hw⟩:=hw;subst z;cases r;rcases hq with hq|hq
 .obtain⟨f,g,A,C⟩:=I.list hq;rw[assign_Tuple];refine HD (Pf ?_);unfold unpack;have B:⇑(Pq es X.env)=f.toArray.size:=by rw[p,<- x,⇑g,MJ]
  rw[B,d];refine HD (Nv (PySem.W.kun_itemsOf (I.ok.hd q) A.isList λj l=>?_));have m:Ag X c i H { s with heap:=j }:=I.kept λb o e=>l b o (MH (Mr e)) e
  show h c _ i H y _ Q m (by simpa using g) hw
 .obtain⟨f,g,A,C⟩:=I.tuple hq;refine Tf (I.ok.hd q) A (by simp[p,<- x,⇑g]) d λj l=>?_
  have m:Ag X c i H { s with heap:=j }:=I.kept λb o e=>l b o (MH (Mr e)) e
  show h c _ i H y _ Q m (by simpa using g) hw
end
abbrev rD (q:Rat):NM:=F8 q.num (q.den:Int)
def h_ (q:Rat):q=(q.num:Rat)/((q.den:Int):Rat):=by rw[<- Rat.divInt_eq_div,Rat.num_divInt_den]
def yA {t b:Int}(d:b≠0):Hw t b ((t:Rat)/(b:Rat)).num (((t:Rat)/(b:Rat)).den:Int):=by
 have hq:=h_ ((t:Rat)/(b:Rat));have j:0<((t:Rat)/(b:Rat)).den:=((t:Rat)/(b:Rat)).den_pos;have g:=((t:Rat)/(b:Rat)).reduced;generalize i:(t:Rat)/(b:Rat)=q at *;refine⟨Y,g,?_⟩;have h:(b:Rat)≠0:=by
  intro z;show d (by exact_mod_cast z)
 have c:((q.den:Int):Rat)≠0:=by
  intro z;have:q.den=0:=by exact_mod_cast z
  lia
 have:(q.num:Rat)*(b:Rat)=(t:Rat)*((q.den:Int):Rat):=by
  generalize (q.num:Rat)=x at *;generalize ((q.den:Int):Rat)=y at *;generalize (b:Rat)=a at *;generalize (t:Rat)=f at *;have e:f/a=x/y:=i\hq;grind
 exact_mod_cast this
def yz {t b n d:Int}(a:b≠0)(h:Hw t b n d):n=((t:Rat)/(b:Rat)).num/\d=(((t:Rat)/(b:Rat)).den:Int):=kr a h (yA a)
abbrev Bq (k:Nat)(q:Rat):Prop:=Ok k q.num (q.den:Int)
def dE {t b:Int}(a:b≠0)(c:Sm k t)(d:Sm k b):Bq k ((t:Rat)/(b:Rat)):=(yA a).ok a c d
def i6 (q:Rat):((q.den:Int):Rat)≠0:=by
 intro z;have:q.den=0:=by exact_mod_cast z
 have:=q.den_pos;lia
def sK (p q:Rat):p+q=((p.num*(q.den:Int)+q.num*(p.den:Int):Int):Rat)/(((p.den:Int)*(q.den:Int):Int):Rat):=by have a:=i6 p;have c:=i6 q;have b:=h_ p;have d:=h_ q;rw[Oa,MU,MU,MU];grind
def t_ (p q:Rat):p*q=((p.num*q.num:Int):Rat)/(((p.den:Int)*(q.den:Int):Int):Rat):=by have a:=i6 p;have c:=i6 q;have b:=h_ p;have d:=h_ q;rw[MU,MU];grind
def pA (p q:Rat):(p.den:Int)*(q.den:Int)≠0:=by have:=p.den_pos;have:=q.den_pos;show OK Y Y
def Bq.add {p q:Rat}(a:Bq j p)(hq:Bq k q):Bq (j+k+1) (p+q):=by rw[Bq,sK];refine dE (pA p q) (Sm.add (a.sn.mul hq.sd) ((hq.sn.mul a.sd).mono Y)) ((a.sd.mul hq.sd).mono Y)
def Bq.mul {p q:Rat}(a:Bq j p)(hq:Bq k q):Bq (j+k) (p*q):=by rw[Bq,t_];show dE (pA p q) (a.sn.mul hq.sn) (a.sd.mul hq.sd)
def bq0:Bq 1 0:=⟨O,O,by unfold Sm;decide,by unfold Sm;decide⟩
def Cs (K:KE)(H:Hp)(q:Rat)(Q:VK):Prop:=∀ v a,Aa H a->Ad K a (rD q) v->Q v a
def Cs.sh {K:KE}{t b:Int}(c:b≠0)(h:Cs K H ((t:Rat)/(b:Rat)) Q):Sh K H t b Q:=λv n d e s g f=>by
 obtain⟨a,i⟩:=yz c f;subst a i;show h v e s g
def Cs.add {K:KE}{p q:Rat}(h:Cs K H (p+q) Q):Sh K H (p.num*(q.den:Int)+q.num*(p.den:Int)) ((p.den:Int)*(q.den:Int)) Q:=by rw[sK] at h;show Cs.sh (pA p q) h
def Cs.mul {K:KE}{p q:Rat}(h:Cs K H (p*q) Q):Sh K H (p.num*q.num) ((p.den:Int)*(q.den:Int)) Q:=by rw[t_] at h;show Cs.sh (pA p q) h
def abC (p q:Rat):QH (rD p) (rD q)=decide (p=q):=by
 rw[aau]
 by_cases h:p=q
 .subst h;simp
 .rw[Na h]
  by_cases a:p.num=q.num
  .by_cases b:(p.den:Int)=(q.den:Int)
   .show absurd (Rat.ext a Y) h
   .rw[Na b,RV]
  .rw[Na a,Pg]
def cM {i:Int}(b:Gl X x)(a:∃ t,X.mg x=Z (.int i t))(c:(x==("__debug__":Str))=false<|>Cb):PE X (.Name x pos) (tC ↑i):=by obtain⟨t,e⟩:=a;show adA b e ⟨t,U⟩ c
theorem Af.get {K:KE}:∀ {ds:List NM}{xs:List V}{i:Nat}{x:V},Af K H ds xs->xs[i]?=Z x->∃ d,ds[i]?=Z d/\Ad K H d x
 |_,_,_,_,.nil,e=>by simp at e
 |_,_,0,_,.cons h _,e=>by simp at e;subst e;show⟨_,U,h⟩
 |_,_,i+1,x,.cons _ q,e=>by
  obtain⟨d,a,b⟩:=Af.get q (by simpa using e);show⟨d,by simpa using a,b⟩
theorem Af.snoc {K:KE}{H:Hp}{d:NM}{x:V}:∀ {ds:List NM}{xs:List V},Af K H ds xs->Ad K H d x->Af K H (ds++[d]) (xs++[x])
 |[],_,h,k=>by cases h;show .cons k .nil
 |_::_,_,h,k=>by
  cases h with
  |cons a q=>show .cons a (Af.snoc q k)
theorem AF.same {K:KE}(e:Aa H H'):∀ {b:Bool},AF K H a xs b->AF K H' a xs b
 |true,h=>e.seq h
 |false,h=>acx e h
def eM (h:n<=1000):n<=MO:=N4 (fu h)
def bD {α:Type}{l:List α}{i:Nat}{x:α}(h:l[i]?=Z x):l.take (i+1)=l.take i++[x]:=by rw[List.take_succ,h];rfl
section
variable {K:KE}{g:TG}{tt:TT}{te:TE}{σ0:L2.St}{Fin:SS}{H1:Hp}
def Cc (g:TG)(tt:TT)(te:TE)(σ0:L2.St)(x:V)(H:Hp)(a:V->Hp->Prop):Prop:=∀ R:VK,(∀ y d,a y d->R y d)->∀ S:Hp->Prop,g x σ0 H λc f=>tt c f λb e=>if b=true then te c e R else S e
def itq {a:MF}{b:Bool}{xs:List V}{H:Hp}{i:Nat}(h:AF K H a xs b):(Hf K a b).stop ⇑xs H/\(i<⇑xs->(Hf K a b).go i H)/\∀ x c,(Hf K a b).yld i H x c->c=H/\xs[i]?=Z x:=by cases b<;>show⟨⟨xs,h,Mz _⟩,λl=>⟨xs,xs[i],h,by simp[l]⟩,λx c y=>⟨y.1,y.2 xs h⟩⟩
abbrev _root_.X1:=Nat->List V->Hp->Prop
def uk {J:It}{j:TB}{n:Nat} (c:X1) (q:c 0 [] H1) (l:∀ ys H,c n ys H->J.stop n H/\⇑ys <= MO/\Fin ys H)
  (he:∀ i ys H,i<n->c i ys H->J.go i H/\∀ x f,J.yld i H x f->∀ (R:Hp->List V->Prop) (S:Hp->Prop),(∀ H' d,c (i+1) d H'->R H' d)->(∀ H',c (i+1) ys H'->S H')->g x σ0 f λe k=>tt e k λb h=>if b=true then j e h ys λ_=>R else S h):ER J g tt j σ0 Fin H1:=by
 refine⟨λi m ys H=>m=n-i/\i<=n/\c i ys H,⟨n,U,N7 _,q⟩,?_⟩;rintro i m ys H ⟨rfl,r,p⟩
 by_cases a:i<n
 .obtain⟨o,st⟩:=he i ys H a p;show .inr ⟨o,λx f y=>st x f y _ _ (λ_ _ p=>⟨n-(i+1),Y,U,a,p⟩) λ_ p=>⟨n-(i+1),Y,U,a,p⟩⟩
 .obtain rfl:i=n:=Y
  show .inl (l ys H p)
def nh {J:It}{n:Nat} (a:X1) (q:a 0 [] H1) (o:n <= 1000) (f:∀ i ys H,i <= n->a i ys H->⇑ys <= i) (j:∀ ys H,a n ys H->J.stop n H/\Fin ys H)
  (he:∀ i ys H,i<n->a i ys H->J.go i H/\∀ x d,J.yld i H x d->∀ (R:VK) (S:Hp->Prop),(∀ y H',a (i+1) (ys++[y]) H'->R y H')->(∀ H',a (i+1) ys H'->S H')->g x σ0 d λc m=>tt c m λb h=>if b=true then te c h R else S h):Bi J g tt te σ0 Fin H1:=by
 refine uk a q (λys H p=>⟨(j ys H p).1,eM (M1 (f n ys H (Mz _) p) o),(j ys H p).2⟩) λi ys H e p=>⟨(he i ys H e p).1,λx d y R S k l=>?_⟩
 simpa only [G8,fu (M1 (f i ys H (N4 e) p) Y),true_and] using (he i ys H e p).2 x d y (λv H'=>R H' (ys++[v])) S (λv H'=>k H' _) l
def dU (e:X1) (s:e 0 [] H1) (r:⇑xs <= 1000) (d:∀ i ys H,i <= ⇑xs->e i ys H->AF K H a xs b/\⇑ys <= i)
  (he:∀ i x ys H,xs[i]?=Z x->e i ys H->∀ (R:V->Hp->Prop) (S:Hp->Prop),(∀ y H',e (i+1) (ys++[y]) H'->R y H')->(∀ H',e (i+1) ys H'->S H')->g x σ0 H λf n=>tt f n λc j=>if c=true then te f j R else S j)
  (o:∀ ys H,e ⇑xs ys H->Fin ys H):Bi (Hf K a b) g tt te σ0 Fin H1:=by
 refine nh e s r (λi ys H h p=>(d i ys H h p).2) (λys H p=>⟨(itq (i:=0) (d _ ys H (Mz _) p).1).1,o ys H p⟩) λi ys H h p=>?_
 obtain⟨_,k1,k2⟩:=itq (d i ys H (N4 h) p).1;refine⟨k1 h,λx q y R S k l=>?_⟩;obtain⟨rfl,m⟩:=k2 x q y;show he i x ys _ m p R S k l
def aW (c:AF K H1 a xs b) (h:Af K H1 ds xs) (s:⇑es=⇑ds) (u:⇑ds <= 1000)
  (he:∀ (i:Nat) (d e:NM) (x:V) (H:Hp),ds[i]?=Z d->es[i]?=Z e->Aa H1 H->Ad K H d x->Cc g tt te σ0 x H λy H'=>Aa H H'/\Ad K H' e y)
  (r:∀ ys H,Aa H1 H->Af K H es ys->Fin ys H):Bi (Hf K a b) g tt te σ0 Fin H1:=by
 have m:=⇑h;refine dU (λi ys H=>Aa H1 H/\Af K H (es.take i) ys) ⟨Aa.refl _,.nil⟩ Y (λi ys H t p=>⟨AF.same p.1 c,by rw[<- ⇑p.2,Nl];lia⟩) (λi x ys H n p R S o _=>?_) λys H p=>r ys H p.1 (by have:=p.2;rwa [Nh Y] at this)
 obtain⟨d,j,k⟩:=h.get n;have f:=MC (l:=es) (i:=i) (by have:=(Mp.mp n).1;lia);show he i d _ x H j f p.1 (Ad.same p.1 k) R (λy H' q=>o y H' ⟨p.1\q.1,by rw[bD f];show(Af.same q.1 p.2).snoc q.2⟩) S
def jk {a:MF}{b:Bool}{xs:List V}{ds:List NM}{f:NM->NM} (c:AF K H1 a xs b) (j:Af K H1 ds xs) (n:⇑ds <= 1000)
  (he:∀ (i:Nat) (d:NM) (x:V) (H:Hp),ds[i]?=Z d->Aa H1 H->Ad K H d x->Cc g tt te σ0 x H λy H'=>Aa H H'/\Ad K H' (f d) y)
  (m:∀ ys H,Aa H1 H->Af K H (ds.map f) ys->Fin ys H):Bi (Hf K a b) g tt te σ0 Fin H1:=
 aW c j zyA n (λi d e x H h k s l=>by rw[Mw,h] at k;cases k;show he i d x H h s l) m
def yC (c:AF K H1 a xs b) (f:Af K H1 ds xs) (u:⇑ds <= 1000)
  (he:∀ (i:Nat) (d:NM) (x:V) (H:Hp),ds[i]?=Z d->Aa H1 H->Ad K H d x->∀ (l:VK) (S:Hp->Prop),(∀ H',Aa H H'->S H')->g x σ0 H λe s=>tt e s λb m=>if b=true then te e m l else S m)
  (t:∀ H,Aa H1 H->Fin [] H):Bi (Hf K a b) g tt te σ0 Fin H1:=by
 have n:=⇑f;refine dU (λi h H=>Aa H1 H/\h=[]) ⟨Aa.refl _,U⟩ Y (λi h H _ p=>⟨AF.same p.1 c,by rw[p.2];show N7 _⟩) (λi x h H r p R S _ q=>?_) λh H p=>p.2▸t H p.1
 obtain⟨d,j,k⟩:=f.get r;show he i d x H j p.1 (Ad.same p.1 k) R S λH' o=>q H' ⟨p.1\o,p.2⟩
def mD {lo:Int} (a:X1) (l:a 0 [] H1) (k:n <= 1000) (f:∀ i ys H,i <= n->a i ys H->⇑ys <= i)
  (he:∀ i ys H,i<n->a i ys H->∀ (R:V->Hp->Prop) (S:Hp->Prop),(∀ y H',a (i+1) (ys++[y]) H'->R y H')->(∀ H',a (i+1) ys H'->S H')->g ↑(lo+i) σ0 H λb h=>tt b h λc d=>if c=true then te b d R else S d)
  (j:∀ ys H,a n ys H->Fin ys H):Bi (IA lo n) g tt te σ0 Fin H1:=
 nh a l k f (λys H p=>⟨Mz _,j ys H p⟩) λi ys H e p=>⟨e,λx m y=>by
  obtain⟨rfl,rfl⟩:=y;show he i ys _ e p⟩
def kH {lo:Int} (a:X1) (h:a 0 [] H1) (b:n <= 1000) (e:∀ i ys H,i <= n->a i ys H->⇑ys <= i)
  (he:∀ i ys H,i<n->a i ys H->Cc g tt te σ0 ↑(lo+i) H λy H'=>a (i+1) (ys++[y]) H')(d:∀ ys H,a n ys H->Fin ys H):Bi (IA lo n) g tt te σ0 Fin H1:=
 mD a h b e (λi ys H c p R S f _=>he i ys H c p R f S) d
def q_ {k j:MF}{l h:Bool}{xs ys:List V} (b:X1) (s:b 0 [] H1) (f:⇑ys <= ⇑xs) (r:⇑ys <= 1000) (a:∀ i zs H,i <= ⇑ys->b i zs H->AF K H k xs l/\AF K H j ys h/\⇑zs <= i)
  (he:∀ (i:Nat) (x y:V) (zs:List V) (T:MF) (H:Hp),xs[i]?=Z x->ys[i]?=Z y->b i zs H->H T=none->Cc g tt te σ0 ↥T (upd H T (.tup [x,y])) λz H'=>b (i+1) (zs++[z]) H')
  (q:∀ zs H,b ⇑ys zs H->Fin zs H):Bi (Jx K l h k j) g tt te σ0 Fin H1:=by
 refine nh b s r (λi zs H c p=>(a i zs H c p).2.2) (λzs H p=>?_) λi zs H c p=>?_
 .obtain⟨e,d,_⟩:=a _ zs H (Mz _) p;show⟨⟨xs,ys,e,d,.inr (Mz _)⟩,q zs H p⟩
 .obtain⟨e,d,_⟩:=a i zs H (N4 c) p;refine⟨⟨xs,ys,xs[i],ys[i],e,d,by simp[MK c f],by simp[c]⟩,λv t n R S m _=>?_⟩;obtain⟨x,y,T,k1,k2,o,rfl,rfl⟩:=n;show he i x y zs T H (k1 xs e) (k2 ys d) p o R m S
def iD (F:AF K H1 a1 xs b1) (D:AF K H1 a2 ys b2) (b:Af K H1 ds xs) (c:Af K H1 es ys) (E:⇑es <= ⇑ds) (B:⇑fs=⇑es) (I:⇑ds <= 1000)
  (he:∀ (i:Nat) (d e f:NM) (x y:V) (T:MF) (H:Hp),ds[i]?=Z d->es[i]?=Z e->fs[i]?=Z f->Aa H1 H->Ad K H d x->Ad K H e y->H T=Z (.tup [x,y])->Cc g tt te σ0 ↥T H λz H'=>Aa H H'/\Ad K H' f z)
  (C:∀ zs H,Aa H1 H->Af K H fs zs->Fin zs H):Bi (Jx K b1 b2 a1 a2) g tt te σ0 Fin H1:=by
 have r:=⇑b;have m:=⇑c;refine q_ (λi zs H=>Aa H1 H/\Af K H (fs.take i) zs) ⟨Aa.refl _,.nil⟩ Y Y (λi zs H G p=>⟨AF.same p.1 F,AF.same p.1 D,by rw[<- ⇑p.2,Nl];lia⟩) (λi x y zs T H v t p A R u S=>?_) λzs H p=>C zs H p.1 (by have:=p.2;rwa [Nh Y] at this)
 obtain⟨d,n,o⟩:=b.get v;obtain⟨e,a,k⟩:=c.get t;have h:=MC (l:=fs) (i:=i) (by have:=(Mp.mp a).1;lia);have s:Aa H (upd H T (.tup [x,y])):=Aa.new A;have j:=p.1\s;show he i d e _ x y T _ n a h j (Ad.same j o) (Ad.same j k) ae R (λz H' q=>u z H' ⟨j\q.1,by rw[bD h];show(Af.same q.1 (Af.same s p.2)).snoc q.2⟩) S
def dX (l:AF K H1 a1 xs b1) (j:AF K H1 a2 ys b2) (a:Af K H1 ds xs) (b:Af K H1 es ys) (k:⇑ds=⇑es) (c:⇑fs=⇑ds) (m:⇑ds <= 1000)
  (he:∀ (i:Nat) (d e f:NM) (x y:V) (T:MF) (H:Hp),ds[i]?=Z d->es[i]?=Z e->fs[i]?=Z f->Aa H1 H->Ad K H d x->Ad K H e y->H T=Z (.tup [x,y])->Cc g tt te σ0 ↥T H λz H'=>Aa H H'/\Ad K H' f z)
  (h:∀ zs H,Aa H1 H->Af K H fs zs->Fin zs H):Bi (Jx K b1 b2 a1 a2) g tt te σ0 Fin H1:=iD l j a b Y Y m he h
theorem c6:∀ {bs:List Bool}{ys:List V},Af K H (bs.map Qt) ys->ys=bs.map V.bl
 |[],_,h=>by cases h;rfl
 |b::bs,_,h=>by
  cases h with
  |cons h q=>
   cases h;rw[c6 q];rfl
end
def GW (b:Bool)(ds:List NM):NM:=if b=true then .list ds else .tuple ds
structure R3 where
 a:Int
 b:Int
 c:Int
noncomputable def R3.ds (r:R3):List NM:=[↑r.a,↑r.b,↑r.c]
noncomputable def R3.vs (r:R3):List V:=[↑r.a,↑r.b,↑r.c]
def AE (k:Bool)(r:R3):NM:=GW k r.ds
structure R3.In (r:R3)(m:Int):Prop where
 a1:-m<=r.a
 a2:r.a<=m
 b1:-m<=r.b
 b2:r.b<=m
 c1:-m<=r.c
 c2:r.c<=m
structure S9 where
 k:Bool
 k1:Bool
 k2:Bool
 k3:Bool
 x:R3
 y:R3
 z:R3
noncomputable def S9.rows (s:S9):List NM:=[AE s.k1 s.x,AE s.k2 s.y,AE s.k3 s.z]
noncomputable def S9.d (s:S9):NM:=GW s.k s.rows
structure S9.In (s:S9):Prop where
 x:s.x.In 4000
 y:s.y.In 4000
 z:s.z.In 4000
def ay {K:KE}(h:Ad K H (GW b ds) v):∃ a xs,v=↥a/\AF K H a xs b/\Af K H ds xs:=by
 cases b with
 |true=>
  cases h with
  |lst h q=>show⟨_,_,U,.inl h,q⟩
 |false=>
  cases h with
  |tup h q=>show⟨_,_,U,AZ.of h,q⟩
def dY {K:KE}{H:Hp}{r:R3}{xs:List V}(h:Af K H r.ds xs):xs=r.vs:=by
 cases h with
 |cons a h=>
  cases a;cases h with
  |cons c h=>
   cases c;cases h with
   |cons b h=>
    cases b;cases h;rfl
def cN {K:KE}(h:Ad K H (AE b r) v):∃ a,v=↥a/\AF K H a r.vs b:=by obtain⟨a,d,rfl,hq,c⟩:=ay h;cases dY c;show⟨a,U,hq⟩
def b_ {K:KE}(h:Af K H [d1,d2,d3] xs):∃ x y z,xs=[x,y,z]/\Ad K H d1 x/\Ad K H d2 y/\Ad K H d3 z:=by
 cases h with
 |cons a h=>
  cases h with
  |cons c h=>
   cases h with
   |cons b h=>
    cases h;show⟨_,_,_,U,a,c,b⟩
def fE {K:KE}{i:Nat}(h:AF K H a xs b)(e:xs[i]?=Z v)(q:Q v H):IE K ↥a ↑(i:Int) H Q:=by
 cases b with
 |true=>show .inl ⟨a,xs,_,v,U,U,h,jG e,q⟩
 |false=>show .inr (.inl ⟨a,xs,_,v,U,U,h,jG e,q⟩)
def ic {K:KE}(h:AF K H a xs b):An K H a xs\/AZ K H a xs:=by
 cases b with
 |true=>show .inl h
 |false=>show .inr h
def aaU {K:KE}(h:Ad K H (GW b ds) v):∃ T,Ty K H v T/\EG T ["list","tuple"]=Z true:=by
 cases b with
 |true=>show⟨"list",h.ty,zyB⟩
 |false=>show⟨"tuple",h.ty,zyB⟩
def KU (p q r:Rat):NM:=.tuple [rD p,rD q,rD r]
def gO {x:Int}(b:-4000<=x)(a:x<=4000):Sm 13 x:=by unfold Sm;lia
noncomputable def S9.det (s:S9):Int:=s.x.a*(s.y.b*s.z.c-s.y.c*s.z.b)-s.x.b*(s.y.a*s.z.c-s.y.c*s.z.a)+s.x.c*(s.y.a*s.z.b-s.y.b*s.z.a)
noncomputable def cut (T:List MF)(H:Hp):Hp:=λb=>if b∈T then none else H b
def cP:Aa (cut T H) H:=λb o e=>by
 unfold cut at e
 split at e
 .cases e
 .show e
def dO (h:b∉T):cut T H b=H b:=MZ h
def Mv.cut (h:Mv T H H'):Aa (cut T H) (cut T H'):=λb o e=>by
 unfold TR.cut at e ⊢
 split at e
 .cases e
 .rename_i n
  rw[MZ n];show h b o e n
def Aa.cut (h:Aa H H'):Aa (TR.cut T H) (TR.cut T H'):=(Mv.of h).cut
def Az.not (h:Az H t r)(a:H p=none):p∉[t,r]:=λm=>by
 obtain⟨b,e⟩:=h.lists p m;rw[a] at e;cases e
def Ad.uncut {K:KE}(h:Ad K (cut T H) d v):Ad K H d v:=Ad.same cP h
def Ad.cutT {K:KE}(l:AC H T)(t:Fl d=true)(h:Ad K H d v):Ad K (cut T H) d v:=h.allT (λ_ _ h=>by rw[dO (l.not h λ_ z=>nomatch z)];show h) t
def Af.cutT {K:KE}(l:AC H T)(t:Bn ds=true)(h:Af K H ds vs):Af K (cut T H) ds vs:=h.allT (λ_ _ h=>by rw[dO (l.not h λ_ z=>nomatch z)];show h) t
def fG {K:KE}(b:Az H t r)(a:H D=none)(h:Af K (cut [t,r] H) ds ys):Ad K (cut [t,r] (upd H D (.lst ys))) (.list ds) ↥D:=by refine .lst (.inl ?_) (Af.same (Aa.cut (Aa.new a)) h);rw[dO (b.not a)];show ae
def Ad.listN {K:KE}(a:H D=none)(h:Af K H ds ys):Ad K (upd H D (.lst ys)) (.list ds) ↥D:=.lst (.inl ae) (Af.same (Aa.new a) h)
def Ad.tupN {K:KE}(a:H D=none)(h:Af K H ds ys):Ad K (upd H D (.tup ys)) (.tuple ds) ↥D:=.tup ae (Af.same (Aa.new a) h)
abbrev KL (J:It)(g:TG)(h:TS)(D:EK)(a:L2.St)(H:Hp):Prop:=∃ W:Nat->Nat->L2.St->Hp->Prop,(∃ m,W 0 m a H)/\∀ i m a H,W i m a H ->
 (J.stop i H/\D.nx a H)\/(J.go i H/\∃ N:L2.St->Hp->Prop,(∀ c b,N c b->∃ e,e<m/\W (i+1) e c b)/\∀ x b,J.yld i H x b->g x a b λd f=>h { D with nx:=N,ct:=N,bk:=D.nx } d f)
def iO {K:KE} (d:Nat->L2.St->Hp->Prop) (k:d 0 c H) (f:∀ i c H,i <= ⇑xs->d i c H->AF K H a xs b)
  (j:∀ i x c H,xs[i]?=Z x->d i c H->g x c H λe l=>tb { D with nx:=d (i+1),ct:=d (i+1),bk:=D.nx } e l)(h:∀ c H,d ⇑xs c H->D.nx c H):KL (Hf K a b) g tb D c H:=by
 cases b with
 |true=>show aa2 d k f j h
 |false=>show adV d k f j h
def adW {K:KE} (b:Nat->L2.St->Hp->Prop) (A:b 0 a H) (u:⇑xs=⇑ys) (z:∀ i a H,i <= ⇑xs->b i a H->AF K H a1 xs b1/\AF K H a2 ys b2)
  (q:∀ i x y T a H,xs[i]?=Z x->ys[i]?=Z y->b i a H->H T=none->g ↥T a (upd H T (.tup [x,y])) λj k=>tb { D with nx:=b (i+1),ct:=b (i+1),bk:=D.nx } j k)(t:∀ a H,b ⇑xs a H->D.nx a H):KL (Jx K b1 b2 a1 a2) g tb D a H:=by
 refine⟨λi m a H=>m=⇑xs-i/\i<=⇑xs/\b i a H,⟨⇑xs,zyA,N7 _,A⟩,?_⟩;rintro i m a H ⟨rfl,s,p⟩;obtain⟨h,f⟩:=z i a H s p
 by_cases d:i<⇑xs
 .have c:i<⇑ys:=Y
  refine .inr ⟨⟨xs,ys,xs[i],ys[i],h,f,by simp[d],by simp[c]⟩,b (i+1),λn l o=>⟨⇑xs-(i+1),Y,U,d,o⟩,λv l y=>?_⟩;obtain⟨x,y,T,k1,k2,r,rfl,rfl⟩:=y;show q i x y T a _ (k1 xs h) (k2 ys f) p r
 .have e:i=⇑xs:=Y
  subst e;show .inl ⟨⟨xs,ys,h,f,.inl (Mz _)⟩,t a H p⟩
section
variable {K:KE}{g:TG}{tt:TT}{te:TE}{σ0:L2.St}{Fin:SS}{H1:Hp}
def cJ {lo:Int} (l:⇑ds=n) (j:n <= 1000)
  (he:∀ (i:Nat) (d:NM) (H:Hp),ds[i]?=Z d->Aa H1 H->Cc g tt te σ0 ↑(lo+i) H λy H'=>Aa H H'/\Ad K H' d y)(h:∀ ys H,Aa H1 H->Af K H ds ys->Fin ys H):Bi (IA lo n) g tt te σ0 Fin H1:=by
 refine kH (λi ys H=>Aa H1 H/\Af K H (ds.take i) ys) ⟨Aa.refl _,.nil⟩ j (λi ys H f p=>?_) (λi ys H f p=>?_) (λys H p=>?_)
 .rw[<- ⇑p.2,Nl];lia
 .obtain⟨s,q⟩:=p;have e:ds[i]?=Z ds[i]:=by simp[show i<⇑ds by lia]
  intro R k S;refine he i ds[i] H e s R (λy H' a=>?_) S;obtain⟨b,c⟩:=a;refine k _ _ ⟨s\b,?_⟩;rw[bD e];show(Af.same b q).snoc c
 .obtain⟨s,q⟩:=p;rw[Nh Y] at q;show h ys H s q
def c8 {lo:Int}{t r:MF}{n:Nat}{Pd:NM->Prop} (o:Az H1 t r) (v:n <= 1000)
  (he:∀ (i:Nat) (H:Hp),i<n->Az H t r->Mv [t,r] H1 H->Cc g tt te σ0 ↑(lo+i) H λy H'=>Az H' t r/\Mv [t,r] H H'/\∃ d,Pd d/\Ad K (cut [t,r] H') d y)
  (j:∀ ds ys H,⇑ds=n->(∀ d∈ds,Pd d)->Az H t r->Mv [t,r] H1 H->Af K (cut [t,r] H) ds ys->Fin ys H):Bi (IA lo n) g tt te σ0 Fin H1:=by
 refine kH (λi ys H=>Az H t r/\Mv [t,r] H1 H/\∃ ds:List NM,⇑ds=i/\(∀ d∈ds,Pd d)/\Af K (cut [t,r] H) ds ys) ⟨o,Mv.refl,[],U,λ_ h=>(MQ h).elim,.nil⟩ v (λi ys H l p=>?_) (λi ys H l p=>?_) (λys H p=>?_)
 .obtain⟨_,_,ds,e,_,q⟩:=p;rw[<- ⇑q];lia
 .obtain⟨a,mv,ds,e,c,q⟩:=p;intro R x S;refine he i H l a mv R (λy H' k=>?_) S;obtain⟨f,b,d,j,s⟩:=k;refine x _ _ ⟨f,mv\b,ds++[d],by rw[MP,e];rfl,λu m=>?_,(Af.same b.cut q).snoc s⟩;rcases Nk.mp m with m|m
  .show c u m
  .cases Mu.mp m;show j
 .obtain⟨a,mv,ds,e,c,q⟩:=p;show j ds ys H e c a mv q
end
structure Q3 where
 a:Rat
 b:Rat
 c:Rat
noncomputable def Q3.ds (q:Q3):List NM:=[rD q.a,rD q.b,rD q.c]
noncomputable def Q3.col (q:Q3):NM:=.tuple q.ds
structure Q3.Bd (k:Nat)(q:Q3):Prop where
 a:Bq k q.a
 b:Bq k q.b
 c:Bq k q.c
def Q3.Bd.mono {j k:Nat}{q:Q3}(h:q.Bd j)(l:j<=k):q.Bd k:=⟨h.a.mono l,h.b.mono l,h.c.mono l⟩
def Gy (p q:Q3):Rat:=0+p.a*q.a+p.b*q.b+p.c*q.c
def v_ (d:p.Bd j)(hq:q.Bd k):Bq (3*(j+k)+4) (Gy p q):=
 Ok.mono (Bq.add (Bq.add (Bq.add bq0 (Bq.mul d.a hq.a)) (Bq.mul d.b hq.b)) (Bq.mul d.c hq.c)) Y
structure M9 where
 x:Q3
 y:Q3
 z:Q3
noncomputable def M9.d (m:M9):NM:=.list [.list m.x.ds,.list m.y.ds,.list m.z.ds]
noncomputable def M9.led (m:M9)(c:Q3):Q3:=⟨Gy m.x c,Gy m.y c,Gy m.z c⟩
structure M9.Bd (k:Nat)(m:M9):Prop where
 x:m.x.Bd k
 y:m.y.Bd k
 z:m.z.Bd k
def wH {j k:Nat}{m:M9}{c:Q3}(a:m.Bd j)(b:c.Bd k):(m.led c).Bd (3*(j+k)+4):=⟨v_ a.x b,v_ a.y b,v_ a.z b⟩
def Q3.ext {p q:Q3}(d:p.a=q.a)(f:p.b=q.b)(e:p.c=q.c):p=q:=by cases p;cases q;simp_all
noncomputable def R3.q (r:R3):Q3:=⟨(r.a:Rat)/((1000:Int):Rat),(r.b:Rat)/((1000:Int):Rat),(r.c:Rat)/((1000:Int):Rat)⟩
noncomputable def S9.m (s:S9):M9:=⟨s.x.q,s.y.q,s.z.q⟩
def xQ {r:R3}(h:r.In 4000):r.q.Bd 13:=
 have u:Sm 13 (1000:Int):=by unfold Sm;decide
 ⟨dE O (gO h.a1 h.a2) u,dE O (gO h.b1 h.b2) u,dE O (gO h.c1 h.c2) u⟩
def af9 {s:S9}(h:s.In):s.m.Bd 13:=⟨xQ h.x,xQ h.y,xQ h.z⟩
noncomputable def R3.cross (r s:R3):R3:=⟨r.b*s.c-r.c*s.b,r.c*s.a-r.a*s.c,r.a*s.b-r.b*s.a⟩
noncomputable def R3.dot (r s:R3):Int:=r.a*s.a+r.b*s.b+r.c*s.c
noncomputable def S9.ca (s:S9):R3:=⟨s.x.a,s.y.a,s.z.a⟩
noncomputable def S9.cb (s:S9):R3:=⟨s.x.b,s.y.b,s.z.b⟩
noncomputable def S9.cc (s:S9):R3:=⟨s.x.c,s.y.c,s.z.c⟩
noncomputable def R3.by (r:R3)(s:S9):Q3:=⟨(r.dot s.ca:Rat)/((1000*1000:Int):Rat),(r.dot s.cb:Rat)/((1000*1000:Int):Rat),(r.dot s.cc:Rat)/((1000*1000:Int):Rat)⟩
def j7 (h:[a,b,c][i]?=Z x):(i=0/\x=a)\/(i=1/\x=b)\/(i=2/\x=c):=by
 match i,h with
 |0,h=>show .inl ⟨U,(Mn h).symm⟩
 |1,h=>show .inr (.inl ⟨U,(Mn h).symm⟩)
 |2,h=>show .inr (.inr ⟨U,(Mn h).symm⟩)
 |n+3,h=>simp at h
end TR
namespace TR
def dF {r s:R3}(h:r.In 4000)(g:s.In 4000):(r.cross s).In 200000000:=by
 have m:∀ {u v:Int},-4000<=u->u<=4000->-4000<=v->v<=4000->Sm 26 (u*v):=λB A t z=>(gO B A).mul (gO t z)
 have f:∀ {x y:Int},Sm 26 x->Sm 26 y->-200000000<=x-y/\x-y<=200000000:=λa b=>by
  unfold Sm at a b;lia
 obtain⟨j,i,l,c,c1,c2⟩:=h;obtain⟨p,q,e,d,k,o⟩:=g;have k1:=f (m l c k o) (m c1 c2 e d);have k2:=f (m c1 c2 p q) (m j i k o);have n:=f (m j i e d) (m l c p q);show⟨k1.1,k1.2,k2.1,k2.2,n.1,n.2⟩
open PySem PySem.Spec PyProof.Rows L2
variable {X:Cx}{pos:Pos}
section
variable {K:KE}{tg:OZ}
def KM (K:KE):List V->Hp->VK->Prop:=λb H Q=>∃ p a,b=[↥p]/\(An K H p a\/AZ K H p a)/\Q ↑⇑a H
def IP (K:KE):List V->Hp->VK->Prop:=λb H Q=>∃ p a,b=[↥p]/\(An K H p a\/AZ K H p a)/\∀ l,H l=none->Q ↥l (upd H l (.lst a))
def HR (K:KE):List V->Hp->VK->Prop:=λb H Q=>∃ p a,b=[↥p]/\((An K H p a/\∀ l,H l=none->Q ↥l (upd H l (.tup a)))\/(AZ K H p a/\Q ↥p H))
def Lh (K:KE):List V->Hp->VK->Prop:=λa H Q=>∃ (p:MF) (bs:List Bool),a=[↥p]/\An K H p (bs.map V.bl)/\Q (.bl (bs.all id)) H
def JV (K:KE):List V->Hp->VK->Prop:=λd H Q=>∃ (p:MF) (a b c:Int),d=[↥p]/\An K H p [↑a,↑b,↑c]/\Sm 60 a/\Sm 60 b/\Sm 60 c/\Q ↑(a+b+c) H
def fF (e:X.K=K):AI X (.builtin "len") (KM K):=by subst e;show uh
def jy (e:X.K=K):AI X (.type "list") (IP K):=by subst e;show ud
def c9 (e:X.K=K):AI X (.type "tuple") (HR K):=by subst e;show qH
def iW (e:X.K=K)(a:X.calm=true):AI X (.builtin "all") (Lh K):=by subst e;show aaw a
def afC (e:X.K=K)(a:X.calm=true):AI X (.builtin "sum") (JV K):=by subst e;show yY a
def iT (e:X.K=K):AI X (.builtin "isinstance") (KA K):=by subst e;show abd
def ww (e:X.K=K):AI X (.builtin "isinstance") (Jd K):=by subst e;show yV
def lg (e:X.K=K)(a:X.A.units+64<cLine):Ct X (Ow .Eq) (JM K):=by subst e;show afb a
def w9 (e:X.K=K)(a:X.A.units+64<cLine):Ct X (Ow .NotEq) (IQ K):=by subst e;show aft a
def ac6 (e:X.K=K)(a:X.A.units+64<cLine):Ct X (Ow .NotEq) (Iq K):=by subst e;show abH a
def agD (e:X.K=K):Ij X (IE K):=by subst e;show afm
def abw (e:X.K=K):Lo X (J' K):=by subst e;show adh
def aY (e:X.K=K)(a:PE X l tl):PI X tg l (Jm K tl):=by subst e;show ae0 a
def fX (e:X.K=K) (f:Gl X "zip") (d:X.mg "zip"=none) (g:PA X [a,b] ta) (h:M0 [a,b] X.env=[(false,QA a X.env),(false,QA b X.env)]<|>C') (c:M0 [b] X.env=[(false,QA b X.env)]<|>C') :
  PI X (.Tuple elts tk tpos) (.Call (.Name "zip" p) [a,b] [] pos) (JX K ta):=by subst e;show aev f d g h c
def bJ (e:X.K=K)(c:X.calm=true)(h:IJ X es t)(b:⇑(Pq es X.env)=n<|>C')(a:(Pq es X.env).findIdx? (·.1)=none<|>C'):PG X (.Tuple es k pos) (Kq K n t):=by subst e;show aeX c h b a
def vf (e:X.K=K)(c:X.calm=true)(h:IJ X es t)(b:⇑(Pq es X.env)=n<|>C')(a:(Pq es X.env).findIdx? (·.1)=none<|>C'):PG X (.Tuple es k pos) (KD K n t):=by subst e;show ae3 c h b a
end
def Ok.rat {n d:Int}(h:Ok k n d):∃ q:Rat,n=q.num/\d=(q.den:Int):=⟨_,yz h.ne (vq h.pos h.co)⟩
def af5:((1000:Int):Rat)≠0:=by
 intro z;have:(1000:Int)=0:=by exact_mod_cast z
 lia
noncomputable def S9.one:S9:=⟨false,false,false,false,⟨1000,0,0⟩,⟨0,1000,0⟩,⟨0,0,1000⟩⟩
def adX (p q:Rat):p-q=((p.num*(q.den:Int)-q.num*(p.den:Int):Int):Rat)/(((p.den:Int)*(q.den:Int):Int):Rat):=by have a:=i6 p;have c:=i6 q;have b:=h_ p;have d:=h_ q;rw[M6,MU,MU,MU];grind
def Bq.sub {p q:Rat}(a:Bq j p)(hq:Bq k q):Bq (j+k+1) (p-q):=by rw[Bq,adX];refine dE (pA p q) (Sm.sub (a.sn.mul hq.sd) ((hq.sn.mul a.sd).mono Y)) ((a.sd.mul hq.sd).mono Y)
noncomputable def S9.c0 (s:S9):R3:=s.y.cross s.z
noncomputable def S9.c1 (s:S9):R3:=s.z.cross s.x
noncomputable def S9.c2 (s:S9):R3:=s.x.cross s.y
noncomputable def S9.f (s:S9)(n:Int):Rat:=((1000*n:Int):Rat)/((s.det:Int):Rat)
noncomputable def S9.back (s:S9):M9:=⟨⟨s.f s.c0.a,s.f s.c1.a,s.f s.c2.a⟩,⟨s.f s.c0.b,s.f s.c1.b,s.f s.c2.b⟩,⟨s.f s.c0.c,s.f s.c1.c,s.f s.c2.c⟩⟩
def tM {s:S9}(h:s.In):Sm 60 s.det:=by
 have m:∀ {u v:Int},-4000<=u->u<=4000->-4000<=v->v<=4000->Sm 26 (u*v):=λy x p q=>(gO y x).mul (gO p q)
 obtain⟨⟨A,z,o,r,t,B⟩,⟨i,n,e,f,k,j⟩,⟨g,d,a,l,c,b⟩⟩:=h;show((((gO A z).mul ((m e f c b).sub (m k j a l))).sub ((gO o r).mul ((m i n c b).sub (m k j g d)))).add (((gO t B).mul ((m i n a l).sub (m e f g d))).mono O)).mono O
def s_ {s:S9}(h:s.In)(a:s.det≠0){n:Int}(b:-200000000<=n)(c:n<=200000000):Bq 60 (s.f n):=
 dE a (((show Sm 10 (1000:Int) by unfold Sm;decide).mul (show Sm 28 n by unfold Sm;lia)).mono O) (tM h)
def su {s:S9}(h:s.In)(a:s.det≠0):s.back.Bd 60:=by have k0:=dF h.y h.z;have k1:=dF h.z h.x;have k2:=dF h.x h.y;show⟨⟨s_ h a k0.a1 k0.a2,s_ h a k1.a1 k1.a2,s_ h a k2.a1 k2.a2⟩,⟨s_ h a k0.b1 k0.b2,s_ h a k1.b1 k1.b2,s_ h a k2.b1 k2.b2⟩,⟨s_ h a k0.c1 k0.c2,s_ h a k1.c1 k1.c2,s_ h a k2.c1 k2.c2⟩⟩
def aco {s:S9}(a:s.det≠0):((s.det:Int):Rat)≠0:=by intro z;show a (by exact_mod_cast z)
def um {s:S9}(l:s.det≠0)(c:Q3):s.back.led (s.m.led c)=c:=by
 have n:=af5;have k:=aco l;simp only[S9.det,Oa,M6,MU] at k;refine Q3.ext ?_ ?_ ?_
 all_goals
  simp only[Gy,S9.back,S9.f,S9.c0,S9.c1,S9.c2,R3.cross,R3.q,S9.m,M9.led,S9.det,Oa,M6,MU];generalize ((1000:Int):Rat)=u at *;generalize (s.x.a:Rat)=a at *;generalize (s.x.b:Rat)=b at *;generalize (s.x.c:Rat)=d at *;generalize (s.y.a:Rat)=e at *;generalize (s.y.b:Rat)=f at *;generalize (s.y.c:Rat)=g at *;generalize (s.z.a:Rat)=h at *;generalize (s.z.b:Rat)=i at *;generalize (s.z.c:Rat)=j at *;generalize c.a=p at *;generalize c.b=q at *;generalize c.c=r at *;grind
def aa0 {s:S9}(l:s.det≠0)(c:Q3):s.m.led (s.back.led c)=c:=by
 have n:=af5;have k:=aco l;simp only[S9.det,Oa,M6,MU] at k;refine Q3.ext ?_ ?_ ?_
 all_goals
  simp only[Gy,S9.back,S9.f,S9.c0,S9.c1,S9.c2,R3.cross,R3.q,S9.m,M9.led,S9.det,Oa,M6,MU];generalize ((1000:Int):Rat)=u at *;generalize (s.x.a:Rat)=a at *;generalize (s.x.b:Rat)=b at *;generalize (s.x.c:Rat)=d at *;generalize (s.y.a:Rat)=e at *;generalize (s.y.b:Rat)=f at *;generalize (s.y.c:Rat)=g at *;generalize (s.z.a:Rat)=h at *;generalize (s.z.b:Rat)=i at *;generalize (s.z.c:Rat)=j at *;generalize c.a=p at *;generalize c.b=q at *;generalize c.c=r at *;grind
def EM (h:Oz)(e C:MF)(T:Option MF):Prop:=∃ a vs,h.get? e=Z a/\a.cls=↥C/\a.data=.fields vs/\match T with
 |none=>vs[1]?=Z .none
 |some T=>vs[1]?=Z ↥T/\T≠e/\∃ b c,h.get? T=Z b/\b.data=.fields c/\c[3]?=Z .none
section
variable {M:Model}{A:Nw}{E:My}{s:Mt}
def rG (t:A.frames=Z (env :: outer)) (hl:s.heap.FunFrames base (env :: outer)) (hf:env.frame=Z L) (x:EM s.heap e C T)
  (h:∀ h' j,(∀ b o,s>>b=Z o->b∉BJ (env::outer)->b≠e->T≠Z b->h'.get? b=Z o)->(∀ b o,s>>b=Z o->b∈BJ (env::outer)->∃ v,h'.get? b=Z { o with slots:=v }) ->
   EM h' e C (Z j)->(s>>j=none\/T=Z j)->Q () { s with heap:=h' }):MI M A (leaving env ↥e) Q E s:=by
 obtain⟨oe,vs,u,g,hd,hT⟩:=x;have r:=PySem.W.funFrames_hide (as:=BJ (env::outer)++e::T.toList) hl λenv u a ha=>Oh _ (NA.mpr ⟨env,u,ha⟩)
 have k:(SJ s.heap (BJ (env::outer)++e::T.toList)).StaysIn s.heap:=λb o q=>V' _ q
 have l:(SJ s.heap (BJ (env::outer)++e::T.toList)).get? e=none:=So _ (MM _ (MS ..));have p:∀ h',Heap.Left (SJ s.heap (BJ (env::outer)++e::T.toList)) (env::outer) e ↥C s.heap h'->Q () { s with heap:=h' }:=λh' z=>by
  obtain⟨k1,k2,⟨S,D,j,oT',B,I,J,H,N,hn',f,n,i,G⟩,k4⟩:=z;have c:∀ b o,s>>b=Z o->b∈BJ (env::outer)->∃ v,h'.get? b=Z { o with slots:=v }:=λb o q m=>by
   obtain⟨_,o',d,R⟩:=hl.mem m;rw[q] at d;cases d;show k4 b o q R
  refine h h' j (λb o q n1 n2 n3=>k1 b o (SK _ q λm=>?_)) c ⟨S,D,I,J,H,N,f,oT',B,n,i,G⟩ ?_
  .rcases Nk.mp m with m|m
   .show n1 m
   .rcases MA.mp m with m|m
    .show n2 m
    .show n3 (RH.mp m)
  .cases q:s>>j with
   |none=>show .inl rfl
   |some o=>
    refine .inr ?_
    by_cases m:j∈BJ (env::outer)++e::T.toList
    .rcases Nk.mp m with m|m
     .obtain⟨_,o',d,R⟩:=hl.mem m;obtain⟨v,y⟩:=c j o' d m;rw[n] at y;cases y;show absurd i (R _)
     .rcases MA.mp m with m|m
      .show absurd m f
      .show RH.mp m
    .have:=SK _ q m;rw[hn'] at this;cases this
 cases T with
 |none=>show wpAny_leaving_first t r hf u k l hd hT λh' z=>p h' (g▸z)
 |some T=>
  obtain⟨h1,y,oT,ts,X,F,h3⟩:=hT;show wpAny_leaving_next t r hf ⟨oe,vs,T,oT,ts,u,g,hd,h1,So _ (MM _ (Mx _ zyA)),y,X,F,h3⟩ k l p
end
def jI (x:B9 P w H h)(k:∀ b u o,H b=Z u->h.get? b=Z o->h'.get? b=Z o):B9 P w H h':=λa o e=>
 (x a o e).stay (λb u c q=>by
  rcases c with rfl|c
  .show k _ _ _ e q
  .show k _ _ _ c q) (λ_ q=>q) λ_ _ q=>q
theorem hU:∀ {o:HO},At P w H h a o->∃ u,h.get? a=Z u
 |.lst _,x=>by obtain⟨_,_,_,_,e⟩:=x;show⟨_,e⟩
 |.tup _,x=>by obtain⟨_,_,_,o,e,_⟩:=x;show⟨o,e⟩
 |.dK _,x=>by obtain⟨_,_,_,_,o,_,_,e,_⟩:=x;show⟨o,e⟩
 |.dT _,x=>by obtain⟨_,_,_,_,o,_,_,e,_⟩:=x;show⟨o,e⟩
 |.set _ _,x=>by obtain⟨o,_,_,_,e,_⟩:=x;show⟨o,e⟩
 |.ins _ _ _,x=>by obtain⟨_,_,_,e,_⟩:=x;show⟨_,e⟩
 |.own _,x=>x
 |.xd _,x=>by obtain⟨_,⟨o,_,_,e,_⟩,_⟩:=x;show⟨o,e⟩
 |.met _ _,x=>⟨_,x⟩
 |.rng _ _,x=>by obtain⟨_,_,_,e⟩:=x;show⟨_,e⟩
 |.frz o _,x=>⟨o,x.1⟩
 |.tbl _,x=>by obtain⟨_,e,_⟩:=x;show⟨_,e⟩
 |.ext _,x=>x.2.1
def Fj (P:MY)(w:Nr):C_:=λa H s E v b=>∃ (e C:MF) (T:Option MF) (c:Hp),v=↥e/\b.os=s.os/\UR b.gens/\Un (BJ a) [] H c s.heap b.heap/\B9 P w c b.heap/\EM b.heap e C T /\
 (s>>e=none/\c e=none)/\(∀ t,T=Z t->s>>t=none/\c t=none)/\E ↥C none c
def am:HN (Fj P w):=by rintro _ _ _ _ _ ⟨_,_,_,_,_,_,_,_,_,_,_,_,h⟩;show h
structure Ci (X:Cx)(pins:Lb)(H:Hp)(b:MF):Prop where
 new:X.s₀>>b=none
 free:H b=none
 loc:b≠X.env.locals
 cell:∀ x c,X.env.cells.lookup x=Z c->c≠b
 pin:∀ p∈X.pn++pins,p.1≠b
def IN (X:Cx)(W:L2.St->MF->Hp->Prop):Prop:=∀ (a:Lb) (b:L2.St) (H:Hp) (s:Mt) (e C:MF) (T:Option MF),Ag X a b H s->EM s.heap e C T->Ci X a H e->(∀ t,T=Z t->Ci X a H t)->W b C H->X.xe ↥e s
def jN {K:KE} :
  IN (DH (Fj P w) P w K mg base N qual scope f cd A outer s H E) (λ_ C H'=>E ↥C none H'):=by
 intro F S H' J e C T I x v p q;change MI _ _ (leaving _ _) _ _ _;refine rG I.ok.frames I.stack rfl x λX a keep c L g=>?_
 have sz:∀ b o,s>>b=Z o->b≠s⁻¹:=λb o e=>MH (Mr e)
 have Q:∀ b o,s>>b=Z o->b∉BJ outer->b∉BJ (envOfC qual scope s⁻¹ f cd::outer):=λb o e n m=>by
  obtain⟨d,i,r⟩:=NA.mp m;rcases MA.mp i with rfl|i
  .show sz b o e (Mn r).symm
  .show n (NA.mpr ⟨d,i,r⟩)
 have B:∀ b,b∈BJ outer->b∈BJ (envOfC qual scope s⁻¹ f cd::outer):=λb m=>by
  obtain⟨d,i,r⟩:=NA.mp m;show NA.mpr ⟨d,Mx _ i,r⟩
 have ne:∀ b o,s>>b=Z o->b≠e:=λb o q z=>by rw[z] at q;rw[show s>>e=none from v.new] at q;cases q
 have G:∀ b o,s>>b=Z o->T≠Z b:=λb o q z=>by rw[show s>>b=none from(p b z).new] at q;cases q
 have y:s>>a=none/\H' a=none:=by
  rcases g with g|g
  .constructor
   .cases q:s>>a with
    |none=>rfl
    |some o=>
     obtain⟨k,j⟩:=I.base.there a o q (by intro z;show absurd (show a∈([]:List MF) from z) zyA);rw[g] at j;cases j
   .cases q:H' a with
    |none=>rfl
    |some u=>
     obtain⟨o,j⟩:∃ o,J>>a=Z o:=hU (I.hok a u q);rw[g] at j;cases j
  .show⟨(p a g).new,(p a g).free⟩
 refine⟨e,C,Z a,H',U,I.os,I.bare,⟨λb o q n m z=>?_,λb o q n m z=>?_,λb o q n z=>I.base.free b o q n z,λb o q z=>?_,I.base.tups,I.base.frzs,I.base.tbls⟩,jI I.hok λb u o h q=>?_,L,⟨v.new,v.free⟩,λt M=>by cases M;show y,q⟩
 .show keep b o (I.base.keep b o q n m z) (Q b o q m) (ne b o q) (G b o q)
 .obtain⟨R,l⟩:=I.base.slot b o q n m z;obtain⟨j,D⟩:=c b _ l (B b m);show⟨j,D⟩
 .obtain⟨k,l⟩:=I.base.there b o q z
  by_cases m:b∈BJ (envOfC qual scope s⁻¹ f cd::outer)
  .obtain⟨R,D⟩:=c b k l m;show⟨_,D⟩
  .show⟨k,keep b k l m (ne b o q) (G b o q)⟩
 .refine keep b o q (λm=>?_) (λz=>?_) (λz=>?_)
  .rw[I.stkFree b m] at h;cases h
  .rw[z,v.free] at h;cases h
  .rw[(p b z).free] at h;cases h
def abj (t:IN X W)(g:X.ex=[])(I:Ag X pins σ H s)(B:∀ C H',E ↥C none H'->W σ C H')(h:Fj X.prog X.w X.stack H s E v s'):X.xe v s':=by
 obtain⟨e,C,T,H',rfl,os,a,un,d,x,⟨u,r⟩,i,q⟩:=h;have ours:∀ b,s>>b=none->H' b=none->Ci X pins H' b:=λb k n=>by
  have ne:∀ c o,s>>c=Z o->c≠b:=λc o q z=>by rw[z,k] at q;cases q
  refine⟨?_,n,λz=>?_,λy c q z=>?_,λp A z=>?_⟩
  .cases q:X.s₀>>b with
   |none=>rfl
   |some o=>
    obtain⟨D,j⟩:=I.base.there b o q (by rw[g];simp);rw[k] at j;cases j
  .obtain⟨m,j,_⟩:=I.loc;obtain⟨o,_,_,f,_⟩:=j;show ne _ o f z.symm
  .obtain⟨v,o,f,_⟩:=I.cell y c q;show ne _ o f z
  .show ne _ _ (I.pin p A).1 z
 show t pins σ H' s' e C T (I.call' os un d a λb z=>absurd z zyA) x (ours e u r) (λt l=>ours t (i t l).1 (i t l).2) (B C H' q)
abbrev WX:=L2.St->MF->Hp->Prop
def Fb (W:WX)(a:L2.St):XK:=λc _ b=>∃ C,c=↥C/\W a C b
def JS (X:Cx)(W:WX):Prop:=∀ a c H s v b,Ag X a c H s->Fj X.prog X.w X.stack H s (Fb W c) v b->X.xe v b
def IN.g {X:Cx}{W:WX}(t:IN X W)(a:X.ex=[]):JS X W:=λ_ _ _ _ _ _ I h=>abj t a I (λC c q=>by obtain⟨b,e,w⟩:=q;cases e;show w) h
def Je (sp:Sp)(a:List V)(W:WX)(t:TA):TE:=λb H Q=>t b H λvs c=>sp (vs++a) c Q (Fb W b)
section
variable {W:WX}{k:Nat}{ps:List Str}{sp:Sp}{dvs:List V}{x:Str}{p:Pos}{e:OZ}{es:List OZ}{t:TA}
def yw (F:Bw X.prog X.w X.K X.mg X.base (Fj X.prog X.w) k f fd ps sp)
  (i:Room k X.A)(d:Cr X.K fd ps ds)(e:Ah dvs ds)(g:JS X W)(I:Ag X pins σ H s)(r:Ah vs us)(h:sp (vs++dvs) H Q (Fb W σ)):
  MI (MW X.prog X.w) X.A (call ↥f us) (EP X pins σ Q) X.xe s:=by
 have b:Ah (vs++dvs) (us++ds):=Ah.append r e;refine P1 (PF (F.run X.A X.stack s H ⟨us,[]⟩ (us++ds) (vs++dvs) Q (Fb W σ) i I.env0 (d s us I.kIn (b.length.symm\F.len _ _ _ _ h)) b h) λz c a=>?_)
 match z,a with
 |.error v,a=>show g _ _ _ _ v c I a
 |.ok (.ret u),a=>show I.after a
def nI (j:JS X W) (C:ID X.prog X.w X.K X.mg X.base (Fj X.prog X.w) k x ps dvs sp) (y:Room k X.A) (v:Gl X x) (l:PA X (e :: es) t) (d:(x == ("__debug__":Str))=false<|>Cb)
  (he:M0 (e::es) X.env=(false,QA e X.env)::M0 es X.env<|>C')(b:(Qx pos (M0 es X.env)).any (·.1)=false<|>C'):PE X (.Call (.Name x p) (e::es) [] pos) (Je sp dvs W t):=by
 obtain⟨f,z,ds,F,m,u,n,o⟩:=C.ex;refine ⟨λa s i H Q I h=>NX (eB I v m (PC I.ok.mod.kin u (bo (l pos a s i H _ I h) λE D c=>?_) he b) d)⟩;obtain⟨vs,B,g,r,q⟩:=c;show⟨g.kIn,yw F y n o j g r q⟩
end
def AK.calX {P:MY}{w:Nr}{K:KE}{mg:O'}{base:Oz}{CX:C_}{x:Str}{st:On}{N d:List Str}{c:List V}{k:Nat}{sp:Sp} (F:AK K mg x st d c) (S:Ac N d (Ab st))
  (len:(∀ vs H Q E,sp vs H Q E->⇑vs=⇑d)<|>G5)
  (bb:∀ (f:MF) (b:Mo) (A:Nw) (a:List Env) (s:Mt) (H:Hp) (vs:List V) (Q:VK) (E:XK),Room k (A.deeper (envOfC x (Ab st) s⁻¹ f b))->sp vs H Q E ->
   ∃ t,EH (DH CX P w K mg base N x (Ab st) f b A a s H E) (Ai st) t/\t { nx:=λ_ H'=>Q .non H',rt:=Q } (B2 N vs) H):ID P w K mg base CX (k+1) x d c sp:=by
 obtain⟨f,v,y,B,C,kV,j,z,r,b,u,p,ds,rfl,i,g,l,n,m,o⟩:=F.ex;show⟨f,_,ds,nZ i g S len λA a s H vs Q E q e=>bb f b A a s H vs Q E q e,l,n,m,o⟩
abbrev K4:List Mo:=[.type "ValueError",.type "Exception",.type "BaseException",.type "object"]
abbrev IG:String:="ValueError.__new__"
def Ay (K:KE)(x:Str)(C:MF):Prop:=ML K ME x=Z (Z ↥C)
def adu {K:KE} (X:K.In h) (q:Rl K C bmB newId=true) :
  ∃ bm N nm b bs a sn sub ab col dd k0 k1 k2 k3 k5 e,h.get? C=Z (excClassObj nm b C N bs bm a sn sub ab col dd k0 k1 k2 k3 k5 newId)/\h.Ns N e/\e "__init__"=none/\OwnTail h bmB bm:=by
 unfold Rl at q
 split at q
 .rename_i dd t g look
  split at q
  .rename_i u bm k0 k1 k2 k3 n k5 c f
   obtain⟨nm,bs,j,ns,b,a,sn,sub,ab,col,r⟩:=t;simp only[MX,NZ,TD] at q c;obtain⟨⟨⟨⟨⟨p,m⟩,i⟩,s⟩,d⟩,k⟩:=q;subst p m i c;have o:g=#[k0,k1,k2,k3,Z (.builtin n),k5]:=by
    obtain⟨l⟩:=g;simp only at f;rw[f]
   subst o;show⟨bm,ns,nm,b,bs,a,sn,sub,ab,col,dd,k0,k1,k2,k3,k5,_,X _ _ look,.of_isNs (PySem.W.isNs_of_in X d),PySem.W.nsMap_none_of_in X d k,PySem.W.tail_of_in X s⟩
  .cases q
 .cases q
def JK (K:KE)(x:Str)(W:WX)(t:TA):TS:=λ_ a H=>t a H λvs b=>⇑vs<=MO/\∀ C,Ay K x C->W a C b
def Ag.unt (I:Ag X pins σ H s)(h:s>>b=none):H b=none:=by
 cases q:H b with
 |none=>rfl
 |some u=>
  obtain⟨o,z⟩:=hU (I.hok b u q);rw[h] at z;cases z
def Ag.ours (a:X.ex=[])(I:Ag X pins σ H s)(h:s>>b=none):Ci X pins H b:=by
 have ne:∀ c o,s>>c=Z o->c≠b:=λc o q z=>by rw[z,h] at q;cases q
 refine⟨?_,Ag.unt I h,λz=>?_,λy c q z=>?_,λp f z=>?_⟩
 .cases q:X.s₀>>b with
  |none=>rfl
  |some o=>
   obtain⟨g,e⟩:=I.base.there b o q (by rw[a];simp);rw[h] at e;cases e
 .obtain⟨m,e,_⟩:=I.loc;obtain⟨o,_,_,d,_⟩:=e;show ne _ o d z.symm
 .obtain⟨v,o,d,_⟩:=I.cell y c q;show ne _ o d z
 .show ne _ _ (I.pin p f).1 z
def oZ {K:KE} (S:X.K=K) (o:IN X W) (l:X.ex=[]) (E:X.calm=true) (y:Gl X x) (Q:∃ C,Ay K x C/\Rl K C K4 IG=true)
  (u:PA X (e::es) t)(k:(x==("__debug__":Str))=false<|>Cb)
  (he:M0 (e::es) X.env=(false,QA e X.env)::M0 es X.env<|>C')(g:(Qx cpos (M0 es X.env)).any (·.1)=false<|>C'):
  PS X (.Raise (Z (.Call (.Name x np) (e::es) [] cpos)) none pos) (JK K x W t):=by
 subst S;refine⟨λa s f H D I h=>?_⟩;obtain⟨C,b,j⟩:=Q;obtain⟨bm,N,nm,qn,bs,B,sn,sub,ab,col,dd,k0,k1,k2,k3,k5,mN,p,T,A,c⟩:=adu I.ok.mod.kin j;refine wpAny_Raise_call_subT (C:=C) (nm:=nm) (q:=qn) (N:=N) (bs:=bs) (bm:=bm) (hdct:=B) (sn:=sn) (sub:=sub) (ab:=ab) (col:=col) (dd:=dd) (k0:=k0) (k1:=k1) (k2:=k2) (k3:=k3) (k5:=k5)
  S5 (c.hasType S5.hasBase) (I.ok.hd E) ?_ A (eB I y (Nn I.ok.mod.kin I.ok.mod.glob b) ⟨U,?_⟩ k)
 .rw[he];change(false||(Qx cpos (M0 es X.env)).any (·.1))=false;rw[g];rfl
 have m:=u cpos a s f H _ I h;rw[he] at m ⊢;refine Vt (bo m λus J ⟨vs,n,d,r,L,hw⟩=>⟨U,?_,d.bk _ _ p,T.keeps d.bk,c.keeps d.bk,λv e0 i=>?_⟩)
 .rw[<- ⇑r];show L
 .obtain⟨tp,F,M,G⟩:=i.there;have R:Ag X a f n { J with heap:=v }:=d.kept i.keeps;show o a f n _ e0 C none R ⟨_,_,F,U,U,U⟩ (Ag.ours l d i.new) (λt z=>nomatch z) (hw C b)
def yF
  (h:MI (MW prog w) A (execs body env) Q (λv s1=>MI (MW prog w) A (leaving env v) (λ_ s2=>MI (MW prog w) A (handleBy v env (d::hs)) Q E s2) E s1) s):
  MI (MW prog w) A (exec (.Try body (d::hs) [] [] pos) env) Q E s:=by
 rw[arm_exec_Try];refine HD (Pf ?_);unfold tryStmt;simp only[M2,Oj,Qb,Pg,List.isEmpty_cons,List.isEmpty_nil];refine HD (OO (NI h (λf s1 b=>?_) λv s1 b=>?_))
 .cases f with
  |next=>show Rr b
  |brk=>show Mm b
  |cont=>show Mm b
  |ret u=>show Mm b
 .intro a p ha;have c:=b a p ha;unfold leaving at c;rw[WY] at c;change Sem.wp _ a (Wj v env>>=λ_=>setFlight v none>>=λ_=>handleBy v env (d::hs)) _ _ p s1;rw[WY];refine Sem.wp_mono _ a _ (λ_ k e g=>?_) (λ_ _ _ z=>z) p s1 c;rw[WY];show Sem.wp_mono _ a _ (λ_ j l i=>i a j ha) (λ_ _ _ z=>z) k e g
section
variable {pins pins':Lb}{σ:L2.St}{H:Hp}{s:Mt}{h':Oz}
def Ag.ctx (I:Ag X pins σ H s) (d:A'.frames=X.A.frames) (c:c'=true->A'.handled=none) (b:∀ p ∈ pn' ++ pins',p ∈ X.pn ++ pins) :
  Ag { X with A:=A',calm:=c',pn:=pn',xe:=xe' } pins' σ H s:=
 ⟨⟨I.ok.mod,I.ok.kind,I.ok.glob,I.ok.blt,I.ok.above,I.ok.inj,I.ok.has,I.ok.cab,c,d\I.ok.frames,I.ok.stk,I.ok.exf,I.ok.bs,I.ok.bsz,I.ok.noex,I.ok.exfs,I.ok.funs,I.ok.frf⟩,
  I.os,I.bare,I.base,I.loc,I.cell,I.free,I.freeC,λp a=>I.pin p (b p a),I.hok,I.len⟩
def Ag.back {A':Nw}{c':Bool}{pn':List (MF × Obj)}{xe':My} (J:Ag { X with A:=A',calm:=c',pn:=pn',xe:=xe' } pins' σ H s) (d:X.A.frames=A'.frames) (c:X.calm=true->X.A.handled=none)
  (b:∀ p∈X.pn++pins,p∈pn'++pins'):Ag X pins σ H s:=
 ⟨⟨J.ok.mod,J.ok.kind,J.ok.glob,J.ok.blt,J.ok.above,J.ok.inj,J.ok.has,J.ok.cab,c,d\J.ok.frames,J.ok.stk,J.ok.exf,J.ok.bs,J.ok.bsz,J.ok.noex,J.ok.exfs,J.ok.funs,J.ok.frf⟩,
  J.os,J.bare,J.base,J.loc,J.cell,J.free,J.freeC,λp a=>J.pin p (b p a),J.hok,J.len⟩
def Ag.flown {L:List MF} (I:Ag X pins σ H s) (h:∀ b ∈ L,Ci X pins H b) (keep:∀ b o,s>>b=Z o->b ∉ BJ X.stack->b ∉ L->h'.get? b=Z o)
  (g:∀ b o,s>>b=Z o->b∈BJ X.stack->∃ e,h'.get? b=Z { o with slots:=e }):Ag X pins σ H { s with heap:=h' }:=by
 have any:∀ b o,s>>b=Z o->b∉L->∃ e,h'.get? b=Z { o with slots:=e }:=λb o q n=>by
  by_cases m:b∈BJ X.stack
  .show g b o q m
  .show⟨o.slots,keep b o q m n⟩
 have t:∀ b o,X.s₀>>b=Z o->b∉L:=λb o q m=>by
  have z:=(h b m).new;rw[q] at z;cases z
 have ne:∀ b o,X.s₀>>b=Z o->b≠X.env.locals:=λb o q=>MH (MK (Mr q) I.ok.above)
 have out:∀ b,b≠X.env.locals->b∉X.fs->b∉BJ X.stack:=λb n m z=>(MA.mp (I.stkSub b z)).elim n m
 have C:∀ x c,X.env.cells.lookup x=Z c->∀ v,s.heap.IsCell c v->h'.IsCell c v:=λx c q v z=>by
  obtain⟨o,J,E⟩:=z;obtain⟨e,y⟩:=any c o J λm=>(h c m).cell x c q rfl
  show⟨_,y,E⟩
 refine⟨I.ok,I.os,I.bare,⟨λb o q n m z=>?_,λb o q n m z=>?_,I.base.free,λb o q z=>?_,I.base.tups,I.base.frzs,I.base.tbls⟩,?_,λx c q=>?_,I.free,I.freeC,λp B=>?_,?_,I.len⟩
 .show keep b o (I.base.keep b o q n m z) (out b (ne b o q) m) (t b o q)
 .obtain⟨e,y⟩:=I.base.slot b o q n m z;obtain⟨j,A⟩:=any b _ y (t b o q);show⟨j,A⟩
 .obtain⟨j,y⟩:=I.base.there b o q z;obtain⟨e,A⟩:=any b j y (t b o q);show⟨_,A⟩
 .obtain⟨m,⟨o,G,F,z,r⟩,Q⟩:=I.loc;obtain⟨e,y⟩:=any _ o z λw=>(h _ w).loc rfl
  refine⟨m,⟨_,G,F,y,r⟩,λi x v D j M=>?_⟩;obtain⟨u,N,l⟩:=Q i x v D j M;refine⟨u,N,?_⟩;rcases l with l|⟨k,c,q,z⟩
  .show .inl l
  .show .inr ⟨k,c,q,C x c q _ z⟩
 .obtain⟨v,z⟩:=I.cell x c q;show⟨v,C x c q v z⟩
 .obtain⟨a,n,l,f,d⟩:=I.pin p B;show⟨keep _ _ a (out _ l f) λm=>(h _ m).pin p B rfl,n,l,f,d⟩
 .show jI I.hok λb u o j q=>keep b o q (λm=>by rw[I.stkFree b m] at j;cases j) λm=>by rw[(h b m).free] at j;cases j
def Ag.track (I:Ag X pins σ H s)(d:Ci X pins H e)(new:At X.prog X.w (upd H e (.ext φ)) s.heap e (.ext φ)):Ag X pins σ (upd H e (.ext φ)) s:=by
 have un:∀ b u,H b=Z u->upd H e (.ext φ) b=Z u:=λb u q=>by
  rw[ar (λz=>by rw[z,d.free] at q;cases q)];show q
 have f:∀ b,b≠e->H b=none->upd H e (.ext φ) b=none:=λb n q=>by rw[ar n];show q
 refine⟨I.ok,I.os,I.bare,⟨I.base.keep,I.base.slot,λb o q n z=>f b (λy=>?_) (I.base.free b o q n z),I.base.there,λb h q=>un b _ (I.base.tups b h q),λb o u q=>un b _ (I.base.frzs b o u q),λb i q=>?_⟩,I.loc,I.cell,
  f _ (λz=>d.loc z.symm) I.free,λx c q=>f c (d.cell x c q) (I.freeC x c q),λp g=>?_,λb u q=>?_,I.len⟩
 .rw[y,d.new] at q;cases q
 .obtain⟨m,z⟩:=I.base.tbls b i q;show⟨m,un b _ z⟩
 .obtain⟨a,n,r⟩:=I.pin p g;show⟨a,f _ (d.pin p g) n,r⟩
 .by_cases z:b=e
  .subst z;rw[ae] at q;cases q;show new
  .rw[ar z] at q;show(I.hok b u q).stay (λ_ _ _ r=>r) (λc r=>un c _ r) λc h r=>un c _ r
def jX (I:Ag X pins σ H s) (T:X.N.Nodup) (J:X.N[i]?=Z n) (S:X.env.scope.names.lookup n=Z .local)
  (h:∀ B,Ag X pins (σ.set i none) H B->Q () B):MI M A (do bindName X.env n .none;unbindBehindTheSuite X.env n pos) Q E s:=by
 obtain⟨m,F,G⟩:=id I.loc;have ne:∀ b o,X.s₀>>b=Z o->b≠X.env.locals:=λb o q=>MH (MK (Mr q) I.ok.above)
 refine wpAny_nameGoes_keeps S F (by rw[I.ok.kind];rfl) λh1 v x e=>h _ ⟨I.ok,I.os,I.bare,⟨λb o q n m z=>e.2 b (ne b o q)\I.base.keep b o q n m z,λb o q n m z=>?_,I.base.free,λb o q z=>?_,I.base.tups,I.base.frzs,I.base.tbls⟩,
  ⟨_,x,λj y v C g R=>?_⟩,λy c q=>?_,I.free,I.freeC,λp L=>?_,jI I.hok λb u o D q=>(e.2 b (λz=>by rw[z,I.free] at D;cases D))\q,by simpa using I.len⟩
 .obtain⟨t,y⟩:=I.base.slot b o q n m z;show⟨t,e.2 b (ne b o q)\y⟩
 .obtain⟨t,y⟩:=I.base.there b o q z;show⟨t,e.2 b (ne b o q)\y⟩
 .have t:j≠i:=λz=>by
   subst z;rw[List.getElem?_set] at g;simp only[Qb] at g
   split at g<;>cases g
  rw[Sn (Om t)] at g;obtain⟨u,r,l⟩:=G j y v C g R;refine⟨u,r,?_⟩;rcases l with ⟨k,q⟩|⟨k,c,q,z⟩
  .refine .inl ⟨k,?_⟩;dsimp only;rw[MZ (λz:y=n=>t (oF T C (by rw[z];show J)))];show q
  .show .inr ⟨k,c,q,z.sameBut e (I.cne y c q)⟩
 .obtain⟨u,z⟩:=I.cell y c q;show⟨u,z.sameBut e (I.cne y c q)⟩
 .obtain⟨a,n,l,f,d⟩:=I.pin p L;show⟨e.2 _ l\a,n,l,f,d⟩
end
def GD (e C:MF):HO:=.ext λh=>∃ a vs,h.get? e=Z a/\a.cls=↥C/\a.data=.fields vs
def adE (x:EM h e C T):At P w H h e (GD e C):=by obtain⟨g,vs,f,l,j,_⟩:=x;refine ⟨⟨g,vs,f,l,j⟩,⟨g,f⟩,λn m d k=>?_⟩;obtain⟨o,i,a,b,c⟩:=d;show⟨o,i,k _ a,b,c⟩
def uQ (x:EM s.heap e C (Z T))
  (h:∀ h',EM h' e C (Z T)->(∀ b o,b≠T->s>>b=Z o->h'.get? b=Z o)->Q () { s with heap:=h' }):MI M A (setFlight ↥e none) Q E s:=by
 obtain⟨k,vs,j,r,f,g,l,t,p,i,c,m⟩:=x;have d:∀ b o,b≠T->s>>b=Z o->(s.heap.update T (NC (·.setIfInBounds 3 Nc))).get? b=Z o:=λb o n q=>(MV _ _ (Om n)).trans q
 have a:3<p.size:=(Ni.mp m).1;refine Sr j f g i c a (h _ ⟨k,vs,d e k (Om l) j,r,f,g,l,_,_,M4 _ i (NK (Nf c _)),Nf c _,by simp[a]⟩ d)
def Ga (i:Nat)(D:EK):EK where
 nx:=λa H=>D.nx (a.set i none) H
 rt:=D.rt
 bk:=λa H=>D.bk (a.set i none) H
 ct:=λa H=>D.ct (a.set i none) H
def IY (K:KE)(C:MF)(x:Str):Prop:=∃ T,Ay K x T/\Xj K ↥C ↥T=Z true
def Jl (K:KE)(x:Str)(i:Nat)(b:TS)(D:EK):WX:=λa C H=>IY K C x/\∀ e,H e=none->b (Ga i D) (a.set i (Z ↥e)) (upd H e (GD e C))
def Lq (K:KE)(x:Str)(i:Nat)(b:WX->TS)(c:TS):TS:=λD a H=>b (Jl K x i c D) D a H
def aeE {X:Cx}{K:KE}{x n:Str}{i:Nat}{np B pos:Pos}{body c:List On}{b0:On}{tb:WX->TS}{th:TS} (hK:X.K=K) (hN:X.N.Nodup) (hi:X.N[i]?=Z n) (R:X.env.scope.names.lookup n=Z .local)
  (hex:X.ex=[])(hf:X.env.frame=Z X.env.locals)(l:X.stack=X.env::X.outer)(hg:Gl X x)
  (hb:∀ pn' xe' W,IN { X with pn:=pn',xe:=xe' } W->EH { X with pn:=pn',xe:=xe' } body (tb W))
  (hh:∀ e,EH { X with A:=X.A.mark (Z ↥e),calm:=false,xe:=λ_ _=>False } (b0::c) th)(hdb:(x==("__debug__":Str))=false<|>Cb):
  PS X (.Try body [.ExceptHandler (Z (.Name x np)) (Z n) (b0::c) B] [] [] pos) (Lq K x i tb th):=by
 subst hK;refine⟨λa s σ H D I h=>?_⟩;have back:∀ {k:Lb}{xe':My}{d:L2.St}{E:Hp}{s':Mt},Ag { X with pn:=X.pn++a,xe:=xe' } k d E s'->Ag X a d E s':=λ{_ _ _ _ _} J=>
  Ag.back J rfl I.ok.hd λp y=>Oh _ y
 refine yF (NI (hb (X.pn++a) (λv t=>MI (MW X.prog X.w) X.A (leaving X.env v) (λ_ s2=>MI (MW X.prog X.w) X.A (handleBy v X.env [.ExceptHandler (Z (.Name x np)) (Z n) (b0::c) B]) (SP X a D) X.xe s2) X.xe t)
  (Jl X.K x i th D) ?_ [] s σ H D (Ag.ctx (A':=X.A) (c':=X.calm) I rfl I.ok.hd λp y=>by simpa using y) h) (λf t F=>?_) λv t hv=>hv)
 .intro k d E t e C T J xo oe oT w;obtain⟨⟨T0,hT0,hsub⟩,hw⟩:=w;have J0:=back J;have ours:∀ {b:MF},Ci { X with pn:=X.pn++a,xe:=λv t=>MI (MW X.prog X.w) X.A (leaving X.env v) (λ_ s2=>MI (MW X.prog X.w) X.A (handleBy v X.env [.ExceptHandler (Z (.Name x np)) (Z n) (b0::c) B]) (SP X a D) X.xe s2) X.xe t } k E b->Ci X a E b:=
   λ{b} z=>⟨z.new,z.free,z.loc,z.cell,λp y=>z.pin p (Oh _ y)⟩
  have fl:t.heap.FunFrames X.base (X.env::X.outer):=by rw[<- l];show J0.stack
  have frm:X.A.frames=Z (X.env::X.outer):=by rw[<- l];show J0.ok.frames
  change MI (MW X.prog X.w) X.A (leaving X.env ↥e) _ X.xe t;refine rG frm fl hf xo λh1 T1 keep slot Q nT=>?_
  have oT1:Ci X a E T1:=by
   rcases nT with q|q
   .show Ag.ours hex J0 q
   .show ours (oT T1 q)
  have J1:Ag X a d E { t with heap:=h1 }:=by
   refine Ag.flown (L:=e::T.toList) J0 (λb hb=>?_) (λb o q n1 n2=>?_) (λb o q m=>?_)
   .rcases MA.mp hb with z|z
    .rw[z];show ours oe
    .show ours (oT b (RH.mp z))
   .refine keep b o q (by rw[<- l];show n1) (λz=>n2 (by rw[z];show MS ..)) λz=>n2 (Mx _ (by rw[z];simp))
   .show slot b o q (by rw[<- l];show m)
  have ty:OY (MW X.prog X.w) h1 (typeOf ↥e) ↥C:=by
   obtain⟨o1,v1,q1,q2,_⟩:=Q;show q2▸(Sg q1).andThen .now
  have J2:Ag { X with A:=X.A.mark (Z ↥e),calm:=false,xe:=λ_ _=>False } a d E { t with heap:=h1 }:=Ag.ctx (A':=X.A.mark (Z ↥e)) J1 rfl (λz=>nomatch z) λp y=>y
  refine wpAny_handleBy_cons (codeAny_handlers_test (eB J2 hg (Nn I.ok.mod.kin I.ok.mod.glob hT0) ((PySem.W.exm_one J1.kIn ty hsub).here ?_) hdb)) (by intro q;cases q);change P0 _ _ _ _ _;refine codeAny_handlers_suite_as (uQ Q λh2 xo2 k2=>?_);have J3:Ag X a d E { t with heap:=h2 }:=Ag.flown (s:={ t with heap:=h1 }) (h':=h2) J1 (λb hb=>by rw[Mu.mp hb];show oT1) (λb o q _ n=>k2 b o (λz=>n (by simp[z])) q)
   (λb o q m=>⟨o.slots,k2 b o (λz=>by
    obtain⟨_,o',ho',nf⟩:=J1.stack.mem m;obtain⟨_,_,_,_,_,_,_,oT',ts,g1,g2,_⟩:=Q;rw[z,g1] at ho';cases ho';show nf _ g2) q⟩)
  have J4:Ag X a d (upd E e (GD e C)) { t with heap:=h2 }:=Ag.track J3 (ours oe) (adE xo2);refine iC (v:=↥e) J4 hN hi (.inl R) U (λs3 J5=>?_) (.inr R);have J6:Ag { X with A:=X.A.mark (Z ↥e),calm:=false,xe:=λ_ _=>False } a (d.set i (Z ↥e)) (upd E e (GD e C)) s3:=Ag.ctx (A':=X.A.mark (Z ↥e)) J5 rfl (λz=>nomatch z) λp y=>y
  refine NI (hh e a s3 _ _ (Ga i D) J6 (hw e oe.free)) (λf s4 F=>?_) λ_ _ z=>OC z
  have bk:∀ {G:L2.St}{S:Hp},Ag { X with A:=X.A.mark (Z ↥e),calm:=false,xe:=λ_ _=>False } a G S s4->Ag X a G S s4:=λ{_ _} J=>
   Ag.back J rfl I.ok.hd λp y=>y
  cases f with
  |next=>
   obtain⟨j,M,g,q⟩:=F;show jX (bk g) hN hi R λs5 K2=>⟨_,_,K2,q⟩
  |brk=>
   obtain⟨j,M,g,q⟩:=F;show jX (bk g) hN hi R λs5 K2=>⟨_,_,K2,q⟩
  |cont=>
   obtain⟨j,M,g,q⟩:=F;show jX (bk g) hN hi R λs5 K2=>⟨_,_,K2,q⟩
  |ret u=>
   obtain⟨v,j,M,g,r,q⟩:=F;show jX (bk g) hN hi R λs5 K2=>⟨v,_,_,K2,r,q⟩
 .cases f with
  |next=>
   obtain⟨j,M,g,q⟩:=F;show⟨_,_,back g,q⟩
  |brk=>
   obtain⟨j,M,g,q⟩:=F;show⟨_,_,back g,q⟩
  |cont=>
   obtain⟨j,M,g,q⟩:=F;show⟨_,_,back g,q⟩
  |ret u=>
   obtain⟨v,j,M,g,r,q⟩:=F;show⟨v,_,_,back g,r,q⟩
def A9:List Str:=["BadNumber","BadShare","BadCurve","BadSquare","NoBack","BadGrid","BadColour","BadIntent","BadProfile","BadInk","BadText"]
def Ii:List Str:=["number","share","curve","square","back","grid","colour","intent","profile","ink","text"]
def Dh (K:KE)(x:Str):Option MF:=match ML K ME x with
 |some (Z ↥C)=>Z C
 |_=>none
def oQ {K:KE}(h:Dh K x=Z C):Ay K x C:=by
 unfold Dh at h
 split at h
 .rename_i D e
  cases h;show e
 .cases h
def gJ {K:KE}(h:Ay K x C):Dh K x=Z C:=by unfold Dh;rw[show ML K ME x=Z (Z ↥C) from h]
def K9 (K:KE)(C:MF):Bool:=
 Rl K C K4 IG&&SL K C&&Ph K ↥C==Z (.type "type")&&Rm K C (.type "object")==Z true&&Rm K C (.type "BaseException")==Z true &&
  M7 K ↥C "__getattribute__"==Z (Z (.builtin "BaseException.__getattribute__"))&&M7 K ↥C "__getattr__"==Z none&&M7 K ↥C "__class__"==Z (Z (.builtin "object.__class__")) &&
  RJ K (.builtin "object.__class__") "__get__"==Z (Z (.builtin "getset_descriptor.__get__"))&&SO K (.builtin "object.__class__")==Z true&&N8 K ↥C ↥C==Z true
structure Ex (K:KE)(C:MF):Prop where
 exc:Rl K C K4 IG=true
 cls:SL K C=true
 typ:Ph K ↥C=Z (.type "type")
 slf:N8 K ↥C ↥C=Z true
 obj:Rm K C (.type "object")=Z true
 bex:Rm K C (.type "BaseException")=Z true
 ga:M7 K ↥C "__getattribute__"=Z (Z (.builtin "BaseException.__getattribute__"))
 gn:M7 K ↥C "__getattr__"=Z none
 gc:M7 K ↥C "__class__"=Z (Z (.builtin "object.__class__"))
 get:RJ K (.builtin "object.__class__") "__get__"=Z (Z (.builtin "getset_descriptor.__get__"))
 tks:SO K (.builtin "object.__class__")=Z true
def af7 {K:KE}(h:K9 K C=true):Ex K C:=by unfold K9 at h;simp only[MX,NZ] at h;obtain⟨⟨⟨⟨⟨⟨⟨⟨⟨⟨a,b⟩,c⟩,d⟩,e⟩,f⟩,g⟩,i⟩,j⟩,k⟩,l⟩:=h;show⟨a,b,c,l,d,e,f,g,i,j,k⟩
def BM (K:KE)(i:Nat)(C:MF):Prop:=∃ x,A9[i]?=Z x/\Ay K x C
def Hv (K:KE):Bool:=(Dh K "TintError").any λT=>SL K T&&Ph K ↥T==Z (.type "type")&&N8 K ↥T (.type "BaseException")==Z true &&
 (NG 11).all λi=>(Dh K (A9.getD i "")).any λC=>K9 K C&&N8 K ↥C ↥T==Z true&&N8 K ↥C (.type "ValueError")==Z true &&
  (NG 11).all λj=>(Dh K (A9.getD j "")).any λD=>N8 K ↥C ↥D==Z (i==j)
def fq (h:o.any p=true):∃ a,o=Z a/\p a=true:=by
 cases o with
 |none=>cases h
 |some a=>show⟨a,U,h⟩
def r9 (h:A9[i]?=Z x):i<11/\A9.getD i ""=x:=by show⟨(Mp.mp h).1,by rw[QK,h];rfl⟩
section
variable {K:KE}(R:Hv K=true)
include R
def gi:∃ T,Ay K "TintError" T/\SL K T=true/\Ph K ↥T=Z (.type "type")/\N8 K ↥T (.type "BaseException")=Z true /\
  ∀ i C,BM K i C->Ex K C/\N8 K ↥C ↥T=Z true/\N8 K ↥C (.type "ValueError")=Z true/\∀ j D,BM K j D->N8 K ↥C ↥D=Z (i==j):=by
 unfold Hv at R;obtain⟨T,g,h⟩:=fq R;simp only[MX,NZ,NE] at h;obtain⟨⟨⟨u,s⟩,k⟩,n⟩:=h;refine⟨T,oQ g,u,s,k,λi C c=>?_⟩;obtain⟨x,o,c⟩:=c;obtain⟨q,v⟩:=r9 o;obtain⟨B,e,d⟩:=fq (n i (Od.mpr q));rw[v,gJ c] at e;cases e;simp only[MX,NZ,NE] at d;obtain⟨⟨⟨r,t⟩,f⟩,m⟩:=d;refine⟨af7 r,t,f,λj D a=>?_⟩;obtain⟨y,l,a⟩:=a;obtain⟨z,p⟩:=r9 l;obtain⟨A,e,b⟩:=fq (m j (Od.mpr z));rw[p,gJ a] at e;cases e;show NZ.mp b
def ads:∃ T,Ay K "TintError" T:=by obtain⟨T,h,_⟩:=gi R;show⟨T,h⟩
def b8 {i:Nat}(h:A9[i]?=Z x):∃ C,Ay K x C:=by unfold Hv at R;obtain⟨T,c,q⟩:=fq R;simp only[MX,NE] at q;obtain⟨a,b⟩:=r9 h;obtain⟨C,e,_⟩:=fq (q.2 i (Od.mpr a));rw[b] at e;show⟨C,oQ e⟩
def tH {i:Nat}(h:A9[i]?=Z x):∃ C,Ay K x C/\Rl K C K4 IG=true:=by obtain⟨C,a⟩:=b8 R h;obtain⟨T,_,_,_,_,q⟩:=gi R;show⟨C,a,(q i C ⟨x,h,a⟩).1.exc⟩
def adw (h:BM K i C):IY K C "TintError":=by obtain⟨T,d,a,c,b,q⟩:=gi R;refine⟨T,d,?_⟩;unfold Xj;rw[M' (by rw[b];rfl)];change(if((Qa K T).isSome&&Ph K ↥T==Z (.type "type"))=true then N8 K ↥C ↥T else none)=Z true;rw[M' (by rw[c,show(Qa K T).isSome=true from a];rfl)];show(q i C h).2.1
def adU (h:BM K i C)(g:BM K j D):Ov K ↥C ↥D=Z (i==j):=by
 obtain⟨T,k,c,f,e,q⟩:=gi R;obtain⟨d,_,_,a⟩:=q i C h;obtain⟨b,_⟩:=q j D g;have s:=a j D g;unfold Ov
 by_cases z:(MT C==MT D)=true
 .rw[M' z];have z:=Xs (NZ.mp z);subst z;rw[a i C h] at s;rw[<- s,QW]
 .rw[MZ z];change(if((Qa K D).isSome&&Ph K ↥D==Z (.type "type"))=true then N8 K ↥C ↥D else none)=_;rw[M' (by rw[b.typ,show(Qa K D).isSome=true from b.cls];rfl)];show s
def acD {i:Nat}(h:BM K i C)(g:Ay K "TintError" T):Ov K ↥C ↥T=Z true:=by
 obtain⟨a,d,b,c,f,q⟩:=gi R;have e:a=T:=by
  show Mn ((gJ d).symm.trans (gJ g))
 subst e;unfold Ov
 by_cases z:(MT C==MT a)=true
 .rw[M' z]
 .rw[MZ z];change(if((Qa K a).isSome&&Ph K ↥a==Z (.type "type"))=true then N8 K ↥C ↥a else none)=_;rw[M' (by rw[c,show(Qa K a).isSome=true from b];rfl)];show(q i C h).2.1
def abh (h:BM K i C):Ov K ↥C (.type "ValueError")=Z true:=by obtain⟨a,e,b,d,c,q⟩:=gi R;unfold Ov;rw[MZ (λz=>by cases NZ.mp z)];change(if Xe "ValueError"=true then N8 K ↥C (.type "ValueError") else none)=_;rw[M' zyB];show(q i C h).2.2.1
end
section
variable {prog:MY}{w:Nr}{A:Nw}{E:My}{s:Mt}{K:KE}{e C:MF}
def yZ (d:OY M h (WN tp name) (Z a)) (c:OY M h (specialOf a "__get__") (Z g)) (b:OY M h (WR a) true) :
  OY M h (Xr self tp name) (.bind g a):=
 d.andThen (U' (show OY M h (Xn (Z a)) (Z g) from c) (U' (show OY M h (VW (Z a) (Z g)) (Z (g,a)) from b.andThen .now) (PySem.W.Looks.tag .now)))
def ad2 (a:Ex K C) (X:K.In s.heap) (ty:OY (MW prog w) s.heap (typeOf ↥e) ↥C) (h:R (.ok (.ret ↥C)) s) :
  P0 (MW prog w) A (.call (.builtin "getset_descriptor.__get__") ⟨[.builtin "object.__class__",↥e,tp],[]⟩) R s:=by
 obtain⟨b,g,f,t,os⟩:=s;have d:=VS (M:=MW prog w) X a.obj;have c:=ty;refine QO V9.plain PySem.W.KF.entry_gs (V9.check _ _ _ _ _ _ _ _ PySem.W.KF.type_class (PySem.W.KF.args_gs _ _ _) ?_);unfold OJ.«getset_descriptor.__get__» VV;rw[PySem.W.dga_obj];refine HD (Mm ?_);unfold Vs T7 T_ Rb;simp only[PySem.W.KF.owner_class]
 repeat lk
 refine⟨S6 _ zyB,N0 PySem.W.KF.entry_class ?_⟩
 (unfold OJ.«object.__class__»;unfold shownTypeOf)
 repeat lk
 show h
def zn (a:Ex K C) (X:K.In s.heap) (ty:∀ M:Model,OY M s.heap (typeOf ↥e) ↥C) (h:Q (Z ↥C) { s with toks:=s.toks + 1 }) :
  MI (MW prog w) A (getAttr? ↥e "__class__") Q E s:=by
 obtain⟨f,g,d,t,os⟩:=s;have b:=ty (MW prog w);have k:=QN (M:=MW prog w) X a.ga;have l:=QN (M:=MW prog w) X a.gn;have j:=yZ (self:=↥e) (QN (M:=MW prog w) X a.gc) (PySem.W.looks_specialIn X a.get) (PySem.W.looks_takesIn X a.tks);unfold getAttr? getAttrBy? getAttrBy;refine HD (wpAny_mkText (HD (OO (Nv (HD (b.at (HD (k.at ?_))))))));have i:(Wf "BaseException.__getattribute__"==Wf "object.__getattribute__")=false:=zyB
 dsimp only;rw[i,RV,MZ M3];unfold getAttrByItsOwn;refine HD ((show OY (MW prog w) f (hookBefore ↥C) none from l).at (HD (OO (Nv ?_))));unfold callGetattribute;rw[Pg,MZ M3];unfold boundAndCalled;refine HD (RT (Uh.ga.bind _) ?_);have bk:builtinKind "BaseException.__getattribute__"=Z .slot:=zyB
 have c:splitId "BaseException.__getattribute__"=Z ("BaseException","__getattribute__"):=zyB
 refine P1 (QO Uh.ga.plain PySem.F.entry_bexc_ga ?_);change MI _ _ (UB "BaseException.__getattribute__" ⟨[↥e,.str "__class__" t],[]⟩) _ _ _;refine @PySem.W.check_slot (MW prog w) A.in1 _ ⟨f,g,d,t+1,os⟩ "BaseException.__getattribute__" "BaseException" "__getattribute__" ↥e [.str "__class__" t] [] _ bk c (b.andThen (VS X a.bex)) (PySem.F.args_bexc_ga _ _) ?_;unfold OJ.«object.__getattribute__»;refine HD (Mm (HD (Mm (HD (b.at (HD (j.at ?_)))))));change MI _ _ (Tj _ _ _ _) _ _ _;unfold Tj;show HD (Nv (P1 (ad2 a X b (Mm (PySem.W.handed_on rfl (Mm h))))))
def abD (a:Ex K C):PySem.W.KitX K ↥e ↥C (λh=>∃ f,h.get? e=Z f/\f.cls=↥C) where
 ty:=λ_ _ _ ⟨o,d,c⟩=>c▸(Sg d).andThen .now
 it:=λ_ _ X _=>by
  have z:PySem.W.kitCls K ↥C ↥C=Z true:=by
   change(if((Qa K C).isSome&&Ph K ↥C==Z (.type "type"))=true then N8 K ↥C ↥C else none)=_;rw[M' (by rw[a.typ,show(Qa K C).isSome=true from a.cls];rfl)];show a.slf
  show(PySem.W.kit_cls X z).2.1
 ne:=λh l m g n p X b=>by
  refine Wp.mpr λq=>?_
  have q:=Xs (NZ.mp q);subst q;obtain⟨o,i,j⟩:=MG.mp a.typ;cases((X _ _ i).symm.trans b);show absurd (Value.type.inj j) O
 ca:=λX ⟨o,d,c⟩ k=>zn a X (λM=>c▸(Sg d).andThen .now) k
end
def qo:Ny "ValueError"=Z (.type "ValueError"):=zyB
section
variable {K:KE}
def Mj (D:V)(d:Mo):Prop:=(∃ a,D=↥a/\d=↥a)\/∃ T,D=.ty T/\d=.type T
def K5 (K:KE):List V->Hp->VK->Prop:=λa H Q=>∃ (e C:MF) (D:V) (d:Mo) (b:Bool),a=[↥e,D]/\H e=Z (GD e C)/\Ex K C/\Mj D d/\Ov K ↥C d=Z b/\Q (.bl b) H
def iA (t:X.K=K):AI X (.builtin "isinstance") (K5 K):=by
 subst t;intro c s y H B A Q I r h;obtain⟨e,C,D,d,b,rfl,k,p,g,i,q⟩:=h;obtain⟨u,v,rfl,o,f⟩:=j9 r;cases(show u=MT e from o);have m:v=d:=by
  rcases g with ⟨a,rfl,rfl⟩|⟨T,rfl,rfl⟩
  .show f
  .show f
 subst m;obtain⟨⟨x,vs,n,l,_⟩,_⟩:=(show At X.prog X.w H s.heap e (GD e C) from I.hok e _ k)
 show Xd (abD p) I.kIn ⟨x,n,l⟩ i (λz=>nomatch z) λj=>⟨.bl b,H,I.tok j,U,q⟩
def LI (K:KE)(x:Str):TE:=λ_ H Q=>∀ D,Ay K x D->Q ↥D H
def dC (f:X.K=K)(d:Gl X x)(c:∃ D,Ay K x D)(e:(x==("__debug__":Str))=false<|>Cb):PE X (.Name x pos) (LI K x):=by subst f;refine⟨λa s g H Q I h=>?_⟩;obtain⟨D,b⟩:=c;show eB I d (Nn I.ok.mod.kin I.ok.mod.glob b) ⟨↥D,H,I,U,h D b⟩ e
theorem rl:∀ {xs:List V}{a:List Mo},Ah xs a->xs.all CP=true->a.countP (JQ y)=xs.countP (λz=>HZ z y)
 |_,_,.nil,_=>rfl
 |z::xs,u::a,.cons r t,f=>by
  rw[P7,MX] at f;rw[List.countP_cons,List.countP_cons,vX r f.1,rl t f.2]
def Jf:V->List V->Hp->VK->Prop:=λx vs H Q=>∃ l a y,x=↥l/\vs=[y]/\H l=Z (.lst a)/\CP y=true/\a.all CP=true/\Q ↑(a.countP (λz=>HZ z y)) H
def abq:Lw X "list.count" Jf:=by intro d s o H x vs v t Q I j k h;obtain⟨l,A,y,rfl,rfl,i,g,c,q⟩:=h;cases(show v=MT l from j);obtain⟨u,rfl,m⟩:=k.one;obtain⟨z,b,n,r,p,e⟩:=I.lstM i;refine RP Uj ⟨_,e,U⟩ PySem.F.entry_list_count (PySem.F.args_list_count_2 _ _) (PySem.SeqAt.list_countAt l b.toArray n none #[] u (JQ y)) ⟨e,λa f=>oY m g r c a (by simpa using f),?_⟩;rw[show b.toArray.toList=b from rfl,rl r c];show⟨↑_,H,I.tok _,⟨_,U⟩,q⟩
def Ji:V->List V->Hp->VK->Prop:=λx vs H Q=>∃ l b y,∃ j:Nat,x=↥l/\vs=[y]/\H l=Z (.lst b)/\CP y=true/\b.all CP=true/\⇑b<=1000/\(∃ a,b[j]?=Z a/\HZ a y=true)/\(∀ m a,m<j->b[m]?=Z a->HZ a y=false)/\Q ↑j H
def aa4:Lw X "list.index" Ji:=by
 intro D s T H x vs v us Q I N R h;obtain⟨l,A,y,j,rfl,rfl,L,J,B,C,⟨a,f,t⟩,k,q⟩:=h;cases(show v=MT l from N);obtain⟨u,rfl,S⟩:=R.one;obtain⟨z,b,n,r,hl,e⟩:=I.lstM L;have d:∀ (m:Nat) (i:m<b.toArray.size),∃ c,A[m]?=Z c/\JQ y b.toArray[m]=HZ c y:=λm i=>by
  have g:m<⇑b:=by simpa using i
  have o:m<⇑A:=by rw[⇑r];show g
  obtain⟨w,E,M⟩:=r.get (MC o);refine⟨A[m],MC o,?_⟩;have hw:b[m]=w:=by
   rw[MC g] at E;show Mn E
  rw[List.getElem_toArray,hw];show vX M (NE.mp B _ (Oy o))
 have G:j<b.toArray.size:=by
  have:=(Mp.mp f).1;rw[⇑r] at this
  simpa using this
 refine RP Uk ⟨_,e,U⟩ PySem.F.entry_list_index (PySem.F.args_list_index_2 _ _) (PySem.SeqAt.list_indexAt l b.toArray n none #[] u (JQ y) j G (by have:=(Mp.mp f).1;lia) ?_ ?_) ⟨e,λa f=>oY S J r B a (by simpa using f),?_⟩
 .obtain⟨c,c1,c2⟩:=d j G;rw[f] at c1;cases c1;rw[c2];show t
 .intro m i p;obtain⟨c,c1,c2⟩:=d m i;rw[c2];show k m c p c1
 .show⟨↑_,H,I.tok _,⟨_,U⟩,q⟩
end
def Rz (K:KE)(i:Nat)(H:Hp)(E:XK):Prop:=∀ C a,BM K i C->Aa H a->E ↥C none a
section
variable {K:KE}{i:Nat}{H H1:Hp}{E:XK}{σ:L2.St}
def Rz.out (h:Rz K i H E)(s:Aa H H1):Rz K i H1 (Fb (λ_ C H'=>E ↥C none H') σ):=λC H' k a=>⟨C,U,h C H' k (s\a)⟩
def Rz.now (h:Rz K i H E)(s:Aa H H1)(a:A9[i]?=Z x):∀ C,Ay K x C->E ↥C none H1:=λC b=>h C H1 ⟨x,a,b⟩ s
def Rz.caught (R:Hv K=true)(h:∀ C H' e,BM K i C->Aa H H'->H' e=none->th (Ga j D) (σ.set j (Z ↥e)) (upd H' e (GD e C))):Rz K i H (Fb (Jl K "TintError" j th D) σ):=
 λC H' k s=>⟨C,U,adw R k,λe a=>h C H' e k s a⟩
end
def KO (K:KE)(H:Hp)(i:Nat)(v:V):Prop:=∃ e C,v=↥e/\BM K i C/\H e=Z (GD e C)
def IB (l m:Int):NM->Bool
 |.int i=>decide (l<=i)&&decide (i<=m)
 |_=>false
def Af.at {K:KE}{i:Nat}(h:Af K H ds xs)(b:ds[i]?=Z d)(e:xs[i]?=Z x):Ad K H d x:=by obtain⟨f,a,c⟩:=h.get e;rw[b] at a;cases a;show c
section
variable {K:KE}{t r p:MF}{H0 H:Hp}{xs ys:List V}{ds es:List NM}
def afs {k:Int}{n:Nat}(d:k=n)(a:n<=1000)(h:H p=Z (.lst [v]))(q:∀ l,H l=none->Q ↥l (upd H l (.lst (MN n v)))):Jt ↥p ↑k H Q:=by
 subst d;refine⟨p,_,_,U,U,h,Y,Y,?_,λl b=>?_⟩
 .change 1*((n:Int)).toNat<=MO;have:(1000:Nat)<=MO:=O
  lia
 .have e:(MN ((n:Int)).toNat [v]).flatten=MN n v:=by
   rw[Ng];clear a q
   induction n with
   |zero=>rfl
   |succ n c=>rw[OU,QE,c];rfl
  rw[e];show q l b
def adM {k:Int}{n:Nat}(c:k=n)(a:n<=1000)(h:H p=Z (.lst [v]))(q:∀ l,H l=none->Q ↥l (upd H l (.lst (MN n v)))):tC ↑k σ H λy b=>Jt ↥p y b Q:=afs c a h q
end
def xT (z:Rat):shB (rD z)=true:=(show Ok (z.num.natAbs+z.den) z.num z.den from⟨by have:=z.den_pos;lia,z.reduced,by unfold Sm;show MK (Q6) (PP O (Qg _ _)),by unfold Sm;show MK (Q6) (PP O (Nat.le_add_left _ _))⟩).shB
def BN (K:KE)(x:Str)(fs:List Str):Bool:=(Dh K x).any λC=>QV K C Str.empty&&RI K C&&TZ K C&&M7 K ↥C "__setattr__"==Z (Z (.builtin "object.__setattr__")) &&
 SM K C&&M8 K ↥C&&fs.all λf=>M7 K ↥C f==Z none
structure Kt (K:KE)(x:Str)(fs:List Str)(C:MF):Prop where
 at_:Ay K x C
 cls:JL K C
 makes:SM K C=true
 kp:M8 K ↥C=true
 no:∀ f∈fs,EZ K C f
def kq {K:KE}(h:BN K x fs=true):∃ C,Kt K x fs C:=by unfold BN at h;obtain⟨C,e,q⟩:=fq h;simp only[MX,NZ,NE] at q;obtain⟨⟨⟨⟨⟨⟨a,b⟩,c⟩,d⟩,m⟩,k⟩,n⟩:=q;show⟨C,oQ e,⟨a,b,c,d⟩,m,k,λf g=>NZ.mp (by simpa using n f g)⟩
def bA {K:KE}(h:Ay K x C)(g:Ay K x D):C=D:=Mn ((gJ h).symm.trans (gJ g))
section
variable {K:KE}{o e value:OZ}{f x:Str}{fs0:List Str}{pos':Pos}{ta tv:TE}
inductive Mg (K:KE)(x f:Str)(v:V)(H:Hp)(Q:VK):Prop
 |mk (a C dx:MF) (fs:X5) (w:V) (_:v=↥a) (_:Ay K x C) (_:H a=Z (.ins C dx fs)) (_:fs.lookup f=Z w) (_:Q w H)
def KH (K:KE)(x:Str)(ta:TE)(f:Str):TE:=λa H Q=>ta a H λv b=>Mg K x f v b Q
def aX (A:X.K=K)(n:BN K x fs0=true)(j:f∈fs0)(he:PE X e ta)(i:Uq e f X.env (QA e X.env)=QA e X.env<|>C'):PE X (.Attribute e f pos) (KH K x ta f):=by subst A;obtain⟨D,d⟩:=kq n;refine ⟨λb s g H Q I h=>adN i (bo (he b s g H _ I h) λu F c=>?_)⟩;obtain⟨v,o,m,r,a,C,E,fs,w,p,k,t,l,q⟩:=c;subst p;cases bA k d.at_;obtain rfl:u=MT a:=r;show wV m t d.cls (d.no f j) l λG B z y=>⟨w,o,z,y,q⟩
def Kd (K:KE)(x:Str)(ta tv:TE)(f:Str):TS:=λD b H=>tv b H λy e=>ta b e λv d=>∃ a C c fs,v=↥a/\Ay K x C/\d a=Z (.ins C c fs)/\⇑fs<1000 /\
 D.nx b (upd d a (.ins C c (A8 f y fs)))
def eT (N:X.K=K) (A:BN K x fs0=true) (n:f ∈ fs0) (j:PE X o ta) (p:PE X value tv) (r:SX value (Z (.Attribute o f pos')) pos.line X.env=pure false<|>C') :
  PS X (.Assign [.Attribute o f pos'] value pos) (Kd K x ta tv f):=by
 subst N;obtain⟨E,e⟩:=kq A;refine ⟨λb s c H D I h=>plainObj_wpAny_Assign_Attribute (bo (p b s c H _ I h) λu L d=>?_) r⟩;obtain⟨y,B,z,i,q⟩:=d;refine bo (j b L c B _ z q) λov S g=>?_;obtain⟨v,R,M,G,a,C,T,fs,F,t,J,l,k⟩:=g;subst F;cases bA t e.at_;obtain rfl:ov=MT a:=G;show vN M J e.cls (e.no f n) l i λQ m=>⟨c,_,m,k⟩
end
abbrev HM (X:Cx)(o:OZ)(m:Str)(b:List OZ)(d:Sem Bool)(c a:Pos):Prop:=
 QA (.Call (.Attribute o m c) b [] a) X.env=(do let ov <- QA o X.env;VU c.atName;let (f,first) <- holding [ov] (getMethod ov m d);callWith a f first (Qx a (M0 b X.env)) (QI a (OX [] X.env)))
structure GY (P:MY)(w:Nr)(K:KE)(mg:O')(base:Oz)(CX:C_)(k:Nat)(x m:Str)(ps:List Str)(dvs:List V)(sp:Sp):Prop where
 ex:∃ (C f:MF) (fd:OQ) (ds:List Mo) (fs:List Str),Bw P w K mg base CX k f fd ps sp/\Kt K x fs C/\Ic K C m f/\mg x=Z ↥C/\Cr K fd ps ds/\Ah dvs ds
def Fx (K:KE)(x m:Str)(sp:Sp)(b:List V)(E:XK)(f:TE)(t:TA):TE:=λc H Q=>f c H λv d=>∃ a C g fs,v=↥a/\Ay K x C/\d a=Z (.ins C g fs)/\fs.lookup m=none /\
 t c d λvs e=>sp (v::(vs++b)) e Q E
def Iv (K:KE)(x:Str)(sp:Sp)(c:List V)(E:XK)(t:TA):TE:=λe H Q=>t e H λvs d=>∀ C a b,Ay K x C->d a=none->d b=none->b≠a ->
 sp (↥a::(vs++c)) (upd (upd d b (.own a)) a (.ins C b [])) (λv f=>v=.non/\Q ↥a f) E
def KP (K:KE)(x m:Str)(sp:Sp)(c:List V)(W:WX)(f:TE)(t:TA):TE:=λb H Q=>f b H λv d=>∃ a C g fs,v=↥a/\Ay K x C/\d a=Z (.ins C g fs)/\fs.lookup m=none /\
 t b d λvs e=>sp (v::(vs++c)) e Q (Fb W b)
variable {CX:C_}
section
variable {K:KE}{k:Nat}{x m:Str}{ps:List Str}{sp:Sp}{dvs:List V}{p apos:Pos}{o e:OZ}{es:List OZ}{ta:TE}{t:TA}{W:WX}
def eA (hK:X.K=K) (G:HN CX) (C:GY X.prog X.w X.K X.mg X.base CX k x m ps dvs sp) (T:Room k X.A) (he:PE X o ta) (B:PA X (e :: es) t)
  (c:M0 (e::es) X.env=(false,QA e X.env)::M0 es X.env<|>C')(d:(Qx pos (M0 es X.env)).any (·.1)=false<|>C')
  (S:HM X o m (e::es) pl apos pos<|>C'):PE X (.Call (.Attribute o m apos) (e::es) [] pos) (Fx K x m sp dvs E0 ta t):=by
 subst hK;obtain⟨D,f,fd,ds,fs0,F,y,n,_,L,N⟩:=C.ex;refine ⟨λb s j H Q I h=>Qv (bo (he b s j H _ I h) λu s1 g=>?_) S⟩;obtain⟨v,R,p,rv,a,E,dx,fs,ev,M,ea,l,q⟩:=g;subst ev;cases bA M y.at_;obtain rfl:u=MT a:=rv;refine iP p ea y.cls n l (PC I.ok.mod.kin n.kp (bo (B pos b s1 j R _ p q) λus s2 i=>?_) c d);obtain⟨vs,H2,z,r,J⟩:=i;show⟨z.kIn,tO (vs:=↥a::vs) F T L N (mr G) z (.cons rfl r) J⟩
def eJ (L:X.K=K) (j:HN CX) (C:GY X.prog X.w X.K X.mg X.base CX k x m ps dvs sp) (y:Room k X.A) (he:PE X o ta)
  (t:HM X o m [] pl apos pos<|>C'):PE X (.Call (.Attribute o m apos) [] [] pos) (Fx K x m sp dvs E0 ta Db):=by
 subst L;obtain⟨D,f,N,ds,J,F,g,e,_,n,r⟩:=C.ex;refine ⟨λb s i H Q I h=>Qv (bo (he b s i H _ I h) λu S d=>?_) t⟩;obtain⟨v,R,c,B,a,E,M,fs,z,p,G,l,q⟩:=d;subst z;cases bA p g.at_;obtain rfl:u=MT a:=B;show iP c G g.cls e l (PySem.W.callWith_K0 c.kIn e.kp (tO (vs:=[↥a]) F y n r (mr j) c (.cons rfl .nil) q))
def l9 (M:X.K=K) (u:HN CX) (C:GY X.prog X.w X.K X.mg X.base CX k x "__init__" ps dvs sp) (G:Room (k + 1) X.A) (z:Gl X x) (o:PA X (e :: es) t) (i:(x == ("__debug__":Str))=false<|>Cb)
  (he:M0 (e::es) X.env=(false,QA e X.env)::M0 es X.env<|>C')(d:(Qx pos (M0 es X.env)).any (·.1)=false<|>C'):PE X (.Call (.Name x p) (e::es) [] pos) (Iv K x sp dvs E0 t):=by
 subst M;obtain⟨D,f,N,ds,L,F,c,j,hmg,y,B⟩:=C.ex;refine ⟨λb s m H Q I h=>NX (eB I z hmg (PC I.ok.mod.kin c.kp (bo (o pos b s m H _ I h) λT S g=>?_) he d) i)⟩;obtain⟨vs,R,l,r,q⟩:=g;show⟨l.kIn,aaW ⟨c.makes,j.at_,j.fn,c.kp⟩ F G y B (mr u) l r λa v J E n=>q D a v c.at_ J E n⟩
def nY (hK:X.K=K) (B:JS X W) (C:GY X.prog X.w X.K X.mg X.base (Fj X.prog X.w) k x m ps dvs sp) (T:Room k X.A) (he:PE X o ta) (G:PA X (e :: es) t)
  (c:M0 (e::es) X.env=(false,QA e X.env)::M0 es X.env<|>C')(d:(Qx pos (M0 es X.env)).any (·.1)=false<|>C')
  (S:HM X o m (e::es) pl apos pos<|>C'):PE X (.Call (.Attribute o m apos) (e::es) [] pos) (KP K x m sp dvs W ta t):=by
 subst hK;obtain⟨D,f,fd,ds,fs0,F,y,n,_,L,N⟩:=C.ex;refine ⟨λb s j H Q I h=>Qv (bo (he b s j H _ I h) λu s1 g=>?_) S⟩;obtain⟨v,R,p,rv,a,E,dx,fs,ev,M,ea,l,q⟩:=g;subst ev;cases bA M y.at_;obtain rfl:u=MT a:=rv;refine iP p ea y.cls n l (PC I.ok.mod.kin n.kp (bo (G pos b s1 j R _ p q) λus s2 i=>?_) c d);obtain⟨vs,H2,z,r,J⟩:=i;show⟨z.kIn,yw (vs:=↥a::vs) F T L N B z (.cons rfl r) J⟩
end
structure BO (K:KE)(mg:O')(x m qual:Str)(st:On)(ps:List Str)(dvs:List V):Prop where
 ex:∃ (C f:MF) (fd:OQ) (oc:Mo) (od:Option MF) (dV kV doc pm:Mo) (an:Option MF) (cdv ct:Mo) (osl:S1) (ds:List Mo) (fs:List Str),
  fd=M5 m qual (Ak st) (Ai st) (Ab st) dV kV doc pm an cdv ct/\K.lookup f=Z ⟨oc,od,.func fd,osl⟩/\Nj K cdv qual=true /\
  Kt K x fs C/\Ic K C m f/\mg x=Z ↥C/\Cr K fd ps ds/\Ah dvs ds
section
variable {P:MY}{w:Nr}{K:KE}{mg:O'}{base:Oz}{x m qual:Str}{st:On}{N ps:List Str}{dvs:List V}{k:Nat}{sp:Sp}
def BO.cal (F:BO K mg x m qual st ps dvs) (S:Ac N ps (Ab st)) (len:(∀ vs H Q E,sp vs H Q E->⇑vs=⇑ps)<|>G5)
  (bb:∀ (f:MF) (b:Mo) (A:Nw) (a:List Env) (s:Mt) (H:Hp) (vs:List V) (Q:VK) (E:XK),Room k (A.deeper (envOfC qual (Ab st) s⁻¹ f b))->sp vs H Q E ->
   ∃ t,EH (DH CX P w K mg base N qual (Ab st) f b A a s H E).nox (Ai st) t/\t { nx:=λ_ H'=>Q .non H',rt:=Q } (B2 N vs) H):GY P w K mg base CX (k+1) x m ps dvs sp:=by
 obtain⟨C,f,v,y,B,D,kV,g,z,r,b,u,n,ds,fs,rfl,e,d,p,i,hmg,j,l⟩:=F.ex;refine⟨C,f,_,ds,fs,nZ e d S len λA a s H vs Q E o c=>?_,p,i,hmg,j,l⟩;obtain⟨t,h,q⟩:=bb f b A a s H vs Q E o c;show⟨t,h.nox,q⟩
def BO.calX (F:BO K mg x m qual st ps dvs) (S:Ac N ps (Ab st)) (len:(∀ vs H Q E,sp vs H Q E->⇑vs=⇑ps)<|>G5)
  (bb:∀ (f:MF) (b:Mo) (A:Nw) (a:List Env) (s:Mt) (H:Hp) (vs:List V) (Q:VK) (E:XK),Room k (A.deeper (envOfC qual (Ab st) s⁻¹ f b))->sp vs H Q E ->
   ∃ t,EH (DH CX P w K mg base N qual (Ab st) f b A a s H E) (Ai st) t/\t { nx:=λ_ H'=>Q .non H',rt:=Q } (B2 N vs) H):GY P w K mg base CX (k+1) x m ps dvs sp:=by
 obtain⟨C,f,u,v,z,B,kV,g,y,q,b,r,n,ds,fs,rfl,e,d,p,i,hmg,j,l⟩:=F.ex;show⟨C,f,_,ds,fs,nZ e d S len λA a s H vs Q E o c=>bb f b A a s H vs Q E o c,p,i,hmg,j,l⟩
def adH {fs:List Str}{C f:MF}{p:Mo}{r j:Option MF}{i:S1}{kV e n d k:Mo} (l:K.lookup f=Z ⟨p,r,.func (M5 m qual (Ak st) (Ai st) (Ab st) .none kV e n j d k),i⟩)
  (c:Nj K d qual=true)(u:M8 K ↥f=true)(s:O3 K ↥f=true)(a:ML K ME x=Z (Z ↥C))(b:M7 K ↥C m=Z (Z ↥f))(t:BN K x fs=true)(g:mg x=Z ↥C)
  (h:∀ o:List Mo,⇑o=⇑ps->QJ (M5 m qual (Ak st) (Ai st) (Ab st) .none kV e n j d k) ⟨o,[]⟩=pure (ps.zip o)):BO K mg x m qual st ps []:=by
 obtain⟨D,q⟩:=kq t;cases bA q.at_ a;show⟨_,f,_,p,r,.none,kV,e,n,j,d,k,i,[],fs,U,l,c,q,⟨b,s,u⟩,g,.all h,.nil⟩
end
abbrev Pt:=Int×Int
def Df (p:Pt):NM:=.tuple [↑p.1,↑p.2]
def IV (a:List Pt):NM:=.list (a.map Df)
structure Pt.In (p:Pt):Prop where
 a1:0<=p.1
 a2:p.1<=1000
 b1:0<=p.2
 b2:p.2<=1000
structure Ew (ps:List Pt):Prop where
 two:2<=⇑ps
 few:⇑ps<=12
 zero:∀ p,ps[0]?=Z p->p.1=0
 inn:∀ p∈ps,p.In
 up:∀ (i:Nat) (p q:Pt),ps[i]?=Z p->ps[i+1]?=Z q->p.1<q.1/\p.2<=q.2
def Ep (p q:Pt)(a:Rat):Rat:=(p.2:Rat)+((q.2:Rat)-(p.2:Rat))*(a-(p.1:Rat))/((q.1:Rat)-(p.1:Rat))
structure Hx (ps:List Pt)(a:Rat)(k:Nat)(p q:Pt):Prop where
 lo:ps[k]?=Z p
 hi:ps[k+1]?=Z q
 gt:k=0\/(p.1:Rat)<a
 le:a<=(q.1:Rat)
def GU (b:List Pt)(a v:Rat):Prop:=∃ k p q,Hx b a k p q/\v=Ep p q a
theorem Ew.mono (h:Ew ps):∀ (d i:Nat) (p q:Pt),ps[i]?=Z p->ps[i+d]?=Z q->p.1<=q.1/\p.2<=q.2/\(0<d->p.1<q.1)
 |0,i,p,q,g,f=>by
  rw[P6,g] at f;cases f;show⟨Ub _,Ub _,λz=>absurd z O⟩
 |d+1,i,p,q,g,f=>by
  have j:i+d<⇑ps:=by have:=(Mp.mp f).1;lia
  have k:ps[i+d]?=Z ps[i+d]:=MC j;obtain⟨a,b,_⟩:=Ew.mono h d i p _ g k;obtain⟨c,e⟩:=h.up (i+d) _ q k (by rw[Py];show f);show⟨Y,Y,λ_=>Y⟩
def yJ (h:Ew ps){a:Rat}(x:Hx ps a k p q)(y:Hx ps a j r s):p=r/\q=s:=by
 have b:∀ {k j:Nat}{p q r s:Pt},Hx ps a k p q->Hx ps a j r s->¬ k<j:=λ{k j p q r s} x y lt=>by
  obtain⟨d,rfl⟩:∃ d,j=k+1+d:=⟨j-(k+1),Y⟩
  obtain⟨m,_⟩:=h.mono d (k+1) q r x.hi y.lo;rcases y.gt with z|z
  .lia
  .have e:(q.1:Rat)<=(r.1:Rat):=by exact_mod_cast m
   have:=x.le;grind
 have e:k=j:=by
  have:=b x y;have:=b y x;lia
 subst e;show⟨Mn (x.lo.symm\y.lo),Mn (x.hi.symm\y.hi)⟩
def lE (h:Ew ps){a v w:Rat}(x:GU ps a v)(y:GU ps a w):v=w:=by obtain⟨k,p,q,s,rfl⟩:=x;obtain⟨j,r,t,u,rfl⟩:=y;obtain⟨rfl,rfl⟩:=yJ h s u;rfl
def kW (xs:List V)(h:1<=⇑xs):GN xs (Z 1) none=xs.drop 1:=by
 unfold GN;have a:HT.sIx ⇑xs 0 (Z 1)=1:=by
  simp[HT.sIx]
  try lia
 have b:HT.sIx ⇑xs ⇑xs none=⇑xs:=by simp[HT.sIx]
 rw[a,b];show Nh (by rw[Sf];show Mz _)
theorem Af.drop {K:KE}:∀ (n:Nat) {ds:List NM}{xs:List V},Af K H ds xs->Af K H (ds.drop n) (xs.drop n)
 |0,_,_,h=>h
 |_+1,_,_,.nil=>.nil
 |n+1,_,_,.cons _ t=>Af.drop n t
def lf {K:KE}{H:Hp}{b:List Pt}{xs:List V}{k:Nat}{p:Pt}(h:Af K H (b.map Df) xs)(e:b[k]?=Z p):∃ v,xs[k]?=Z v/\Ad K H (Df p) v:=by
 have c:=⇑h;rw[Mq] at c;have d:k<⇑xs:=by have:=(Mp.mp e).1;lia
 have a:xs[k]?=Z xs[k]:=MC d;refine⟨_,a,h.at ?_ a⟩;rw[Mw,e];rfl
def BP (K:KE)(H:Hp)(c:List Pt)(v:V):Prop:=∃ (a C b l:MF),v=↥a/\Ay K "Curve" C/\H a=Z (.ins C b [("points",↥l)])/\Ad K H (IV c) ↥l
def BP.same {K:KE}(s:Aa H H')(h:BP K H ps v):BP K H' ps v:=by obtain⟨a,C,d,l,e,c,b,f⟩:=h;show⟨a,C,d,l,e,c,s _ _ b,Ad.same s f⟩
def pM (h:xs.getLast?=Z v):He xs (-1)=Z v:=by
 rw[NJ] at h;have a:0<⇑xs:=by
  cases xs with
  |nil=>simp at h
  |cons _ _=>simp
 unfold He;have e:G_ ⇑xs (-1)=Z (⇑xs-1):=by
  unfold G_;simp;lia
 rw[e];show h
def u5 {K:KE}{H:Hp}{a:List Pt}{xs:List V}{z:Pt}(h:Af K H (a.map Df) xs)(e:a.getLast?=Z z):∃ v,xs.getLast?=Z v/\Ad K H (Df z) v:=by rw[NJ] at e;obtain⟨v,b,c⟩:=lf h e;refine⟨v,?_,c⟩;rw[NJ,<- ⇑h,Mq];show b
def aas {a:Rat}(h:p.1<q.1):Ep p q a=((p.2*(q.1-p.1)*(a.den:Int)+(a.num-p.1*(a.den:Int))*(q.2-p.2):Int):Rat)/(((q.1-p.1)*(a.den:Int):Int):Rat):=by
 have c:((q.1:Rat)-(p.1:Rat))≠0:=λz=>by
  have e:((q.1-p.1:Int):Rat)=((0:Int):Rat):=by rw[M6];show z
  have e:q.1-p.1=0:=by exact_mod_cast e
  lia
 have g:=i6 a;have b:=h_ a;unfold Ep;rw[Oa,MU,MU,MU,MU,M6,M6,M6,MU];generalize ((a.den:Int):Rat)=d at *;generalize (a.num:Rat)=n at *;generalize (p.1:Rat)=i at *;generalize (p.2:Rat)=j at *;generalize (q.1:Rat)=k at *;generalize (q.2:Rat)=f at *;subst b;grind
def vF (h:Ew ps){a c:Rat}(f:Bq k a)(x:GU ps a c):Bq (k+23) c:=by
 obtain⟨j,p,q,s,rfl⟩:=x;have l:=(h.up j p q s.lo s.hi).1;have b:=h.inn p (MD s.lo);have g:=h.inn q (MD s.hi);have d:∀ {i:Int},0<=i->i<=1000->Sm 10 i:=λo n=>by unfold Sm;lia
 have e:∀ {i j:Int},0<=i->i<=1000->0<=j->j<=1000->Sm 11 (i-j):=λo n r t=>by unfold Sm;lia
 have m:Sm 11 (q.1-p.1):=e g.a1 g.a2 b.a1 b.a2;rw[aas l];refine dE (OK Y (by exact_mod_cast a.den_nz)) ?_ ((m.mul f.sd).mono Y);show((((d b.b1 b.b2).mul m).mul f.sd).mono (show 10+11+k<=k+22 by lia)).add ((((f.sn.mono (show k<=10+k by lia)).sub ((d b.a1 b.a2).mul f.sd)).mul (e g.b1 g.b2 b.b1 b.b2)).mono (show 10+k+1+11<=k+22 by lia))
def Cv {α:Type}(n m:Nat)(ds a b:List α):List α:=cond (W_ ⇑a n&&W_ ⇑b m) (a++(b++ds)) []
def u7 (c:Ah dvs ds)(a:Ah vs us)(b:Ah zs ws):Ah (Cv n m dvs vs zs) (Cv n m ds us ws):=by
 unfold Cv;rw[⇑a,⇑b];cases W_ ⇑us n&&W_ ⇑ws m
 .show .nil
 .show a.append (b.append c)
def vk (h:⇑(Cv n m ds us ws)=k+1):⇑us=n/\⇑ws=m/\Cv n m ds us ws=us++(ws++ds):=by
 unfold Cv at h ⊢;cases z:W_ ⇑us n&&W_ ⇑ws m with
 |false=>rw[z] at h;cases h
 |true=>
  rw[MX] at z;show⟨U6 z.1,U6 z.2,U⟩
def af0 {K:KE}{n m:Nat} (h:∀ d e:List Mo,⇑d=n->⇑e=m->QJ fd ⟨d,ks.zip e⟩=pure ((p :: ps).zip (d ++ e))) :
  C4 K fd (p::ps) ks (Cv n m []) (Cv n m []):=
 ⟨λs d e _ f=>by
  obtain⟨a,b,c⟩:=vk f;rw[c,SF];show .of_eq (h d e a b),λa b=>u7 .nil a b⟩
structure DV (P:MY)(w:Nr)(K:KE)(mg:O')(base:Oz)(CX:C_)(k:Nat)(x m:Str)(ps ks:List Str)(n j:Nat)(dvs:List V)(sp:Sp):Prop where
 ex:∃ (C f:MF) (fd:OQ) (ds:List Mo) (fs:List Str),Bw P w K mg base CX k f fd ps sp/\Kt K x fs C/\Ic K C m f/\mg x=Z ↥C/\C4 K fd ps ks (Cv n j ds) (Cv n j dvs)
def Ks (K:KE)(x:Str)(sp:Sp)(h:X4)(E:XK)(e:TA):TE:=λd H Q=>e d H λf c=>∀ C a b,Ay K x C->c a=none->c b=none->b≠a ->
 sp (h [↥a] f) (upd (upd c b (.own a)) a (.ins C b [])) (λv g=>v=.non/\Q ↥a g) E
section
variable {K:KE}{W:WX}{k n j:Nat}{x:Str}{ps ks:List Str}{sp:Sp}{dvs:List V}{p:Pos}{tk:TA}{kws:List SE}
def acw (M:Mk X.K C f) (F:Bw X.prog X.w X.K X.mg X.base CX k f fd ps sp) (q:Room (k + 1) X.A)
  (j:C4 X.K fd ps ks g gV)(p:∀ J:Hp,∀ s1:Mt,Ag X pins σ J s1->∀ e c,CX X.stack J s1 E e c->X.xe e c)(I:Ag X pins σ H s)(m:Ah zs ws)
  (h:∀ a d,H a=none->H d=none->d≠a->sp (gV [↥a] zs) (upd (upd H d (.own a)) a (.ins C d [])) (λv n=>v=.non/\Q ↥a n) E):
  MI (MW X.prog X.w) X.A (call ↥C [] (ks.zip ws)) (EP X pins σ Q) X.xe s:=by
 have hq:=h (s⁻¹+1) s⁻¹ (I.hok.fresh (Q5 _)) (I.hok.fresh (Mz _)) (MH (N_ _));have J:=Ag.made (C:=C) I;have i:=j.rel (show Ah [V.ref (s⁻¹+1)] [MT (s⁻¹+1)] from .cons rfl .nil) m;refine P1 (pG I.kIn M.makes M.init (NZ.mp M.fn) (PF (F.run _ X.stack _ _ ⟨[MT (s⁻¹+1)],ks.zip ws⟩ (g [MT (s⁻¹+1)] ws) _ _ E (q.make C [] (ks.zip ws))
  (J.env0.make C [] (ks.zip ws)) (j.to _ [MT (s⁻¹+1)] ws J.kIn (i.length.symm\F.len _ _ _ _ hq)) i hq) λz c b=>?_))
 match z,b with
 |.error v,b=>show p _ _ J v c b
 |.ok (.ret u),b=>
  obtain⟨v,o,l,t,r,x⟩:=J.after b;subst r;show⟨t,⟨V.ref (s⁻¹+1),o,l,U,x⟩⟩
def xM (hK:X.K=K) (y:HN CX) (C:DV X.prog X.w X.K X.mg X.base CX k x "__init__" ps ks n j dvs sp) (R:Room (k + 1) X.A) (M:Gl X x) (i:PK X kws tk)
  (b:(QI pos (OX kws X.env)).all (·.1.isSome)=true<|>C')(o:(QI pos (OX kws X.env)).filterMap (·.1)=ks<|>C')(m:(x==("__debug__":Str))=false<|>Cb)
  (g:((Qx pos (M0 [] X.env)).any (·.1)||(QI pos (OX kws X.env)).any (·.1.isNone))=false<|>C'):
  PE X (.Call (.Name x p) [] kws pos) (Ks K x sp (Cv n j dvs) E0 tk):=by
 subst hK;obtain⟨D,f,fd,ds,T,F,d,q,hmg,G⟩:=C.ex;refine ⟨λc s t H Q I h=>NX (eB I M hmg (PySem.W.callWith_KW0 I.ok.mod.kin d.kp b (bo (i pos c s t H _ I h) λws s2 l=>?_) g) m)⟩;obtain⟨zs,H2,r,u,B⟩:=l;refine⟨r.kIn,?_⟩;rw[o];show acw ⟨d.makes,q.at_,q.fn,d.kp⟩ F R G (λJ s1 L e s' z=>(mr y) _ _ _ _ _ _ L z) r u λa E S N v=>B D a E d.at_ S N v
end
structure BU (K:KE)(mg:O')(x m qual:Str)(st:On)(ps ks:List Str)(n j:Nat)(dvs:List V):Prop where
 ex:∃ (C f:MF) (fd:OQ) (oc:Mo) (od:Option MF) (dV kV doc pm:Mo) (an:Option MF) (cdv ct:Mo) (osl:S1) (ds:List Mo) (fs:List Str),
  fd=M5 m qual (Ak st) (Ai st) (Ab st) dV kV doc pm an cdv ct/\K.lookup f=Z ⟨oc,od,.func fd,osl⟩/\Nj K cdv qual=true /\
  Kt K x fs C/\Ic K C m f/\mg x=Z ↥C/\C4 K fd ps ks (Cv n j ds) (Cv n j dvs)
section
variable {P:MY}{w:Nr}{K:KE}{mg:O'}{base:Oz}{x m qual:Str}{st:On}{N ps ks:List Str}{n j:Nat}{dvs:List V}{k:Nat}{sp:Sp}
def BU.cal (F:BU K mg x m qual st ps ks n j dvs) (S:Ac N ps (Ab st)) (len:(∀ vs H Q E,sp vs H Q E->⇑vs=⇑ps)<|>G5)
  (bb:∀ (f:MF) (b:Mo) (A:Nw) (a:List Env) (s:Mt) (H:Hp) (vs:List V) (Q:VK) (E:XK),Room k (A.deeper (envOfC qual (Ab st) s⁻¹ f b))->sp vs H Q E ->
   ∃ t,EH (DH CX P w K mg base N qual (Ab st) f b A a s H E).nox (Ai st) t/\t { nx:=λ_ H'=>Q .non H',rt:=Q } (B2 N vs) H):DV P w K mg base CX (k+1) x m ps ks n j dvs sp:=by
 obtain⟨C,f,y,z,D,G,kV,g,B,u,b,v,o,ds,fs,rfl,e,d,r,i,hmg,l⟩:=F.ex;refine⟨C,f,_,ds,fs,nZ e d S len λA a s H vs Q E p c=>?_,r,i,hmg,l⟩;obtain⟨t,h,q⟩:=bb f b A a s H vs Q E p c;show⟨t,h.nox,q⟩
def kN {p:Str}{ps fs:List Str}{C f:MF}{t:Mo}{v k:Option MF}{i:S1}{kV e r d o:Mo} (l:K.lookup f=Z ⟨t,v,.func (M5 m qual (Ak st) (Ai st) (Ab st) .none kV e r k d o),i⟩)
  (c:Nj K d qual=true)(A:M8 K ↥f=true)(y:O3 K ↥f=true)(a:ML K ME x=Z (Z ↥C))(b:M7 K ↥C m=Z (Z ↥f))(z:BN K x fs=true)(g:mg x=Z ↥C)
  (h:∀ s q:List Mo,⇑s=n->⇑q=j->QJ (M5 m qual (Ak st) (Ai st) (Ab st) .none kV e r k d o) ⟨s,ks.zip q⟩=pure ((p::ps).zip (s++q))):BU K mg x m qual st (p::ps) ks n j []:=by
 obtain⟨D,u⟩:=kq z;cases bA u.at_ a;show⟨_,f,_,t,v,.none,kV,e,r,k,d,o,i,[],fs,U,l,c,u,⟨b,y,A⟩,g,af0 h⟩
end
structure LS (P:MY)(w:Nr)(K:KE)(mg:O')(base:Oz)(CX:C_)(k:Nat)(v:V)(sp:Sp):Prop where
 ex:∃ (f:MF) (fd:OQ) (ps:List Str),v=↥f/\Bw P w K mg base CX k f fd ps sp/\M8 K ↥f=true/\Cr K fd ps []
def ID.fnV {K:KE}{j k:Nat}(C:ID P w K mg base CX j x ps [] sp)(h:mg x=Z ↥f)(l:j<=k):LS P w K mg base CX k ↥f sp:=by obtain⟨g,b,ds,F,a,e,c,d⟩:=C.ex;rw[h] at a;cases a;cases d;show⟨f,b,ps,U,F.mono l,e,c⟩
def KQ (P:MY)(w:Nr)(K:KE)(mg:O')(base:Oz)(CX:C_)(k i:Nat)(t:TA):TE:=λb H Q=>∃ v,b[i]?=Z (Z v)/\∃ a,LS P w K mg base CX k v a/\t b H λvs c=>a vs c Q E0
def ac1 {K:KE}{k i:Nat} (z:X.prog=P) (hw:X.w=w) (T:X.K=K) (hmg:X.mg=mg) (c:X.base=base) (n:HN CX) (M:Room k X.A)
  (D:PE X (.Name x p) (BC i))(m:PA X (e::es) t)
  (he:M0 (e::es) X.env=(false,QA e X.env)::M0 es X.env<|>C')(b:(Qx pos (M0 es X.env)).any (·.1)=false<|>C'):PE X (.Call (.Name x p) (e::es) [] pos) (KQ P w K mg base CX k i t):=by
 subst z hw T hmg c;refine⟨λa s j H Q I h=>?_⟩;obtain⟨v,J,sp,F,h⟩:=h;obtain⟨f,fd,ps,rfl,F,E,C⟩:=F.ex;refine NX (bo (D a s j H (λS o=>S=V.ref f/\o=H) I ⟨_,J,U,U⟩) λu R d=>?_);obtain⟨v1,L,G,N,B,y⟩:=d;subst B y;cases N;refine PC I.ok.mod.kin E (bo (m pos a R j L _ G h) λus s2 g=>?_) he b;obtain⟨vs,H2,l,r,q⟩:=g;show⟨l.kIn,tO F M C .nil (mr n) l r (by rw[SF];show q)⟩
structure FG (K:KE)(w:Nr)(mg:O')(D:MF)(kvs:List (Str×Str)):Prop where
 ex:∃ (es:Array OS) (n:Nat),K.lookup D=Z ⟨.type "dict",none,.dict es n,#[]⟩/\Xc w.params es.toList/\Tc (λ(e:OS) (p:Str×Str)=>∃ t f,e.key=.str p.1 t/\e.val=↥f/\mg p.2=Z ↥f) es.toList kvs
 lo:(D==Oe)=false
theorem uN {mg:O'}:∀ {l:List OS}{c:List (Str × MF)}{kvs:List (Str × Str)},Tc (fun (e:OS) (p:Str × MF)=>∃ t,e.key=.str p.1 t/\e.val=↥p.2) l c ->
  Tc (λ(p:Str×MF) (q:Str×Str)=>p.1=q.1/\mg q.2=Z ↥p.2) c kvs->Tc (λ(e:OS) (p:Str×Str)=>∃ t f,e.key=.str p.1 t/\e.val=↥f/\mg p.2=Z ↥f) l kvs
 |[],_,_,a,b=>by cases a;cases b;show .nil
 |_::_,_,_,a,b=>by
  cases a with
  |cons h r=>
   cases b with
   |cons q s=>
    obtain⟨t,d,g⟩:=h;show .cons ⟨t,_,by rw[d,q.1],g,q.2⟩ (uN r s)
theorem uv {mg:O'}{x:Str}:∀ {l:List OS}{kvs:List (Str × Str)},Tc (fun (e:OS) (p:Str × Str)=>∃ t f,e.key=.str p.1 t/\e.val=↥f/\mg p.2=Z ↥f) l kvs ->
  (match kvs.lookup x with|some n=>∃ f e,l.find? (λd=>PD x d.key)=Z e/\e.val=↥f/\mg n=Z ↥f|none=>l.find? (λd=>PD x d.key)=none)
 |[],_,h=>by cases h;rfl
 |e::l,_,h=>by
  cases h with|@cons _ p _ kvs h r=>?_
  obtain⟨a,b⟩:=p;obtain⟨t,f,i,g,c⟩:=h;rw[NT,O1,i];have q:PD x (.str a t)=(x==a):=by
   change decide _=_;rw[Qn];show UC.mpr ⟨Eq.symm,Eq.symm⟩
  rw[q];cases z:x==a with
  |true=>show⟨f,e,U,g,c⟩
  |false=>show uv r
section
variable {K:KE}{w:Nr}{mg:O'}{kvs:List (Str×Str)}
def LB (K:KE)(w:Nr)(mg:O')(kvs:List (Str×Str)):TE:=λ_ H Q=>∀ D,FG K w mg D kvs->Q ↥D H
def aaQ (c:Gl X x)(b:∃ D,X.mg x=Z ↥D/\FG K w mg D kvs)(d:(x==("__debug__":Str))=false<|>Cb):PE X (.Name x pos) (LB K w mg kvs):=by refine⟨λa s g H Q I h=>?_⟩;obtain⟨D,e,f⟩:=b;show eB I c e ⟨↥D,H,I,U,h D f⟩ d
def JI (K:KE)(w:Nr)(mg:O')(kvs:List (Str×Str)):R2:=λx y H Q=>∃ a D,x=.str a/\y=↥D/\FG K w mg D kvs/\Q (.bl (kvs.lookup a).isSome) H
def xI {h:Oz}{prog:MY}{D:MF} (X:K.In h) (T:FG K w mg D kvs):∃ es:Array OS,h.MapOf (strKind prog w) D (fun k=>findBy PD es k)/\∀ x,match kvs.lookup x with
  |some n=>∃ f,findBy PD es x=Z ↥f/\mg n=Z ↥f
  |none=>findBy PD es x=none:=by
 obtain⟨es,n,l,g,c⟩:=T.ex;refine⟨es,PySem.W.mapOf_K X l g,λx=>?_⟩;have q:=uv (x:=x) c;obtain⟨es⟩:=es;unfold findBy;cases z:kvs.lookup x with
 |none=>
  rw[z] at q;simp only[V4];rw[q];rfl
 |some n=>
  rw[z] at q;obtain⟨f,e,d,a,b⟩:=q;refine⟨f,?_,b⟩;simp only[V4];rw[d];change Z e.val=_;rw[a]
def ab8 (k:X.K=K)(hw:X.w=w):Ct X (Ow .In) (JI K w mg kvs):=by
 subst k hw;intro b s l H x y v u Q I j c h;obtain⟨a,D,rfl,rfl,T,q⟩:=h;obtain⟨t,rfl⟩:=j;cases c;obtain⟨g,d,i⟩:=xI I.kIn T;refine wpAny_in_of (strKind_is X.prog X.w a t) T.lo d ?_;have e:(findBy PD g a).isSome=(kvs.lookup a).isSome:=by
  have z:=i a;cases y:kvs.lookup a with
  |none=>rw[y] at z;rw[z];rfl
  |some n=>rw[y] at z;obtain⟨f,z,_⟩:=z;rw[z];rfl
 show wO (I.tok _) q e.symm
def Jp (K:KE)(w:Nr)(mg:O')(kvs:List (Str×Str)):R2:=λx y H Q=>∃ a n D,x=↥D/\y=.str a/\FG K w mg D kvs/\kvs.lookup a=Z n/\∀ f,mg n=Z ↥f->Q ↥f H
def afw (o:X.K=K)(hw:X.w=w):Ij X (Jp K w mg kvs):=by subst o hw;intro c b e s p H x y v u Q I l i h k;obtain⟨a,n,D,rfl,rfl,T,m,q⟩:=h;obtain⟨t,rfl⟩:=i;cases l;obtain⟨r,d,j⟩:=xI I.kIn T;have z:=j a;rw[m] at z;obtain⟨f,z,g⟩:=z;show tail_any d.typeIs slot_dict_getitem.lookup (wpAny_getItem_of (strKind_is X.prog X.w a t) d z ⟨↥f,H,I.tok _,U,q f g⟩) k
end
def Ho:List String:=["NoneType","bool","int","str","list","tuple","dict"]
def Jy (K:KE)(x:Str):Bool:=(Dh K x).any λC=>M7 K ↥C "__class__"==Z (Z (.builtin "object.__class__"))&&RJ K (.builtin "object.__class__") "__get__"==Z (Z (.builtin "getset_descriptor.__get__")) &&
 SO K (.builtin "object.__class__")==Z true&&Rm K C (.type "object")==Z true&&Ho.all λT=>Ov K (.type T) ↥C==Z false
def K6 (K:KE)(x:Str):List V->Hp->VK->Prop:=λc H Q=>∃ v C,c=[v,↥C]/\Ay K x C/\((∃ a b fs,v=↥a/\H a=Z (.ins C b fs)/\Q (.bl true) H)\/∃ T,Ty K H v T/\T∈Ho/\Q (.bl false) H)
def yl {K:KE}(y:X.K=K)(o:BN K x fs0=true)(n:Jy K x=true):AI X (.builtin "isinstance") (K6 K x):=by
 subst y;intro d s A H G F Q I r h;obtain⟨v,C,rfl,i,h⟩:=h;obtain⟨u,w,rfl,f,c⟩:=j9 r;cases(show w=MT C from c);obtain⟨D,g⟩:=kq o;cases bA i g.at_;obtain⟨E,e,q⟩:=fq n;rw[gJ i] at e;cases e;simp only[MX,NZ,NE] at q;obtain⟨⟨⟨⟨l,k⟩,z⟩,t⟩,m⟩:=q;rcases h with ⟨a,B,fs,rfl,j,h⟩|⟨T,ty,p,h⟩
 .show lS I f (.ins j g.cls l k z t) (by unfold Ov;rw[M' (QW _)]) λb=>⟨.bl true,H,I.tok b,U,h⟩
 .show lS I f ty (m T p) λb=>⟨.bl false,H,I.tok b,U,h⟩
def jL {K:KE}(h:BN K x fs=true):∃ C,Ay K x C:=by obtain⟨C,a⟩:=kq h;show⟨C,a.at_⟩
section
variable {K:KE}
def aej (r:Ah [x,y,z] us):∃ u v w,us=[u,v,w]/\Ao x u/\Ao y v/\Ao z w:=by
 cases r with
 |cons a r=>
  obtain⟨u,v,rfl,b,c⟩:=j9 r;show⟨_,u,v,U,a,b,c⟩
end
namespace ZF
def noFillT:fillsNumberSlot (.type "tuple") "mul"=pure false:=PySem.fillsNumberSlot_seq (id:="tuple.__mul__") (r:=Z (.builtin "tuple.__rmul__")) Ru.lookup zyB Ul.lookup zyB
def repT:seqRepeat? (.type "tuple")=pure (Z (.builtin "tuple.__mul__")):=by unfold seqRepeat?;rw[W6 (name:="__mul__") Ru.lookup zyB];rw[W6 (name:="__rmul__") Ul.lookup zyB];rfl
def rmulT (a:Int) (t:Tok) (l:MF) (items:Array Mo) (n:Nat) (dd:Option MF) (c:S1) :
  Meets (OJ.«int.__rmul__» ⟨[.int a t,↥l],[]⟩) (λ_ R s=>s>>l=Z ⟨.type "tuple",dd,.seq items n,c⟩/\R (.ok (.ret Value.notImplemented)) s):=.of_wp λb w A R s h=>by
 obtain⟨f,g,d,e,os⟩:=s;obtain⟨i,h⟩:=h
 wp_walk
 show⟨_,U,h⟩
def mulT3 (t:Tok) (l:MF) (x:Mo) (n:Nat) (dd:Option MF) (b:S1) :
  Meets (OJ.«tuple.__mul__» ⟨[↥l,.int 3 t],[]⟩) (λ_ R s=>s>>l=Z ⟨.type "tuple",dd,.seq #[x] n,b⟩/\R (.ok (.ret ↥s⁻¹)) { s with heap:=s.heap.push { cls:=.type "tuple",data:=.seq #[x,x,x] } }):=.of_wp λa w A R s h=>by
 obtain⟨i,g,d,f,os⟩:=s;obtain⟨c,h⟩:=h;have e:=PySem.AutoSeq1.idx_int;have j:=PySem.AutoSeq1.sub_tuple_tuple
 wp_walk using wpAny_loadPart' c
 show⟨_,U,h⟩
end ZF
def Kk:R2:=λx y H Q=>∃ a z,x=↥a/\y=↑3/\H a=Z (.tup [z])/\∀ p,H p=none->Q ↥p (upd H p (.tup [z,z,z]))
def yx:Ct X (RX .Mult) Kk:=by
 intro g s C H x y v u Q I A l h;obtain⟨a,z,rfl,rfl,m,q⟩:=h;cases A;obtain⟨t,rfl⟩:=l;obtain⟨p,r,B,_⟩:=I.tuple (AZ.of m);obtain⟨v,rfl,f⟩:=fV r;obtain⟨o,e,c,n,d⟩:=B;obtain⟨D,i,E,j⟩:=o;simp only at c d;subst c d;refine Tx O ⟨_,e,U⟩ (λk=>Vq k 3 t) ZF.noFillT V0 Rf ZF.repT VM.lookup
  (RP Rf (Vq s 3 t) VL (Vu _ _) (ZF.rmulT 3 t a #[v] n i j)
   ⟨e,U,⟨_,e,U⟩,RP Ru ⟨_,e,U⟩ PySem.F.entry_tuple_mul (PySem.F.args_tuple_mul_2 _ _) (ZF.mulT3 t a v n i j) ⟨e,?_⟩⟩)
 refine⟨↥s⁻¹,upd H s⁻¹ (.tup [z,z,z]),I.laid (λb u e=>Ml _ e) (Mz _) ?_,U,q _ (I.hok.fresh (Mz _))⟩;show⟨(O:3<=MO),[v,v,v],.cons f (.cons f (.cons f .nil)),⟨_,Ms _ U,U,_,U⟩⟩
structure En where
 w:R3
 b:R3
structure En.In (e:En):Prop where
 a0:0<=e.b.a
 a1:e.b.a<e.w.a
 a2:e.w.a<=1000
 b0:0<=e.b.b
 b1:e.b.b<e.w.b
 b2:e.w.b<=1000
 c0:0<=e.b.c
 c1:e.b.c<e.w.c
 c2:e.w.c<=1000
def T3 (K:KE)(H:Hp)(r:R3)(v:V):Prop:=∃ p,v=↥p/\AZ K H p r.vs
def tY (n:Int):rD (n:Rat)=F8 n 1:=by change F8 (n:Rat).num ((n:Rat).den:Int)=_;rw[PY,PX];rfl
def fJ (n:Int):((n:Int):Rat)/((1:Int):Rat)=(n:Rat):=by have:((1:Int):Rat)=1:=U;rw[this];grind
def lP {n:Int}(h:Sm k n)(a:0<k):Bq k (n:Rat):=by
 rw[<- (fJ n)];refine dE O h ?_;unfold Sm;have:=Nat.one_lt_two_pow (n:=k) Y
 simpa using this
def afT {n:Int}(a:-1000<=n)(h:n<=1000):Sm 10 n:=by unfold Sm;lia
def R3.at {r:R3}{i:Nat}{d:NM}(h:r.ds[i]?=Z d):∃ n,d=↑n/\((i=0/\n=r.a)\/(i=1/\n=r.b)\/(i=2/\n=r.c)):=by
 rcases j7 h with ⟨rfl,rfl⟩|⟨rfl,rfl⟩|⟨rfl,rfl⟩
 .show⟨_,U,.inl ⟨U,U⟩⟩
 .show⟨_,U,.inr (.inl ⟨U,U⟩)⟩
 .show⟨_,U,.inr (.inr ⟨U,U⟩)⟩
def Ll (b w:Int)(q:Rat):Bool:=decide (b*(q.den:Int)<=q.num)&&decide (q.num<=w*(q.den:Int))
noncomputable def En.has (e:En)(c:Q3):Bool:=Ll e.b.a e.w.a c.a&&(Ll e.b.b e.w.b c.b&&(Ll e.b.c e.w.c c.c&&true))
section
variable {K:KE}{g:TG}{tt:TT}{te:TE}{σ0:L2.St}{Fin:SS}{H1:Hp}
def wz {t r D:MF}{xs:List V}{Pn:Nat->Int->Prop} (s:Az H1 t r) (A:H1 D=Z (.lst xs)) (u:D ∉ [t,r]) (F:⇑xs <= 1000)
  (he:∀ i x H,xs[i]?=Z x->Az H t r->Mv [t,r] H1 H->Cc g tt te σ0 x H λy H'=>Az H' t r/\Mv [t,r] H H'/\∃ n,Pn i n/\y=↑n)
  (C:∀ (ns:List Int) H,⇑ns=⇑xs->(∀ i n,ns[i]?=Z n->Pn i n)->Az H t r->Mv [t,r] H1 H->Fin (ns.map V.int) H):Bi (Hf K D true) g tt te σ0 Fin H1:=by
 refine dU (λi b H=>Az H t r/\Mv [t,r] H1 H/\∃ ns:List Int,b=ns.map V.int/\⇑ns=i/\∀ j n,ns[j]?=Z n->Pn j n) ⟨s,Mv.refl,[],U,U,λj n h=>by simp at h⟩ F (λi b H _ p=>?_) (λi x b H z p R S v _=>?_) λb H p=>?_
 .obtain⟨_,mv,ns,rfl,d,_⟩:=p;show⟨An.of (mv _ _ A u),by rw[Mq,d];show Mz _⟩
 .obtain⟨a,mv,ns,rfl,rfl,f⟩:=p;refine he _ x H z a mv R (λy H' m=>?_) S;obtain⟨l,o,n,E,B⟩:=m;refine v y H' ⟨l,mv\o,ns++[n],by rw[B,Nx];rfl,zyA,λj k c=>?_⟩;rcases U8 j ⇑ns with h|h
  .rw[NY h] at c;show f j k c
  .rw[NR h] at c;obtain⟨e,q⟩:=Mp.mp c;have e:j=⇑ns:=by simp at e;lia
   subst e;simp at q;show q▸E
 .obtain⟨a,mv,ns,rfl,d,f⟩:=p;show C ns H d f a mv
end
def kI {n:Int}(h:n≠0):(n:Rat)≠0:=λz=>h (Rat.intCast_eq_zero_iff.mp z)
noncomputable def R3.col (r:R3):Q3:=⟨(r.a:Rat),(r.b:Rat),(r.c:Rat)⟩
def ixL {K:KE}{i:Int}{j:Nat}(h:H a=Z (.lst xs))(e:xs[j]?=Z v)(b:i=(j:Int))(q:Q v H):IE K ↥a ↑i H Q:=
 .inl ⟨a,xs,_,v,U,U,An.of h,by rw[b];show jG e,q⟩
def KT (K:KE)(a:MF)(xs:List V):Prop:=∃ (o:Obj) (b:Array Mo) (n:Nat),K.lookup a=Z o/\o.cls=.type "tuple"/\o.data=.seq b n/\b.size<=MO/\Ah xs b.toList
def KT.sq {K:KE}(h:KT K a xs):AZ K H a xs:=.inr h
def abW {s:Mt}{K:KE}{f:OQ}{b:Args}{a:List (Str × Mo)}{D:MF}{o:Obj}{part:Option Mo}{d:Obj->Sem (List (Str × Mo))} (X:K.In s.heap) (e:K.lookup D=Z o)
  (h:QJ f b=Sem.load D part d)(g:d o=pure a):VI s f b a:=λM A E Q hq=>by
 refine(PySem.W.Looks.of_peek X ?_).here hq;rw[h];have c:d o=Sem.pure a:=g;simp only[PySem.W.peek,e,c]
def Mf (n l m:Int):NM->Bool
 |.tuple ds=>decide ((⇑ds:Int)=n)&&(ds.map (IB l m)).all id
 |_=>false
end TR
namespace TR
open PySem PySem.Spec PyProof.Rows
def Up (xs:List Nat):Prop:=xs.Pairwise (·<·)
def vh (h:Up xs)(a:i<j)(b:j<⇑xs):xs[i]<xs[j]:=
 Tu.mp h i j Y b a
def acl (h:Up xs.toList):∀ (f lo a:Nat),a <= xs.size->a <= lo + f->lo <= a ->
  (∀ i (w:i<xs.size),i<lo->xs[i]<j)->(∀ i (w:i<xs.size),a<=i->j<=xs[i]) ->
  (∀ i (w:i<xs.size),i<RK xs j f lo a->xs[i]<j)/\(∀ i (w:i<xs.size),RK xs j f lo a<=i->j<=xs[i])/\RK xs j f lo a<=xs.size:=by
 intro f
 induction f with
 |zero=>
  intro lo a b q p d c;have:lo=a:=Y
  subst this;show⟨d,c,b⟩
 |succ f k=>
  intro lo a b q p d c;unfold RK
  split
  .rename_i o
   have l:(lo+a)/2<xs.size:=Y
   have n:xs.getD ((lo+a)/2) j=xs[(lo+a)/2]:=by simp[TC,l]
   dsimp only;rw[n]
   split
   .rename_i m
    refine k _ _ b Y Y (λi w g=>?_) c
    by_cases e:i=(lo+a)/2
    .subst e;show m
    .have:=vh h (i:=i) (j:=(lo+a)/2) Y (by simpa using l);simp only[Og] at this;lia
   .rename_i m
    refine k _ _ Y Y Y d (λi w g=>?_)
    by_cases e:i=(lo+a)/2
    .subst e;lia
    .have:=vh h (i:=(lo+a)/2) (j:=i) Y (by simpa using w);simp only[Og] at this;lia
  .have:lo=a:=Y
   subst this;show⟨d,c,b⟩
def oz (h:Up xs.toList) :
  (∀ i (w:i<xs.size),i<NL xs j->xs[i]<j)/\(∀ i (w:i<xs.size),NL xs j<=i->j<=xs[i])/\NL xs j<=xs.size:=by
 unfold NL;show acl h _ _ _ (Mz _) Y Y (λi w a=>Y) (λi w a=>Y)
def act (h:Up xs.toList)(b:(xs[NL xs j]?==Z j)=false):j∉xs.toList:=by
 intro c;obtain⟨i,d,e⟩:=N5 c;have a:i<xs.size:=by simpa using d
 simp only[Og] at e;obtain⟨l,f,n⟩:=oz h;have m:¬ i<NL xs j:=λq=>by have:=l i a q;lia
 by_cases k:NL xs j=i
 .rw[k] at b;simp[a,e] at b
 .have g:NL xs j<xs.size:=Y
  have:=f _ g (Mz _);have:=vh h (i:=NL xs j) (j:=i) Y (by simpa using a);simp only[Og] at this;lia
def uB (xs:Array α)(p:Nat)(x:α):(T4 xs p x).toList=xs.toList.take p++x::xs.toList.drop p:=by unfold T4;simp;show Nh zyA
def qR (h:Up xs.toList)(m:j∉xs.toList):Up (T4 xs (NL xs j) j).toList:=by
 rw[uB];obtain⟨n,l,o⟩:=oz (j:=j) h;unfold Up at *;rw[Vv,OL];refine⟨h.sublist (TV _ _),⟨λa f=>?_,h.sublist (Wv _ _)⟩,λa f b g=>?_⟩
 .obtain⟨i,d,e⟩:=N5 f;rw[Wx] at e;have c:NL xs j+i<xs.size:=by simp only[Sf,ND] at d;lia
  have:=l _ c Y;simp only[Og] at e;have k:a≠j:=λq=>m (q▸(Wv _ _).subset f)
  lia
 .have k:a<j:=by
   obtain⟨i,d,e⟩:=N5 f;rw[Wy] at e;simp only[Nl,ND] at d;have:=n i Y Y;simp only[Og] at e;lia
  rcases MA.mp g with rfl|g
  .show k
  .obtain⟨i,d,e⟩:=N5 g;rw[Wx] at e;have c:NL xs j+i<xs.size:=by simp only[Sf,ND] at d;lia
   have:=l _ c Y;simp only[Og] at e;lia
def q9 {t:Ql}{j:Nat}(h:Up t.place.toList)(a:∀ i,t.slot j≠.live i):j∉t.place.toList:=by
 refine act h ?_;cases e:(t.place[NL t.place j]?==Z j) with
 |false=>rfl
 |true=>
  refine absurd ?_ (a (NL t.place j));unfold SetTable.slot;dsimp only;rw[M' e]
def wW {t:Ql}{l:Nat->Int}{hh:Int} (h:Up t.place.toList):∀ (f:Nat) (p:Xl),(∀ d,p.dummy=Z d->d ∉ t.place.toList) ->
  ∀ j d,WG t l hh f p=Z (.empty j d)->d.getD j∉t.place.toList:=by
 intro f
 induction f with
 |zero=>intro p _ j d e;cases e
 |succ f g=>
  intro p k j d e;unfold WG at e
  split at e
  .rename_i c
   cases e;have:=q9 h (λi=>by rw[c];show λq=>by cases q);cases a:p.dummy with
   |none=>show this
   |some d=>show k d a
  .rename_i c
   have:=q9 h (λi=>by rw[c];show λq=>by cases q);refine g _ (λd a=>?_) j d e;have b:Z p.j=Z d:=by
    rw[<- a];unfold W7;dsimp only;split<;>rfl
   cases b;show this
  .split at e
   .cases e
   .refine g _ (λd a=>k d ?_) j d e;rw[<- a];unfold W7;dsimp only;split<;>rfl
def qM {t:Ql}{hh:Int}{a:Nat}{c:Bool}(h:Up t.place.toList)(e:t.freeSlot hh=Z (a,c)):a∉t.place.toList:=by
 unfold SetTable.freeSlot at e
 split at e
 .rename_i j d q
  cases e;show wW h _ _ (λd b=>by cases b) _ _ q
 .cases e
def Tb (led:Bool)(t:Ql):Prop:=Up t.place.toList/\t.led=led
def abP (n:Nat):Up (Array.range n).toList:=by rw[Array.toList_range];show UJ
def iK (n:Nat)(h:Tb led t):Tb led (t.standIn n):=⟨abP n,h.2⟩
abbrev _root_.X9:=Array (Int×Mo)
def afa {led:Bool}{t:Ql}{es:X9}{hh:Int}{x:Mo}(h:Tb led t):Tb led (layNew t es hh x).2.1:=by
 unfold layNew
 split
 .rename_i a b e
  dsimp only;unfold SetTable.orStandIn
  split
  .show⟨qR h.1 (qM h.1 e),h.2⟩
  .show iK _ ⟨qR h.1 (qM h.1 e),h.2⟩
 .show iK _ h
def adJ {f:Nat->Option Nat}:∀ {l:List Nat},Up l->Up ((l.filterMap λj=>(f j).map (j,·)).map (·.1)):=by
 intro l
 induction l with
 |nil=>intro _;show RE
 |cons a l g=>
  intro h;have d:=OL.mp h;have:=g d.2;rw[Q1];cases e:f a with
  |none=>show this
  |some b=>
   refine OL.mpr ⟨λx i=>?_,this⟩;obtain⟨y,m,rfl⟩:=Nd.mp i;obtain⟨j,k,q⟩:=NA.mp m;cases e':f j with
   |none=>rw[e'] at q;cases q
   |some c=>rw[e'] at q;cases q;show d.1 j k
def acm {led:Bool}{t:Ql}{es:X9}{n:Nat}(h:Tb led t):Tb led (Wm t es n).2.1:=by
 unfold Wm
 split
 .rename_i c a e
  dsimp only
  split
  .unfold SetTable.relaid SetTable.laid at e;cases q:SetTable.layClean (SetTable.sizeAbove n-1) (es.map (·.1)) with
   |none=>rw[q] at e;cases e
   |some b=>
    rw[q] at e;cases e;refine⟨?_,h.2⟩;simp only;show adJ UJ
  .show iK _ h
 .show iK _ h
variable {pr:MY}{wo:Nr}{Ar:Nw}{Ex:My}
section
variable {st:Mt}
def BZ (pr:MY)(wo:Nr)(led:Bool)(H:Oz)(a:MF)(c:List Int):Prop:=
 ∃ d b g f,H.get? a=Z d/\d.ExactSet/\d.data=.set b g f/\ElemsOf (QP pr wo) b.toList /\
  (∀ k,k∈c↔∃ e∈b.toList,(QP pr wo).is k e.2=true)/\b.size<scanBound/\f.fits b.size=true/\b.size=⇑c/\c.Nodup/\Tb led f
def my {led:Bool}{H:Oz}{a:MF}{c:Obj}{xs ys:Array (Int × Mo)}{f:Nat}{m b:Ql}{d:List Int}
  (n:H.get? a=Z c)(l:c.ExactSet)(s:c.data=.set xs f m)(p:ElemsOf (QP pr wo) ys.toList)(r:∀ k,k∈d↔∃ e∈ys.toList,(QP pr wo).is k e.2=true)
  (j:ys.size<scanBound)(i:b.fits ys.size=true)(o:ys.size=⇑d)(h:d.Nodup)(g:Tb led b):
  (H.update a (WA ys b)).get? a=Z { c with data:=.set ys (f+1) b }/\BZ pr wo led (H.update a (WA ys b)) a d:=by
 have e:=putSet_of ys b s;have q:=M4 (WA ys b) n (by rw[e];rfl);rw[e] at q;show⟨q,_,ys,f+1,b,q,l,U,p,r,j,i,o,h,g⟩
def oO {D:Bool->Sem Unit} (r:∀ (b:Bool) (u:Mt) (E:Unit->Mt->Prop),E () u->MI (MW pr wo) Ar (D b) E Ex u)
  {led:Bool}{a:MF}{o:Obj}{xs ys:X9}{I:Nat}{J c:Ql}{h:List Int}
  (z:st>>a=Z o)(x:o.ExactSet)(F:o.data=.set xs I J)(B:ElemsOf (QP pr wo) ys.toList)(C:∀ k,k∈h↔∃ e∈ys.toList,(QP pr wo).is k e.2=true)
  (g:ys.size<scanBound)(H:c.fits ys.size=true)(A:ys.size=⇑h)(s:h.Nodup)(f:Tb led c){L:Bool}{R:Option Bool->Mt->Prop}
  (t:∀ H',NF a st.heap H'->BZ pr wo led H' a h->R (Z true) { st with heap:=H' }):
  MI (MW pr wo) Ar (do
    storeSet a ys c
    if (!L && c.tooFull)=true then do
      D (Wm c ys (Qh ys.size)).2.2
      storeSet a (Wm c ys (Qh ys.size)).1 (Wm c ys (Qh ys.size)).2.1
      pure (Z true)
     else pure (Z true)) R Ex st:=by
 obtain⟨v,G⟩:=my z x F B C g H A s f;have y:=M_ st.heap a (WA ys c);refine HD (wpAny_storeSet_of z F ?_ (fits_of_scanBound g))
 split
 .have d:=relayAll_perm c ys (Qh ys.size);have j:=relayAll_fits c ys (Qh ys.size);have l:=acm (es:=ys) (n:=Qh ys.size) f;generalize Wm c ys (Qh ys.size)=q at d j l ⊢;obtain⟨M,Q,S⟩:=q;dsimp only at d j l ⊢;have p:M.size=ys.size:=by have:=d.length_eq;simpa using this
  refine HD (r _ _ _ (HD (wpAny_storeSet_of v rfl ?_ (fits_of_scanBound (by rw[p];show g)))));obtain⟨_,N⟩:=my v x rfl (B.perm d)
   (λk=>C k\⟨λ⟨e,m,i⟩=>⟨e,d.mem_iff.mpr m,i⟩,λ⟨e,m,i⟩=>⟨e,d.mem_iff.mp m,i⟩⟩) (by rw[p];show g) j (p\A) s l
  show Mm (t _ (y\M_ _ a _) N)
 .show Mm (t _ y G)
def zI {k:Int} (hu:BZ pr wo led st.heap a ks) (f:⇑ks + 1 < scanBound)
  (h:∀ H',NF a st.heap H'->BZ pr wo led H' a (if k∈ks then ks else ks++[k])->Q (!decide (k∈ks)) { st with heap:=H' }):
  MI (MW pr wo) Ar (setAddHashed a (.int k tk) ((QP pr wo).hash k)) Q Ex st:=by
 obtain⟨ob,c,ep,A,n,G,r,C,D,R,F,B,L,o⟩:=hu;have d:(QP pr wo).is k (.int k tk)=true:=intKind_is _ _ _ _;have g:(PZ k tk).scannable=true:=U;have rm:c.size+1<scanBound:=by rw[B];show f
 unfold setAddHashed setAddHashedIn;refine Nv (HD (NU n r F ?_));dsimp only;rw[byScan_of g R C];simp only[↓reduceIte];unfold setAddByScan;refine HD (HD (Pr (HD (wpAny_setScan_of d n r F C ?_))));cases hf:List.findIdx? (λe=>(QP pr wo).is k e.2) c.toList with
 |some j=>
  dsimp only;obtain⟨m,l,_⟩:=List.findIdx?_eq_some_iff_getElem.mp hf;have i:k∈ks:=(D k).mpr ⟨_,Oy m,l⟩;have:=h st.heap (RA a st.heap) (by rw[M' i];show⟨ob,c,ep,A,n,G,r,C,D,R,F,B,L,o⟩);rw[MB i] at this;show Mm (Mm this)
 |none=>
  dsimp only;have i:k∉ks:=λq=>by
   obtain⟨e,he,hp⟩:=(D k).mp q;have:=List.findIdx?_eq_none_iff.mp hf e he;rw[hp] at this;cases this
  rw[MZ i,Na i] at h;have l:=layNew_perm A c ((QP pr wo).hash k) (.int k tk);have s:=layNew_fits A c ((QP pr wo).hash k) (.int k tk);have t:=afa (es:=c) (hh:=(QP pr wo).hash k) (x:=.int k tk) o;generalize layNew A c ((QP pr wo).hash k) (.int k tk)=H at l s t ⊢;obtain⟨E,tc,dm,gv⟩:=H;dsimp only at l s t ⊢;rw[Wo] at l;have X:E.size=c.size+1:=by have:=l.length_eq;simpa using this
  have e4:ElemsOf (QP pr wo) E.toList:=(C.push d g).perm l;have J:∀ v,v∈ks++[k]↔∃ e∈E.toList,(QP pr wo).is v e.2=true:=λv=>by
   have:=mem_push_iff (S:=λz=>decide (z∈ks)) d (λz=>by rw[Oo];show D z) l v;rw[<- this];simp
  have T:(ks++[k]).Nodup:=TU.mpr ⟨L,zyA,λx hx y M=>by
   rw[Mu] at M;subst M;show λq=>i (q▸hx)⟩
  refine HD ?_;have done:∀ (b:Bool) (u:Mt) (I:Unit->Mt->Prop),I () u->MI (MW pr wo) Ar (match b with|true=>rule "set.scan.the-table-gave-way"|false=>pure ()) I Ex u:=
   λb u I q=>by cases b<;>first|show Mm q|show Pr q
  refine done _ _ _ ?_;have goal:∀ N:Ql,N.fits E.size=true->Tb led N->∀ H',NF a st.heap H'->BZ pr wo led H' a (ks++[k])->Q true { st with heap:=H' }:=λ_ _ _ H' p m=>h H' p m
  split
  .refine HD ?_;rw[hashByValue_scannable 8 g];show Mm (oO done n G r e4 J Y (s) (by simp[X,B]) T t λH' p m=>Mm (h H' p m))
  .refine HD (Mm ?_);simp only[↓reduceIte];show oO done n G r e4 J Y s (by simp[X,B]) T t λH' p m=>Mm (h H' p m)
end
def oV (h:xs[i]?=Z x):(x::xs.eraseIdx i).Perm xs:=by
 induction xs generalizing i with
 |nil=>cases h
 |cons a xs b=>
  cases i with
  |zero=>cases h;show To _
  |succ i=>
   simp only[List.getElem?_cons_succ] at h;show(List.Perm.swap a x _).trans ((b h).cons a)
def adm (c:Nat->Nat):∀ (f k:Nat) (left:List α) (out:Array α),f=⇑left ->
  (WZ c f k left out).toList.Perm (out.toList++left):=by
 intro f
 induction f with
 |zero=>intro k left out e;cases left with
  |nil=>simp[WZ]
  |cons a l=>cases e
 |succ f g=>
  intro k left out e;unfold WZ;have b:c k%⇑left<⇑left:=Nat.mod_lt _ Y;have d:left[c k%⇑left]?=Z left[c k%⇑left]:=MC b;rw[d];dsimp only;refine(g _ _ _ (by rw[S4 b];lia)).trans ?_;rw[Wo,OT];show List.Perm.append_left _ (oV d)
def rk (a:Nat->Nat)(xs:Array α):(SW a xs).toList.Perm xs.toList:=by
 unfold SW;have:=adm a xs.size 0 xs.toList #[] zyA
 simpa using this
def Ch (a:Array Nat)(i:Nat):Nat:=if i=0 then 0 else a.getD (i-1) 0+1
def oB (h:Up pl.toList)(p:i<=pl.size):NL pl (Ch pl i)=i:=by
 obtain⟨f,c,n⟩:=oz (j:=Ch pl i) h;have lo:∀ (k:Nat) (w:k<pl.size),k<i->pl[k]<Ch pl i:=λk w q=>by
  cases i with
  |zero=>lia
  |succ i=>
   have a:i<pl.size:=Y
   have b:Ch pl (i+1)=pl[i]+1:=by simp[Ch,TC,a]
   rw[b]
   by_cases e:k=i
   .subst e;lia
   .have u:=vh h (i:=k) (j:=i) Y (by simpa using a);simp only[Og] at u;lia
 have d:∀ (k:Nat) (w:k<pl.size),i<=k->Ch pl i<=pl[k]:=λk w q=>by
  cases i with
  |zero=>simp[Ch]
  |succ i=>
   have a:i<pl.size:=Y
   have b:Ch pl (i+1)=pl[i]+1:=by simp[Ch,TC,a]
   rw[b];have u:=vh h (i:=i) (j:=k) Y (by simpa using w);simp only[Og] at u;lia
 have o:¬ NL pl (Ch pl i)<i:=λq=>by
  have w:NL pl (Ch pl i)<pl.size:=Y
  have l:=lo _ w q;have g:=c _ w (Mz _);lia
 have m:¬ i<NL pl (Ch pl i):=λq=>by
  have w:i<pl.size:=Y
  have l:=d _ w (Mz _);have g:=f _ w q;lia
 lia
def cR:Slot "set_iterator" "__next__" "set_iterator.__next__":=
 .of (owner:="set_iterator") (n:="__next__") (by rw[typeLookup_type,builtinLookup_eq_fast];kernel_rfl) zyB zyB zyB
  (by first|show .inl zyB|show .inr zyB) (by rw[isSubtype_type];kernel_rfl)
def jt:entryFor table "set_iterator.__next__"=Z OJ.«set_iterator.__next__»:=entryFor_of_fast (by kernel_rfl)
def km (a:Mo):Vf "set_iterator.__next__" ⟨[a],[]⟩:=by unfold Vf;kernel_rfl
def kh:Slot "set_iterator" "__iter__" "set_iterator.__iter__":=
 .of (owner:="set_iterator") (n:="__iter__") (by rw[typeLookup_type,builtinLookup_eq_fast];kernel_rfl) zyB zyB zyB
  (by first|show .inl zyB|show .inr zyB) (by rw[isSubtype_type];kernel_rfl)
def pJ:entryFor table "set_iterator.__iter__"=Z OJ.«dict_keyiterator.__iter__»:=
 entryFor_alias (id':="dict_keyiterator.__iter__") (by kernel_rfl) U zyB (by kernel_rfl)
def qx (a:Mo):Vf "set_iterator.__iter__" ⟨[a],[]⟩:=by unfold Vf;kernel_rfl
def mP:entryFor table "set.__iter__"=Z OJ.«frozenset.__iter__»:=
 entryFor_alias (id':="frozenset.__iter__") (by kernel_rfl) U zyB (by kernel_rfl)
def wY (a:n ≠ 0)
  (h:∀ i d,i<n->Q i { s with drawn:=d }):MI M A (choose src n) Q E s:=λ_ _ _=>by
 change Sem.wp _ _ (Sem.choose src n Sem.pure) _ _ _ _;rw[Sem.wp_choose];show⟨a,h _ _ (Nat.mod_lt _ Y)⟩
def abJ:∀ (n:Nat) (xs:List α) (s:Mt) (Q:List α->Mt->Prop),⇑xs=n ->
  (∀ ys d,ys.Perm xs->Q ys { s with drawn:=d })->MI M A (drawOrder n xs) Q E s:=by
 intro n
 induction n with
 |zero=>
  intro xs s Q b h;cases xs with
  |nil=>show Mm (h [] s.drawn (To _))
  |cons a l=>cases b
 |succ n f=>
  intro xs s Q b h;cases xs with
  |nil=>cases b
  |cons a l=>
   unfold drawOrder;refine HD (wY zyA λi d e=>?_);have c:(a::l)[i]?=Z (a::l)[i]:=MC e;rw[c];dsimp only;show HD (f _ _ _ (by rw[S4 e];simp at b ⊢;lia) λys j g=>(Mm (h _ _ (g.cons _\oV c))))
section
variable {st:Mt}
def Gc (wo:Nr):Bool:=wo.params.followText "set-order"
def iL (h:Q (Gc wo) st):MI (MW pr wo) Ar setsByText Q Ex st:=by unfold setsByText;show HD (QX (Mm h))
def JF (wo:Nr)(H:Oz)(S T:MF)(es:X9)(d:Nat)(a:Ql)(vs:List Mo)(i:Nat)(b:Mo):Prop:=
 (Gc wo=true/\(∃ e t,b=.int e t)/\vs=(SW (wo.params.setOrder S d) es).toList.map (·.2)) \/
 (Gc wo=false/\(!a.plain&&decide (es.size>1))=true/\b=↥T/\∃ (o:Obj) (n:Nat) (c:List Nat),H.get? T=Z o/\o.data=.seq (c.map λj:Nat=>ON j).toArray n/\c.Perm (NG es.size)/\vs=c.map λj=>(es[j]?.map (·.2)).getD .none) \/
 (Gc wo=false/\(!a.plain&&decide (es.size>1))=false/\a.led=true/\Up a.place.toList/\a.place.size=es.size/\b=.int (Ch a.place i) 0/\vs=es.toList.map (·.2))
def IR (wo:Nr)(H:Oz)(I S T:MF)(c:Obj)(es:X9)(b:Nat)(d:Ql)(vs:List Mo)(i:Nat):Prop:=
 H.get? S=Z c/\∃ a o,H.get? I=Z o/\o.cls=.type "set_iterator"/\o.data=.fields #[a,.int i 0,↥S,.int es.size 0,.int b 0]/\JF wo H S T es b d vs i a
def rO (h:JF wo H S T es ep tb vs i fi):⇑vs=es.size:=by
 rcases h with ⟨_,_,rfl⟩|⟨_,_,_,_,_,b,_,_,a,rfl⟩|⟨_,_,_,_,_,_,rfl⟩
 .have:=(rk (wo.params.setOrder S ep) es).length_eq;simp at this ⊢;show this
 .have:=a.length_eq
  simpa using this
 .simp
def aa5 (h:JF wo H S T es ep tb vs i fi):vs.Perm (es.toList.map (·.2)):=by
 rcases h with ⟨_,_,rfl⟩|⟨_,_,_,_,_,c,_,_,b,rfl⟩|⟨_,_,_,_,_,_,rfl⟩
 .show(rk (wo.params.setOrder S ep) es).map _
 .refine(b.map _).trans (List.Perm.of_eq ?_);apply List.ext_getElem
  .simp
  .intro j a d;simp at a ⊢;simp[a]
 .show To _
def og {H:Oz}{I S T:MF}{b:Obj}{es:X9}{d:Nat}{c:Ql}{vs:List Mo}{i:Nat}(h:IR wo st.heap I S T b es d c vs i):st.TypeIs ↥I "set_iterator":=by obtain⟨_,_,o,a,e,_⟩:=h;show⟨o,a,e⟩
end
section
variable {st:Mt}
def n_ (h:JF wo H S T es ep tb vs i fi)
  (k:∀ o,H.get? T=Z o->H'.get? T=Z o):JF wo H' S T es ep tb vs i fi:=by
 rcases h with h|⟨c,b,d,o,n,a,f,e⟩|h
 .show .inl h
 .show .inr (.inl ⟨c,b,d,o,n,a,k _ f,e⟩)
 .show .inr (.inr h)
def aaP
  (h:IR wo st.heap I S T ob es f tb vs i)(a:ob.data=.set es f tb)(u:tb.fits es.size=true)(R:S≠I)(G:T≠I)(c:vs[i]?=Z x)
  (hQ:∀ H',IR wo H' I S T ob es f tb vs (i+1)->NF I st.heap H'->Q (Z x) { st with heap:=H' }):
  MI (MW pr wo) Ar (QM ↥I) Q Ex st:=by
 have hT:=og (H:=st.heap) h;obtain⟨m,fi,o,p,N,k,hw⟩:=h;unfold QM;refine HD (OO (Nu hT cR
  (Nt cR hT jt ?_ (km _))))
 change MI _ _ (fieldsOf ↥I >>= _) _ _ st;refine HD (QT p k ?_);change MI _ _ (Vo S >>= _) _ _ st;refine HD ?_;unfold Vo;refine HD (NU m a u (Mm ?_));dsimp only;rw [MZ zyA];have b:∀ (z:Oz) (C:Obj) (D:Mo),z.get? I=Z C->C.cls=.type "set_iterator"->C.data=.fields #[D,.int i 0,↥S,.int es.size 0,.int f 0]->NF I st.heap z ->
   JF wo st.heap S T es f tb vs (i+1) D ->
   MI (MW pr wo) Ar.in1 (do Vp ↥I 1 (ON ((i:Int)+1));ret x) (λr E=>∃ v,r=.done (.ret v)/\MI (MW pr wo) Ar (pure (Z v)) Q Ex E) (λe E=>MI (MW pr wo) Ar (do if(<- Rb e (.type "StopIteration")) then pure none else throw e) Q Ex E) { st with heap:=z }:=by
  intro z C D g1 g2 g3 g4 g5;refine HD (Of g1 g3 zyA (Mm ⟨x,U,Mm ?_⟩));have M:NF I st.heap (z.update I (NC (·.setIfInBounds 1 (ON ((i:Int)+1))))):=g4\M_ ..;refine hQ _ ⟨?_,D,_,M4 _ g1 (NK (Nf g3 _)),PV ..\g2,by rw[Nf g3];simp[ON],?_⟩ M
  .rw[M.2 S R];show m
  .show n_ g5 λA e=>by rw[M.2 T G];show e
 have d:i<es.size:=by rw[<- (rO hw)];show(Mp.mp c).1
 rcases hw with ⟨g,⟨X,t,rfl⟩,e⟩|⟨g,B,rfl,oT,nT,n,s,y,l,e⟩|⟨g,B,s,y,l,rfl,e⟩
 .change MI _ _ (VT S X.toNat (Qe (i:Int)) (Qe (f:Int))>>=_) _ _ st;refine HD ?_;unfold VT;refine HD (NU m a u ?_);dsimp only;refine HD (iL ?_);rw[M' g];simp only[Ng,RL,M2,Oj];refine HD ?_;unfold setWalk;refine HD (NU m a u ?_);dsimp only;refine HD (iL ?_);rw[M' g];refine HD (QX (Mm (Mm ?_)));have A:(SW (wo.params.setOrder S f) es)[i]?.map (λe=>e.2)=Z x:=by
   rw[e] at c;rw[<- c];simp
  obtain⟨q,J,F⟩:=MG.mp A;change MI _ _ (match (SW (wo.params.setOrder S f) es)[i]?.map (λe=>(e.2,X.toNat)) with|some (x,next)=>_|none=>_) _ _ _;rw[J];dsimp only [Option.map];rw[F];show HD (Of p k zyA (b _ _ (ON (X.toNat:Int)) (M4 _ p (NK (Nf k _))) (PV ..\N) (by rw[Nf k];simp) (M_ ..) (.inl ⟨g,⟨_,_,U⟩,e⟩)))
 .change MI _ _ (Vj ↥T>>=_) _ _ st;refine HD (N2 s y ?_);have hp:∃ j:Nat,n[i]?=Z j/\j<es.size:=by
   have:i<⇑n:=by rw[l.length_eq];simpa using d
   show⟨n[i],MC this,by simpa using (l.mem_iff.mp (Oy this))⟩
  obtain⟨j,j1,j2⟩:=hp;have F:(n.map λj:Nat=>ON j).toArray[i]?=Z (.int j 0):=by simp[j1,ON]
  change MI _ _ (match (n.map λj:Nat=>ON j).toArray[Qe (i:Int)]? with|some (.int L _)=>_|some _=>_|none=>_) _ _ _;rw[Ng,F];dsimp only;refine HD ?_;unfold setNextDrawn;refine HD (NU m a u ?_);dsimp only;have A:es[j]?=Z es[j]:=by simp[j2]
  have J:x=es[j].2:=by
   rw[e] at c;simp[j1,A] at c;show c.symm
  simp only[Ng,RL,M2,Oj,A];refine Mm ?_;rw[<- J];show b _ _ _ p N k (RA _ _) (.inr (.inl ⟨g,B,U,oT,nT,n,s,y,l,e⟩))
 .change MI _ _ (VT S (Qe (Ch tb.place i:Int)) (Qe (i:Int)) (Qe (f:Int))>>=_) _ _ st;refine HD ?_;unfold VT;refine HD (NU m a u ?_);dsimp only;refine HD (iL ?_);rw[MZ (by rw[g];simp)];change MI _ _ (if(!tb.plain&&decide (es.size>1))=true then _ else _) _ _ _;rw[MZ (by rw[B];simp)];refine HD ?_;change MI _ _ (if(!tb.led&&!es.isEmpty)=true then _ else(pure ():Sem Unit)) _ _ _;rw[MZ (by rw[s];simp)];refine Mm ?_;have p1:es[i]?=Z es[i]:=by simp[d]
  have A:i<tb.place.size:=by rw[l];show d
  have J:tb.place[i]?=Z tb.place[i]:=by simp[A]
  have F:x=es[i].2:=by
   rw[e] at c;simp[d] at c;show c.symm
  have L:Ch tb.place (i+1)=tb.place[i]+1:=by simp[Ch,TC,A]
  simp only[Ng,oB y (i:=i) (by rw[l];lia),p1,J];refine Mm ?_;rw[<- F];refine HD (Of p k zyA ?_);show b _ _ (ON ((tb.place[i]+1:Nat):Int)) (M4 _ p (NK (Nf k _))) (PV ..\N) (by rw[Nf k];simp) (M_ ..)
   (.inr (.inr ⟨g,B,s,y,l,by rw[L];rfl,e⟩))
end
section
variable {st:Mt}
def adQ (hh:Ar.handled=none)
  (h:IR wo st.heap I S T ob es d tb vs i)(c:ob.data=.set es d tb)(m:tb.fits es.size=true)(X:i=⇑vs)
  (J:∀ H',SD I st.heap H'->Q none { st with heap:=H' }):
  MI (MW pr wo) Ar (QM ↥I) Q Ex st:=by
 have C:=og (H:=st.heap) h;obtain⟨l,R,o,k,hc,f,hw⟩:=h;unfold QM;refine HD (OO (Nu C cR
  (Nt cR C jt ?_ (km _))))
 change MI _ _ (fieldsOf ↥I >>= _) _ _ st;refine HD (QT k f ?_);change MI _ _ (Vo S >>= _) _ _ st;refine HD ?_;unfold Vo;refine HD (NU l c m (Mm ?_));dsimp only;rw [MZ zyA];have E:=rO hw;have b:∀ (n:Oz) (s:Obj) (A:Array Mo),n.get? I=Z s->s.data=.fields A->A.size=5->NF I st.heap n ->
   MI (MW pr wo) Ar.in1 (do Vp ↥I 2 .none;let a <- newExc (OW "StopIteration") [];(raiseNew a:Sem Fin)) (λr p=>∃ v,r=.done (.ret v)/\MI (MW pr wo) Ar (pure (Z v)) Q Ex p) (λe p=>MI (MW pr wo) Ar (do if(<- Rb e (.type "StopIteration")) then pure none else throw e) Q Ex p) { st with heap:=n }:=by
  intro n s A L N g4 M;refine HD (Of L N Y (HD ?_));simp only[newExc,newTuple];refine HD (No (HD (RT (by first|rfl|(simp only[RY];rfl)) (No ?_ (by size_fits)))) (by size_fits));simp only[raiseNew];refine HD (Ut ?_);rw[show Ar.in1.handled=none from hh];refine HD (Mm (Uv ?_));refine HD (OP ⟨_,Ms _ U,U⟩ Tw ?_);show Mm (J _ (((M\M_ ..).extBut.push _).push _))
 rcases hw with ⟨g,⟨G,t,rfl⟩,e⟩|⟨g,D,rfl,oT,nT,z,u,B,F,e⟩|⟨g,D,u,B,F,rfl,e⟩
 .change MI _ _ (VT S G.toNat (Qe (i:Int)) (Qe (d:Int))>>=_) _ _ st;refine HD ?_;unfold VT;refine HD (NU l c m ?_);dsimp only;refine HD (iL ?_);rw[M' g];simp only[Ng,RL,M2,Oj];refine HD ?_;unfold setWalk;refine HD (NU l c m ?_);dsimp only;refine HD (iL ?_);rw[M' g];refine HD (QX (Mm (Mm ?_)));have q:(SW (wo.params.setOrder S d) es)[i]?=none:=by
   have:⇑vs=(SW (wo.params.setOrder S d) es).size:=by rw[e];simp
   rw[Array.getElem?_eq_none_iff];lia
  change MI _ _ (match (SW (wo.params.setOrder S d) es)[i]?.map (λe=>(e.2,G.toNat)) with|some (x,next)=>_|none=>_) _ _ _;rw[q];dsimp only [Option.map];show b st.heap o _ k f rfl (RA _ _)
 .change MI _ _ (Vj ↥T>>=_) _ _ st;refine HD (N2 u B ?_);have q:(z.map λj:Nat=>ON j).toArray[i]?=none:=by
   have:⇑vs=⇑z:=by rw[e];simp
   simp;lia
  change MI _ _ (match (z.map λj:Nat=>ON j).toArray[Qe (i:Int)]? with|some (.int y _)=>_|some _=>_|none=>_) _ _ _;rw[Ng,q];dsimp only;show HD (Of k f zyA (b _ _ _ (M4 _ k (NK (Nf f _))) (Nf f _) zyA (M_ ..)))
 .change MI _ _ (VT S (Qe (Ch tb.place i:Int)) (Qe (i:Int)) (Qe (d:Int))>>=_) _ _ st;refine HD ?_;unfold VT;refine HD (NU l c m ?_);dsimp only;refine HD (iL ?_);rw[MZ (by rw[g];simp)];change MI _ _ (if(!tb.plain&&decide (es.size>1))=true then _ else _) _ _ _;rw[MZ (by rw[D];simp)];refine HD ?_;change MI _ _ (if(!tb.led&&!es.isEmpty)=true then _ else(pure ():Sem Unit)) _ _ _;rw[MZ (by rw[u];simp)];refine Mm ?_;have q:es[i]?=none:=by simp;lia
  simp only[Ng,oB B (i:=i) (by rw[F];lia),q];show Mm (b st.heap o _ k f rfl (RA _ _))
def acq
  (h:IR wo st.heap I S T ob es ep tb vs i)(b:Q ↥I st):MI (MW pr wo) Ar (Wk ↥I) Q Ex st:=by
 have a:=og (H:=st.heap) h;refine RU a kh (Nt kh a pJ ?_ (qx _));change MI _ _ (ret ↥I) _ _ st;show Mm ⟨_,U,"set_iterator",_,a,cR.lookup,b⟩
def uF (h:IR wo H I S T ob es ep tb vs i)
  (k:∀ b∈[I,S,T],∀ o,H.get? b=Z o->H'.get? b=Z o):IR wo H' I S T ob es ep tb vs i:=by
 obtain⟨c,a,o,f,g,d,hw⟩:=h;show⟨k S zyA _ c,a,o,k I zyA _ f,g,d,n_ hw λj e=>k T zyA _ e⟩
def zG (hh:Ar.handled=none)
  (c:ob.data=.set es ep tb)(p:tb.fits es.size=true)(m:S≠I)(g:T≠I):
  Walks pr wo Ar I [I,S,T] [I] ⇑vs (λi v=>vs[i]?=Z v) (λi H=>IR wo H I S T ob es ep tb vs i) where
 sub:=λb a=>by simp at a;simp[a]
 frame:=λ_ _ _ st q=>uF st q
 item:=λi s Q E r st d=>by
  have n:vs[i]?=Z vs[i]:=by simp[r]
  show aaP st c p m g n λj f k=>d _ j s.toks n f λb o a e=>k.extBut b o (λh=>a (by simp[h])) e
 done:=λs Q E st d=>adQ hh st c p rfl λj l=>d j s.toks λb o a e=>l b o (λh=>a (by simp[h])) e
 self:=λ_ _ _ _ st d=>acq st d
end
section
variable {st:Mt}
def aa9 {H:Oz}{S:MF}{a:Obj}(b:st>>S=Z a)(c:a.ExactSet):st.TypeIs ↥S "set":=⟨a,b,c.1⟩
def aaS {S:MF}{m:Obj}{es:Array (Int × Mo)}{s:Nat}{c:Ql}{Q:My} (i:st>>S=Z m) (D:m.ExactSet)
  (h:m.data=.set es s c)(k:c.fits es.size=true)(z:Tb (!Gc wo) c)(hsz:es.size<scanBound)
  (E:∀ (I T:MF) (H':Oz) (d:Drawn) (vs:List Mo),IR wo H' I S T m es s c vs 0->T≠I->S≠I->st⁻¹<=I->(∀ b o,st>>b=Z o->H'.get? b=Z o) ->
   (∀ b∈[I,S,T],b<H'.objs.size)->st⁻¹<=H'.objs.size->(T=S\/st⁻¹<=T)->Q ↥I { st with heap:=H',drawn:=d }) :
  MI (MW pr wo) Ar (Wk ↥S) Q Ex st:=by
 have u:=aa9 (H:=st.heap) i D;refine RU u F.slot_set_iter (Nt F.slot_set_iter u mP ?_ (F.args_set_iter_1 _));unfold OJ.«frozenset.__iter__»;have a:S<st⁻¹:=Mr i;have q:c.place.size=es.size:=by
  unfold SetTable.fits at k;simp at k;show k.1
 change MI _ _ (TF S >>= _) _ _ st;refine HD ?_;unfold TF Vo;refine HD (HD (NU i h k (Mm (Mm ?_))));dsimp only;have j:∀ (n:Mo) (f:Mt) (T:MF) (vs:List Mo),f>>S=Z m->(∀ b o,st>>b=Z o->f>>b=Z o)->JF wo f.heap S T es s c vs 0 n->T < f⁻¹->st⁻¹ <= f⁻¹ ->
   (T=S\/st⁻¹<=T)->(∃ (g:Oz) (d:Drawn),f={ st with heap:=g,drawn:=d }) ->
   MI (MW pr wo) Ar.in1 (do let __do_lift <- setEpoch S;let __do_lift <- newFields "set_iterator" [n,ON 0,↥S,ON es.size,ON __do_lift];ret __do_lift)
    (λr t=>∃ v,r=.done (.ret v)/\∃ A r,t.TypeIs v A/\WN (.type A) "__next__"=pure (Z r)/\Q v t) Ex f:=by
  intro n f T vs B J C p l G ⟨g,d,L⟩;subst L;unfold setEpoch;refine HD (HD (NU B h k (Mm ?_)));dsimp only;refine HD (No (Mm ⟨_,U,"set_iterator",_,⟨_,Ms _ U,U⟩,cR.lookup,?_⟩));have p:T<g.objs.size:=p;have l:st⁻¹<=g.objs.size:=l;refine E g.objs.size T _ d vs ⟨Ml _ B,n,_,Ms _ U,U,U,n_ C λo e=>Ml _ e⟩ (MH p) (MH (MK a l)) l
   (λb o e=>Ml _ (J b o e)) (λb x=>?_) (by rw[NQ];show Nat.le_succ_of_le l) G
  rw[NQ];simp only[MA,MQ,Ob] at x;rcases x with rfl|rfl|rfl
  .show N_ _
  .show NB (MK a l)
  .show NB p
 refine HD ?_;unfold setDrawn;refine HD (NU i h k ?_);dsimp only;refine HD (iL (Mm ?_));change MI _ _ (if(!Gc wo&&(!c.plain&&decide (es.size>1)))=true then _ else _) _ _ _;cases b1:Gc wo with
 |true=>
  simp only[Pu,Pg,M2,Oj];show HD (Mm (j (ON 0) st S _ i (λ_ _ e=>e) (.inl ⟨b1,⟨_,_,U⟩,U⟩) a (Mz _) (.inl rfl) ⟨_,_,U⟩))
 |false=>
  cases b2:(!c.plain&&decide (es.size>1)) with
  |false=>
   simp only[RV,M2,Oj];refine HD (Mm (j (ON 0) st S _ i (λ_ _ e=>e) (.inr (.inr ⟨b1,b2,?_,z.1,q,U,U⟩)) a (Mz _) (.inl rfl) ⟨_,_,U⟩));rw[z.2,b1];rfl
  |true=>
   simp only[Bool.not_false,QB,Qb];refine HD (abJ es.size (NG es.size) _ _ QF λM d y=>(HD (Tz ?_ (by rw[Mq,y.length_eq,QF];unfold scanBound at hsz;rw[NN];lia))));refine j ↥st⁻¹ _ st⁻¹ _ (Ml _ i) (λ_ _ e=>Ml _ e) (.inr (.inl ⟨b1,b2,U,_,0,M,Ms _ U,U,y,U⟩))
    (by rw[NQ];show N_ _) (by rw[NQ];show Q5 _) (.inr (Mz _)) ⟨_,_,U⟩
end
section
variable {st:Mt}
def aa8 (b:st.TypeIs ↥S "set")(h:Q false st):MI (MW pr wo) Ar (SA ↥S) Q Ex st:=by unfold SA;refine HD (Pm b F.slot_set_len.lookup ?_);change MI _ _ (Rb ↥S (.type "set")>>=_) _ _ _;show HD (OP b sub_set_self (wpAny_ite_split (λa=>absurd a O) (λ_=>(wpAny_ite_split (λ_=>(HD (wpAny_typeOf b (Mm h)))) (λa=>absurd zyB a)))))
def wk (h:ItemsOf (λi v=>vs[i]?=Z v) acc ⇑vs):acc.toList=vs:=by
 apply TN;intro i;cases e:acc.toList[i]? with
 |none=>
  rw[Tr] at e;have:=h.1
  symm
  rw[Tr];simp at e;lia
 |some v=>show(h.2 i v (by simpa using e)).symm
def uy (hh:Ar.handled=none) (J:st>>S=Z ob) (E:ob.ExactSet)
  (i:ob.data=.set es ep tb)(N:tb.fits es.size=true)(ht:Tb (!Gc wo) tb)(hsz:es.size<scanBound)
  (hQ:∀ (g:Oz) (d:Drawn) (A:Nat) (vs:List Mo),(∀ b o,st>>b=Z o->g.get? b=Z o)->st⁻¹<g.objs.size->st.toks<=A->vs.Perm (es.toList.map (·.2))->Q vs { st with heap:=g,drawn:=d,toks:=A }):
  MI (MW pr wo) Ar (collect ↥S) Q Ex st:=by
 unfold collect;refine HD (VG (N0 F.entry_proto_collect ?_));rw[NP F.plain_proto_collect _];change MI _ Ar.in1 (newList []>>=λl=>again (.builtin "list.__iadd__" ⟨[l,↥S],[]⟩)) _ _ st;refine HD (No (Mm ⟨Pe TK _,N0 F.entry_list_iadd ?_⟩));rw[NP TK _];change MI _ Ar.in1 (Qp ↥st⁻¹ ↥S ↥st⁻¹) _ _ _;unfold Qp;have h:(st.heap.push { cls:=.type "list",data:=.seq ([]:List Mo).toArray }).get? S=Z ob:=Ml _ J;have v:(st.heap.push { cls:=.type "list",data:=.seq ([]:List Mo).toArray }).get? st⁻¹=Z { cls:=.type "list",data:=.seq ([]:List Mo).toArray }:=Ms _ U;have a:(st.heap.push { cls:=.type "list",data:=.seq ([]:List Mo).toArray }).objs.size=st⁻¹+1:=NQ _ _;have up1:∀ b o,st>>b=Z o->(st.heap.push { cls:=.type "list",data:=.seq ([]:List Mo).toArray }).get? b=Z o:=λb o e=>Ml _ e
 generalize st.heap.push { cls:=.type "list",data:=.seq ([]:List Mo).toArray }=g1 at h v a up1 ⊢;refine HD (wpAny_typeOf ⟨ob,h,E.1⟩ ?_);have f:st⁻¹≠S:=Oi (Mr J);have h1:TH ↥st⁻¹ ↥S=false:=by simp[TH,f]
 have h2:(OW "set"==OW "list")=false:=O
 have h3:(OW "set"==OW "tuple")=false:=O
 simp only[h1,h2,h3,VY,M2,Oj];refine HD (aaS h E i N ht hsz λI T M d vs z C G hI p lt2 iX B=>(HD (Nv (aa8 ⟨ob,z.1,E.1⟩ ?_))));have k:⇑vs=es.size:=by obtain⟨_,_,_,_,_,_,hw⟩:=z;show rO hw
 have r:vs.Perm (es.toList.map (·.2)):=by obtain⟨_,_,_,_,_,_,hw⟩:=z;show aa5 hw
 change MI _ Ar.in1 (rule "list.extend.makes-room">>=λ_=>Builtin.List.listTouch ↥st⁻¹>>=λ_=>
  again (.builtin "list.extend.loop" ⟨[↥st⁻¹,↥I,↥st⁻¹],[]⟩)) _ _ _
 refine HD (Pr ?_);have x:st⁻¹+1<=I:=by rw[<- a];show hI
 have D:st⁻¹≠T:=by
  rcases B with rfl|q
  .show f
  .have q:g1.objs.size<=T:=q;rw[a] at q;show MH q
 have s:st⁻¹∉[I,S,T]:=by simp[MH x,f,D]
 have u:=p _ _ v;refine HD ?_;change MI _ Ar.in1 (updateSeq st⁻¹ (·.push .none)>>=λ_=>updateSeq st⁻¹ (·.pop)) _ _ _;refine HD (Rs u rfl ?_);have c:=M4 (NH (·.push Nc)) u rfl;refine Rs c rfl ?_;have n:∀ b o,b≠st⁻¹->M.get? b=Z o->((M.update st⁻¹ (NH (·.push Nc))).update st⁻¹ (NH (·.pop))).get? b=Z o:=
  λb o y e=>(MV _ _ (Om y)).trans (MV _ _ (Om y)\e)
 have W:=(zG (pr:=pr) (wo:=wo) (Ar:=Ar.in1) (vs:=vs) (by simp[hh]) i N G C).toS;refine Mm ⟨Pe F.plain_extend_loop _,codeAny_extend_loopS W (by rw[k,NN];unfold scanBound at hsz;lia) _ s _ ⇑vs 0 _ _ _ U (N7 _)
  (uF z λb y o e=>n b o (λq=>s (q▸y)) e) (M4 (NH (·.pop)) c rfl) (ItemsOf.nil _) λH acc' c' m t j=>?_⟩
 change MI _ Ar (load st⁻¹>>=_) _ _ H;refine HD (wpAny_load t (Mm ?_));rw[wk j];obtain⟨g3,gn,X,A,os⟩:=H;have e1:gn=st.gens:=m.gens;have e2:X=d:=m.drawn;have e3:os=st.os:=m.os;subst e1;subst e2;subst e3;refine hQ g3 X A vs (λb o e=>?_) (Mr t) m.toks r;have L:=Mr e;have R:b≠st⁻¹:=MH L;show m.heap b o (by simp[R,MH (MK L (QG x))]) (n b o R (p b o (up1 b o e)))
end
def adq:∀ {b ns:List Int},b.Nodup->(∀ k∈b,k∈ns)->⇑ns=⇑b->ns.Perm b:=by
 intro b
 induction b with
 |nil=>intro ns _ _ d;cases ns with
  |nil=>show To _
  |cons a l=>cases d
 |cons k b j=>
  intro ns i f d;have h:=List.perm_cons_erase (f k zyA);have c:=Ou.mp i;refine h.trans ((j c.2 (λx g=>?_) ?_).cons k)
  .have:=f x (Mx _ g);show(List.mem_erase_of_ne (λe:x=k=>c.1 (e▸g))).mpr this
  .have:=h.length_eq;simp at this d;lia
def adF:∀ {vs:List Mo},(∀ v∈vs,∃ k t,v=.int k t)->∃ ns,OA vs ns/\⇑ns=⇑vs/\∀ k t,PZ k t∈vs->k∈ns:=by
 intro vs
 induction vs with
 |nil=>intro _;show⟨[],.nil,U,λ_ _ h=>by cases h⟩
 |cons v vs a=>
  intro h;obtain⟨k,t,rfl⟩:=h v zyA;obtain⟨ns,c,b,d⟩:=a λw hw=>h w (Mx _ hw)
  refine⟨k::ns,.cons k t c,by simp[b],λg i f=>?_⟩;rcases MA.mp f with e|e
  .cases e;simp
  .show Mx _ (d _ _ e)
def iU (b:h.get? a=Z (N9 "list" vs.toArray n)):∃ m,(WM h a vs out).get? a=Z (N9 "list" out m):=by have c:=Mr b;unfold WM;show⟨_,Rq (Ml _ (Ml _ (Rq b (λ_=>#[])))) (λ_=>out)⟩
def il (c:a≠b)(e:h.get? b=Z o):(WM h a vs out).get? b=Z o:=by unfold WM;rw[MV _ _ c];show Ml _ (Ml _ (MV _ _ c\e))
section
variable {st:Mt}
def vA (hh:Ar.handled=none) (B:BZ pr wo (!Gc wo) st.heap S ks) (J:⇑ks < 64)
  (h:∀ (L:MF) (g:Oz) (d:Drawn) (f:Nat) (c:Array Mo) (ns:List Int) (n:Nat),st⁻¹<=L->g.get? L=Z (N9 "list" c n)->OA c.toList ns->ns.Perm ks->ns.Pairwise (·<=·) ->
   (∀ b o,st>>b=Z o->g.get? b=Z o)->st.toks<=f->Q ↥L { st with heap:=g,drawn:=d,toks:=f }) :
  MI (MW pr wo) Ar (call (.builtin "sorted") [↥S]) Q Ex st:=by
 obtain⟨ob,xs,ep,tb,M,H,g3,R,T,C,A,N,z,u⟩:=B;refine Tk kind_sorted plain_sorted entry_sorted (args_sorted1 _) ?_;unfold OJ.«sorted»;refine HD (Mm (HD (uy (by simp[hh]) M H g3 A u C λg d f vs x le lt i=>(HD (Sx ?_ (by rw[i.length_eq,NN];simp;lia))))));have r:∀ v∈vs,∃ k t,v=PZ k t:=λv r=>by
  obtain⟨e,j,rfl⟩:=Nd.mp (i.mem_iff.mp r);obtain⟨⟨k,q,_⟩,_⟩:=R e j;obtain⟨t,l⟩:=T5 q;show⟨k,t,l⟩
 obtain⟨ns,D,i2,X⟩:=adF r;have hl:⇑vs=⇑ks:=by rw[i.length_eq];simp[N]
 have p:ns.Perm ks:=adq z (λk I=>by
  obtain⟨e,j,q⟩:=(T k).mp I;obtain⟨t,l⟩:=T5 q;show X k t (l▸i.mem_iff.mpr (Nd.mpr ⟨e,j,U⟩))) Y
 have a:(g.push (N9 "list" vs.toArray 0)).get? g.objs.size=Z (N9 "list" vs.toArray 0):=Ms _ U;refine HD (Nv (Nt VF ⟨_,a,U⟩ Vh (list_sort_tree a D Y λout s G E y=>⟨_,U,?_⟩) (args_list_sort _)));obtain⟨m,F⟩:=iU a;show Mm ⟨_,U,h g.objs.size _ d f out s m (N4 le) F G (E\p) y (λb o e=>(il (Oi (Mr (x b o e))) (Ml _ (x b o e)))) lt⟩
end
noncomputable def met (ns:List Int):List Int:=ns.foldl (λa k=>if k∈a then a else a++[k]) []
def acn (ns:List Int)(k:Int):met (ns++[k])=if k∈met ns then met ns else met ns++[k]:=by unfold met;rw[RF];rfl
def tU (ns:List Int):⇑(met ns)<=⇑ns:=by
 have d:∀ (ns b:List Int),⇑(ns.foldl (λb k=>if k∈b then b else b++[k]) b)<=⇑b+⇑ns:=by
  intro ns
  induction ns with
  |nil=>intro b;show Mz _
  |cons a ns c=>
   intro b;refine M1 (c _) ?_;dsimp only
   split<;>simp<;>lia
 have:=d ns []
 simpa [met] using this
def adR (ns:List Int)(x:Int):x∈met ns↔x∈ns:=by
 have d:∀ (ns b:List Int),x∈ns.foldl (λb k=>if k∈b then b else b++[k]) b↔x∈b\/x∈ns:=by
  intro ns
  induction ns with
  |nil=>intro b;simp
  |cons a ns c=>
   intro b;rw[U0,c]
   split
   .rename_i h
    constructor
    .rintro(q|q)
     .show .inl q
     .show .inr (Mx _ q)
    .rintro(q|q)
     .show .inl q
     .rcases MA.mp q with rfl|q
      .show .inl h
      .show .inr q
   .simp only[Nk,MA,MQ,Ob,or_assoc]
 rw[met,d];simp
section
variable {st:Mt}
def pF (h:BZ pr wo led H a ks)(k:∀ o,H.get? a=Z o->H'.get? a=Z o):BZ pr wo led H' a ks:=by obtain⟨b,f,d,c,e,r⟩:=h;show⟨b,f,d,c,k _ e,r⟩
def ab9 (hh:Ar.handled=none) (A:l ≠ I) (j:S ≠ I) (E:S ≠ l) (G:OA its.toList ns) (Q:⇑ns + 1 < scanBound)
  (H:∀ g a,BZ pr wo led g S (met ns)->(∀ b o,b≠S->b≠I->st>>b=Z o->g.get? b=Z o)->st.toks<=a->R (.ok (.ret .none)) { st with heap:=g,toks:=a }):
  ∀ (k i:Nat) (g:Oz) (a:Nat),⇑ns-i=k->i<=⇑ns->g.IsListIter I l i->g.IsList l its->BZ pr wo led g S (met (ns.take i)) ->
   (∀ b o,b≠S->b≠I->st>>b=Z o->g.get? b=Z o)->st.toks<=a ->
   P0 (MW pr wo) Ar (.builtin "set.update.loop" ⟨[↥S,↥I],[]⟩) R { st with heap:=g,toks:=a }:=by
 have z:its.size=⇑ns:=by simpa using (IntsAre.length G)
 intro k
 induction k with
 |zero=>
  intro i g a N D f x s B le;have c:i=⇑ns:=Y
  refine N0 Ua ?_;rw[NP Re _];change MI _ Ar.in1 (QM ↥I>>=_) _ _ _;refine HD (wpAny_pyNext_list_end (by simp[hh]) f x (by simp;lia) λy ext=>?_);rw[c,Qf] at s;show Mm (H y a (pF s λo e=>ext S o j e) (λb o u n e=>ext b o n (B b o u n e)) le)
 |succ k J=>
  intro i g a N D f x s B le;have c:i<⇑ns:=Y
  obtain⟨v,F⟩:∃ v,its[i]?=Z v:=⟨its[i]'Y,by simp[z,c]⟩
  obtain⟨t,rfl⟩:=IntsAre.int_at G i v (by rw[O0];show F);refine N0 Ua ?_;rw[NP Re _];change MI _ Ar.in1 (QM ↥I>>=_) _ _ _;refine HD (UQ f x F λy p C=>?_);change MI _ Ar.in1 (holding [PZ (ns.getD i 0) t] (setAdd S (.int (ns.getD i 0) t))>>=_) _ _ _;refine HD (Nv ?_);unfold setAdd;refine Nv (HD ((QP pr wo).pyHash (intKind_is _ _ _ _) ?_));have d:⇑(met (ns.take i))+1<scanBound:=by
   have:=tU (ns.take i);rw[Nl] at this;lia
  refine zI (pF s λo e=>by rw[C.2 S j];show e) d λM h m=>?_
  have L:met (ns.take (i+1))=if ns.getD i 0∈met (ns.take i) then met (ns.take i) else met (ns.take i)++[ns.getD i 0]:=by
   rw[<- acn]
   congr 1
   rw[List.take_succ];simp[c,List.getD]
  rw[<- L] at m;refine Mm ⟨Pe Re _,J (i+1) M (a+1) Y c ?_ ?_ m (λb o u n e=>?_) (Nat.le_succ_of_le le)⟩
  .obtain⟨o,q,r⟩:=p;show⟨o,by rw[h.2 I (Om j)];show q,r⟩
  .obtain⟨o,q,r⟩:=x;show⟨o,by rw[h.2 l (Om E)];rw[show y.get? l=g.get? l from C.2 l A];show q,r⟩
  .rw[h.2 b u];change y.get? b=Z o;rw[C.2 b n];show B b o u n e
def zW (a:Mo)
  (h:Q₁ ↥st⁻¹ { st with heap:=st.heap.push { cls:=.type "set",dict:=none,data:=.set #[] 0 (.fresh 0 0 (!Gc wo)) } }):
  P0 (MW pr wo) Ar (.call (.builtin "set.__new__") ⟨[.type "set",a],[]⟩) (wants Q₁ Ex) st:=by
 refine Vg ?_;change MI _ Ar.in1 (do UB "set.__new__" ⟨[.type "set",a],[]⟩;again (.builtin "set.__new__" ⟨[.type "set",a],[]⟩)) _ _ st;refine HD (RT (F.newCall_set_1 a) (Mm ⟨Pe F.plain_set_new _,N0 F.entry_set_new ?_⟩));rw[NP F.plain_set_new _];unfold OJ.«set.__new__» Builtin.Frozenset.newClass;have b:=sub_set_self;dsimp only
 wp_walk
 refine QX (Mm ?_);dsimp only;simp only[newObj];show HD (wpAny_alloc (Mm (Mm h)))
def vy (h:H.get? a=Z { cls:=.type "set",dict:=none,data:=.set #[] 0 (.fresh 0 0 led) }):BZ pr wo led H a []:=
 ⟨_,#[],0,_,h,⟨U,U,U⟩,U,λe b=>by simp at b,λk=>zyA,O,by cases led<;>decide,U,Tt,RE,U⟩
end
section
variable {st:Mt}
def abx (hh:Ar.handled=none) (X:st.heap.IsList l its) (hi:OA its.toList ns) (hb:⇑ns + 1 < scanBound)
  (h:∀ (g:Oz) (i:Nat),BZ pr wo (!Gc wo) g st⁻¹ (met ns)->(∀ b o,st>>b=Z o->g.get? b=Z o)->st.toks<=i->Q ↥st⁻¹ { st with heap:=g,toks:=i }):
  MI (MW pr wo) Ar (call (.type "set") [↥l]) Q Ex st:=by
 obtain⟨c,tl,N⟩:=Qq.mro;have G:=Qq.made;have L:=Qq.sub;refine P1 (Vg ?_);change MI _ _ (callAny (.type "set") _) _ _ _;refine Mm ⟨S6 _ zyB,N0 F.entry_type_call ?_⟩;rw[Around.under_plain (weight_type_call_type "set" [↥l] []) U];have h1:=Qq.notType;have h2:=Qq.canCreate;have hct:=F.typeCall_set_1 ↥l
 repeat (any_goals (first|assumption|wp_step))
 refine PF (zW (Ex:=Ex) ↥l (Q₁:=λp d=>p=↥st⁻¹/\d={ st with heap:=st.heap.push { cls:=.type "set",dict:=none,data:=.set #[] 0 (.fresh 0 0 (!Gc wo)) } }) ⟨U,U⟩) λr d I=>?_
 cases r with
 |error e=>show I
 |ok fl=>
  cases fl with
  |ret p=>
   obtain⟨rfl,rfl⟩:=I;have B:(st.heap.push { cls:=.type "set",dict:=none,data:=.set #[] 0 (.fresh 0 0 (!Gc wo)) }).get? st⁻¹=Z { cls:=.type "set",dict:=none,data:=.set #[] 0 (.fresh 0 0 (!Gc wo)) }:=Ms _ U;have J:(st.heap.push { cls:=.type "set",dict:=none,data:=.set #[] 0 (.fresh 0 0 (!Gc wo)) }).objs.size=st⁻¹+1:=NQ _ _;have k:∀ b o,st>>b=Z o->(st.heap.push { cls:=.type "set",dict:=none,data:=.set #[] 0 (.fresh 0 0 (!Gc wo)) }).get? b=Z o:=λb o e=>Ml _ e
   generalize st.heap.push { cls:=.type "set",dict:=none,data:=.set #[] 0 (.fresh 0 0 (!Gc wo)) }=m at B J k ⊢;have hT:Wd { st with heap:=m } ↥st⁻¹ "set":=⟨_,B,U⟩
   have hli:=Qq.init.lookup;have hbi:=Qq.init.bind ↥st⁻¹
   repeat (any_goals (first|assumption|wp_step))
   refine PF (QO (R:=wants (fun r f=>r=.none/\∃ g i,f={ st with heap:=g,toks:=i }/\BZ pr wo (!Gc wo) g st⁻¹ (met ns) /\
     (∀ b o,st>>b=Z o->g.get? b=Z o)/\st.toks<=i) Ex) Qq.init.plain F.entry_set_init (check_set_init_1 hT ?_)) λs f a=>?_
   .have j:m.IsList l its:=by obtain⟨o,q,r⟩:=X;show⟨o,k _ _ q,r⟩
    have t:l<st⁻¹:=by obtain⟨o,q,r⟩:=X;show Mr q
    obtain⟨ol,hol,v,nl,u⟩:=id j;obtain⟨T,H,E,y⟩:=ol;simp only at v u;subst v;subst u;have M:=F.sub_list_set;have hslf:=F.sub_list_frozenset;have hne:(OW "list"==OW "dict")=false:=O
    unfold OJ.«set.__init__» noKeywords Builtin.Frozenset.updateFrom;generalize z:Wk=PI
    wp_walk
    subst z;refine OG j (HD (VG ?_));have up1:∀ b o,m.get? b=Z o->(m.push { cls:=.type "list_iterator",data:=.fields #[↥l,.int 0 0] }).get? b=Z o:=λb o e=>Ml _ e
    have x:l<m.objs.size:=by rw[J];show NB t
    have n:st⁻¹<m.objs.size:=by rw[J];show N_ _
    refine ab9 (by simp[hh]) (MH x) (MH n) (Oi t) hi hb (λg i D C A=>?_)
     (⇑ns-0) 0 _ st.toks rfl (N7 _) ⟨_,Ms _ U,U,U⟩ (j.push _) (vy (up1 _ _ B)) (λb o _ _ e=>up1 b o e) (Mz _)
    change MI _ _ _ _ _ _;refine Mm ?_;change MI _ _ (ret Nc) _ _ _;refine Mm ⟨U,g,i,U,D,λb o e=>?_,A⟩;have S:=Mr e;show C b o (MH S) (MH (Nat.lt_trans S n)) (k b o e)
   .cases s with
    |error e=>show a
    |ok j=>
     cases j with
     |ret r=>
      obtain⟨rfl,g,i,rfl,D,C,A⟩:=a
      repeat (any_goals (first|assumption|wp_step))
      show h _ _ D C A
     |_=>show a.elim
  |_=>show I.elim
end
open L2
def rq:∀ {ns:List Int}{b:List Mo},Ah (ns.map V.int) b->OA b ns:=by
 intro ns
 induction ns with
 |nil=>intro b r;cases r;show .nil
 |cons a ns c=>
  intro b r;cases r with
  |cons h t=>obtain⟨k,rfl⟩:=h;show .cons a k (c t)
def ix:∀ {ns:List Int}{a:List Mo},OA a ns->Ah (ns.map V.int) a:=by
 intro ns a h
 induction h with
 |nil=>show .nil
 |cons n t _ b=>show .cons ⟨t,U⟩ b
def zm (ns:List Int):(met ns).Nodup:=by
 have g:∀ (ns b:List Int),b.Nodup->(ns.foldl (λb k=>if k∈b then b else b++[k]) b).Nodup:=by
  intro ns
  induction ns with
  |nil=>intro b h;show h
  |cons a ns e=>
   intro b h;refine e _ ?_;dsimp only
   split
   .show h
   .rename_i d
    show TU.mpr ⟨h,zyA,λx f y c=>by
     rw[Mu] at c;subst c;show λq=>d (q▸f)⟩
 show g ns [] Tt
def aac {ns:List Int}(c:ns.Pairwise (·<=·))(f:ns.Nodup):ns.Pairwise (·<·):=by
 induction ns with
 |nil=>show .nil
 |cons a l d=>
  have p:=OL.mp c;have n:=Ou.mp f;refine OL.mpr ⟨λx b=>?_,d p.2 n.2⟩;have:=p.1 x b;have ne:a≠x:=λe=>n.1 (e▸b)
  lia
variable {X:Cx}{pins:Lb}
section
variable {K:KE}{σ:L2.St}{H:Hp}{s:Mt}
def zO (I:Ag X pins σ H s)(d:Drawn):Ag X pins σ H { s with drawn:=d }:=⟨I.ok,I.os,I.bare,I.base,I.loc,I.cell,I.free,I.freeC,I.pin,I.hok,I.len⟩
def L' (K:KE)(c:TA):TE:=λσ H Q=>c σ H λvs b=>∃ (q:MF) (ns:List Int),vs=[↥q]/\An K b q (ns.map V.int)/\⇑ns<64 /\
 ∀ (L:MF) (a:List Int),b L=none->a.Pairwise (·<·)->(∀ x:Int,x∈a↔x∈ns)->⇑a<=⇑ns->Q ↥L (upd b L (.lst (a.map V.int)))
def oA (hK:X.K=K) {e:OZ}{M:TA}{p l C a:Pos} (N:X.calm=true) (hg:Gl X "sorted") (hm:X.mg "sorted"=none) (u:Gl X "set") (v:X.mg "set"=none) (ha:PA X [e] M)
  (hs:M0 [e] X.env=(false,QA e X.env)::M0 [] X.env<|>C')(z:(Qx a (M0 [] X.env)).any (·.1)=false<|>C')
  (j:M0 [Expr.Call (.Name "set" l) [e] [] a] X.env=[(false,QA (.Call (.Name "set" l) [e] [] a) X.env)]<|>C'):
  PE X (.Call (.Name "sorted" p) [.Call (.Name "set" l) [e] [] a] [] C) (L' K M):=by
 subst hK;refine⟨λpins s σ H Q I h=>NX (gH I hg hm jD (R7 ?_ j rfl))⟩;rw[j];change MI _ _ (spliced ((false,QA (.Call (.Name "set" l) [e] [] a) X.env)::[])) _ _ s;refine VZ (Call_ (gH I u v aeC (OM (bo (ha a pins s σ H _ I h) λus G y=>?_) hs z)));obtain⟨vs,H1,c,r1,q1⟩:=y;obtain⟨q,ns,rfl,hq,hl,k⟩:=q1;cases r1 with
 |cons ru rt=>
 cases rt;cases ru;obtain⟨T,rv,⟨o,n,po,pc,pd,i⟩,R⟩:=c.list hq;refine abx (c.ok.hd N) ⟨o,po,pc,n,i⟩ (rq rv) (by unfold scanBound;lia) λg tk J up le=>Wq (vA (c.ok.hd N) J (by have:=tU ns;lia) λL g2 d r out f m hL D io A S E iX=>?_)
 have B:G⁻¹<=L:=M1 (N4 (by obtain⟨_,_,_,_,w,_⟩:=J;show Mr w)) hL;have F:=c.hok.fresh B;have t:=c.fpOk B F;have J0:Ag X pins σ H1 { G with heap:=g2,toks:=r,drawn:=d }:=zO (c.kept λb o e=>E b o (up b o e)) d;have ln:⇑f<=⇑ns:=by rw[A.length_eq];show tU ns
 show⟨↥L,_,iE (o:=.lst (f.map V.int)) J0 F (M1 c.sz B) t.2.1 t.2.2.2.2.1 t.2.2.2.2.2 ⟨by rw[Mq,NN];lia,out.toList,m,ix io,D⟩,U,k L f F (aac S (A.nodup_iff.mpr (zm ns))) (λx=>by rw[A.mem_iff,adR]) ln⟩
def G7 (K:KE):List V->Hp->VK->Prop:=λvs H Q=>∃ (q:MF) (ns:List Int),vs=[↥q]/\An K H q (ns.map V.int)/\⇑ns<64 /\
 ∀ (L:MF) (a:List Int),H L=none->a.Pairwise (·<=·)->a.Perm ns->Q ↥L (upd H L (.lst (a.map V.int)))
def uu:AI X (.builtin "sorted") (G7 X.K):=by
 intro pins s σ H vs N Q I r h;obtain⟨q,ns,rfl,hq,M,k⟩:=h;cases r with
 |cons F G=>
 cases G;cases F;obtain⟨a,t,⟨o,n,x,C,L,d⟩,u⟩:=I.list hq;have A:⇑a=⇑ns:=by have:=Ah.length t;simpa using this.symm
 refine sorted_ints ⟨o,x,C,n,d⟩ (rq t) Y λout c z p v=>?_
 have E:((s.heap.push (N9 "list" #[] 0)).update s⁻¹ (NH (·++a.toArray))).objs.size=s⁻¹+1:=by rw[Uy,size_push']
 have j:(((s.heap.push (N9 "list" #[] 0)).update s⁻¹ (NH (·++a.toArray))).push (N9 "list" a.toArray 0)).get? (s⁻¹+1)=Z (N9 "list" a.toArray 0):=by
  rw[<- E];show Ms _ U
 have B:∀ b o,s>>b=Z o->(sortedAll s.heap a out).get? b=Z o:=λb o e=>by
  have l:=Mr e;unfold sortedAll;refine il (Oi (NB l)) (Ml _ ?_);rw[MV _ _ (Oi l)];show Ml _ e
 obtain⟨m,y⟩:=iU j;have i:s⁻¹<=s⁻¹+1:=Q5 _;have g:=I.hok.fresh i;have f:=I.fpOk i g;have D:Ag X pins σ H { s with heap:=sortedAll s.heap a out }:=I.kept B;have J:⇑c=⇑ns:=p.length_eq;show⟨↥(s⁻¹+1),_,iE (o:=.lst (c.map V.int)) D g (M1 I.sz i) f.2.1 f.2.2.2.2.1 f.2.2.2.2.2 ⟨by rw[Mq,NN];lia,out.toList,m,ix z,y⟩,U,k _ c g v p⟩
def acj (e:X.K=K):AI X (.builtin "sorted") (G7 K):=by subst e;show uu
end
def EI (p r:Pt):Rat:=((r.2-p.2:Int):Rat)/((r.1-p.1:Int):Rat)
def mK {g:TG}{tt:TT}{s:TE}{f:L2.St}{Fin:SS}{d:Hp}{lo:Int}{t r:MF}{n:Nat}{m:Int} (u:Az d t r) (B:n <= 1000)
  (he:∀ (i:Nat) (H:Hp),i<n->Az H t r->Mv [t,r] d H->Cc g tt s f ↑(lo+i) H λy H'=>∃ k:Int,y=↑k/\0<=k/\k<=m/\Az H' t r/\Mv [t,r] H H')
  (A:∀ (a:List Int) (H:Hp),⇑a=n->(∀ k∈a,0<=k/\k<=m)->Az H t r->Mv [t,r] d H->Fin (a.map V.int) H):Bi (IA lo n) g tt s f Fin d:=by
 refine kH (λi j H=>Az H t r/\Mv [t,r] d H/\∃ a:List Int,⇑a=i/\(∀ k∈a,0<=k/\k<=m)/\j=a.map V.int) ⟨u,Mv.refl,[],U,λ_ h=>(MQ h).elim,U⟩ B (λi j H q p=>?_) (λi j H q p=>?_) (λj H p=>?_)
 .obtain⟨_,_,a,e,_,rfl⟩:=p;rw[Mq,e];show Mz _
 .obtain⟨c,b,a,e,l,rfl⟩:=p;intro R C S;refine he i H q c b R (λy H' v=>?_) S;obtain⟨k,rfl,k0,k1,kX,o⟩:=v;refine C _ _ ⟨kX,b\o,a++[k],by simp[e],λx z=>?_,zyA⟩;rcases Nk.mp z with h|h
  .show l x h
  .rw[Mu] at h;subst h;show⟨k0,k1⟩
 .obtain⟨c,b,a,e,l,rfl⟩:=p;show A a H e l c b
def adr (a:List Pt):Bn (a.map Df)=true:=by
 induction a with
 |nil=>rfl
 |cons p a b=>rw[MR];simp only[Bn,MX];show⟨U,b⟩
theorem yr {K:KE}:∀ {ns:List Int}{ys:List V},Af K H (ns.map O7) ys->ys=ns.map V.int
 |[],_,h=>by cases h;rfl
 |_::_,_,h=>by
  cases h with
  |cons h q=>
   cases h;rw[yr q];rfl
def abK (xs:List V)(n:Nat)(h:1<=n):GN xs none (Z ((n:Int)-1))=xs.take (n-1):=by
 unfold GN;have e:((n:Int)-1)=((n-1:Nat):Int):=Y
 rw[e,HT.sIx_none,HT.sIx_nat,List.drop_zero,Nat.sub_zero];apply TN;intro i;rw[S8,S8]
 by_cases a:i<n-1
 .by_cases b:i<⇑xs
  .rw[M' Y,M' a]
  .rw[MZ Y,M' a,U1 Y]
 .rw[MZ Y,MZ a]
structure Pl (last:Int)(ns:List Int):Prop where
 up:ns.Pairwise (·<·)
 z:ns[0]?=Z 0
 l:ns.getLast?=Z last
 inn:∀ x∈ns,0<=x/\x<=last
 two:2<=⇑ns
 few:⇑ns<=12
def ph {R:Int->Int->Prop}{ns:List Int}(h:ns.Pairwise R){i j:Nat}{a b:Int}(c:i<j)(g:ns[i]?=Z a)(d:ns[j]?=Z b):R a b:=by obtain⟨e,rfl⟩:=Mp.mp g;obtain⟨f,rfl⟩:=Mp.mp d;show Tu.mp h i j e f c
def ux {ns:List Int}{a:Int}(h:ns.getLast?=Z a):ns[⇑ns-1]?=Z a:=by rw[NJ] at h;show h
def aga {c:Int}{ns:List Int}(v:1<=c)(k:ns.Pairwise (·<·))(q:0∈ns)(p:c∈ns)(g:∀ x∈ns,0<=x/\x<=c)(l:⇑ns<=12):Pl c ns:=by
 obtain⟨i,s,o⟩:=N5 q;obtain⟨j,u,m⟩:=N5 p;have f:ns[i]?=Z 0:=by rw[MC s,o]
 have d:ns[j]?=Z c:=by rw[MC u,m]
 have n:i=0:=by
  by_cases h:i=0
  .show h
  .have t:ns[0]?=Z ns[0]:=MC Y;have a:=ph k Y t f;have b:=(g ns[0] (Oy _)).1;lia
 have r:j=⇑ns-1:=by
  by_cases h:j=⇑ns-1
  .show h
  .have t:ns[⇑ns-1]?=Z ns[⇑ns-1]:=MC Y;have a:=ph k Y d t;have b:=(g ns[⇑ns-1] (Oy _)).2;lia
 have ne:i≠j:=λe=>by subst e;rw[f] at d;injection d;lia
 subst n;refine⟨k,f,by rw[NJ,<- r];show d,g,Y,l⟩
def afn {c:Int}{ns:List Int}{m:Nat}(h:Pl c ns)(j:1<m)(g:m<=⇑ns):Pl c (ns.take (m-1)++[c])/\⇑(ns.take (m-1)++[c])=m:=by
 have len:⇑(ns.take (m-1)++[c])=m:=by rw[MP,Nl];simp;lia
 refine⟨⟨?_,?_,zyA,?_,Y,by have:=h.few;lia⟩,len⟩
 .refine Vv.mpr ⟨h.up.sublist (TV _ _),List.pairwise_singleton _ _,λa f b d=>?_⟩;rw[Mu] at d;subst d;obtain⟨i,e,rfl⟩:=N5 f;rw[Nl] at e;rw[Wy];show ph h.up Y (MC Y) (ux h.l)
 .rw[NY (by rw[Nl];lia),S8,M' Y];show h.z
 .intro x d;rcases Nk.mp d with q|q
  .show h.inn x (List.mem_of_mem_take q)
  .rw[Mu] at q;subst q;show h.inn _ (Ot h.l)
def afy {a:Int}(h:1<=a):Pl a [0,a]:=⟨by simp;lia,U,U,λx b=>by simp at b;lia,zyA,zyA⟩
def wI {c:Int}{ns vs:List Int}(h:Pl c ns)(u:c<=1000)(s:vs.Pairwise (·<=·))(r:∀ x∈vs,0<=x/\x<=1000)(v:⇑vs=⇑ns):Ew (ns.zip vs)/\∃ z,(ns.zip vs).getLast?=Z z/\z.1=c:=by
 have len:⇑(ns.zip vs)=⇑ns:=by rw[SI];lia
 have f:=h.two;have t:=h.few;refine⟨⟨Y,Y,λp d=>?_,λp d=>?_,λi p q k j=>?_⟩,?_⟩
 .have:=(Nm.mp d).1;rw[h.z] at this;injection this with e
  show e.symm
 .obtain⟨a,b⟩:=PU d;have:=h.inn _ a;have:=r _ b;show⟨Y,Y,Y,Y⟩
 .obtain⟨n,o⟩:=Nm.mp k;obtain⟨m,g⟩:=Nm.mp j;show⟨ph h.up (N_ i) n m,ph s (N_ i) o g⟩
 .have e:=ux h.l;have g:⇑ns-1<⇑vs:=Y
  refine⟨(c,vs[⇑ns-1]),?_,U⟩;rw[NJ,len];show Nm.mpr ⟨e,MC g⟩
def adP {a:Rat}:(p.2:Rat)+((q.2:Rat)-(p.2:Rat))/((q.1:Rat)-(p.1:Rat))*(a-(p.1:Rat))=Ep p q a:=by unfold Ep;rw[SQ,SQ];grind
def pZ (p q:Pt)(a:Rat):Ep p q a=(p.2:Rat)+EI p q*(a-(p.1:Rat)):=by rw[<- adP];unfold EI;rw[M6,M6]
def abL (c:p.1<q.1)(d:p.2<=q.2):0<=EI p q:=by
 unfold EI;have a:(0:Rat)<=((q.2-p.2:Int):Rat):=by
  have:(0:Int)<=q.2-p.2:=Y
  exact_mod_cast this
 have b:(0:Rat)<((q.1-p.1:Int):Rat):=by
  have:(0:Int)<q.1-p.1:=Y
  exact_mod_cast this
 rw[SQ];show VD a (Q_ (Rat.inv_pos.mpr b))
def je (d:p.1<q.1)(e:p.2<=q.2){a b:Rat}(h:a<=b):Ep p q a<=Ep p q b:=by have c:=abL d e;rw[pZ,pZ];generalize EI p q=m at c;have:=VD c (show 0<=b-a by grind);grind
def tL (p q:Pt):Ep p q (p.1:Rat)=(p.2:Rat):=by rw[pZ];grind
def rX (b:p.1<q.1):Ep p q (q.1:Rat)=(q.2:Rat):=by
 have a:((q.1-p.1:Int):Rat)≠0:=by
  have:(q.1-p.1:Int)≠0:=Y
  exact_mod_cast this
 rw[pZ];unfold EI;rw[M6] at a;rw[M6,M6,SQ];grind
def Ba (a:List Pt):Bool:=((a.zip (a.drop 1)).map λz=>decide (z.1.2<z.2.2)).all id
def p_:∀ {ns:List Int}{b:List Mo},Ah (ns.map V.int) b->∃ c:List (Int×Tok),b=c.map (λp=>PZ p.1 p.2)/\c.map (·.1)=ns:=by
 intro ns
 induction ns with
 |nil=>intro b r;cases r;show⟨[],U,U⟩
 |cons a ns d=>
  intro b r;cases r with
  |cons h t=>
   obtain⟨k,rfl⟩:=h;obtain⟨c,rfl,rfl⟩:=d t;show⟨(a,k)::c,U,U⟩
theorem uU (f:Nat->Int):∀ n,SU (λi j=>decide (f i>f j)) n<=n/\∀ i,i<=n->f i<=f (SU (λi j=>decide (f i>f j)) n)
 |0=>⟨Mz _,λi a=>by cases Nat.le_zero.mp a;show Ub _⟩
 |n+1=>by
  obtain⟨d,b⟩:=uU f n;simp only[SU]
  by_cases c:f (n+1)>f (SU (λi j=>decide (f i>f j)) n)
  .rw[M' (MB c)];refine⟨Mz _,λi a=>?_⟩;rcases U8 n i with h|h
   .have:i=n+1:=Y
    subst this;show Ub _
   .have:=b i h;lia
  .rw[MZ (λz=>c (N1 z))];refine⟨Y,λi a=>?_⟩;rcases U8 n i with h|h
   .have:i=n+1:=Y
    subst this;lia
   .show b i h
def lI {a:List (Int×Tok)}{i:Nat}{p:Int×Tok}(h:a[i]?=Z p):WL a.toArray i=p.1:=by unfold WL;rw[U2,h];rfl
def uG (a:List (Int×Tok)):(a.map λp=>PZ p.1 p.2).toArray=Tg a.toArray:=by unfold Tg;simp
def afx {a:List (Int×Tok)}{x:Int}(h:x∈a.map (·.1)):∃ i,i<=a.toArray.size-1/\WL a.toArray i=x:=by obtain⟨p,c,rfl⟩:=Nd.mp h;obtain⟨i,b,rfl⟩:=N5 c;show⟨i,by simp;lia,lI (by simp[b])⟩
def afk {a:List (Int×Tok)}{i:Nat}{v:Mo}(h:(Tg a.toArray)[i]?=Z v):∃ t,v=.int (WL a.toArray i) t/\WL a.toArray i∈a.map (·.1):=by obtain⟨t,rfl⟩:=intItems_at h;refine⟨t,U,?_⟩;simp only[Tg,Array.getElem?_map,MG] at h;obtain⟨p,b,e⟩:=h;rw[U2] at b;rw[lI b];show Nd.mpr ⟨p,MD b,U⟩
section
variable {K:KE}
def L8:KG:=λx y H Q=>∃ i j,x=↑i/\y=↑j/\DX i j/\Q ↑(i*j) H
def afc:K3 X .Mult L8:=by
 intro b s l H x y v u Q I d f h;obtain⟨i,j,e,c,g,q⟩:=h;subst e;subst c;obtain⟨t,rfl⟩:=d;obtain⟨m,rfl⟩:=f;refine imul_int ⟨↑_,H,I.tok _,⟨_,U⟩,q⟩ ?_;rcases g with ⟨a,k⟩|a
 .show Uz (M1 a.bits O) (M1 k.bits O)
 .show W1 a.bits
end
theorem jq {K:KE}:∀ {ns:List Int}{xs:List V},Af K H (ns.map O7) xs->xs=ns.map V.int
 |[],xs,h=>by cases h;rfl
 |n::ns,xs,h=>by
  cases h with
  |cons a b=>
   cases a;rw[jq b];rfl
def Hu (rs:List Rat):Rat:=rs.foldl (·+·) 0
def qN (rs:List Rat)(q:Rat):Hu (rs++[q])=Hu rs+q:=by unfold Hu;rw[RF];rfl
def rV {rs:List Rat}{i:Nat}{d:NM}(h:(rs.map rD)[i]?=Z d):∃ q,rs[i]?=Z q/\d=rD q:=by rw[Mw,MG] at h;obtain⟨q,e,rfl⟩:=h;show⟨q,e,U⟩
theorem yt {b:Nat}{rs:List Rat}(h:∀ r∈rs,Bq b r):∀ n,n<=⇑rs->Bq (n*(b+1)+1) (Hu (rs.take n))
 |0,_=>by
  change Bq _ (0:Rat);show⟨O,O,by unfold Sm;simp,by unfold Sm;simp⟩
 |n+1,c=>by
  have a:rs[n]?=Z rs[n]:=by simp[show n<⇑rs by lia]
  rw[bD a,qN];have:=(yt h n Y).add (h _ (Oy (show n<⇑rs by lia)));show this.mono (by rw[R6];lia)
def AX (rs:List Rat):Int:=rs.foldl (λn r=>n*(r.den:Int)) 1
def oE (rs:List Rat)(q:Rat):AX (rs++[q])=AX rs*(q.den:Int):=by unfold AX;rw[RF];rfl
theorem ij {b:Nat}{rs:List Rat}(h:∀ r∈rs,Bq b r):∀ n,n<=⇑rs->0<AX (rs.take n)/\Sm (n*b+1) (AX (rs.take n))
 |0,_=>by
  change 0<(1:Int)/\Sm _ (1:Int);show⟨O,by unfold Sm;simp⟩
 |n+1,e=>by
  have c:rs[n]?=Z rs[n]:=by simp[show n<⇑rs by lia]
  rw[bD c,oE];obtain⟨a,d⟩:=ij h n Y;have k:=h _ (Oy (show n<⇑rs by lia));refine⟨Int.mul_pos a k.pos,(d.mul k.sd).mono (by rw[R6];lia)⟩
def rH {r:Rat}(h:r∈rs):(r.den:Int)∣AX rs:=by
 have d:∀ (rs:List Rat) (n:Int),n∣rs.foldl (λn r=>n*(r.den:Int)) n:=by
  intro rs
  induction rs with
  |nil=>intro n;show Int.dvd_refl _
  |cons a rs b=>intro n;show Int.dvd_trans ⟨_,U⟩ (b _)
 have c:∀ (rs:List Rat) (n:Int),r∈rs->(r.den:Int)∣rs.foldl (λn r=>n*(r.den:Int)) n:=by
  intro rs
  induction rs with
  |nil=>intro n h;cases h
  |cons a rs b=>
   intro n h;rcases MA.mp h with rfl|h
   .show Int.dvd_trans (Int.dvd_mul_left _ _) (d _ _)
   .show b _ h
 show c _ _ h
noncomputable def ov (B:Int)(r:Rat):Int:=r.num*(B/(r.den:Int))
def xF {B:Int}{r:Rat}(h:(r.den:Int)∣B):((ov B r:Int):Rat)=r*(B:Rat):=by
 obtain⟨k,rfl⟩:=h;have a:(r.den:Int)≠0:=by have:=r.den_nz;lia
 unfold ov;rw[Int.mul_ediv_cancel_left _ a,MU,MU];have b:=i6 r;have c:=h_ r;grind
def ad9 {b:Nat}{rs:List Rat}{r:Rat}(h:∀ r∈rs,Bq b r)(d:r∈rs):Sm (⇑rs*b+b+1) (ov (AX rs) r):=by obtain⟨c,a⟩:=ij h ⇑rs (Mz _);rw[Qf] at c a;have k:=h r d;refine(k.sn.mul (j:=⇑rs*b+1) ?_).mono Y;have f:0<(r.den:Int):=k.pos;have e:AX rs/(r.den:Int)<=AX rs:=Int.ediv_le_self _ Y;have g:0<=AX rs/(r.den:Int):=UU Y Y;unfold Sm at a ⊢;lia
def p9 {a b c:Rat}(h:a<b)(g:b<=c):a<c:=by grind
def xP {a b c:Rat}(h:a<=b)(g:b<c):a<c:=by grind
noncomputable def sw (p:Pt):Pt:=(p.2,p.1)
inductive AU (ps:List Pt)(c:Rat):Rat->Prop
 |first (y:Pt) (h:ps[0]?=Z y) (e:c=(y.2:Rat)):AU ps c 0
 |on (k:Nat) (p q:Pt) (lo:ps[k]?=Z p) (hi:ps[k+1]?=Z q) (gt:(p.2:Rat)<c) (le:c<=(q.2:Rat)):AU ps c (Ep (sw p) (sw q) c)
def oG {a b:Int}(h:(a:Rat)<(b:Rat)):a<b:=by exact_mod_cast h
def m9 {a:Rat}(b:p.1<q.1)(d:p.2<q.2):Ep p q (Ep (sw p) (sw q) a)=a:=by
 have c:(q.1:Rat)-(p.1:Rat)≠0:=λz=>by
  have:(q.1:Rat)=(p.1:Rat):=by grind
  have:q.1=p.1:=by exact_mod_cast this
  lia
 have e:(q.2:Rat)-(p.2:Rat)≠0:=λz=>by
  have:(q.2:Rat)=(p.2:Rat):=by grind
  have:q.2=p.2:=by exact_mod_cast this
  lia
 unfold Ep sw;dsimp only;rw[SQ,SQ];grind
def aaF (p:Pt):sw (sw p)=p:=U
def w_ {c:Rat}(b:p.1<q.1)(d:(p.2:Rat)<c)(le:c<=(q.2:Rat)):(p.1:Rat)<Ep (sw p) (sw q) c/\Ep (sw p) (sw q) c<=(q.1:Rat):=by
 have a:p.2<q.2:=oG (p9 d le);constructor
 .refine Rat.not_le.mp λz=>?_
  have:=je b (Pw a) z;rw[m9 b a,tL] at this;show absurd d (O8.mpr this)
 .have:=je (p:=sw p) (q:=sw q) a (Pw b) le;have e:=rX (p:=sw p) (q:=sw q) a;rw[show(sw q).1=q.2 from rfl,show(sw q).2=q.1 from rfl] at e;rw[e] at this;show this
def AU.at_ {a:List Pt}(h:Ew a){c b:Rat}{z:Pt}(r:a.getLast?=Z z)(x:AU a c b):0<=b/\b<=(z.1:Rat)/\GU a b c:=by
 have n:=h.two;have d:a[⇑a-1]?=Z z:=by rw[<- NJ];show r
 cases x with
 |first y f e=>
  have l:=h.zero y f;have g:1<⇑a:=Y
  have j:a[1]?=Z a[1]:=MC g;have i:=(h.up 0 y _ f j).1;have m:=(h.mono (⇑a-1) 0 y z f (by rw[Ol];show d)).1;refine⟨Xf,?_,0,y,a[1],⟨f,j,.inl rfl,?_⟩,?_⟩
  .have:(0:Int)<=z.1:=Y
   exact_mod_cast this
  .have:(0:Int)<=(a[1]).1:=Y
   exact_mod_cast this
  .rw[e];have:=tL y a[1];rw[l] at this;show this.symm
 |on k p q lo f g le=>
  have i:=(h.up k p q lo f).1;obtain⟨l,j⟩:=w_ i g le;have t:=(Mp.mp f).1;have s:(0:Rat)<=(p.1:Rat):=by have:=(h.inn p (MD lo)).a1;exact_mod_cast this
  have o:(q.1:Rat)<=(z.1:Rat):=by exact_mod_cast ((h.mono (⇑a-1-(k+1)) (k+1) q z f (by rw[show k+1+(⇑a-1-(k+1))=⇑a-1 by lia];show d)).1)
  show⟨Pj s (Q_ l),Pj j o,k,p,q,⟨lo,f,.inr l,j⟩,(m9 i (oG (p9 g le))).symm⟩
def AU.least (h:Ew ps){c b a v:Rat}(x:AU ps c b)(E:0<=a)(d:a<b)(y:GU ps a v):v<c:=by
 cases x with
 |first y f e=>show absurd d (O8.mpr E)
 |on k p q lo o i le=>
  have l:=(h.up k p q lo o).1;obtain⟨G,D⟩:=w_ l i le;have C:p.2<q.2:=oG (p9 i le);obtain⟨j,r,s,st,rfl⟩:=y;obtain⟨A,F⟩:=h.up j r s st.lo st.hi;rcases TX j k with n|n|n
  .have m:=h.mono (k-(j+1)) (j+1) s p st.hi (by rw[show j+1+(k-(j+1))=k by lia];show lo);have f:Ep r s a<=(s.2:Rat):=by rw[<- rX A];show je A F st.le
   have t:(s.2:Rat)<=(p.2:Rat):=by exact_mod_cast m.2.1
   show xP (Pj f t) i
  .subst n;have f:=st.lo;rw[lo] at f;cases f;have B:=st.hi;rw[o] at B;cases B;refine Rat.not_le.mp λz=>?_
   have u:=je (p:=sw p) (q:=sw q) C (Pw l) z;have e:=m9 (p:=sw p) (q:=sw q) (a:=a) C l;rw[aaF,aaF] at e;rw[e] at u;show absurd d (O8.mpr u)
  .exfalso;have g:(r.1:Rat)<a:=by
    rcases st.gt with e|e
    .lia
    .show e
   have t:(q.1:Rat)<=(r.1:Rat):=by exact_mod_cast (h.mono (j-(k+1)) (k+1) q r o (by rw[show k+1+(j-(k+1))=j by lia];show st.lo)).1
   have:=p9 (xP t g) (Q_ d);show absurd this (O8.mpr D)
def xW (c:p.1<q.1)(d:p.2<q.2){a b:Rat}(h:a<b):Ep p q a<Ep p q b:=by
 refine Rat.not_le.mp λz=>?_
 have u:=je (p:=sw p) (q:=sw q) d (Pw c) z;have e:=λa=>m9 (p:=sw p) (q:=sw q) (a:=a) d c
 simp only[aaF] at e;rw[e,e] at u;show absurd h (O8.mpr u)
def AU.rise (h:Ew ps)(t:∀ (i:Nat) (p q:Pt),ps[i]?=Z p->ps[i+1]?=Z q->p.2<q.2){c b a:Rat}(x:AU ps c b)(C:0<=a)(y:GU ps a c)(B:ps.getLast?=Z z)(E:a<=(z.1:Rat)):b=a:=by
 obtain⟨F,G,v⟩:=x.at_ h B;refine Vb (O8.mp λlt=>?_) (O8.mp λlt=>?_)
 .have:=x.least h C lt y;show absurd this (Rn)
 .obtain⟨k,p,q,d,o⟩:=v;obtain⟨j,r,s,f,n⟩:=y;have u1:=(h.up k p q d.lo d.hi).1;have u2:=t k p q d.lo d.hi;rcases TX k j with m|m|m
  .have g:(r.1:Rat)<a:=by
    rcases f.gt with e|e
    .lia
    .show e
   have A:Ep p q b<=(q.2:Rat):=by rw[<- rX u1];show je u1 (Pw u2) d.le
   have D:(r.2:Rat)<Ep r s a:=by rw[<- tL r s];show xW ((h.up j r s f.lo f.hi).1) (t j r s f.lo f.hi) g
   have u:(q.2:Rat)<=(r.2:Rat):=by exact_mod_cast (h.mono (j-(k+1)) (k+1) q r d.hi (by rw[show k+1+(j-(k+1))=j by lia];show f.lo)).2.1
   have:=xP (Pj A u) D;rw[<- o,<- n] at this;show absurd this (Rn)
  .subst m;have l:=d.lo;rw[f.lo] at l;cases l;have u:=d.hi;rw[f.hi] at u;cases u;have:=xW u1 u2 lt;rw[<- o,<- n] at this;show absurd this (Rn)
  .have g:(p.1:Rat)<b:=by
    rcases d.gt with e|e
    .lia
    .show e
   have l:(s.1:Rat)<=(p.1:Rat):=by exact_mod_cast (h.mono (k-(j+1)) (j+1) s p f.hi (by rw[show j+1+(k-(j+1))=k by lia];show d.lo)).1
   have:=xP (Pj f.le l) g;show absurd (p9 this (Q_ lt)) (Rn)
structure K2 (K:KE)(ps:List Pt)(H:Hp)(t r:MF)(v:V):Prop where
 tw:Az H t r
 cv:BP K (cut [t,r] H) ps v
def afD (c:p.In)(d:q.In)(h:p.1<q.1){a:Rat}(b:Bq k a):Bq (k+60) (Ep p q a):=by rw[pZ];have bs:Bq 11 (EI p q):=dE Y (by have:=c.b1;have:=c.b2;have:=d.b1;have:=d.b2;unfold Sm;lia) (by have:=c.a1;have:=c.a2;have:=d.a1;have:=d.a2;unfold Sm;lia);have f:Bq 11 (p.1:Rat):=lP (by have:=c.a1;have:=c.a2;unfold Sm;lia) O;have e:Bq 11 (p.2:Rat):=lP (by have:=c.b1;have:=c.b2;unfold Sm;lia) O;show(e.add (bs.mul (b.sub f))).mono Y
def AU.bq (h:Ew ps){c b:Rat}(f:Bq k c)(x:AU ps c b):Bq (k+60) b:=by
 cases x with
 |first y a e=>show bq0.mono Y
 |on j p q lo i g le=>
  have d:=h.inn p (MD lo);have a:=h.inn q (MD i);show afD ⟨d.b1,d.b2,d.a1,d.a2⟩ ⟨a.b1,a.b2,a.a1,a.a2⟩ (oG (p9 g le)) f
def uK (h:Ew ps){a c:Rat}(g:ps[0]?=Z y)(m:ps.getLast?=Z z)(n:0<=a)(x:GU ps a c):(y.2:Rat)<=c/\c<=(z.2:Rat):=by
 obtain⟨j,p,q,st,rfl⟩:=x;have b:ps[⇑ps-1]?=Z z:=by rw[<- NJ];show m
 obtain⟨u1,u2⟩:=h.up j p q st.lo st.hi;have o:=(Mp.mp st.hi).1;have l:(p.1:Rat)<=a:=by
  rcases st.gt with e|e
  .subst e;rw[h.zero p st.lo];show n
  .show Q_ e
 have k:Ep p q a<=(q.2:Rat):=by rw[<- rX u1];show je u1 u2 st.le
 have i:(p.2:Rat)<=Ep p q a:=by
  have:=je u1 u2 l;rw[tL] at this;show this
 have f:(y.2:Rat)<=(p.2:Rat):=by exact_mod_cast ((h.mono j 0 y p g (by rw[Ol];show st.lo)).2.1)
 have d:(q.2:Rat)<=(z.2:Rat):=by exact_mod_cast ((h.mono (⇑ps-1-(j+1)) (j+1) q z st.hi (by rw[show j+1+(⇑ps-1-(j+1))=⇑ps-1 by lia];show b)).2.1)
 show⟨Pj f i,Pj k d⟩
def pQ (h:Ba ps=true)(i:Nat)(p q:Pt)(a:ps[i]?=Z p)(b:ps[i+1]?=Z q):p.2<q.2:=by unfold Ba at h;rw[List.all_map,NE] at h;show N1 (h _ (MD ((Nm (z:=(p,q))).mpr ⟨a,by rw[Rj,P5];show b⟩)))
def HB (k:Nat)(d:NM):Prop:=∀ ds,d=.tuple ds->⇑ds<=1000/\∀ q,rD q∈ds->Bq k q
def Jc (l m:Int):NM->Bool
 |.tuple [↑n,↑e]=>decide (l*e<=n)&&decide (n<=m*e)
 |_=>false
def nC (l m:Int)(q:Rat):Jc l m (rD q)=(decide (l*(q.den:Int)<=q.num)&&decide (q.num<=m*(q.den:Int))):=U
def acW {l m:Int}{q:Rat}(h:Jc l m (rD q)=true):(l:Rat)<=q/\q<=(m:Rat):=by
 rw[nC,MX,Oo,Oo] at h;constructor
 .refine(Vm _ _).mpr ?_;rw[PY,PX]
  simpa using h.1
 .refine(Vm _ _).mpr ?_;rw[PY,PX]
  simpa using h.2
def ig (c:PE X e t)(d:PE X e u):PE X e (λb H Q=>t b H Q\/u b H Q):=⟨λa s b H Q I h=>h.elim (c a s b H Q I) (d a s b H Q I)⟩
def jB {H:Hp}{a b C c:MF}{fs:X5}{o:HO}(f:H a=Z (.ins C c fs))(d:H b=Z o)(e:o≠.ins C c fs):b≠a:=λz=>by
 rw[z,f] at d;show e (Mn d).symm
theorem tX {K:KE}{H:Hp}{a C e:MF}{fs:X5}{o:HO}(d:H a=Z (.ins C e fs)):∀ {c:List Pt}{xs:List V},Af K H (c.map Df) xs->Af K (upd H a o) (c.map Df) xs
 |[],_,.nil=>.nil
 |p::c,_,.cons h t=>by
  refine .cons ?_ (tX d t);obtain⟨f,rfl,b⟩:=aU h;show ji (by rw[ar (jB d b (λz=>nomatch z))];show b)
def BP.put {K:KE}{H:Hp}{a C i:MF}{fs:X5}{o:HO}(c:H a=Z (.ins C i fs))(j:∀ l:MF,fs≠[(("points":Str),V.ref l)]){f:List Pt}{v:V}(h:BP K H f v):BP K (upd H a o) f v:=by
 obtain⟨b,k,d,l,rfl,n,e,m⟩:=h;refine⟨b,k,d,l,U,n,by rw[ar (jB c e (λz=>by cases z;show j l rfl))];show e,?_⟩;cases m with
 |lst h q=>
  rcases h with h|h
  .show .lst (.inl (by rw[ar (jB c h (λz=>nomatch z))];show h)) (tX c q)
  .obtain⟨g,h⟩:=h;show .lst (.inr ⟨g,by rw[ar (jB c h (λz=>nomatch z))];show h⟩) (tX c q)
def jR (h:a∉T):cut T (upd H a o)=upd (cut T H) a o:=by
 funext b
 by_cases e:b=a
 .subst e;rw[dO h,ae,ae]
 .rw[ar e];unfold cut
  split
  .rfl
  .rw[ar e]
theorem mz (a:List (Int×Tok)):∀ n,n<=⇑a->preSum (WL a.toArray) n=((a.take n).map (·.1)).sum
 |0,_=>rfl
 |n+1,h=>by
  have e:a[n]?=Z a[n]:=MC Y;rw[bD e,Nx,List.sum_append];change preSum (WL a.toArray) n+WL a.toArray n=_;rw[mz a n Y,lI e];simp
section
variable {K:KE}
def Jb (K:KE):List V->Hp->VK->Prop:=λa H Q=>∃ (p:MF) (ns:List Int),a=[↥p]/\An K H p (ns.map V.int)/\Q ↑ns.sum H
def yW (l:X.calm=true):AI X (.builtin "sum") (Jb X.K):=by
 intro a s c H y x Q I r h;obtain⟨p,ns,rfl,k,q⟩:=h;obtain⟨u,rfl,n⟩:=fV r;cases n;obtain⟨f,m,e,v⟩:=I.list k;obtain⟨o,rfl,rfl⟩:=p_ m;have b:=e.isList;rw[uG] at b;refine sum_intListG (I.ok.hd l) b λd i g t=>?_
 have j:Ag X a c H { s with heap:=d,toks:=i }:=I.kept t;refine⟨↑_,H,j,⟨g,U⟩,?_⟩;rw[MJ,mz o _ (Mz _),Qf];show q
def abz (e:X.K=K)(a:X.calm=true):AI X (.builtin "sum") (Jb K):=by subst e;show yW a
end
abbrev JD (X:Cx)(o:OZ)(m:Str)(b:List OZ)(d:List SE)(e:Sem Bool)(c a:Pos):Prop:=
 QA (.Call (.Attribute o m c) b d a) X.env=(do let ov <- QA o X.env;VU c.atName;let (f,first) <- holding [ov] (getMethod ov m e);callWith a f first (Qx a (M0 b X.env)) (QI a (OX d X.env)))
def JZ (K:KE)(x m:Str)(sp:Sp)(g:X4)(E:XK)(e:TE)(t h:TA):TE:=λb H Q=>e b H λv c=>∃ a C f fs,v=↥a/\Ay K x C/\c a=Z (.ins C f fs)/\fs.lookup m=none /\
 t b c λvs d=>h b d λj i=>sp (g (v::vs) j) i Q E
variable {pos:Pos}
section
variable {CX:C_}{K:KE}{k n j:Nat}{x m:Str}{ps ks:List Str}{sp:Sp}{dvs:List V}{apos:Pos}{o e:OZ}{es:List OZ}{kws:List SE}{ta:TE}{t tk:TA}
def adt (hK:X.K=K) (hX:HN CX) (C:DV X.prog X.w X.K X.mg X.base CX k x m ps ks n j dvs sp) (hr:Room k X.A) (he:PE X o ta) (S:PA X (e :: es) t) (p:PK X kws tk)
  (c:(QI pos (OX kws X.env)).all (·.1.isSome)=true<|>C')(G:(QI pos (OX kws X.env)).filterMap (·.1)=ks<|>C')
  (d:M0 (e::es) X.env=(false,QA e X.env)::M0 es X.env<|>C')
  (i:((Qx pos (M0 (e::es) X.env)).any (·.1)||(QI pos (OX kws X.env)).any (·.1.isNone))=false<|>C')
  (ht:JD X o m (e::es) kws pl apos pos<|>C'):PE X (.Call (.Attribute o m apos) (e::es) kws pos) (JZ K x m sp (Cv n j dvs) E0 ta t tk):=by
 subst hK;obtain⟨D,f,fd,ds,fs0,F,N,J,_,hb⟩:=C.ex;refine ⟨λb s g H Q I h=>Qv (bo (he b s g H _ I h) λu s1 z=>?_) ht⟩;obtain⟨v,H1,M,rv,a,E,dx,fs,ev,ec,ea,l,q⟩:=z;subst ev;cases bA ec N.at_;obtain rfl:u=MT a:=rv;refine iP M ea N.cls J l (VR I.ok.mod.kin J.kp c (bo (S pos b s1 g H1 _ M q) λus s2 B=>?_) i d);obtain⟨vs,T,I2,r,q2⟩:=B;refine (bo (p pos b s2 g T _ I2 q2) λws s3 y=>?_);obtain⟨zs,H3,L,R,q3⟩:=y;refine⟨L.kIn,?_⟩;rw[G];show ac3 (vs:=↥a::vs) F hr hb (mr hX) L (.cons rfl r) R q3
end
def ae1 {K:KE}{n m:Nat} (e:K.lookup D=Z o)
  (h:∀ d f:List Mo,⇑d=n->⇑f=m->∃ (part:Option Mo) (g:Obj->Sem (List (Str×Mo))),QJ fd ⟨d,ks.zip f⟩=Sem.load D part g/\g o=pure ((p::ps).zip (d++(f++[.str z t])))):
  C4 K fd (p::ps) ks (Cv n m [.str z t]) (Cv n m [.str z]):=
 ⟨λs d f X j=>by
  obtain⟨a,b,c⟩:=vk j;rw[c];obtain⟨part,g,i,k⟩:=h d f a b;show abW X e i k,λa b=>u7 (show Ah [V.str z] [Ve z t] from .cons ⟨t,U⟩ .nil) a b⟩
def yL {K:KE}{mg:O'}{x m d p:Str}{st:On}{G F fs:List Str}{n j:Nat}{C f D:MF}{o:Obj}{A:Mo}{E r:Option MF}{q:S1}{k v i s:Mo}{z:Str}{t:Tok}
  (l:K.lookup f=Z ⟨A,E,.func (M5 m d (Ak st) (Ai st) (Ab st) .none ↥D k v r i s),q⟩)
  (c:Nj K i d=true)(L:M8 K ↥f=true)(I:O3 K ↥f=true)(a:ML K ME x=Z (Z ↥C))(b:M7 K ↥C m=Z (Z ↥f))(J:BN K x fs=true)(g:mg x=Z ↥C)
  (e:K.lookup D=Z o)
  (h:∀ y u:List Mo,⇑y=n->⇑u=j->∃ (part:Option Mo) (H:Obj->Sem (List (Str×Mo))),QJ (M5 m d (Ak st) (Ai st) (Ab st) .none ↥D k v r i s) ⟨y,F.zip u⟩=Sem.load D part H/\H o=pure ((p::G).zip (y++(u++[.str z t])))):
  BU K mg x m d st (p::G) F n j [.str z]:=by
 obtain⟨M,B⟩:=kq J;cases bA B.at_ a;show⟨_,f,_,A,E,.none,↥D,k,v,r,i,s,q,[.str z t],fs,U,l,c,B,⟨b,I,L⟩,g,ae1 e h⟩
def C9 (e:OZ)(a:List QC)(b:Qw)(f:Pos)(acc:Mo)(env:Env)(d:Nat):Sem Unit:=match a[d+1]? with
 |some c=>do
  let x <- QA c.iter env
  VU c.iter.pos
  let x <- if c.is_async != 0 then foldedIterable c.iter x else Op c.iter env x
  let _ <- runOwn (.compStart (.ListComp e a b f) (d+1) (<- holding [x] (if c.is_async != 0 then asyncIter x else Wk x)) acc env) env
 |none=>do let _ <- call (.builtin "list.append") [acc,<- QA e env]
def uj (h:gens[d]?=Z ⟨target,iter,ifs,0⟩) :
  compTurn (.ListComp elt gens scope pos) d it acc env=(do
   VU iter.pos
   match <- QM it with
   |none=>pure (.done .next)
   |some v=>
    SV target it v
    assign target env v
    let mut ok:=true
    for c in ifs do
     if ok then ok <- isTrue c env (QA c env)
    if ok then
     C9 elt gens scope pos acc env d
    again (.compLoop (.ListComp elt gens scope pos) d it acc env)):=by
 unfold compTurn C9;dsimp only;rw[h];cases hg:gens[d+1]? with
 |none=>rfl
 |some b=>
  have e:((0:Nat) != 0)=false:=U
  by_cases a:(b.is_async != 0)=true
  .simp only[a,e,bind_assoc,Qb,M2,Oj];rfl
  .have a:(b.is_async != 0)=false:=by simpa using a
   simp only[a,e,bind_assoc,Qb,M2,Oj];rfl
def ju (q:gens[d]?=Z ⟨target,iter,ifs,0⟩) (I:Nat->Mt->Prop)
  (B5:∀ n s,I n s->MI (MW prog w) A (QM it) (λr a=>match r with
   |none=>R (.ok .next) a
   | some v=>MI (MW prog w) A (SV target it v) (fun _ f=>MI (MW prog w) A (assign target env v) (fun _ g=>
     MI (MW prog w) A (forIn ifs true λc r=>if r=true then do let ok <- isTrue c env (QA c env);pure (Qr ok) else pure (Qr r)) (λok b=>
      if ok=true then MI (MW prog w) A (C9 elt gens scope pos acc env d) (λ_ j=>∃ m,m<n/\I m j) (notedBy (MW prog w) A env λe k=>R (.error e) k) b
      else ∃ m,m<n/\I m b) (λ_ _=>False) g) (λ_ _=>False) f) (λ_ _=>False) a) (λ_ _=>False) s)
  (n:Nat)(h:I n s):P0 (MW prog w) A (.compLoop (.ListComp elt gens scope pos) d it acc env) R s:=by
 refine codeAny_loop rfl I (λn s t=>(wpAny_noted ?_)) n h;rw[uj q];refine HD (Pf (HD (NI (B5 n s t) (λr a i=>?_) λ_ _ z=>z.elim)));cases r with
 |none=>show Mm i
 |some v=>
  refine HD (NI i (λ_ f l=>(HD (NI l (λ_ g o=>HD (NI o (λok b k=>?_) λ_ _ z=>z.elim)) λ_ _ z=>z.elim))) λ_ _ z=>z.elim);cases ok with
  |false=>show Mm ⟨U,k⟩
  |true=>show HD (NI k (λ_ j p=>Mm ⟨U,p⟩) λ_ _ z=>z)
def sQ (g:gens[d]?=Z ⟨target,iter,ifs,0⟩)
  (f:P0 (MW prog w) A (.compLoop (.ListComp elt gens scope pos) d it acc env) R s)
  (h:MI (MW prog w) A (Wk it) (λa b=>P0 (MW prog w) A (.compLoop (.ListComp elt gens scope pos) d a acc env) R b)
   (notedBy (MW prog w) A env λx b=>R (.error x) b) s) :
  P0 (MW prog w) A (.compStart (.ListComp elt gens scope pos) d it acc env) R s:=by
 refine Vg (wpAny_notedAt ?_);have c:(clausesOf (.ListComp elt gens scope pos))[d]?=Z ⟨target,iter,ifs,0⟩:=g;unfold compStart;rw[c];refine HD (QX (wpAny_ite ?_))
 split
 .first
   |show HD (Mm (Mm (W9 rfl f)))
   |show Mm (W9 rfl f)
 .first
   |show HD (Pr (HD (Pf (HD (NI h (λa b e=>Mm (W9 rfl e)) λ_ _ x=>x)))))
   |(refine HD (Pr ?_);change MI _ _ (VU iter.pos>>=_) _ _ s;show HD (Pf (HD (NI h (λa b e=>Mm (W9 rfl e)) λ_ _ x=>x))))
def Ik (a:List Mo)(n:Nat):Obj:={ cls:=.type "list",data:=.seq a.toArray n }
def Lr (X:Cx)(a:Lb)(D:MF):Prop:=
 D≠X.env.locals/\(D∈X.ex\/X.s₀.heap.objs.size<=D)/\(∀ x c,X.env.cells.lookup x=Z c->c≠D)/\∀ p∈X.pn++a,p.1≠D
noncomputable def qB (X:Cx)(j:OZ)(h:List QC)(c:Qw)(i:Pos)(d:Nat)(t:TB):Prop:=
 ∀ (D:MF) (a:Lb) (s:Mt) (k:L2.St) (H:Hp) (m:List V) (g:List Mo) (n:Nat) (Q:L2.St->Hp->List V->Prop),Ag X ((D,Ik g n)::a) k H s->Lr X a D->Ah m g->t k H m Q ->
  MI (MW X.prog X.w) X.A (C9 j h c i ↥D X.env d) (λ_ o=>∃ f l e b p,Ag X ((D,Ik b p)::a) f l o/\Ah e b/\Q f l e) X.xe s
structure PB (X:Cx)(elt:OZ)(gens:List QC)(scope:Qw)(pos:Pos)(d:Nat)(t:TB):Prop where
 go:qB X elt gens scope pos d t
instance {X:Cx}{elt:OZ}{gens:List QC}{scope:Qw}{pos:Pos}{d:Nat}{t:TB}:CoeFun (PB X elt gens scope pos d t) λ_=>qB X elt gens scope pos d t:=⟨PB.go⟩
section
variable {elt:OZ}{gens:List QC}{scope:Qw}{d:Nat}
def jV (J:gens[d+1]?=none)(he:PE X elt te):PB X elt gens scope pos d (G8 te):=by
 refine⟨λD c s j H N a n Q I i t h=>?_⟩;obtain⟨M,h⟩:=h;unfold C9;rw[J];refine HD (bo (he _ s j H _ I h) λy L A=>?_);obtain⟨u,r,l,C,F⟩:=A;have g:=l.pin (D,Ik a n) (MM _ MS);have x:a.toArray.size<=MO:=by
  have:=⇑t;rw[MJ,<- this];show N4 M
 refine HD (append_at g.1 λB k m=>Mm ?_);have q:Ag X c j r { L with heap:=B }:=(l.pins_of λp f=>l.pin p (MM _ (Mx _ f))).turned (λb o E e=>k.extBut b o E e) g.2.1 i.1 i.2.1 i.2.2.1 i.2.2.2;refine⟨j,r,N++[u],a++[y],n+1,q.pins_of λp f=>?_,t.append (.cons C .nil),F⟩;rcases MA.mp f with rfl|f
 .have G:({ cls:=.type "list",data:=.seq (a.toArray.push y) (n+1) }:Obj)=Ik (a++[y]) (n+1):=by unfold Ik;rw[Wz]
  show⟨by rw[<- G];show m,g.2.1,g.2.2.1,g.2.2.2.1,λv z=>nomatch z⟩
 .show q.pin p (MM _ f)
def Kj (wi:TI)(g:TG)(tt:TT)(q:TB):TB:=λk H s Q=>wi k H λJ r=>∃ W:Nat->Nat->L2.St->Hp->List V->Prop,(∃ m,W 0 m k r s)/\∀ i m d f a,W i m d f a ->
 (J.stop i f/\Q d f a) \/
 (J.go i f/\∀ x n,J.yld i f x n->g x d n λc p=>tt c p λb l=>if b=true then q c l a λj o h=>∃ e,e<m/\W (i+1) e j o h else ∃ e,e<m/\W (i+1) e c l a)
def nV (hx:X.xe=fun _ _=>False) (hc:X.calm=true) (hd:gens[d + 1]?=Z ⟨tg,iter,ifs,0⟩) (hi:PI X tg iter wi) (hg:PG X tg g) (ht:HK X ifs tt) (B:PB X elt gens scope pos (d + 1) tb)
  (hs:(∀ x,Op iter X.env x=pure x)<|>E'):PB X elt gens scope pos d (Kj wi g tt tb):=by
 refine ⟨fun D q s σ H ys M n Q I hD rv h=>?_⟩;unfold C9;rw [hd];dsimp only;refine HD (bo (hi _ s σ H _ I h) fun v s1 h1=>(HD (Pf ?_)));rw [hs];refine HD (Mm (HD (Nv (bo h1 fun itv s2 h2=>?_))));obtain ⟨it,fp,tn,J,H2,rfl,I2,T,st2,f2,W,⟨m0,w0⟩,B5⟩:=h2;refine HD (wpAny_runOwn ?_);have F:P0 (MW X.prog X.w) X.A (.compLoop (.ListComp elt gens scope pos) (d + 1) ↥it ↥D X.env) (fun r E=>match r with
   |.ok _=>MI (MW X.prog X.w) X.A (pure ()) (λ_ E=>∃ j y l f L,Ag X ((D,Ik f L)::q) j y E/\Ah l f/\Q j y l) X.xe E
   |.error e=>cameBackBy (MW X.prog X.w) X.A X.env X.xe e E) s2:=by
  refine ju hd (λk E=>∃ i j y l f L,Ag X ((D,Ik f L)::q) j y E/\tn i E.heap/\(∀ b∈fp,y b=none)/\Ah l f/\W i k j y l) ?_ m0
   ⟨0,σ,H2,ys,M,n,I2,st2,λb B=>(f2 b B).1,rv,w0⟩
  rintro k E ⟨i,j,y,l,f,L,I',tn',fr',R,w'⟩;have fpOk:∀ {y:Hp}{o:Obj},(∀ b∈fp,y b=none)->∀ b∈fp,Dq X ((D,o)::q) y b:=λ{y o} hn b B=>by
   obtain⟨_,g1,g2,g3,g4,g5⟩:=f2 b B;refine⟨hn b B,g1,g2,g3,g4,λp m=>?_⟩;rcases Nk.mp m with m|m
   .show g5 p (Oh _ m)
   .rcases MA.mp m with rfl|m
    .show g5 (D,Ik M n) (MM _ MS)
    .show g5 p (MM _ (Mx _ m))
  rcases B5 i k j y l w' with ⟨stop,fin⟩|⟨go,step⟩
  .refine NI (T.done X rfl rfl rfl hc i _ E j y (λ_ _=>False) I' (fpOk fr') tn' stop) (λr s1 hr=>?_) λ_ _ z=>z
   obtain⟨rfl,t⟩:=hr;show Mm ⟨j,y,l,f,L,t,R,fin⟩
  .refine NI (T.item X rfl rfl rfl hc i _ E j y (λ_ _=>False) I' (fpOk fr') tn' go) (λr s4 hr=>?_) λ_ _ z=>z
   obtain⟨u,rfl,h4⟩:=hr;refine NI h4 (λ_ s5 h5=>?_) λ_ _ z=>z
   obtain⟨x,H5,I5,r5,y5,N,fr5⟩:=h5;have hg':=hg _ s5 j H5 x u _ (I5.pinned (fpOk fr5) (T.obj _ _ N)) r5 (step x H5 y5);rw[hx] at hg';refine bo hg' λ_ s6 h6=>?_
   obtain⟨S,H6,I6,q6⟩:=h6;have ht':=ht _ s6 S H6 _ I6 q6;rw[hx] at ht';refine bo ht' λok s7 h7=>?_
   obtain⟨H7,I7,q7⟩:=h7;have G:∀ {s8:Mt}{C:L2.St}{H8:Hp}{t:List Mo}{n8:Nat},Ag X ((D,Ik t n8)::(q++B4 fp s5.heap)) C H8 s8->Ag X ((D,Ik t n8)::q) C H8 s8/\tn (i+1) s8.heap/\∀ b∈fp,H8 b=none:=λ{s8 C H8 t n8} I8=>by
    refine⟨I8.pins_of λp m=>I8.pin p (MM _ ?_),T.keep _ _ _ N λb B o e=>(I8.pin (b,o) (MM _ (Mx _ (MM _ (fc B e))))).1,λb B=>?_⟩
    .rcases MA.mp m with rfl|m
     .show MS
     .show Mx _ (Oh _ m)
    .obtain⟨o,e,_⟩:=T.obj _ _ N b B;show(I8.pin (b,o) (MM _ (Mx _ (MM _ (fc B e))))).2.1
   cases ok with
   |false=>
    obtain⟨m',hm,w8⟩:=q7;obtain⟨a,b,c⟩:=G I7;show⟨m',hm,i+1,S,H7,l,f,L,a,b,c,R,w8⟩
   |true=>
    have D7:Lr X (q++B4 fp s5.heap) D:=⟨hD.1,hD.2.1,hD.2.2.1,λp m=>by
     rcases Nk.mp m with m|m
     .show hD.2.2.2 p (Oh _ m)
     .rcases Nk.mp m with m|m
      .show hD.2.2.2 p (MM _ m)
      .show λz=>(f2 _ (lN m).1).2.2.2.2.2 (D,Ik M n) (MM _ MS) z.symm⟩
    refine NI (B D _ s7 S H7 l f L _ I7 D7 R q7) (λ_ s8 h8=>?_) λ_ _ z=>by rw[hx] at z;show z.elim
    obtain⟨C,H8,ys8,t,n8,I8,rv8,m',hm,w8⟩:=h8;obtain⟨a,b,c⟩:=G I8;show⟨m',hm,i+1,C,H8,ys8,t,n8,a,b,c,rv8,w8⟩
 show sQ hd F (T.self _ 0 _ _ _ st2 F)
end
section
variable {σ:L2.St}{H H2:Hp}{s s2:Mt}
def Ag.off {C:MF}{H' H2:Hp}{h:L2.St}{f s2:Mt}{h':Oz}(d:Ag X pins h H2 s2)(a:s2⁻¹<=C)(i:Ag X pins σ H' f)(l:H' C=none)(g:NF C f.heap h'):Ag X pins σ H' { f with heap:=h' }:=
 i.turned (λb o j e=>g.extBut b o j e) l (λz=>absurd (z▸d.lt) (O6.mpr a)) (.inr (M1 d.sz a))
  (λx c e z=>by
   obtain⟨m,q⟩:=d.cell x c e;show absurd (z▸q.lt) (O6.mpr a))
  (λp k z=>absurd (z▸Mr (d.pin p k).1) (O6.mpr a))
def i9 {N:List Str}{a:Qw}{elt tg iter:OZ}{ifs:List OZ}{AQ:List QC}{pos:Pos}{it:MF}{f:List MF}{tn:Nat->Oz->Prop}{J:It}{g:TG}{tt:TT}{tb:TB}{s:L2.St}{Fin:SS}
  {E:My}{RR:Mo->MF->Result->Mt->Prop}{xe:MF->Mo->Mt->Prop}(hc:X.calm=true)(I:Ag X pins σ H2 s2)(S:Gi X a)
  (hcap:EC X a N σ s)(hlen:⇑s=⇑N)(f2:∀ b∈f,Dq X pins H2 b)(T:GX X.prog X.w X.K tg J f it tn)(st2:tn 0 s2.heap)
  (hg:∀ C,PG (Av X N a (Aj X a C) C s2 H2 f pins) tg g)(ht:∀ C,HK (Av X N a (Aj X a C) C s2 H2 f pins) ifs tt)(he:∀ C,PB { Av X N a (Aj X a C) C s2 H2 f pins with xe:=xe C } elt (⟨tg,iter,ifs,0⟩::AQ) a pos 0 tb)(hw:ER J g tt tb s Fin H2)
  (hRR:∀ (D C:MF) (F:Mt) (H':Hp) (ys:List V),Ag X pins σ (upd H' D (.lst ys)) F->H' D=none->Fin ys H'->(∃ m,F.heap.Ns C m)->H' C=none->D≠C->s2⁻¹<=C->RR ↥D C (.ok .next) F)
  (hRE:∀ acc C v F,s2⁻¹<=C->xe C v F->notedBy (MW X.prog X.w) X.A (PH a (Aj X a C) C X.env) (λe F=>RR acc C (.error e) F) v F):
  MI (MW X.prog X.w) X.A (newList []) (λacc s₃=>MI (MW X.prog X.w) X.A (VE a X.env.globals (Fg X.env.cells a.names []) [] X.env.qual none .none (Z X.env)) (λcenv s₄=>
   P0 (MW X.prog X.w) X.A (.compStart (.ListComp elt (⟨tg,iter,ifs,0⟩::AQ) a pos) 0 ↥it acc { cenv with scope:=relabel a X.env }) (RR acc cenv.locals) s₄) E s₃) E s2:=by
 obtain⟨W,⟨m0,w0⟩,B5⟩:=hw;refine No (aat λh1 Q R kk1=>?_);dsimp only at Q R kk1 ⊢;generalize hG:s2.heap.push { cls:=.type "list",dict:=none,data:=.seq ([]:List Mo).toArray }=G at Q R kk1 ⊢;have hC:G.objs.size=s2⁻¹+1:=by rw[<- hG,NQ]
 have hDC:s2⁻¹≠G.objs.size:=by rw[hC];show MH (N_ _)
 have below:∀ b,b<s2⁻¹->b≠G.objs.size:=λb t=>by rw[hC];show MH (NB t)
 have old:∀ b o,s2>>b=Z o->h1.get? b=Z o:=λb o e=>kk1 b o (hG▸Ml _ e)
 have hacc:h1.get? s2⁻¹=Z { cls:=.type "list",data:=.seq ([]:List Mo).toArray 0 }:=kk1 _ _ (hG▸Ms _ U);have H:∀ x c,X.env.cells.lookup x=Z c->c<s2⁻¹:=λx c e=>by
  obtain⟨v,q⟩:=I.cell x c e;show q.lt
 have big:∀ c:MF,G.objs.size+1<=c->s2⁻¹+2<=c:=λc h=>by rw[hC] at h;show h
 have fo:∀ b∈f,∃ o,s2>>b=Z o:=λb t=>let ⟨o,e,_⟩:=T.obj 0 _ st2 b t;⟨o,e⟩
 have L:∀ b∈f,b<s2⁻¹:=λb t=>let ⟨o,e⟩:=fo b t;Mr e
 have st1:tn 0 h1:=T.keep 0 _ _ st2 λb _ o e=>old b o e
 have hCle:s2⁻¹<=G.objs.size:=by rw[hC];show Q5 _
 have I0:∀ tk,Ag (Av X N a (Aj X a G.objs.size) G.objs.size s2 H2 f pins) [(s2⁻¹,{ cls:=.type "list",data:=.seq ([]:List Mo).toArray 0 })] s H2 { s2 with heap:=h1,toks:=tk }:=λtk=>
  abb I S hcap hlen f2 fo hCle (Mz _) hDC old Q hacc (λv z=>nomatch z) λx c e l=>(R x c e).resolve_left λz=>by
   rcases dR S.free z with z|⟨_,z⟩
   .cases z
   .show absurd (H x c z) (O6.mpr (M1 (Qg _ 2) (big c l)))
 have fpOk:∀ {H':Hp}{o:Obj},(∀ b∈f,H' b=none)->∀ b∈f,Dq (Av X N a (Aj X a G.objs.size) G.objs.size s2 H2 f pins) [(s2⁻¹,o)] H' b:=λ{H' o} hn b t=>by
  obtain⟨_,g1,g2,g3,g4,g5⟩:=f2 b t;refine⟨hn b t,below b (L b t),tW I g1 g2,.inl t,λx c e=>?_,λp B=>?_⟩;rcases gE S e with ⟨e,_⟩|⟨l,_⟩
  .show g4 x c e
  .show λz=>absurd (L b t) (O6.mpr (z▸M1 (Qg _ 2) (big c l)))
  rcases Nk.mp B with B|B
  .show g5 p B
  .cases Mu.mp B;show λz=>absurd (z▸L b t) (Nq _)
 have loop:∀ s3:Mt,s3.heap=h1->s3.gens=s2.gens->s3.os=s2.os->Ag (Av X N a (Aj X a G.objs.size) G.objs.size s2 H2 f pins) [(s2⁻¹,{ cls:=.type "list",data:=.seq ([]:List Mo).toArray 0 })] s H2 s3 ->
   P0 (MW X.prog X.w) X.A (.compLoop (.ListComp elt (⟨tg,iter,ifs,0⟩::AQ) a pos) 0 ↥it ↥s2⁻¹ (PH a (Aj X a G.objs.size) G.objs.size X.env)) (RR ↥s2⁻¹ G.objs.size) s3:=by
  intro s3 e3 _ _ I3;refine ju rfl (λk F=>∃ i ys M n H',Ag (Av X N a (Aj X a G.objs.size) G.objs.size s2 H2 f pins) [(s2⁻¹,{ cls:=.type "list",data:=.seq (M:List Mo).toArray n })] s H' F/\tn i F.heap/\(∀ b∈f,H' b=none)/\Ah ys M/\W i k ys H') ?_ m0
   ⟨0,[],[],0,H2,I3,by rw[e3];show st1,λb t=>(f2 b t).1,.nil,w0⟩
  rintro k F ⟨i,ys,M,n,H',I',tn',fr',rv,w'⟩;rcases B5 i k ys H' w' with ⟨stop,hz,fin⟩|⟨go,step⟩
  .refine NI (T.done (Av X N a (Aj X a G.objs.size) G.objs.size s2 H2 f pins) U U U hc i _ F s H' (λ_ _=>False) I' (fpOk fr') tn' stop) (λr s1 hr=>?_) λ_ _ z=>z
   obtain⟨rfl,I1⟩:=hr;obtain⟨m,hn,_⟩:=id I1.loc;show hRR _ _ s1 H' ys (acg I f2 (Mz _) I1 rv hz) (I1.pin _ (MM _ MS)).2.1 fin ⟨m,hn⟩ I1.free hDC hCle
  .refine NI (T.item (Av X N a (Aj X a G.objs.size) G.objs.size s2 H2 f pins) U U U hc i _ F s H' (λ_ _=>False) I' (fpOk fr') tn' go) (λr s4 hr=>?_) λ_ _ z=>z
   obtain⟨u,rfl,h4⟩:=hr;refine NI h4 (λ_ s5 h5=>?_) λ_ _ z=>z
   obtain⟨x,H5,I5,r5,y5,tn5,fr5⟩:=h5;refine bo (hg G.objs.size _ s5 s H5 x u _ (I5.pinned (fpOk fr5) (T.obj _ _ tn5)) r5 (step x H5 y5)) λ_ s6 h6=>?_
   obtain⟨σ6,H6,I6,q6⟩:=h6;refine bo (ht G.objs.size _ s6 σ6 H6 _ I6 q6) λok s7 h7=>?_
   obtain ⟨H7,I7,q7⟩:=h7;have weak:∀ {s8:Mt}{σ8:L2.St}{H8:Hp}{its':List Mo}{n':Nat},Ag (Av X N a (Aj X a G.objs.size) G.objs.size s2 H2 f pins) ([(s2⁻¹,{ cls:=.type "list",data:=.seq its'.toArray n' })] ++ B4 f s5.heap) σ8 H8 s8 ->
     Ag (Av X N a (Aj X a G.objs.size) G.objs.size s2 H2 f pins) [(s2⁻¹,{ cls:=.type "list",data:=.seq its'.toArray n' })] s H8 s8/\tn (i+1) s8.heap/\∀ b∈f,H8 b=none:=λ{s8 σ8 H8 its' n'} I8=>by
    have fr8:∀ b∈f,H8 b=none:=λb t=>by
     obtain⟨o,e,d⟩:=T.obj _ _ tn5 b t;show(I8.pin (b,o) (MM _ (MM _ (fc t e)))).2.1
    refine⟨?_,(T.keep _ _ _ tn5 λb t o e=>(I8.pin (b,o) (MM _ (MM _ (fc t e)))).1),fr8⟩;obtain⟨m8,hn8,_⟩:=id I8.loc;have J:=I8.unpinned;show⟨J.ok,J.os,J.bare,J.base,⟨m8,hn8,λj y v e1 e2 _=>by
     obtain⟨m00,_,hm00⟩:=(I0 0).loc;obtain⟨u',r',l'⟩:=hm00 j y v e1 e2 (by
      obtain⟨_,_,_,_,_,z⟩:=hcap j y v e1 e2;show .inr z)
     obtain⟨j',j1,j2,j3,jf,j4⟩:=hcap j y v e1 e2;rcases l' with ⟨k',_⟩|⟨k',c,ec,z⟩
     .exfalso;have k'':(PH a [] 0 X.env).kindOf y=Z .local:=k';rcases j4 with q|q<;>(rw[q] at k'';cases k'')
     .have eo:X.env.cells.lookup y=Z c:=by
       rcases gE S ec with ⟨e,_⟩|⟨_,k2⟩
       .show e
       .rw[jf] at k2;cases k2
      refine⟨u',r',.inr ⟨k',c,ec,?_⟩⟩;obtain⟨oc,hoc,hd⟩:=z;have hlt:c<s2⁻¹:=by
       obtain⟨v',q⟩:=I.cell y c eo;show q.lt
      have hoc2:s2>>c=Z oc:=by
       obtain⟨v',o',q',d'⟩:=I.cell y c eo;have e':=old c o' q';have hoc':h1.get? c=Z oc:=hoc;rw[e'] at hoc';cases hoc';show q'
      have nfp:c∉f:=λz=>(f2 c z).2.2.2.2.1 y c eo rfl
      by_cases hfs:c∈BJ X.stack
      .obtain⟨sl,q⟩:=J.base.slot c oc hoc2 (I.freeC y c eo) hfs nfp;show⟨_,q,hd⟩
      .show⟨oc,J.base.keep c oc hoc2 (I.freeC y c eo) hfs nfp,hd⟩⟩,J.cell,J.free,J.freeC,J.pin,J.hok,hlen⟩
   cases ok with
   |false=>
    obtain⟨m',hm,w8⟩:=q7;obtain⟨I8,st8,fr8⟩:=weak I7;show⟨m',hm,i+1,ys,M,n,H7,I8,st8,fr8,rv,w8⟩
   |true=>
    have D7:Lr (Av X N a (Aj X a G.objs.size) G.objs.size s2 H2 f pins) (B4 f s5.heap) s2⁻¹:=by
     refine⟨hDC,.inr (Mz _),λx c e z=>?_,λp B z=>?_⟩
     .rcases gE S e with ⟨e,_⟩|⟨l,_⟩
      .show absurd (z▸H x c e) (Nq _)
      .show absurd (M1 (Qg _ 1) (big c l)) (by rw[z];show Nat.not_succ_le_self _)
     .rcases Nk.mp B with B|B
      .show absurd (z▸Mr (I.pin p B).1) (Nq _)
      .show absurd (z▸L _ (lN B).1) (Nq _)
    refine NI (he G.objs.size _ (B4 f s5.heap) s7 σ6 H7 ys M n _ (Ag.ctx I7 rfl (λz=>I7.ok.hd z) λp B=>B) D7 rv q7) (λ_ s8 h8=>?_) λv s9 z=>hRE _ _ v s9 hCle z
    obtain⟨σ8,H8,ys8,its8,n8,I8,rv8,m',hm,w8⟩:=h8;obtain⟨L1,L2',L3⟩:=weak (Ag.ctx I8 rfl (λz=>I8.ok.hd z) λp B=>B);show⟨m',hm,i+1,ys8,its8,n8,H8,L1,L2',L3,rv8,w8⟩
 show UN (loop _ U U U (I0 _)) (T.self _ 0 _ _ _ st1 (loop _ U U U (I0 _)))
end
def HX (wi:TI)(g:TG)(tt:TT)(c:TB)(f:L2.St->L2.St):TE:=λa H Q=>wi a H λJ e=>ER J g tt c (f a) (λd b=>∀ D,b D=none->Q ↥D (upd b D (.lst d))) e
def lv {N:List Str}{AQ:List QC}{a:Qw}{j q b:OZ}{d:List OZ}{wi:TI}{g:TG}{tt:TT}{G:TB}{t:L2.St->L2.St} (hc:X.calm=true) (hi:PI X q b wi) (S:Gi X a) (p:∀ c,⇑c=⇑X.N->EC X a N c (t c)/\⇑(t c)=⇑N)
  (hg:∀ C k i f l,PG (Av X N a (Aj X a C) C k i f l) q g)(ht:∀ C k i f l,HK (Av X N a (Aj X a C) C k i f l) d tt)(he:∀ C k i f l,PB (Av X N a (Aj X a C) C k i f l) j (⟨q,b,d,0⟩::AQ) a pos 0 G)
  (hs:(∀ x,Op b X.env x=pure x)<|>E'):PE X (.ListComp j (⟨q,b,d,0⟩::AQ) a pos) (HX wi g tt G t):=by
 refine⟨λn s c H Q I h=>?_⟩;rw[Wg];refine P2 rfl hs (lW S.free) S.kind (λy M e=>by rw[S.once y M,e]) (bo (hi n s c H _ I h) λv s1 h1=>bo h1 λitv s2 h2=>?_);obtain⟨it,f,tn,J,H2,rfl,E,T,r,f2,hw⟩:=h2;have o:=p c E.len;refine i9 hc E S o.1 o.2 f2 T r (λC=>hg C _ _ _ _) (λC=>ht C _ _ _ _) (λC=>he C _ _ _ _) hw ?_ λ_ _ _ _ _ z=>z.elim
 intro D C s' H' ys L hD u hm hC F B;obtain⟨m,R⟩:=hm;show⟨m,R,λh' A=>⟨↥D,_,Ag.off E B L (by rw[ar (Om F)];show hC) A,U,u D hD⟩⟩
abbrev Hq (wi:TI)(g:TG)(tt:TT)(b:TE)(a:L2.St->L2.St):TE:=HX wi g tt (G8 b) a
def acY (j:X.calm=true) (i:PI X tg iter wi) (S:Gi X scope) (e:∀ f,⇑f=⇑X.N->EC X scope N f (mk f)/\⇑(mk f)=⇑N)
  (h:∀ C c b d a,PG (Av X N scope (Aj X scope C) C c b d a) tg g)(k:∀ C c b d a,HK (Av X N scope (Aj X scope C) C c b d a) ifs tt)(he:∀ C c b d a,PE (Av X N scope (Aj X scope C) C c b d a) elt te)
  (l:(∀ x,Op iter X.env x=pure x)<|>E'):PE X (.ListComp elt [⟨tg,iter,ifs,0⟩] scope pos) (Hq wi g tt te mk):=lv j i S e h k (λC c b d a=>jV rfl (he C c b d a)) l
def Ie (i:Nat)(wi:TI)(g:TG)(tt:TT)(f:TE)(e:L2.St->L2.St):TS:=λE a H=>wi a H λJ d=>Bi J g tt f (e a) (λc b=>∀ D,b D=none->E.nx (a.set i (Z ↥D)) (upd b D (.lst c))) d
def vH (hc:X.calm=true) (hN:X.N.Nodup) (G:X.N[i]?=Z y) (r:X.env.scope.names.lookup y=Z .local)
  (hi:PI X tg iter wi)(S:Gi X scope)(p:∀ b,⇑b=⇑X.N->EC X scope N b (mk b)/\⇑(mk b)=⇑N)
  (hg:∀ C j f d k,PG (Av X N scope (Aj X scope C) C j f d k) tg g)(ht:∀ C j f d k,HK (Av X N scope (Aj X scope C) C j f d k) ifs tt)(he:∀ C j f d k,PE (Av X N scope (Aj X scope C) C j f d k) elt te)
  (R:SX (.ListComp elt [⟨tg,iter,ifs,0⟩] scope pos) (Z (.Name y py)) spos.line X.env=pure true<|>C')
  (hs:(∀ x,Op iter X.env x=pure x)<|>E'):PS X (.Assign [.Name y py] (.ListComp elt [⟨tg,iter,ifs,0⟩] scope pos) spos) (Ie i wi g tt te mk):=by
 refine⟨λl s b H E I h=>?_⟩;rw[exec_Assign_Name_used _ _ _ _ R];refine HD (Pf (HD ?_));change MI _ X.A (do let _ <- comprehension (.ListComp elt [⟨tg,iter,ifs,0⟩] scope pos) scope X.env _ (newList []) false (QA iter X.env) (Z (assign (.Name y py) X.env))) _ _ s;refine HD (NI (P2 rfl hs (lW S.free) S.kind (λy r e=>by rw[S.once y r,e]) (bo (hi l s b H _ I h) λv s1 h1=>bo h1 λitv s2 h2=>?_)) (λ_ s' hq=>Mm (Mm hq)) λ_ _ e=>e);obtain⟨it,d,tn,J,H2,rfl,o,T,u,f2,hw⟩:=h2;have n:=p b o.len;refine i9 hc o S n.1 n.2 f2 T u (λC=>hg C _ _ _ _) (λC=>ht C _ _ _ _) (λC=>jV rfl (he C _ _ _ _)) hw ?_ λ_ _ _ _ _ z=>z.elim
 intro D C s' H' ys I' hD F hm hC Q c;obtain⟨m,hn⟩:=hm;have t:X.env.locals≠C:=λz=>absurd (z▸o.lt) (O6.mpr c)
 have B:(upd H' D (.lst ys)) C=none:=by rw[ar (Om Q)];show hC
 change MI _ X.A (assign (.Name y py) X.env ↥D) _ _ s';refine RS (qQ I' hN G (.inl r) (v:=↥D) U (λs3 I3 M=>?_) (.inr r));obtain⟨a,sb,ha⟩:=M;have aC:C≠a:=by
  rcases ha with e|e
  .rw[e];show Om t
  .intro z;obtain⟨v',q⟩:=o.cell y a e;show absurd (z▸q.lt) (O6.mpr c)
 show⟨m,hn.sameBut sb aC,λh' L=>⟨_,_,Ag.off o c I3 B L,F D hD⟩⟩
end TR
namespace L2
open PySem PySem.Spec PyProof.Rows
section
variable {κ:Type}[DecidableEq κ]
def Dy (kvs:List (κ×V))(k:κ):Option V:=(kvs.find? λa=>decide (a.1=k)).map (·.2)
def Di (kvs:List (κ×V))(k:κ)(v:V):List (κ×V):=
 if(kvs.any λa=>decide (a.1=k))=true then kvs.map (λa=>if a.1=k then(a.1,v) else a) else kvs++[(k,v)]
def ll {p:κ×V}{r:List (κ×V)}{k:κ}(e:p.1=k):Dy (p::r) k=Z p.2:=by simp[Dy,O1,e]
def jp {p:κ×V}{r:List (κ×V)}{k:κ}(e:¬ p.1=k):Dy (p::r) k=Dy r k:=by simp[Dy,O1,e]
theorem oN (k:κ):∀ kvs:List (κ×V),(kvs.any λa=>decide (a.1=k))=(Dy kvs k).isSome
 |[]=>rfl
 |p::r=>by
  rw[Sw]
  by_cases e:p.1=k
  .simp only[ll e,MB e,Bool.true_or,V6]
  .rw[jp e,Na e,Bool.false_or];show oN k r
def mI (kvs:List (κ×V))(k:κ)(v:V):⇑(Di kvs k v)<=⇑kvs+1:=by
 unfold Di
 split
 .rw[Mq];lia
 .rw[MP,Np,SG];lia
def abe {kvs:List (κ×V)}{k:κ}(v:V)(h:Dy kvs k=none):Di kvs k v=kvs++[(k,v)]:=by unfold Di;rw[oN,h];show MZ O
def CI.isSome_eq (r:CI o u):o.isSome=u.isSome:=by
 cases o with
 |none=>cases u with
  |none=>rfl
  |some _=>show(show False from r).elim
 |some _=>cases u with
  |none=>show(show False from r).elim
  |some _=>rfl
def KV.val {kvs:List (κ×V)}{vs:List (κ×Mo)}(r:KV kvs vs)(k:κ):CI (Dy kvs k) (WO vs k):=by
 unfold KV at r
 induction r with
 |nil=>show True.intro
 |@cons p q i c h t f=>
  obtain⟨d,g⟩:=h
  by_cases e:p.1=k
  .have a:q.1=k:=d.symm\e;have b:WO (q::c) k=Z q.2:=by simp[WO,O1,a]
   rw[ll e,b];show g
  .have a:¬ q.1=k:=λz=>e (d\z)
   have b:WO (q::c) k=WO c k:=by simp[WO,O1,a]
   rw[jp e,b];show f
def KV.any (r:KV kvs vs)(k:κ):(kvs.any λa=>decide (a.1=k))=vs.any λa=>decide (a.1=k):=by
 unfold KV at r
 induction r with
 |nil=>rfl
 |cons h t b=>rw[Sw,Sw,b,h.1]
def KV.repl (r:KV kvs vs) (k:κ) (c:Ao y u) :
  KV (kvs.map λa=>if a.1=k then(a.1,y) else a) (vs.map λa=>if a.1=k then(a.1,u) else a):=by
 unfold KV at r ⊢
 induction r with
 |nil=>show .nil
 |@cons p q g i h t d=>
  rw[MR,MR];refine .cons ?_ d;obtain⟨b,f⟩:=h
  by_cases e:p.1=k
  .rw[M' e,M' (b.symm\e)];show⟨b,c⟩
  .rw[MZ e,MZ (λz=>e (b\z))];show⟨b,f⟩
def KV.put (r:KV kvs vs)(k:κ)(a:Ao y u):KV (Di kvs k y) (stored vs k u):=by
 unfold Di stored;rw[r.any k]
 by_cases e:(vs.any λb=>decide (b.1=k))=true
 .rw[M' e,M' e];show r.repl k a
 .rw[MZ e,MZ e];show Paired.snoc r ⟨U,a⟩
def KV.length (r:KV kvs vs):⇑kvs=⇑vs:=Ug r
end
def acf (r:Ao (kV k) u):(Aw P w).is k u=true:=by
 cases k with
 |inl i=>obtain⟨t,e⟩:=(show ∃ t,u=PZ i t from r);subst e;show uR P w i t
 |inr x=>obtain⟨t,e⟩:=(show ∃ t,u=Ve x t from r);subst e;show uY P w x t
theorem qX:∀ {a:List Bk}{b:List Mo},Ah (a.map kV) b->ItemsAre (Aw P w) a b
 |[],_,r=>by rw[Px] at r;cases r;show .nil
 |k::a,_,r=>by
  rw[MR] at r;cases r with
  |cons h t=>show .cons (acf h) (qX t)
abbrev KT (H:Hp):List (List Bk×V)->List (List Bk×MF×Mo)->Prop:=Tc λp q=>p.1=q.1/\H q.2.1=Z (.tup (p.1.map kV))/\Ao p.2 q.2.2
def KT.val {H:Hp}{kvs:X2}{xs:List (List Bk×MF×Mo)}(r:KT H kvs xs)(k:List Bk):CI (Dy kvs k) ((Xm xs k).map (·.2)):=by
 induction r with
 |nil=>show True.intro
 |@cons p q i c h t f=>
  obtain⟨d,_,g⟩:=h
  by_cases e:p.1=k
  .have a:q.1=k:=d.symm\e;have b:Xm (q::c) k=Z q.2:=by simp[Xm,O1,a]
   rw[ll e,b];show g
  .have a:¬ q.1=k:=λz=>e (d\z)
   have b:Xm (q::c) k=Xm c k:=by simp[Xm,O1,a]
   rw[jp e,b];show f
def KT.repl (r:KT H kvs xs) (k:List Bk) (d:Ao y u) :
  KT H (kvs.map λb=>if b.1=k then(b.1,y) else b) (xs.map (putAt k u)):=by
 induction r with
 |nil=>show .nil
 |@cons p q i j h t f=>
  rw[MR,MR];refine .cons ?_ f;obtain⟨a,c,g⟩:=h;unfold putAt
  by_cases e:p.1=k
  .rw[M' e,M' (a.symm\e)];show⟨a,c,d⟩
  .rw[MZ e,MZ (λz=>e (a\z))];show⟨a,c,g⟩
def KT.put (r:KT H kvs xs) (k:List Bk) (c:H b=Z (.tup (k.map kV))) (a:Ao y u) :
  KT H (Di kvs k y) (storedH xs k b u):=by
 have e:(kvs.any λd=>decide (d.1=k))=(Xm xs k).isSome:=by
  rw[oN,(r.val k).isSome_eq,WB]
 unfold Di storedH;rw[e]
 by_cases q:(Xm xs k).isSome=true
 .rw[M' q,M' q];show r.repl k a
 .rw[MZ q,MZ q];show Paired.snoc r ⟨U,c,a⟩
def KT.keeps (r:KT H kvs xs)(a:∀ b ys,H b=Z (.tup ys)->H' b=Z (.tup ys)):KT H' kvs xs:=
 Paired.mapP r λ_ _ z=>⟨z.1,a _ _ z.2.1,z.2.2⟩
section
variable {P:MY}{w:Nr}{H:Hp}{h:Oz}{a:MF}
def aea (ok:B9 P w H h)(e:Rd H a u):At P w H h a u:=e.ok ok
def acu (ok:B9 P w H h)(e:Rd H a (.dK kvs)):⇑kvs<=MO/\(a==Oe)=false/\∃ vs,KV kvs vs/\h.DictOf (Aw P w) a vs:=
 show At P w H h a (.dK kvs) from aea ok e
def af2 (ok:B9 P w H h)(e:H a=Z (.dK kvs)):⇑kvs<=MO/\(a==Oe)=false/\∃ vs,KV kvs vs/\h.DictOf (Aw P w) a vs:=acu ok (.inl e)
def n9 (ok:B9 P w H h)(e:H a=Z (.tup (ks.map kV))):(QS (Aw P w)).is h ks a:=by
 obtain⟨_,b,r,o,c,f,n,d⟩:=(show At P w H h a (.tup (ks.map kV)) from ok a _ e)
 show⟨o,b.toArray,n,c,f,d,by simpa using qX r⟩
def rh (ok:B9 P w H h) (e:Rd H a (.dT kvs)):⇑kvs <= MO/\(a == Oe)=false /\
  ∃ xs,KT H kvs xs/\h.DictOfH (QS (Aw P w)) a xs:=by
 obtain⟨z,y,xs,r,o,i,g,k,j,c,d,n⟩:=(show At P w H h a (.dT kvs) from aea ok e)
 refine⟨z,y,xs,r,o,i,g,k,j,c,d,λx b=>?_,n⟩;have all:∀ {l:X2}{m:List (List Bk×MF×Mo)},KT H l m->∀ x∈m,(QS (Aw P w)).is h x.1 x.2.1:=by
  intro l m q
  induction q with
  |nil=>intro x b;show nomatch b
  |@cons p q s u hq t f=>
   intro x b;rcases MA.mp b with e|b
   .subst e;show n9 ok (by rw[<- hq.1];show hq.2.1)
   .show f x b
 show all r x b
def af4 (ok:B9 P w H h) (e:H a=Z (.dT kvs)):⇑kvs <= MO/\(a == Oe)=false /\
  ∃ xs,KT H kvs xs/\h.DictOfH (QS (Aw P w)) a xs:=rh ok (.inl e)
end
def G4 (H:Hp)(a:MF)(y:V)(r:Option V):Prop:=
 (∃ c k,Rd H a (.dK c)/\y=kV k/\r=Dy c k)\/∃ c k b,Rd H a (.dT c)/\y=↥b/\H b=Z (.tup (k.map kV))/\r=Dy c k
def Il (H:Hp)(a:MF)(y v:V)(H':Hp):Prop:=
 (∃ c k,H a=Z (.dK c)/\y=kV k/\⇑c<MO/\H'=upd H a (.dK (Di c k v))) \/
 ∃ c k b,H a=Z (.dT c)/\y=↥b/\H b=Z (.tup (k.map kV))/\⇑c<MO/\H'=upd H a (.dT (Di c k v))
def G4.t {H:Hp}{a b:MF}{kvs:X2}{k:List Bk}(e:H a=Z (.dT kvs))(c:H b=Z (.tup (k.map kV))):G4 H a ↥b (Dy kvs k):=.inr ⟨kvs,k,b,.inl e,U,c,U⟩
def Il.t {H:Hp}{a b:MF}{kvs:List (List Bk × V)}{k:List Bk}{v:V} (e:H a=Z (.dT kvs)) (d:H b=Z (.tup (k.map kV))) (c:⇑kvs < MO) :
  Il H a ↥b v (upd H a (.dT (Di kvs k v))):=.inr ⟨kvs,k,b,e,U,d,c,U⟩
variable {X:Cx}
section
variable {pins:Lb}{σ:St}{H:Hp}{s:Mt}{a:MF}{y v:V}{u r:Mo}{o:Option V}{A:Nw}{E:My}
def Ag.big (I:Ag X pins σ H s):Oe<s⁻¹:=by have h:ME<s⁻¹:=(I.mod.glob.keeps I.bk).lt;show Nat.lt_trans O h
def aaf (t:A.units + 1 < cLine) (I:Ag X pins σ H s) (g:G4 H a y (Z v)) (r:Ao y u) (h:∀ f q,Ag X pins σ H q->Ao v f->Q f q) :
  MI (MW X.prog X.w) A (WK ↥a u) Q E s:=by
 rcases g with ⟨m,k,e,j,l⟩|⟨m,k,b,e,j,x,l⟩
 .subst j;obtain⟨z,B,vs,d,n⟩:=acu I.hok e;obtain⟨f,hw,c⟩:=CI.some_of (v:=v) (o:=WO vs k) (by rw[l];show d.val k);show wpAny_getItem_of (acf r) n.mapOf hw (h f _ (I.tok _) c)
 .subst j;cases(show u=MT b from r);obtain⟨z,B,D,d,n⟩:=rh I.hok e;obtain⟨f,hw,c⟩:=CI.some_of (v:=v) (o:=(Xm D k).map (·.2)) (by rw[l];show d.val k);obtain⟨p,C,i⟩:=MG.mp hw;refine wpAny_getItem_heap (tupleKind_room_in1 t) (n9 I.hok x) n C ?_;rw[i];show h f _ (I.tok _) c
def sR (I:Ag X pins σ H s) (c:Kb (H a)) (f:NF a s.heap h') (he:∃ q,h'.get? a=Z q) (new:At X.prog X.w (upd H a ob) h' a ob) :
  Ag X pins σ (upd H a ob) { s with heap:=h',toks:=t' }:=
 I.write (x:=a) (e:=a) c (.inl rfl) (λb q d z=>f.2 b d\z) he new
def afp (z:⇑kvs <= MO) (c:(a == Oe)=false) (b:KV kvs vs) (dd:h'.DictOf (Aw P w) a vs) :
  At P w H' h' a (.dK kvs):=⟨z,c,vs,b,dd⟩
def yE (M:A.units + 1 < cLine) (I:Ag X pins σ H s) (g:Il H a y v H') (C:Ao y u) (J:Ao v r) (h:∀ B,Ag X pins σ H' B->Q () B) :
  MI (MW X.prog X.w) A (setItem ↥a u r) Q E s:=by
 rcases g with ⟨d,k,e,n,l,j⟩|⟨d,k,b,e,n,F,l,j⟩
 .subst n j;obtain⟨z,o,vs,f,p⟩:=af2 I.hok e;have t:⇑vs<=MO:=by rw[<- ⇑f];show z
  have x:⇑(Di d k v)<=MO:=by have:=mI d k v;lia
  refine wpAny_setItem_pairs (hsz:=t) (acf C) p λD i m=>h _ ?_
  have G:∃ q,D.get? a=Z q:=let ⟨q,_,_,hq,_⟩:=i;⟨q,hq⟩
  show sR I (by rw[e];show True.intro) m G (afp x o (f.put k J) i)
 .subst n j;cases(show u=MT b from C);obtain⟨z,o,xs,f,p⟩:=af4 I.hok e;have t:⇑xs<=MO:=by rw[<- Ug f];show z
  have x:⇑(Di d k v)<=MO:=by have:=mI d k v;lia
  refine wpAny_setItem_heap (hsz:=t) (tupleKind_room_in1 M) (n9 I.hok F) p λD i m=>h _ ?_
  obtain⟨q,S,R,hq,T,L,N,_,h5⟩:=i;refine sR I (by rw[e];show True.intro) m ⟨q,hq⟩ ⟨x,o,_,(f.put k F J).keeps λc ys G=>?_,q,S,R,hq,T,L,N,h5⟩;rw[ar (ad6 G e (λz=>nomatch z))];show G
end
def JT (i:OZ):Prop:=∀ ov a,subscripted i false ov a=operate [ov,a] (WK ov a)
def acS {prog:MY}{w:Nr}{A:Nw}{E:My}{s:Mt}{env:Env}{b a:OZ}{l:Pos}{T id:String}{Q:My}
  (p:WN (.type T) "__getitem__"=pure (Z (.builtin id)))(n:JT a)
  (h:MI (MW prog w) A (QA b env) (λo e=>MI (MW prog w) A (QA a env) (λi c=>c.TypeIs o T/\MI (MW prog w) A (WK o i) Q E c) E e) E s):
  MI (MW prog w) A (QA (.Subscript b a l) env) Q E s:=by
 refine WH (NI h (λo e j=>NI j (λi c d=>?_) λ_ _ x=>x) λ_ _ x=>x);obtain⟨m,d⟩:=d;unfold Wn;refine HD ?_;rw[getitemInPython_of_ne m.not_modules];refine HD (Pm m p ?_);have g:MI (MW prog w) A (subscripted a false o i) (λr f=>MI (MW prog w) A (letTemporaryGo b o r>>=λ_=>pure r) Q E f) E c:=by
  rw[n o i];show wpAny_operating (NI d (λr f k=>HD (wpAny_letTemporaryGo (Mm k))) λ_ _ x=>x)
 first
  |show Mm (HD g)
  |show HD (Mm (HD g))
  |show HD g
def uX (I:Ag X pins σ H s)(g:G4 H a y o):s.TypeIs ↥a "dict":=by
 rcases g with ⟨c,k,e,_,_⟩|⟨c,k,b,e,_,_,_⟩
 .obtain⟨_,_,vs,_,d⟩:=acu I.hok e;show d.typeIs
 .obtain⟨_,_,f,_,d⟩:=rh I.hok e;show d.typeIs
def KJ (d ty:TE):TE:=λb H Q=>d b H λx e=>ty b e λy c=>∃ a v,x=↥a/\G4 c a y (Z v)/\Q v c
def Kh (d ty f:TE):TS:=λD b H=>f b H λv g=>d b g λx h=>ty b h λy e=>∃ a c,x=↥a/\Il e a y v c/\D.nx b c
variable {pos:Pos}
section
variable {o i e value:OZ}{pos' tpos:Pos}{td ty tv:TE}
def adg (n:X.A.units+1<cLine)(B:PE X o td)(z:PE X i ty)(r:JT i):PE X (.Subscript o i pos) (KJ td ty):=by refine⟨λb s f H Q I h=>?_⟩;refine acS PySem.F.slot_dict_getitem.lookup r (bo (B b s f H _ I h) λu E c=>?_);obtain⟨x,C,t,D,p⟩:=c;refine bo (z b E f C _ t p) λN L d=>?_;obtain⟨y,l,j,k,a,v,G,g,m⟩:=d;subst G;obtain rfl:u=MT a:=D;show⟨uX j g,aaf n j g k λM J q e=>⟨v,l,q,e,m⟩⟩
def ado (n:X.A.units + 1 < cLine) (G:PE X o td) (F:PE X i ty) (B:PE X value tv) (C:SX value (Z (.Subscript o i pos')) pos.line X.env=pure false) :
  PS X (.Assign [.Subscript o i pos'] value pos) (Kh td ty tv):=by
 refine⟨λb s c H D I h=>?_⟩;refine UP (bo (B b s c H _ I h) λr N e=>?_) C;obtain⟨v,J,E,M,p⟩:=e;refine bo (G b N c J _ E p) λu m f=>?_;obtain⟨x,k,Q,L,l⟩:=f;refine bo (F b m c k _ Q l) λiv T d=>?_;obtain⟨y,H3,q,j,a,z,R,g,S⟩:=d;subst R;obtain rfl:u=MT a:=L;show yE n q g j M λs4 t=>⟨c,z,t,S⟩
end
def abU (h:Oz)(a:Oe<h.objs.size):At P w H (h.push { cls:=.type "dict",data:=.dict #[] }) h.objs.size (.dT []):=
 ⟨N7 _,OB.mpr (Om (MH a)),[],.nil,_,#[],0,Ms _ U,⟨U,U,U⟩,U,U,Tt⟩
def Jn:TE:=λ_ H Q=>∀ p,H p=none->Q ↥p (upd H p (.dT []))
def aaT:PE X (.Dict [] [] pos) Jn:=⟨λb s c H Q I h=>
 wpAny_Dict_empty ⟨↥s⁻¹,_,I.laid (a:=s⁻¹) (o:=.dT []) (t':=s.toks) (λ_ _ q=>Ml _ q) (Mz _) (abU s.heap I.big),U,h _ (I.hok.fresh (Mz _))⟩⟩
def Ad (H:Hp)(a:MF):Prop:=(∃ b,Rd H a (.dK b))\/∃ b,Rd H a (.dT b)
end L2
namespace PySem
section
variable {prog:MY}{w:Nr}{K:Type}[DecidableEq K]{knd:W8 prog w K}{A:Nw}{E:My}{s:Mt}
def mW (knd:W8 prog w K) (d:MF) (e:(d == Oe)=false) :
  MeetsIn prog w (OJ.«dict.__len__» ⟨[↥d],[]⟩) (λ_ R s=>∃ xs,s.heap.DictOfH knd d xs/\R (.ok (.ret (.int ⇑xs s.toks))) { s with toks:=s.toks+1 }):=
 .of_wp λA R s ⟨xs,c,h⟩=>by
  obtain⟨o,j,i,f,l,a,b,k,g⟩:=c;change MI _ _ (dictSize d>>=_) _ _ s;unfold dictSize;refine HD (HD (Oq f a (Mm ?_)));change MI _ _ (Builtin.Dict.pendingCount d>>=_) _ _ s;refine HD (wpAny_pendingCount_other e (wpAny_ret_mkInt ?_));rw[P6,Vk b];show h
def zr {d:MF}{xs:List (K × MF × Mo)}{Q:My} (f:(d == Oe)=false) (a:s.heap.DictOfH knd d xs) (c:(⇑xs:Int) < 2 ^ 63)
  (h:Q (.int ⇑xs (s.toks+1)) { s with toks:=s.toks+1+1 }):MI (MW prog w) A (OJ.«len» ⟨[↥d],[]⟩) (λb e=>∃ r,b=.done (.ret r)/\Q r e) E s:=by
 unfold OJ.«len»;refine HD (Mm ?_);refine HD (Nu a.typeIs F.slot_dict_len
  (call_meetsIn F.slot_dict_len a.typeIs F.entry_dict_len (F.args_dict_len_1 _) (mW knd d f) ⟨xs,a,?_⟩))
 change MI _ _ _ _ _ { s with toks:=s.toks+1 };refine HD (Nv (Mm (HD (Qc ?_))));change MI _ _ (if((⇑xs:Nat):Int)<0 then _ else _) _ _ _;rw[MZ Y];change MI _ _ (if((⇑xs:Nat):Int)>=2^63 then _ else _) _ _ _;rw[MZ Y];show HD (wpAny_mkInt (Mm ⟨_,U,h⟩))
def aad (c:(d == Oe)=false) (b:s.heap.DictOfH knd d xs) (a:(⇑xs:Int) < 2 ^ 63)
  (h:Q (.int ⇑xs (s.toks+1)) { s with toks:=s.toks+1+1 }):MI (MW prog w) A (call (.builtin "len") [↥d]) Q E s:=
 Tk kind_len plain_len entry_len (args_len1 _) (zr c b a h)
theorem mq:∀ (l:List OS) (h:Int),(l.map (·.hash)).Nodup->⇑(l.filter (·.hash==h))<=1
 |[],_,_=>N7 _
 |e::r,h,b=>by
  rw[MR,Ou] at b;rw[List.filter_cons]
  by_cases q:(e.hash==h)=true
  .rw[M' q];have c:e.hash=h:=by simpa using q
   have z:r.filter (·.hash==h)=[]:=List.filter_eq_nil_iff.mpr λa f y=>b.1 (by
    have d:a.hash=h:=by simpa using y
    rw[c,<- d];show Nd.mpr ⟨a,f,U⟩)
   rw[z];show Mz _
  .rw[MZ q];show mq r h b.2
def v7 {id:String}{d:MF}{o:Obj}{es:Array OS}{l:Nat}{Q:Array OS->Mt->Prop} (t:s>>d=Z o) (p:o.data=.dict es l)
  (n:∀ e∈es.toList,∃ a,e.key=↥a/\s.TypeIs ↥a "tuple")(k:(es.toList.map (·.hash)).Nodup)(h:Q es s):MI (MW prog w) A (Su id d) Q E s:=by
 unfold Su;refine HD (Oq t p (HD ?_));rw[<- Ps];refine QY _ (λAQ _ c=>c=s/\∀ e∈AQ,e∈es.toList) _ ?_ ?_ _ _ ⟨U,λe q=>q⟩
 .rintro e AQ b c ⟨rfl,g⟩;obtain⟨a,j,i⟩:=n e (g e MS);have m:¬ (es.filter (·.hash==e.hash)).size>1:=by
   have z:=mq es.toList e.hash k;have u:(es.filter (·.hash==e.hash)).size=⇑(es.toList.filter (·.hash==e.hash)):=by
    rw[<- ND,Array.toList_filter]
   lia
  have q:MI (MW prog w) A (Vr e.key) (λr f=>r=false/\f=c) E c:=by
   rw[j];unfold Vr;show HD (Pm i Rg.lookup (Mm ⟨O,U⟩))
  refine HD (NI q (λr f hq=>?_) λ_ _ z=>z);obtain⟨rfl,rfl⟩:=hq;rw[M' O,MZ m];show Mm ⟨U,λe q=>g e (Mx _ q)⟩
 .rintro b c ⟨rfl,_⟩;show Mm h
def aci (l:d ≠ o) (F:(o == Oe)=false) (M:s.heap.DictOfH knd d []) (R:s.heap.DictOfH knd o xs)
  (I:∀ x∈xs,s.TypeIs ↥x.2.1 "tuple")(hh:(xs.map λx=>knd.hash x.1).Nodup)(hsz:⇑xs<=MO)(j:xs≠[])
  (L:∀ h',h'.DictOfH knd d xs->NF d s.heap h'->Q () { s with heap:=h' }):MI (MW prog w) A (UE nm d o) Q E s:=by
 obtain⟨T,C,v,f,p,b,u,J,H⟩:=id M;obtain⟨X,a,G,h,N,g,c,B,n⟩:=id R;have S:C=#[]:=by
  show Array.eq_empty_of_size_eq_zero (Vk u)
 subst S;have i:a.size=⇑xs:=Vk c;unfold UE;rw[MZ (by simpa using l)];unfold Qo;rw[MZ (by rw[F];show M3)];refine HD (Mm (HD (Oq h g ?_)));dsimp only;cases xs with
 |nil=>show absurd rfl j
 |cons x r=>
  have k:(decide (a.size<=8)&&a.all λe=>(keyPart e.key).isSome)=false:=by
   have z:(a.all λe=>(keyPart e.key).isSome)=false:=by
    rw[<- Array.all_toList,c,MR,P7];rfl
   rw[z,RV]
  rw[k,M' O];refine HD (Oq f b ?_);rw[M' O];refine HD (v7 h g (λe q=>?_) ?_ ?_)
  .rw[c] at q;obtain⟨y,t,rfl⟩:=Nd.mp q;show⟨_,U,I y t⟩
  .rw[c,OD];show hh
  .have m:¬ a.isEmpty=true:=λz=>by
    rw[Array.isEmpty_iff.mp z] at i;cases i
   rw[M' (by simpa using m)];have D:a.size<=MO+1:=Y
   refine HD (wpAny_updateDictKeysTo f b (Mm (L _ ⟨_,_,v+1,M4 _ f (Obj.isFreed_of_dict (Vx b _)),p.mapDictKeys _,
    Vx b _,c,λy t=>knd.keeps (B y t) f b (M_ ..),n⟩ (M_ ..))) D)
def adL (n:(o == Oe)=false) (p:s.heap.DictOfH knd o xs) (hsz:⇑xs <= MO) (i:xs ≠ [])
  (q:∀ x∈xs,s.TypeIs ↥x.2.1 "tuple")(hh:(xs.map λx=>knd.hash x.1).Nodup)(f:∀ x∈xs,knd.is (s.heap.push { cls:=.type "dict",data:=.dict #[] }) x.1 x.2.1)
  (h:∀ h',h'.DictOfH knd s⁻¹ xs->NF s⁻¹ (s.heap.push { cls:=.type "dict",data:=.dict #[] }) h'->Q ↥s⁻¹ { s with heap:=h' }):
  MI (MW prog w) A (call (.type "dict") [↥o]) Q E s:=by
 refine callType_codes (Q₁:=λg d=>g=↥s⁻¹/\d={ s with heap:=s.heap.push { cls:=.type "dict",data:=.dict #[] } }) F.kt_called_dict (F.kt_typeCall_dict_1 _) F.entry_dict_init (kt_code_dict_new _ ⟨U,U⟩) ?_;rintro g d ⟨rfl,rfl⟩;have a:(s.heap.push { cls:=.type "dict",data:=.dict #[] }).DictOfH knd s⁻¹ []:=Heap.DictOfH.new s.heap;have j:s⁻¹≠o:=by
  obtain⟨_,_,_,z,_⟩:=p;show λe=>absurd (Mr z) (by rw[e];show Nq _)
 have b:(s.heap.push { cls:=.type "dict",data:=.dict #[] }).DictOfH knd o xs:=by
  obtain⟨m,y,v,D,C,r,t,G,B⟩:=p;show⟨m,y,v,Ml _ D,C,r,t,f,B⟩
 refine⟨a.typeIs,F.args_dict_init_2 _ _,?_⟩;unfold OJ.«dict.__init__»;refine HD ?_;unfold Builtin.Dict.selfAndRest;refine HD (Sa a.typeIs ?_);change MI _ _ (pure (s⁻¹,[MT o])) _ _ _;refine Mm ?_;change MI _ _ (T9 "dict.__init__" s⁻¹ ↥o [] .none) _ _ _;unfold T9;refine HD (wpAny_typeOf b.typeIs ?_);rw[MZ O];refine HD ?_;unfold Builtin.Dict.merge;refine HD ?_;unfold Builtin.Dict.readDirectly;refine HD (OP b.typeIs isSubtype_dict_dict ?_);simp only[Pu,M2,Oj];refine HD (Pm b.typeIs Ux.lookup (Mm ?_));simp only[QW,Qb];refine HD (Mm (aci j n a b (λx u=>?_) hh hsz i λh' k l=>?_))
 .obtain⟨m,e,c⟩:=q x u;show⟨m,Ml _ e,c⟩
 change MI _ _ (Builtin.Dict.addKeywords s⁻¹ []>>=_) _ _ _;show HD (Mm (Mm ⟨U,h h' k l⟩))
end
end PySem
namespace TR
open PySem PySem.Spec PyProof.Rows L2
variable {X:Cx}
def zJ:AI X (.builtin "len") (λxs H Q=>∃ p kvs,xs=[↥p]/\Rd H p (.dT kvs)/\Q ↑⇑kvs H):=by intro b s i H xs k Q I r h;obtain⟨p,kvs,rfl,e,q⟩:=h;obtain⟨u,rfl,f⟩:=fV r;cases f;obtain⟨z,c,vs,a,d⟩:=rh I.hok e;have j:=kC;have g:⇑kvs=⇑vs:=⇑a;show aad c d Y ⟨↑⇑kvs,H,I.tok _,⟨_,by rw[g]⟩,q⟩
def Ih (kvs:X2):Prop:=∀ (P:MY) (w:Nr),(kvs.map λa=>(QS (Aw P w)).hash a.1).Nodup
def adi (r:L2.KT H kvs xs) :
  (kvs.map λb=>(QS (Aw P w)).hash b.1)=xs.map λx=>(QS (Aw P w)).hash x.1:=by
 induction r with
 |nil=>rfl
 |cons h t a=>rw[MR,MR,a,h.1]
def adl (r:L2.KT H kvs xs):∀ x∈xs,H x.2.1=Z (.tup (x.1.map kV)):=by
 induction r with
 |nil=>intro x a;show nomatch a
 |@cons p q c d h t b=>
  intro x a;rcases MA.mp a with rfl|a
  .rw[<- h.1];show h.2.1
  .show b x a
def vS:AI X (.type "dict") (λxs H Q=>∃ p kvs,xs=[↥p]/\Rd H p (.dT kvs)/\kvs≠[]/\Ih kvs/\∀ a,H a=none->Q ↥a (upd H a (.dT kvs))):=by
 intro k s T H xs us Q I r h;obtain⟨p,kvs,rfl,e,i,M,q⟩:=h;obtain⟨u,rfl,G⟩:=fV r;cases G;obtain⟨z,D,vs,d,E⟩:=rh I.hok e;have l:⇑kvs=⇑vs:=⇑d;have g:∀ x∈vs,(QS (Aw X.prog X.w)).is s.heap x.1 x.2.1:=λx f=>n9 I.hok ((adl d) x f)
 refine adL D E Y (λL=>?_) (λx f=>(g x f).typeIs) (by rw[<- adi d];show M _ _) (λx f=>?_) λt y C=>?_
 .rw[L] at l;show i (Ud.mp l)
 .obtain⟨o,j,n,B,A,m,v⟩:=g x f;show⟨o,j,n,Ml _ B,A,m,v⟩
 .have S:∀ b u,s>>b=Z u->t.get? b=Z u:=λb u e=>(C.2 b (MH (Mr e))).trans (Ml _ e)
  obtain⟨N,B,v,F,A,R,J,g5,m⟩:=y;have j:=I.hok.fresh (Mz s⁻¹);show⟨↥s⁻¹,_,I.laid (o:=.dT kvs) S (Mz _) ⟨z,OB.mpr (Om (MH I.big)),vs,Paired.mapP d λa b c=>⟨c.1,by rw[ar (aI c.2.1 j)];show c.2.1,c.2.2⟩,N,B,v,F,A,R,J,m⟩,U,q _ j⟩
abbrev _root_.Pv:=Nat×Nat×Nat
def A7 (t:Pv):List Bk:=[.inl (t.1:Int),.inl (t.2.1:Int),.inl (t.2.2:Int)]
def As (k:Nat):List (Nat×Nat×Nat):=(NG k).flatMap λa=>(NG k).flatMap λb=>(NG k).map λc=>(a,b,c)
def FI (t:Pv):Int:=reduceHash (Oc [hashInt (t.1:Int),hashInt (t.2.1:Int),hashInt (t.2.2:Int)])
def aay (P:MY)(w:Nr)(t:Pv):(QS (Aw P w)).hash (A7 t)=FI t:=by change Qy (Aw P w) (A7 t)=FI t;unfold Qy A7 FI;simp only[MR,Px];rfl
set_option maxRecDepth 1000000 in
def adb:((As 7).map FI).Nodup:=zyB
theorem aeh:∀ {l:List α},(l.map f).Nodup->∀ {a b:α},a∈l->b∈l->f a=f b->a=b
 |[],_,_,_,h,_,_=>nomatch h
 |x::r,d,a,b,g,c,e=>by
  rw[MR,Ou] at d;rcases MA.mp g with j|g
  .rcases MA.mp c with i|c
   .rw[j,i]
   .show absurd (Nd.mpr ⟨b,c,by rw[<- e,j]⟩) d.1
  .rcases MA.mp c with i|c
   .show absurd (Nd.mpr ⟨a,g,by rw[e,i]⟩) d.1
   .show aeh d.2 g c e
def cY:t∈As k↔t.1<k/\t.2.1<k/\t.2.2<k:=by
 obtain⟨a,b,c⟩:=t;unfold As;simp only[QU,Nd,Od,V7];constructor
 .rintro⟨x,d,y,e,z,f,rfl,rfl,rfl⟩;show⟨d,e,f⟩
 .rintro⟨d,e,f⟩;show⟨a,d,b,e,c,f,U,U,U⟩
def zx (a:t∈As 7)(b:u∈As 7)(e:FI t=FI u):t=u:=aeh adb a b e
theorem ab2 {h:List Bk->Int}{g:Nat×Nat×Nat->Int}(a:∀ t,h (A7 t)=g t):∀ {kvs:X2}{ts:List (Nat×Nat×Nat)},kvs.map (·.1)=ts.map A7->(kvs.map λc=>h c.1)=ts.map g
 |[],[],_=>rfl
 |[],_::_,e=>nomatch e
 |_::_,[],e=>nomatch e
 |p::r,t::q,e=>by
  rw[MR,MR] at e;injection e with b d
  rw[MR,MR,ab2 a d,b,a]
theorem vx {g:Nat×Nat×Nat->Int}{l:List (Nat×Nat×Nat)}(d:∀ {t u},t∈l->u∈l->g t=g u->t=u):∀ {ts:List (Nat×Nat×Nat)},ts.Nodup->(∀ t∈ts,t∈l)->(ts.map g).Nodup
 |[],_,_=>Tt
 |t::r,b,c=>by
  rw[Ou] at b;rw[MR,Ou];refine⟨λz=>?_,vx d b.2 λu a=>c u (Mx _ a)⟩;obtain⟨u,a,e⟩:=Nd.mp z;have:=d (c u (Mx _ a)) (c t MS) e;show b.1 (this▸a)
def adp {h:List Bk->Int}{g:Nat × Nat × Nat->Int}{l:List (Nat × Nat × Nat)} (a:∀ t,h (A7 t)=g t) (d:∀ {t u},t ∈ l->u ∈ l->g t=g u->t=u) {kvs:List (List Bk × V)}{ts:List (Nat × Nat × Nat)}
  (f:kvs.map (·.1)=ts.map A7)(b:ts.Nodup)(c:∀ t∈ts,t∈l):(kvs.map λe=>h e.1).Nodup:=by
 rw[ab2 a f];show vx d b c
def vt {kvs:X2}{ts:List (Nat×Nat×Nat)}(c:kvs.map (·.1)=ts.map A7)(a:ts.Nodup)(b:∀ t∈ts,t∈As 7):Ih kvs:=
 λP w=>adp (aay P w) zx c a b
end TR
namespace PySem
def Heap.RawD (h:Oz)(d:MF)(es:Array OS)(a:Nat):Prop:=∃ o,h.get? d=Z o/\o.ExactDict/\o.data=.dict es a
variable {prog:MY}
section
variable {w:Nr}{A:Nw}{E:My}{s:Mt}{d v:MF}{es:Array OS}{ep:Nat}
def Heap.RawD.typeIs (a:s.heap.RawD d es ep):s.TypeIs ↥d "dict":=by obtain⟨o,b,c,_⟩:=a;show⟨o,b,c.1⟩
def Heap.RawD.of {K:Type}[DecidableEq K]{a:W8 prog w K}{xs:List (K×MF×Mo)}(e:s.heap.DictOfH a d xs):∃ es ep,s.heap.RawD d es ep/\es.toList=xs.map (Vn a):=by obtain⟨o,es,ep,b,g,f,c,_⟩:=e;show⟨es,ep,⟨o,b,g,f⟩,c⟩
def zy (d:MF) (b:(d == Oe)=false) :
  MeetsIn prog w (OJ.«dict.items» ⟨[↥d],[]⟩) (λ_ R s=>(∃ es ep,s.heap.RawD d es ep) /\
   R (.ok (.ret ↥s⁻¹)) { s with heap:=s.heap.push { cls:=.type "dict_items",data:=.fields #[↥d] } }):=
 .of_wp λA R s ⟨⟨es,ep,a⟩,h⟩=>by
  unfold OJ.«dict.items» Builtin.Dict.noArgs;refine HD (HD (Sa a.typeIs (Mm ?_)));unfold Qo;rw[MZ (by rw[b];show M3)];show HD (Mm (HD (No (Mm ⟨_,U,h⟩))))
def aaR (e:s.heap.IsItemsView v d) (h:s.heap.RawD d es ep)
  (i:Q ↥s⁻¹ { s with heap:=s.heap.push { cls:=.type "dict_itemiterator",data:=.fields #[.none,.bool false,↥d,.int 0 0,.int es.size 0,.int ep 0,.none,.none] } }):
  MI (MW prog w) A (Wk ↥v) Q E s:=by
 obtain⟨ov,f,j,c⟩:=id e;obtain⟨o,g,k,a⟩:=id h;refine RU e.typeIs UG (Nt UG e.typeIs F.entry_dict_items_iter ?_ (F.args_dict_items_iter_1 _));unfold OJ.«dict_items.__iter__» Xh WQ;refine HD (Mm (HD (HD (NS f c rfl (Mm (HD (HD (Oq g a (HD (Qz g a ?_))))))))));have b:OH "dict_itemiterator"=true:=O
 simp only[b,Qb];refine No (Mm ⟨_,U,"dict_itemiterator",_,⟨_,Ms _ U,U⟩,Ox.lookup,?_⟩)
  (by simp only[sizeOk,QZ,MJ,MP,Np,SG,NN];lia)
 simpa [ON,QZ] using i
end
section
variable {w:Nr}{A:Nw}{E:My}{s:Mt}{d it:MF}{es:Array OS}{i ep:Nat}{ok ov:Mo}
def adn (hh:A.handled=none) (a:RC s.heap it d i es.size ep ok ov) (g:s.heap.RawD d es ep) (h:es.size <= i)
  (k:∀ h',SD it s.heap h'->Q none { s with heap:=h' }):MI (MW prog w) A (QM ↥it) Q E s:=by
 obtain⟨l,c,j,f⟩:=id g;have b:s.TypeIs ↥it "dict_itemiterator":=⟨_,a,U⟩
 have e:OH "dict_itemiterator"=true:=O
 unfold QM;refine HD (OO (Nu b Ox
  (Nt Ox b R1 ?_ (Rx _))))
 refine HD (Mm (HD (HD ?_)))
 first|refine HD (O4 b (Mm ?_))|refine HD (PN b (Mm ?_))
 refine HD (QT a rfl ?_);simp only[e,Qb];change MI _ _ (if(MT d==Nc)=true then _ else _) _ _ s;rw[MZ (show ¬ ((MT d==Nc)=true) from M3)];refine HD (Mm (HD (Oq c f ?_)));rw[MZ zyA];refine HD (Mm (HD (Qz c f ?_)));rw[MZ zyA];refine Mm ?_;simp only[show ¬ ((i:Int)<0) from by lia,Oj,Ng,UD h];refine HD ?_
 first|refine HD (O4 b (Mm ?_))|refine HD (PN b (Mm ?_))
 change MI _ _ (Vp ↥it 2 .none>>=_) _ _ s;refine HD (Of a rfl zyA ?_);change MI _ _ (newExc (.type "StopIteration") []>>=_) _ _ _;refine HD ?_;simp only[newExc,newTuple];refine HD (No (HD (RT (by first|rfl|(simp only[RY];rfl)) ?_)) (by size_fits));refine No ?_ (by size_fits);simp only[raiseNew];refine HD (Ut ?_);rw[show A.in1.handled=none from hh];refine HD (Mm (Uv ?_));refine HD (OP ⟨_,Ms _ U,U⟩ Tw ?_);show Mm (k _ (((M_ ..).extBut.push _).push _))
def aaZ (I:RC s.heap it d i es.size ep ok ov) (hm:s.heap.RawD d es ep) (hx:es[i]?=Z e)
  (hQ:∀ h',V2 h' it d (i+1) es.size ep e.key e.val s⁻¹->h'.get? s⁻¹=Z { cls:=.type "tuple",data:=.seq #[e.key,e.val] }->h'.objs.size=s⁻¹+1 ->
   (∀ b o,b≠it->s>>b=Z o->h'.get? b=Z o)->Q (Z ↥s⁻¹) { s with heap:=h' }):MI (MW prog w) A (QM ↥it) Q E s:=by
 obtain⟨G,g,S,M,os⟩:=s;obtain⟨od,N,X,R⟩:=id hm;have J:Wd ⟨G,g,S,M,os⟩ ↥it "dict_itemiterator":=⟨_,I,U⟩
 have L:OH "dict_itemiterator"=true:=O
 unfold QM;refine HD (OO (Nu J Ox
  (Nt Ox J R1 ?_ (Rx _))))
 refine HD (Mm (HD (HD ?_)))
 first|refine HD (O4 J (Mm ?_))|refine HD (PN J (Mm ?_))
 refine HD (QT I rfl ?_);simp only[L,Qb];change MI _ _ (if(MT d==Nc)=true then _ else _) _ _ _;rw[MZ (show ¬ ((MT d==Nc)=true) from M3)];refine HD (Mm (HD (Oq N R ?_)));rw[MZ zyA];refine HD (Mm (HD (Qz N R ?_)));rw[MZ zyA];refine Mm ?_;simp only[show ¬ ((i:Int)<0) from by lia,Oj,Ng,hx];refine HD ?_
 first|refine HD (O4 J (Mm ?_))|refine HD (PN J (Mm ?_))
 refine HD (Rv J ?_);change MI _ _ (Vp ↥it 3 (ON ((i:Int)+1))>>=_) _ _ ⟨G,g,S,M,os⟩;refine HD (N3 I zyA λa c f=>?_);replace f:NF it G a:=f;replace c:RC a it d (i+1) es.size ep ok ov:=by
  have e:((i+1:Nat):Int)=(i:Int)+1:=Y
  unfold RC;rw[e];simpa [ON] using c
 have r:Wd ⟨a,g,S,M,os⟩ ↥it "dict_itemiterator":=⟨_,c,U⟩
 refine HD (Nv (HD (Rv r (HD (Rv r ?_)))));change MI _ _ (Rt ↥it 6 e.key e.val) _ _ ⟨a,g,S,M,os⟩;unfold Rt;refine HD (Tz ?_);have j:a.objs.size=G.objs.size:=f.1;have T:∀ b o,b≠it->G.get? b=Z o->(a.push { cls:=.type "tuple",data:=.seq #[e.key,e.val] }).get? b=Z o:=λb o H q=>Ml _ (f.extBut b o H q)
 have h:RC (a.push { cls:=.type "tuple",data:=.seq #[e.key,e.val] }) it d (i+1) es.size ep ok ov:=Ml _ c;have z:(a.push { cls:=.type "tuple",data:=.seq #[e.key,e.val] }).get? G.objs.size=Z { cls:=.type "tuple",data:=.seq #[e.key,e.val] }:=by rw[<- j];show Ms _ U
 have B:(a.push { cls:=.type "tuple",data:=.seq #[e.key,e.val] }).objs.size=G.objs.size+1:=by rw[NQ,j]
 rw[j];generalize a.push { cls:=.type "tuple",data:=.seq #[e.key,e.val] }=y at T h z B ⊢;change MI _ _ (Q0 ↥it>>=_) _ _ ⟨y,g,S,M,os⟩;clear c f r j a;refine HD ?_;unfold Q0;refine HD (NS h rfl rfl (Mm ?_));simp only[Qb];refine HD (NS h rfl rfl (HD (NS h rfl rfl (HD (N3 h zyA λC u k=>?_)))));replace k:NF it y C:=k;replace u:RC C it d (i+1) es.size ep e.key ov:=u;refine HD (N3 u zyA λF t l=>?_);replace l:NF it C F:=l;replace t:RC F it d (i+1) es.size ep e.key e.val:=t;refine HD (N3 t zyA λD v n=>?_);replace n:NF it F D:=n;replace v:V2 D it d (i+1) es.size ep e.key e.val G.objs.size:=v;refine HD (N3 v zyA λp x m=>?_);replace m:NF it D p:=m;replace x:V2 p it d (i+1) es.size ep e.key e.val G.objs.size:=x;have all:∀ b o,b≠it->y.get? b=Z o->p.get? b=Z o:=λb o H q=>m.extBut b o H (n.extBut b o H (l.extBut b o H (k.extBut b o H q)))
 refine HD (Qc (Mm (Mm ⟨_,U,Mm (hQ p x (all _ _ (Oi (Mr I)) z) ?_ λb o H q=>all b o H (T b o H q))⟩)));change p.objs.size=G.objs.size+1;rw[m.1,n.1,l.1,k.1,B]
end
end PySem
namespace TR
open PySem PySem.Spec PyProof.Rows L2
variable {X:Cx}
section
variable {pins:Lb}{σ:L2.St}{H:Hp}{s:Mt}{d:MF}{u u':HO}
def uW (I:Ag X pins σ H s)(e:H d=Z u)(i:∀ xs,u≠.tup xs)(v:∀ x,u≠.own x)(g:∀ h,u≠.tbl h)(r:∀ o w,X.H₀ d≠Z (.frz o w))(new:At X.prog X.w (upd H d u') s.heap d u'):Ag X pins σ (upd H d u') s:=by
 have ne:∀ b,H b=none->b≠d:=λb z q=>by rw[q,e] at z;cases z
 have f:∀ b,H b=none->upd H d u' b=none:=λb z=>by rw[ar (ne b z)];show z
 refine⟨I.ok,I.os,I.bare,⟨I.base.keep,I.base.slot,λb o q n j=>f b (I.base.free b o q n j),I.base.there,λb xs q=>?_,λb o w q=>?_,λb h q=>?_⟩,I.loc,I.cell,f _ I.free,λx c q=>f _ (I.freeC x c q),λp t=>?_,λb o q=>?_,I.len⟩
 .have z:=I.base.tups b xs q;rw[ar (λk=>i xs (by rw[k,e] at z;show Mn z))];show z
 .have z:=I.base.frzs b o w q;rw[ar (λk=>r o w (by rw[<- k];show q))];show z
 .obtain⟨a,z⟩:=I.base.tbls b h q;show⟨a,by rw[ar (λk=>g _ (by rw[k,e] at z;show Mn z))];show z⟩
 .obtain⟨m,l,a⟩:=I.pin p t;show⟨m,f _ l,a⟩
 .by_cases a:b=d
  .subst a;rw[ae] at q;cases q;show new
  .rw[ar a] at q;refine(I.hok b o q).stay (λ_ _ _ z=>z) (λc z=>?_) λc xs z=>?_
   .rw[ar (λk=>v b (by rw[k,e] at z;show Mn z))];show z
   .rw[ar (λk=>i xs (by rw[k,e] at z;show Mn z))];show z
def wR (I:Ag X pins σ H s)(e:H d=Z (.dT kvs)):∃ o,s>>d=Z o/\Ag X pins σ (upd H d (.frz o (.dT kvs))) s:=by
 have ok:=I.hok d _ e;obtain⟨_,_,_,_,o,g,f,a,_⟩:=id ok;refine⟨o,a,uW I e (λ_ z=>nomatch z) (λ_ z=>nomatch z) (λ_ z=>nomatch z) (λb w z=>?_) ⟨a,?_⟩⟩
 .have:=I.base.frzs d b w z;rw[e] at this;cases this
 .show(show At X.prog X.w H s.heap d (.dT kvs) from ok).stay (λ_ _ _ z=>z) (λc z=>by
   by_cases k:c=d
   .rw[k,e] at z;cases z
   .rw[ar k];show z) λc h z=>by
   by_cases k:c=d
   .rw[k,e] at z;cases z
   .rw[ar k];show z
def abr (I:Ag X pins σ H s)(e:H d=Z (.frz o (.dT kvs)))(a:∀ o w,X.H₀ d≠Z (.frz o w)):Ag X pins σ (upd H d (.dT kvs)) s:=by
 have ok:=I.hok d _ e;obtain⟨_,ok⟩:=(show s>>d=Z o/\At X.prog X.w H s.heap d (.dT kvs) from ok)
 refine uW I e (λ_ z=>nomatch z) (λ_ z=>nomatch z) (λ_ z=>nomatch z) a (ok.stay (λ_ _ _ z=>z) (λc z=>?_) λc b z=>?_)
 .by_cases k:c=d
  .rw[k,e] at z;cases z
  .rw[ar k];show z
 .by_cases k:c=d
  .rw[k,e] at z;cases z
  .rw[ar k];show z
end
def J_ (t:TE):TE:=λc H Q=>t c H λv b=>∃ d o a,H d=Z (.dT a)/\b d=Z (.frz o (.dT a))/\Q v (upd b d (.dT a))
def adG (h:PE X e t):PE X e (J_ t):=by
 refine⟨λa s b H Q I q=>bo (h a s b H _ I q) λu n k=>?_⟩;obtain⟨v,m,i,f,d,o,j,l,g,c⟩:=k;show⟨v,_,abr i g λo w z=>(by
  have:=I.base.frzs d o w z;rw[l] at this;cases this),f,c⟩
def LN (d:MF)(o:Obj)(kvs:X2):It:=
 ⟨λi H=>H d=Z (.frz o (.dT kvs))/\i<⇑kvs,
  λi H v b=>∃ (k:List Bk) (x:V) (a T:MF),kvs[i]?=Z (k,x)/\H a=Z (.tup (k.map kV))/\H T=none/\v=↥T/\b=upd H T (.tup [↥a,x]),
  λi H=>H d=Z (.frz o (.dT kvs))/\⇑kvs<=i⟩
theorem lU:∀ {c:List α}{d:List β}{i:Nat}{a:α},Tc F c d->c[i]?=Z a->∃ b,d[i]?=Z b/\F a b
 |_,_,_,_,.nil,e=>by simp at e
 |_,_,0,_,.cons r _,e=>by simp at e;subst e;show⟨_,U,r⟩
 |_,_,i+1,x,.cons _ t,e=>by
  obtain⟨u,f,g⟩:=lU t (by simpa using e);show⟨u,by simpa using f,g⟩
def yq (c:o.data=.dict es ep) (ok:At P w H h d (.frz o (.dT kvs))) :
  h.RawD d es ep/\es.size=⇑kvs/\∀ (i:Nat) (k:List Bk) (x:V),kvs[i]?=Z (k,x)->∃ (e:OS) (ka:MF) (u:Mo),es[i]?=Z e/\e.key=↥ka/\e.val=u/\H ka=Z (.tup (k.map kV))/\Ao x u:=by
 obtain⟨g,_,_,A,a,v,t,q,b,s,f,j,_⟩:=ok;rw[g] at b;cases b;rw[c] at f;cases f;refine⟨⟨_,g,s,c⟩,?_,λi k x p=>?_⟩
 .have z:=Rp Uc j;rw[Mq,ND] at z;rw[z];show a.length.symm
 .obtain⟨⟨m,ka,u⟩,r,y,l,n⟩:=lU a p;refine⟨Vn (QS (Aw P w)) (m,ka,u),ka,u,?_,U,U,l,n⟩;rw[<- O0,j,Mw,r];rfl
def vE {K:KE}{tk:Nat}{G:Nat} (L:o.data=.dict es G) :
  GX P w K (.Tuple elts tk pos) (LN d o kvs) [it] it (λi h=>∃ ok ov,RC h it d i es.size G ok ov) where
 mem:=zyA
 obj:=λi h st b g=>by
  obtain⟨ok,ov,e⟩:=st;cases Mu.mp g;show⟨_,e,λv z=>nomatch z⟩
 keep:=λi h C st k=>by
  obtain⟨ok,ov,e⟩:=st;show⟨ok,ov,k it zyA _ e⟩
 item:=by
  intro X q hw B M i f s n H E I t st x;subst q hw B;obtain⟨ok,ov,c⟩:=st;obtain⟨y,A⟩:=x;obtain⟨j,p,at_⟩:=yq L (I.hok d _ y);obtain⟨e,D,u,e1,T,e3,e4,Q⟩:=at_ i _ _ (MC A);refine aaZ c j e1 λC l S hz kk=>⟨_,U,wpAny_letOwnedTupleGo_items l λm R J=>?_⟩
  have N:s⁻¹≠it:=Oi (Mr c);have k2:∀ b o,b≠it->s>>b=Z o->m.get? b=Z o:=λb o g e=>J.extBut b o g (kk b o g e)
  have a:=t it zyA;have I1:Ag X f n H { s with heap:=m }:=I.turned k2 a.1 a.2.1 a.2.2.2.1 a.2.2.2.2.1 a.2.2.2.2.2;have r:m.get? s⁻¹=Z { cls:=.type "tuple",data:=.seq #[e.key,e.val] }:=J.extBut _ _ N S;have fT:H s⁻¹=none:=I.hok.fresh (Mz _);have F:=I.fpOk (Mz _) fT;have I2:Ag X f n (upd H s⁻¹ (.tup [↥D,kvs[i].2])) { s with heap:=m }:=iE I1 fT I.sz F.2.1 F.2.2.2.2.1 F.2.2.2.2.2
   ⟨(O:2<=MO),[e.key,e.val],.cons (by rw[T];rfl) (.cons (by rw[e3];show Q) .nil),⟨_,r,U,_,U⟩⟩
  show⟨↥s⁻¹,_,I2,U,⟨kvs[i].1,kvs[i].2,D,s⁻¹,MC A,e4,fT,U,U⟩,⟨_,_,R⟩,λb g=>by
   cases Mu.mp g;rw[ar (Om N)];show a.1⟩
 done:=by
  intro X q hw B M i f s n H E I t st x;subst q hw B;obtain⟨ok,ov,c⟩:=st;obtain⟨y,A⟩:=x;obtain⟨j,p,_⟩:=yq L (I.hok d _ y);have a:=t it zyA;show adn (I.ok.hd M) c j Y λC ex=>⟨U,I.turned (λb o g e=>ex b o g e) a.1 a.2.1 a.2.2.2.1 a.2.2.2.2.1 a.2.2.2.2.2⟩
 self:=λ_ _ _ _ _ st h=>by
  obtain⟨ok,ov,c⟩:=st;show PySem.W.kcp_self c h
def JN (e:TE):TI:=λc H R=>e c H λx b=>∃ d a,x=↥d/\b d=Z (.dT a)/\∀ o,R (LN d o a) (upd b d (.frz o (.dT a)))
def acI {tk:Nat} (ho:PE X o to)
  (j:Uq o "items" X.env (QA o X.env)=QA o X.env<|>C')(c:(apos.endLine==cpos.line)=true<|>C'):PI X (.Tuple elts tk tpos) (.Call (.Attribute o "items" apos) [] [] cpos) (JN to):=by
 refine ⟨λk s G H R I h=>wpAny_Call_method0_late j c (bo (ho k s G H _ I h) λv f t=>?_)⟩;obtain⟨x,H1,n,A,M⟩:=t;obtain⟨d,p,rfl,r,q⟩:=M;obtain⟨E,h2⟩:=ace n A (.inr (.inr (.inl ⟨U,.inr ⟨p,r⟩⟩)));cases A;refine⟨"dict","dict.items",PySem.F.plainAttrs_dict,Ui,PySem.F.type_dict_items,E,h2,UF rfl (PySem.evalArgs_none ?_)⟩;obtain⟨z,hd,vs,rel,dd⟩:=rh n.hok (.inl r);obtain⟨C,B,i,hes⟩:=Heap.RawD.of dd;refine call_meetsIn Ui E PySem.F.entry_dict_items (PySem.F.args_dict_items_1 _) (zy d hd) ⟨⟨C,B,i⟩,?_⟩;obtain⟨J,g1,I2⟩:=wR n r;obtain⟨y,l,_,T⟩:=id i;rw[g1] at l;cases l;have k1:∀ b u,f>>b=Z u->(f.heap.push { cls:=.type "dict_items",data:=.fields #[↥d] }).get? b=Z u:=λb u e=>Ml _ e
 have m:=I2.kept (t':=f.toks) k1;have a:(f.heap.push { cls:=.type "dict_items",data:=.fields #[↥d] }).RawD d C B:=by
  obtain⟨y,Q,N,L⟩:=i;show⟨y,k1 _ _ Q,N,L⟩
 have D:(f.heap.push { cls:=.type "dict_items",data:=.fields #[↥d] }).IsItemsView f⁻¹ d:=⟨_,Ms _ U,U,U⟩
 refine aaR D a ?_;generalize f.heap.push { cls:=.type "dict_items",data:=.fields #[↥d] }=g at m a D ⊢;refine⟨g.objs.size,[g.objs.size],_,_,_,U,m.kept λb u e=>Ml _ e,vE T,⟨_,_,Ms _ U⟩,λb S=>?_,q J⟩;cases Mu.mp S;show m.fpOk (Mz _) (m.hok.fresh (Mz _))
end TR
namespace TR
open PySem PySem.Spec PyProof.Rows
def FA (n:Nat):List Int:=(NG n).map λ(i:Nat)=>(i:Int)
def wF (h:i<n):(FA n)[i]?=Z (i:Int):=by unfold FA;simp[h]
def g_ (n:Nat):⇑(FA n)=n:=by unfold FA;simp
def abY (b:⇑vs=n)(h:∀ (i:Nat) (v:Mo),vs[i]?=Z v->∃ t,v=PZ (i:Int) t):OA vs (FA n):=by
 have f:∀ (vs:List Mo) (k:Nat),(∀ (i:Nat) (v:Mo),vs[i]?=Z v->∃ t,v=PZ ((k+i:Nat):Int) t)->OA vs ((List.range' k ⇑vs).map λ(i:Nat)=>(i:Int)):=by
  intro vs
  induction vs with
  |nil=>intro k _;show .nil
  |cons v vs c=>
   intro k h;obtain⟨t,e⟩:=h 0 v rfl;subst e;rw[Np,List.range'_succ,MR];refine .cons _ t (c (k+1) λi v a=>?_);obtain⟨d,e⟩:=h (i+1) v (by simpa using a);show⟨d,by rw[e];congr 1;lia⟩
 have:=f vs 0 λi v a=>by simpa using h i v a
 rw[<- List.range_eq_range',b] at this;show this
section
variable {prog:MY}{w:Nr}{A:Nw}{E:My}{s:Mt}
def uV {n:Nat} (hh:A.handled=none) (q:IsRange s.heap r 0 n 1 t u v) (y:n <= 1000)
  (h:∀ vs h' f,OA vs (FA n)->(∀ b o,s>>b=Z o->h'.get? b=Z o)->s⁻¹<h'.objs.size->Q vs { s with heap:=h',toks:=f }):
  MI (MW prog w) A (collect ↥r) Q E s:=by
 have k:∀ R:Result->Mt->Prop,(∀ h' f a g,(∀ b o,b ≠ s⁻¹->(s.heap.push (N9 "list" #[] 0)).get? b=Z o->h'.get? b=Z o)->h'.get? s⁻¹=Z { cls:=.type "list",dict:=none,data:=.seq a g,slots:=#[] } ->
   ItemsOf (λi v=>∃ t,v=.int (0+i*1) t) a n->R (.ok (.ret ↥s⁻¹)) { s with heap:=h',toks:=f }) ->
   P0 (MW prog w) A (.builtin "list.__iadd__" ⟨[↥s⁻¹,↥r],[]⟩) R { s with heap:=s.heap.push (N9 "list" #[] 0) }:=λR l=>by
  refine N0 entry_list_iadd' ?_;rw[NP TK _];change MI _ _ (Qp ↥s⁻¹ ↥r ↥s⁻¹) _ _ { s with heap:=s.heap.push (N9 "list" #[] 0) };refine wpAny_extend_range hh (Ml _ q) (small_one Y Y Y Y) ?_ Y s⁻¹ _ 0 (Ms _ U) λh' f a g j d c=>l h' f a g j d c
  rw[Wl]
  split<;>lia
 unfold collect;refine HD (VG (N0 entry_proto_collect' ?_));change MI _ _ (do again (.builtin "list.__iadd__" ⟨[<- newList [],↥r],[]⟩)) _ _ s;refine HD (Sx (Mm ⟨S6 _ zyB,k _ fun h' f a g j d c=>?_⟩));change MI (MW prog w) A (do
   let o <- load s⁻¹
   match o.data with
   |.seq x _=>pure x.toList
   |_=>unsupported "internal:collect") Q E { s with heap:=h',toks:=f }
 refine HD (wpAny_load d (Mm (h _ _ _ (abY (by rw[ND];show c.1) λi v p=>?_) (λb o e=>j b o (MH (Mr e)) (Ml _ e)) (Mr d))));obtain⟨m,e⟩:=c.2 i v (by rw[<- O0];show p);show⟨m,by rw[e];congr 1;lia⟩
def wc {n:Nat}
  (hh:A.handled=none)(F:Fr h₀ L s.heap m)(N:News h₀ L s.heap news)(hr:IsRange s.heap r 0 n 1 t u v)(hl:n<64)(S:⇑kz=n)
  (G:Vf "sorted" ⟨[↥r],kw⟩)(R:∀ x,Vf "list.sort" ⟨[↥x],kw⟩)(ht:∀ x,OJ.«list.sort» ⟨[↥x],kw⟩=ksk_tree x f b)
  (B5:∀ (i:Nat) (k:Int) (t:Tok),i<n->kz[i]?=Z k->∀ (h:Oz) (a:Nat) (d:Lb),Fr h₀ L h m->News h₀ L h (news++d) ->
   MI (MW prog w) A.in1.in1 (call f [.int i t]) (KskEnd h₀ L m (news++d) k { s with heap:=h,toks:=a }) (λ_ _=>False) { s with heap:=h,toks:=a })
  (h:∀ D h' a out c vs,OA vs (FA n)->Fr h₀ L h' m->News h₀ L h' ((D,N9 "list" out c)::news)->s⁻¹<=D->KskOut b kz vs out.toList->Q ↥D { s with heap:=h',toks:=a }):
  MI (MW prog w) A (call (.builtin "sorted") [↥r] kw) Q E s:=by
 refine UM kind_sorted plain_sorted entry_sorted G ?_;unfold OJ.«sorted»;refine HD (Mm (HD (uV (show A.in1.handled=none from hh) hr Y λvs g a M T I=>?_)));have B:⇑vs=n:=by rw[⇑M,g_]
 refine HD (Sx ?_ (by rw[NN];lia));have hL:L<s⁻¹:=F.ns.lt;have j:s⁻¹<=g.objs.size:=N4 I;have z:(g.push (N9 "list" vs.toArray 0)).get? g.objs.size=Z (N9 "list" vs.toArray 0):=Ms _ U;have keep:∀ b o,s>>b=Z o->(g.push (N9 "list" vs.toArray 0)).get? b=Z o:=λb o q=>Ml _ (T b o q)
 have y:L<g.objs.size:=(F.kept T).ns.lt;change MI _ _ _ _ _ { s with heap:=g.push (N9 "list" vs.toArray 0),toks:=a };refine HD (Nv (wpAny_call_entry_kw VF ⟨_,z,U⟩ Vh ?body (R _)))
 case body=>
  show MI (MW prog w) A.in1.in1 (OJ.«list.sort» ⟨[↥g.objs.size],kw⟩) _ _ _;rw[ht g.objs.size];refine ksk_sort (kz:=kz)
   (F.kept keep) (N.grown keep) z (Oi y) (Sk (M1 F.above (N4 y)))
   (λp hp=>MH (MK (Mr (N p hp).1) j)) Y Y (λi v k J hk h a d H C=>?_) λh' a out c H C X=>⟨_,U,?_⟩
  .have l:i<n:=by rw[<- B];show(Mp.mp J).1
   obtain⟨t',e⟩:=M.get i _ (wF l);rw[e] at J;cases J;show B5 i k t' l hk h a d H C
  .show Mm ⟨_,U,h _ h' a out c vs M H C j X⟩
abbrev HW (c e g:Str)(a:VX)(f l j:Pos)(b:Qw)(h:X')(k i d:Mo):OQ:=
 QR "<lambda>" c a (.Subscript (.Name e f) (.Name g l) j) b h k i d
def aa7 {i:Nat}{k:Int}
  (j:s.heap.NoLimit)(d:A.depth<recursionLimit)(T:s>>f=Z { cls:=.type "function",data:=.func (HW qual far kn params pf pk pp scope cl pm ↥c' ctv) })(C:s.heap.CodeRec ↥c' qual)
  (g:∀ u,QJ (HW qual far kn params pf pk pp scope cl pm ↥c' ctv) ⟨[u],[]⟩=pure [(kn,u)])
  (J:scope.isCoroutine=false)(m:scope.isGenerator=false)(G:scope.kind=.function)(D:∀ x∈scope.names,x.2≠.cell)(r:scope.names.lookup kn=Z .local)(L:scope.names.lookup far=Z .free)
  (z:(far==("__debug__":Str))=false)(H:(kn==("__debug__":Str))=false)(B:(far==("__classdict__":Str))=false)
  (I:cl.lookup far=Z cf)(c:s.heap.IsCell cf (Z ↥l))(X:s.heap.IsList l vs.toArray)(S:OA vs ns)(y:ns[i]?=Z k)(N:⇑ns<=1000)
  (h:∀ h' R t',(∀ b o,s>>b=Z o->h'.get? b=Z o)->Q (.int k t') { s with heap:=h',toks:=R }):
  MI (MW prog w) A (call ↥f [.int i t]) Q E s:=by
 refine P1 (Vz d T rfl J m rfl C ?_);rw[g];refine Mm (Sq D (λx y=>?_) (λn F p=>⟨j.fresh _ p,VA ?_⟩) G)
 .cases Mu.mp y;show r
 have a:∀ b o,s>>b=Z o->n.get? b=Z o:=λb o e=>p.extBut b o (MH (Mr e)) (Ml _ e)
 have M:i<⇑ns:=(Mp.mp y).1;refine WH (Rc (SY G ?_ I (c.keeps a) ?_ B) z)
 .show L
 refine Rc (O_ G ?_ F (v:=.int i t) ?_ ?_) H
 .show r
 .simp
 refine item_list_intsR (let ⟨o,e,q⟩:=X;⟨o,a _ _ e,q⟩) S Y Y Y (λt'=>?_) U;have e:ns.getD (i:Int).toNat 0=k:=by
  rw[Ng,QK,y];rfl
 rw[e];show h _ _ _ a
end
open L2
theorem iM:∀ {vs:List Mo}{ns:List Int},OA vs ns->Ah (ns.map V.int) vs
 |_,_,.nil=>.nil
 |_,_,.cons n t h=>.cons ⟨t,U⟩ (iM h)
variable {X:Cx}
def Ls (c:TA):TE:=λb H Q=>c b H λvs a=>∃ n:Nat,vs=[↑n]/\n<=1000/\∀ p,a p=none->Q ↥p (upd a p (.rng 0 n))
def aaM (v:Gl X "range")(l:X.mg "range"=none)(i:PA X [a] ta)(u:M0 [a] X.env=[(false,QA a X.env)]<|>C'):PE X (.Call (.Name "range" p) [a] [] pos) (Ls ta):=by
 refine ⟨λc s g H Q I h=>Call_ (gH I v l boot_range (OM (bo (i pos c s g H _ I h) λA x d=>?_) u rfl))⟩;obtain⟨vs,z,f,k,j⟩:=d;obtain⟨n,rfl,y,q⟩:=j;cases k with
 |cons r m=>
  cases m;obtain⟨t,rfl⟩:=r;show call_range_1 ⟨↥x⁻¹,_,f.laid (o:=.rng 0 n) (λb o e=>Ml _ e) (Mz _) ⟨_,_,_,Ms _ U⟩,U,q _ (f.hok.fresh (Mz _))⟩
def H_:List V->Hp->VK->Prop:=λa H Q=>∃ (p:MF) (n:Nat),a=[↥p]/\H p=Z (.rng 0 n)/\n<=1000/\∀ l,H l=none->Q ↥l (upd H l (.lst ((FA n).map V.int)))
def tN (x:X.calm=true):AI X (.type "list") H_:=by
 intro d s z H D C Q I r h;obtain⟨p,n,rfl,m,g,q⟩:=h;obtain⟨u,rfl,y⟩:=fV r;cases y;obtain⟨t,u,v,e⟩:=(show At X.prog X.w H s.heap p (.rng 0 n) from I.hok _ _ m)
 refine call_list_range (n:=n) (I.ok.hd x) e (small_one Y Y Y Y) (by rw[Wl];split<;>lia) Y λA B a c l j f=>?_
 have b:OA a.toList (FA n):=abY (by rw[ND];show f.1) λi v b=>by
  obtain⟨k,e⟩:=f.2 i v (by rw[<- O0];show b);show⟨k,by rw[e];congr 1;lia⟩
 refine⟨↥s⁻¹,_,I.laid (o:=.lst ((FA n).map V.int)) l (Mz _) ⟨?_,a.toList,c,iM b,by rw[Sj];show j⟩,U,q _ (I.hok.fresh (Mz _))⟩;rw[Mq,g_];show eM g
theorem kc {l c:Int}:∀ (d:List Mo),We d->R9 pos (d++[.int l t,.int c u,cd])=((R9 pos d).or (if(l==pos.line&&c==pos.col)=true then Z cd else none))
 |[],_=>by
  change(if(l==pos.line&&c==pos.col)=true then Z cd else R9 pos [])=_;rfl
 |.int a t::.int b u::e::r,h=>by
  change(if(a==pos.line&&b==pos.col)=true then Z e else R9 pos (r++[.int l _,.int c _,cd]))=Option.or (if(a==pos.line&&b==pos.col)=true then Z e else R9 pos r) _
  by_cases q:(a==pos.line&&b==pos.col)=true
  .rw[M' q,M' q];rfl
  .rw[MZ q,MZ q];show kc r h
theorem mC {l c:Int}:∀ (d:List Mo),We d->We (d++[.int l t,.int c u,cd])
 |[],_=>trivial
 |.int a t::.int b u::e::r,h=>mC r h
abbrev Hi (q:Str):HO:=.tbl #[.str q 0]
section
variable {pins:Lb}{σ:L2.St}{H:Hp}{s:Mt}
def uL (I:Ag X pins σ H s) (k:X.env.code=↥c) (M:∀ h,X.K.In h->RW h c P) (R:H P=Z (Hi (X.env.qual ++ "<lambda>")))
  (j:∀ y∈scope.names,y.2=.free->∃ c,X.env.cells.lookup y.1=Z c)(L:defaultsOf params X.env=([],[]))
  (h:∀ fa c' pm a H2 s2,Ag X pins σ H2 s2->Aa H H2->s2>>fa=Z { cls:=.type "function",data:=.func (QR "<lambda>" (X.env.qual++"<lambda>") params body scope (Fg X.env.cells scope.names []) pm ↥c' a) } ->
   s2.heap.CodeRec ↥c' (X.env.qual++"<lambda>")->Q ↥fa s2) :
  MI (MW X.prog X.w) X.A (QA (.Lambda params body scope lp) X.env) Q E s:=by
 have okP:∃ m:Array Mo,s>>P=Z (Xk m)/\We m.toList/\∀ i cv,R9 i m.toList=Z cv->∃ c' o vs t',cv=↥c'/\H c'=Z (.own P)/\s>>c'=Z o/\o.data=.fields vs/\vs[1]?=Z (.str (X.env.qual++"<lambda>") t'):=by
  obtain⟨m,e,G,q,t,e0,f⟩:=(show At X.prog X.w H s.heap P (Hi (X.env.qual++"<lambda>")) from I.hok _ _ R)
  cases e0;show⟨m,e,G,f⟩
 obtain⟨m,eP,G,fP⟩:=okP;obtain⟨bm,ob,b1,b2,b3,b4,b5,b6⟩:=I.mod.bm;have p:s.heap.Ns ME X.mg:=I.mod.glob.keeps I.bk;have hgP:ME≠P:=λq=>by
  obtain⟨o,es,ep,e,C,_⟩:=p;rw[q,eP] at e;cases e;cases C
 have hbP:bm≠P:=λq=>by
  have e:=I.bk _ _ b3;rw[q,eP] at e;cases e;cases b4
 have hbG:bm≠ME:=λq=>by
  obtain⟨o,es,ep,e,C,_⟩:=p;have e':=I.bk _ _ b3;rw[q,e] at e';cases e';rw[C] at b6;cases b6
 have B:s.heap.BuiltinsAt X.mg P:=⟨bm,ob,b1,b2,hbG,hbP,I.bk _ _ b3,b4,b5,b6⟩
 refine PySem.W.kla_eval L ?_;cases hcm:R9 lp m.toList with
 |some cv=>
  obtain⟨c',o,vs,t',rfl,w2,w3,w4,w5⟩:=fP lp cv hcm;refine PySem.W.kla_makeFunctionHit (lW j) I.ok.glob p k (M _ I.kIn) eP G hcm B λa l tk F D=>?_
  have x:∀ b u,s>>b=Z u->(l.push { cls:=.type "function",data:=.func (QR "<lambda>" (X.env.qual++"<lambda>") params body scope (Fg X.env.cells scope.names []) ((X.mg "__name__").getD .none) ↥c' a) }).get? b=Z u:=λb u e=>Ml _ (F b u e)
  show h l.objs.size c' _ a H _ (I.kept x) (Aa.refl _) (Ms _ U) ⟨c',o,vs,t',U,x _ _ w3,w4,w5⟩
 |none=>
  refine PySem.W.kla_makeFunction (lW j) I.ok.glob p k (M _ I.kIn) eP G hcm hgP B λc' a l tk hx J hlt N htb=>?_
  obtain⟨c2,oc,vs,t,ec,g1,g2,g3⟩:=N;cases ec;have F:∀ b u,b≠P->s>>b=Z u->(l.push (Qu "<lambda>" (X.env.qual++"<lambda>") params body scope (Fg X.env.cells scope.names []) ((X.mg "__name__").getD .none) c' a)).get? b=Z u:=λb u nb e=>Ml _ (hx b u nb e)
  have gc:(l.push (Qu "<lambda>" (X.env.qual++"<lambda>") params body scope (Fg X.env.cells scope.names []) ((X.mg "__name__").getD .none) c' a)).get? c'=Z oc:=Ml _ g1;have gP:(l.push (Qu "<lambda>" (X.env.qual++"<lambda>") params body scope (Fg X.env.cells scope.names []) ((X.mg "__name__").getD .none) c' a)).get? P=Z (Xk (m++#[ON lp.line,ON lp.col,↥c'])):=Ml _ htb;have gF:(l.push (Qu "<lambda>" (X.env.qual++"<lambda>") params body scope (Fg X.env.cells scope.names []) ((X.mg "__name__").getD .none) c' a)).get? l.objs.size=Z (Qu "<lambda>" (X.env.qual++"<lambda>") params body scope (Fg X.env.cells scope.names []) ((X.mg "__name__").getD .none) c' a):=Ms _ U;generalize l.push (Qu "<lambda>" (X.env.qual++"<lambda>") params body scope (Fg X.env.cells scope.names []) ((X.mg "__name__").getD .none) c' a)=g at F gc gP gF ⊢;have D:Aa H (upd H c' (.own P)):=λb o e=>by rw[ar (aI e (I.hok.fresh J))];show e
  have ne:∀ b,H b=none->b≠P:=λb n z=>by rw[z,R] at n;cases n
  have lc:∀ b u,s>>b=Z u->b≠c':=λb u e=>MH (MK (Mr e) J)
  refine h l.objs.size c' _ a (upd H c' (.own P)) _ (I.un ⟨λb u q n _ _=>F b u (ne b n) q,λb u q n _ _=>⟨u.slots,F b u (ne b n) q⟩,λb u q n _=>by rw[ar (lc b u q)];show n,λb u q _=>?_,λb xs q=>D _ _ q,λb u w q=>D _ _ q,λb qs q=>⟨#[],by rw[D _ _ q];simp⟩⟩ λb u q=>?_) D gF ⟨c',oc,vs,t,U,gc,g2,g3⟩
  .by_cases S:b=P
   .show⟨_,by rw[S];show gP⟩
   .show⟨u,F b u S q⟩
  .by_cases S:b=c'
   .subst S;rw[ae] at q;cases q;show⟨oc,gc⟩
   .rw[ar S] at q
    by_cases x:b=P
    .subst x;rw[R] at q;cases q;refine⟨_,gP,?_,_,_,U,λi cv z=>?_⟩
     .rw[VH];show mC _ G
     .rw[VH] at z;have z':=(kc m.toList G).symm.trans z;cases zz:R9 i m.toList with
      |some cv'=>
       rw[zz] at z';have T:cv'=cv:=Mn z';subst T;obtain⟨c2,o2,vs2,t2,w1,w2,w3,w4,w5⟩:=fP i cv' zz;show⟨c2,o2,vs2,t2,w1,D _ _ w2,F c2 o2 (λz=>by rw[z,R] at w2;cases w2) w3,w4,w5⟩
      |none=>
       rw[zz] at z';have T:(if((lp.line:Int)==i.line&&(lp.col:Int)==i.col)=true then Z (MT c') else none)=Z cv:=z'
       split at T
       .cases T;show⟨c',oc,vs,t,U,ae,gc,g2,g3⟩
       .cases T
    .refine(I.hok b u q).stay (λd v C r=>F d v ?_ r) (λd r=>D _ _ r) λd xs r=>D _ _ r
     rcases C with rfl|C
     .show x
     .show λz=>by rw[z,R] at C;cases C
end
theorem iJ [BEq α][LawfulBEq α]:∀ {l:List (α×β)},l.lookup x=Z y->(x,y)∈l
 |[],h=>nomatch h
 |(a,b)::r,h=>by
  rw[NT] at h;cases q:x==a with
  |true=>
   rw[q] at h;cases h;rw[eq_of_beq q];show MS
  |false=>
   rw[q] at h;show Mx _ (iJ h)
def Gm (a:Qw)(b c:Str):Bool:=a.kind==.function&&!a.isCoroutine&&!a.isGenerator&&a.names.all (λy=>!(y.2==.cell))&&a.names.lookup c==Z .local&&a.names.lookup b==Z .free
def Ir (K:KE)(i:Nat)(P:MF)(q:Str)(g:TE):TE:=λf H Q=>g f H λx d=>∃ (r:MF) (n:Nat) (l:MF) (ns:List Int),x=↥r/\d r=Z (.rng 0 n)/\n<64/\f[i]?=Z (Z ↥l)/\An K d l (ns.map V.int)/\⇑ns=n/\d P=Z (Hi q) /\
 ∀ (e:Hp) (D:MF) (c:List Int),Aa d e->e D=none->c.Perm (FA n)->c.Pairwise (λa b=>ns.getD b.toNat 0<=ns.getD a.toNat 0)->Q ↥D (upd e D (.lst (c.map V.int)))
section
variable {K:KE}
def wQ (hK:X.K=K) (hc:X.calm=true) (hr:Room k X.A) (hg:Gl X "sorted") (hm:X.mg "sorted"=none)
  (hcode:X.env.code=↥c)(hcd:∀ h,K.In h->RW h c P)(hN:X.N[i]?=Z far)(hv:X.env.kindOf far=Z .cell)(he:PE X er tr)
  (S:M0 [er] X.env=[(false,QA er X.env)]<|>C')
  (hsc:Gm scope far kn=true<|>F')(hfr:(scope.names.all λy=>!(y.2==.free)||(X.env.cells.lookup y.1).isSome)=true<|>C')(hdef:defaultsOf params X.env=([],[])<|>C')
  (hbind:(∀ qual cl pm cd ctv u,QJ (HW qual far kn params pf pk pp scope cl pm cd ctv) ⟨[u],[]⟩=pure [(kn,u)])<|>J9)
  (hd1:(far==("__debug__":Str))=false<|>Cb)(hd2:(kn==("__debug__":Str))=false<|>Cb)(hd3:(far==("__classdict__":Str))=false<|>Cb):
  PE X (.Call (.Name "sorted" p) [er] [⟨Z "key",.Lambda params (.Subscript (.Name far pf) (.Name kn pk) pp) scope lp,kp1⟩,⟨Z "reverse",.Constant (.bool true) cj cp,kp2⟩] pos) (Ir K i P (X.env.qual++"<lambda>") tr):=by
 subst hK;unfold Gm at hsc;simp only[MX,NE,NZ] at hsc;obtain⟨⟨⟨⟨⟨k1,k2⟩,k3⟩,k4⟩,k5⟩,k6⟩:=hsc;have B:∀ y∈scope.names,y.2=.free->∃ c,X.env.cells.lookup y.1=Z c:=λy hy e=>by
  rw[NE] at hfr;have:=hfr y hy;rw[e] at this;show OE.mp (by simpa using this)
 refine⟨λM s σ H Q I h=>NX (gH I hg hm jD ?_)⟩;refine callWith_kw (he:=by rw[S];rfl) (hplain:=by rw[S];rfl) (bo ((ai he aH S) pos M s σ H (λvs H1=>match vs with
  |[x]=>∃ (r:MF) (n:Nat) (l:MF) (ns:List Int),x=↥r/\H1 r=Z (.rng 0 n)/\n<64/\σ[i]?=Z (Z ↥l)/\An X.K H1 l (ns.map V.int)/\⇑ns=n/\H1 P=Z (Hi (X.env.qual++"<lambda>")) /\
   ∀ (J:Hp) (D:MF) (f:List Int),Aa H1 J->J D=none->f.Perm (FA n)->f.Pairwise (λa b=>ns.getD b.toNat 0<=ns.getD a.toNat 0)->Q ↥D (upd J D (.lst (f.map V.int)))
  |_=>False) I h) λg f ⟨vs,H1,I1,r1,q1⟩=>?_)
 obtain⟨x,rfl⟩:∃ x,vs=[x]:=by
  rcases vs with _|⟨x,_|⟨y,ys⟩⟩
  .show q1.elim
  .show⟨x,U⟩
  .show q1.elim
 .obtain⟨r,n,l,ns,rfl,hr1,hn,hσ,hl,L,hP,q⟩:=q1;obtain⟨u,rfl,ru⟩:=fV r1;cases ru;refine kws_cons (uL I1 hcode hcd hP B hdef λfa c' pm ctv J s2 f sm ho hrec=>(kws_cons (Constant_bool (kws_nil ?_))));obtain⟨t,u,v,hrng⟩:=(show At X.prog X.w J s2.heap r (.rng 0 n) from f.hok _ _ (sm _ _ hr1))
  obtain⟨m,hnm,hloc⟩:=id f.loc;obtain⟨w,rw',lk⟩:=hloc i far ↥l hN hσ (.inr (.inl hv));cases rw';obtain⟨cf,ecf,T⟩:∃ cf,X.env.cells.lookup far=Z cf/\s2.heap.IsCell cf (Z ↥l):=by
   rcases lk with ⟨z,_⟩|⟨_,cf,e,z⟩
   .rw[hv] at z;cases z
   .show⟨cf,e,z⟩
  have hcl:(Fg X.env.cells scope.names []).lookup far=Z cf:=by
   obtain⟨c2,e2⟩:=gf (names:=scope.names) (acc:=[]) (.inr (iJ k6));rcases dR B e2 with z|⟨_,z⟩
   .cases z
   .rw[ecf] at z;cases z;show e2
  obtain⟨its,rv,pl,_⟩:=f.list (sm.seq hl);have hints:=oH rv;obtain⟨oL,esL,epL,eL,dL,_⟩:=id hnm;have all:∀ {h:Oz},Fr X.base X.env.locals h m->News X.base X.env.locals h (Dt X.base s2.heap X.env.locals)->∀ b o,b≠X.env.locals->s2>>b=Z o->h.get? b=Z o:=λ{h} F N' b o R e=>by
   cases z:X.base.get? b with
   |some o'=>
    have:=f.bk b o' z;rw[e] at this;cases this;show F.keep b o z
   |none=>show(N' (b,o) (vw R z e)).1
  have nL:∀ b o,s2>>b=Z o->(∀ es ep,o.data≠.dict es ep)->b≠X.env.locals:=λb o e hd z=>by
   rw[z,eL] at e;cases e;show hd _ _ dL
  have rm:=hr.dp;refine wc (f.ok.hd hc) (⟨hnm,f.bk,M1 f.ok.bsz f.ok.above⟩) aaD hrng hn L (ksk_s2 _ _ _) (λx=>ksk_l2 _ _ _) (λx=>ksk_t2 _ _ _) (λj k t hj hk h tk own F N'=>?_) λD h' tk out cc vs hi F N' hD ko=>?_
  .have G:=all F (λp hp=>N' p (Oh _ hp));obtain⟨oc,g,C⟩:=T;obtain⟨ol,nl,el,cl,dl,xl⟩:=id pl;obtain⟨c2,o2,E,t2,ec,g1,g2,g3⟩:=id hrec;cases ec;refine aa7 (f.ok.mod.nolimit.keeps F.keep) (by change X.A.depth<recursionLimit;lia) (G _ _ (nL _ _ ho λ_ _ z=>nomatch z) ho) ⟨_,o2,E,t2,U,G _ _ (nL _ _ g1 λ_ _ z=>by rw[g2] at z;cases z) g1,g2,g3⟩ (λu=>hbind _ _ _ _ _ u)
    (by simpa using k2) (by simpa using k3) k1 (λx hx z=>by have:=k4 x hx;rw[z] at this;cases this) k5 k6 hd1 hd2 hd3 hcl ⟨oc,G _ _ (nL _ _ g λ_ _ z=>by rw[C] at z;cases z) g,C⟩ ⟨ol,G _ _ (nL _ _ el λ_ _ z=>by rw[xl] at z;cases z) el,cl,nl,xl⟩ hints hk Y λh'' tk' t' kk=>?_
   show KskEnd.intro (F.kept kk) (N'.grown kk) λp hp=>hp
  .have G:=all F (λp hp=>N' p (Mx _ hp));have fD:J D=none:=f.hok.fresh hD;obtain⟨pz,pp1,po,pw⟩:=ko;have hvl:⇑vs=n:=by rw[⇑hi,g_]
   have E:∀ q∈pz,∃ (j:Nat) (t:Tok),j<n/\q.2=.int j t/\q.1=ns.getD j 0:=λq hq=>by
    obtain⟨j,hj⟩:=Sl (pp1.mem_iff.mp hq);rw[Nm] at hj;have jn:j<n:=by rw[<- L];show(Mp.mp hj.1).1
    obtain⟨t',e⟩:=hi.get j _ (wF jn);rw[e] at hj;refine⟨j,t',jn,(Mn hj.2).symm,?_⟩;rw[QK,hj.1];rfl
   have hout:OA out.toList (pz.map λq=>numOf q.2):=by
    rw[po];have go:∀ (l:List (Int×Mo)),(∀ q∈l,∃ (j:Nat) (t:Tok),j<n/\q.2=.int j t/\q.1=ns.getD j 0)->OA (l.map Prod.snd) (l.map λq=>numOf q.2):=by
     intro l
     induction l with
     |nil=>intro _;show .nil
     |cons q l ih=>
      intro hl;obtain⟨j,t,_,e,_⟩:=hl q MS;rw[MR,MR,e];show .cons _ _ (ih λq hq=>hl q (Mx _ hq))
    show go pz E
   have C:(pz.map λq=>numOf q.2).Perm (FA n):=by
    have h1:=(pp1.map Prod.snd).map numOf;rw[List.map_snd_zip Y,hi.nums,OD] at h1;show h1
   have hpw:(pz.map λq=>numOf q.2).Pairwise (λa b=>ns.getD b.toNat 0<=ns.getD a.toNat 0):=by
    rw[List.pairwise_map];refine pw.imp_of_mem λ{a b} ha hb hab=>?_
    obtain⟨ja,ta,_,ea,va⟩:=E a ha;obtain⟨jb,tb,_,eb,vb⟩:=E b hb;rw[ea,eb];change ns.getD (jb:Int).toNat 0<=ns.getD (ja:Int).toNat 0;rw[Ng,Ng,<- va,<- vb];show hab
   refine⟨↥D,_,?_,U,q J D _ sm fD C hpw⟩;have g:∀ b u,J b=Z u->b≠X.env.locals:=λb u e z=>by rw[z,f.free] at e;cases e
   have I3:Ag X M σ J { s2 with heap:=h',toks:=tk }:=by
    refine f.step (d':=s2.drawn) (ch:=[]) (λ_ z=>nomatch z) (λb o R _ _ e _=>G b o R e) (λb o R _ _ e _=>⟨o.slots,G b o R e⟩) (λ_ _ _ _ n=>n) (λb o _ e=>?_) (λ_ _ e=>e) (λ_ _ _ e=>e) (λb ps e=>⟨#[],by rw[e];simp⟩) (λm' hm'=>?_) (λb u e=>?_) f.bare
    .by_cases R:b=X.env.locals
     .obtain⟨o',_,_,e',_⟩:=F.ns;show⟨o',by rw[R];show e'⟩
     .show⟨o,G b o R e⟩
    .rw[hm'.eq_nsMap,<- hnm.eq_nsMap];show F.ns
    .refine(f.hok b u e).stay (λd v hd r=>G d v ?_ r) (λ_ r=>r) λ_ _ r=>r
     rcases hd with rfl|hd
     .show g _ _ e
     .show g _ _ hd
   have F3:=f.fpOk hD fD;show iE I3 fD (M1 f.sz hD) F3.2.1 F3.2.2.2.2.1 F3.2.2.2.2.2 ⟨by
    rw[Mq];have:=C.length_eq;rw[g_] at this;show eM Y,out.toList,cc,iM hout,by rw[Sj];show((N' _ MS).1)⟩
end
def II (Tb:MF->Option Str)(c:Bool)(a:MF)(o:Obj)(ns:List Int):Hp:=λb=>match Tb b with
 |some q=>Z (Hi q)
 |none=>if c=true/\b=a then Z (.frz o (.lst (ns.map V.int))) else none
def yO {K:KE}{k:Nat} (Tb:MF->Option Str)
  (KX:K.In s₁.heap)(I:s₁.heap.Ns ME mg)(X:s₁.heap.Ns RO mb)(Q:∀ x:Str,x≠"__name__"->mb x=Ny x)(G:s₁.heap.NoLimit)(hg:s₁.gens=#[])
  (S:∃ bm o,mg "__builtins__"=Z ↥bm/\bm≠RO/\s₁>>bm=Z o/\o.cls=.type "module"/\o.dict=Z RO/\o.data=.plain)
  (E:∀ b q,Tb b=Z q->s₁>>b=Z { cls:=.none,data:=.fields #[] }/\isCodeTable s₁.heap b/\K.lookup b=none)
  (A:s₁>>a=Z { cls:=.type "list",data:=.seq vs.toArray })(hi:OA vs ns)(hl:⇑ns<=MO)(hr:Room k callerA)
  (F:∀ base:Oz,K.In base->base.Ns ME mg->Bw P w K mg base CX k fa fd [x] sp)(t:∀ (s:Mt) (u:Mo),VI s fd ⟨[u],[]⟩ [(x,u)])
  (J:∀ H:Hp,(∀ b q,Tb b=Z q->H b=Z (Hi q))->An K H a (ns.map V.int)->sp [↥a] H (λv _=>v=.bl true) λ_ _ _=>False)
  (N:∀ H e g,CX [] H s₁ (λ_ _ _=>False) e g->False):
  P0 (MW P w) callerA (.call ↥fa ⟨[↥a],[]⟩) (λr g=>r=.ok (.ret (.bool true))/\OldK s₁.heap g.heap/\g.os=s₁.os/\UR g.gens) s₁:=by
 have rv:=ix hi;have nTa:Tb a=none:=by
  cases q:Tb a with
  |none=>rfl
  |some z=>
   have:=(E a z q).1;rw[A] at this;cases this
 obtain⟨f,l⟩:∃ f:Bool,f=(K.lookup a).isNone:=⟨_,U⟩
 letI H:Hp:=II Tb f a { cls:=.type "list",data:=.seq vs.toArray } ns
 have HT:∀ b q,Tb b=Z q->H b=Z (Hi q):=λb q e=>by
  change(match Tb b with|some q=>Z (Hi q)|none=>_)=_;rw[e]
 have c:∀ b u,H b=Z u->(∃ q,Tb b=Z q/\u=Hi q)\/(f=true/\b=a/\u=.frz { cls:=.type "list",data:=.seq vs.toArray } (.lst (ns.map V.int))):=λb u e=>by
  have y:(match Tb b with|some q=>Z (Hi q)|none=>if f=true/\b=a then Z (HO.frz { cls:=.type "list",data:=.seq vs.toArray } (.lst (ns.map V.int))) else none)=Z u:=e;cases q:Tb b with
  |some z=>
   rw[q] at y;show .inl ⟨z,U,(Mn y).symm⟩
  |none=>
   rw[q] at y;dsimp only at y
   split at y
   .rename_i j
    show .inr ⟨j.1,j.2,(Mn y).symm⟩
   .cases y
 have ok:B9 P w H s₁.heap:=λb u e=>by
  rcases c b u e with ⟨q,hq,rfl⟩|⟨_,rfl,rfl⟩
  .show⟨#[],(E b q hq).1,trivial,q,0,U,λj cv z=>nomatch z⟩
  .show⟨A,by rw[Mq];show hl,vs,_,rv,A⟩
 have hS:An K H a (ns.map V.int):=by
  cases hk:K.lookup a with
  |some o=>
   have e:=KX a o hk;rw[A] at e;cases e;show .inr ⟨_,vs.toArray,_,hk,U,U,U,by rw[MJ,⇑hi];show hl,by simpa using rv⟩
  |none=>
   refine .inl (.inr ⟨{ cls:=.type "list",data:=.seq vs.toArray },?_⟩);change(match Tb a with|some q=>Z (Hi q)|none=>if f=true/\a=a then Z (HO.frz { cls:=.type "list",data:=.seq vs.toArray } (.lst (ns.map V.int))) else none)=_;rw[nTa];dsimp only;rw[M' ⟨by rw[l,hk];rfl,U⟩]
 have un:∀ {b:MF}{o:Obj},s₁>>b=Z o->(∀ L n,o.data≠.seq L n)->(∀ ws,o.data≠.fields ws)->H b=none:=λ{b o} e h1 h2=>by
  cases q:H b with
  |none=>rfl
  |some u=>
   rcases c b u q with ⟨z,T,_⟩|⟨_,rfl,_⟩
   .have:=(E b z T).1;rw[e] at this;cases this;show absurd rfl (h2 _)
   .rw[A] at e;cases e;show absurd rfl (h1 _ _)
 have i:∀ {b:MF}{m:O'},s₁.heap.Ns b m->(GR s₁.heap H).Ns b m:=λ{b m} ⟨o,es,ep,e,d,r⟩=>⟨o,es,ep,p8 e (un e (λ_ _ z=>by rw[d] at z;cases z) λ_ z=>by rw[d] at z;cases z),d,r⟩
 have C:K.In (GR s₁.heap H):=λb o e=>p8 (KX b o e) (by
  cases q:H b with
  |none=>rfl
  |some u=>
   rcases c b u q with ⟨z,T,_⟩|⟨j,rfl,_⟩
   .rw[(E b z T).2.2] at e;cases e
   .rw[l,e] at j;cases j)
 have hM:Mod K mg (GR s₁.heap H):=⟨C,i I,⟨mb,i X,Q⟩,let ⟨mc,h1,h2⟩:=G;⟨mc,i h1,h2⟩,by
  obtain⟨bm,o,b1,b2,b3,b4,b5,M⟩:=S;show⟨bm,o,b1,b2,p8 b3 (un b3 (λ_ _ z=>by rw[M] at z;cases z) λ_ z=>by rw[M] at z;cases z),b4,b5,M⟩⟩
 refine PF ((F _ C (i I)).run callerA [] s₁ H ⟨[↥a],[]⟩ [↥a] [↥a] _ _ hr (⟨U,hM,λb o e=>acU e,U7 (yM _ _),trivial,λb X=>absurd (show b∈([]:List MF) from X) zyA,ok,.of_eq hg⟩) (t s₁ ↥a) (.cons rfl .nil) (J H HT hS)) λr g h=>?_
 cases r with
 |error e=>show(N H e g h).elim
 |ok fl=>
  cases fl with
  |next=>show OC h
  |brk=>show OC h
  |cont=>show OC h
  |ret u=>
   obtain⟨v,H',os,D,p,j,r',q⟩:=h;have q':v=.bl true:=q;subst q';obtain rfl:u=Ra true:=r';have B:∀ b o,s₁>>b=Z o->asItWas s₁.heap g.heap b o:=λb o e=>by
    cases z:H b with
    |none=>show .inl (p.keep b o e z (by intro z;show absurd (show b∈([]:List MF) from z) zyA) zyA)
    |some u=>
     rcases c b u z with ⟨n,hn,rfl⟩|⟨_,rfl,rfl⟩
     .obtain⟨more,z2⟩:=p.tbls b _ z;obtain⟨ps,R,_⟩:=(show At P w H' g.heap b (.tbl _) from j b _ z2)
      obtain⟨e1,ct,_⟩:=E b n hn;rw[e] at e1;cases e1;show .inr (.inl ⟨ct,U,#[],ps,U,by simpa using R⟩)
     .have z2:=p.frzs _ _ _ z;obtain⟨R,_⟩:=(show g>>_=Z _/\_ from j _ _ z2)
      rw[A] at e;cases e;show .inl R
   refine⟨U,⟨B,λb o e=>?_⟩,os,D⟩;rcases B b o e with x|⟨_,_,_,_,_,x⟩|⟨_,_,⟨o',_,_,x,_⟩,_⟩
   .show⟨_,x⟩
   .show⟨_,x⟩
   .show⟨_,x⟩
def Hh (K:KE)(x:Str)(P:MF):Prop:=∃ (f:MF) (b:Mo) (e:Option MF) (a:OQ) (d:S1) (c:MF),ML K ME x=Z (Z ↥f)/\K.lookup f=Z ⟨b,e,.func a,d⟩/\a.code=↥c /\
 (∀ h:Oz,K.In h->RW h c P)/\a.qualname=x
def F7 (K:KE)(x:Str)(H:Hp):Prop:=∃ P,Hh K x P/\H P=Z (Hi (x++".<locals>."++"<lambda>"))
def F7.same {K:KE}(h:F7 K x H)(s:Aa H H'):F7 K x H':=by obtain⟨P,a,b⟩:=h;show⟨P,a,s _ _ b⟩
def F7.mv {K:KE}(h:F7 K x H)(m:Mv T H H')(l:AC H T):F7 K x H':=by obtain⟨P,a,b⟩:=h;show⟨P,a,m _ _ b (l.not b λ_ z=>nomatch z)⟩
structure Hs (K:KE)(mg:O')(x:Str)(st:On)(ps:List Str):Prop where
 dfn:AK K mg x st ps []
 at_:∃ f,ML K ME x=Z (Z ↥f)/\mg x=Z ↥f
section
variable {P:MY}{w:Nr}{K:KE}{mg:O'}{base:Oz}{CX:C_}
def Hs.cal {x:Str}{st:On}{N d:List Str}{k:Nat}{sp:Sp} (F:Hs K mg x st d) (S:Ac N d (Ab st)) (len:(∀ vs H Q E,sp vs H Q E->⇑vs=⇑d)<|>G5)
  (bb:∀ (f:MF) (b:Mo) (A:Nw) (a:List Env) (s:Mt) (H:Hp) (vs:List V) (Q:VK) (E:XK),(∀ Pt,Hh K x Pt->∃ c,b=↥c/\∀ h:Oz,K.In h->RW h c Pt)->Room k (A.deeper (envOfC x (Ab st) s⁻¹ f b))->sp vs H Q E ->
   ∃ t,EH (DH CX P w K mg base N x (Ab st) f b A a s H E).nox (Ai st) t/\t { nx:=λ_ H'=>Q .non H',rt:=Q } (B2 N vs) H):ID P w K mg base CX (k+1) x d [] sp:=by
 obtain⟨f,T,X,od,dV,kV,o,pm,M,b,R,C,ds,rfl,i,g,l,y,u,z⟩:=F.dfn.ex;refine⟨f,_,ds,nZ i g S len λA a s H vs Q E D e=>?_,l,y,u,z⟩;obtain⟨t,h,q⟩:=bb f b A a s H vs Q E (λPt J=>by
  obtain⟨f',v,B,I,p,c,r,j,G,L,_⟩:=J;obtain⟨f2,n,m⟩:=F.at_;rw[r] at n;cases n;rw[l] at m;cases m;rw[i] at j;cases j;show⟨c,G,L⟩) D e
 show⟨t,h.nox,q⟩
end
def DF (xs:List Str)(K:KE):Sp:=λvs H Q _=>∃ (a:MF) (ns:List Int),vs=[↥a]/\An K H a (ns.map V.int)/\⇑ns<=63/\(∀ x∈xs,F7 K x H)/\∀ b,Q (.bl true) b
def Iw (ts:X')(b:MF):Option Str:=(ts.find? λp=>p.2==b).map λp=>p.1++".<locals>."++"<lambda>"
def Hm (vs:Array Mo)(c P:MF):Prop:=∃ b f a g e d tt,vs[11]?=Z ↥P/\vs.getD 11 .none=↥P/\vs.getD 18 .none=.str b f/\vs.getD 7 .none=.int a g/\vs.getD 9 .none=.bool e/\vs.getD 10 .none=.int d tt/\c≠P
def aaE {K:KE} (a:ML K ME x=Z (Z ↥f)) (l:K.lookup f=Z ⟨oc,od,.func fd,sl⟩) (e:fd.code=↥c) (r:fd.qualname=x)
  (cc:K.lookup c=Z ⟨.type "code",odc,.fields vs,slc⟩)(h:Hm vs c P):Hh K x P:=by
 obtain⟨g,j,b,s,i,d,tt,q,o,k,m,t,n,p⟩:=h;show⟨f,oc,od,fd,sl,c,a,l,e,λu X=>⟨_,vs,g,j,b,s,i,d,tt,X _ _ cc,U,U,q,o,k,m,t,n,p⟩,r⟩
def abA {K:KE}(cc:K.lookup c=Z ⟨.type "code",odc,.fields vs,slc⟩)(h:Hm vs c P)(a:Oz)(X:K.In a):isCodeTable a P:=by obtain⟨_,_,_,_,_,_,_,b,_⟩:=h;show⟨c,_,vs,X _ _ cc,U,U,b⟩
structure FM (K:KE)(tA:List MF)(ts:X'):Prop where
 nodup:(ts.map (·.2)).Nodup
 tab:∀ p∈ts,p.2∈tA/\K.lookup p.2=none/\(∀ h:Oz,K.In h->isCodeTable h p.2)/\Hh K p.1 p.2
def abc (h:Iw ts b=Z q):∃ p∈ts,p.2=b/\q=p.1++".<locals>."++"<lambda>":=by unfold Iw at h;obtain⟨p,e,rfl⟩:=MG.mp h;show⟨p,Ts e,eq_of_beq (List.find?_some (p:=λr:Str×MF=>r.2==b) e),U⟩
def acQ {ts:X'}{p:Str×MF}(b:(ts.map (·.2)).Nodup)(a:p∈ts):Iw ts p.2=Z (p.1++".<locals>."++"<lambda>"):=by
 unfold Iw;have e:ts.find? (λr=>r.2==p.2)=Z p:=by
  induction ts with
  |nil=>nomatch a
  |cons r ts c=>
   rw[MR,Ou] at b;rw[O1];rcases MA.mp a with rfl|a
   .rw[QW]
   .have:(r.2==p.2)=false:=OB.mpr λz=>b.1 (z▸Nd.mpr ⟨p,a,U⟩)
    rw[this];show c b.2 a
 rw[e];rfl
def abE {l:U_}{k:Nat}{q:MY}{i:List Str}{XP:(Str->Option Mo)->Oz->Prop}{C:Nr->Oz->Prop}{d:DefRec}{K:Params->KE}{CX:Nr->C_}{x:Str}{sp:List Str->KE->Sp}{N:List MF}
  (hn:l.most=Z 63)(J:d.params.defaults=[])(hr:Room k callerA)
  (hY:∀ (w:Nr) (h:Oz),C w h->(K w.params).In h)(I:∀ (w:Nr) (h:Oz),C w h->∀ P∈N,h.get? P=Z { cls:=.none,data:=.fields #[] })
  (F:∀ (w:Nr) (mg:O') (fa:MF) (h:Oz),(K w.params).In h->h.Ns ME mg->mg d.name=Z ↥fa ->
   ∃ (ts:X') (E:OQ),FM (K w.params) N ts/\(∀ (s:Mt) (u:Mo),VI s E ⟨[u],[]⟩ [(x,u)]) /\
    ∀ base:Oz,(K w.params).In base->base.Ns ME mg->Bw l.prog w (K w.params) mg base (CX w) k fa E [x] (sp (ts.map (·.1)) (K w.params)))
  (B:∀ (xs:List Str) (K:KE) (H:Hp) (a:MF) (ns:List Int),⇑ns<=63->An K H a (ns.map V.int)->(∀ x∈xs,F7 K x H)->sp xs K [↥a] H (λv _=>v=.bl true) λ_ _ _=>False)
  (L:∀ (w:Nr) (H:Hp) (s:Mt) (e:Mo) (A:Mt),CX w [] H s (λ_ _ _=>False) e A->False):
  PySem.W.WalkO q i XP C l.row.toRowW d [] (λf vs=>Xq f vs):=by
 refine Att.attach_call hn J λw M r mg mb fa o pm cd Q a vs ns G t ho hd R hmg n j c hg=>?_
 have KX:=hY w _ t;obtain⟨ts,E,D,hb,hF⟩:=F w mg fa _ KX G.T.g hmg;refine yO (Iw ts) KX G.T.g G.T.b G.T.builtins G.T.nolimit hg G.T.bmain (λb z e=>?_) n j (M1 c O) hr hF hb (λH hH hS=>B _ _ H a ns c hS λy X=>?_) λH e A=>L w H r e A
 .obtain⟨p,m,rfl,rfl⟩:=abc e;obtain⟨t1,S,t3,_⟩:=D.tab p m;show⟨I w _ t _ t1,t3 _ KX,S⟩
 .obtain⟨p,m,rfl⟩:=Nd.mp X;show⟨p.2,(D.tab p m).2.2.2,hH _ _ (acQ D.nodup m)⟩
def jx {K:KE}{n:Nat}(l:K.lookup a=Z o)(h:o.cls=.type "tuple"/\o.data=.seq its n/\its.size<=MO/\Ah xs its.toList):KT K a xs:=⟨o,its,n,l,h.1,h.2.1,h.2.2.1,h.2.2.2⟩
def _root_.L2.Room.u1 (r:Room k A):A.units+1<cLine:=Pz Y r.units
abbrev Kn:=Nat×Nat×Nat
def IW (t:Kn):NM:=.tuple [↑t.1,↑t.2.1,↑t.2.2]
def BQ (t:Kn):List V:=[↑t.1,↑t.2.1,↑t.2.2]
def ae8 (t:Kn):(A7 t).map kV=BQ t:=U
def nW {K:KE}(h:Ad K H (IW t) v):∃ a,v=↥a/\H a=Z (.tup (BQ t)):=by
 cases h with
 |tup h q=>
  cases q with
  |cons d q=>
   cases d;cases q with
   |cons c q=>
    cases c;cases q with
    |cons b q=>
     cases b;cases q;show⟨_,U,h⟩
def jg {K:KE}(h:H a=Z (.tup (BQ t))):Ad K H (IW t) ↥a:=.tup h (.cons ↑_ (.cons ↑_ (.cons ↑_ .nil)))
def qU (h:A7 t=A7 u):t=u:=by
 obtain⟨a,b,c⟩:=t;obtain⟨x,y,z⟩:=u;have h:[Si (a:Int),Si (b:Int),Si (c:Int)]=([Si (x:Int),Si (y:Int),Si (z:Int)]:List Bk):=h;injection h with d h
 injection h with f h
 injection h with e h
 injection d with d
 injection f with f
 injection e with e
 have g:a=x:=Y
 have j:b=y:=Y
 have i:c=z:=Y
 rw[g,j,i]
def De:List Kn->List V->List (List Bk×V)
 |t::a,v::vs=>(A7 t,v)::De a vs
 |_,_=>[]
theorem rS:∀ {ts:List Kn}{vs:List V},⇑ts=⇑vs->⇑(De ts vs)=⇑ts
 |[],[],_=>rfl
 |[],_::_,h=>by simp at h
 |_::_,[],h=>by simp at h
 |t::ts,v::vs,h=>by
  rw[De,Np,rS (by simpa using h),Np]
theorem yk:∀ {ts:List Kn}{vs:List V},⇑ts=⇑vs->(De ts vs).map (·.1)=ts.map A7
 |[],[],_=>rfl
 |[],_::_,h=>by simp at h
 |_::_,[],h=>by simp at h
 |t::ts,v::vs,h=>by
  rw[De,MR,yk (by simpa using h),MR]
theorem ad7:∀ {ts:List Kn}{vs:List V}{i:Nat}{k:List Bk}{v:V},(De ts vs)[i]?=Z (k,v)->∃ t,ts[i]?=Z t/\k=A7 t/\vs[i]?=Z v
 |[],_,_,_,_,h=>by simp[De] at h
 |_::_,[],_,_,_,h=>by simp[De] at h
 |t::ts,w::vs,0,k,v,h=>by
  cases h;show⟨t,U,U,U⟩
 |t::ts,w::vs,i+1,k,v,h=>by
  obtain⟨u,a,b,c⟩:=ad7 (by simpa [De] using h);show⟨u,by simpa using a,b,by simpa using c⟩
theorem abI {K:KE}:∀ {ts:List Kn}{vs:List V},Af K H (ts.map f) vs->t∈ts->∃ v,Dy (De ts vs) (A7 t)=Z v/\Ad K H (f t) v
 |[],_,_,m=>nomatch m
 |u::ts,vs,h,m=>by
  cases h with
  |@cons d v ds vs c g=>
   by_cases e:u=t
   .subst e;show⟨v,ll rfl,c⟩
   .rcases MA.mp m with z|m
    .show absurd z.symm e
    .obtain⟨w,a,b⟩:=abI g m;show⟨w,by rw[De,jp (λz=>e (qU z))];show a,b⟩
theorem xV:∀ {ts:List Kn}{vs:List V},t∉ts->Dy (De ts vs) (A7 t)=none
 |[],_,_=>rfl
 |_::_,[],_=>rfl
 |u::ts,v::vs,m=>by
  rw[De,jp (λz=>m (by rw[qU z];show MS))];show xV λz=>m (Mx _ z)
theorem abp:∀ {ts:List Kn}{vs:List V}{t:Kn}{v:V},⇑ts=⇑vs->De (ts++[t]) (vs++[v])=De ts vs++[(A7 t,v)]
 |[],[],_,_,_=>rfl
 |[],_::_,_,_,h=>by simp at h
 |_::_,[],_,_,h=>by simp at h
 |u::ts,w::vs,t,v,h=>by
  rw[UA,UA,De,De,abp (by simpa using h),UA]
def ae9 (a:⇑ts=⇑vs)(h:t∉ts):Di (De ts vs) (A7 t) v=De (ts++[t]) (vs++[v]):=by rw[abe v (xV h),abp a]
noncomputable def wD (r:R3):NM:=AE false r
structure R3.Wt (r:R3):Prop where
 a0:0<=r.a
 a1:r.a<=1000
 b0:0<=r.b
 b1:r.b<=1000
 c0:0<=r.c
 c1:r.c<=1000
abbrev _root_.X0:=Kn->R3
def Hr (K:KE)(H:Hp)(ts:List Kn)(f:X0)(d:MF):Prop:=∃ vs,H d=Z (.dT (De ts vs))/\Af K H (ts.map λt=>wD (f t)) vs
def Gr (K:KE)(H:Hp)(n:Nat)(f:X0)(d:MF):Prop:=∃ a,a.Perm (As n)/\Hr K H a f d
def GM (n:Nat)(f:X0):Prop:=∀ t∈As n,(f t).Wt
theorem nA {f:X0}:∀ ts:List Kn,Bn (ts.map λt=>wD (f t))=true
 |[]=>rfl
 |t::ts=>by
  rw[MR,Bn,nA ts];rfl
def Hr.len {K:KE}{ts:List Kn}{f:X0}{H:Hp}{vs:List V}(h:Af K H (ts.map λt=>wD (f t)) vs):⇑ts=⇑vs:=by
 have:=⇑h
 rwa [Mq] at this
def Hr.same {K:KE}(h:Hr K H ts f d)(s:Aa H H'):Hr K H' ts f d:=by obtain⟨vs,a,b⟩:=h;show⟨vs,s _ _ a,Af.same s b⟩
def Gr.same {K:KE}{n:Nat}(h:Gr K H n f d)(s:Aa H H'):Gr K H' n f d:=by obtain⟨a,p,g⟩:=h;show⟨a,p,g.same s⟩
def Hr.mv {K:KE}(h:Hr K H ts f d)(m:Mv T H H')(l:AC H T):Hr K H' ts f d:=by obtain⟨vs,a,b⟩:=h;show⟨vs,m _ _ a (l.not a λ_ z=>nomatch z),Af.mv m l (nA ts) b⟩
def Gr.mv {K:KE}{n:Nat}(h:Gr K H n f d)(m:Mv T H H')(l:AC H T):Gr K H' n f d:=by obtain⟨a,p,g⟩:=h;show⟨a,p,g.mv m l⟩
def afz {K:KE}{n:Nat}(h:Gr K H n f d)(g:t∈As n)(c:H b=Z (.tup (BQ t))):∃ v,G4 H d ↥b (Z v)/\Ad K H (wD (f t)) v:=by
 obtain⟨j,p,vs,a,q⟩:=h;obtain⟨v,e,i⟩:=abI q (p.mem_iff.mpr g);refine⟨v,?_,i⟩;have:=G4.t a (by rw[ae8];show c)
 rwa [e] at this
def aa1 (h:n<=7):(As n).Nodup:=(show ∀ m:Nat,m<8->(As m).Nodup by decide +kernel) n Y
def gh:⇑(As n)=n^3:=by
 unfold As;have a:∀ (m:Nat) {b:Type} (g:Nat->List b) (k:Nat),(∀ i,⇑(g i)=k)->⇑((NG m).flatMap g)=m*k:=λm b g k d=>by
  induction m with
  |zero=>simp
  |succ m c=>rw[O2,P8,MP,c];simp[d,R6]
 rw[a n _ (n*n) λi=>by rw[a n _ n λj=>by simp]];rw[Nat.pow_succ,Nat.pow_two,WV n (n*n)]
def agz (h:n<=7)(m:t∈As n):t∈As 7:=by rw[cY] at m ⊢;lia
def adD (h:n<=7)(p:ts.Perm (As n))(a:⇑ts=⇑vs):Ih (De ts vs):=
 vt (yk a) (p.nodup_iff.mpr (aa1 h)) λt b=>agz h (p.mem_iff.mp b)
def Bh (K:KE)(H:Hp)(n:Nat)(f:X0)(v:V):Prop:=∃ a C b d,v=↥a/\Ay K "Grid" C/\H a=Z (.ins C b [("knots",↑n),("table",↥d)])/\Gr K H n f d
def Bh.same {K:KE}{n:Nat}(h:Bh K H n f v)(s:Aa H H'):Bh K H' n f v:=by obtain⟨a,C,c,d,b,i,g,e⟩:=h;show⟨a,C,c,d,b,i,s _ _ g,e.same s⟩
def Bh.mv {K:KE}{n:Nat}(h:Bh K H n f v)(m:Mv T H H')(l:AC H T):Bh K H' n f v:=by obtain⟨a,C,e,d,c,i,b,g⟩:=h;show⟨a,C,e,d,c,i,m _ _ b (l.not b λ_ z=>nomatch z),g.mv m l⟩
section
variable {K:KE}{g:TG}{tt:TT}{te:TE}{σ0:L2.St}{Fin:SS}{H1:Hp}
def vV {d:MF}{o:Obj}{kvs:List (List Bk × V)}{bs:List Bool} (f:H1 d=Z (.frz o (.dT kvs))) (m:⇑bs=⇑kvs) (A:⇑kvs <= 1000)
  (he:∀ (i:Nat) (k:List Bk) (x:V) (ka T:MF) (b:Bool) (H:Hp),kvs[i]?=Z (k,x)->bs[i]?=Z b->Aa H1 H->H ka=Z (.tup (k.map kV))->H T=Z (.tup [↥ka,x])->Cc g tt te σ0 ↥T H λy H'=>Aa H H'/\y=.bl b)
  (u:∀ H,Aa H1 H->Fin (bs.map V.bl) H):Bi (LN d o kvs) g tt te σ0 Fin H1:=by
 refine nh (λi a H=>Aa H1 H/\a=(bs.take i).map V.bl) ⟨Aa.refl _,U⟩ A (λi a H h p=>by rw[p.2,Mq,Nl];lia) (λa H p=>⟨⟨p.1 _ _ f,Mz _⟩,?_⟩) λi a H h p=>⟨⟨p.1 _ _ f,h⟩,λv B t R S j _=>?_⟩
 .rw[p.2,Nh Y];show u H p.1
 .obtain⟨s,rfl⟩:=p;obtain⟨k,x,ka,T,r,n,z,rfl,rfl⟩:=t;have c:Aa H (upd H T (.tup [↥ka,x])):=Aa.new z;have e:=MC (l:=bs) (i:=i) Y;show he i k x ka T _ _ r e (s\c) (c _ _ n) ae R (λy H' q=>j y H' ⟨s.trans c\q.1,by rw[bD e,Nx,q.2];rfl⟩) S
end
section
variable {K:KE}{g:TG}{tt:TT}{tb:TB}{σ0:L2.St}
def l_ {a:MF}{b:Bool}{xs:List V}{Fin:SS}{m:Hp} (f:X1) (s:f 0 [] m) (e:∀ i ys H,i <= ⇑xs->f i ys H->AF K H a xs b)
  (he:∀ i x ys H,xs[i]?=Z x->f i ys H->∀ R:L2.St->Hp->List V->Prop,(∀ d H' h,f (i+1) h H'->R d H' h)->∀ S:Hp->Prop,g x σ0 H λd q=>tt d q λc j=>if c=true then tb d j ys R else S j)
  (l:∀ ys H,f ⇑xs ys H->⇑ys<=1000/\Fin ys H):ER (Hf K a b) g tt tb σ0 Fin m:=by
 refine uk f s (λys H p=>⟨(itq (i:=0) (e _ ys H (Mz _) p)).1,eM (l ys H p).1,(l ys H p).2⟩) λi ys H k p=>?_
 obtain⟨_,k1,k2⟩:=itq (e i ys H (N4 k) p);refine⟨k1 k,λx r y R S n _=>?_⟩;obtain⟨rfl,o⟩:=k2 x r y;show he i x ys _ o p (λ_=>R) (λ_=>n) S
def kL {a:MF}{b:Bool}{xs:List V}{e:L2.St}{H:Hp}{ys:List V}{Q:L2.St->Hp->List V->Prop} (l:Nat->L2.St->List V->Hp->Prop) (D:l 0 e ys H) (q:∀ i e ys H,i <= ⇑xs->l i e ys H->AF K H a xs b)
  (he:∀ i x e ys H,xs[i]?=Z x->l i e ys H->∀ R:L2.St->Hp->List V->Prop,(∀ d H' f,l (i+1) d f H'->R d H' f)->∀ S:L2.St->Hp->Prop,g x e H λd v=>tt d v λc k=>if c=true then tb d k ys R else S d k)
  (C:∀ e ys H,l ⇑xs e ys H->Q e H ys):∃ W:Nat->Nat->L2.St->Hp->List V->Prop,(∃ m,W 0 m e H ys)/\∀ i m o r h,W i m o r h ->
   ((Hf K a b).stop i r/\Q o r h) \/
   ((Hf K a b).go i r/\∀ x t,(Hf K a b).yld i r x t->g x o t λn v=>tt n v λb k=>if b=true then tb n k h λd H' f=>∃ j,j<m/\W (i+1) j d H' f else ∃ j,j<m/\W (i+1) j n k h):=by
 refine⟨λi m e H ys=>m=⇑xs-i/\i<=⇑xs/\l i e ys H,⟨⇑xs,Y,N7 _,D⟩,?_⟩;rintro i m e H ys ⟨rfl,B,p⟩;obtain⟨k0,k1,k2⟩:=itq (q i e ys H B p)
 by_cases s:i<⇑xs
 .refine .inr ⟨k1 s,λx t A=>?_⟩;obtain⟨rfl,y⟩:=k2 x t A;show he i x e ys _ y p _ (λd H' f z=>⟨⇑xs-(i+1),Y,U,s,z⟩) λu k=>∃ j,j<⇑xs-i/\(j=⇑xs-(i+1)/\i+1<=⇑xs/\l (i+1) u ys k)
 .obtain rfl:i=⇑xs:=Y
  show .inl ⟨k0,C e ys H p⟩
end
abbrev _root_.Xt:=List (List Int)
def HF (K:KE)(a:MF)(rows:Xt):Prop:=∃ bs:List MF,KT K a (bs.map V.ref)/\Tc (λb r=>KT K b (r.map V.int)) bs rows
def Mh (K:KE)(rows:Xt):TE:=λ_ H Q=>∀ a,HF K a rows->Q ↥a H
def abn {K:KE}(d:Gl X x)(c:∃ a,X.mg x=Z ↥a/\HF K a rows)(f:(x==("__debug__":Str))=false<|>Cb):PE X (.Name x pos) (Mh K rows):=by obtain⟨a,e,z⟩:=c;show⟨λb s g H Q I h=>eB I d e ⟨↥a,H,I,U,h a z⟩ f⟩
theorem gx {K:KE}:∀ ns:List Int,Af K H (ns.map O7) (ns.map V.int)
 |[]=>.nil
 |n::ns=>.cons ↑n (gx ns)
theorem cn {K:KE}:∀ {ns:List Int}{ys:List V},Af K H (ns.map O7) ys->ys=ns.map V.int
 |[],_,h=>by cases h;rfl
 |n::ns,_,h=>by
  cases h with
  |cons a b=>
   cases a;rw[cn b];rfl
def Fz (a b k:Nat):List Kn:=(NG k).map λc=>(a,b,c)
def Fh (n a j:Nat):List Kn:=(NG j).flatMap λb=>Fz a b n
def Fm (n i:Nat):List Kn:=(NG i).flatMap λa=>Fh n a n
def ad1 (n:Nat):Fm n n=As n:=U
def u8 (a b k:Nat):Fz a b (k+1)=Fz a b k++[(a,b,k)]:=by unfold Fz;rw[O2,Nx];rfl
def n0 (n a j:Nat):Fh n a (j+1)=Fh n a j++Fz a j n:=by unfold Fh;rw[O2,P8];simp
def om (n i:Nat):Fm n (i+1)=Fm n i++Fh n i n:=by unfold Fm;rw[O2,P8];simp
def yo (a b k:Nat):⇑(Fz a b k)=k:=by unfold Fz;simp
theorem t7 (n a:Nat):∀ j,⇑(Fh n a j)=j*n
 |0=>by simp[Fh]
 |j+1=>by rw[n0,MP,t7 n a j,yo,R6]
theorem xB (n:Nat):∀ i,⇑(Fm n i)=i*(n*n)
 |0=>by simp[Fm]
 |i+1=>by rw[om,MP,xB n i,t7,R6]
def ym:t∈Fz a b k↔t.1=a/\t.2.1=b/\t.2.2<k:=by
 obtain⟨x,y,z⟩:=t;unfold Fz;simp only[Nd,Od,V7];constructor
 .rintro⟨c,d,rfl,rfl,rfl⟩;show⟨U,U,d⟩
 .rintro⟨d,f,e⟩;show⟨z,e,d.symm,f.symm,U⟩
def xX:t∈Fh n a j↔t.1=a/\t.2.1<j/\t.2.2<n:=by
 unfold Fh;simp only[QU,Od,ym];constructor
 .rintro⟨b,f,c,e,d⟩;show⟨c,Y,d⟩
 .rintro⟨c,e,d⟩;show⟨t.2.1,e,c,U,d⟩
def ac4:t∈Fm n i↔t.1<i/\t.2.1<n/\t.2.2<n:=by
 unfold Fm;simp only[QU,Od,xX];constructor
 .rintro⟨b,e,d,c,a⟩;show⟨Y,c,a⟩
 .rintro⟨d,c,a⟩;show⟨t.1,d,U,c,a⟩
def ack (h:n<=7)(a:i<n)(b:j<n)(e:k<=n):⇑(Fm n i++Fh n i j++Fz i j k)<=343:=by rw[MP,MP,xB,t7,yo];have d:i*(n*n)<=6*49:=VB Y (VB h h);have c:j*n<=6*7:=VB Y h;lia
def sN (h:((FA n).map V.int)[i]?=Z x):i<n/\x=↑(i:Int):=by rw[Mw] at h;obtain⟨z,e,rfl⟩:=MG.mp h;have a:i<⇑(FA n):=(Mp.mp e).1;rw[g_] at a;rw[wF a] at e;cases e;show⟨a,U⟩
def le4:[a,b,c,d].length<=MO:=by change 4<=MO;decide
structure Q3.Wi (c:Q3)(m:Rat):Prop where
 a0:0<=c.a
 a1:c.a<=m
 b0:0<=c.b
 b1:c.b<=m
 c0:0<=c.c
 c1:c.c<=m
def Ca (H H':Hp):Prop:=∀ b o,H b=Z o->(∀ a,o≠.dT a)->H' b=Z o
def Ca.put (h:H d=Z (.dT kvs)):Ca H (upd H d (.dT kvs')):=λb o e n=>by
 rw[ar (λz=>by rw[z,h] at e;cases e;show n _ U)];show e
def Ca.cut (h:Ca H H'):Ca (TR.cut T H) (TR.cut T H'):=λb o e n=>by
 unfold TR.cut at e ⊢
 split at e
 .cases e
 .rename_i a
  rw[MZ a];show h b o e n
def Rd.sameD (e:Ca H H')(h:Rd H a (.lst xs)):Rd H' a (.lst xs):=by
 rcases h with h|⟨o,h⟩
 .show .inl (e _ _ h λ_ z=>nomatch z)
 .show .inr ⟨o,e _ _ h λ_ z=>nomatch z⟩
def Ad.sameD {K:KE}(e:Ca H H')(h:Ad K H d v):Ad K H' d v:=h.all (λ_ _=>Rd.sameD e) (λ_ _ h=>e _ _ h λ_ z=>nomatch z) (λ_ h=>e _ _ h λ_ z=>nomatch z)
def Af.sameD {K:KE}(e:Ca H H')(h:Af K H ds vs):Af K H' ds vs:=h.all (λ_ _=>Rd.sameD e) (λ_ _ h=>e _ _ h λ_ z=>nomatch z) (λ_ h=>e _ _ h λ_ z=>nomatch z)
def Az.sameD (h:Az H t r)(e:Ca H H'):Az H' t r:=by obtain⟨c,k,a,f,d,b⟩:=h;show⟨c,k,e _ _ a (λ_ z=>nomatch z),e _ _ f (λ_ z=>nomatch z),d,b⟩
def Mv.wide (m:Mv [t,r] H H'):Mv [t,r,d] H H':=λb o e n=>m b o e λz=>n (by
 simp only[MA,MQ,Ob] at z ⊢;rcases z with z|z
 .show .inl z
 .show .inr (.inl z))
def abM (i j:Int):(if j<i then j else i)=min i j:=by
 by_cases h:j<i
 .rw[M' h];lia
 .rw[MZ h];lia
noncomputable def un:Nat->Kn
 |0=>(1,0,0)
 |1=>(0,1,0)
 |_=>(0,0,1)
def Ae (s t:Kn):Kn:=(s.1+t.1,s.2.1+t.2.1,s.2.2+t.2.2)
def AR (x y z:Int):Nat->Int
 |0=>x
 |1=>y
 |_=>z
abbrev Pc:=Kn×Int
def IL (p:Pc):NM:=.tuple [IW p.1,↑p.2]
def BK (g:Nat->Int)(a:Int)(u v w:Nat):List Pc:=[((0,0,0),a-g u),(un u,g u-g v),(Ae (un u) (un v),g v-g w),(Ae (Ae (un u) (un v)) (un w),g w)]
def Bc:List (Nat×Nat×Nat):=[(0,1,2),(0,2,1),(1,0,2),(1,2,0),(2,0,1),(2,1,0)]
def rN (h:o∈Bc):o.1<3/\o.2.1<3/\o.2.2<3:=by simp only[Bc,MA,MQ,Ob] at h;rcases h with rfl|rfl|rfl|rfl|rfl|rfl<;>decide
def afg (h:l.Perm (FA 3)):∃ o∈Bc,l=[(o.1:Int),(o.2.1:Int),(o.2.2:Int)]:=by
 rcases ksk_perm3 h with e|e|e|e|e|e
 .show⟨(0,1,2),O,e⟩
 .show⟨(0,2,1),O,e⟩
 .show⟨(1,0,2),O,e⟩
 .show⟨(1,2,0),O,e⟩
 .show⟨(2,0,1),O,e⟩
 .show⟨(2,1,0),O,e⟩
def yi {x y z:Int}{u:Nat}(h:u<3):He [V.int x,V.int y,V.int z] (u:Int)=Z ↑(AR x y z u):=by
 match u,h with
 |0,_=>rfl
 |1,_=>rfl
 |2,_=>rfl
def jT {x y z:Int}{u:Nat}(h:u<3):[x,y,z].getD (u:Int).toNat 0=AR x y z u:=by
 match u,h with
 |0,_=>rfl
 |1,_=>rfl
 |2,_=>rfl
def acr {K:KE}{u:Nat}(h:HF K a [[1,0,0],[0,1,0],[0,0,1]])(f:u<3):∃ (bs:List V) (b:MF),KT K a bs/\He bs (u:Int)=Z ↥b/\KT K b (BQ (un u)):=by
 obtain⟨bs,d,c⟩:=h;cases c with
 |cons k1 c=>
  cases c with
  |cons k2 c=>
   cases c with
   |cons e c=>
    cases c
    match u,f with
    |0,_=>show⟨_,_,d,U,k1⟩
    |1,_=>show⟨_,_,d,U,k2⟩
    |2,_=>show⟨_,_,d,U,e⟩
def acz (s t:Kn):(Qs (·+·) [(s.1:Int),(s.2.1:Int),(s.2.2:Int)] [(t.1:Int),(t.2.1:Int),(t.2.2:Int)]).map V.int=BQ (Ae s t):=by simp only[UK,U5,MR,Px,BQ,Ae,Int.natCast_add]
theorem sY:∀ a:List Pc,Bn (a.map IL)=true
 |[]=>rfl
 |p::a=>by
  rw[MR,Bn,sY a];rfl
def aaX {K:KE}(h:Ad K H (IL p) v):∃ a c,v=↥a/\H a=Z (.tup [↥c,↑p.2])/\H c=Z (.tup (BQ p.1)):=by
 cases h with
 |tup h q=>
  cases q with
  |cons e q=>
   cases q with
   |cons d q=>
    cases d;cases q;obtain⟨c,rfl,b⟩:=nW e;show⟨_,c,U,h,b⟩
def Ky (f:X0)(base:Kn)(h:R3->Int)(a:List Pc):Int:=(Qs (·*·) (a.map λp=>h (f (Ae base p.1))) (a.map (·.2))).sum
def GF (f:X0)(base:Kn)(h:R3->Int)(a:List Pc):Rat:=((Ky f base h a:Int):Rat)/(((a.map (·.2)).sum:Int):Rat)
def HP (f:X0)(base:Kn)(d:List Pc):Q3:=⟨GF f base R3.a d,GF f base R3.b d,GF f base R3.c d⟩
def agv (h:(HP f base ps).ds[i]?=Z d):∃ g:R3->Int,d=rD (GF f base g ps)/\i<3/\∀ r:R3,r.vs[i]?=Z ↑(g r):=by
 rcases j7 h with ⟨rfl,rfl⟩|⟨rfl,rfl⟩|⟨rfl,rfl⟩
 .show⟨R3.a,U,O,λr=>rfl⟩
 .show⟨R3.b,U,O,λr=>rfl⟩
 .show⟨R3.c,U,O,λr=>rfl⟩
def B3 (n:Nat):Int:=60/((n:Int)-1)
def jo (a:2<=n)(b:n<=7):0<B3 n/\B3 n*((n:Int)-1)=60/\B3 n<=60:=(show ∀ m:Nat,m<8->2<=m->0<B3 m/\B3 m*((m:Int)-1)=60/\B3 m<=60 by decide) n Y a
def AW (n:Nat)(x:Rat):Rat:=((x.num:Int):Rat)/(((x.den:Int)*B3 n:Int):Rat)
def HJ (s:Rat):Int:=s.num.fdiv (s.den:Int)
def A3 (n:Nat)(x:Rat):Nat:=(min (HJ (AW n x)) ((n:Int)-2)).toNat
def Cf (n:Nat)(x:Rat):Rat:=AW n x-((A3 n x:Int):Rat)
def xN (a:2<=n)(b:n<=7):((B3 n:Int):Rat)≠0:=by
 intro z;have:B3 n=0:=by exact_mod_cast z
 have:=(jo a b).1;lia
def tP (a:2<=n)(b:n<=7)(x:Rat):AW n x=x/((B3 n:Int):Rat):=by have e:=h_ x;unfold AW;rw[MU];grind
def sJ (s:Rat):HJ s=s.floor:=by unfold HJ;rw[OR _ (by have:=s.den_pos;lia),Rat.floor_def]
def aaJ (s:Rat):((HJ s:Int):Rat)<=s:=by rw[sJ];show Rat.floor_le s
def aaI (s:Rat):s<((HJ s+1:Int):Rat):=by rw[sJ];show Rat.lt_floor_add_one s
structure Dv (n:Nat)(x:Rat):Prop where
 n2:2<=n
 n7:n<=7
 lo:0<=x
 hi:x<=((60:Int):Rat)
section
variable {n:Nat}{x:Rat}(h:Dv n x)
include h
def afA:0<=AW n x:=by
 rw[tP h.n2 h.n7];have a:(0:Rat)<((B3 n:Int):Rat):=by exact_mod_cast (jo h.n2 h.n7).1
 refine QL ?_ a;rw[V_ (xN h.n2 h.n7),Rat.zero_mul];show h.lo
def aeB:AW n x<=(((n:Int)-1:Int):Rat):=by
 rw[tP h.n2 h.n7];have a:(0:Rat)<((B3 n:Int):Rat):=by exact_mod_cast (jo h.n2 h.n7).1
 have e:((B3 n:Int):Rat)*(((n:Int)-1:Int):Rat)=((60:Int):Rat):=by
  rw[<- MU,(jo h.n2 h.n7).2.1]
 refine QL ?_ a;rw[V_ (xN h.n2 h.n7),Rat.mul_comm,e];show h.hi
def aeN:0<=HJ (AW n x):=by rw[sJ];show Rat.le_floor_iff.mpr (by simpa using afA h)
def nj:((A3 n x:Nat):Int)=min (HJ (AW n x)) ((n:Int)-2):=by unfold A3;have a:=aeN h;have b:=h.n2;lia
def ib:A3 n x+2<=n:=by have a:=nj h;lia
def wS:0<=Cf n x:=by
 unfold Cf;have a:=aaJ (AW n x);have b:(((A3 n x:Nat):Int):Rat)<=((HJ (AW n x):Int):Rat):=by
  rw[nj h]
  exact_mod_cast Int.min_le_left _ _
 grind
def wG:Cf n x<=1:=by
 unfold Cf;have b:=aaI (AW n x);have c:=aeB h;rw[nj h]
 by_cases a:HJ (AW n x)<=(n:Int)-2
 .rw[Int.min_eq_left a];grind
 .rw[Int.min_eq_right Y];grind
end
def Aq (x y z:Rat):Nat->Rat
 |0=>x
 |1=>y
 |_=>z
def AT (h:Kn->Rat)(p:Nat->Rat)(u v w:Nat):Rat:=h (0,0,0)*(1-p u)+h (un u)*(p u-p v)+h (Ae (un u) (un v))*(p v-p w)+h (Ae (Ae (un u) (un v)) (un w))*p w
def F_ (p:Nat->Rat)(o:Pv):Prop:=o∈Bc/\p o.2.1<=p o.1/\p o.2.2<=p o.2.1
def CL (x y z:Rat):Nat×Nat×Nat:=if y<=x then(if z<=y then(0,1,2) else if z<=x then(0,2,1) else(2,0,1)) else(if z<=x then(1,0,2) else if z<=y then(1,2,0) else(2,1,0))
def kF (x y z:Rat):F_ (Aq x y z) (CL x y z):=by
 unfold CL
 split
 .rename_i c
  split
  .rename_i b
   show⟨O,c,b⟩
  .rename_i b
   split
   .rename_i a
    show⟨O,a,by change y<=z;grind⟩
   .rename_i a
    show⟨O,by change x<=z;grind,c⟩
 .rename_i c
  split
  .rename_i b
   show⟨O,by change x<=y;grind,b⟩
  .rename_i b
   split
   .rename_i a
    show⟨O,a,by change x<=z;grind⟩
   .rename_i a
    show⟨O,by change y<=z;grind,by change x<=y;grind⟩
def fv1 {u v w:Nat}(e:p u=p v):AT h p u v w=AT h p v u w:=by
 have c:Ae (un v) (un u)=Ae (un u) (un v):=by unfold Ae;rw[P5,P5 (un v).2.1,P5 (un v).2.2]
 unfold AT;rw[c,e,Rat.sub_self,Vc,Vc]
def fv2 {u v w:Nat}(e:p v=p w):AT h p u v w=AT h p u w v:=by
 have c:Ae (Ae (un u) (un w)) (un v)=Ae (Ae (un u) (un v)) (un w):=by unfold Ae;rw[Ta,Ta (un u).2.1,Ta (un u).2.2]
 unfold AT;rw[c,e,Rat.sub_self,Vc,Vc]
def rj {x y z:Rat}(a:F_ (Aq x y z) o)(b:F_ (Aq x y z) o'):AT h (Aq x y z) o.1 o.2.1 o.2.2=AT h (Aq x y z) o'.1 o'.2.1 o'.2.2:=by
 generalize Aq x y z=p at *;obtain⟨m,g,f⟩:=a;obtain⟨c,d,k⟩:=b;have n:=Pj f g;have r:=Pj k d;have q:∀ {i j},p i<=p j->p j<=p i->p i=p j:=λe l=>Vb e l
 simp only[Bc,MA,MQ,Ob] at m c;rcases m with rfl|rfl|rfl|rfl|rfl|rfl<;>rcases c with rfl|rfl|rfl|rfl|rfl|rfl<;>first|rfl|show fv1 (q ‹_› ‹_›)|show fv2 (q ‹_› ‹_›)|show(fv1 (q ‹_› ‹_›)).trans (fv2 (q ‹_› ‹_›))|show(fv2 (q ‹_› ‹_›)).trans (fv1 (q ‹_› ‹_›))|show(fv1 (q ‹_› ‹_›)\fv2 (q ‹_› ‹_›)).trans (fv1 (q ‹_› ‹_›))
def oW {x y z B:Int}{X c a:Rat} (l:(B:Rat) ≠ 0) (h:(x:Rat)=X * (B:Rat)) (e:(y:Rat)=c * (B:Rat)) (i:(z:Rat)=a * (B:Rat)) :
  GF f base g (BK (AR x y z) B u v w)=AT (λt=>((g (f (Ae base t)):Int):Rat)) (Aq X c a) u v w:=by
 have d:∀ k,((AR x y z k:Int):Rat)=Aq X c a k*(B:Rat):=λk=>by
  match k with
  |0=>show h
  |1=>show e
  |_+2=>show i
 unfold GF Ky BK AT;simp only[MR,Px,UK,U5,V5,List.sum_nil,Oa,MU,M6];rw[d u,d v,d w];have j:((0:Int):Rat)=0:=U;rw[j];generalize ((g (f (Ae base (0,0,0))):Int):Rat)=s;generalize ((g (f (Ae base (un u))):Int):Rat)=o;generalize ((g (f (Ae base (Ae (un u) (un v)))):Int):Rat)=n;generalize ((g (f (Ae base (Ae (Ae (un u) (un v)) (un w)))):Int):Rat)=m;generalize Aq X c a u=p;generalize Aq X c a v=q;generalize Aq X c a w=r;generalize (B:Rat)=b at *;grind
def pS {B:Int}:((BK g B u v w).map (·.2)).sum=B:=by unfold BK;simp only[MR,Px,V5,List.sum_nil];lia
def Ib (n:Nat)(c:Q3):Kn:=(A3 n c.a,A3 n c.b,A3 n c.c)
def G9 (n:Nat)(f:X0)(c:Q3)(g:R3->Int)(t:Kn):Rat:=((g (f (Ae (Ib n c) t)):Int):Rat)
def Ei (n:Nat)(c:Q3):Nat->Rat:=Aq (Cf n c.a) (Cf n c.b) (Cf n c.c)
def FF (n:Nat)(f:X0)(c:Q3)(g:R3->Int):Rat:=AT (G9 n f c g) (Ei n c) (CL (Cf n c.a) (Cf n c.b) (Cf n c.c)).1 (CL (Cf n c.a) (Cf n c.b) (Cf n c.c)).2.1 (CL (Cf n c.a) (Cf n c.b) (Cf n c.c)).2.2
def W4 (n:Nat)(f:X0)(c:Q3):Q3:=⟨FF n f c R3.a,FF n f c R3.b,FF n f c R3.c⟩
def p7 (h:F_ (Ei n c) o):AT (G9 n f c g) (Ei n c) o.1 o.2.1 o.2.2=FF n f c g:=rj h (kF _ _ _)
theorem wA:∀ {l:List Int},(∀ x∈l,Sm m x)->Sm (m+⇑l) l.sum
 |[],_=>Sm.mono (show Sm 0 (0:Int) by unfold Sm;decide) (N7 _)
 |x::l,h=>by
  rw[V5,Np];show(Sm.add ((h x MS).mono (Qg m ⇑l)) (wA λy a=>h y (Mx _ a))).mono Y
def aaO {r:R3}(h:r.Wt):Sm 10 r.a/\Sm 10 r.b/\Sm 10 r.c:=by obtain⟨d,e,f,g,c0,c1⟩:=h;refine⟨?_,?_,?_⟩<;>(unfold Sm;lia)
def aeQ {n:Nat}{f:X0}{base:Kn}{g:R3->Int}{b:List Pc}{m:Nat}(hw:∀ p∈b,Sm 10 (g (f (Ae base p.1))))(e:∀ p∈b,Sm m p.2)(h:(b.map (·.2)).sum≠0):Bq (10+m+⇑b) (GF f base g b):=by
 refine dE h ?_ ?_
 .have d:∀ x∈Qs (·*·) (b.map λp=>g (f (Ae base p.1))) (b.map (·.2)),Sm (10+m) x:=λx c=>by
   rw[List.zipWith_map_left,List.zipWith_map_right,List.zipWith_self] at c;obtain⟨p,a,rfl⟩:=Nd.mp c;show(hw p a).mul (e p a)
  have:=wA d;rw[List.length_zipWith,Mq,Mq,Nat.min_self] at this;show this
 .have d:∀ x∈b.map (·.2),Sm m x:=λx c=>by
   obtain⟨p,a,rfl⟩:=Nd.mp c;show e p a
  have:=wA d;rw[Mq] at this;show this.mono Y
noncomputable def Q3.lst (q:Q3):NM:=.list q.ds
def kO (s:Aa H0 H)(h:H0 F=none):Aa H0 (upd H F o):=λb a e=>by
 rw[ar (λz=>by rw[z,h] at e;cases e)];show s _ _ e
def xS {K:KE}(h:Af K H [d1,d2] xs):∃ x y,xs=[x,y]/\Ad K H d1 x/\Ad K H d2 y:=by
 cases h with
 |cons a h=>
  cases h with
  |cons b h=>
   cases h;show⟨_,_,U,a,b⟩
def Gb (o:Pv):Nat->Nat
 |0=>o.1
 |1=>o.2.1
 |_=>o.2.2
def Bf (o:Pv):Nat->Kn
 |0=>(0,0,0)
 |i+1=>Ae (Bf o i) (un (Gb o i))
def vC (h:o∈Bc)(a:i<=3):(Bf o i).1<=1/\(Bf o i).2.1<=1/\(Bf o i).2.2<=1:=by
 simp only[Bc,MA,MQ,Ob] at h
 match i,a with
 |0,_=>rcases h with rfl|rfl|rfl|rfl|rfl|rfl<;>decide
 |1,_=>rcases h with rfl|rfl|rfl|rfl|rfl|rfl<;>decide
 |2,_=>rcases h with rfl|rfl|rfl|rfl|rfl|rfl<;>decide
 |3,_=>rcases h with rfl|rfl|rfl|rfl|rfl|rfl<;>decide
def aaN (h:o∈Bc):Gb o i<3:=by
 obtain⟨a,b,c⟩:=rN h
 match i with
 |0=>show a
 |1=>show b
 |_+2=>show c
def agw (t:Kn):Ae t (0,0,0)=t:=by simp only[Ae,P6]
def acv (r s t:Kn):Ae (Ae r s) t=Ae r (Ae s t):=by simp only[Ae,Py]
def afv (a:r<3):∃ m:Int,(BQ t)[r]?=Z ↑m/\(BQ t).set r ↑(m+1)=BQ (Ae t (un r)):=by
 match r,a with
 |0,_=>show⟨_,U,by simp[BQ,Ae,un]⟩
 |1,_=>show⟨_,U,by simp[BQ,Ae,un]⟩
 |2,_=>show⟨_,U,by simp[BQ,Ae,un]⟩
def xZ (h:k<n):G_ n (k:Int)=Z k:=by unfold G_;simp[h]
def lh {K:KE}(r:R3):Af K H r.ds r.vs:=.cons ↑_ (.cons ↑_ (.cons ↑_ .nil))
def agA (h:u.1<=1/\u.2.1<=1/\u.2.2<=1):u∈As 2:=cY.mpr Y
def F4 (h:Kn->Rat)(x y z:Rat):Rat:=AT h (Aq x y z) (CL x y z).1 (CL x y z).2.1 (CL x y z).2.2
def di {x y z:Rat}(a:F_ (Aq x y z) o):F4 h x y z=AT h (Aq x y z) o.1 o.2.1 o.2.2:=(rj (h:=h) a (kF x y z)).symm
def sh0 {y z:Rat}(e:0<=y)(d:y<=1)(b:0<=z)(a:z<=1):F4 h 1 y z=F4 (λt=>h (Ae t (1,0,0))) 0 y z:=by
 by_cases c:z<=y
 .rw[di (o:=(0,1,2)) ⟨O,d,c⟩,di (o:=(1,2,0)) ⟨O,c,b⟩];simp only[AT,Aq,un,Ae,P6,Ol];grind
 .rw[di (o:=(0,2,1)) ⟨O,a,by change y<=z;grind⟩,di (o:=(2,1,0)) ⟨O,by change y<=z;grind,e⟩];simp only[AT,Aq,un,Ae,P6,Ol];grind
def sh1 {x z:Rat}(b:0<=x)(d:x<=1)(e:0<=z)(a:z<=1):F4 h x 1 z=F4 (λt=>h (Ae t (0,1,0))) x 0 z:=by
 by_cases c:z<=x
 .rw[di (o:=(1,0,2)) ⟨O,d,c⟩,di (o:=(0,2,1)) ⟨O,c,e⟩];simp only[AT,Aq,un,Ae,P6,Ol];grind
 .rw[di (o:=(1,2,0)) ⟨O,a,by change x<=z;grind⟩,di (o:=(2,0,1)) ⟨O,by change x<=z;grind,b⟩];simp only[AT,Aq,un,Ae,P6,Ol];grind
def sh2 {x y:Rat}(a:0<=x)(b:x<=1)(e:0<=y)(d:y<=1):F4 h x y 1=F4 (λt=>h (Ae t (0,0,1))) x y 0:=by
 by_cases c:y<=x
 .rw[di (o:=(2,0,1)) ⟨O,b,c⟩,di (o:=(0,1,2)) ⟨O,c,e⟩];simp only[AT,Aq,un,Ae,P6,Ol];grind
 .rw[di (o:=(2,1,0)) ⟨O,d,by change x<=y;grind⟩,di (o:=(1,0,2)) ⟨O,by change x<=y;grind,a⟩];simp only[AT,Aq,un,Ae,P6,Ol];grind
def aey {x p:Rat}(a:2<=n)(d:n<=7)(j:b+2<=n)(m:0<=p)(l:p<=1)(g:x=(((b:Nat):Int)+p)*((B3 n:Int):Rat)):(A3 n x=b/\Cf n x=p)\/(p=1/\A3 n x=b+1/\Cf n x=0):=by
 have e:AW n x=((b:Nat):Int)+p:=by
  rw[tP a d,g];show Rat.mul_div_cancel (xN a d)
 by_cases h:p=1
 .subst h;have c:HJ (((b:Nat):Int)+(1:Rat))=(b:Int)+1:=by
   rw[sJ,show(((b:Nat):Int):Rat)+1=(((b:Int)+1:Int):Rat) by rw[Oa];rfl,Rat.floor_intCast]
  unfold Cf A3;rw[e,c]
  by_cases f:b+3<=n
  .refine .inr ⟨U,Y,?_⟩;rw[show(((min ((b:Int)+1) ((n:Int)-2)).toNat:Nat):Int)=(b:Int)+1 by lia,Oa];have:((1:Int):Rat)=1:=U;grind
  .refine .inl ⟨Y,?_⟩;rw[show(((min ((b:Int)+1) ((n:Int)-2)).toNat:Nat):Int)=(b:Int) by lia];grind
 .have c:HJ (((b:Nat):Int)+p)=(b:Int):=by
   have i:=aaJ (((b:Nat):Int)+p);have k:=aaI (((b:Nat):Int)+p);generalize HJ (((b:Nat):Int)+p)=z at *;have f:(((z:Int)):Rat)<(((b:Int)+1:Int):Rat):=by
    rw[Oa];have:((1:Int):Rat)=1:=U;grind
   have a:(((b:Int)):Rat)<((z+1:Int):Rat):=by grind
   have f:z<(b:Int)+1:=by exact_mod_cast f
   have a:(b:Int)<z+1:=by exact_mod_cast a
   lia
  unfold Cf A3;rw[e,c];refine .inl ⟨Y,?_⟩;rw[show(((min (b:Int) ((n:Int)-2)).toNat:Nat):Int)=(b:Int) by lia];grind
def ab7 {x y z:Rat} (B:2 <= n) (C:n <= 7) (I:b.1 + 2 <= n) (bb:b.2.1 + 2 <= n) (G:b.2.2 + 2 <= n) (q:0 <= x) (r:x <= 1) (l:0 <= y) (m:y <= 1) (i:0 <= z) (h:z <= 1)
  (F:c.a=(((b.1:Nat):Int)+x)*((B3 n:Int):Rat))(H:c.b=(((b.2.1:Nat):Int)+y)*((B3 n:Int):Rat))(J:c.c=(((b.2.2:Nat):Int)+z)*((B3 n:Int):Rat)):
  FF n f c g=F4 (λt=>((g (f (Ae b t)):Int):Rat)) x y z:=by
 have p:(0:Rat)<=0:=by grind
 have o:(0:Rat)<=1:=by grind
 change F4 (G9 n f c g) (Cf n c.a) (Cf n c.b) (Cf n c.c)=_;obtain⟨A,u,v⟩:=b;have k:∀ {s1 s2 s3:Nat},A3 n c.a=A+s1->A3 n c.b=u+s2->A3 n c.c=v+s3->G9 n f c g=λt=>((g (f (Ae (A,u,v) (Ae t (s1,s2,s3)))):Int):Rat):=λ{s1 s2 s3} d s L=>by
  funext t
  change((g (f (A3 n c.a+t.1,A3 n c.b+t.2.1,A3 n c.c+t.2.2)):Int):Rat)=((g (f (A+(t.1+s1),u+(t.2.1+s2),v+(t.2.2+s3))):Int):Rat)
  rw[d,s,L,Py,Py,Py,P5 s1,P5 s2,P5 s3]
 rcases aey B C I q r F with ⟨e,D⟩|⟨rfl,e,D⟩<;>rcases aey B C bb l m H with ⟨j,E⟩|⟨rfl,j,E⟩<;>rcases aey B C G i h J with ⟨d,s⟩|⟨rfl,d,s⟩<;>rw[D,E,s]
 .rw[k (s1:=0) (s2:=0) (s3:=0) e j d];rfl
 .rw[k (s1:=0) (s2:=0) (s3:=1) e j d,sh2 q r l m]
 .rw[k (s1:=0) (s2:=1) (s3:=0) e j d,sh1 q r i h]
 .rw[k (s1:=0) (s2:=1) (s3:=1) e j d,sh1 q r i h,sh2 q r p o];rfl
 .rw[k (s1:=1) (s2:=0) (s3:=0) e j d,sh0 l m i h]
 .rw[k (s1:=1) (s2:=0) (s3:=1) e j d,sh0 l m i h,sh2 p o l m];rfl
 .rw[k (s1:=1) (s2:=1) (s3:=0) e j d,sh0 l m i h,sh1 p o i h];rfl
 .rw[k e j d,sh0 l m i h,sh1 p o i h,sh2 p o p o];rfl
def JB (o:Pv)(k:Nat):Nat:=if o.1=k then 0 else if o.2.1=k then 1 else 2
structure Ja (n:Nat)(b:Kn)(o:Pv)(p:Nat->Rat)(c:Q3):Prop where
 fall:F_ p o
 lo:∀ k,k<3->0<=p k
 hi:∀ k,k<3->p k<=1
 ca:c.a=(((b.1:Nat):Int)+p 0)*((B3 n:Int):Rat)
 cb:c.b=(((b.2.1:Nat):Int)+p 1)*((B3 n:Int):Rat)
 cc:c.c=(((b.2.2:Nat):Int)+p 2)*((B3 n:Int):Rat)
def yQ (h:F_ p o):F_ (Aq (p 0) (p 1) (p 2)) o:=by obtain⟨m,a,b⟩:=h;refine⟨m,?_,?_⟩<;>(simp only[Bc,MA,MQ,Ob] at m;rcases m with rfl|rfl|rfl|rfl|rfl|rfl<;>first|show a|show b)
def yD (m:o∈Bc):AT h (Aq (p 0) (p 1) (p 2)) o.1 o.2.1 o.2.2=AT h p o.1 o.2.1 o.2.2:=by simp only[Bc,MA,MQ,Ob] at m;rcases m with rfl|rfl|rfl|rfl|rfl|rfl<;>rfl
def FN (n:Nat)(b:Kn):Prop:=b.1+2<=n/\b.2.1+2<=n/\b.2.2+2<=n
def Ja.four (h:Ja n b o p c)(d:2<=n)(e:n<=7)(a:FN n b)(f:X0)(g:R3->Int):FF n f c g=AT (λt=>((g (f (Ae b t)):Int):Rat)) p o.1 o.2.1 o.2.2:=by rw[ab7 d e a.1 a.2.1 a.2.2 (h.lo 0 O) (h.hi 0 O) (h.lo 1 O) (h.hi 1 O) (h.lo 2 O) (h.hi 2 O) h.ca h.cb h.cc,di (yQ h.fall),yD h.fall.1]
def Ja.wi (h:Ja n b o p c)(l:2<=n)(r:n<=7)(a:FN n b):c.Wi ((60:Int):Rat):=by
 obtain⟨j,i,y⟩:=jo l r;have f:(0:Rat)<((B3 n:Int):Rat):=by exact_mod_cast j
 have d:((B3 n:Int):Rat)*(((n:Int)-1:Int):Rat)=((60:Int):Rat):=by rw[<- MU,i]
 have one:∀ {m:Nat}{q x:Rat},m+2<=n->0<=q->q<=1->x=(((m:Nat):Int)+q)*((B3 n:Int):Rat)->0<=x/\x<=((60:Int):Rat):=λ{m q x} B D A e=>by
  have C:(0:Rat)<=(((m:Nat):Int):Rat):=by exact_mod_cast (show(0:Int)<=(m:Int) by lia)
  have z:(((m:Nat):Int):Rat)+1<=(((n:Int)-1:Int):Rat):=by
   have:(((m:Int)+1:Int):Rat)<=(((n:Int)-1:Int):Rat):=by exact_mod_cast (show(m:Int)+1<=(n:Int)-1 by lia)
   rw[Oa] at this;show this
  rw[e];refine⟨VD (by grind) (Q_ f),?_⟩;rw[<- d,Rat.mul_comm ((B3 n:Int):Rat)];show Rat.mul_le_mul_of_nonneg_right (by grind) (Q_ f)
 obtain⟨u,v⟩:=one a.1 (h.lo 0 O) (h.hi 0 O) h.ca;obtain⟨g,t⟩:=one a.2.1 (h.lo 1 O) (h.hi 1 O) h.cb;obtain⟨s,k⟩:=one a.2.2 (h.lo 2 O) (h.hi 2 O) h.cc;show⟨u,v,g,t,s,k⟩
def J8 (i j:Int):Prop:=0<=j/\j<=1000/\Sm 8000 i
def adv:Ct X (RX .Pow) (rI J8 λi j=>↑(i^j.toNat)):=opI λi j _ _ _ _ _ a q=>pow_int a.1 (by
 have b:(Sz i:Int)<=8000:=by exact_mod_cast a.2.2.bits
 show WU (Int.mul_le_mul b a.2.1 a.1 O) O) q
end TR
namespace PySem
variable {prog:MY}
section
variable {w:Nr}{A:Nw}{E:My}{s:Mt}{d it:MF}{es:Array OS}{i ep:Nat}
def abG (hh:A.handled=none) (a:s.heap.IsKeyIter it d i es.size ep) (h:s.heap.RawD d es ep) (j:es.size <= i)
  (l:∀ h',SD it s.heap h'->Q none { s with heap:=h' }):MI (MW prog w) A (QM ↥it) Q E s:=by
 obtain⟨o,g,m,f⟩:=id a;obtain⟨n,b,k,e⟩:=id h;have c:OH "dict_keyiterator"=false:=O
 unfold QM;refine HD (OO (Nu a.typeIs OI
  (Nt OI a.typeIs Sc ?_ (R0 _))))
 refine HD (Mm (HD (HD ?_)))
 first|refine HD (O9 a.typeIs (Mm ?_))|refine HD (P4 a.typeIs (Mm ?_))
 refine HD (QT g f ?_);simp only[c,M2,Oj];change MI _ _ (if(MT d==Nc)=true then _ else _) _ _ s;rw[MZ (show ¬ ((MT d==Nc)=true) from M3)];refine HD (Mm (HD (Oq b e ?_)));rw[MZ zyA];refine HD (Mm (HD (Qz b e ?_)));rw[MZ zyA];refine Mm ?_;simp only[show ¬ ((i:Int)<0) from by lia,Oj,Ng,UD j];refine HD ?_
 first|refine HD (O9 a.typeIs (Mm ?_))|refine HD (P4 a.typeIs (Mm ?_))
 change MI _ _ (Vp ↥it 0 .none>>=_) _ _ s;refine HD (Of g f zyA ?_);change MI _ _ (newExc (.type "StopIteration") []>>=_) _ _ _;refine HD ?_;simp only[newExc,newTuple];refine HD (No (HD (RT (by first|rfl|(simp only[RY];rfl)) ?_)) (by size_fits));refine No ?_ (by size_fits);simp only[raiseNew];refine HD (Ut ?_);rw[show A.in1.handled=none from hh];refine HD (Mm (Uv ?_));refine HD (OP ⟨_,Ms _ U,U⟩ Tw ?_);show Mm (l _ (((M_ ..).extBut.push _).push _))
def adC (a:s.heap.IsKeyIter it d i es.size ep) (l:s.heap.RawD d es ep) (m:es[i]?=Z e)
  (n:∀ h',h'.IsKeyIter it d (i+1) es.size ep->NF it s.heap h'->Q (Z e.key) { s with heap:=h' }):MI (MW prog w) A (QM ↥it) Q E s:=by
 obtain⟨o,j,p,h⟩:=id a;obtain⟨q,f,k,g⟩:=id l;have c:OH "dict_keyiterator"=false:=O
 unfold QM;refine HD (OO (Nu a.typeIs OI
  (Nt OI a.typeIs Sc ?_ (R0 _))))
 refine HD (Mm (HD (HD ?_)))
 first|refine HD (O9 a.typeIs (Mm ?_))|refine HD (P4 a.typeIs (Mm ?_))
 refine HD (QT j h ?_);simp only[c,M2,Oj];change MI _ _ (if(MT d==Nc)=true then _ else _) _ _ s;rw[MZ (show ¬ ((MT d==Nc)=true) from M3)];refine HD (Mm (HD (Oq f g ?_)));rw[MZ zyA];refine HD (Mm (HD (Qz f g ?_)));rw[MZ zyA];refine Mm ?_;simp only[show ¬ ((i:Int)<0) from by lia,Oj,Ng,m];refine HD ?_
 first|refine HD (O9 a.typeIs (Mm ?_))|refine HD (P4 a.typeIs (Mm ?_))
 refine HD (wpAny_isOneOf_keyiter a.typeIs ?_);change MI _ _ (Vp ↥it 1 (ON ((i:Int)+1))>>=_) _ _ s;refine HD (Of j h zyA ?_);have b:(s.heap.update it (NC (·.setIfInBounds 1 (ON ((i:Int)+1))))).IsKeyIter it d (i+1) es.size ep:=
  ⟨_,M4 _ j (NK (Nf h _)),PV ..\p,by rw[Nf h];simp[ON]⟩
 refine HD (Nv (HD (wpAny_isOneOf_keyiter (s:={ s with heap:=s.heap.update it (NC (·.setIfInBounds 1 (ON ((i:Int)+1)))) }) b.typeIs ?_)));change MI _ _ (pure e.key) _ _ _;show Mm (Mm ⟨_,U,Mm (n _ b (M_ ..))⟩)
end
section
variable {w:Nr}{A:Nw}{E:My}{s:Mt}{d:MF}{es:Array OS}{ep:Nat}
def zk (f:(d == Oe)=false) (c:s.heap.RawD d es ep)
  (g:Q ↥s⁻¹ { s with heap:=s.heap.push { cls:=.type "dict_keyiterator",data:=.fields #[↥d,.int 0 0,.int es.size 0,.int ep 0] } }):MI (MW prog w) A (Wk ↥d) Q E s:=by
 obtain⟨o,e,h,a⟩:=id c;have b:s.TypeIs ↥d "dict":=c.typeIs;refine RU b Ux (Nt Ux b F.entry_dict_iter ?_ (F.args_dict_iter_1 _));unfold OJ.«dict.__iter__»;refine HD ?_;unfold Builtin.Dict.dictSlotNone;refine HD (Sa b ?_);change MI _ _ (pure (MT d)) _ _ s;refine Mm ?_;change MI _ _ (Qo d>>=_) _ _ s;unfold Qo;rw[MZ (by rw[f];show M3)];refine HD (Mm (HD (Oq e a (HD (Qz e a (HD (No (Mm ⟨_,U,"dict_keyiterator",_,⟨_,Ms _ U,U⟩,OI.lookup,?_⟩))))))))
 simpa [ON] using g
end
end PySem
namespace TR
open PySem PySem.Spec PyProof.Rows L2
def JO (t:Kn):Nat->Nat
 |0=>t.1
 |1=>t.2.1
 |_=>t.2.2
def B5 (o:Pv)(t:Kn):Kn:=(JO t o.1,JO t o.2.1,JO t o.2.2)
def Lg (o:Pv):Nat×Nat×Nat:=(JB o 0,JB o 1,JB o 2)
def jJ {P:Nat×Nat×Nat->Prop}{o:Pv}(h:o∈Bc)(a:P (0,1,2))(e:P (0,2,1))(d:P (1,0,2))(b:P (1,2,0))(f:P (2,0,1))(c:P (2,1,0)):P o:=by simp only[Bc,MA,MQ,Ob] at h;rcases h with rfl|rfl|rfl|rfl|rfl|rfl<;>assumption
noncomputable def fT (o:Pv)(f:X0)(t:Kn):R3:=f (B5 (Lg o) t)
def re {K:KE}{H:Hp}{c:Q3}{xs:List V}(h:Af K H c.ds xs){k:Nat}(f:k<3):∃ v,xs[k]?=Z v/\Ad K H (rD (Aq c.a c.b c.c k)) v:=by
 obtain⟨x,y,z,rfl,g,d,e⟩:=b_ h
 match k,f with
 |0,_=>show⟨x,U,g⟩
 |1,_=>show⟨y,U,d⟩
 |2,_=>show⟨z,U,e⟩
def sup {M:V->Hp->Prop}{I:V->Hp->Prop}{G:Prop}(AQ:∀ v H,I v H->M v H)(main:(∀ v H,I v H->M v H)->G):G:=main AQ
variable {X:Cx}
section
variable {pins:Lb}{σ:L2.St}{H H2:Hp}{s s2:Mt}
def zV (I:Ag X pins σ H2 s2)
  (c:∀ b∈fp,Dq X pins H2 b)(J:Ag (Av X N scope (Aj X scope C) C s2 H2 fp pins) pl σ0 H' s'):Ag X pins σ H' s':=by
 refine I.call' (ch:=fp) J.os J.base J.hok J.bare λb a=>?_
 obtain⟨_,e,_,d,f,g⟩:=c b a;show⟨d,e,f,g⟩
end
def acH:Ny "any"=Z (.builtin "any"):=zyB
def zX (bs:List Bool):(NG ⇑bs).any (λi=>(bs[i]?).getD true)=bs.any id:=by
 rw[Bool.eq_iff_iff,Sd,Sd];constructor
 .rintro⟨i,a,h⟩;have a:=Od.mp a;show⟨bs[i],Oy a,by simpa [a] using h⟩
 .rintro⟨b,c,h⟩;obtain⟨i,a,rfl⟩:=N5 c;show⟨i,Od.mpr a,by simpa [a] using h⟩
section
variable {K:KE}
def Ko (K:KE):List V->Hp->VK->Prop:=λa H Q=>∃ (p:MF) (bs:List Bool),a=[↥p]/\An K H p (bs.map V.bl)/\Q (.bl (bs.any id)) H
def abt (B:X.calm=true):AI X (.builtin "any") (Ko X.K):=by
 intro a s m H M J Q I r h;obtain⟨p,bs,rfl,z,q⟩:=h;obtain⟨u,rfl,C⟩:=fV r;cases C;obtain⟨c,k,d,G⟩:=I.list z;have l:=⇑k;rw[Mq] at l;have lt:p<s⁻¹:=by
  obtain⟨o,e,_⟩:=d.isList;show Mr e
 refine call_any_walk (OG d.isList (⟨s⁻¹,_,_,_,_,_,λi=>(bs[i]?).getD true,U,WJ (show X.A.in1.handled=none from I.ok.hd B) _ p (MH lt) c.toArray,⟨⟨_,Ms _ U,U,U⟩,d.isList.push _⟩,λi v E L F g hq=>?_,λn y D=>?_⟩))
 .have j:i<⇑bs:=by
   have:=(Ni.mp g).1;rw[MJ] at this;lia
  obtain⟨w,t,f⟩:=k.get (i:=i) (x:=.bl bs[i]) (by simp[j]);have:c[i]?=Z v:=by simpa using g
  rw[t] at this;rw[(Mn this).symm.trans f];refine NV ?_;have e:(bs[i]?).getD true=bs[i]:=by simp[j]
  show e▸hq
 .have f:Ag X a m H { s with heap:=n,toks:=y }:=I.kept λb o e=>D b o (by simp;show MH (Mr e)) (Ml _ e)
  refine⟨.bl _,H,f,?_,q⟩;change Ra _=Ra _;rw[<- zX,MJ,<- l]
def aei (e:X.K=K)(a:X.calm=true):AI X (.builtin "any") (Ko K):=by subst e;show abt a
def Kv:V->V->Hp->VK->Prop:=λo i H Q=>∃ p a k v,o=↥p/\i=↑k/\0<=k/\H p=Z (.lst a)/\a[k.toNat]?=Z v/\Q v H
def aaG:KI X Kv:=by intro b s u H o i ov y Q I d e h;obtain⟨p,B,k,v,rfl,rfl,m,j,c,q⟩:=h;cases d;obtain⟨t,rfl⟩:=e;obtain⟨g,n,r,l,z⟩:=I.lst j;obtain⟨w,f,a⟩:=r.get c;have A:=⇑r;have x:=kC;have lt:=(Mp.mp c).1;show wpAny_getItem_list ⟨_,l,U,n,U⟩ m Y (by simpa using f) ⟨v,H,I,a,q⟩
end
structure Rw where
 w:Int
 x:Int
 y:Int
 z:Int
noncomputable def Rw.ns (r:Rw):List Int:=[r.w,r.x,r.y,r.z]
noncomputable def Rw.d (r:Rw):NM:=.tuple (r.ns.map O7)
structure Rw.In (r:Rw)(m:Int):Prop where
 w0:-m<=r.w
 w1:r.w<=m
 x0:-m<=r.x
 x1:r.x<=m
 y0:-m<=r.y
 y1:r.y<=m
 z0:-m<=r.z
 z1:r.z<=m
def KY (i:Int):Int:=min (max i 0) 1000
noncomputable def Rw.at (r:Rw)(t:Kn):Int:=KY (r.w+(r.x*(t.1:Int)+(r.y*(t.2.1:Int)+r.z*(t.2.2:Int))))
def Jv (a b c:Rw)(t:Kn):R3:=⟨a.at t,b.at t,c.at t⟩
def Ed (K:KE)(H:Hp)(p:Kn×(Nat×Nat×Nat))(v:V):Prop:=∃ q a b,v=↥q/\H q=Z (.tup [↥a,↥b])/\H a=Z (.tup (BQ p.1))/\KT K b (BQ p.2)
def Ed.same {K:KE}(h:Ed K H p v)(s:Aa H H'):Ed K H' p v:=by obtain⟨q,a,b,c,f,e,d⟩:=h;show⟨q,a,b,c,s _ _ f,s _ _ e,d⟩
inductive Be (K:KE)(H:Hp):List (Kn×(Nat×Nat×Nat))->List V->Prop
 |nil:Be K H [] []
 |snoc {ps ys p v}:Be K H ps ys->Ed K H p v->Be K H (ps++[p]) (ys++[v])
def Be.same {K:KE}(h:Be K H ps ys)(s:Aa H H'):Be K H' ps ys:=by
 induction h with
 |nil=>show .nil
 |snoc _ b a=>show .snoc a (b.same s)
def Be.length {K:KE}(h:Be K H ps ys):⇑ps=⇑ys:=by
 induction h with
 |nil=>rfl
 |snoc _ _ a=>rw[MP,MP,a];rfl
def Be.get {K:KE}{i:Nat}(h:Be K H c ys)(e:ys[i]?=Z v):∃ p,c[i]?=Z p/\Ed K H p v:=by
 induction h with
 |nil=>cases e
 |@snoc c ys p u a b f=>
  have d:=⇑a;rcases TX i ⇑ys with z|z|z
  .rw[NY z] at e;rw[NY Y];show f e
  .subst z;rw[NR (Mz _),U9] at e;cases e;show⟨p,by rw[NR Y,d,U9];rfl,b⟩
  .rw[U1 (by rw[MP,R5];lia)] at e;cases e
def Bm (t:Kn)(j:Nat):List (Kn×(Nat×Nat×Nat)):=(Bc.take j).map λo=>(t,o)
def Bz (ts:List Kn):List (Kn×(Nat×Nat×Nat)):=ts.flatMap λt=>Bm t 6
def AM (n:Nat):List (Kn×(Nat×Nat×Nat)):=Bz (As (n-1))
def ui (ts:List Kn)(t:Kn):Bz (ts++[t])=Bz ts++Bm t 6:=by unfold Bz;rw[P8];simp
def iN (ts:List Kn):⇑(Bz ts)=6*⇑ts:=by
 induction ts with
 |nil=>rfl
 |cons t ts a=>
  have:Bz (t::ts)=Bm t 6++Bz ts:=by unfold Bz;rw[Ww]
  rw[this,MP,a,Np];have:⇑(Bm t 6)=6:=U;lia
def uC (e:Bc[j]?=Z o):Bm t (j+1)=Bm t j++[(t,o)]:=by unfold Bm;rw[bD e,Nx];rfl
def iI:p∈AM n↔p.1∈As (n-1)/\p.2∈Bc:=by
 unfold AM Bz Bm;rw[QU];constructor
 .rintro⟨t,b,h⟩;rw[Nh O] at h;obtain⟨o,a,rfl⟩:=Nd.mp h;show⟨b,a⟩
 .rintro⟨a,b⟩;refine⟨p.1,a,?_⟩;rw[Nh O];show Nd.mpr ⟨p.2,b,U⟩
noncomputable def R3.sub (r s:R3):R3:=⟨r.a-s.a,r.b-s.b,r.c-s.c⟩
def IT (c a b d:R3):S9:=⟨true,true,true,true,a.sub c,b.sub a,d.sub b⟩
def I_ (t:Kn)(o:Pv)(i:Nat):List Kn:=(NG i).map λj=>Ae t (Bf o j)
def ab3 (t:Kn)(o:Pv)(i:Nat):I_ t o (i+1)=I_ t o i++[Ae t (Bf o i)]:=by unfold I_;rw[O2,Nx];rfl
def vd (s:Aa H H')(h:H' a=none):H a=none:=by
 cases e:H a with
 |none=>rfl
 |some o=>
  rw[s _ _ e] at h;cases h
def Af.lput {K:KE}(a:H F=Z (.lst ys))(t:Bn ds=true)(h:Af K H ds vs):Af K (upd H F (.lst zs)) ds vs:=
 Af.mv (T:=[F]) (λb o e n=>by rw[ar (λz=>n (by simp[z]))];show e) (λb m=>⟨ys,by rw[Mu.mp m];show a⟩) t h
def Au (f:X0)(p:Kn×(Nat×Nat×Nat)):S9:=IT (f (Ae p.1 (Bf p.2 0))) (f (Ae p.1 (Bf p.2 1))) (f (Ae p.1 (Bf p.2 2))) (f (Ae p.1 (Bf p.2 3)))
def wy {r s:R3}(a:r.Wt)(b:s.Wt):(r.sub s).In 4000:=by obtain⟨c,f,j,k,c0,c1⟩:=a;obtain⟨e,h,l,d,g,i⟩:=b;refine⟨?_,?_,?_,?_,?_,?_⟩<;>(simp only[R3.sub];lia)
def abQ {e a c d:R3}(h:e.Wt)(b:a.Wt)(f:c.Wt)(g:d.Wt):(IT e a c d).In:=⟨wy b h,wy f b,wy g f⟩
def wd (h:FN n t)(d:u.1<=1/\u.2.1<=1/\u.2.2<=1):Ae t u∈As n:=by obtain⟨a,c,b⟩:=h;show cY.mpr ⟨by change t.1+u.1<n;lia,by change t.2.1+u.2.1<n;lia,by change t.2.2+u.2.2<n;lia⟩
def nv (d:2<=n)(h:t∈As (n-1)):FN n t:=by obtain⟨b,a,c⟩:=cY.mp h;show⟨Y,Y,Y⟩
def JR (t:Kn):List Int:=[(t.1:Int),(t.2.1:Int),(t.2.2:Int)]
def kX {l m a b c:Int}(e:l<=a/\a<=m)(d:l<=b/\b<=m)(f:l<=c/\c<=m):Mf 3 l m (.tuple [↑a,↑b,↑c])=true:=by change((decide (l<=a)&&decide (a<=m))&&((decide (l<=b)&&decide (b<=m))&&((decide (l<=c)&&decide (c<=m))&&true)))=true;rw[MB e.1,MB e.2,MB d.1,MB d.2,MB f.1,MB f.2];rfl
open PySem.W PySem.Calls
variable {prog:MY}
section
variable {w:Nr}{d:MF}{es:Array OS}{ep:Nat}
def RawD.kept {h h':Oz}(a:h.RawD d es ep)(k:∀ o,h.get? d=Z o->h'.get? d=Z o):h'.RawD d es ep:=by obtain⟨o,b,r⟩:=a;show⟨o,k o b,r⟩
def RawD.lt {h:Oz}(a:h.RawD d es ep):d<h.objs.size:=by obtain⟨o,b,r⟩:=a;show Mr b
def y_ {A:Nw} (hh:A.handled=none) (I:MF) (j:d ≠ I) :
  Walks prog w A I [I,d] [I] es.size (λi v=>∃ e,es[i]?=Z e/\v=e.key) (λi h=>h.IsKeyIter I d i es.size ep/\h.RawD d es ep) where
 sub:=λb a=>by simp at a;simp[a]
 frame:=λ_ _ _ st m=>⟨st.1.at λo e=>m I zyA o e,RawD.kept st.2 λo e=>m d zyA o e⟩
 item:=λi s Q E n st c=>adC st.1 st.2 (Ti n) λk g f=>c _ k s.toks ⟨_,Ti n,U⟩ ⟨g,RawD.kept st.2 λo e=>f.extBut d o j e⟩ λb o a e=>f.extBut b o (λh=>a (by simp[h])) e
 done:=λs Q E st c=>abG hh st.1 st.2 (Mz _) λk l=>c k s.toks λb o a e=>l b o (λh=>a (by simp[h])) e
 self:=λ_ _ _ _ st c=>wpAny_pyIter_keyiter st.1 c
def ad3 (lo:(d==Oe)=false):KdlSrc prog w "dict" d d es.size (λi v=>∃ e,es[i]?=Z e/\v=e.key) (λh=>h.RawD d es ep) where
 type:=λ_ a=>a.typeIs
 there:=λ_ a=>⟨RawD.lt a,RawD.lt a⟩
 keep:=λ_ _ a c=>RawD.kept a λo e=>c d (.inl rfl) o e
 notList:=O
 notTuple:=O
 hint:=λ_ _ _ _ a hq=>kdl_hint_dict a.typeIs hq
 iter:=λ_ _ b a=>⟨_,_,(λ_ _ hq=>zk lo a hq),y_ b _ (MH (RawD.lt a)),⟨⟨_,Ms _ U,U,U⟩,RawD.kept a λo e=>Ml _ e⟩⟩
end
def Ki (t u:Kn):Prop:=¬ (t.1<u.1\/(t.1=u.1/\(t.2.1<u.2.1\/(t.2.1=u.2.1/\t.2.2<u.2.2))))
theorem rn:∀ {l:List α}{m:List β},⇑l=⇑m->(∀ (i:Nat) a b,l[i]?=Z a->m[i]?=Z b->F a b)->Tc F l m
 |[],[],_,_=>.nil
 |a::l,b::m,h,f=>.cons (f 0 a b rfl rfl) (rn (by simpa using h) λi x y c d=>f (i+1) x y (by simpa using c) (by simpa using d))
 |[],_::_,h,_=>by simp at h
 |_::_,[],h,_=>by simp at h
def jO {q:Q3}{j k:Nat}(h:q.Bd j)(d:k<3):Bq j (Aq q.a q.b q.c k):=by
 match k,d with
 |0,_=>show h.a
 |1,_=>show h.b
 |2,_=>show h.c
instance {t u:Kn}:Decidable (Ki t u):=by unfold Ki;infer_instance
noncomputable def Rw.co (r:Rw):Nat->Int
 |0=>r.x
 |1=>r.y
 |_=>r.z
def A_ (H H':Hp):Prop:=∀ b o,H b=Z o->(∀ C a fs,o≠.ins C a fs)->H' b=Z o
def A_.put (c:H a=Z (.ins C dx fs)):A_ H (upd H a o):=λb u e n=>by
 rw[ar (λz=>by rw[z,c] at e;cases e;show n _ _ _ U)];show e
def Rd.sameI (e:A_ H H')(h:Rd H a (.lst xs)):Rd H' a (.lst xs):=by
 rcases h with h|⟨o,h⟩
 .show .inl (e _ _ h λ_ _ _ z=>nomatch z)
 .show .inr ⟨o,e _ _ h λ_ _ _ z=>nomatch z⟩
def Ad.sameI {K:KE}(e:A_ H H')(h:Ad K H d v):Ad K H' d v:=h.all (λ_ _=>Rd.sameI e) (λ_ _ h=>e _ _ h λ_ _ _ z=>nomatch z) (λ_ h=>e _ _ h λ_ _ _ z=>nomatch z)
def Af.sameI {K:KE}(e:A_ H H')(h:Af K H ds vs):Af K H' ds vs:=h.all (λ_ _=>Rd.sameI e) (λ_ _ h=>e _ _ h λ_ _ _ z=>nomatch z) (λ_ h=>e _ _ h λ_ _ _ z=>nomatch z)
def A6 (K:KE)(H:Hp)(e:En)(v:V):Prop:=∃ (a C c:MF) (x y:V),v=↥a/\Ay K "Ends" C/\H a=Z (.ins C c [("white",x),("black",y)])/\Ad K H (AE false e.w) x/\Ad K H (AE false e.b) y
def A6.same {K:KE}(h:A6 K H e v)(s:Aa H H'):A6 K H' e v:=by obtain⟨a,C,c,x,y,b,g,f,d,i⟩:=h;show⟨a,C,c,x,y,b,g,s _ _ f,Ad.same s d,Ad.same s i⟩
def A6.mv {K:KE}(h:A6 K H e v)(m:Mv T H H')(l:AC H T):A6 K H' e v:=by obtain⟨a,C,d,x,y,c,g,b,f,i⟩:=h;show⟨a,C,d,x,y,c,g,m _ _ b (l.not b λ_ z=>nomatch z),Ad.mv m l rfl f,Ad.mv m l rfl i⟩
def A6.put {K:KE}(h:A6 K H e v)(d:H a=Z (.ins C dx fs))(l:fs.map (·.1)≠[("white":Str),"black"]):A6 K (upd H a o) e v:=by obtain⟨b,D,j,x,y,f,i,c,g,k⟩:=h;refine⟨b,D,j,x,y,f,i,?_,Ad.sameI (A_.put d) g,Ad.sameI (A_.put d) k⟩;rw[ar (λz=>by rw[z,d] at c;cases c;show l rfl)];show c
def Bh.put {K:KE}{n:Nat}(h:Bh K H n f v)(e:H a=Z (.ins C dx fs))(j:fs.map (·.1)≠[("knots":Str),"table"]):Bh K (upd H a o) n f v:=by obtain⟨b,D,l,d,m,k,c,i,p,vs,g,q⟩:=h;refine⟨b,D,l,d,m,k,?_,i,p,vs,A_.put e _ _ g (λ_ _ _ z=>nomatch z),Af.sameI (A_.put e) q⟩;rw[ar (λz=>by rw[z,e] at c;cases c;show j rfl)];show c
structure C3 where
 p:List Pt
 q:List Pt
 r:List Pt
noncomputable def C3.at (P:C3):Nat->List Pt
 |0=>P.p
 |1=>P.q
 |_=>P.r
def C3.In (P:C3)(a:Int):Prop:=∀ i,i<3->Ew (P.at i)/\∃ y z,(P.at i)[0]?=Z y/\(P.at i).getLast?=Z z/\z.1=60/\z.2<=a
def C3.In.mono {P:C3}{j k:Int}(h:P.In j)(l:j<=k):P.In k:=λi f=>let ⟨a,y,z,b,c,d,e⟩:=h i f;⟨a,y,z,b,c,d,WU e l⟩
def Bj (K:KE)(H:Hp)(P:C3)(vs:List V):Prop:=⇑vs=3/\∀ (i:Nat) (v:V),vs[i]?=Z v->BP K H (P.at i) v
def Bj.same {K:KE}(h:Bj K H P vs)(s:Aa H H'):Bj K H' P vs:=⟨h.1,λi v e=>(h.2 i v e).same s⟩
def Bj.put {K:KE}(h:Bj K H P vs)(b:H a=Z (.ins C dx fs))(c:fs.map (·.1)≠[("points":Str)]):Bj K (upd H a o) P vs:=⟨h.1,λi v e=>BP.put b (λl z=>c (by rw[z];rfl)) (h.2 i v e)⟩
def Gk (K:KE)(H:Hp)(P:C3)(s:S9)(e:En)(v:V):Prop:=∃ (a C f b:MF) (vs:List V) (q c:V),v=↥a/\Ay K "SquareProfile" C/\H a=Z (.ins C f [("curves",↥b),("square",q),("bounds",c)])/\H b=Z (.lst vs)/\Bj K H P vs/\Ad K H s.d q/\A6 K H e c
def Gh (K:KE)(H:Hp)(P:C3)(f:X0)(e:En)(v:V):Prop:=∃ (a C d b:MF) (vs:List V) (g c:V),v=↥a/\Ay K "GridProfile" C/\H a=Z (.ins C d [("curves",↥b),("grid",g),("bounds",c)])/\H b=Z (.lst vs)/\Bj K H P vs/\Bh K H 2 f g/\A6 K H e c
def Gk.same {K:KE}(h:Gk K H P q e v)(s:Aa H H'):Gk K H' P q e v:=by obtain⟨a,C,c,g,vs,q,m,b,i,j,d,l,f,k⟩:=h;show⟨a,C,c,g,vs,q,m,b,i,s _ _ j,s _ _ d,l.same s,Ad.same s f,k.same s⟩
def Gh.same {K:KE}(h:Gh K H P f e v)(s:Aa H H'):Gh K H' P f e v:=by obtain⟨a,C,c,i,vs,q,n,b,j,k,d,m,g,l⟩:=h;show⟨a,C,c,i,vs,q,n,b,j,s _ _ k,s _ _ d,m.same s,g.same s,l.same s⟩
def Mv.self:Mv T H (TR.cut T H):=λb o e n=>by rw[dO n];show e
def AC.new (l:AC H T)(h:H b=none):b∉T:=λm=>by
 obtain⟨a,e⟩:=l b m;rw[h] at e;cases e
def AC.same (l:AC H T)(s:Aa H H'):AC H' T:=λb m=>let ⟨xs,e⟩:=l b m;⟨xs,s _ _ e⟩
def DD (P:C3)(c r:Q3):Prop:=GU P.p c.a r.a/\GU P.q c.b r.b/\GU P.r c.c r.c
section
variable {K:KE}{g:TG}{tt:TT}{te:TE}{σ0:L2.St}{Fin:SS}{H1:Hp}
def lZ (a:X1) (f:a 0 [] H1) (b:⇑xs=⇑ys) (d:⇑xs <= 1000) (c:∀ i zs H,a i zs H->AF K H a1 xs b1/\AF K H a2 ys b2/\⇑zs <= i)
  (he:∀ (i:Nat) (x y:V) (zs:List V) (T:MF) (H:Hp),xs[i]?=Z x->ys[i]?=Z y->a i zs H->H T=none->Cc g tt te σ0 ↥T (upd H T (.tup [x,y])) λz H'=>a (i+1) (zs++[z]) H')
  (e:∀ zs H,a ⇑xs zs H->Fin zs H):Bi (Jx K b1 b2 a1 a2) g tt te σ0 Fin H1:=by
 rw[b] at d e;show q_ a f (U7 b.symm) d (λi zs H _ p=>c i zs H p) he e
end
def ad0 (h:⇑l=3):∃ a b c,l=[a,b,c]:=by
 match l,h with
 |[a,b,c],_=>show⟨a,b,c,U⟩
def vO:∀ {vs:List V},⇑vs=n->(∀ v∈vs,v=.bl true)->vs=(MN n true).map V.bl:=λ{vs} b a=>by
 rw[S_];show UZ.mpr ⟨b,a⟩
def jE (h:(l++[x])[j]?=Z v):(j<⇑l/\l[j]?=Z v)\/(j=⇑l/\v=x):=by
 by_cases a:j<⇑l
 .rw[NY a] at h;show .inl ⟨a,h⟩
 .rw[NR Y] at h;have b:j-⇑l<1:=by
   have:=(Mp.mp h).1
   simpa using this
  have e:j=⇑l:=Y
  subst e;rw[U9] at h;show .inr ⟨U,(Mn h).symm⟩
def nK {c:Q3}{m:Rat}(h:c.Wi m){k:Nat}(d:k<3):0<=Aq c.a c.b c.c k/\Aq c.a c.b c.c k<=m:=by
 match k,d with
 |0,_=>show⟨h.a0,h.a1⟩
 |1,_=>show⟨h.b0,h.b1⟩
 |2,_=>show⟨h.c0,h.c1⟩
def Jj (K:KE)(x:Str)(sp:Sp)(g:X4)(E:XK)(t h:TA):TE:=λd H Q=>t d H λvs e=>h d e λi c=>∀ C a b,Ay K x C->c a=none->c b=none->b≠a ->
 sp (g (↥a::vs) i) (upd (upd c b (.own a)) a (.ins C b [])) (λv f=>v=.non/\Q ↥a f) E
variable {pos:Pos}
section
variable {CX:C_}{K:KE}{k n j:Nat}{x:Str}{ps ks:List Str}{sp:Sp}{dvs:List V}{p:Pos}{t tk:TA}{e:OZ}{es:List OZ}{kws:List SE}
def zZ (M:Mk X.K C f) (F:Bw X.prog X.w X.K X.mg X.base CX k f fd ps sp) (q:Room (k + 1) X.A)
  (j:C4 X.K fd ps ks g gV)(p:∀ J:Hp,∀ s1:Mt,Ag X pins σ J s1->∀ e c,CX X.stack J s1 E e c->X.xe e c)(I:Ag X pins σ H s)(x:Ah vs us)(m:Ah zs ws)
  (h:∀ a d,H a=none->H d=none->d≠a->sp (gV (↥a::vs) zs) (upd (upd H d (.own a)) a (.ins C d [])) (λv n=>v=.non/\Q ↥a n) E):
  MI (MW X.prog X.w) X.A (call ↥C us (ks.zip ws)) (EP X pins σ Q) X.xe s:=by
 have hq:=h (s⁻¹+1) s⁻¹ (I.hok.fresh (Q5 _)) (I.hok.fresh (Mz _)) (MH (N_ _));have J:=Ag.made (C:=C) I;have i:=j.rel (show Ah (V.ref (s⁻¹+1)::vs) (MT (s⁻¹+1)::us) from .cons rfl x) m;refine P1 (pG I.kIn M.makes M.init (NZ.mp M.fn) (PF (F.run _ X.stack _ _ ⟨MT (s⁻¹+1)::us,ks.zip ws⟩ (g (MT (s⁻¹+1)::us) ws) _ _ E (q.make C us (ks.zip ws))
  (J.env0.make C us (ks.zip ws)) (j.to _ (MT (s⁻¹+1)::us) ws J.kIn (i.length.symm\F.len _ _ _ _ hq)) i hq) λz c b=>?_))
 match z,b with
 |.error v,b=>show p _ _ J v c b
 |.ok (.ret u),b=>
  obtain⟨v,o,l,t,r,y⟩:=J.after b;subst r;show⟨t,⟨V.ref (s⁻¹+1),o,l,U,y⟩⟩
def uS (hK:X.K=K) (N:HN CX) (C:DV X.prog X.w X.K X.mg X.base CX k x "__init__" ps ks n j dvs sp) (hr:Room (k + 1) X.A) (hg:Gl X x) (M:PA X (e :: es) t) (l:PK X kws tk)
  (c:(QI pos (OX kws X.env)).all (·.1.isSome)=true<|>C')(u:(QI pos (OX kws X.env)).filterMap (·.1)=ks<|>C')(q:(x==("__debug__":Str))=false<|>Cb)
  (g:M0 (e::es) X.env=(false,QA e X.env)::M0 es X.env<|>C')
  (i:((Qx pos (M0 (e::es) X.env)).any (·.1)||(QI pos (OX kws X.env)).any (·.1.isNone))=false<|>C'):
  PE X (.Call (.Name x p) (e::es) kws pos) (Jj K x sp (Cv n j dvs) E0 t tk):=by
 subst hK;obtain⟨D,f,fd,ds,fs0,F,d,y,hmg,hb⟩:=C.ex;refine ⟨λb s v H Q I h=>NX (eB I hg hmg (VR I.ok.mod.kin d.kp c (bo (M pos b s v H _ I h) λus B o=>?_) i g) q)⟩;obtain⟨vs,H1,m,ru,S⟩:=o;refine (bo (l pos b B v H1 _ m S) λws s2 r=>?_);obtain⟨zs,H2,E,G,R⟩:=r;refine⟨E.kIn,?_⟩;rw[u];show zZ ⟨d.makes,y.at_,y.fn,d.kp⟩ F hr hb (λJ B m e s' z=>(mr N) _ _ _ _ _ _ m z) E ru G λa T h1 h2 L=>R D a T d.at_ h1 h2 L
end
def abN {a v:Rat}(h:Ew ps)(b:ps[0]?=Z y)(e:ps.getLast?=Z z)(d:z.2<=60)(c:0<=a)(o:GU ps a v):0<=v/\v<=((60:Int):Rat):=by obtain⟨l,u⟩:=uK h b e c o;show⟨Pj (Te.mpr (h.inn y (MD b)).b1) l,Pj u (UL.mpr d)⟩
def aed (h:P.In 60)(o:DD P c r)(wi:c.Wi ((60:Int):Rat)):r.Wi ((60:Int):Rat):=by obtain⟨l,p,t,i,f,_,d⟩:=h 0 O;obtain⟨k,u,s,e,g,_,j⟩:=h 1 O;obtain⟨m,v,q,b,a,_,n⟩:=h 2 O;have x:=abN l i f d wi.a0 o.1;have y:=abN k e g j wi.b0 o.2.1;have z:=abN m b a n wi.c0 o.2.2;show⟨x.1,x.2,y.1,y.2,z.1,z.2⟩
def yT {d:Int}(h:P.In d)(x:DD P c r)(y:DD P c r'):r=r':=by have a:=lE (h 0 O).1 x.1 y.1;have b:=lE (h 1 O).1 x.2.1 y.2.1;have c:=lE (h 2 O).1 x.2.2 y.2.2;cases r;cases r';simp only at a b c;subst a b c;rfl
noncomputable def S9.cp (s:S9):S9:=⟨true,true,true,true,s.x,s.y,s.z⟩
def S9.In.cp {s:S9}(h:s.In):s.cp.In:=⟨h.x,h.y,h.z⟩
noncomputable def S9.row (s:S9):Nat->R3
 |0=>s.x
 |1=>s.y
 |_=>s.z
def aeA {K:KE}{H:Hp}{s:S9}{xs:List V}(h:Af K H s.rows xs){i:Nat}{x:V}(e:xs[i]?=Z x):i<3/\∃ k,Ad K H (AE k (s.row i)) x:=by
 obtain⟨f,g,d,rfl,c,a,b⟩:=b_ h;rcases j7 e with ⟨rfl,rfl⟩|⟨rfl,rfl⟩|⟨rfl,rfl⟩
 .show⟨O,_,c⟩
 .show⟨O,_,a⟩
 .show⟨O,_,b⟩
def Jz:S9 ⊕ (Kn->R3)->Q3->Q3
 |.inl s,r=>s.m.led r
 |.inr f,r=>W4 2 f r
def jc (m:Mv T H H')(h:H' l=none)(n:l∉T):H l=none:=by
 cases z:H l with
 |none=>rfl
 |some o=>rw[m _ _ z n] at h;cases h
def AtD (K:KE)(x:Str)(st:On):Prop:=∃ f e i c kV b h g a d,ML K ME x=Z (Z ↥f)/\K.lookup f=Z ⟨e,i,.func (M5 x x (Ak st) (Ai st) (Ab st) .none kV b h g a d),c⟩/\Nj K a x=true/\M8 K ↥f=true
def AtM (K:KE)(x m a:Str)(st:On):Prop:=∃ C f g j d kV c i h b e,ML K ME x=Z (Z ↥C)/\M7 K ↥C m=Z (Z ↥f)/\K.lookup f=Z ⟨g,j,.func (M5 m a (Ak st) (Ai st) (Ab st) .none kV c i h b e),d⟩/\Nj K b a=true/\M8 K ↥f=true/\O3 K ↥f=true
def AtD.of {K:KE}{x:Str}{st:On}{f:MF}{h kV b l a d:Mo}{m i:Option MF}{c:S1}(e:ML K ME x=Z (Z ↥f))(k:K.lookup f=Z ⟨h,m,.func (M5 x x (Ak st) (Ai st) (Ab st) .none kV b l i a d),c⟩)(j:Nj K a x=true)(g:M8 K ↥f=true):AtD K x st:=⟨_,_,_,_,_,_,_,_,_,_,e,k,j,g⟩
def AtM.of {K:KE}{x m a:Str}{st:On}{C f:MF}{j kV c n b h:Mo}{o e:Option MF}{d:S1}(p:ML K ME x=Z (Z ↥C))(l:M7 K ↥C m=Z (Z ↥f))(g:K.lookup f=Z ⟨j,o,.func (M5 m a (Ak st) (Ai st) (Ab st) .none kV c n e b h),d⟩)(i:Nj K b a=true)(q:M8 K ↥f=true)(k:O3 K ↥f=true):AtM K x m a st:=⟨_,_,_,_,_,_,_,_,_,_,_,p,l,g,i,q,k⟩
def gOf {K:KE}{i:Int}(h:ML K ME x=Z (Z (.int i t))):∃ t,ML K ME x=Z (Z (.int i t)):=⟨t,h⟩
def BA (f:OQ)(b:List Str)(a:List Mo):Prop:=QJ f ⟨a,[]⟩=pure (b.zip a)
section
variable {K:KE}{mg:O'}{x m qual:Str}{st:On}{ps fs:List Str}{h:Oz}
def AtD.dfn (a:AtD K x st)(X:K.In h)(G:h.Ns ME mg)(i:∀ kV b m j c e d,⇑d=⇑ps->BA (M5 x x (Ak st) (Ai st) (Ab st) .none kV b m j c e) ps d):AK K mg x st ps []:=by obtain⟨_,_,_,_,_,_,_,_,_,_,f,l,k,g⟩:=a;show vR l k g (Nn X G f) (i _ _ _ _ _ _)
def AtM.dfn (a:AtM K x m qual st)(X:K.In h)(G:h.Ns ME mg)(n:BN K x fs=true)(k:∀ kV b p f c i e,⇑e=⇑ps->BA (M5 m qual (Ak st) (Ai st) (Ab st) .none kV b p f c i) ps e):BO K mg x m qual st ps []:=by obtain⟨_,_,_,_,_,_,_,_,_,_,_,d,o,g,j,q,l⟩:=a;show adH g j q l d o n (Nn X G d) (k _ _ _ _ _ _)
abbrev _root_.Xu:=List Mo->Prop
def usS {P:Xu}{b:List Mo}{n:Nat}(h:⇑b=n+1)(k:∀ a vs,⇑vs=n->P (a::vs)):P b:=by
 cases b with
 |nil=>cases h
 |cons a vs=>show k a vs (Nat.succ.inj h)
def us0 {P:Xu}{b:List Mo}(h:⇑b=0)(k:P []):P b:=by
 cases b with
 |nil=>show k
 |cons a vs=>cases h
def us1 {P:Xu}{b:List Mo}(h:⇑b=1)(k:∀ a,P [a]):P b:=usS h λa _ h=>us0 (P:=λv=>P (a::v)) h (k a)
def us2 {P:Xu}{c:List Mo}(h:⇑c=2)(k:∀ a b,P [a,b]):P c:=usS h λa _ h=>us1 (P:=λv=>P (a::v)) h (k a)
def us3 {P:Xu}{d:List Mo}(h:⇑d=3)(k:∀ a b c,P [a,b,c]):P d:=usS h λa _ h=>us2 (P:=λv=>P (a::v)) h (k a)
def us4 {P:Xu}{e:List Mo}(h:⇑e=4)(k:∀ a b c d,P [a,b,c,d]):P e:=usS h λa _ h=>us3 (P:=λv=>P (a::v)) h (k a)
def us5 {P:Xu}{f:List Mo}(h:⇑f=5)(k:∀ a b c d e,P [a,b,c,d,e]):P f:=usS h λa _ h=>us4 (P:=λv=>P (a::v)) h (k a)
def ex0 {a:List Mo}(h:⇑a=0):a=[]:=us0 (P:=λa=>a=[]) h rfl
def ex1 {b:List Mo}(h:⇑b=1):∃ a,b=[a]:=us1 (P:=λb=>∃ a,b=[a]) h λa=>⟨a,U⟩
def ex2 {c:List Mo}(h:⇑c=2):∃ a b,c=[a,b]:=us2 (P:=λc=>∃ a b,c=[a,b]) h λa b=>⟨a,b,U⟩
def ex3 {d:List Mo}(h:⇑d=3):∃ a b c,d=[a,b,c]:=us3 (P:=λd=>∃ a b c,d=[a,b,c]) h λa b c=>⟨a,b,c,U⟩
class KW (K:KE) (mg:outParam (Str->Option Mo)):Prop where
 ex:∃ h:Oz,K.In h/\h.Ns ME mg
def AtD.g [T:KW K mg](a:AtD K x st)(f:(∀ kV c j i d e b,⇑b=⇑ps->BA (M5 x x (Ak st) (Ai st) (Ab st) .none kV c j i d e) ps b)<|>K1):AK K mg x st ps []:=
 let ⟨_,X,G⟩:=T.ex;a.dfn X G f
def AtM.g [T:KW K mg](a:AtM K x m qual st)(j:BN K x fs=true)(f:(∀ kV c k i d e b,⇑b=⇑ps->BA (M5 m qual (Ak st) (Ai st) (Ab st) .none kV c k i d e) ps b)<|>K1):BO K mg x m qual st ps []:=
 let ⟨_,X,G⟩:=T.ex;a.dfn X G j f
def mgI {i:Int}(X:K.In h)(G:h.Ns ME mg)(a:∃ t,ML K ME x=Z (Z (.int i t))):∃ t,mg x=Z (.int i t):=by obtain⟨t,e⟩:=a;show⟨t,Nn X G e⟩
end
def bN (a:(sc.kind=.function)<|>C')(b:sc.isCoroutine=false<|>C')(c:sc.isGenerator=false<|>C')(d:N.Nodup<|>F')(e:N.take ⇑P=P<|>C')(f:(∀ x∈P,sc.names.lookup x=Z .local\/sc.names.lookup x=Z .cell)<|>F')(g:(∀ y∈sc.names,y.2≠.free)<|>F'):Ac N P sc:=⟨a,b,c,d,e,f,g⟩
def e_ (a:H p=none)(e:upd H p o=H1):Aa H H1:=e▸Aa.new a
def cW (e:upd H p o=H1):H1 p=Z o:=e▸ae
def uH (b:H a=none)(d:H dx=none)(c:dx≠a)(e:upd (upd H dx o1) a o=H1):Aa H H1:=e▸(Aa.new d).trans (Aa.new (by rw[ar c.symm];show b))
noncomputable def Q3.at (q:Q3):Nat->Rat:=Aq q.a q.b q.c
abbrev _root_.X3:=S9 ⊕ (Kn->R3)
def IZ (K:KE)(H:Hp)(P:C3)(b:X3)(e:En)(v:V):Prop:=match b with
 |.inl s=>Gk K H P s.cp e v/\s.In/\P.In 1000
 |.inr f=>Gh K H P f e v/\GM 2 f/\P.In 60
def IZ.same {K:KE}(h:IZ K H P b e v)(s:Aa H H'):IZ K H' P b e v:=by
 cases b with
 |inl q=>show⟨h.1.same s,h.2⟩
 |inr f=>show⟨h.1.same s,h.2⟩
def IZ.pin {K:KE}(h:IZ K H P b e v):P.In 1000:=by
 cases b with
 |inl q=>show h.2.2
 |inr f=>show h.2.2.mono O
noncomputable def nw (q:Rat):Int:=(2*q.num+(q.den:Int)).fdiv (2*(q.den:Int))
noncomputable def hq (q:Q3):R3:=⟨KY (nw q.a),KY (nw q.b),KY (nw q.c)⟩
def Gw (h:Oz)(e C T:MF):Prop:=∃ a vs b c v,h.get? e=Z a/\a.cls=↥C/\a.data=.fields vs/\vs[1]?=Z ↥T/\T≠e/\h.get? T=Z b/\b.data=.fields c/\c[3]?=Z v
def Ip (l:List Env)(e:MF)(T:Option MF)(h h':Oz):Prop:=(∀ b o,h.get? b=Z o->b∉BJ l->b≠e->T≠Z b->h'.get? b=Z o)/\∀ b o,h.get? b=Z o->b∈BJ l->∃ a,h'.get? b=Z { o with slots:=a }
section
variable {M:Model}{A:Nw}{E:My}{s:Mt}
def lQ (B:A.frames=Z (env :: outer)) (G:s.heap.FunFrames base (env :: outer)) (D:env.frame=Z L) (v:env'.frame=Z L)
  (he:s>>e=Z oe)(N:oe.cls=↥C)(u:oe.data=.fields vs)(hsz:1<vs.size)(h:∀ h' F,Ip (env::outer) e none s.heap h'->Gw h' e C F->s>>F=none->Q () { s with heap:=h' }):
  MI M A (do let a <- Uo env';let k <- entryPlaceOf L hadNext;let b <- VJ head a .none (ON L) .none k;Vp ↥e 1 b) Q E s:=by
 have j:e∉(env::outer).filterMap (·.frame):=λH=>by
  obtain⟨_,o,t,x⟩:=G.mem H;rw[he] at t;injection t with t;subst t;show x vs u
 have S:Uo env'=Uo env:=by unfold Uo;rw[v,D]
 rw[S];refine HD (wpAny_frameOf_fun B G D λc d=>(HD (wpAny_entryPlaceOf λk p=>?_)));unfold VJ newFields;refine HD (No ?_ (p.sizeOk5 _ _ _ _ _));have f:c.get? e=Z oe:=d.2.1 e j\he;have i:=Ml (h:=c) { cls:=.type "traceback",dict:=none,data:=.fields ([head,↥L,.none,ON L,.none]++(if k.isEmpty then MN 6 Nc else k)).toArray } f;refine Of i u hsz ?_;have r:c.objs.size≠e:=Oi (Mr f);have g:=Nf u (·.setIfInBounds 1 (MT c.objs.size));have l:=(MV (c.push { cls:=.type "traceback",dict:=none,data:=.fields ([head,↥L,.none,ON L,.none]++(if k.isEmpty then MN 6 Nc else k)).toArray })
  (NC (·.setIfInBounds 1 (MT c.objs.size))) (Om r)).trans (Ms c rfl)
 have keep:∀ b o,b≠e->c.get? b=Z o->((c.push { cls:=.type "traceback",dict:=none,data:=.fields ([head,↥L,.none,ON L,.none]++(if k.isEmpty then MN 6 Nc else k)).toArray }).update e (NC (·.setIfInBounds 1 (MT c.objs.size)))).get? b=Z o:=λb o y I=>by
  rw[MV _ _ (Om y)];show Ml _ I
 refine h _ c.objs.size ⟨λb o q n ne _=>keep b o ne (d.2.1 b n\q),λb o q m=>?_⟩ ⟨_,_,_,_,ON L,M4 (NC (·.setIfInBounds 1 (MT c.objs.size))) i (NK g),PV _ _\N,g,by simp[hsz],r,l,U,?_⟩ ?_
 .obtain⟨R,J⟩:=d.2.2 b o q;show⟨R,keep b _ (λz=>j (z▸m)) J⟩
 .rcases p with rfl|⟨_,_,_,_,_,_,_,rfl⟩<;>simp
 .cases q:s>>c.objs.size with
  |none=>rfl
  |some o=>
   have:=Mr q;rw[d.1] at this;show absurd this (Nq _)
def t6 (x:Gw h e C T):Gw (h.update T (NC (·.setIfInBounds 3 v))) e C T/\(v=.none->EM (h.update T (NC (·.setIfInBounds 3 v))) e C (Z T)):=by obtain⟨d,vs,q,o,u,n,j,i,k,a,l,b,m⟩:=x;have sz:3<o.size:=(Ni.mp m).1;have c:=Nf b (·.setIfInBounds 3 v);have g:(h.update T (NC (·.setIfInBounds 3 v))).get? e=Z d:=MV _ _ a\n;have f:=M4 (NC (·.setIfInBounds 3 v)) l (NK c);show⟨⟨d,vs,_,_,v,g,j,i,k,a,f,c,by simp[sz]⟩,λp=>⟨d,vs,g,j,i,k,a,_,_,f,c,by simp[sz,p]⟩⟩
def abg (p:A.frames=Z (env :: outer)) (F:s.heap.FunFrames base (env :: outer)) (I:env.frame=Z L) (l:env'.frame=Z L) (x:EM s.heap e C T)
  (h:∀ h' j,Ip (env::outer) e T s.heap h'->Gw h' e C j->s>>j=none->Q () { s with heap:=h' }):MI M A (Wj ↥e env') Q E s:=by
 obtain⟨oe,vs,t,J,u,y⟩:=x;unfold Wj;simp only[l];cases T with
 |none=>
  refine HD (NS t u y ?_);rw[MZ O];show lQ p F I l t J u (Ni.mp y).1 h
 |some T=>
  obtain⟨R,B,oT,H,f,d,G⟩:=y;refine HD (NS t u R ?_);rw[M' (show(MT T != Nc)=true from by simp)];refine HD (NS f d G ?_);rw[MZ (show ¬ ((Nc==ON L)=true) from by simp[ON])];refine HD (Of f d (Ni.mp G).1 ?_);have a:∀ b,b≠T->(s.heap.update T (NC (·.setIfInBounds 3 Nc))).get? b=s.heap.get? b:=λb i=>MV _ _ (Om i)
  have c:∀ b o,s>>b=Z o->(∀ vs,o.data≠.fields vs)->b≠T:=λb o i g q=>by
   rw[q,f] at i;injection i with i;subst i;show g H d
  have D:T∉BJ (env::outer):=λm=>by
   obtain⟨_,o,v,g⟩:=F.mem m;rw[f] at v;injection v with v;subst v;show g H d
  refine lQ (s:={ s with heap:=s.heap.update T (NC (·.setIfInBounds 3 Nc)) }) p (F.of_keeps λb o i g=>⟨o,a b (c b o i g)\i,U⟩) I l (a e (Om B)\t) J u (Ni.mp R).1 λh' j k S N=>?_
  refine h h' j ⟨λb o q n ne nt=>k.1 b o (a b (λz=>nt (by rw[z]))\q) n ne (λz=>nomatch z),λb o q m=>k.2 b o (a b (λz=>D (z▸m))\q) m⟩ S ?_
  by_cases z:j=T
  .subst z;exfalso;have X:=M4 (NC (·.setIfInBounds 3 Nc)) f (NK (Nf d _));have r:(s.heap.update j (NC (·.setIfInBounds 3 Nc))).get? j=none:=N;rw[X] at r;cases r
  .show(a j z).symm.trans N
def aeF (hfr:A.frames=Z (env :: outer)) (hl:s.heap.FunFrames base (env :: outer)) (J:env.frame=Z L) (x:Gw s.heap e C T)
  (h:∀ h' g,Ip (env::outer) e (Z T) s.heap h'->EM h' e C (Z g)->(s>>g=none\/T=g)->Q () { s with heap:=h' }):MI M A (leaving env ↥e) Q E s:=by
 obtain⟨oe,vs,oT,G,v,F,hc,S,h1,D,p,f,h3⟩:=id x;have sz:3<G.size:=(Ni.mp h3).1;have a:∀ (u:Mo) b,b≠T->(s.heap.update T (NC (·.setIfInBounds 3 u))).get? b=s.heap.get? b:=λu b i=>MV _ _ (Om i)
 have y:T∉BJ (env::outer):=λm=>by
  obtain⟨_,o,B,j⟩:=hl.mem m;rw[p] at B;injection B with B;subst B;show j G f
 have d:∀ b o,s>>b=Z o->(∀ vs,o.data≠.fields vs)->b≠T:=λb o i j q=>by
  rw[q,p] at i;injection i with i;subst i;show j G f
 unfold leaving Wj;simp only[J];refine HD (HD (NS F S h1 ?_));rw[M' (show(MT T != Nc)=true from by simp)];refine HD (NS p f h3 ?_)
 by_cases z:(v==ON L)=true
 .rw[M' z];show Mm (Sr F S h1 p f sz (h _ T ⟨λb o q _ _ H=>a _ b (λz=>H (by rw[z]))\q,λb o q m=>⟨o.slots,a _ b (λz=>y (z▸m))\q⟩⟩ ((t6 (v:=.none) x).2 U) (.inr rfl)))
 .rw[MZ z];refine HD (Of p f sz (lQ (s:={ s with heap:=s.heap.update T (NC (·.setIfInBounds 3 Nc)) }) hfr (hl.of_keeps λb o i j=>⟨o,a _ b (d b o i j)\i,U⟩) J J (a _ e (Om D)\F) hc S (Ni.mp h1).1 λh' g k x' nT=>?_));obtain⟨oe',vs',oT',ts',v',X,hc',R,h1',hTe',I,t,N⟩:=id x';refine Sr X R h1' I t (Ni.mp N).1 ?_;have c:∀ b,b≠g->(h'.update g (NC (·.setIfInBounds 3 Nc))).get? b=h'.get? b:=λb i=>MV _ _ (Om i)
  have e2:=M4 (NC (·.setIfInBounds 3 Nc)) p (NK (Nf f _));have l:(s.heap.update T (NC (·.setIfInBounds 3 Nc))).get? g=none:=nT;have zT:g≠T:=λz=>by rw[z,e2] at l;cases l
  have r:s>>g=none:=(a _ g zT).symm.trans l;have nb:∀ b o,s>>b=Z o->b≠g:=λb o q z=>by rw[z,r] at q;cases q
  refine h _ g ⟨λb o q n ne H=>c b (nb b o q)\k.1 b o (a _ b (λz=>H (by rw[z]))\q) n ne (λz=>nomatch z),λb o q m=>?_⟩ ((t6 (v:=.none) x').2 U) (.inl r);obtain⟨sl,q'⟩:=k.2 b o (a _ b (λz=>y (z▸m))\q) m;show⟨sl,c b (nb b o q)\q'⟩
end
def JC (X:Cx)(W:L2.St->MF->Hp->Prop):Prop:=∀ (a:Lb) (b:L2.St) (H:Hp) (s:Mt) (e C T:MF),Ag X a b H s->Gw s.heap e C T->Ci X a H e->Ci X a H T->W b C H->X.xe ↥e s
def acB {K:KE} :
  JC (DH (Fj P w) P w K mg base N qual scope f cd A outer s H E) (λ_ C H'=>E ↥C none H'):=by
 intro G X H' L e C T I x v p q;change MI _ _ (leaving _ _) _ _ _;refine aeF (base:=base) I.ok.frames I.stack rfl x λh' a B M h=>?_;obtain⟨keep,c⟩:=B
 have sz:∀ b o,s>>b=Z o->b≠s⁻¹:=λb o e=>MH (Mr e)
 have R:∀ b o,s>>b=Z o->b∉BJ outer->b∉BJ (envOfC qual scope s⁻¹ f cd::outer):=λb o e n m=>by
  obtain⟨d,i,r⟩:=NA.mp m;rcases MA.mp i with rfl|i
  .show sz b o e (Mn r).symm
  .show n (NA.mpr ⟨d,i,r⟩)
 have D:∀ b,b∈BJ outer->b∈BJ (envOfC qual scope s⁻¹ f cd::outer):=λb m=>by
  obtain⟨d,i,r⟩:=NA.mp m;show NA.mpr ⟨d,Mx _ i,r⟩
 have ne:∀ b o,s>>b=Z o->b≠e:=λb o q z=>by rw[z] at q;rw[show s>>e=none from v.new] at q;cases q
 have J:∀ b o,s>>b=Z o->Z T≠Z b:=λb o q z=>by cases z;rw[show s>>T=none from p.new] at q;cases q
 have y:s>>a=none/\H' a=none:=by
  rcases h with h|h
  .constructor
   .cases q:s>>a with
    |none=>rfl
    |some o=>
     obtain⟨k,j⟩:=I.base.there a o q (by intro z;show absurd (show a∈([]:List MF) from z) zyA);rw[h] at j;cases j
   .cases q:H' a with
    |none=>rfl
    |some u=>
     obtain⟨o,j⟩:∃ o,L>>a=Z o:=hU (I.hok a u q);rw[h] at j;cases j
  .subst h;show⟨p.new,p.free⟩
 refine⟨e,C,Z a,H',U,I.os,I.bare,⟨λb o q n m z=>?_,λb o q n m z=>?_,λb o q n z=>I.base.free b o q n z,λb o q z=>?_,I.base.tups,I.base.frzs,I.base.tbls⟩,jI I.hok λb u o g q=>?_,M,⟨v.new,v.free⟩,λt Q=>by cases Q;show y,q⟩
 .show keep b o (I.base.keep b o q n m z) (R b o q m) (ne b o q) (J b o q)
 .obtain⟨S,l⟩:=I.base.slot b o q n m z;obtain⟨j,F⟩:=c b _ l (D b m);show⟨j,F⟩
 .obtain⟨k,l⟩:=I.base.there b o q z
  by_cases m:b∈BJ (envOfC qual scope s⁻¹ f cd::outer)
  .obtain⟨S,F⟩:=c b k l m;show⟨_,F⟩
  .show⟨k,keep b k l m (ne b o q) (J b o q)⟩
 .refine keep b o q (λm=>?_) (λz=>?_) (λz=>?_)
  .rw[I.stkFree b m] at g;cases g
  .rw[z,v.free] at g;cases g
  .cases z;rw[p.free] at g;cases g
def vv (f:X.ex=[])(I:Ag X pins σ H s)(d:s>>b=none):Ci X pins H b:=by
 have ne:∀ c o,s>>c=Z o->c≠b:=λc o q z=>by rw[z,d] at q;cases q
 refine⟨?_,?_,λz=>?_,λy c q z=>?_,λp h z=>?_⟩
 .cases q:X.s₀>>b with
  |none=>rfl
  |some o=>
   obtain⟨g,a⟩:=I.base.there b o q (by rw[f];simp);rw[d] at a;cases a
 .cases q:H b with
  |none=>rfl
  |some u=>
   obtain⟨o,a⟩:=hU (I.hok b u q);rw[d] at a;cases a
 .obtain⟨m,g,_⟩:=I.loc;obtain⟨o,_,_,e,_⟩:=g;show ne _ o e z.symm
 .obtain⟨v,o,e,_⟩:=I.cell y c q;show ne _ o e z
 .show ne _ _ (I.pin p h).1 z
def age (p:JC X W) (I:Ag X pins σ H s) (x:Gw s.heap e C T) (y:Ci X pins H e) (g:Ci X pins H T) (q:W σ C H) :
  MI (MW X.prog X.w) X.A (PySem.passOn what ↥e env:Sem Mo) Q X.xe s:=by
 obtain⟨D,vs,G,u,v,h,F,d,j,E,l,k,r⟩:=id x;unfold PySem.passOn;refine HD (NS h d j ?_);rw[MZ (show ¬ ((MT T==Nc)=true) from by simp)];unfold setFlight;refine HD (HD (NS h d j ?_));rw[M' (show(MT T != Nc)=true from by simp)];refine Of l k (Ni.mp r).1 ?_;refine Uv ?_;have J:Ag X pins σ H { s with heap:=s.heap.update T (NC (·.setIfInBounds 3 (env.frame.elim .none λf=>ON f))) }:=Ag.flown (L:=[T]) I (λb t=>by cases Mu.mp t;show g)
  (λb o a _ n=>MV _ _ (λz=>n (by rw[z];simp))\a) λb o a m=>⟨o.slots,(MV _ _ (λz=>by
   obtain⟨_,B,i,c⟩:=I.stack.mem m;rw[<- z,l] at i;cases i;show c u k))\a⟩
 show p pins σ H _ e C T J (t6 x).1 y g q
def Le (X:Cx)(N:List Str)(a:Qw)(C:MF)(s2:Mt)(i:Hp)(f:List MF)(b:Lb)(j:MF->Hp->Prop):Mo->Mt->Prop:=λv g=>∃ e Cl T h d c,v=↥e/\Ag (Av X N a (Aj X a C) C s2 i f b) h d c g/\EM g.heap e Cl T /\
 (((s2>>e=none\/e∈f)/\c e=none/\e≠C)/\∀ t,T=Z t->(s2>>t=none\/t∈f)/\c t=none/\t≠C)/\j Cl c
def Js (X:Cx)(N:List Str)(a:Qw)(C:MF)(s2:Mt)(c:Hp)(d:List MF)(b:Lb)(e:MF->Hp->Prop):Cx:={ Av X N a (Aj X a C) C s2 c d b with xe:=Le X N a C s2 c d b e }
def agx {X:Cx}{a:List (MF × Obj)}{r:L2.St}{B:Hp}{s2 f:Mt}{N:List Str}{c:Qw}{C:MF}{y:List MF}{Wh:MF->Hp->Prop}{h:List Env}{L0:MF}{v:Mo}{G:My} (d:X.stack=X.env :: h) (g:X.env.frame=Z L0) (i:X.ex=[]) (I:Ag X a r B s2) (f2:∀ b ∈ y,Dq X a B b) (hC:s2⁻¹ <= C) (R:∀ b ∈ y,b < s2⁻¹)
  (D:∀ (f:Mt) (H':Hp) (e Cl T:MF),Ag X a r H' f->Gw f.heap e Cl T->Ci X a H' e->Ci X a H' T->Wh Cl H'->(∃ m,f.heap.Ns C m)->H' C=none->e≠C->T≠C->G ↥e f)
  (hx:Le X N c C s2 B y a Wh v f):notedBy (MW X.prog X.w) X.A (PH c (Aj X c C) C X.env) G v f:=by
 obtain⟨e,Cl,T,pl,σ',H',rfl,J,x,⟨u,oT⟩,q⟩:=hx;have s:Ag X a r H' f:=zV I f2 J;have ours:∀ b,(s2>>b=none\/b∈y)/\H' b=none/\b≠C->Ci X a H' b:=λb ⟨z,S,_⟩=>by
  rcases z with z|z
  .have o:=vv i I z;show⟨o.new,S,o.loc,o.cell,o.pin⟩
  .obtain⟨_,M,_,j,g4,g5⟩:=f2 b z;refine⟨?_,S,M,g4,g5⟩;rcases j with j|j
   .rw[i] at j;cases j
   .show Sk j
 have Q:=s.ok.frames;rw[d] at Q;have fl:=s.stack;rw[d] at fl;obtain⟨m,hn,_⟩:=id J.loc;obtain⟨E,es,ep,p,rC⟩:=id hn;have cF:C∉BJ (X.env::h):=λz=>by
  have k:=I.stack;rw[d] at k;obtain⟨_,o,ho,_⟩:=k.mem z;show absurd (Mr ho) (O6.mpr hC)
 change MI _ _ (Wj _ _) _ _ _;refine abg Q fl g (show(PH c (Aj X c C) C X.env).frame=Z L0 from g) x λh' T' H x' t=>?_;obtain⟨keep,l⟩:=H
 have J2:Ag X a r H' { f with heap:=h' }:=Ag.flown (L:=e::T.toList) s (λb F=>by
  rcases MA.mp F with rfl|F
  .show ours _ u
  .show ours _ (oT b (RH.mp F))) (λb o j n M=>keep b o j (by rw[<- d];show n) (λz=>M (by simp[z])) (λz=>M (by simp[z]))) λb o j mm=>l b o j (by rw[<- d];show mm)
 refine D _ H' e Cl T' J2 x' (ours e u) (vv i s t) q ⟨m,E,es,ep,keep C E p cF u.2.2.symm (λz=>(oT C z).2.2 U),rC⟩ J.free u.2.2 λz=>?_
 rw[z] at t;rw[show f>>C=Z E from p] at t;cases t
section
variable {N:List Str}{scope:Qw}{C:MF}{s2:Mt}{H2:Hp}{fp:List MF}{pn:Lb}{Wh:MF->Hp->Prop}
def aaB:JS (Js X N scope C s2 H2 fp pn Wh) λ_ Cl H'=>Wh Cl H':=by
 intro c j I q v r h F;obtain⟨a,Cl,T,H',rfl,os,d,un,i,B,⟨y,u⟩,k,G,D,x⟩:=F;cases D;have l:Ag (Js X N scope C s2 H2 fp pn Wh) c j H' r:=h.call' os un i d λb z=>absurd z zyA
 have f:∀ b,q>>b=none->H' b=none->(s2>>b=none\/b∈fp)/\H' b=none/\b≠C:=λb g s=>by
  refine⟨?_,s,λz=>?_⟩
  .by_cases m:b∈fp
   .show .inr m
   .left
    cases qq:s2>>b with
    |none=>rfl
    |some o=>
     obtain⟨H,e⟩:=h.base.there b o qq m;rw[g] at e;cases e
  .obtain⟨m,⟨o,_,_,e,_⟩,_⟩:=h.loc;rw[z] at g;rw[show q>>C=Z o from e] at g;cases g
 show⟨a,Cl,T,c,j,H',U,(Ag.ctx (A':=X.A) (c':=X.calm) (pn':=X.pn++pn) (xe':=λ_ _=>False) l rfl (λz=>l.ok.hd z) λp E=>E),B,⟨f a y u,λt n=>f t (k t n).1 (k t n).2⟩,x⟩
end
def aeU {X:Cx}{st:On}{t:TS}(h:PS X.nox st t):PS X st t:=⟨λa s b H D I hw=>NI (h a s b H D (I.wish _) hw) (λ_ _ q=>q.unwish) λ_ _ z=>OC z⟩
def acG {N:List Str}{a:Qw}{n tg c:OZ}{p:List OZ}{wi:TI}{g:TG}{tt:TT}{te:TE}{R:L2.St->L2.St}{Wh:MF->Hp->Prop}{u:List Env}{L0:MF} (L:X.stack=X.env :: u) (r:X.env.frame=Z L0) (hex:X.ex=[]) (hTA:JC X fun _ Cl H=>Wh Cl H) (hc:X.calm=true)
  (hi:PI X tg c wi)(S:Gi X a)(F:∀ k,⇑k=⇑X.N->EC X a N k (R k)/\⇑(R k)=⇑N)
  (hg:∀ C G l j B,PG (Av X N a (Aj X a C) C G l j B) tg g)(ht:∀ C G l j B,HK (Av X N a (Aj X a C) C G l j B) p tt)(he:∀ C G l j B,PE (Js X N a C G l j B Wh) n te)
  (hs:(∀ x,Op c X.env x=pure x)<|>E'):PE X (.ListComp n [⟨tg,c,p,0⟩] a pos) (Hq wi g tt te R):=by
 refine⟨λi s k H Q I h=>?_⟩;rw[Wg];refine P2 (use:=none) U hs (lW S.free) S.kind (λy hy e=>by rw[S.once y hy,e]) (bo (hi i s k H _ I h) λv s1 h1=>bo h1 λitv s2 h2=>?_);obtain⟨it,j,tn,J,H2,rfl,t,T,A,f2,hw⟩:=h2;have E:=F k t.len;refine i9 (xe:=λC=>Le X N a C s2 H2 j i Wh) hc t S E.1 E.2 f2 T A (λC=>hg C _ _ _ _) (λC=>ht C _ _ _ _) (λC=>jV rfl (he C _ _ _ _)) hw ?_ ?_
 .intro D C s' H' ys I' hD M hm hC hDC f;obtain⟨m,hn⟩:=hm;show⟨m,hn,λh' d=>⟨↥D,_,Ag.off t f I' (by rw[ar (Om hDC)];show hC) d,U,M D hD⟩⟩
 .intro acc C v s' f z;refine agx L r hex t f2 f (λb hb=>let ⟨o,e,_⟩:=T.obj 0 _ A b hb;Mr e) (λs' H' e Cl T I' x oe oT q hm hC heC M=>?_) z;obtain⟨m,hn⟩:=hm;refine⟨m,hn,λh' d cenv _=>age hTA (Ag.off t f I' hC d) ?_ oe oT q⟩;obtain⟨o1,vs,o2,ts,v,a1,a2,a3,a4,a5,a6,a7,a8⟩:=x;show⟨o1,vs,o2,ts,v,d.extBut _ _ heC a1,a2,a3,a4,a5,d.extBut _ _ M a6,a7,a8⟩
def aba:JS X (λ_ _ _=>False):=λ_ _ _ _ _ _ _ h=>by obtain⟨_,_,_,_,_,_,_,_,_,_,_,_,C,_,z⟩:=h;show z.elim
section
variable {w:Nr}{A:Nw}{E:My}{s:Mt}{K:KE}{x C:MF}{ox:Obj}{od:Option Obj}
def instObj (X:K.In s.heap)(I:Xi s.heap x ox C od)(a:N8 K ↥C (.type "object")=Z true):OY M s.heap (Rb ↥x (.type "object")) true:=I.type.andThen (PySem.W.looks_subIn X a)
end
def LO (X:Cx)(es:List OZ)(t:TA):Prop:=
 ∀ (c:Pos) (a:Lb) (s:Mt) (b:L2.St) (H:Hp) (Q:SS),1<=s.toks->Ag X a b H s->t b H Q->MI (MW X.prog X.w) X.A (spliced (Qx c (M0 es X.env))) (AP X a b Q) X.xe s
structure LY (X:Cx)(es:List OZ)(t:TA):Prop where
 go:LO X es t
instance {X:Cx}{es:List OZ}{t:TA}:CoeFun (LY X es t) λ_=>LO X es t:=⟨LY.go⟩
end TR
namespace PySem
section
variable {prog:MY}{w:Nr}{K:Type}[DecidableEq K]{kd:KeyKind prog w K}{A:Nw}{E:My}{s:Mt}{h h':Oz}
inductive AO (kd:KeyKind prog w K)(h:Oz):List (List K)->List Mo->Prop
 |nil:AO kd h [] []
 |cons {k:List K}{a:MF}{ks:List (List K)}{vs:List Mo}:Vl kd h k a->AO kd h ks vs->AO kd h (k::ks) (↥a::vs)
def CD (kd:KeyKind prog w K)(h:Oz)(c:List (List K))(a:MF):Prop:=∃ o b n,h.get? a=Z o/\o.cls=.type "tuple"/\o.data=.seq b n/\AO kd h c b.toList
def AO.inj (p:AO kd h x vs)(q:AO kd h y vs):x=y:=by
 induction p generalizing y with
 |nil=>cases q;rfl
 |cons a _ b=>
  cases q with
  |cons c d=>rw[a.inj c,b d]
theorem AO.length:∀ {x:List (List K)}{vs:List Mo},AO kd h x vs->⇑x=⇑vs
 |_,_,.nil=>rfl
 |_,_,.cons _ b=>by rw[Np,Np,⇑b]
theorem AO.map (f:∀ k a,Vl kd h k a->Vl kd h' k a):∀ {x:List (List K)}{vs:List Mo},AO kd h x vs->AO kd h' x vs
 |_,_,.nil=>.nil
 |_,_,.cons a b=>.cons (f _ _ a) (AO.map f b)
def CD.typeIs (x:CD kd s.heap ks a):s.TypeIs ↥a "tuple":=let ⟨o,_,_,ho,hc,_⟩:=x;⟨o,ho,hc⟩
def CD.inj (i:CD kd h x a)(p:CD kd h y a):x=y:=by
 obtain⟨o,e,n,l,_,j,k⟩:=i;obtain⟨m,c,q,f,_,b,d⟩:=p;obtain rfl:o=m:=Mn (l.symm\f);rw[j] at b;injection b with g _
 subst g;show k.inj d
def CD.keeps (x:CD kd h ks a)(j:h.get? d=Z o)(i:o.data=.dict es ep)(m:NF d h h'):CD kd h' ks a:=by
 obtain⟨l,e,n,f,r,c,p⟩:=x;have g:a≠d:=by
  rintro rfl;obtain rfl:l=o:=Mn (f.symm\j);rw[i] at c;show nomatch c
 show⟨l,e,n,m.2 a g\f,r,c,p.map λk b q=>q.keeps j i m⟩
def GI (kd:KeyKind prog w K)(a:List (List K)):Int:=reduceHash (Oc (a.map (Qy kd)))
def F6 (a:List (List K)):Nat:=(a.map λk=>⇑k+1).sum+1
def ac9 (p:A.units+1<cLine)(q:CD kd s.heap i a)(h:Q (GI kd i) { s with toks:=s.toks+F6 i }):MI (MW prog w) A (pyHash ↥a) Q E s:=by
 have f:=q.typeIs;obtain⟨o,l,n,u,_,r,t⟩:=q;unfold pyHash
 first|unfold pyHashByItsType|skip
 first|refine HD (wpAny_cRoomFor_or (.inr (Nat.lt_of_succ_lt p)) ?_)|skip
 refine HD (Pm f Ry.lookup ?_);change MI _ _ (if(Z (Wf "tuple.__hash__")==Z Nc)=true then _ else _) Q E s;rw[MZ (by rw[beq_builtin_none];show M3)];refine HD (Pm f Ry.lookup ?_);change MI _ _ (callSpecialIfBoundUnlessNone? ↥a "__hash__" _>>=_) Q E s;refine HD (wpAny_callSpecialIfBoundUnlessNone?_slot f Ry (Nt Ry f F.entry_tuple_hash ?_ (F.args_tuple_hash_1 _)));change MI _ _ (Builtin.Tuple.tupleItemsOf ↥a>>=_) _ _ s;refine HD (Th u r (HD ?_));rw[<- Ps];refine QY _ (λAQ (b:Array Int) j=>∃ done left,i=done++left/\AO kd s.heap left AQ/\b.toList=done.map (Qy kd)/\j={ s with toks:=s.toks+(done.map λk=>⇑k+1).sum })
  _ ?_ ?_ _ _ ⟨[],i,U,t,U,U⟩
 .rintro x AQ b j ⟨done,left,rfl,m,g,rfl⟩;cases m with
  |@cons k c d _ v e=>
   refine HD (wpAny_pyHash_tuple p v ?_)
   first
    |show Mm ⟨done++[k],d,zyA,e,by simp[g],by simp[Py]⟩
    |show HD (Mm (Mm ⟨done++[k],d,zyA,e,by simp[g],by simp[Py]⟩))
 .rintro b j ⟨done,left,rfl,m,g,rfl⟩;cases m;rw[SF] at h;change MI _ _ (retInt (Oc b.toList)) _ _ _;rw[g];refine wpAny_ret_mkInt ?_;change MI _ _ (if(decide (-(2:Int)^63<=Oc (done.map (Qy kd)))&&decide (Oc (done.map (Qy kd))<2^63))=true then _ else _) Q E _;unfold GI reduceHash at h;unfold F6 at h
  by_cases d:(decide (-(2:Int)^63<=Oc (done.map (Qy kd)))&&decide (Oc (done.map (Qy kd))<2^63))=true
  .rw[M' d];rw[M' d] at h;show Mm (by simpa [Py] using h)
  .rw[MZ d];rw[MZ d] at h;show HD (Pr (Mm (by simpa [Py] using h)))
def yX (S:A.units < cLine) (T:CD kd s.heap x a) (R:CD kd s.heap y b) (h:P (.done (.ret (.bool (decide (x=y))))) s) :
  MI (MW prog w) A (OJ.«tuple.__eq__» ⟨[↥a,↥b],[]⟩) P E s:=by
 have H:=R.typeIs;obtain⟨oa,D,na,Q,_,J,F⟩:=T;obtain⟨ob,C,nb,G,_,M,N⟩:=R;change MI _ _ (Rb ↥b (.type "tuple")>>=_) _ _ s;refine HD (OP H R_ ?_);simp only[Pu,M2,Oj];refine HD (Th Q J (HD (Th G M ?_)));refine HD <| QY _
  (λAQ r t=>r.1=none/\t=s/\∃ B z d e,AQ=List.zip d e/\AO kd s.heap B d/\AO kd s.heap z e/\decide (B=z)=decide (x=y)/\(⇑d==⇑e)=(D.size==C.size))
  _ ?_ ?_ _ _ ⟨U,U,x,y,D.toList,C.toList,U,F,N,U,zyA⟩
 .rintro⟨u,v⟩ AQ r t ⟨L,rfl,B,z,d,e,j,i,g,c,f⟩;cases i with
  |nil=>simp at j
  |@cons k1 c1 p q h1 n=>
   cases g with
   |nil=>simp at j
   |@cons k2 c2 m l X k=>
    simp only[List.zip_cons_cons,List.cons.injEq,V7] at j;obtain⟨⟨rfl,rfl⟩,rfl⟩:=j;refine HD (wpAny_eqBool_tuple S h1 X ?_)
    by_cases I:k1=k2
    .subst I;rw[MB rfl];simp only[Pu,M2,Oj];refine Mm ⟨U,U,p,m,q,l,U,n,k,?_,by simpa using f⟩;rw[<- c]
     by_cases o:p=m
     .simp[o]
     .simp[o]
    .rw[Na I];simp only[Bool.not_false,Qb];have o:decide (x=y)=false:=by rw[<- c];simp[I]
     rw[o] at h;show HD (Mm (Mm (Mm h)))
 .rintro⟨l,m⟩ t ⟨L,rfl,B,z,d,e,j,i,g,c,f⟩;simp only at L;subst L;refine Mm ?_;have k:(D.size==C.size)=decide (x=y):=by
   rw[<- c,<- f];cases i with
   |nil=>
    cases g with
    |nil=>simp
    |cons _ _=>simp
   |cons _ _=>
    cases g with
    |nil=>simp
    |cons _ _=>simp at j
  change P (.done (.ret (.bool (D.size==C.size)))) t;rw[k];show h
def afR (g:A.units+1<cLine)(d:CD kd s.heap x a)(f:CD kd s.heap y b)(h:Q (decide (x=y)) s):MI (MW prog w) A (eqBool ↥a ↥b) Q E s:=by
 unfold eqBool
 try with_reducible refine Nv ?_
 change MI _ _ (if(MT a==MT b)=true then _ else _) Q E s
 by_cases c:(MT a==MT b)=true
 .rw[M' c];have e:a=b:=by have:=eq_of_beq c;injection this
  subst e;obtain rfl:=d.inj f;show HD (Pr (Mm (by simpa using h)))
 .rw[MZ c];show HD (wpAny_richCompare_same_room d.typeIs f.typeIs Rg
   (Nt Rg d.typeIs F.entry_tuple_eq (yX g d f ⟨_,U,(λe=>nomatch e),NV h⟩) (F.args_tuple_eq_2 _ _)) (Nat.lt_of_succ_lt g))
def aai (i:Vl kd s.heap ks a)(h:Q true s):MI (MW prog w) A (eqIsQuiet (n+1) ↥a) Q E s:=by
 have g:=i.typeIs;obtain⟨o,c,m,l,_,j,k⟩:=i;unfold eqIsQuiet;refine HD (Pm g Rg.lookup ?_);change MI _ _ (Rb ↥a (.type "tuple")>>=_) _ _ s;refine HD (OP g R_ ?_);simp only[Pu,M2,Oj];refine HD (N2 l j (HD ?_));change MI _ _ (forIn c _ _) _ _ s;rw[<- Ps];refine QY _ (λAQ r d=>r.1=none/\d=s/\∀ v∈AQ,carriedByValue v=true) _ ?_ ?_ _ _ ⟨U,U,k.byValue⟩
 .rintro v AQ r d ⟨f,rfl,b⟩;rw[eqIsQuiet_byValue _ (b v MS)];refine HD (Mm ?_);simp only[Pu,M2,Oj];show Mm ⟨U,U,λu e=>b u (Mx _ e)⟩
 .rintro⟨b,e⟩ d ⟨f,rfl,_⟩;simp only at f;subst f;show Mm h
def acd (j:CD kd s.heap ks a)(h:Q true s):MI (MW prog w) A (eqIsQuiet 8 ↥a) Q E s:=by
 have i:=j.typeIs;obtain⟨o,b,m,p,_,l,n⟩:=j;unfold eqIsQuiet;refine HD (Pm i Rg.lookup ?_);change MI _ _ (Rb ↥a (.type "tuple")>>=_) _ _ s;refine HD (OP i R_ ?_);simp only[Pu,M2,Oj];refine HD (N2 p l (HD ?_));change MI _ _ (forIn b _ _) _ _ s;rw[<- Ps];refine QY _ (λAQ r d=>r.1=none/\d=s/\∃ left,AO kd s.heap left AQ) _ ?_ ?_ _ _ ⟨U,U,ks,n⟩
 .rintro v AQ r d ⟨f,rfl,left,t⟩;cases t with
  |@cons k c e _ q g=>
   refine HD (aai q ?_);simp only[Pu,M2,Oj];show Mm ⟨U,U,e,g⟩
 .rintro⟨e,g⟩ d ⟨f,rfl,_⟩;simp only at f;subst f;show Mm h
end
def GQ {prog:MY}{w:Nr}{K:Type}[DecidableEq K](e:KeyKind prog w K):W8 prog w (List (List K)) where
 is:=CD e
 hash:=GI e
 draws:=F6
 room:=λA=>A.units+1<cLine
 inj:=λa c=>a.inj c
 keeps:=λx g f i=>x.keeps g f i
 pyHash:=λd b h=>ac9 d b h
 eqBool:=λd a c h=>afR d a c h
 quiet:=λb h=>acd b h
end PySem
namespace TR
open PySem PySem.Spec PyProof.Rows L2
noncomputable def rK (q:Rat):List Bk:=[.inl q.num,.inl (q.den:Int)]
noncomputable def cK (c:Q3):List (List Bk):=[rK c.a,rK c.b,rK c.c]
def vW {p q:Rat}(h:rK p=rK q):p=q:=by
 injection h with b a
 injection b with b
 injection a with a _
 injection a with a
 show Rat.ext b Y
def abf (h:cK c=cK e):c=e:=by
 injection h with a h
 injection h with d h
 injection h with b _
 cases c;cases e;cases(vW a);cases(vW d);cases(vW b);rfl
section
variable {P:MY}{w:Nr}{H H':Hp}{h:Oz}{K:KE}
def tG {q:Rat}(ok:B9 P w H h)(hq:Ad K H (rD q) v)(b:Ao v u):∃ a,u=↥a/\Vl (Aw P w) h (rK q) a:=by obtain⟨a,rfl,c⟩:=aU hq;cases b;show⟨a,U,n9 ok c⟩
def aeb (ok:B9 P w H h)(j:Ad K H c.col ↥ka):CD (Aw P w) h (cK c) ka:=by
 cases j with
 |tup e q=>
  obtain⟨x,y,z,rfl,m,k,a⟩:=b_ q;obtain⟨_,f,r,o,l,g,n,p⟩:=(show At P w H h ka (.tup [x,y,z]) from ok ka _ e)
  obtain⟨u1,u2,A,rfl,b,i,d⟩:=aej r;obtain⟨v,rfl,k1⟩:=tG ok m b;obtain⟨u,rfl,k2⟩:=tG ok k i;obtain⟨t,rfl,s⟩:=tG ok a d;show⟨o,_,n,l,g,p,.cons k1 (.cons k2 (.cons s .nil))⟩
abbrev _root_.Q4:=List (Q3×MF)
def C7 (xs:Q4):List (List (List Bk)×MF×Mo):=xs.map λp=>(cK p.1,p.2,.bool true)
def HY (P:MY)(w:Nr)(a:MF)(xs:Q4):HO:=.ext λh=>(a==Oe)=false/\∃ o b c,h.get? a=Z o/\o.ExactDict/\o.data=.dict b c/\b.toList=(C7 xs).map (Vn (GQ (Aw P w)))
def ad8 (l:(a==Oe)=false)(c:h.get? a=Z o)(f:o.ExactDict)(e:o.data=.dict es b)(d:es.toList=(C7 xs).map (Vn (GQ (Aw P w)))):At P w H h a (HY P w a xs):=
 ⟨⟨l,o,es,b,c,f,e,d⟩,⟨o,c⟩,λ_ _ ⟨j,o,es,b,i,g⟩ k=>⟨j,o,es,b,k o i,g⟩⟩
def HI (K:KE)(H:Hp)(xs:Q4):Prop:=(∀ p∈xs,Ad K H p.1.col ↥p.2)/\(xs.map (·.1)).Nodup
def HI.same (k:HI K H xs)(s:Aa H H'):HI K H' xs:=⟨λp a=>Ad.same s (k.1 p a),k.2⟩
def aeV (h:(xs.map (·.1)).Nodup):((C7 xs).map (·.1)).Nodup:=by
 have e:(C7 xs).map (·.1)=(xs.map (·.1)).map cK:=by unfold C7;rw[OD,OD];rfl
 rw[e];show List.Pairwise.map cK (λa b n z=>n (abf z)) h
def aec (ok:B9 P w H h)(e:H a=Z (HY P w a xs))(k:HI K H xs):(a==Oe)=false/\h.DictOfH (GQ (Aw P w)) a (C7 xs):=by
 obtain⟨⟨m,o,j,d,i,f,g,l⟩,_,_⟩:=(show At P w H h a (HY P w a xs) from ok a _ e)
 refine⟨m,o,j,d,i,f,g,l,λx b=>?_,aeV k.2⟩;obtain⟨p,c,rfl⟩:=Nd.mp b;show aeb ok (k.1 p c)
def EX (xs:Q4)(c:Q3)(b:MF):List (Q3×MF):=if xs.any (λp=>decide (cK p.1=cK c))=true then xs else xs++[(c,b)]
def vU (xs:Q4)(c:Q3)(b:MF):storedH (C7 xs) (cK c) b (.bool true)=C7 (EX xs c b):=by
 have d:(Xm (C7 xs) (cK c)).isSome=xs.any (λp=>decide (cK p.1=cK c)):=by
  unfold Xm C7;rw[WB]
  induction xs with
  |nil=>rfl
  |cons p xs a=>
   rw[MR,O1,Sw]
   by_cases z:cK p.1=cK c
   .rw[MB z];rfl
   .rw[Na z,Bool.false_or];show a
 unfold storedH EX;rw[d]
 by_cases z:xs.any (λp=>decide (cK p.1=cK c))=true
 .rw[M' z,M' z];unfold C7;rw[OD];refine VP λp _=>?_
  change putAt (cK c) (.bool true) (cK p.1,p.2,.bool true)=_;unfold putAt
  split<;>rfl
 .rw[MZ z,MZ z];unfold C7;rw[Nx];rfl
end
section
variable {X:Cx}{pos pos':Pos}
def Jk (P:MY)(w:Nr):TE:=λ_ H Q=>∀ p,H p=none->Q ↥p (upd H p (HY P w p []))
def acF (b:X.prog=P)(hw:X.w=w):PE X (.Dict [] [] pos) (Jk P w):=by
 subst b hw;refine⟨λa s c H Q I h=>?_⟩;show wpAny_Dict_empty ⟨↥s⁻¹,_,I.laid (λ_ _ q=>Ml _ q) (Mz _)
  (ad8 (xs:=[]) (OB.mpr (Om (MH I.big))) (Ms _ U) ⟨U,U,U⟩ rfl rfl),U,h _ (I.hok.fresh (Mz _))⟩
def JH (P:MY)(w:Nr)(K:KE)(h ty j:TE):TS:=λD d H=>j d H λv i=>h d i λx g=>ty d g λy e=>∃ (a b:MF) (f:Q4) (c:Q3),v=.bl true/\x=↥a/\y=↥b/\e a=Z (HY P w a f)/\Ad K e c.col ↥b/\HI K e f/\⇑f<1000/\D.nx d (upd e a (HY P w a (EX f c b)))
def abS {K:KE} (G:X.prog=P) (hw:X.w=w) (E:X.A.units + 2 < cLine) (ho:PE X o td) (R:PE X i ty) (M:PE X value tv) (l:SX value (Z (.Subscript o i pos')) pos.line X.env=pure false) :
  PS X (.Assign [.Subscript o i pos'] value pos) (JH P w K td ty tv):=by
 subst G hw;refine ⟨λd s g H D I h=>UP (bo (M d s g H _ I h) λr s1 m=>?_) l⟩;obtain⟨v,H1,N,rv,F⟩:=m;refine bo (ho d s1 g H1 _ N F) λu C n=>?_;obtain⟨x,z,I2,rx,B⟩:=n;refine bo (R d C g z _ I2 B) λL s3 j=>?_;obtain⟨y,H3,k,p,a,b,xs,c,ev,ex,Q,e,hc,ks,hl,q3⟩:=j;subst ev ex Q;cases(show u=MT a from rx);cases(show L=MT b from p);cases(show r=Ra true from rv);obtain⟨S,T⟩:=aec k.hok e ks;refine wpAny_setItem_heap (hsz:=by unfold C7;rw[Mq];show eM Y) E (aeb k.hok hc) T λh' f l=>?_
 rw[vU] at f;obtain⟨q,es,ep,hq,h2,t,J,_,_⟩:=f;show⟨g,_,sR k (by rw[e];show True.intro) l ⟨q,hq⟩ (ad8 S hq h2 t J),q3⟩
def Jo (P:MY)(w:Nr)(K:KE):List V->Hp->VK->Prop:=λvs H Q=>∃ (a:MF) (b:Q4),vs=[↥a]/\H a=Z (HY P w a b)/\HI K H b/\⇑b<=1000/\∀ D,H D=none->Q ↥D (upd H D (.lst (b.map λp=>↥p.2)))
def vB {K:KE}(z:X.prog=P)(hw:X.w=w)(F:X.calm=true):AI X (.type "list") (Jo P w K):=by
 subst z hw;intro l s S H vs us Q I r h;obtain⟨a,j,rfl,e,R,x,q⟩:=h;obtain⟨u,rfl,L⟩:=fV r;cases L;obtain⟨D,E⟩:=aec I.hok e R;obtain⟨m,ep,k,f⟩:=Heap.RawD.of E;have n:m.size=⇑j:=by
  simpa [C7] using (Rp Uc f)
 refine PySem.W.kdl_call (ad3 D) (I.ok.hd F) k (by rw[n];show eM x) λT tk d c B A b=>?_
 have y:⇑d.toList=⇑j:=by rw[ND];show b.1.trans n
 have C:Ah (j.map λp=>V.ref p.2) d.toList:=by
  refine rn (by rw[Mq,y]) λi v u t G=>?_
  rw[Mw] at t;obtain⟨p,J,rfl⟩:=MG.mp t;obtain⟨N,M,rfl⟩:=b.2 i u (by rw[<- O0];show G);have g:m.toList[i]?=Z N:=by rw[O0];show M
  rw[f,Mw] at g;unfold C7 at g;rw[Mw,J] at g;cases g;rfl
 show⟨↥s⁻¹,_,I.laid (o:=.lst (j.map λp=>↥p.2)) B (Mz _) ⟨by rw[Mq];show eM x,d.toList,c,C,by rw[Sj];show A⟩,U,q _ (I.hok.fresh (Mz _))⟩
end
end TR
namespace PySem
open Sem (wp)
variable {prog:MY}
section
variable {w:Nr}{A:Nw}{R:Result->Mt->Prop}{I:MF}{fp wr:List MF}{n:Nat}{P:Nat->Mo->Prop}{St:Nat->Oz->Prop}
def yU (W:Walks prog w A.in1 I fp wr n P St) (z:Nat->Nat->Bool) (B:CmpOf prog w A.in1 .Gt P z) (S:MF) (E:S ∉ fp) :
  ∀ (k j:Nat) (s:Mt) (m:Mo) (c:Nat),n-(j+1)=k->j+1<=n->St (j+1) s.heap->P (SU z j) m ->
  s.heap.get? S=Z { cls:=.type "list",dict:=none,data:=.seq #[m,m] c,slots:=#[] } ->
  (∀ v h' G,P (SU z (n-1)) v->(∀ b o,b∉wr->b≠S->s>>b=Z o->h'.get? b=Z o)->R (.ok (.ret v)) { s with heap:=h',toks:=G }) ->
  P0 (MW prog w) A (.builtin "max.loop" ⟨[↥I,.none,↥S],kw⟩) R s:=by
 have D:S∉wr:=λh=>E (W.sub _ h)
 have l:(toString "max"++toString ".loop":String)="max.loop":=O
 intro k
 induction k with
 |zero=>
  intro j s m c N Q r p C F;have g:j+1=n:=Y
  refine N0 Uw ?_;rw[NP Pp _];change MI _ A.in1 (Vj ↥S>>=_) _ _ s;refine HD (N2 C rfl ?_);change MI _ A.in1 (tryCatch (QM ↥I) _>>=_) _ _ s;refine HD (RZ (W.done s _ _ (g▸r) λh' G d=>?_));change MI _ A.in1 (updateSeq S (λ_=>#[])>>=_) _ _ _;show HD (Rs (d S _ D C) U (HD (Qc (Mm (F m _ G (by rw[<- g];show p) λb o a f e=>MV _ _ (Om f)\d b o a e)))))
 |succ k L=>
  intro j s m c N Q r p C F;have u:j+1<n:=Y
  refine N0 Uw ?_;rw[NP Pp _];change MI _ A.in1 (Vj ↥S>>=_) _ _ s;refine HD (N2 C rfl ?_);change MI _ A.in1 (tryCatch (QM ↥I) _>>=_) _ _ s;refine HD (RZ (W.item (j+1) s _ _ u r λv h' G M q d=>?_));have x:=d S _ D C;change MI _ A.in1 (tryCatch (holding [v,v] (richCompare .Gt v m>>=_)) _>>=_) _ _ _;refine HD (RZ (Nv (HD (B (j+1) (SU z j) v m _ _ _ M p (HD (Nv (NV (HD (Qc (Mm ?_))))))))));cases hb:z (j+1) (SU z j) with
  |true=>
   simp only[Qb];refine HD (Rs x rfl (HD (Qc ?_)));rw[l];refine Mm ⟨Pe Pp _,L (j+1) _ v _ Y u (W.frame _ _ _ q λb J o e=>?_) (by simp only[SU,hb,Qb];show M) (M4 _ x rfl) λH t i y g=>?_⟩
   .show(MV _ _ (λh:S=b=>E (by rw[h];show J))).trans e
   .show F H t i y λb o a f e=>g b o a f (MV _ _ (Om f)\d b o a e)
  |false=>
   simp only[M2,Oj];refine HD (Qc ?_);rw[l];show Mm ⟨Pe Pp _,L (j+1) _ m c Y u q (by simp only[SU,hb,M2,Oj];show p) x λH t i y g=>F H t i y λb o a f e=>g b o a f (d b o a e)⟩
def wZ (W:Walks prog w A.in1 I fp wr n P St) (B:Nat->Nat->Bool) (l:CmpOf prog w A.in1 .Gt P B) (S:MF) (g:S ∉ fp) (j:St 0 s.heap)
  (E:s>>S=Z { cls:=.type "list",dict:=none,data:=.seq #[] c,slots:=#[] })
  (D:∀ v h' t,(n=0/\v=d)\/(0<n/\P (SU B (n-1)) v)->(∀ b o,b∉wr->b≠S->s>>b=Z o->h'.get? b=Z o)->R (.ok (.ret v)) { s with heap:=h',toks:=t }):
  P0 (MW prog w) A (.builtin "max.loop" ⟨[↥I,.none,↥S],[(nm,d)]⟩) R s:=by
 have y:S∉wr:=λh=>g (W.sub _ h)
 have i:(toString "max"++toString ".loop":String)="max.loop":=O
 refine N0 Uw ?_;rw[NP Pp _];change MI _ A.in1 (Vj ↥S>>=_) _ _ s;refine HD (N2 E rfl ?_);change MI _ A.in1 (tryCatch (QM ↥I) _>>=_) _ _ s
 by_cases x:0<n
 .refine HD (RZ (W.item 0 s _ _ x j λv h' t F r a=>?_));have p:=a S _ y E;change MI _ A.in1 (updateSeq S (λ_=>#[v,v])>>=_) _ _ _;refine HD (Rs p rfl ?_);rw[i];refine Mm ⟨Pe Pp _,yU W B l S g _ 0 _ v _ U x (W.frame _ _ _ r λb C o e=>?_) F (M4 _ p rfl) λG u m z k=>?_⟩
  .show(MV _ _ (λh:S=b=>g (by rw[h];show C))).trans e
  .show D G u m (.inr ⟨x,z⟩) λb o f q e=>k b o f q (MV _ _ (Om q)\a b o f e)
 .have k:n=0:=Y
  subst k;show HD (RZ (W.done s _ _ j λh' t a=>(HD (Pr (Mm (D d h' t (.inl ⟨U,U⟩) λb o f _ e=>a b o f e))))))
end
section
variable {w:Nr}{A:Nw}{E:My}{s:Mt}
def y7 (a v:Mo):Vf "max" ⟨[a],[(R8 "default",v)]⟩:=by unfold Vf;kernel_rfl
def yH (d:Mo):Sy "max" ["key","default"] 0 ⟨[],[(R8 "default",d)]⟩=pure [none,Z d]:=U
def rT {id:String}{b:OJ}{a:List Mo}{d:List (Str × Mo)}{Q:My} (l:builtinKind id=none) (m:plainId id=true) (k:entryFor table id=Z b) (i:Vf id ⟨a,d⟩)
  (j:MI (MW prog w) A.in1 (b ⟨a,d⟩) (λg c=>match g with
   |.done f=>(match (Except.ok f:Result) with|.ok (.ret v)=>Q v c|.ok _=>False|.error e=>E e c)
   |.again c'=>c'.quiet=true/\P0 (MW prog w) A c' (λr c=>match r with|.ok (.ret v)=>Q v c|.ok _=>False|.error e=>E e c) c) E s) :
  MI (MW prog w) A (call (.builtin id) a d) Q E s:=by
 refine P1 (QO m k ?_);simp only[UB,l];cases hsig:Manifest.signature? id with
 |none=>show Mm j
 |some h=>
  simp only[Vf,hsig] at i;change MI _ _ (Bind.checkArgs id h ⟨a,d⟩) _ _ _;rw[i];show Mm j
def aag (hh:A.handled=none) (q:s.heap.IsList l (Tg xs))
  (h:∀ v h' g,(xs.size=0/\v=d)\/(0<xs.size/\(Tg xs)[SU (λi j=>decide (WL xs i>WL xs j)) (xs.size-1)]?=Z v)->(∀ b o,s>>b=Z o->h'.get? b=Z o)->Q v { s with heap:=h',toks:=g }):
  MI (MW prog w) A (call (.builtin "max") [↥l] [(R8 "default",d)]) Q E s:=by
 have a:(toString "max"++toString ".loop":String)="max.loop":=O
 refine rT F.kind_max F.plain_max F.entry_max (y7 _ _) ?_;change MI _ A.in1 (Sy "max" ["key","default"] 0 ⟨[],[(R8 "default",d)]⟩>>=_) _ _ s;refine HD (RT (yH d) (HD (Mm (HD (iter_intList q λm e st k f=>?_)))));subst e;refine HD (No ?_);have u:(Tg xs).size=xs.size:=by simp[Tg]
 have W:=WJ (prog:=prog) (w:=w) (A:=A.in1) hh s⁻¹ l f (Tg xs);have r:l<s⁻¹:=by obtain⟨_,e,_⟩:=q;show Mr e
 rw[a];refine Mm ⟨Pe Pp _,wZ W (λi j=>decide (WL xs i>WL xs j)) (CmpOf.ints_gt (WL xs) (λ_ _=>intItems_at)) (s.heap.push { cls:=.type "list_iterator",data:=.fields #[↥l,.int 0 0] }).objs.size (λc=>Nq _ (k _ c)) (W.frame _ _ _ st λb _ o e=>Ml _ e) (Ms _ U) λv h' g p t=>?_⟩;refine h v h' g (by rw[u] at p;show p) λb o e=>?_
 have n:=Ml (h:=s.heap) { cls:=.type "list_iterator",data:=.fields #[↥l,.int 0 0] } e;show t b o (λc=>by cases Mu.mp c;show Nq _ (Mr e)) (MH (Mr n)) (Ml _ n)
end
end PySem
namespace TR
open PySem PySem.Spec PyProof.Rows L2
variable {X:Cx}
section
variable {K:KE}
def Ku (K:KE)(d:Int)(c:TE):TE:=λb H Q=>c b H λx a=>∃ (p:MF) (ns:List Int),x=↥p/\An K a p (ns.map V.int)/\∀ m,(ns=[]/\m=d)\/(m∈ns/\∀ x∈ns,x<=m)->Q ↑m a
def acT {d:Int} (S:X.K=K) (M:X.calm=true) (G:Gl X "max") (l:X.mg "max"=none) (he:PE X er te)
  (b:M0 [er] X.env=[(false,QA er X.env)]<|>C'):PE X (.Call (.Name "max" p) [er] [⟨Z "default",.Constant ↑d j cp,kp⟩] pos) (Ku K d te):=by
 subst S;refine⟨λa s f H Q I h=>NX (gH I G l acJ ?_)⟩;refine callWith_kw (env:=X.env) (he:=by rw[b];rfl) (hplain:=by rw[b];rfl) (bo ((ai he aH b) pos a s f H (λvs c=>match vs with
  |[x]=>∃ (p:MF) (ns:List Int),x=↥p/\An X.K c p (ns.map V.int)/\∀ m,(ns=[]/\m=d)\/(m∈ns/\∀ x∈ns,x<=m)->Q ↑m c
  |_=>False) I h) λn e ⟨vs,c,F,k,g⟩=>?_)
 match vs,k,g with
 |[x],k,g=>
  obtain⟨p,ns,rfl,L,q⟩:=g;obtain⟨u,rfl,R⟩:=fV k;cases R;refine kws_cons (wpAny_Constant_int (kws_nil ?_));change MI _ _ (call (.builtin "max") [↥p] [(R8 "default",.int d e.toks)]) _ _ _;have o:Ag X a f c { e with toks:=e.toks+1 }:=F.tok _;obtain⟨E,N,C,hz⟩:=o.list L;obtain⟨T,rfl,rfl⟩:=p_ N;have z:=C.isList;rw[uG] at z;refine aag (o.ok.hd M) z λv B y n kk=>?_
  have r:Ag X a f c { e with heap:=B,toks:=y }:=o.kept (t':=y) kk;rcases n with ⟨A,rfl⟩|⟨_,n⟩
  .refine⟨↑d,c,r,⟨_,U⟩,q d (.inl ⟨?_,U⟩)⟩;rw[MJ] at A;rw[Ud.mp A];rfl
  .obtain⟨t,rfl,l⟩:=afk n;refine⟨↑_,c,r,⟨t,U⟩,q _ (.inr ⟨l,λx D=>?_⟩)⟩;obtain⟨i,J,rfl⟩:=afx D;show(uU (WL T.toArray) _).2 i J
end
def GK (h:Oz)(v:Mo)(p:Int×Int):Prop:=∃ a t u,v=↥a/\IsTup h a #[.int p.1 t,.int p.2 u]
def GK.keeps (x:GK h v p)(k:∀ b o,h.get? b=Z o->h'.get? b=Z o):GK h' v p:=by obtain⟨a,t,u,e,o,c,r⟩:=x;show⟨a,t,u,e,o,k _ _ c,r⟩
def Gu (z:Int)(a:List (Int×Int)):List Int:=a.map λp=>(p.1*z).fdiv p.2
variable {prog:MY}
section
variable {w:Nr}{A:Nw}{E:My}{s:Mt}
def adK {env:Env}{q:OZ}{Ax M sc:Str}{p1 p2 p3 q1 q2 px px2 tp pos:Pos}{tk:Nat}{f:Qw}{cl:List (Str × MF)}{cf ka:MF}{z:Int}{tz:Tok}{vs:List Mo}{R:List (Int × Int)}{Q:My}
  (hh:A.handled=none)(hclos:closureFor f env=pure cl)(S:∀ y∈f.names,y.2≠.cell)(k:f.kind=.function)(J:∀ y∈f.names,y.2=.local->f.names.lookup y.1=Z .local)
  (ht:f.names.lookup Ax=Z .local)(I:f.names.lookup M=Z .local)(htb:Ax≠M)(hkf:∀ C,(PH f cl C env).kindOf sc=Z .free)(hcl:cl.lookup sc=Z cf)(hcv:s.heap.IsCell cf (Z (.int z tz)))
  (hit:∀ Q':Mo->Mt->Prop,Q' ↥ka s->MI (MW prog w) A (QA q env) Q' E s)(hka:IsTup s.heap ka vs.toArray)(hlen:⇑R=⇑vs)(hrow:∀ (i:Nat) (v:Mo) (p:Int×Int),vs[i]?=Z v->R[i]?=Z p->GK s.heap v p)
  (hok:∀ p∈R,Sm 8000 p.1/\Sm 8000 z/\Sm 8000 (p.1*z)/\Sm 8000 p.2/\p.2≠0)(hsz:⇑vs<=1000)
  (hs:∀ x,Op q env x=pure x)(hd1:(Ax==("__debug__":Str))=false)(hd2:(M==("__debug__":Str))=false)(hd3:(sc==("__debug__":Str))=false)(hd4:(sc==("__classdict__":Str))=false)
  (h:∀ D h' L c ys,(∀ b o,s>>b=Z o->h'.get? b=Z o)->s⁻¹<=D->OA ys (Gu z R)->h'.get? D=Z { cls:=.type "list",data:=.seq ys.toArray c }->Q ↥D { s with heap:=h',toks:=L }):
  MI (MW prog w) A (QA (.ListComp (.BinOp (.BinOp (.Name Ax p1) .Mult (.Name sc p2) q1) .FloorDiv (.Name M p3) q2) [⟨.Tuple [.Name Ax px,.Name M px2] tk tp,q,[],0⟩] f pos) env) Q E s:=by
 rw[Wg];refine P2 rfl hs hclos k J (hit _ ?_);have hkl:ka<s⁻¹:=hka.lt;have hkT:s.heap.IsTuple ka vs.toArray:=let ⟨o,a,b,n,d⟩:=hka;⟨o,a,b,n,d⟩
 refine PJ hkT (No (Sq S (by intro y hy;simp at hy) (λB g j=>?_) k));dsimp only at g j ⊢;generalize hG:s.heap.push { cls:=.type "tuple_iterator",data:=.fields #[↥ka,.int 0 0] }=G at g j ⊢;have gs:G.objs.size=s⁻¹+1:=by rw[<- hG,NQ]
 have gI:G.get? s⁻¹=Z { cls:=.type "tuple_iterator",data:=.fields #[↥ka,.int 0 0] }:=hG▸Ms _ U;have gk:∀ b o,s>>b=Z o->G.get? b=Z o:=λb o e=>hG▸Ml _ e
 generalize hH:G.push { cls:=.type "list",dict:=none,data:=.seq ([]:List Mo).toArray }=u at g j ⊢;have hs2:u.objs.size=s⁻¹+2:=by rw[<- hH,NQ,gs]
 have hD2:u.get? G.objs.size=Z { cls:=.type "list",dict:=none,data:=.seq ([]:List Mo).toArray }:=hH▸Ms _ U;have F:∀ b o,G.get? b=Z o->u.get? b=Z o:=λb o e=>hH▸Ml _ e
 have t:∀ b o,u.get? b=Z o->B.get? b=Z o:=λb o e=>j.extBut b o (MH (Mr e)) (Ml _ e)
 have W:=Walks.tuple (prog:=prog) (w:=w) hh s⁻¹ ka (MH hkl) vs.toArray;have hzv:vs.toArray.size=⇑vs:=zyA
 have m:∀ b,b<s⁻¹->b≠s⁻¹/\b≠G.objs.size/\b≠u.objs.size:=λb I=>⟨MH I,by rw[gs];show MH (NB I),by rw[hs2];show MH (NB (NB I))⟩
 have T:G.objs.size≠s⁻¹:=by rw[gs];show Nat.succ_ne_self _
 have nCI:u.objs.size≠s⁻¹:=by rw[hs2];show Oi (NB (N_ _))
 have X:u.objs.size≠G.objs.size:=by rw[hs2,gs];show Nat.succ_ne_self _
 have kd:∀ C,(PH f cl C env).scope.kind=.function:=λC=>k
 have N:∀ s3:Mt,s3={ s with heap:=B,toks:=s.toks + ⇑([]:List (Str × Mo)) } ->
   P0 (MW prog w) A (.compLoop (.ListComp (.BinOp (.BinOp (.Name Ax p1) .Mult (.Name sc p2) q1) .FloorDiv (.Name M p3) q2) [⟨.Tuple [.Name Ax px,.Name M px2] tk tp,q,[],0⟩] f pos) 0 ↥s⁻¹ ↥G.objs.size (PH f cl u.objs.size env))
    (compPost (MW prog w) A E none Q ↥G.objs.size u.objs.size) s3:=by
  rintro s3 rfl;refine ju rfl (λn s'=>∃ h' L i ys m' c,s'={ s with heap:=h',toks:=L }/\i<=⇑vs/\n=⇑vs-i/\(∀ b o,s>>b=Z o->h'.get? b=Z o)/\(h'.IsTupleIter s⁻¹ ka i/\h'.IsTuple ka vs.toArray)/\h'.Ns u.objs.size m' /\
   OA ys (Gu z (R.take i))/\h'.get? G.objs.size=Z { cls:=.type "list",data:=.seq ys.toArray c }) ?_ ⇑vs
   ⟨B,_,0,[],_,0,U,N7 _,U,λb o e=>t b o (F b o (gk b o e)),⟨⟨_,t _ _ (F _ _ gI),U,U⟩,hkT.at λo e=>t _ _ (F _ _ (gk _ o e))⟩,g,.nil,t _ _ hD2⟩
  rintro n s' ⟨h',L,i,ys,m',c,rfl,hi,rfl,kp,st,hns,H,hD⟩
  by_cases hlt:i<⇑vs
  .refine W.item i _ _ _ (by rw[hzv];show hlt) st λv h2 tk2 hv st2 hk=>?_
   have hv':vs[i]?=Z v:=by simpa using hv
   obtain⟨p,hp⟩:∃ p,R[i]?=Z p:=⟨_,MC Y⟩
   have kp2:∀ b o,s>>b=Z o->h2.get? b=Z o:=λb o e=>hk b o (by simpa using (m b (Mr e)).1) (kp b o e)
   obtain⟨a,ta,ub,rfl,hT⟩:=(hrow i v p hv' hp).keeps kp2;obtain⟨oI,eI,cI,dI⟩:=id st2.1;refine yu eI cI dI O ?_;have hns2:h2.Ns u.objs.size m':=hns.at' λo e=>hk _ o (by simpa using nCI) e
   refine Tf hh hT rfl rfl λh5 he=>?_
   have he':∀ b o,h2.get? b=Z o->h5.get? b=Z o:=λb o e=>he b o (MH (Mr e)) e
   refine Qm (RS (Sb (QQ ht) (hns2.at' λo e=>he' _ o e) (λh6 hn6 hs6=>(Qm (RS (Sb (QQ I) hn6 (λh3 hn3 hs3=>(T6 ?_)) (by simp[PH,relabel,k]))))) (by simp[PH,relabel,k])));have r:∀ b o,b≠u.objs.size->h2.get? b=Z o->h3.get? b=Z o:=λb o I e=>hs3.extBut b o I (hs6.extBut b o I (he' b o e))
   have kp3:∀ b o,s>>b=Z o->h3.get? b=Z o:=λb o e=>r b o (m b (Mr e)).2.2 (kp2 b o e)
   refine Mm ?_;rw[M' rfl];unfold C9;change MI _ _ (do let _ <- call (.builtin "list.append") [↥G.objs.size,<- QA (.BinOp (.BinOp (.Name Ax p1) .Mult (.Name sc p2) q1) .FloorDiv (.Name M p3) q2) (PH f cl u.objs.size env)]) _ _ _;obtain⟨k1,k2,k3,k4,k5⟩:=hok p (MD hp);refine HD (wpAny_BinOp (wpAny_BinOp (Rc (O_ (kd _) (QQ ht) hn3 (v:=.int p.1 ta) (by simp[htb]) (Rc (SY (kd _) (hkf _) hcl (hcv.keeps kp3) (mul_int (Rc (O_ (kd _) (QQ I) hn3 (v:=.int p.2 ub) zyA ?_) hd2) (Uz (M1 k1.bits O) (M1 k2.bits O))) hd4) hd3)) hd1)));refine floordiv_int k5 ?_ (.inl (TY (by
    by_cases h0:p.2.natAbs=0
    .rw[h0];decide
    .show MK ((Xa h0).mpr k4) O)))
   have hyl:⇑ys=i:=by
    have:=⇑H;unfold Gu at this;rw[Mq,Nl] at this;lia
   refine HD (append_at (hsz:=by rw[MJ,hyl];show eM Y) (r _ _ X.symm (hk _ _ (by simpa using T) hD)) λh9 l hD9=>Mm ?_);obtain⟨tt,hD9'⟩:∃ tt,h9.get? G.objs.size=Z { cls:=.type "list",data:=.seq (ys++[PZ ((p.1*z).fdiv p.2) tt]).toArray (c+1) }:=⟨_,by rw[hD9,Wz]⟩
   refine⟨⇑vs-(i+1),Y,h9,_,i+1,ys++[.int ((p.1*z).fdiv p.2) tt],_,c+1,U,hlt,U,λb o e=>l.extBut b o (m b (Mr e)).2.1 (kp3 b o e),?_,hn3.sameBut l X,?_,?_⟩
   .refine⟨st2.1.at λo e=>l.extBut _ o T.symm (r _ o nCI.symm e),st2.2.at λo e=>l.extBut _ o (m _ hkl).2.1 (r _ o (m _ hkl).2.2 e)⟩
   .have e2:Gu z (R.take (i+1))=Gu z (R.take i)++[(p.1*z).fdiv p.2]:=by unfold Gu;rw[bD hp,Nx];rfl
    rw[e2];show H.append (.cons _ _ .nil)
   .show hD9'
  .have r:i=⇑vs:=Y
   subst r;refine W.done _ _ _ (by rw[hzv];show st) λh2 tk2 hk=>⟨m',hns.at' λo e=>hk _ o (by simpa using nCI) e,λh9 l=>?_⟩
   rw[Nh Y] at H;show h _ h9 tk2 c ys (λb o e=>l.extBut b o (m b (Mr e)).2.2 (hk b o (by simpa using (m b (Mr e)).1) (kp b o e))) (by rw[gs];show Q5 _) H (l.extBut _ _ X.symm (hk _ _ (by simpa using T) hD))
 show UN (N _ U) (W.self 0 _ _ _ ⟨⟨_,t _ _ (F _ _ gI),U,U⟩,hkT.at λo e=>t _ _ (F _ _ (gk _ o e))⟩ (N _ U))
end
def IK:List Int->List Int->Bool
 |a::c,b::bs=>if a=b then IK c bs else decide (a<b)
 |_,_=>false
def adY (l b:MF) (xs ys:Array Mo) (n x:Nat) (hsz:xs.size=ys.size) (as bs:List Int) (t:OA xs.toList as) (r:OA ys.toList bs) (k:Nat) :
  ∀ i:Nat,xs.size-i=k->Meets (OJ.«list.__eq__.loop» ⟨[↥l,↥b,ON i,ON 0],[]⟩)
   (λ_ R s=>s>>l=Z { cls:=.type "list",dict:=none,data:=.seq xs n,slots:=#[] }/\s>>b=Z { cls:=.type "list",dict:=none,data:=.seq ys x,slots:=#[] } /\
    R (.ok (.ret (.bool (IK (as.drop i) (bs.drop i))))) s):=by
 have u:⇑as=xs.size:=by rw[<- ⇑t,ND]
 have y:⇑bs=ys.size:=by rw[<- ⇑r,ND]
 induction k with
 |zero=>
  intro i E f w A R s h;obtain⟨G,g,d,F,os⟩:=s;obtain⟨m,j,h⟩:=h
  wp_walk using Nz m,Nz j
  have e:xs[((i:Nat):Int).toNat]?=none:=by simp;lia
  have c:ys[((i:Nat):Int).toNat]?=none:=by simp;lia
  rw[UH Y,UH Y] at h;rw[e,c]
  wp_walk using Nz m,Nz j
  change R (.ok (.ret (.bool (decide (xs.size<ys.size))))) _;rw[hsz]
  simpa [IK] using h
 |succ k C=>
  intro i E f w A R s h;obtain⟨G,g,d,F,os⟩:=s;obtain⟨m,j,h⟩:=h
  wp_walk using Nz m,Nz j
  have D:i<xs.size:=Y
  have q:i<ys.size:=Y
  have o:i<⇑as:=Y
  have p:i<⇑bs:=Y
  obtain⟨I,B⟩:=t.get i as[i] (by simp[o]);obtain⟨v,z⟩:=r.get i bs[i] (by simp[p]);have e:xs[((i:Nat):Int).toNat]?=Z (.int as[i] I):=by simpa using B
  have c:ys[((i:Nat):Int).toNat]?=Z (.int bs[i] v):=by simpa using z
  have H:((i:Int)+1)=((i+1:Nat):Int):=by push_cast;rfl
  rw[Tq o,Tq p,IK] at h;rw[e,c];refine HD (wpAny_eqBool_int ?_)
  by_cases a:as[i]=bs[i]
  .rw[M' a] at h;rw[a,QW]
   wp_walk
   rw[H];show⟨Pe P9 _,N0 Ue (by
    rw[NP P9 _];show C (i+1) Y f w A R _ ⟨m,j,h⟩)⟩
  .rw[MZ a] at h;rw[show(as[i]==bs[i])=false from by simpa using a]
   wp_walk using Nz m,Nz j
   rw[e,c];refine HD (show MI _ _ (Ow .Lt _ _) _ _ _ from lt_int ?_)
   wp_walk
   show h
def ac0 (l b:MF) (xs ys:Array Mo) (n c:Nat) (hsz:xs.size=ys.size) (as bs:List Int) (j:OA xs.toList as) (i:OA ys.toList bs) :
  Meets (OJ.«list.__lt__» ⟨[↥l,↥b],[]⟩)
   (λ_ R s=>s>>l=Z { cls:=.type "list",dict:=none,data:=.seq xs n,slots:=#[] }/\s>>b=Z { cls:=.type "list",dict:=none,data:=.seq ys c,slots:=#[] } /\
    R (.ok (.ret (.bool (IK as bs)))) s):=by
 intro a w A R s h;obtain⟨o,g,d,m,os⟩:=s;obtain⟨f,e,h⟩:=h;have k:=AutoSeq1.sub_list_list
 wp_walk using Nz f,Nz e
 show⟨Pe P9 _,N0 Ue (by
  rw[NP P9 _];show adY l b xs ys n c hsz as bs j i _ 0 U a w A R _ ⟨f,e,h⟩)⟩
section
variable {w:Nr}{A:Nw}{E:My}{s:Mt}
def vK (f:A.units < cLine) (a:s>>l=Z (N9 "list" xs n)) (d:s>>b=Z (N9 "list" ys n2)) (hsz:xs.size=ys.size)
  (c:OA xs.toList as)(e:OA ys.toList bs)(h:Q (IK as bs) s):MI (MW prog w) A (keyLt' oneType' ↥l ↥b) Q E s:=by
 rw[keyLt'_oneType,oneLt'_eq];simp only[Qb];refine HD (wpAny_cRoomFor f (HD (wpAny_callSpecialIfBound?_slot ⟨_,a,U⟩ Vy (RP Vy ⟨_,a,U⟩ PySem.F.entry_list_lt (PySem.F.args_list_lt_2 _ _) (ac0 l b xs ys n n2 hsz as bs c e) ⟨a,d,?_⟩))));show NV h
end
def IS {α:Type}(lt:Nat->Nat->Bool):Td α->α
 |.ret a=>a
 |.ask i j k=>IS lt (k (lt i j))
def Ce {α:Type}(n:Nat)(P:α->Prop):Td α->Prop
 |.ret a=>P a
 |.ask i j k=>i<n/\j<n/\∀ b,Ce n P (k b)
theorem Ce.bind:∀ {t:Td α},Ce n P t->(∀ a,P a->Ce n P' (f a))->Ce n P' (t.bind f)
 |.ret a,h,c=>c a h
 |.ask i j k,h,c=>⟨h.1,h.2.1,λb=>(h.2.2 b).bind c⟩
theorem Ce.run:∀ {t:Td α},Ce n P t->P (IS lt t)
 |.ret a,h=>h
 |.ask i j k,h=>(h.2.2 (lt i j)).run
theorem Ce.wp {α:Type}{n:Nat}{P:α->Prop}{lt:Nat->Nat->Bool}{I:Mt->Prop}{c:Nat->Nat->(Bool->Mt->Prop)->Mt->Prop}{G:α->Mt->Prop}
  (g:∀ i j s C,i<n->j<n->I s->(∀ b,I b->C (lt i j) b)->c i j C s):∀ {t:Td α}{s:Mt},Ce n P t->I s->(∀ b,I b->G (IS lt t) b)->t.kasWp c G s
 |.ret a,s,h,f,d=>d s f
 |.ask i j k,s,h,f,d=>g i j s _ h.1 h.2.1 f λb e=>(h.2.2 (lt i j)).wp g e d
def Fp (n:Nat)(p:Array Nat):Prop:=p.Perm (NG n).toArray
def Fp.lt (h:Fp n p)(b:0<n)(i:Nat):p.getD i 0<n:=by
 by_cases a:i<p.size
 .have e:p.getD i 0=p[i]:=by simp[TC,a]
  have c:p[i]∈p.toList:=zyA
  have:=(SZ.mp h).mem_iff.mp c;rw[e]
  simpa using this
 .have e:p.getD i 0=0:=by simp[TC,a]
  rw[e];show b
def Fp.rev (h:Fp n p)(i j:Nat):Fp n (PySem.W.kas_rev p i j):=mirror_perm p i j _\h
def Fp.bub (h:Fp n p)(i j:Nat):Fp n (bubble p i j):=bubble_perm p i j\h
theorem o8 (a:0<n)(h:Fp n p):∀ f m,Ce n (λ_=>True) (PySem.W.kas_asc p f m)
 |0,m=>trivial
 |f+1,m=>⟨h.lt a _,h.lt a _,λb=>by cases b<;>first|show o8 a h f (m+1)|show trivial⟩
theorem jS (a:0<n):∀ f {p:Array Nat} m q,Fp n p->Ce n (λr=>Fp n r.1) (PySem.W.kas_desc f p m q)
 |0,p,m,q,h=>h
 |f+1,p,m,q,h=>⟨h.lt a _,h.lt a _,λb=>by
  cases b
  .show⟨h.lt a _,h.lt a _,λd=>by
    cases d
    .show jS a f _ _ h
    .show h⟩
  .change Ce n _ (if q>0 then _ else _)
   split
   .show jS a f _ _ (h.rev _ _)
   .show jS a f _ _ h⟩
def pW (a:0<n)(h:Fp n p)(m k:Nat):Ce n (λr=>Fp n r.2) (PySem.W.kas_tail3 m k p):=
 (o8 a (h.rev 0 m) _ _).bind λ_ _=>h.rev 0 m
def kj (a:0<n)(h:Fp n p)(m k:Nat):Ce n (λr=>Fp n r.2) (PySem.W.kas_descPart m k p):=by
 refine(jS a _ _ _ h).bind λr b=>?_
 split
 .show pW a (b.rev _ _) _ _
 .show pW a b _ _
def wK (a:0<n)(h:Fp n p)(k:Nat):Ce n (λr=>Fp n r.2) (PySem.W.kas_count k p):=by
 refine(o8 a h _ _).bind λm _=>?_
 split
 .show h
 .split
  .show⟨h.lt a _,h.lt a _,λb=>by
    cases b
    .show kj a (h.rev _ _) _ _
    .show h⟩
  .show kj a h _ _
theorem oK (a:0<n)(h:Fp n p)(k:Nat):∀ f l r,Ce n (λ_=>True) (WD p k f l r)
 |0,l,r=>trivial
 |f+1,l,r=>by
  unfold WD
  split
  .trivial
  .show⟨h.lt a _,h.lt a _,λb=>by cases b<;>show oK a h k f _ _⟩
theorem uJ (a:0<n):∀ f {p:Array Nat} k,Fp n p->Ce n (Fp n) (PySem.W.kas_bin f p k)
 |0,p,k,h=>h
 |f+1,p,k,h=>(oK a h k _ _ _).bind λl _=>uJ a f _ (h.bub _ _)
def rd (a:0<n):Ce n (Fp n) (W5 n):=by
 refine(wK a (Array.Perm.refl _) _).bind λr b=>?_
 split
 .show uJ a _ _ b
 .show b
def Iz (h:Oz)(e a:MF)(v:Mo)(k:List Int):Prop:=∃ b d c,v=↥b/\b≠e/\b≠a/\h.get? b=Z (N9 "list" d c)/\OA d.toList k
def Ev (kz:Xt):List Nat:=if ⇑kz<2 then NG ⇑kz else(IS (λi j=>IK (kz.getD i []) (kz.getD j [])) (W5 ⇑kz)).toList
def jP (kz:Xt):(Ev kz).Perm (NG ⇑kz):=by
 unfold Ev
 split
 .show .refl _
 .have h:=(rd (n:=⇑kz) Y).run (lt:=λi j=>IK (kz.getD i []) (kz.getD j []));show SZ.mp h
def Ix (k:List Int)(a:Mt)(v:Mo)(d:Mt):Prop:=
 ∃ e g D f c,d={ a with heap:=e,toks:=g }/\v=↥D/\(∀ b o,a>>b=Z o->e.get? b=Z o)/\a⁻¹<=D/\OA f.toList k/\e.get? D=Z (N9 "list" f c)
section
variable {w:Nr}{A:Nw}{E:My}{s:Mt}{a kS:MF}{vs:List Mo}{kz:Xt}{P:PySem.Fin->Mt->Prop}
def uT {st:SortSt}{d out:Array Mo}{e i:Nat} (k:kS ≠ a) (u:s>>kS=Z (N9 "list" d e)) (n:s>>a=Z (N9 "list" #[] i)) (t:d.size < 64) (x:out.size < 64)
  (g:(arrOf st).map (·.2)=out)(l:failedOf st=none)
  (h:∀ h' v c,(∀ b o,b≠a->b≠kS->s>>b=Z o->h'.get? b=Z o)->h'.get? a=Z (N9 "list" out c)->P (.done (.ret .none)) { s with heap:=h',toks:=v }):
  MI (MW prog w) A (ksk_tail a false i ↥kS st) P E s:=by
 have m:=M_ s.heap kS (NH λ_=>(#[]:Array Mo));have f:(s.heap.update kS (NH λ_=>(#[]:Array Mo))).get? a=Z (N9 "list" #[] i):=m.2 a k.symm\n;obtain⟨c2,j⟩:∃ c2,((s.heap.update kS (NH λ_=>(#[]:Array Mo))).update a (NH λ_=>out)).get? a=Z (N9 "list" out c2):=⟨_,Rq f λ_=>out⟩
 unfold ksk_tail
 try dsimp only
 rw[g];refine HD (Us u rfl (HD (Qc (HD (seqEpoch_at f rfl ?_)))) (by rw[NN];lia) (N7 _));simp only[M2,Oj];refine HD (Us f rfl ?_ (N7 _) (by rw[NN];lia));rw[l];simp only[RL,M2,Oj];show Mm (h _ _ c2 (λb o r p q=>(M_ (s.heap.update kS (NH λ_=>(#[]:Array Mo))) a (NH λ_=>out)).2 b r\(m.2 b p\q)) j)
def adS {d:List Mo}{e z:Nat} (hu:A.units < cLine) (u:kS ≠ a) (S:s>>kS=Z (N9 "list" d.toArray e)) (M:s>>a=Z (N9 "list" #[] z)) (B:⇑d=⇑vs) (f:⇑kz=⇑vs) (J:⇑vs < 64) (L:∀ k ∈ kz,⇑k=3)
  (n:∀ (i:Nat) (v:Mo) (k:List Int),d[i]?=Z v->kz[i]?=Z k->Iz s.heap kS a v k)
  (h:∀ h' tk c,(∀ b o,b≠a->b≠kS->s>>b=Z o->h'.get? b=Z o)->h'.get? a=Z (N9 "list" ((Ev kz).map λi=>vs.getD i Nc).toArray c)->P (.done (.ret .none)) { s with heap:=h',toks:=tk }):
  MI (MW prog w) A (ksk_end a false vs.toArray z ↥kS d.toArray) P E s:=by
 unfold ksk_end
 try dsimp only
 simp only[M2,Oj]
 by_cases r:vs.toArray.size<2
 .rw[M' r,M' r];rw[MJ] at r;refine HD (Mm ?_);rw[StateT.run_pure];refine HD (Mm ?_)
  try dsimp only
  refine uT u S M (by rw[MJ];lia) (by rw[MJ,Mq,(jP kz).length_eq,QF];lia) ?_ U h;apply Array.toList_inj.mp;change((d.toArray.zip vs.toArray).map (·.2)).toList=_;rw[Array.toList_map,ksk_zip];unfold Ev;rw[M' Y,f];change List.map Prod.snd (d.zip vs)=_;rw[List.map_snd_zip Y];refine TN λi=>?_
  by_cases g:i<⇑vs
  .simp[g]
  .simp[Nat.le_of_not_lt g]
 .rw[MZ r,MZ r];rw[MJ] at r;have t:∀ i,i<⇑vs->Iz s.heap kS a (d.getD i Nc) (kz.getD i []):=λi g=>by
   have z:d[i]?=Z (d.getD i Nc):=by simp[B,g]
   have D:kz[i]?=Z (kz.getD i []):=by simp[f,g]
   show n i _ _ z D
  refine HD (PySem.W.kas_kind (T:=.type "list") Y (λv hv=>?_) U U ?_)
  .obtain⟨i,g⟩:=Sl hv;have q:i<⇑vs:=by rw[<- B];show(Mp.mp g).1
   obtain⟨b,ys,c,e,_,_,H,_⟩:=n i v (kz.getD i []) g (by simp[f,q]);rw[e];show(Sg H).andThen .now
  refine HD (NI (PySem.W.kat_run (G:=λp l=>l=s/\p.toList=Ev kz) (Q:=λm l=>l=s/\∃ p:Array Nat,p.toList=Ev kz/\arrOf m=p.map (PySem.W.kas_item (d.toArray.zip vs.toArray))/\failedOf m=none) B Y J
   (λp m l a1 a2 a3 X=>⟨X.1,p,X.2,a2,a3⟩) ?_) ?_ λ_ _ x=>x)
  .refine(rd Y).wp (lt:=λi j=>IK (kz.getD i []) (kz.getD j [])) (I:=λl=>l=s) (λi j l C g hj e hC=>?_) U λl e=>⟨e,?_⟩
   .subst e;obtain⟨b,ys,c,e,_,_,H,y⟩:=t i g;obtain⟨b2,ys2,c2,D,_,_,F,q⟩:=t j hj;unfold PySem.W.kas_ask;rw[e,D];refine vK hu H F ?_ y q (hC _ U);have N:=⇑y;have R:=⇑q;rw[ND] at N R;rw[N,R,L _ (MD (show kz[i]?=Z (kz.getD i []) by simp[f,g])),L _ (MD (show kz[j]?=Z (kz.getD j []) by simp[f,hj]))]
   .unfold Ev;rw[MZ Y,f]
  .rintro⟨⟨⟩,m⟩ l ⟨rfl,p,F,q,y⟩
   try dsimp only
   refine uT u S M (by rw[MJ];lia) (out:=((Ev kz).map λi=>vs.getD i Nc).toArray) (by rw[MJ,Mq,(jP kz).length_eq,QF];lia) ?_ y h;rw[PySem.W.kat_snds B q,F]
def aa3 {f:Mo}{n:Nat} (hu:A.units < cLine) (J:s>>a=Z (N9 "list" vs.toArray n)) (B:⇑kz=⇑vs) (h64:⇑vs < 64) (S:∀ k ∈ kz,⇑k=3)
  (B5:∀ (i:Nat) (v:Mo) (k:List Int),vs[i]?=Z v->kz[i]?=Z k->∀ (h:Oz) (r:Nat),(∀ b o,b≠a->s>>b=Z o->h.get? b=Z o) ->
   MI (MW prog w) A (call f [v]) (Ix k { s with heap:=h,toks:=r }) (λ_ _=>False) { s with heap:=h,toks:=r })
  (h:∀ h' r c,(∀ b o,b≠a->s>>b=Z o->h'.get? b=Z o)->h'.get? a=Z (N9 "list" ((Ev kz).map λi=>vs.getD i Nc).toArray c)->P (.done (.ret .none)) { s with heap:=h',toks:=r }):
  MI (MW prog w) A (ksk_tree a f false) P E s:=by
 obtain⟨I,G⟩:∃ I,(s.heap.update a (NH λ_=>(#[]:Array Mo))).get? a=Z (N9 "list" #[] I):=⟨_,Rq J λ_=>#[]⟩
 have H:((s.heap.update a (NH λ_=>(#[]:Array Mo))).push (N9 "tuple" vs.toArray 0)).objs.size=s⁻¹+1:=by rw[size_push',Uy]
 unfold ksk_tree;refine HD (listItems_at J rfl (HD (Us J rfl (HD (seqEpoch_at G rfl (HD (Tz (HD (Sx (Nv ?_) (N7 _))) (by change ⇑vs<=_;rw[NN];lia))))) (by rw[MJ,NN];lia) (N7 _))));change MI (MW prog w) A _ P E { s with heap:=((s.heap.update a (NH λ_=>(#[]:Array Mo))).push (N9 "tuple" vs.toArray 0)).push (N9 "list" #[] 0) };generalize hg:((s.heap.update a (NH λ_=>(#[]:Array Mo))).push (N9 "tuple" vs.toArray 0)).push (N9 "list" #[] 0)=g at *;have gk:∀ b o,b≠a->s>>b=Z o->g.get? b=Z o:=λb o y e=>hg▸Ml _ (Ml _ ((M_ s.heap a (NH λ_=>(#[]:Array Mo))).2 b y\e))
 have ga:g.get? a=Z (N9 "list" #[] I):=hg▸Ml _ (Ml _ G);have gS:g.get? (s⁻¹+1)=Z (N9 "list" (#[]:Array Mo) 0):=by rw[<- hg,<- H];show Ms _ U
 rw[H];have C:s⁻¹+1≠a:=Oi (NB (Mr J));unfold ksk_rest;refine HD (Pr ?_)
 first
  |rw[List.forIn_toArray]
  |(rw[<- Ps];simp only[VQ])
  |rw[<- Ps]
 refine HD (ksk_fold (fun i Q=>∃ h' r m e,Q={ s with heap:=h',toks:=r }/\(∀ b o,b ≠ a->s>>b=Z o->h'.get? b=Z o)/\h'.get? a=Z (N9 "list" #[] I)/\h'.get? (s⁻¹ + 1)=Z (N9 "list" (U4 m) e)/\⇑m=i /\
   ∀ (j:Nat) (v:Mo) (k:List Int),m[j]?=Z v->kz[j]?=Z k->Iz h' (s⁻¹+1) a v k) vs 0 _
  ⟨g,s.toks,[],0,U,gk,ga,gS,U,λj v k e _=>by simp at e⟩ ?step ?done)
 case step=>
  rintro j x Q hx ⟨h',r,m,e,rfl,M,t,l,d,p⟩;simp only[Ol] at d ⊢;have hj:j<⇑vs:=(Mp.mp hx).1;obtain⟨k,z⟩:∃ k,kz[j]?=Z k:=⟨_,MC Y⟩
  refine HD (OO (NI (B5 j x k hx z h' r M) (λv s'' he=>?_) λ_ _ hF=>hF.elim));obtain⟨g2,tk2,D,ys,c,rfl,rfl,N,hD,hys,hgD⟩:=he
  try dsimp only
  have nS:=N _ _ l;have L:=M_ g2 (s⁻¹+1) (NH (·.push ↥D));have ea:(U4 m).push (MT D)=U4 (m++[MT D]):=zyA
  obtain⟨c2,X⟩:∃ c2,(g2.update (s⁻¹+1) (NH (·.push ↥D))).get? (s⁻¹+1)=Z (N9 "list" (U4 (m++[MT D])) c2):=⟨_,by rw[<- ea];show Rq nS (·.push ↥D)⟩
  have nD:D≠s⁻¹+1:=Oi (MK (Mr l) hD);refine HD (Us nS rfl (Mm ⟨U,_,_,m++[↥D],c2,U,λb o y q=>L.2 b ?_\N _ _ (M b o y q),L.2 a C.symm\N _ _ t,X,by rw[MP,d];rfl,λi v k' F u=>?_⟩) (by rw[MJ,NN];lia) (M1 (U7 (Array.size_push ..)) (by rw[MJ,NN];lia)))
  .show MH (NB (Mr q))
  .by_cases hi:i<⇑m
   .rw[NY hi] at F;obtain⟨b,T,c',e,n1,n2,hb,hy⟩:=p i v k' F u;show⟨b,T,c',e,n1,n2,L.2 b n1\N _ _ hb,hy⟩
   .have T:i=⇑m:=by
     have:=(Mp.mp F).1;rw[MP,R5] at this;lia
    subst T;rw[NR (Mz _),U9] at F;cases F;rw[d,z] at u;cases u;show⟨D,ys,c,U,nD,Oi (MK (Mr t) hD),L.2 D nD\hgD,hys⟩
 case done=>
  rintro Q ⟨h',r,m,e,rfl,M,t,l,d,p⟩;rw[Ol] at d
  try dsimp only
  show HD (listItems_at l rfl (adS hu C l t d B h64 S p λS R c k3 hc=>h S R c (λb o y q=>k3 b o y (MH (NB (Mr q))) (M b o y q)) hc))
end
theorem fS {env:Env}:∀ {names:List (Str × Qk)}{x:Str},names.lookup x=Z .free->env.kindOf x ≠ Z .cell ->
  (names.map λ(n,k)=>if(k==NW&&env.scope.kind==.function&&env.kindOf n==Z .cell) then(n,N6) else(n,k)).lookup x=Z .free
 |[],_,h,_=>by simp at h
 |(n,k)::r,x,h,b=>by
  have c:=@fS env r x;change Q2 x ((if(k==NW&&env.scope.kind==.function&&env.kindOf n==Z .cell)=true then(n,N6) else(n,k))::_)=_;cases hn:x==n with
  |true=>
   simp only[NT,hn] at h;cases h;have a:¬ (NW==NW&&env.scope.kind==.function&&env.kindOf n==Z .cell)=true:=by
    rw[<- (eq_of_beq hn)];simp only[MX,NZ,not_and];show λ_=>b
   rw[MZ a];simp[NT,hn]
  |false=>
   simp only[NT,hn] at h
   by_cases a:(k==NW&&env.scope.kind==.function&&env.kindOf n==Z .cell)=true
   .rw[M' a];simp only[NT,hn];show c h b
   .rw[MZ a];simp only[NT,hn];show c h b
abbrev IM (Ax d k col:Str)(i l e n g h c j m b:Pos)(f:Nat)(a:Qw):OZ:=
 .ListComp (.BinOp (.BinOp (.Name Ax i) .Mult (.Name k l) n) .FloorDiv (.Name d e) g) [⟨.Tuple [.Name Ax h,.Name d c] f j,.Name col m,[],0⟩] a b
def Hl (b a:Qw)(Ax d c col:Str):Bool:=b.kind==.function&&!b.isCoroutine&&!b.isGenerator&&b.names.all (λy=>!(y.2==.cell))&&b.names.lookup col==Z .local&&b.names.lookup c==Z .free &&
 a.kind==.function&&a.names.all (λy=>!(y.2==.cell))&&a.names.all (λy=>!(y.2==.local)||a.names.lookup y.1==Z .local)&&a.names.lookup Ax==Z .local&&a.names.lookup d==Z .local&&a.names.lookup c==Z .free&&a.names.all (λy=>!(y.2==.free)||y.1==c)&&!(Ax==d) &&
 !(Ax==("__debug__":Str))&&!(d==("__debug__":Str))&&!(c==("__debug__":Str))&&!(c==("__classdict__":Str))&&!(col==("__debug__":Str))
section
variable {w:Nr}{A:Nw}{E:My}{s:Mt}
def zN {f c' ka cf:MF}{l Ax bl F col:Str}{k:VX}{p1 p2 p3 q1 q2 px I tp ci N:Pos}{tk:Nat}{g a:Qw}{cl:List (Str × MF)}{pm G:Mo}{z:Int}{tz:Tok}{vs:List Mo}{ps:List (Int × Int)}{Q:My}
  (hh:A.handled=none)(M:s.heap.NoLimit)(r:A.depth<recursionLimit)(ho:s>>f=Z { cls:=.type "function",data:=.func (QR "<lambda>" l k (IM Ax bl F col p1 p2 p3 q1 q2 px I tp ci N tk a) g cl pm ↥c' G) })(hcd:s.heap.CodeRec ↥c' l)
  (n:∀ u,QJ (QR "<lambda>" l k (IM Ax bl F col p1 p2 p3 q1 q2 px I tp ci N tk a) g cl pm ↥c' G) ⟨[u],[]⟩=pure [(col,u)])
  (t:Hl g a Ax bl F col=true)(T:cl.lookup F=Z cf)(hcv:s.heap.IsCell cf (Z (.int z tz)))
  (hka:IsTup s.heap ka vs.toArray)(L:⇑ps=⇑vs)(H:∀ (i:Nat) (v:Mo) (p:Int×Int),vs[i]?=Z v->ps[i]?=Z p->GK s.heap v p)
  (hok:∀ p∈ps,Sm 8000 p.1/\Sm 8000 z/\Sm 8000 (p.1*z)/\Sm 8000 p.2/\p.2≠0)(hsz:⇑vs<=1000)
  (h:∀ D h' B c ys,(∀ b o,s>>b=Z o->h'.get? b=Z o)->s⁻¹<=D->OA ys (Gu z ps)->h'.get? D=Z { cls:=.type "list",data:=.seq ys.toArray c }->Q ↥D { s with heap:=h',toks:=B }):
  MI (MW prog w) A (call ↥f [↥ka]) Q E s:=by
 unfold Hl at t;simp only[MX,NE,NZ,TD,US] at t;obtain⟨⟨⟨⟨⟨⟨⟨⟨⟨⟨⟨⟨⟨⟨⟨⟨⟨⟨k1,k2⟩,k3⟩,k4⟩,k5⟩,k6⟩,k7⟩,k8⟩,k9⟩,k10⟩,k11⟩,X⟩,k13⟩,k14⟩,k15⟩,k16⟩,k17⟩,k18⟩,k19⟩:=t;refine P1 (Vz r ho rfl k2 k3 rfl hcd ?_);rw[n];refine Mm (Sq (λx hx e=>by have:=k4 x hx;rw[e] at this;cases this) (λx hx=>?_) (λJ R S=>⟨M.fresh _ S,VA ?_⟩) k1)
 .cases Mu.mp hx;show k5
 have d:∀ b o,s>>b=Z o->J.get? b=Z o:=λb o e=>S.extBut b o (MH (Mr e)) (Ml _ e)
 have j:∀ y∈a.names,y.2=.free->∃ c,cl.lookup y.1=Z c:=λy m e=>by
  rcases k13 y m with q|q
  .rw[e] at q;cases q
  .rw[q];show⟨cf,T⟩
 have hcl2:(Fg cl a.names []).lookup F=Z cf:=by
  obtain⟨c2,e2⟩:=gf (acc:=[]) (.inr (iJ X));rcases dR j e2 with z|⟨_,z⟩
  .cases z
  .rw[T] at z;cases z;show e2
 refine adK (ka:=ka) hh (lW j) (λy m e=>by have:=k8 y m;rw[e] at this;cases this) k7
  (λy m e=>by rcases k9 y m with q|q;(rw[e] at q;cases q);show q) k10 k11 (by simpa using k14) (λC=>fS X ?_) hcl2 (hcv.keeps d) (λQ' hq=>?_) ?_ L (λi v p h1 h2=>(H i v p h1 h2).keeps d) hok hsz (by intro _;rfl) k15 k16 k17 k18 λD h' B c ys kk hD m hg=>?_
 .change g.names.lookup F≠_;rw[k6];intro e;cases e
 .refine Rc (O_ k1 ?_ R ?_ hq) k19
  .show k5
  .simp
 .obtain⟨o,e,q⟩:=hka;show⟨o,d _ _ e,q⟩
 .show h D h' B c ys (λb o e=>kk b o (d b o e)) (M1 (N4 R.lt) hD) m hg
def adz {l:MF}{vs:List Mo}{kz:Xt}{f:Mo}{p:List (Str × Mo)}{Q:My}
  (C:A.units+2<cLine)(J:s.heap.IsList l vs.toArray)(m:⇑kz=⇑vs)(u:⇑vs<64)(B:∀ k∈kz,⇑k=3)
  (r:Vf "sorted" ⟨[↥l],p⟩)(t:∀ x,Vf "list.sort" ⟨[↥x],p⟩)(I:∀ x,OJ.«list.sort» ⟨[↥x],p⟩=ksk_tree x f false)
  (B5:∀ (i:Nat) (v:Mo) (k:List Int),vs[i]?=Z v->kz[i]?=Z k->∀ (h:Oz) (a:Nat),(∀ b o,s>>b=Z o->h.get? b=Z o) ->
   MI (MW prog w) A.in1.in1 (call f [v]) (Ix k { s with heap:=h,toks:=a }) (λ_ _=>False) { s with heap:=h,toks:=a })
  (h:∀ D h' a c,(∀ b o,s>>b=Z o->h'.get? b=Z o)->s⁻¹<=D->h'.get? D=Z (N9 "list" ((Ev kz).map λi=>vs.getD i Nc).toArray c)->Q ↥D { s with heap:=h',toks:=a }):
  MI (MW prog w) A (call (.builtin "sorted") [↥l] p) Q E s:=by
 refine UM kind_sorted plain_sorted entry_sorted r ?_;unfold OJ.«sorted»;refine HD (Mm (HD (collect_list J (HD (Sx ?_ (by rw[NN];lia))) (by rw[NN];lia))));have d:((s.heap.push (N9 "list" #[] 0)).update s⁻¹ (NH (·++vs.toArray))).objs.size=s⁻¹+1:=by
  rw[Uy,size_push']
 have n:(((s.heap.push (N9 "list" #[] 0)).update s⁻¹ (NH (·++vs.toArray))).push (N9 "list" vs.toArray 0)).get? (s⁻¹+1)=Z (N9 "list" vs.toArray 0):=by
  rw[<- d];show Ms _ U
 have keep:∀ b o,s>>b=Z o->(((s.heap.push (N9 "list" #[] 0)).update s⁻¹ (NH (·++vs.toArray))).push (N9 "list" vs.toArray 0)).get? b=Z o:=λb o q=>by
  have j:b<s⁻¹:=Mr q;rw[Ws _ _ _ (by rw[d];show MH (NB j)),Heap.get?_update_ne _ _ _ _ (MH j),Ws _ _ _ (MH j)];show q
 have z:∀ b o,s>>b=Z o->b≠s⁻¹+1:=λb o q=>MH (NB (Mr q))
 change MI _ _ _ _ _ { s with heap:=((s.heap.push (N9 "list" #[] 0)).update s⁻¹ (NH (·++vs.toArray))).push (N9 "list" vs.toArray 0) };rw[d];refine HD (Nv (wpAny_call_entry_kw VF ⟨_,n,U⟩ Vh ?body (t _)))
 case body=>
  show MI (MW prog w) A.in1.in1 (OJ.«list.sort» ⟨[↥(s⁻¹+1)],p⟩) _ _ _;rw[I (s⁻¹+1)];refine aa3 (s:={ s with heap:=((s.heap.push (N9 "list" #[] 0)).update s⁻¹ (NH (·++vs.toArray))).push (N9 "list" vs.toArray 0) }) C n m u B
   (λi v k G H g a y=>B5 i v k G H g a λb o e=>y b o (z b o e) (keep b o e)) λh' a c y F=>⟨_,U,Mm ⟨_,U,h _ h' a c (λb o e=>y b o (z b o e) (keep b o e)) (Q5 _) F⟩⟩
end
def Dw (c:Q3):List (Int×Int):=[(c.a.num,(c.a.den:Int)),(c.b.num,(c.b.den:Int)),(c.c.num,(c.c.den:Int))]
def IF (z:Int)(c:Q3):List Int:=Gu z (Dw c)
def C6 (z:Int)(xs:Q4):List (Q3×MF):=(Ev (xs.map λp=>IF z p.1)).filterMap (xs[·]?)
def mQ (xs:List α):(NG ⇑xs).filterMap (xs[·]?)=xs:=by
 induction xs with
 |nil=>rfl
 |cons x xs a=>
  rw[Np,List.range_succ_eq_map,TQ (by rfl:(x::xs)[0]?=Z x),List.filterMap_map]
  congr 1
def jK (z:Int)(xs:Q4):(C6 z xs).Perm xs:=by
 have h:=((jP (xs.map λp=>IF z p.1)).filterMap (xs[·]?))
 rw[Mq,mQ] at h;show h
def abv {i:Nat}(r:Ah xs us)(a:xs[i]?=Z x)(b:us[i]?=Z u):Ao x u:=by obtain⟨c,e,q⟩:=r.get a;rw[b] at e;cases e;show q
theorem rF {vs:List Mo}{xs:Q4}(h:Ah (xs.map λp=>V.ref p.2) vs):∀ (l:List Nat),(∀ i∈l,i<⇑xs)->Ah ((l.filterMap (xs[·]?)).map λp=>V.ref p.2) (l.map λi=>vs.getD i Nc)
 |[],_=>.nil
 |i::l,a=>by
  have b:=a i MS;have d:⇑vs=⇑xs:=by rw[<- ⇑h,Mq]
  have e:xs[i]?=Z xs[i]:=by simp[b]
  rw[TQ e,MR,MR];refine .cons ?_ (rF h l λj c=>a j (Mx _ c));have f:vs[i]?=Z (vs.getD i Nc):=by simp[d,b]
  show abv h (by rw[Mw,e];rfl) f
section
variable {P:MY}{w:Nr}{H:Hp}{h:Oz}{K:KE}
def wq {q:Rat}(ok:B9 P w H h)(hq:Ad K H (rD q) v)(k:Ao v u):GK h u (q.num,(q.den:Int)):=by
 obtain⟨a,rfl,b⟩:=aU hq;cases k;obtain⟨_,e,r,o,i,f,n,l⟩:=(show At P w H h a (.tup [↑q.num,↑q.den]) from ok a _ b)
 obtain⟨u1,u2,rfl,⟨j,d⟩,⟨c,g⟩⟩:=j9 r;subst d g;show⟨a,j,c,U,o,i,f,n,l⟩
def ae6 (ok:B9 P w H h)(s:Ad K H c.col ↥ka):∃ vs:List Mo,IsTup h ka vs.toArray/\⇑vs=3/\∀ (i:Nat) (v:Mo) (p:Int×Int),vs[i]?=Z v->(Dw c)[i]?=Z p->GK h v p:=by
 cases s with
 |tup e q=>
  obtain⟨x,y,z,rfl,A,t,d⟩:=b_ q;obtain⟨_,j,r,o,u,k,n,B⟩:=(show At P w H h ka (.tup [x,y,z]) from ok ka _ e)
  obtain⟨u1,u2,m,rfl,f,l,g⟩:=aej r;refine⟨[u1,u2,m],⟨o,u,k,n,B⟩,U,λi v p a b=>?_⟩
  match i,a,b with
  |0,a,b=>cases a;cases b;show wq ok A f
  |1,a,b=>cases a;cases b;show wq ok t l
  |2,a,b=>cases a;cases b;show wq ok d g
  |n+3,a,_=>simp at a
end
def Jg (K:KE)(i:Nat)(P:MF)(q:Str)(e:TE):TE:=λd H Q=>e d H λx b=>∃ (l:MF) (a:Q4) (z:Int),x=↥l/\An K b l (a.map λp=>↥p.2)/\(∀ p∈a,Ad K b p.1.col ↥p.2)/\⇑a<64/\d[i]?=Z (Z ↑z) /\
 (∀ p∈a,∀ r∈Dw p.1,Sm 8000 r.1/\Sm 8000 z/\Sm 8000 (r.1*z)/\Sm 8000 r.2)/\b P=Z (Hi q)/\∀ (c:Hp) (D:MF),Aa b c->c D=none->Q ↥D (upd c D (.lst ((C6 z a).map λp=>↥p.2)))
section
variable {K:KE}
def aaY {c P:MF}{i k:Nat}{Ax bl t col:Str}{er:OZ}{tr:TE}{f:VX}{a d:Qw}{p1 p2 p3 q1 q2 px px2 tp ci F lp p pos kp1:Pos}{tk:Nat} (hK:X.K=K) (hc:X.calm=true) (hu:X.A.units + 2 < cLine) (hr:Room k X.A) (hg:Gl X "sorted") (hm:X.mg "sorted"=none)
  (T:X.env.code=↥c)(hcd:∀ h,K.In h->RW h c P)(hN:X.N[i]?=Z t)(hv:X.env.kindOf t=Z .cell)(he:PE X er tr)
  (J:M0 [er] X.env=[(false,QA er X.env)]<|>C')
  (E:Hl a d Ax bl t col=true<|>F')(hfr:(a.names.all λy=>!(y.2==.free)||(X.env.cells.lookup y.1).isSome)=true<|>C')(hdef:defaultsOf f X.env=([],[])<|>C')
  (S:(∀ qual cl pm cd ctv u,QJ (QR "<lambda>" qual f (IM Ax bl t col p1 p2 p3 q1 q2 px px2 tp ci F tk d) a cl pm cd ctv) ⟨[u],[]⟩=pure [(col,u)])<|>J9):
  PE X (.Call (.Name "sorted" p) [er] [⟨Z "key",.Lambda f (IM Ax bl t col p1 p2 p3 q1 q2 px px2 tp ci F tk d) a lp,kp1⟩] pos) (Jg K i P (X.env.qual++"<lambda>") tr):=by
 subst hK;have n:∀ y∈a.names,y.2=.free->∃ c,X.env.cells.lookup y.1=Z c:=λy hy e=>by
  rw[NE] at hfr;have:=hfr y hy;rw[e] at this;show OE.mp (by simpa using this)
 have k6:a.names.lookup t=Z .free:=by
  unfold Hl at E;simp only[MX,NZ] at E;show E.1.1.1.1.1.1.1.1.1.1.1.1.1.2
 refine⟨λG s σ H Q I h=>NX (gH I hg hm jD ?_)⟩;refine callWith_kw (he:=by rw[J];rfl) (hplain:=by rw[J];rfl) (bo ((ai he aH J) pos G s σ H (λvs H1=>match vs with
  |[x]=>∃ (l:MF) (B:Q4) (z:Int),x=↥l/\An X.K H1 l (B.map λp=>↥p.2)/\(∀ p∈B,Ad X.K H1 p.1.col ↥p.2)/\⇑B<64/\σ[i]?=Z (Z ↑z) /\
   (∀ p∈B,∀ r∈Dw p.1,Sm 8000 r.1/\Sm 8000 z/\Sm 8000 (r.1*z)/\Sm 8000 r.2)/\H1 P=Z (Hi (X.env.qual++"<lambda>"))/\∀ (H2:Hp) (D:MF),Aa H1 H2->H2 D=none->Q ↥D (upd H2 D (.lst ((C6 z B).map λp=>↥p.2)))
  |_=>False) I h) λL C ⟨vs,H1,I1,r1,q1⟩=>?_)
 obtain⟨x,rfl⟩:∃ x,vs=[x]:=by
  rcases vs with _|⟨x,_|⟨y,ys⟩⟩
  .show q1.elim
  .show⟨x,U⟩
  .show q1.elim
 .obtain⟨l,B,z,rfl,hl,hxs,hn,hσ,hb,hP,q⟩:=q1;obtain⟨u,rfl,ru⟩:=fV r1;cases ru;refine kws_cons (uL I1 T hcd hP n hdef λfa c' pm ctv H2 s2 R sm ho hrec=>(kws_nil ?_));change MI _ _ (call (.builtin "sorted") [↥l] [(R8 "key",↥fa)]) _ _ s2;obtain⟨m,hnm,hloc⟩:=id R.loc;obtain⟨w,rw',lk⟩:=hloc i t ↑z hN hσ (.inr (.inl hv));obtain⟨tz,rfl⟩:=rw';obtain⟨cf,ecf,L⟩:∃ cf,X.env.cells.lookup t=Z cf/\s2.heap.IsCell cf (Z (.int z tz)):=by
   rcases lk with ⟨z,_⟩|⟨_,cf,e,z⟩
   .rw[hv] at z;cases z
   .show⟨cf,e,z⟩
  have hcl:(Fg X.env.cells a.names []).lookup t=Z cf:=by
   obtain⟨c2,e2⟩:=gf (cells:=X.env.cells) (names:=a.names) (acc:=[]) (x:=t) (.inr (iJ k6));rcases dR n e2 with z|⟨_,z⟩
   .cases z
   .rw[ecf] at z;cases z;show e2
  obtain⟨its,rv,pl,_⟩:=R.list (sm.seq hl);have hil:⇑its=⇑B:=by rw[<- ⇑rv,Mq]
  have rm:=hr.dp;refine adz (vs:=its) (kz:=B.map λp=>IF z p.1) hu pl.isList (by rw[Mq,hil]) Y (λk hk=>?_) (ksk_s1 _ _) (λx=>ksk_l1 _ _) (λx=>ksk_t1 _ _) (λj v k hv hk g tk M=>?_) λD h' tk cc M hD hgD=>?_
  .obtain⟨p,_,rfl⟩:=Nd.mp hk;rfl
  .rw[Mw] at hk;obtain⟨p,hp,rfl⟩:=MG.mp hk;cases(abv rv (by rw[Mw,hp];rfl) hv);have hpm:=MD hp;have I3:Ag X G σ H2 { s2 with heap:=g,toks:=tk }:=R.kept M;obtain⟨cs,ht,hcs,hrw⟩:=ae6 I3.hok (Ad.same sm (hxs p hpm));obtain⟨c2,o2,vs2,t2,ec,g1,g2,g3⟩:=id hrec;cases ec;refine zN (R.ok.hd hc) (I3.ok.mod.nolimit.keeps λb o e=>M b o (R.bk b o e)) (by change X.A.depth<recursionLimit;lia) (M _ _ ho) ⟨_,o2,vs2,t2,U,M _ _ g1,g2,g3⟩ (λu=>S _ _ _ _ _ u)
    E hcl (L.keeps M) ht (by rw[hcs];rfl) hrw (λr C=>?_) Y λD h' tk' c ys kk hD hy hg=>?_
   .obtain⟨b1,b2,b3,b4⟩:=hb p hpm r C;refine⟨b1,b2,b3,b4,?_⟩;unfold Dw at C;simp only[MA,MQ,Ob] at C;rcases C with rfl|rfl|rfl
    .show TM.mpr (Rat.den_nz _)
    .show TM.mpr (Rat.den_nz _)
    .show TM.mpr (Rat.den_nz _)
   .show⟨h',tk',D,ys.toArray,c,U,U,kk,hD,by rw[VQ];show hy,hg⟩
  .refine⟨↥D,_,R.laid (o:=.lst ((C6 z B).map λp=>↥p.2)) (t':=tk) M hD ⟨?_,_,cc,rF rv _ (λj C=>?_),hgD⟩,U,q H2 D sm (R.hok.fresh hD)⟩
   .rw[Mq,(jK z B).length_eq];show eM Y
   .have:=(jP _).mem_iff.mp C;rw[Mq] at this
    simpa using this
end
def _root_.L2.Room.u2 (r:Room k A):A.units+2<cLine:=Pz Y r.units
noncomputable def dB (e:Q3):Int:=AX [e.a,e.b,e.c]
def AY (e:Q3)(r:R3):R3:=⟨ov (dB e) e.a-r.a*dB e,ov (dB e) e.b-r.b*dB e,ov (dB e) e.c-r.c*dB e⟩
def CF (e:Q3)(r:R3)(s:S9):Q3:=⟨((AY e r).dot s.c0:Rat)/((s.det*dB e:Int):Rat),((AY e r).dot s.c1:Rat)/((s.det*dB e:Int):Rat),((AY e r).dot s.c2:Rat)/((s.det*dB e:Int):Rat)⟩
def IC (q:Q3):Bool:=!([decide (1<q.a),decide (q.a<q.b),decide (q.b<q.c),decide (q.c<0)].any id)
def wT {k:Nat}{e:Q3}(h:e.Bd k):∀ p∈[e.a,e.b,e.c],Bq k p:=λp d=>by
 simp only[MA,MQ,Ob] at d;rcases d with rfl|rfl|rfl
 .show h.a
 .show h.b
 .show h.c
def xL (h:e.Bd 250):0<dB e/\Sm 751 (dB e):=by obtain⟨a,b⟩:=ij (wT h) 3 (Mz _);show⟨a,b⟩
def xY (h:e.Bd 250)(d:r.In 4000):Sm 1002 (AY e r).a/\Sm 1002 (AY e r).b/\Sm 1002 (AY e r).c:=by
 have f:=(xL h).2;have g:∀ p∈[e.a,e.b,e.c],Sm 1001 (ov (dB e) p):=λp i=>ad9 (wT h) i
 refine⟨((g e.a zyA).sub (((gO d.a1 d.a2).mul f).mono O)).mono O,((g e.b zyA).sub (((gO d.b1 d.b2).mul f).mono O)).mono O,((g e.c zyA).sub (((gO d.c1 d.c2).mul f).mono O)).mono O⟩
def zj {x:Int}(b:-200000000<=x)(a:x<=200000000):Sm 30 x:=by unfold Sm;lia
def wn (h:e.Bd 250)(g:r.In 4000)(a:c.In 200000000):Sm 1035 ((AY e r).dot c):=by obtain⟨d,b,f⟩:=xY h g;unfold R3.dot;show(Sm.add (Sm.add (d.mul (zj a.a1 a.a2)) (b.mul (zj a.b1 a.b2))) ((f.mul (zj a.c1 a.c2)).mono O)).mono O
def aef {e:Q3}{s:S9}(h:e.Bd 250)(c:s.In)(a:s.det≠0):s.det*dB e≠0/\Sm 811 (s.det*dB e):=by obtain⟨d,b⟩:=xL h;show⟨OK a Y,((tM c).mul b).mono O⟩
def aez {e:Q3}{r:R3}{s:S9}(h:e.Bd 250)(c:r.In 4000)(a:s.In)(f:s.det≠0):(CF e r s).Bd 1035:=by obtain⟨d,b⟩:=aef h a f;show⟨dE d (wn h c (dF a.y a.z)) (b.mono O),dE d (wn h c (dF a.z a.x)) (b.mono O),dE d (wn h c (dF a.x a.y)) (b.mono O)⟩
def adO (r c:R3):(Qs (·*·) [r.a,r.b,r.c] [c.a,c.b,c.c]).sum=r.dot c:=by change r.a*c.a+(r.b*c.b+(r.c*c.c+0))=r.a*c.a+r.b*c.b+r.c*c.c;lia
def C5 (t:Kn)(o:Pv)(q:Q3)(d:Int):Nat->List Rat
 |0=>[0,0,0]
 |i+1=>(C5 t o q d i).set (Gb o i) (((((JR t).getD (Gb o i) 0:Int):Rat)/((1:Int):Rat)+[q.a,q.b,q.c].getD i 0)*((d:Rat)/((1:Int):Rat)))
theorem k_ (t:Kn)(o:Pv)(q:Q3)(a:Int):∀ i,⇑(C5 t o q a i)=3
 |0=>rfl
 |i+1=>by rw[C5,SH];show k_ t o q a i
theorem sU:∀ rs:List Rat,Bn (rs.map rD)=true
 |[]=>rfl
 |r::rs=>by
  change(Fl (rD r)&&Bn (rs.map rD))=true;rw[sU rs];rfl
theorem uw {K:KE}(h:Ad K H d v):∀ {ds:List NM}{vs:List V} (i:Nat),Af K H ds vs->Af K H (ds.set i d) (vs.set i v)
 |_,_,_,.nil=>.nil
 |_,_,0,.cons _ r=>.cons h r
 |_,_,i+1,.cons x r=>.cons x (uw h i r)
def aew (a:r<3):(BQ t)[r]?=Z ↑((JR t).getD r 0):=by
 match r,a with
 |0,_=>rfl
 |1,_=>rfl
 |2,_=>rfl
def acA (c:t.1<64)(b:t.2.1<64)(a:t.2.2<64):Sm 7 ((JR t).getD r 0):=by
 match r with
 |0=>show Sm 7 (t.1:Int);unfold Sm;lia
 |1=>show Sm 7 (t.2.1:Int);unfold Sm;lia
 |2=>show Sm 7 (t.2.2:Int);unfold Sm;lia
 |n+3=>show Sm 7 (0:Int);unfold Sm;decide
theorem yp {d:Int}(g:t.1<64)(f:t.2.1<64)(j:t.2.2<64)(bq:q.Bd 1035)(k:0<=d)(l:d<=60):∀ i,∀ r∈C5 t o q d i,Bq 1060 r
 |0,r,h=>by
  unfold C5 at h;simp only[MA,MQ,Ob,or_self] at h;rw[h];show Ok.mono bq0 O
 |i+1,r,h=>by
  unfold C5 at h;rcases List.mem_or_eq_of_mem_set h with h|h
  .show yp g f j bq k l i r h
  .rw[h];have e:Sm 7 (1:Int):=by unfold Sm;decide
   have m:Bq 1035 ([q.a,q.b,q.c].getD i 0):=by
    match i with
    |0=>show bq.a
    |1=>show bq.b
    |2=>show bq.c
    |n+3=>show Ok.mono bq0 O
   show Ok.mono (Bq.mul (Bq.add (dE O (acA g f j) e) m) (dE O (show Sm 7 d by unfold Sm;lia) e)) O
def LV (l:List Rat):Q3:=⟨l.getD 0 0,l.getD 1 0,l.getD 2 0⟩
def Gz (t:Kn)(o:Pv)(q:Q3)(a:Int):Q3:=LV (C5 t o q a 3)
def ae5 (t:Kn)(o:Pv)(q:Q3)(a:Int):(C5 t o q a 3).map rD=(Gz t o q a).ds:=by
 unfold Gz;have h:=k_ t o q a 3;generalize C5 t o q a 3=l at h
 match l,h with
 |[x,y,z],_=>rfl
def aek {a:Int}(f:t.1<64)(e:t.2.1<64)(g:t.2.2<64)(bq:q.Bd 1035)(c:0<=a)(d:a<=60):(Gz t o q a).Bd 1060:=by
 unfold Gz;have h:=k_ t o q a 3;have b:=yp (o:=o) f e g bq c d 3;generalize C5 t o q a 3=l at h b
 match l,h,b with
 |[x,y,z],_,b=>show⟨b x zyA,b y zyA,b z zyA⟩
def CB (n:Nat)(f:X0)(e:Q3)(p:Kn×(Nat×Nat×Nat)):Option Q3:=
 if(Au f p).det=0 then none else if IC (CF e (f (Ae p.1 (Bf p.2 0))) (Au f p))=true then Z (Gz p.1 p.2 (CF e (f (Ae p.1 (Bf p.2 0))) (Au f p)) (B3 n)) else none
def agf {r:R3}(h:r.Wt):r.In 4000:=by obtain⟨a,b,c,d,c0,c1⟩:=h;refine⟨?_,?_,?_,?_,?_,?_⟩<;>lia
def agm (a:2<=n)(b:n<=7):0<=B3 n/\B3 n<=60:=⟨Pw (jo a b).1,(jo a b).2.2⟩
def DC (xs:Q4):List Int:=xs.flatMap λp=>(Dw p.1).map (·.2)
def zP (xs:Q4)(p:Q3×MF):DC (xs++[p])=DC xs++(Dw p.1).map (·.2):=by unfold DC;rw[P8];simp
def Lu (xs:Q4)(z:Int):Prop:=∃ m:Int,z=m^2/\1<=m/\(∀ r∈DC xs,r<=m)/\(m=1\/m∈DC xs)
def adc (h:∀ p∈xs,p.1.Bd k):∀ r∈DC xs,1<=r/\Sm k r:=λr e=>by
 unfold DC at e;obtain⟨p,f,e⟩:=QU.mp e;have b:=h p f;have d:∀ q:Rat,1<=(q.den:Int):=λq=>by have:=q.den_pos;lia
 simp only[Dw,MR,Px,MA,MQ,Ob] at e;rcases e with rfl|rfl|rfl
 .show⟨d _,b.a.sd⟩
 .show⟨d _,b.b.sd⟩
 .show⟨d _,b.c.sd⟩
def ur (xs:Q4):⇑(DC xs)=3*⇑xs:=by
 unfold DC
 induction xs with
 |nil=>rfl
 |cons p xs a=>rw[Ww,MP,a,Np];change 3+_=_;lia
def adT {m:Int}(d:Sm k 1)(b:∀ n∈ns,1<=n/\Sm k n)(h:(ns=[]/\m=1)\/(m∈ns/\∀ x∈ns,x<=m)):1<=m/\Sm k m/\∀ r∈ns,r<=m:=by
 rcases h with ⟨e,rfl⟩|⟨a,f⟩
 .show⟨Ub _,d,λr c=>(by rw[e] at c;cases c)⟩
 .show⟨(b m a).1,(b m a).2,f⟩
def ab0 {K:KE}(h:Ad K H c.col ↥a):∃ x y z:MF,H a=Z (.tup [↥x,↥y,↥z])/\∀ (j:Nat) (v:V) (r:Int×Int),([↥x,↥y,↥z]:List V)[j]?=Z v->(Dw c)[j]?=Z r->∃ b,v=↥b/\H b=Z (.tup [↑r.1,↑r.2]):=by
 cases h with
 |tup e q=>
  obtain⟨x,y,z,rfl,o,m,i⟩:=b_ q;obtain⟨l,rfl,k1⟩:=aU o;obtain⟨k,rfl,k2⟩:=aU m;obtain⟨g,rfl,p⟩:=aU i;refine⟨l,k,g,e,λj v r d f=>?_⟩
  match j,d,f with
  |0,d,f=>cases d;cases f;show⟨_,U,k1⟩
  |1,d,f=>cases d;cases f;show⟨_,U,k2⟩
  |2,d,f=>cases d;cases f;show⟨_,U,p⟩
  |n+3,d,_=>simp at d
def Bg (H H':Hp):Prop:=∀ b o,H b=Z o->(∀ f,o≠.ext f)->H' b=Z o
def Bg.put (h:H d=Z (.ext f)):Bg H (upd H d o'):=λb o e n=>by
 rw[ar (λz=>by rw[z,h] at e;cases e;show n _ U)];show e
def Bg.refl (H:Hp):Bg H H:=λ_ _ e _=>e
def Bg.trans (a:Bg H H')(b:Bg H' H''):Bg H H'':=λc o e n=>b c o (a c o e n) n
def sE (s:Aa H H'):Bg H H':=λb o e _=>s b o e
def Rd.sameE (e:Bg H H')(h:Rd H a (.lst xs)):Rd H' a (.lst xs):=by
 rcases h with h|⟨o,h⟩
 .show .inl (e _ _ h λ_ z=>nomatch z)
 .show .inr ⟨o,e _ _ h λ_ z=>nomatch z⟩
def Ad.sameE {K:KE}(e:Bg H H')(h:Ad K H d v):Ad K H' d v:=h.all (λ_ _=>Rd.sameE e) (λ_ _ h=>e _ _ h λ_ z=>nomatch z) (λ_ h=>e _ _ h λ_ z=>nomatch z)
def Ed.sameE {K:KE}(h:Ed K H p v)(s:Bg H H'):Ed K H' p v:=by obtain⟨q,a,b,c,f,e,d⟩:=h;show⟨q,a,b,c,s _ _ f (λ_ z=>nomatch z),s _ _ e (λ_ z=>nomatch z),d⟩
def GV (cs:List Q3)(c:Q3):List Q3:=if cs.any (λd=>decide (cK d=cK c))=true then cs else cs++[c]
def xK (xs:Q4)(c:Q3)(b:MF):(EX xs c b).map (·.1)=GV (xs.map (·.1)) c:=by
 unfold EX GV;rw[List.any_map]
 by_cases h:xs.any (λp=>decide (cK p.1=cK c))=true
 .rw[M' h,M' (by show h)]
 .rw[MZ h,MZ (by show h),Nx];rfl
def ac2 (xs:Q4)(c:Q3)(b:MF):⇑(EX xs c b)<=⇑xs+1:=by
 unfold EX
 split
 .lia
 .rw[MP];show Mz _
def xH (h:p∈EX xs c b):p∈xs\/p=(c,b):=by
 unfold EX at h
 split at h
 .show .inl h
 .rcases Nk.mp h with h|h
  .show .inl h
  .show .inr (Mu.mp h)
def aem (h:cs.Nodup):(GV cs c).Nodup:=by
 unfold GV
 split
 .show h
 .rename_i d
  refine TU.mpr ⟨h,zyA,λa f b e z=>d ?_⟩;rw[Mu.mp e] at z;show Sd.mpr ⟨a,f,MB (by rw[z])⟩
def acR {K:KE}:HI K H []:=⟨λ_ h=>(by cases h),RE⟩
def HI.put {K:KE}(k:HI K H xs)(d:Ad K H c.col ↥b)(s:Bg H H'):HI K H' (EX xs c b):=by
 refine⟨λp a=>?_,by rw[xK];show aem k.2⟩;rcases xH a with a|rfl
 .show Ad.sameE s (k.1 p a)
 .show Ad.sameE s d
def Ec (n:Nat)(f:X0)(e:Q3)(cs:List Q3)(p:Kn×(Nat×Nat×Nat)):List Q3:=match CB n f e p with
 |none=>cs
 |some c=>GV cs c
def DG (n:Nat)(f:X0)(e:Q3)(a:List (Kn×(Nat×Nat×Nat))):List Q3:=a.foldl (Ec n f e) []
def zQ:DG n f e (ps++[p])=Ec n f e (DG n f e ps) p:=by unfold DG;rw[RF];rfl
def y9 (a:n<=3):⇑(AM n)<=48:=by
 have:⇑(As (n-1))<=8:=by
  rw[gh];show P_ (show n-1<=2 by lia) 3
 unfold AM;rw[iN];lia
def KZ (a b:Int×Int×Int):Bool:=if a.1=b.1 then(if a.2.1=b.2.1 then decide (a.2.2<b.2.2) else decide (a.2.1<b.2.1)) else decide (a.1<b.1)
def nU (a b:Int×Int×Int):KZ a b=true↔a.1<b.1\/(a.1=b.1/\(a.2.1<b.2.1\/(a.2.1=b.2.1/\a.2.2<b.2.2))):=by
 unfold KZ
 by_cases c:a.1=b.1
 .rw[M' c]
  by_cases d:a.2.1=b.2.1
  .rw[M' d,Oo];lia
  .rw[MZ d,Oo];lia
 .rw[MZ c,Oo];lia
def acK (a b:Int×Int×Int):KZ a b=false↔¬ (a.1<b.1\/(a.1=b.1/\(a.2.1<b.2.1\/(a.2.1=b.2.1/\a.2.2<b.2.2)))):=by rw[<- nU];simp
noncomputable def o3:KeyOrd where
 α:=Int×Int×Int
 blt:=KZ
 irrefl a:=by rw[acK];lia
 trans a b c h1 h2:=by rw[nU] at *;lia
 negTrans a b c h:=by rw[nU] at *;rw[nU];lia
 total a b h1 h2:=by
  rw[acK] at *;obtain⟨x,y,z⟩:=a;obtain⟨u,v,w⟩:=b;dsimp only at h1 h2;have d:x=u:=Y
  have f:y=v:=Y
  have e:z=w:=Y
  rw[d,f,e]
noncomputable def pO (o:Pv)(q:Q3)(k:Nat):Rat:=if k=o.1 then q.a else if k=o.2.1 then q.b else q.c
def ad5 (q:Q3)(h:o∈Bc):pO o q o.1=q.a/\pO o q o.2.1=q.b/\pO o q o.2.2=q.c:=
 jJ (P:=λo=>pO o q o.1=q.a/\pO o q o.2.1=q.b/\pO o q o.2.2=q.c) h ⟨U,U,U⟩ ⟨U,U,U⟩ ⟨U,U,U⟩ ⟨U,U,U⟩ ⟨U,U,U⟩ ⟨U,U,U⟩
def aaC {d:Int}(h:o∈Bc):(Gz t o q d).a=(((t.1:Nat):Int)+pO o q 0)*((d:Int):Rat)/\(Gz t o q d).b=(((t.2.1:Nat):Int)+pO o q 1)*((d:Int):Rat)/\(Gz t o q d).c=(((t.2.2:Nat):Int)+pO o q 2)*((d:Int):Rat):=by
 refine jJ (P:=λo=>(Gz t o q d).a=(((t.1:Nat):Int)+pO o q 0)*((d:Int):Rat)/\(Gz t o q d).b=(((t.2.1:Nat):Int)+pO o q 1)*((d:Int):Rat)/\(Gz t o q d).c=(((t.2.2:Nat):Int)+pO o q 2)*((d:Int):Rat)) h ?_ ?_ ?_ ?_ ?_ ?_ <;>
  refine⟨?_,?_,?_⟩<;>(simp only[Gz,LV,C5,Gb,JR,pO,fJ];rfl)
def aeL (h:o∈Bc):Bf o 1=un o.1/\Bf o 2=Ae (un o.1) (un o.2.1)/\Bf o 3=Ae (Ae (un o.1) (un o.2.1)) (un o.2.2):=
 jJ (P:=λo=>Bf o 1=un o.1/\Bf o 2=Ae (un o.1) (un o.2.1)/\Bf o 3=Ae (Ae (un o.1) (un o.2.1)) (un o.2.2)) h ⟨U,U,U⟩ ⟨U,U,U⟩ ⟨U,U,U⟩ ⟨U,U,U⟩ ⟨U,U,U⟩ ⟨U,U,U⟩
def lY {t:Kn}{o:Nat × Nat × Nat}{p:Nat->Rat}{f:X0}{g:R3->Int} (h:o ∈ Bc) (a:∀ r s:R3,g (r.sub s)=g r - g s):AT (fun u=>((g (f (Ae t u)):Int):Rat)) p o.1 o.2.1 o.2.2 =
  ((g (f (Ae t (Bf o 0))):Int):Rat)+p o.1*((g (Au f (t,o)).x:Int):Rat)+p o.2.1*((g (Au f (t,o)).y:Int):Rat)+p o.2.2*((g (Au f (t,o)).z:Int):Rat):=by
 obtain⟨c,b,d⟩:=aeL h;unfold Au IT AT;dsimp only;rw[a,a,a,c,b,d,show Bf o 0=(0,0,0) from rfl,M6,M6,M6];generalize ((g (f (Ae t (0,0,0))):Int):Rat)=k;generalize ((g (f (Ae t (un o.1))):Int):Rat)=j;generalize ((g (f (Ae t (Ae (un o.1) (un o.2.1)))):Int):Rat)=i;generalize ((g (f (Ae t (Ae (Ae (un o.1) (un o.2.1)) (un o.2.2)))):Int):Rat)=e;generalize p o.1=x;generalize p o.2.1=y;generalize p o.2.2=z;clear c b d a;grind
def nO (s:S9):((s.det:Int):Rat)=(s.x.a:Rat)*((s.y.b:Rat)*s.z.c-(s.y.c:Rat)*s.z.b)+(s.x.b:Rat)*((s.y.c:Rat)*s.z.a-(s.y.a:Rat)*s.z.c)+(s.x.c:Rat)*((s.y.a:Rat)*s.z.b-(s.y.b:Rat)*s.z.a):=by
 have:s.det=s.x.a*(s.y.b*s.z.c-s.y.c*s.z.b)+s.x.b*(s.y.c*s.z.a-s.y.a*s.z.c)+s.x.c*(s.y.a*s.z.b-s.y.b*s.z.a):=by
  unfold S9.det;grind
 rw[this];simp only[Oa,MU,M6]
def abO (h:e.Bd 250):((AY e r).a:Rat)=(e.a-(r.a:Rat))*(dB e:Rat)/\((AY e r).b:Rat)=(e.b-(r.b:Rat))*(dB e:Rat)/\((AY e r).c:Rat)=(e.c-(r.c:Rat))*(dB e:Rat):=by
 have o:∀ p∈[e.a,e.b,e.c],((ov (dB e) p:Int):Rat)=p*(dB e:Rat):=λp d=>xF (rH d)
 unfold AY;dsimp only;rw[M6,M6,M6,MU,MU,MU,o e.a zyA,o e.b zyA,o e.c zyA];refine⟨?_,?_,?_⟩<;>grind
def adk (r c:R3):((r.dot c:Int):Rat)=(r.a:Rat)*c.a+(r.b:Rat)*c.b+(r.c:Rat)*c.c:=by unfold R3.dot;simp only[Oa,MU]
def rM {e:Q3}{r c:R3}{s:S9}(h:e.Bd 250)(g:s.det≠0):((AY e r).dot c:Rat)/((s.det*dB e:Int):Rat)*(s.det:Rat)=(e.a-(r.a:Rat))*c.a+(e.b-(r.b:Rat))*c.b+(e.c-(r.c:Rat))*c.c:=by obtain⟨f,d,i⟩:=abO h;have j:(dB e:Rat)≠0:=kI (by have:=(xL h).1;lia);have k:(s.det:Rat)≠0:=kI g;rw[adk,f,d,i,MU];generalize (dB e:Rat)=B at *;generalize (s.det:Rat)=D at *;grind
def fw {x y D:Rat}(h:D≠0)(e:x*D=y*D):x=y:=by
 have:(x-y)*D=0:=by grind
 rcases Rat.mul_eq_zero.mp this with z|z
 .grind
 .show absurd z h
def afo {g h i f c b d e a l j k D A B C:Rat} (o:D ≠ 0) (p:D=g * (c * a - b * e) + h * (b * d - f * a) + i * (f * e - c * d))
  (n:A*D=l*(c*a-b*e)+j*(b*d-f*a)+k*(f*e-c*d))(m:B*D=l*(e*i-a*h)+j*(a*g-d*i)+k*(d*h-e*g))(q:C*D=l*(h*b-i*c)+j*(i*f-g*b)+k*(g*c-h*f)):
  A*g+B*f+C*d=l/\A*h+B*c+C*e=j/\A*i+B*b+C*a=k:=by
 have s:(A*g+B*f+C*d)*D=(A*D)*g+(B*D)*f+(C*D)*d:=by grind
 have r:(A*h+B*c+C*e)*D=(A*D)*h+(B*D)*c+(C*D)*e:=by grind
 have t:(A*i+B*b+C*a)*D=(A*D)*i+(B*D)*b+(C*D)*a:=by grind
 refine⟨fw o ?_,fw o ?_,fw o ?_⟩
 .rw[s,n,m,q,p];grind
 .rw[r,n,m,q,p];grind
 .rw[t,n,m,q,p];grind
def vY {g i j f c b d e a l h k D A B C X:Rat} (o:D ≠ 0) (p:D=g * (c * a - b * e) + i * (b * d - f * a) + j * (f * e - c * d))
  (r:l=A*g+B*f+C*d)(q:h=A*i+B*c+C*e)(m:k=A*j+B*b+C*a)(n:X*D=l*(c*a-b*e)+h*(b*d-f*a)+k*(f*e-c*d)):X=A:=by
 refine fw o ?_;rw[n,r,q,m,p];grind
def aaH {d e f i h g b c a l j k D A B C X:Rat} (o:D ≠ 0) (p:D=d * (h * a - g * c) + e * (g * b - i * a) + f * (i * c - h * b))
  (r:l=A*d+B*i+C*b)(q:j=A*e+B*h+C*c)(m:k=A*f+B*g+C*a)(n:X*D=l*(c*f-a*e)+j*(a*d-b*f)+k*(b*e-c*d)):X=B:=by
 refine fw o ?_;rw[n,r,q,m,p];grind
def abk {d e f c b a h i g l j k D A B C X:Rat} (o:D ≠ 0) (p:D=d * (b * g - a * i) + e * (a * h - c * g) + f * (c * i - b * h))
  (r:l=A*d+B*c+C*h)(q:j=A*e+B*b+C*i)(m:k=A*f+B*a+C*g)(n:X*D=l*(e*a-f*b)+j*(f*c-d*a)+k*(d*b-e*c)):X=C:=by
 refine fw o ?_;rw[n,r,q,m,p];grind
def ma (y z:R3):((y.cross z).a:Rat)=(y.b:Rat)*z.c-(y.c:Rat)*z.b/\((y.cross z).b:Rat)=(y.c:Rat)*z.a-(y.a:Rat)*z.c/\((y.cross z).c:Rat)=(y.a:Rat)*z.b-(y.b:Rat)*z.a:=by unfold R3.cross;simp only[MU,M6];show⟨trivial,trivial,trivial⟩
def vj (h:e.Bd 250) (d:s.det ≠ 0) :
  (CF e r s).a*(s.det:Rat)=(e.a-(r.a:Rat))*((s.y.b:Rat)*s.z.c-(s.y.c:Rat)*s.z.b)+(e.b-(r.b:Rat))*((s.y.c:Rat)*s.z.a-(s.y.a:Rat)*s.z.c)+(e.c-(r.c:Rat))*((s.y.a:Rat)*s.z.b-(s.y.b:Rat)*s.z.a) /\
  (CF e r s).b*(s.det:Rat)=(e.a-(r.a:Rat))*((s.z.b:Rat)*s.x.c-(s.z.c:Rat)*s.x.b)+(e.b-(r.b:Rat))*((s.z.c:Rat)*s.x.a-(s.z.a:Rat)*s.x.c)+(e.c-(r.c:Rat))*((s.z.a:Rat)*s.x.b-(s.z.b:Rat)*s.x.a) /\
  (CF e r s).c*(s.det:Rat)=(e.a-(r.a:Rat))*((s.x.b:Rat)*s.y.c-(s.x.c:Rat)*s.y.b)+(e.b-(r.b:Rat))*((s.x.c:Rat)*s.y.a-(s.x.a:Rat)*s.y.c)+(e.c-(r.c:Rat))*((s.x.a:Rat)*s.y.b-(s.x.b:Rat)*s.y.a):=by
 have f:=rM (r:=r) (c:=s.c0) h d;have i:=rM (r:=r) (c:=s.c1) h d;have g:=rM (r:=r) (c:=s.c2) h d;obtain⟨k,j,l⟩:=ma s.y s.z;obtain⟨o,m,p⟩:=ma s.z s.x;obtain⟨c1,c2,n⟩:=ma s.x s.y;rw[show s.c0=s.y.cross s.z from rfl,k,j,l] at f;rw[show s.c1=s.z.cross s.x from rfl,o,m,p] at i;rw[show s.c2=s.x.cross s.y from rfl,c1,c2,n] at g;show⟨f,i,g⟩
def yd (h:Ja n t o p c) (e:2 <= n) (g:n <= 7) (d:FN n t) :
  (W4 n f c).a=((f (Ae t (Bf o 0))).a:Rat)+p o.1*((Au f (t,o)).x.a:Rat)+p o.2.1*((Au f (t,o)).y.a:Rat)+p o.2.2*((Au f (t,o)).z.a:Rat) /\
  (W4 n f c).b=((f (Ae t (Bf o 0))).b:Rat)+p o.1*((Au f (t,o)).x.b:Rat)+p o.2.1*((Au f (t,o)).y.b:Rat)+p o.2.2*((Au f (t,o)).z.b:Rat) /\
  (W4 n f c).c=((f (Ae t (Bf o 0))).c:Rat)+p o.1*((Au f (t,o)).x.c:Rat)+p o.2.1*((Au f (t,o)).y.c:Rat)+p o.2.2*((Au f (t,o)).z.c:Rat):=
 ⟨h.four e g d f R3.a\(lY h.fall.1 λ_ _=>rfl),h.four e g d f R3.b\(lY h.fall.1 λ_ _=>rfl),h.four e g d f R3.c\(lY h.fall.1 λ_ _=>rfl)⟩
def yn:IC q=true↔q.a<=1/\q.b<=q.a/\q.c<=q.b/\0<=q.c:=by unfold IC;simp only[Sw,List.any_nil,id,VY,TD,Bool.or_eq_false_iff,decide_eq_false_iff_not,O8]
def aes (d:o∈Bc)(h:IC q=true):Ja n t o (pO o q) (Gz t o q (B3 n)):=by
 obtain⟨p,j,i,r⟩:=yn.mp h;obtain⟨g,f,m⟩:=ad5 q d;obtain⟨c1,c2,l⟩:=aaC d;have all:∀ k,pO o q k=q.a\/pO o q k=q.b\/pO o q k=q.c:=λk=>by
  unfold pO
  split
  .show .inl rfl
  .split
   .show .inr (.inl rfl)
   .show .inr (.inr rfl)
 refine⟨⟨d,by rw[g,f];show j,by rw[f,m];show i⟩,λk _=>?_,λk _=>?_,c1,c2,l⟩
 .rcases all k with e|e|e<;>rw[e]<;>grind
 .rcases all k with e|e|e<;>rw[e]<;>grind
def ael (k:2<=n)(l:n<=7)(p:e.Bd 250)(i:FN n t)(j:o∈Bc)(h:CB n f e (t,o)=Z c):c.Wi ((60:Int):Rat)/\W4 n f c=e:=by
 unfold CB at h
 by_cases a:(Au f (t,o)).det=0
 .rw[M' a] at h;cases h
 .rw[MZ a] at h
  by_cases b:IC (CF e (f (Ae t (Bf o 0))) (Au f (t,o)))=true
  .rw[M' b] at h;cases h;have R:=aes (n:=n) (t:=t) j b;obtain⟨d,m,g⟩:=yd R k l i;obtain⟨s,u,q⟩:=ad5 (CF e (f (Ae t (Bf o 0))) (Au f (t,o))) j;rw[s,u,q] at d m g;obtain⟨k1,k2,v⟩:=vj (r:=f (Ae t (Bf o 0))) p a;obtain⟨z,y,x⟩:=afo (kI a) (nO _) k1 k2 v;refine⟨R.wi k l i,Q3.ext ?_ ?_ ?_⟩
   .rw[d];grind
   .rw[m];grind
   .rw[g];grind
  .rw[MZ b] at h;cases h
def zq (G:2<=n)(H:n<=7)(R:Ja n t o p c)(E:FN n t)(A:(W4 n f c).Bd 250)(e:(Au f (t,o)).det≠0):CB n f (W4 n f c) (t,o)=Z c:=by
 obtain⟨B,I,D⟩:=yd R G H E;have r:=R.fall.1;obtain⟨k1,k2,J⟩:=vj A e;have j:(W4 n f c).a-((f (Ae t (Bf o 0))).a:Rat)=p o.1*((Au f (t,o)).x.a:Rat)+p o.2.1*((Au f (t,o)).y.a:Rat)+p o.2.2*((Au f (t,o)).z.a:Rat):=by rw[B];grind
 have l:(W4 n f c).b-((f (Ae t (Bf o 0))).b:Rat)=p o.1*((Au f (t,o)).x.b:Rat)+p o.2.1*((Au f (t,o)).y.b:Rat)+p o.2.2*((Au f (t,o)).z.b:Rat):=by rw[I];grind
 have m:(W4 n f c).c-((f (Ae t (Bf o 0))).c:Rat)=p o.1*((Au f (t,o)).x.c:Rat)+p o.2.1*((Au f (t,o)).y.c:Rat)+p o.2.2*((Au f (t,o)).z.c:Rat):=by rw[D];grind
 have h:(CF (W4 n f c) (f (Ae t (Bf o 0))) (Au f (t,o))).a=p o.1:=vY (kI e) (nO _) j l m k1;have g:(CF (W4 n f c) (f (Ae t (Bf o 0))) (Au f (t,o))).b=p o.2.1:=aaH (kI e) (nO _) j l m k2;have i:(CF (W4 n f c) (f (Ae t (Bf o 0))) (Au f (t,o))).c=p o.2.2:=abk (kI e) (nO _) j l m J;have u:IC (CF (W4 n f c) (f (Ae t (Bf o 0))) (Au f (t,o)))=true:=by
  obtain⟨C,L,v⟩:=rN r;show yn.mpr ⟨by rw[h];show R.hi _ C,by rw[h,g];show R.fall.2.1,by rw[g,i];show R.fall.2.2,by rw[i];show R.lo _ v⟩
 unfold CB;rw[MZ e,M' u];generalize CF (W4 n f c) (f (Ae t (Bf o 0))) (Au f (t,o))=q at h g i u;obtain⟨c1,c2,F⟩:=aaC r;have s:∀ k,k<3->pO o q k=p k:=jJ (P:=λo=>q.a=p o.1->q.b=p o.2.1->q.c=p o.2.2->∀ k,k<3->pO o q k=p k) r
  (λa b c k d=>by match k,d with|0,_=>show a|1,_=>show b|2,_=>show c) (λa b c k d=>by match k,d with|0,_=>show a|1,_=>show c|2,_=>show b)
  (λa b c k d=>by match k,d with|0,_=>show b|1,_=>show a|2,_=>show c) (λa b c k d=>by match k,d with|0,_=>show c|1,_=>show a|2,_=>show b)
  (λa b c k d=>by match k,d with|0,_=>show b|1,_=>show c|2,_=>show a) (λa b c k d=>by match k,d with|0,_=>show c|1,_=>show b|2,_=>show a) h g i
 refine Rp Z (Q3.ext ?_ ?_ ?_)
 .rw[c1,s 0 O,R.ca]
 .rw[c2,s 1 O,R.cb]
 .rw[F,s 2 O,R.cc]
def abl:d∈GV cs c↔d∈cs\/d=c:=by
 unfold GV
 by_cases h:cs.any (λd=>decide (cK d=cK c))=true
 .rw[M' h];refine⟨.inl,λz=>z.elim id λz=>?_⟩;obtain⟨x,a,e⟩:=Sd.mp h;rw[z,<- abf (N1 e)];show a
 .rw[MZ h,Nk,Mu]
def uO:∀ (a:List (Kn×(Nat×Nat×Nat))),c∈DG n f e a↔∃ p∈a,CB n f e p=Z c:=by
 have i:∀ (a:List (Kn×(Nat×Nat×Nat))) (b:List Q3),c∈a.foldl (Ec n f e) b↔c∈b\/∃ p∈a,CB n f e p=Z c:=by
  intro a
  induction a with
  |nil=>intro b;simp
  |cons p a g=>
   intro b;rw[U0,g];have st:c∈Ec n f e b p↔c∈b\/CB n f e p=Z c:=by
    unfold Ec;cases hw:CB n f e p with
    |none=>simp
    |some d=>rw[abl];constructor<;>(rintro(h|h);show .inl h;cases h;show .inr rfl)
   rw[st];simp only[MA,exists_eq_or_imp,or_assoc]
 intro a;unfold DG;rw[i];simp
def aeD (a:2<=n)(j:n<=7)(i:e.Bd 250)(h:c∈DG n f e (AM n)):c.Wi ((60:Int):Rat)/\W4 n f c=e:=by obtain⟨p,g,d⟩:=(uO _).mp h;have b:=iI.mp g;show ael a j i (nv a b.1) b.2 d
def ach {x:Rat}(b:2<=n)(c:n<=7):x=((((A3 n x:Nat):Int):Rat)+Cf n x)*((B3 n:Int):Rat):=by have d:=xN b c;unfold Cf;rw[tP b c x];generalize ((B3 n:Int):Rat)=a at *;grind
def ae7 (d:2<=n)(e:n<=7)(wi:c.Wi ((60:Int):Rat)):Ja n (Ib n c) (CL (Cf n c.a) (Cf n c.b) (Cf n c.c)) (Ei n c) c:=by
 have h:Dv n c.a:=⟨d,e,wi.a0,wi.a1⟩
 have g:Dv n c.b:=⟨d,e,wi.b0,wi.b1⟩
 have i:Dv n c.c:=⟨d,e,wi.c0,wi.c1⟩
 refine⟨kF _ _ _,λk f=>?_,λk f=>?_,ach d e,ach d e,ach d e⟩
 .match k,f with
  |0,_=>show wS h
  |1,_=>show wS g
  |2,_=>show wS i
 .match k,f with
  |0,_=>show wG h
  |1,_=>show wG g
  |2,_=>show wG i
def z9 (d:2<=n)(e:n<=7)(wi:c.Wi ((60:Int):Rat))(j:(W4 n f c).Bd 250)(h:(AM n).any (λp=>decide ((Au f p).det=0))=false):c∈DG n f (W4 n f c) (AM n):=by have R:=ae7 d e wi;have m:=ib (⟨d,e,wi.a0,wi.a1⟩);have k:=ib (⟨d,e,wi.b0,wi.b1⟩);have l:=ib (⟨d,e,wi.c0,wi.c1⟩);have i:Ib n c∈As (n-1):=cY.mpr ⟨by change A3 n c.a<n-1;lia,by change A3 n c.b<n-1;lia,by change A3 n c.c<n-1;lia⟩;have g:(Ib n c,CL (Cf n c.a) (Cf n c.b) (Cf n c.c))∈AM n:=iI.mpr ⟨i,R.fall.1⟩;refine(uO _).mpr ⟨_,g,zq d e R (nv d i) j λz=>?_⟩;rw[Wu] at h;show h _ g (MB z)
noncomputable def lp (m i:Nat):Nat:=(i*5+1)%(m+1)
section
variable {t:Ql}
noncomputable def rs (t:Ql)(a:Nat×Nat):Xl:={ j:=a.1,more:=SetTable.runEnd t.mask a.1-a.1,i:=a.1,perturb:=a.2,dummy:=none }
end
def jQ (p q:Q3):QH p.col q.col=true↔p=q:=by
 change V8 [rD p.a,rD p.b,rD p.c] [rD q.a,rD q.b,rD q.c]=true↔_;simp only[V8,abC,QB,MX,Oo];constructor
 .rintro⟨d,f,e⟩;show Q3.ext d f e
 .rintro rfl;show⟨U,U,U⟩
def AA (a:List Pt)(q:Rat):Bool:=match a[0]?,a.getLast? with
 |some y,Z z=>Jc y.2 z.2 (rD q)
 |_,_=>false
def gg {a:List Pt}{y z:Pt}(b:a[0]?=Z y)(c:a.getLast?=Z z)(q:Rat):AA a q=Jc y.2 z.2 (rD q):=by unfold AA;rw[b,c]
def AB (P:C3)(c:Q3):Bool:=AA P.p c.a&&(AA P.q c.b&&AA P.r c.c)
def B6 (P:C3)(c b:Q3):Prop:=AU P.p c.a b.a/\AU P.q c.b b.b/\AU P.r c.c b.c
def mw {P:C3}{c:Q3}:AB P c=true↔∀ i,i<3->AA (P.at i) (Aq c.a c.b c.c i)=true:=by
 unfold AB;rw[MX,MX];constructor
 .rintro⟨g,d,f⟩ i e
  match i,e with
  |0,_=>show g
  |1,_=>show d
  |2,_=>show f
 .intro h;show⟨h 0 O,h 1 O,h 2 O⟩
def wg {P:C3}{d:Int}{c r:Q3}{k:Nat}(h:P.In d)(o:DD P c r)(e:c.Bd k):r.Bd (k+23):=
 ⟨vF (h 0 O).1 e.a o.1,vF (h 1 O).1 e.b o.2.1,vF (h 2 O).1 e.c o.2.2⟩
def Em (s:S9)(P:C3)(w:Q3):Option Q3:=if s.det≠0/\AB P (s.back.led w)=true then Z (s.back.led w) else none
def E7 (f:X0)(w:Q3)(L:List Q3):Prop:=∃ z a,Lu a z/\a.map (·.1)=DG 2 f w (AM 2)/\L=(C6 z a).map (·.1)
def HQ (b:X3)(P:C3)(w:Q3)(o:Option Q3):Prop:=match b with
 |.inl s=>o=Em s P w
 |.inr f=>∃ L,E7 f w L/\o=L.find? (AB P)
def acO {P:C3}{a:Int}{c b:Q3}(h:P.In a)(x:B6 P c b):DD P b c/\b.Wi ((60:Int):Rat):=by obtain⟨o,r,z,B,l,c0,t⟩:=h 0 O;obtain⟨n,A,y,u,m,c1,C⟩:=h 1 O;obtain⟨p,D,v,s,f,c2,E⟩:=h 2 O;obtain⟨k1,k2,q⟩:=AU.at_ o l x.1;obtain⟨j,e,g⟩:=AU.at_ n m x.2.1;obtain⟨i,d,k⟩:=AU.at_ p f x.2.2;rw[c0] at k2;rw[c1] at e;rw[c2] at d;show⟨⟨q,g,k⟩,k1,k2,j,e,i,d⟩
def aaK {P:C3}{d:Int}{c b:Q3}{k:Nat}(h:P.In d)(x:B6 P c b)(e:c.Bd k):b.Bd (k+60):=
 ⟨x.1.bq (h 0 O).1 e.a,x.2.1.bq (h 1 O).1 e.b,x.2.2.bq (h 2 O).1 e.c⟩
def E7.mem (h:E7 f w L):v∈L↔v∈DG 2 f w (AM 2):=by obtain⟨z,a,_,e,rfl⟩:=h;rw[<- e];show((jK z a).map (·.1)).mem_iff
theorem sV {pr:Q3->Bool}:∀ {cs:Q4}{i:Nat}{p:Q3×MF},cs[i]?=Z p->pr p.1=true->(∀ (j:Nat) (p:Q3×MF),j<i->cs[j]?=Z p->pr p.1=false)->(cs.map (·.1)).find? pr=Z p.1
 |[],_,_,e,_,_=>by simp at e
 |c::cs,0,p,e,t,_=>by
  cases e;rw[MR,List.find?_cons_of_pos t]
 |c::cs,i+1,p,e,t,a=>by
  rw[MR,List.find?_cons_of_neg (by rw[a 0 c (Nat.succ_pos _) U];show M3)];show sV e t λj p b=>a (j+1) p (Nat.succ_lt_succ b)
def xD {pr:Q3->Bool}{cs:Q4}(a:∀ (j:Nat) (p:Q3×MF),cs[j]?=Z p->pr p.1=false):(cs.map (·.1)).find? pr=none:=V3.mpr λx b=>by
 obtain⟨p,d,rfl⟩:=Nd.mp b;obtain⟨j,c⟩:=Sl d;rw[a j p c];show M3
def acy (l m:Int)(q:Rat):Jc l m (rD q)=(!decide (q<(l:Rat))&&!decide ((m:Rat)<q)):=by
 rw[nC,<- decide_not,<- decide_not]
 congr 2<;>rw[O8,Vm,PY,PX]<;>simp
def Ig:S9 ⊕ (Kn->R3)->Bool
 |.inl s=>decide (s.det=0)
 |.inr f=>(AM 2).any λp=>decide ((Au f p).det=0)
def Fc (P:C3):Bool:=Ba P.p&&(Ba P.q&&Ba P.r)
def aep {b:X3}{P:C3}{w v:Q3}(a:w.Bd 250)(h:HQ b P w (Z v)):Jz b v=w:=by
 cases b with
 |inl s=>
  unfold HQ Em at h;dsimp only at h
  split at h
  .cases h
   rename_i z
   show aa0 z.1 w
  .cases h
 |inr f=>
  obtain⟨L,t,e⟩:=h;show(aeD O O a (t.mem.mp (Ts e.symm))).2
def adj {P:C3}{e:Int}{c r:Q3}(h:P.In e)(o:DD P c r)(wi:c.Wi ((60:Int):Rat)):AB P r=true:=by
 have one:∀ {d:List Pt}{y z:Pt}{a v:Rat},Ew d->d[0]?=Z y->d.getLast?=Z z->0<=a->GU d a v->AA d v=true:=λt g i f o=>by
  obtain⟨l,u⟩:=uK t g i f o;rw[gg g i,acy,Na (O8.mpr l),Na (O8.mpr u)];rfl
 obtain⟨B,C,F,f,n,_⟩:=h 0 O;obtain⟨A,G,E,m,s,_⟩:=h 1 O;obtain⟨x,H,D,k,j,_⟩:=h 2 O;unfold AB;rw[show AA P.p r.a=true from one B f n wi.a0 o.1,show AA P.q r.b=true from one A m s wi.b0 o.2.1,show AA P.r r.c=true from one x k j wi.c0 o.2.2];rfl
def never {b:X3}{P:C3}{a:Int}{c r:Q3}(j:P.In a)(i:∀ f,b=.inr f->P.In 60)(o:DD P c r)(wi:c.Wi ((60:Int):Rat))(g:(Jz b r).Bd 250)(h:HQ b P (Jz b r) none):Ig b=true:=by
 have d:=adj j o wi;cases b with
 |inl s=>
  by_cases z:s.det=0
  .show MB z
  .unfold HQ Em Jz at h;dsimp only at h;rw[um z,M' ⟨z,d⟩] at h;cases h
 |inr f=>
  obtain⟨L,t,e⟩:=h;cases z:Ig (.inr f) with
  |true=>rfl
  |false=>
   have:=V3.mp e.symm r (t.mem.mpr (z9 O O (aed (i f rfl) o wi) g z));show absurd d this
def ze {a:List Pt}(h:Ew a){z:Pt}(g:a.getLast?=Z z){c b d:Rat}(x:AU a c b)(y:AU a c d):b=d:=by
 obtain⟨k1,k2,i⟩:=AU.at_ h g x;obtain⟨k,l,j⟩:=AU.at_ h g y;have e:¬ b<d:=λz=>absurd (AU.least h y k1 z i) (Rn)
 have f:¬ d<b:=λz=>absurd (AU.least h x k z j) (Rn)
 show Vb (O8.mp f) (O8.mp e)
def wj {P:C3}{b:Int}{c r d:Q3}(h:P.In b)(a:Fc P=true)(x:B6 P r d)(o:DD P c r)(wi:c.Wi ((60:Int):Rat)):d=c:=by unfold Fc at a;rw[MX,MX] at a;obtain⟨j,_,n,_,f,c0,_⟩:=h 0 O;obtain⟨i,_,m,_,g,c1,_⟩:=h 1 O;obtain⟨k,_,l,_,e,c2,_⟩:=h 2 O;show Q3.ext (x.1.rise j (pQ a.1) wi.a0 o.1 f (by rw[c0];show wi.a1)) (x.2.1.rise i (pQ a.2.1) wi.b0 o.2.1 g (by rw[c1];show wi.b1)) (x.2.2.rise k (pQ a.2.2) wi.c0 o.2.2 e (by rw[c2];show wi.c1))
def rf {f:X0}{w:Q3}{L M:List Q3}(h:E7 f w L)(g:E7 f w M):L=M:=by
 have b:∀ a:List (Q3×MF),DC a=(a.map (·.1)).flatMap λc=>(Dw c).map (·.2):=λa=>by rw[List.flatMap_map];rfl
 have d:∀ (z:Int) (a:Q4),(C6 z a).map (·.1)=(Ev ((a.map (·.1)).map (IF z))).filterMap ((a.map (·.1))[·]?):=λz a=>by
  unfold C6;rw[List.map_filterMap,OD]
  congr
  funext i
  rw[Mw]
 obtain⟨_,a,⟨m,rfl,q,k,o⟩,e,rfl⟩:=h;obtain⟨_,u,⟨n,rfl,s,l,p⟩,j,rfl⟩:=g;rw[b,e] at k o;rw[b,j] at l p;have r:m<=n:=o.elim (λz=>z▸s) (l m);have t:n<=m:=p.elim (λz=>z▸q) (k n);obtain rfl:=Int.le_antisymm r t;rw[d,d,e,j]
def av (i:Nat){x:Str}{e:OZ}{c:TE}{b a:Pos}(g:X.N.Nodup)(he:PE X e c)(f:X.N[i]?=Z x<|>C')(d:JJ X.env.scope x<|>La)(j:SX e (Z (.Name x a)) b.line X.env=pure false<|>C')(h:X.fn x=true\/X.env.scope.names.lookup x=Z .local<|>FL):PS X (.Assign [.Name x a] e b) (Jq c (Gg i)):=aeS g f d he j h
def ah (i:Nat){x:Str}{a:Pos}(d:X.N.Nodup)(c:X.N[i]?=Z x<|>C')(b:JJ X.env.scope x<|>La)(e:X.fn x=true\/X.env.scope.names.lookup x=Z .local<|>FL):PG X (.Name x a) (Gg i):=ac7 d c b e
def ak (K:KE){a b:OZ}{d f:TE}{c:Pos}(h:PE X a d)(g:PE X b f)(e:X.K=K<|>C')(i:Hk b:=by intro _ _;rfl):PE X (.Subscript a b c) (HL (IE K) d f):=aee (agD e) h g i
def af {CX:C_}{k j:Nat}{x:Str}{m:List Str}{sp:Sp}{b:List V}{p a:Pos}{e:OZ}{es:List OZ}{t:TA}(g:HN CX)(C:ID X.prog X.w X.K X.mg X.base CX k x m b sp)(i:Room j X.A)(f:PA X (e::es) t)(l:k<=j<|>Cb)(h:Gl X x<|>C')(d:(x==("__debug__":Str))=false<|>Cb)(he:M0 (e::es) X.env=(false,QA e X.env)::M0 es X.env<|>C')(c:(Qx a (M0 es X.env)).any (·.1)=false<|>C'):PE X (.Call (.Name x p) (e::es) [] a) (DM sp b E0 t):=aff g C (i.mono l) h f d he c
def aJ {e:OZ}{a:TE}(h:PE X e a)(b:M0 [e] X.env=(false,QA e X.env)::M0 [] X.env<|>C'):PA X [e] (A4 a Db):=ai h aH b
def aL {e f:OZ}{b a:TE}(h:PE X e b)(g:PE X f a)(d:M0 [e,f] X.env=(false,QA e X.env)::M0 [f] X.env<|>C')(c:M0 [f] X.env=(false,QA f X.env)::M0 [] X.env<|>C'):PA X [e,f] (A4 b (A4 a Db)):=ai h (ai g aH c) d
def az {a:Qw}{c f b:OZ}{d:List OZ}{wi:TI}{g:TG}{tt:TT}{h:TE}{e:Pos}(ts cs:List Str)(js:List Nat)(k:Nat)(o:PI X f b wi)(n:(ts++cs).Nodup->∀ {C s0 H0 fp pn},PG (Av X (ts++cs) a (Aj X a C) C s0 H0 fp pn) f g)(q:∀ {C s0 H0 fp pn},HK (Av X (ts++cs) a (Aj X a C) C s0 H0 fp pn) d tt)(he:∀ {C s0 H0 fp pn},PE (Av X (ts++cs) a (Aj X a C) C s0 H0 fp pn) c h)(j:(ts++cs).Nodup<|>F')(p:X.calm=true<|>C')(s:EB a=true<|>F')(r:(a.names.all λy=>!(y.2==.free)||(X.env.cells.lookup y.1).isSome)=true<|>C')(i:Du X a cs js=true<|>C')(l:⇑cs=⇑js<|>C')(t:⇑ts=k<|>C')(m:(∀ x,Op b X.env x=pure x)<|>E'):PE X (.ListComp c [⟨f,b,d,0⟩] a e) (Hq wi g tt h (GS k js)):=acY p o (jU s r) (l7 (ts:=ts) i l t) (λ_ _ _ _ _=>n j) (λ_ _ _ _ _=>q) (λ_ _ _ _ _=>he) m
def cH (i:Nat){y:Str}{n c:Pos}{a:Qw}{d h b:OZ}{e:List OZ}{wi:TI}{g:TG}{tt:TT}{m:TE}{f:Pos}(ts cs:List Str)(js:List Nat)(k:Nat)(D:X.N.Nodup)(u:PI X h b wi)(t:(ts++cs).Nodup->∀ {C s0 H0 fp pn},PG (Av X (ts++cs) a (Aj X a C) C s0 H0 fp pn) h g)(z:∀ {C s0 H0 fp pn},HK (Av X (ts++cs) a (Aj X a C) C s0 H0 fp pn) e tt)(he:∀ {C s0 H0 fp pn},PE (Av X (ts++cs) a (Aj X a C) C s0 H0 fp pn) d m)(p:(ts++cs).Nodup<|>F')(v:X.calm=true<|>C')(j:X.N[i]?=Z y<|>C')(q:X.env.scope.names.lookup y=Z .local<|>C')(B:EB a=true<|>F')(A:(a.names.all λy=>!(y.2==.free)||(X.env.cells.lookup y.1).isSome)=true<|>C')(o:Du X a cs js=true<|>C')(r:⇑cs=⇑js<|>C')(E:⇑ts=k<|>C')(l:SX (.ListComp d [⟨h,b,e,0⟩] a f) (Z (.Name y n)) c.line X.env=pure true<|>C')(s:(∀ x,Op b X.env x=pure x)<|>E'):PS X (.Assign [.Name y n] (.ListComp d [⟨h,b,e,0⟩] a f) c) (Ie i wi g tt m (GS k js)):=vH v D j q u (jU B A) (l7 (ts:=ts) o r E) (λ_ _ _ _ _=>t p) (λ_ _ _ _ _=>z) (λ_ _ _ _ _=>he) l s
end TR
set_option Elab.async false
set_option linter.all false
set_option maxRecDepth 100000
set_option maxHeartbeats 8000000
namespace TR
open PySem PySem.Spec PyProof.Rows L2
set_option autoImplicit false
abbrev j0:List Str:=["thing"]
abbrev oR:List Str:=["one","other"]
abbrev tR:List Str:=["_law_town_here"]
abbrev uA0:List Str:=["_law_town_here","_law_cap"]
abbrev uA1:List Str:=["_law_town_here","_law_cap","_law_climbs"]
abbrev uA2:List Str:=["self","curves","square","ends"]
abbrev uA3:List Str:=["self","curves","grid","ends"]
abbrev uA4:List Str:=["thing","most"]
abbrev uA5:List Str:=["_law_script"]
abbrev uA6:List Str:=["_law_k"]
abbrev uA7:List Str:=["_law_thing"]
abbrev uA8:List Str:=["top","below"]
abbrev uA9:List Str:=["self","white","black"]
abbrev uB0:List Str:=["self","colour","way"]
abbrev uB1:List Str:=["_law_one","_law_two"]
abbrev uB2:List Str:=["curves","values"]
abbrev uB3:List Str:=["self"]
abbrev uB4:List Str:=["_law_town_here","_law_last","_law_cap","_law_climbs"]
abbrev uB5:List Str:=["thing","knots"]
abbrev uB6:List Str:=["self","colour"]
abbrev uB7:List Str:=["_law_grid_here","_law_curves_here","_law_worth"]
abbrev uB8:List Str:=["colour","top","below"]
abbrev uB9:List Str:=["square","colour"]
abbrev uC0:List Str:=["thing","many","least","most"]
abbrev uC1:List Str:=["_law_town_here","_law_some"]
abbrev uC2:List Str:=["curve","number"]
abbrev uC3:List Str:=["white","black"]
abbrev uC4:List Str:=["low","high"]
abbrev uC5:List Str:=["self","place"]
abbrev uC6:List Str:=["self","worth"]
abbrev uC7:List Str:=["parts_by_four","rising"]
abbrev uC8:List Str:=["_law_w","_law_x","_law_y","_law_z"]
abbrev uC9:List Str:=["ends"]
abbrev uD0:List Str:=["thing","least","most"]
abbrev uD1:List Str:=["self","knots","table"]
abbrev uD2:List Str:=["a","b","c","numbers"]
abbrev uD3:List Str:=["_law_profile_here","_law_worth"]
abbrev uD4:List Str:=["least","order"]
abbrev uD5:List Str:=["one","least","most"]
abbrev uD6:List Str:=["far","whole"]
abbrev uD7:List Str:=["row","other"]
abbrev uD8:List Str:=["curves","colour"]
abbrev uD9:List Str:=["grid"]
def Ax (i:Nat):On:=PySem.Challenge.pw_tintroads_k20_whole_round.main.body.getD i (.Pass ⟨0,0,0,0⟩)
abbrev EJ:On:=Ax 15
abbrev BL:On:=Ax 16
abbrev BF:On:=Ax 17
abbrev Bt:On:=Ax 18
abbrev EE:On:=Ax 19
abbrev BI:On:=Ax 20
abbrev Bp:On:=Ax 21
abbrev Hj:On:=Ax 22
abbrev DB:On:=Ax 23
abbrev EN:On:=Ax 24
abbrev FE:On:=Ax 25
abbrev Go:On:=Ax 26
abbrev El:On:=Ax 27
abbrev BW:On:=Ax 28
abbrev Ej:On:=Ax 32
abbrev Gv:On:=Ax 33
abbrev Eb:On:=Ax 34
abbrev Bv:On:=Ax 35
abbrev By:On:=Ax 36
abbrev FB:On:=Ax 37
abbrev DS:On:=Ax 38
abbrev Ee:On:=Ax 39
abbrev Gn:On:=Ax 40
abbrev IX:On:=Ax 41
abbrev EL:On:=Ax 42
abbrev EU:On:=Ax 43
abbrev E5:On:=Ax 50
abbrev FD:On:=Ax 51
abbrev Fd:On:=Ax 52
abbrev Hg:On:=Ax 53
abbrev EO:On:=Ax 54
abbrev A2:On:=Ax 55
abbrev Cn:On:=Ax 56
abbrev Hn:On:=Ax 57
abbrev AN:On:=Ax 58
abbrev GB:On:=Ax 61
abbrev BG:On:=AJ (Ax 62) 0
abbrev CO:On:=AJ (Ax 62) 1
abbrev CM:On:=AJ (Ax 62) 2
abbrev Cm:On:=AJ (Ax 62) 4
abbrev EW:On:=Ax 66
abbrev AH:On:=AJ (Ax 62) 3
abbrev BY:On:=Ax 63
abbrev Ck:On:=Ax 67
abbrev CV:On:=Ax 68
abbrev DL:On:=Ax 69
abbrev Dp:On:=Ax 70
abbrev DY:On:=Ax 71
abbrev CZ:On:=Ax 72
abbrev B1:On:=Ax 73
abbrev Ea:On:=Ax 74
abbrev FH:On:=Ax 75
abbrev EQ:On:=Ax 80
abbrev DW:On:=Ax 81
abbrev DR:On:=Ax 82
abbrev Dx:On:=Ax 83
abbrev FC:On:=Ax 84
abbrev Bu:On:=AJ (Ax 85) 0
abbrev Cw:On:=AJ (Ax 85) 5
abbrev Cd:On:=AJ (Ax 85) 1
abbrev Cp:On:=AJ (Ax 85) 6
abbrev Cq:On:=AJ (Ax 85) 2
abbrev Bo:On:=AJ (Ax 85) 3
abbrev AD:On:=AJ (Ax 87) 0
abbrev CK:On:=Ax 90
abbrev DZ:On:=Ax 91
abbrev BD:On:=Ax 92
abbrev Bs:On:=Ax 93
abbrev B8:On:=Ax 94
abbrev CS:On:=Ax 95
abbrev Ef:On:=Ax 96
abbrev DU:On:=Ax 97
abbrev Dg:On:=Ax 98
abbrev Al:On:=AJ (Ax 99) 0
abbrev A1:On:=AJ (Ax 99) 1
abbrev AV:On:=AJ (Ax 99) 2
abbrev Ap:On:=AJ (Ax 100) 0
abbrev A5:On:=AJ (Ax 100) 1
abbrev A0:On:=AJ (Ax 100) 2
abbrev Eh:On:=Ax 102
abbrev DO:On:=Ax 103
abbrev D_:On:=Ax 104
abbrev Ds:On:=Ax 105
abbrev Cj:On:=Ax 106
abbrev E3:On:=Ax 107
abbrev Dj:On:=Ax 108
abbrev Dm:On:=Ax 109
abbrev BV:On:=Ax 110
abbrev Dr:On:=Ax 111
abbrev B':On:=Ax 112
abbrev B7:On:=Ax 113
abbrev CQ:On:=Ax 114
abbrev CY:On:=Ax 115
abbrev CW:On:=Ax 116
abbrev Ek:On:=Ax 117
abbrev DN:On:=Ax 118
abbrev CU:On:=Ax 119
abbrev Cu:On:=Ax 120
abbrev Eg:On:=Ax 121
abbrev Dk:On:=Ax 122
abbrev CN:On:=Ax 123
structure RawD (K:KE):Prop where
 x16:AtD K "is_whole" EJ
 x17:AtD K "is_whole_within" BL
 x18:AtD K "is_tuple_within" BF
 x19:AtD K "greatest_measure" Bt
 x1a:AtD K "is_share" EE
 x1b:AtD K "refuse_no_share" BI
 x1c:AtD K "added" Hj
 x1d:AtD K "multiplied" DB
 x1e:AtD K "floor_of" EN
 x1f:AtD K "is_less" FE
 x1g:AtD K "sum_of" Go
 x1h:AtD K "is_within" El
 x1i:AtD K "over_one_below" BW
 x1j:AtD K "is_colour" Ej
 x1k:AtD K "is_row" Gv
 x1l:AtD K "is_square" Eb
 x1m:AtD K "refuse_no_square" Bv
 x1n:AtD K "refuse_no_colour" By
 x1o:AtD K "crossed" FB
 xt:AtD K "whole_sum" DS
 x1p:AtD K "share_sum" Ee
 x1q:AtD K "volume" Gn
 x1r:AtD K "led" IX
 x1s:AtD K "way_back" EL
 x1t:AtD K "led_back" EU
 x1u:AtD K "is_knots" E5
 x1v:AtD K "is_knot" FD
 x1w:AtD K "is_worth" Fd
 x1x:AtD K "apart" Hg
 x1y:AtD K "is_table" EO
 x1z:AtD K "refuse_no_device_colour" A2
 x20:AtD K "places_below" Cn
 x21:AtD K "moved" Hn
 x22:AtD K "is_way" GB
 x23:AtD K "parts_of" EW
 x24:AtD K "refuse_no_grid" BY
 x25:AtD K "worths_along" Ck
 x26:AtD K "differences" CV
 x27:AtD K "distances" DL
 x28:AtD K "is_in_part" Dp
 x29:AtD K "colour_at" DY
 x2a:AtD K "way_in_part" CZ
 x2b:AtD K "ways_back" Ea
 x2c:AtD K "is_flat" FH
 x2d:AtD K "is_point" EQ
 x2e:AtD K "is_onward" DW
 x2f:AtD K "is_points" DR
 x2g:AtD K "stretch_to" Dx
 x2h:AtD K "on_line" FC
 x2i:AtD K "is_curve_to" CK
 x2j:AtD K "is_curves" DZ
 x2k:AtD K "refuse_no_curves" BD
 x2l:AtD K "refuse_no_bounds" Bs
 x2m:AtD K "copied_curves" B8
 x2n:AtD K "copied_ends" CS
 x2o:AtD K "values_at" Ef
 x2p:AtD K "places_of" DU
 x2q:AtD K "are_values" Dg
 x2r:AtD K "_law_town" Eh
 x2s:AtD K "_law_draw" DO
 x2t:AtD K "_law_pick" D_
 x2u:AtD K "_law_whole" Ds
 x2v:AtD K "_law_refusal" Cj
 x2w:AtD K "_law_low" E3
 x2x:AtD K "_law_below" Dj
 x2y:AtD K "_law_share" Dm
 x2z:AtD K "_law_any_share" BV
 x30:AtD K "_law_three" Dr
 x31:AtD K "_law_is_share" B'
 x32:AtD K "_law_is_three" B7
 x33:AtD K "_law_points" CQ
 x34:AtD K "_law_square" CY
 x35:AtD K "_law_volume" CW
 x36:AtD K "_law_grid" Ek
 x37:AtD K "_law_ends" DN
 x38:AtD K "_law_curves" CU
 x39:AtD K "_law_profile" Cu
 x3a:AtD K "_law_from" Eg
 x3b:AtD K "_law_first" Dk
structure KR (K:KE):Prop where
 x3c:AtM K "Grid" "__init__" "Grid.__init__" BG
 x3d:AtM K "Grid" "knot" "Grid.knot" CO
 x3e:AtM K "Grid" "size" "Grid.size" CM
 x3f:AtM K "Grid" "mixed" "Grid.mixed" Cm
 x3g:AtM K "Curve" "__init__" "Curve.__init__" Bu
 x3h:AtM K "Curve" "last" "Curve.last" Cw
 x3i:AtM K "Curve" "value" "Curve.value" Cd
 x3j:AtM K "Curve" "ends" "Curve.ends" Cp
 x3k:AtM K "Curve" "back" "Curve.back" Cq
 x3l:AtM K "Curve" "is_rising" "Curve.is_rising" Bo
 x3m:AtM K "SquareProfile" "to_worth" "SquareProfile.to_worth" A1
 x3n:AtM K "SquareProfile" "from_worth" "SquareProfile.from_worth" AV
 x3o:AtM K "GridProfile" "to_worth" "GridProfile.to_worth" A5
 x3p:AtM K "GridProfile" "from_worth" "GridProfile.from_worth" A0
class LM (K:KE) (mg:O') (w:Nr):Prop extends KW K mg,RawD K,KR K where
 x6:BN K "Curve" ["points"]=true
 xd:BN K "Ends" uC3=true
 x3:BN K "Grid" ["knots","table"]=true
 x9:BN K "GridProfile" ["curves","grid","bounds"]=true
 xb:BN K "SquareProfile" ["curves","square","bounds"]=true
 xu:∃ D,mg "WAYS"=Z ↥D/\FG K w mg D [("four","parts_by_four"),("eight","parts_by_eight")]
 xv:∃ t,mg "FEWEST_KNOTS"=Z (.int 2 t)
 xw:∃ t,mg "FEWEST_POINTS"=Z (.int 2 t)
 xx:∃ t,mg "GREATEST_TO_SQUARE"=Z (.int 1000 t)
 xy:∃ t,mg "GREATEST_curves"=Z (.int 1000 t)
 xz:∃ t,mg "GREATEST_grids"=Z (.int 1000 t)
 xj:∃ t,mg "GREATEST_squares"=Z (.int 4000 t)
 x10:∃ t,mg "MOST_KNOTS"=Z (.int 7 t)
 x11:∃ t,mg "MOST_POINTS"=Z (.int 12 t)
 xg:∃ t,mg "REACH"=Z (.int 60 t)
 xk:∃ t,mg "UNIT"=Z (.int 1000 t)
 x12:Jy K "Curve"=true
 x13:Jy K "Ends"=true
 xl:Jy K "Grid"=true
 x3q:∃ a,mg "ORDERS"=Z ↥a/\HF K a [[0,1,2],[0,2,1],[1,0,2],[1,2,0],[2,0,1],[2,1,0]]
 x3r:∃ a,mg "STEPS"=Z ↥a/\HF K a [[1,0,0],[0,1,0],[0,0,1]]
 x14:mg "ValueError"=none
 xm:mg "abs"=none
 x8:mg "all"=none
 xn:mg "any"=none
 xo:mg "bool"=none
 xp:mg "dict"=none
 xq:mg "int"=none
 x0:mg "isinstance"=none
 x4:mg "len"=none
 xa:mg "list"=none
 xr:mg "max"=none
 xh:mg "min"=none
 x1:mg "range"=none
 xs:mg "set"=none
 xf:mg "sorted"=none
 x15:mg "str"=none
 xi:mg "sum"=none
 x2:mg "tuple"=none
 x7:mg "zip"=none
 x5:Hv K=true
 xe:AK K mg "share" Bp uA8 []
 xc:AK K mg "share" Bp uA8 [↑1]
 x3s:Hs K mg "parts_by_four" AN uD6
 x3t:BU K mg "Grid" "worth" "Grid.worth" AH uB0 [] 2 0 [.str "four"]
 x3u:Hs K mg "rising" B1 ["colours"]
 x3v:BU K mg "Ends" "__init__" "Ends.__init__" AD uA9 uC3 1 2 []
 x3w:BU K mg "SquareProfile" "__init__" "SquareProfile.__init__" Al uA2 uC9 3 1 []
 x3x:BU K mg "GridProfile" "__init__" "GridProfile.__init__" Ap uA3 uC9 3 1 []
structure K0 where
 P:MY
 w:Nr
 K:KE
 mg:Str->Option Mo
 base:Oz
def JA (e:K0):Prop:=∀ (_:LM e.K e.mg e.w) (f:MF) (a:OQ) (_:JP e.K "law" "law" CN f a),Bw e.P e.w e.K e.mg e.base (Fj e.P e.w) 12 f a uA5 (DF uC7 e.K)
noncomputable def KS:K0:=@Classical.epsilon K0 ⟨⟨default,⟨λ_ _=>0,{ strHash:=λ_=>0,shareClass:=λ_=>0,mergeTok:=id,idOf:=λ_=>0,idOfShared:=λ_ _=>0,followText:=λ_=>false,idOfImm:=λ_=>0 }⟩,default,λ_=>none,default⟩⟩ λe=>¬JA e
noncomputable def P:MY:=KS.P
noncomputable def w:Nr:=KS.w
noncomputable def K:KE:=KS.K
local macro_rules
 |`($f<<<$g)=>do
  let i:=Lean.mkIdent
  match f with
  |`($h $a*)=>`($h $a* (bb:=λ_ _ _ _ _ $(i `H) $(i `vs) $(i `Q) $(i `E)=>$g))
  |_=>Lean.Macro.throwUnsupported
theorem Θ:K=K:=rfl
noncomputable def mg:Str->Option Mo:=KS.mg
noncomputable def base:Oz:=KS.base
abbrev BH:=GY P w K mg base (Fj P w)
abbrev Am:=ID P w K mg base (Fj P w)
section
variable (vs:List V)(H:Hp)(Q:VK)
def u_:Ac j0 j0 (Ab EJ):=bN
inductive Ge (_:XK):Prop
 |mk (x T) (_:vs=[x]) (_:Ty K H x T) (_:Q (.bl (Gd x)) H)
def kD:Ac uD0 uD0 (Ab BL):=bN
inductive Dd (_:XK):Prop
 |mk (x d l m) (_:vs=[x,↑l,↑m]) (_:Ad K H d x) (_:Q (.bl (IB l m d)) H)
def kG:Ac uC0 uC0 (Ab BF):=bN
inductive C0 (_:XK):Prop
 |mk (x:V) (ns:List Int) (n l m:Int) (_:vs=[x,↑n,↑l,↑m]) (_:Ad K H (.tuple (ns.map O7)) x) (_:n=⇑ns) (_:⇑ns<=1000) (_:∀ H',Aa H H'->Q (.bl (ns.all λk=>decide (l<=k)&&decide (k<=m))) H')
def du:Ac oR oR (Ab Bt):=bN
inductive CG (_:XK):Prop
 |mk (a b) (_:vs=[↑a,↑b]) (_:Q ↑(Os a b) H)
def jr:Ac ["thing","top","below"] j0 (Ab EE):=bN
inductive GG (_:XK):Prop
 |mk (x d) (_:vs=[x]) (_:Ad K H d x) (_:Q (.bl (shB d)) H)
def ku:Ac j0 j0 (Ab BI):=bN
inductive Da (_:XK):Prop
 |mk (x d) (_:vs=[x]) (_:Ad K H d x) (_:shB d=true) (_:Q .non H)
def oS:Ac ["top","below","measure"] uA8 (Ab Bp):=bN
inductive Gq (_:XK):Prop
 |mk (t b:Int) (_:vs=[↑t,↑b]) (_:b≠0) (_:Sm 8000 b) (_:Sh K H t b Q)
def abV:Ac oR oR (Ab Hj):=bN
inductive Ia (_:XK):Prop
 |mk (x y n d m e) (_:vs=[x,y]) (_:Ad K H (F8 n d) x) (_:Ad K H (F8 m e) y) (_:Ok 3900 n d) (_:Ok 3900 m e) (_:Sh K H (n*e+m*d) (d*e) Q)
def qD:Ac oR oR (Ab DB):=bN
inductive Fs (_:XK):Prop
 |mk (x y n d m e) (_:vs=[x,y]) (_:Ad K H (F8 n d) x) (_:Ad K H (F8 m e) y) (_:Ok 3900 n d) (_:Ok 3900 m e) (_:Sh K H (n*m) (d*e) Q)
def u6:Ac ["one"] ["one"] (Ab EN):=bN
inductive GH (_:XK):Prop
 |mk (x n d) (_:vs=[x]) (_:Ad K H (F8 n d) x) (_:Ok 3900 n d) (_:Q ↑(n.fdiv d) H)
def wC:Ac oR oR (Ab FE):=bN
inductive GO (_:XK):Prop
 |mk (x y:V) (p q:Rat) (_:vs=[x,y]) (_:Ad K H (rD p) x) (_:Ad K H (rD q) y) (_:Bq 3900 p) (_:Bq 3900 q) (_:Q (.bl (decide (p<q))) H)
def jM:Ac ["many","total","one"] ["many"] (Ab Go):=bN
inductive Hz (_:XK):Prop
 |mk (x:V) (k:Bool) (b:Nat) (rs:List Rat) (_:vs=[x]) (_:Ad K H (GW k (rs.map rD)) x) (_:(∀ r∈rs,Bq b r)) (_:b<=3900) (_:⇑rs*(b+1)+1<=3900) (_:Cs K H (Hu rs) Q)
def sO:Ac uD5 uD5 (Ab El):=bN
inductive FW (_:XK):Prop
 |mk (x:V) (p:Rat) (l m:Int) (_:vs=[x,↑l,↑m]) (_:Ad K H (rD p) x) (_:Bq 3900 p) (_:Sm 60 l) (_:Sm 60 m) (_:Q (.bl (decide (l*(p.den:Int)<=p.num)&&decide (p.num<=m*(p.den:Int)))) H)
def cU:Ac ["numbers","below","number"] ["numbers"] (Ab BW):=bN
inductive Do (_:XK):Prop
 |mk (x:V) (k:Bool) (b:Nat) (rs:List Rat) (_:vs=[x]) (_:Ad K H (GW k (rs.map rD)) x) (_:(∀ r∈rs,Bq b r)) (_:⇑rs<=500) (_:b<=7900) (_:⇑rs*b+b+1<=7900) (_:∀ (v:V) (H':Hp),Aa H H'->Ad K H' (.tuple [.list (rs.map λr=>↑(ov (AX rs) r)),↑(AX rs)]) v->Q v H')
def rP:Ac j0 j0 (Ab Ej):=bN
inductive FP (_:XK):Prop
 |mk (x:V) (p r t:Rat) (_:vs=[x]) (_:Ad K H (KU p r t) x) (_:∀ H',Aa H H'->Q (.bl true) H')
def zd:Ac j0 j0 (Ab Gv):=bN
inductive HH (_:XK):Prop
 |mk (x k r) (_:vs=[x]) (_:Ad K H (AE k r) x) (_:R3.In r 4000) (_:∀ H',Aa H H'->Q (.bl true) H')
def tD:Ac j0 j0 (Ab Eb):=bN
inductive F0 (_:XK):Prop
 |mk (x:V) (s:S9) (_:vs=[x]) (_:Ad K H s.d x) (_:s.In) (_:∀ H',Aa H H'->Q (.bl true) H')
def j8:Ac j0 j0 (Ab Bv):=bN
inductive CA (_:XK):Prop
 |mk (x:V) (s:S9) (_:vs=[x]) (_:Ad K H s.d x) (_:s.In) (_:∀ H',Aa H H'->Q .non H')
def j5:Ac j0 j0 (Ab By):=bN
inductive CC (_:XK):Prop
 |mk (x:V) (p r t:Rat) (_:vs=[x]) (_:Ad K H (KU p r t) x) (_:∀ H',Aa H H'->Q .non H')
def wU:Ac oR oR (Ab FB):=bN
inductive GJ (_:XK):Prop
 |mk (x y:V) (k j:Bool) (r s:R3) (_:vs=[x,y]) (_:Ad K H (AE k r) x) (_:Ad K H (AE j s) y) (_:r.In 4000) (_:s.In 4000) (_:∀ v H',Aa H H'->Ad K H' (AE true (r.cross s)) v->Q v H')
def lr:Ac uD7 uD7 (Ab DS):=bN
inductive FJ (_:XK):Prop
 |mk (x y:V) (k j:Bool) (r s:R3) (_:vs=[x,y]) (_:Ad K H (AE k r) x) (_:Ad K H (AE j s) y) (_:r.In 4000) (_:s.In 200000000) (_:∀ H',Aa H H'->Q ↑(r.dot s) H')
inductive EV (_:XK):Prop
 |mk (a b:MF) (k j:Bool) (ns ms:List Int) (_:vs=[↥a,↥b]) (_:AF K H a (ns.map V.int) k) (_:AF K H b (ms.map V.int) j) (_:⇑ns=⇑ms) (_:⇑ns<=1000) (_:(∀ n∈ns,Sm 8000 n)) (_:(∀ m∈ms,Sm 8000 m)) (_:∀ H',Aa H H'->Q ↑(Qs (·*·) ns ms).sum H')
def ue:Ac ["row","colour"] ["row","colour"] (Ab Ee):=bN
inductive Dz (_:XK):Prop
 |mk (x y:V) (k:Bool) (p c:Q3) (_:vs=[x,y]) (_:Ad K H (GW k p.ds) x) (_:Ad K H c.col y) (_:p.Bd 60) (_:c.Bd 1200) (_:Cs K H (Gy p c) Q)
def zU:Ac ["square"] ["square"] (Ab Gn):=bN
inductive Hy (_:XK):Prop
 |mk (x:V) (s:S9) (_:vs=[x]) (_:Ad K H s.d x) (_:s.In) (_:∀ H',Aa H H'->Q ↑s.det H')
def afe:Ac uB9 uB9 (Ab IX):=bN
inductive Jh (_:XK):Prop
 |mk (x y:V) (s:S9) (c:Q3) (_:vs=[x,y]) (_:Ad K H s.d x) (_:s.In) (_:Ad K H c.col y) (_:c.Bd 1200) (_:∀ v H',Aa H H'->Ad K H' (s.m.led c).col v->Q v H')
def dW:Ac ["square","size","a","b","c","columns"] ["square"] (Ab EL):=bN
inductive Fn (E:XK):Prop
 |mk (x:V) (s:S9) (_:vs=[x]) (_:Ad K H s.d x) (_:s.In) (_:(s.det=0->Rz K 4 H E)) (_:(s.det≠0->∀ v H',Aa H H'->Ad K H' s.back.d v->Q v H'))
def mH:Ac ["square","colour","rows"] uB9 (Ab EU):=bN
inductive Fq (E:XK):Prop
 |mk (x y:V) (s:S9) (c:Q3) (_:vs=[x,y]) (_:Ad K H s.d x) (_:s.In) (_:Ad K H c.col y) (_:c.Bd 1200) (_:(s.det=0->Rz K 4 H E)) (_:(s.det≠0->∀ v H',Aa H H'->Ad K H' (s.back.led c).col v->Q v H'))
def vo:Ac j0 j0 (Ab E5):=bN
inductive Gf (_:XK):Prop
 |mk (x:V) (d:NM) (_:vs=[x]) (_:Ad K H d x) (_:Q (.bl (IB 2 7 d)) H)
def vI:Ac uB5 uB5 (Ab FD):=bN
inductive GP (_:XK):Prop
 |mk (x:V) (ns:List Int) (n:Int) (_:vs=[x,↑n]) (_:Ad K H (.tuple (ns.map O7)) x) (_:⇑ns=3) (_:∀ H',Aa H H'->Q (.bl (ns.all λk=>decide (0<=k)&&decide (k<=n-1))) H')
def ut:Ac j0 j0 (Ab Fd):=bN
inductive Gx (_:XK):Prop
 |mk (x:V) (ns:List Int) (_:vs=[x]) (_:Ad K H (.tuple (ns.map O7)) x) (_:⇑ns=3) (_:∀ H',Aa H H'->Q (.bl (ns.all λk=>decide (0<=k)&&decide (k<=1000))) H')
def ab6:Ac ["knots"] ["knots"] (Ab Hg):=bN
inductive Iy (_:XK):Prop
 |mk (n:Nat) (_:vs=[↑n]) (_:2<=n) (_:n<=7) (_:Q ↑(B3 n) H)
def uP:Ac uB5 uB5 (Ab EO):=bN
inductive Gj (_:XK):Prop
 |mk (d:MF) (n:Nat) (f:X0) (_:vs=[↥d,↑n]) (_:Gr K H n f d) (_:GM n f) (_:n<=7) (_:∀ H',Aa H H'->Q (.bl true) H')
def gu:Ac j0 j0 (Ab A2):=bN
inductive BB (_:XK):Prop
 |mk (x:V) (c:Q3) (_:vs=[x]) (_:Ad K H c.col x) (_:c.Wi ((60:Int):Rat)) (_:c.Bd 3000) (_:∀ H',Aa H H'->Q .non H')
def pB {p:Rat}{m:Int}(d:0<=p)(b:p<=(m:Rat)):(decide (0*(p.den:Int)<=p.num)&&decide (p.num<=m*(p.den:Int)))=true:=by
 have c:decide (0*(p.den:Int)<=p.num)=true:=MB (by rw[Int.zero_mul];show Rat.num_nonneg.mpr d);have a:decide (p.num<=m*(p.den:Int))=true:=MB (by
  have h:=(Vm p (m:Rat)).mp b;rw[PY,PX] at h
  simpa using h)
 rw[c,a];rfl
def iR:Ac ["many","numbers"] ["many"] (Ab Cn):=bN
inductive Eu (_:XK):Prop
 |mk (n:Nat) (_:vs=[↑n]) (_:n<=7) (_:∀ (D:MF) (ys:List V) (H':Hp),Aa H H'->H' D=Z (.lst ys)->Af K H' ((As n).map IW) ys->Q ↥D H')
def ab4:Ac ["place","steps"] ["place","steps"] (Ab Hn):=bN
inductive Io (_:XK):Prop
 |mk (a b:MF) (ns ms:List Int) (_:vs=[↥a,↥b]) (_:AZ K H a (ns.map V.int)) (_:AZ K H b (ms.map V.int)) (_:⇑ns=⇑ms) (_:⇑ns<=10) (_:∀ (p:MF) (H':Hp),Aa H H'->H' p=Z (.tup ((Qs (·+·) ns ms).map V.int))->Q ↥p H')
def bH:Ac ["far","whole","corner","left","parts","way"] uD6 (Ab AN):=bN
inductive BX (_:XK):Prop
 |mk (a:MF) (x y z whole:Int) (_:vs=[↥a,↑whole]) (_:An K H a [↑x,↑y,↑z]) (_:F7 K "parts_by_four" H) (_:∀ (o:Pv) (D:MF) (ys:List V) (H':Hp),o∈Bc->AR x y z o.2.1<=AR x y z o.1->AR x y z o.2.2<=AR x y z o.2.1->Aa H H'->H' D=Z (.lst ys)->Af K H' ((BK (AR x y z) whole o.1 o.2.1 o.2.2).map IL) ys->Q ↥D H')
def z_:Ac j0 j0 (Ab GB):=bN
def KC:List (Str×Str):=[("four","parts_by_four"),("eight","parts_by_eight")]
inductive HG (_:XK):Prop
 |mk (i:Str) (_:vs=[.str i]) (_:Q (.bl (KC.lookup i).isSome) H)
def kB:Ac uD1 uD1 (Ab BG):=bN
inductive AS (_:XK):Prop
 |mk (a C dx d:MF) (n:Nat) (f:X0) (_:vs=[↥a,↑n,↥d]) (_:Ay K "Grid" C) (_:H a=Z (.ins C dx [])) (_:Gr K H n f d) (_:GM n f) (_:2<=n) (_:n<=7) (_:∀ (H':Hp) (L:MF),Mv [a] H H'->H' a=Z (.ins C dx [("knots",↑n),("table",↥L)])->Gr K H' n f L->H L=none->Q .non H')
def pI:Ac uC5 uC5 (Ab CO):=bN
inductive E4 (_:XK):Prop
 |mk (v x:V) (n:Nat) (f:X0) (t:Kn) (_:vs=[v,x]) (_:Bh K H n f v) (_:Ad K H (IW t) x) (_:t∈As n) (_:∀ (w:V) (H':Hp),Aa H H'->Ad K H' (wD (f t)) w->Q w H')
def oM:Ac uB3 uB3 (Ab CM):=bN
inductive E8 (_:XK):Prop
 |mk (v:V) (n:Nat) (f:X0) (_:vs=[v]) (_:Bh K H n f v) (_:2<=n) (_:n<=7) (_:∀ (w:V) (H':Hp),Aa H H'->Ad K H' (.tuple [↑n,↑(B3 n)]) w->Q w H')
def fK:Ac ["self","least","parts","worths","amounts"] ["self","least","parts"] (Ab Cm):=bN
inductive Et (_:XK):Prop
 |mk (v x:V) (D:MF) (ys:List V) (n:Nat) (f:X0) (base:Kn) (ps:List Pc) (_:vs=[v,x,↥D]) (_:Bh K H n f v) (_:Ad K H (IW base) x) (_:H D=Z (.lst ys)) (_:Af K H (ps.map IL) ys) (_:⇑ps<=10) (_:GM n f) (_:(∀ p∈ps,Ae base p.1∈As n)) (_:(∀ p∈ps,Sm 7000 p.2)) (_:(ps.map (·.2)).sum≠0) (_:Sm 8000 (ps.map (·.2)).sum) (_:∀ (w:V) (H':Hp),Aa H H'->Ad K H' (HP f base ps).col w->Q w H')
def ve:Ac uD9 uD9 (Ab EW):=bN
inductive Gp (_:XK):Prop
 |mk (v:V) (n:Nat) (f:X0) (_:vs=[v]) (_:Bh K H n f v) (_:2<=n) (_:n<=6) (_:∀ (D:MF) (ys:List V) (H':Hp),Aa H H'->H' D=Z (.lst ys)->Be K H' (AM n) ys->Q ↥D H')
def bL:Ac ["self","colour","way","parts_of","steps","least","tops","below","far"] uB0 (Ab AH):=bN
inductive EA (_:XK):Prop
 |mk (v x:V) (n:Nat) (f:X0) (c:Q3) (k:Nat) (_:vs=[v,x,.str "four"]) (_:Bh K H n f v) (_:GM n f) (_:2<=n) (_:n<=7) (_:Ad K H c.col x) (_:c.Wi ((60:Int):Rat)) (_:c.Bd k) (_:k<=1200) (_:F7 K "parts_by_four" H) (_:∀ (w:V) (H':Hp),Aa H H'->Ad K H' (W4 n f c).col w->(W4 n f c).Bd (4*k+45)->Q w H')
def kM:Ac j0 j0 (Ab BY):=bN
inductive Dn (_:XK):Prop
 |mk (v:V) (n:Nat) (f:X0) (_:vs=[v]) (_:Bh K H n f v) (_:Q .non H)
def dG:Ac ["grid","least","order","place","worths","way"] ["grid","least","order"] (Ab Ck):=bN
inductive Er (_:XK):Prop
 |mk (v:V) (a b:MF) (n:Nat) (f:X0) (t:Kn) (o:Pv) (_:vs=[v,↥a,↥b]) (_:Bh K H n f v) (_:H a=Z (.tup (BQ t))) (_:KT K b (BQ o)) (_:o∈Bc) (_:FN n t) (_:∀ (w:V) (H':Hp),Aa H H'->Ad K H' (.list ((I_ t o 4).map λu=>wD (f u))) w->Q w H')
def pY:Ac ["worths"] ["worths"] (Ab CV):=bN
inductive EF (_:XK):Prop
 |mk (x:V) (r0 r1 r2 r3:R3) (_:vs=[x]) (_:Ad K H (.list [wD r0,wD r1,wD r2,wD r3]) x) (_:∀ (w:V) (H':Hp),Aa H H'->Ad K H' (IT r0 r1 r2 r3).d w->Q w H')
def cm:Ac ["goal","start","rows","size","tops","below","away","first","second","third","across"] ["goal","start","rows","size"] (Ab DL):=bN
inductive FO (_:XK):Prop
 |mk (x y z:V) (e:Q3) (r:R3) (s:S9) (_:vs=[x,y,z,↑s.det]) (_:Ad K H e.col x) (_:e.Bd 250) (_:Ad K H (wD r) y) (_:r.In 4000) (_:Ad K H s.d z) (_:s.In) (_:s.det≠0) (_:∀ (D:MF) (ws:List V) (H':Hp),Aa H H'->H' D=Z (.lst ws)->Af K H' (CF e r s).ds ws->Q ↥D H')
def j_:Ac ["far","falling"] ["far"] (Ab Dp):=bN
inductive Fk (_:XK):Prop
 |mk (a:MF) (ws:List V) (p:Q3) (_:vs=[↥a]) (_:H a=Z (.lst ws)) (_:Af K H p.ds ws) (_:p.Bd 3900) (_:∀ (H':Hp),Aa H H'->Q (.bl (IC p)) H')
def f8:Ac ["least","order","far","apart","numbers","way","distance"] ["least","order","far","apart"] (Ab DY):=bN
inductive FV (_:XK):Prop
 |mk (a b x:MF) (ws:List V) (t:Kn) (o:Pv) (p:Q3) (ap:Int) (_:vs=[↥a,↥b,↥x,↑ap]) (_:H a=Z (.tup (BQ t))) (_:t.1<64) (_:t.2.1<64) (_:t.2.2<64) (_:KT K b (BQ o)) (_:o∈Bc) (_:H x=Z (.lst ws)) (_:Af K H p.ds ws) (_:p.Bd 1035) (_:0<=ap) (_:ap<=60) (_:∀ (w:V) (H':Hp),Aa H H'->(Gz t o p ap).Bd 1060->Ad K H' (Gz t o p ap).col w->Q w H')
def cX:Ac ["grid","least","order","goal","worths","rows","size","far"] ["grid","least","order","goal"] (Ab CZ):=bN
inductive ED (_:XK):Prop
 |mk (v y:V) (a b:MF) (n:Nat) (f:X0) (t:Kn) (o:Pv) (e:Q3) (_:vs=[v,↥a,↥b,y]) (_:Bh K H n f v) (_:GM n f) (_:2<=n) (_:n<=7) (_:H a=Z (.tup (BQ t))) (_:KT K b (BQ o)) (_:o∈Bc) (_:FN n t) (_:Ad K H e.col y) (_:e.Bd 250) (_:(∀ H',Aa H H'->CB n f e (t,o)=none->Q .non H')) (_:∀ (c:Q3) (w:V) (H':Hp),Aa H H'->CB n f e (t,o)=Z c->c.Bd 1060->Ad K H' c.col w->Q w H')
def qY:Ac ["colours","scale"] ["colours"] (Ab B1):=bN
inductive HE (_:XK):Prop
 |mk (l:MF) (xs:Q4) (_:vs=[↥l]) (_:H l=Z (.lst (xs.map λp=>↥p.2))) (_:(∀ p∈xs,Ad K H p.1.col ↥p.2)) (_:(∀ p∈xs,p.1.Bd 1060)) (_:⇑xs<64) (_:F7 K "rising" H) (_:∀ (z:Int) (D:MF) (H':Hp),Lu xs z->Aa H H'->H' D=Z (.lst ((C6 z xs).map λp=>↥p.2))->Q ↥D H')
def eN:Ac ["grid","goal","found","least","order","colour"] ["grid","goal"] (Ab Ea):=bN
inductive FY (_:XK):Prop
 |mk (v y:V) (n:Nat) (f:X0) (e:Q3) (_:vs=[v,y]) (_:Bh K H n f v) (_:GM n f) (_:2<=n) (_:n<=3) (_:Ad K H e.col y) (_:e.Bd 250) (_:F7 K "rising" H) (_:∀ (z:Int) (xs:Q4) (D:MF) (H':Hp),Lu xs z->xs.map (·.1)=DG n f e (AM n)->HI K H' xs->(∀ p∈xs,p.1.Bd 1060)->⇑xs<64->Aa H H'->H' D=Z (.lst ((C6 z xs).map λp=>↥p.2))->Q ↥D H')
def wP:Ac uD9 uD9 (Ab FH):=bN
inductive E9 (_:XK):Prop
 |mk (v:V) (n:Nat) (f:X0) (_:vs=[v]) (_:Bh K H n f v) (_:GM n f) (_:2<=n) (_:n<=6) (_:∀ (H':Hp),Aa H H'->Q (.bl ((AM n).any λp=>decide ((Au f p).det=0))) H')
def vi:Ac j0 j0 (Ab EQ):=bN
inductive GC (_:XK):Prop
 |mk (x:V) (p:Pt) (_:vs=[x]) (_:Ad K H (Df p) x) (_:p.In) (_:∀ H',Aa H H'->Q (.bl true) H')
def rL:Ac uC4 uC4 (Ab DW):=bN
inductive FU (_:XK):Prop
 |mk (x y:V) (p q:Pt) (_:vs=[x,y]) (_:Ad K H (Df p) x) (_:Ad K H (Df q) y) (_:Q (.bl (decide (p.1<q.1)&&decide (p.2<=q.2))) H)
def rR:Ac j0 j0 (Ab DR):=bN
inductive FR (_:XK):Prop
 |mk (x:V) (ps:List Pt) (_:vs=[x]) (_:Ad K H (IV ps) x) (_:Ew ps) (_:∀ H',Aa H H'->Q (.bl true) H')
def hV:Ac ["pairs","at","k"] ["pairs","at"] (Ab Dx):=bN
inductive Ft (_:XK):Prop
 |mk (x y:V) (ps:List Pt) (a:Rat) (z:Pt) (_:vs=[x,y]) (_:Ad K H (IV ps) x) (_:Ad K H (rD a) y) (_:2<=⇑ps) (_:(∀ p∈ps,p.In)) (_:Bq 1200 a) (_:ps.getLast?=Z z) (_:a<=(z.1:Rat)) (_:∀ (v:V) (k:Nat) (p q:Pt) (H':Hp),Aa H H'->Hx ps a k p q->Ad K H' (.tuple [Df p,Df q]) v->Q v H')
def gj:Ac ["low","high","at","run","rise","top","below"] ["low","high","at"] (Ab FC):=bN
inductive GZ (_:XK):Prop
 |mk (x y z:V) (p q:Pt) (a:Rat) (_:vs=[x,y,z]) (_:Ad K H (Df p) x) (_:Ad K H (Df q) y) (_:Ad K H (rD a) z) (_:p.In) (_:q.In) (_:p.1<q.1) (_:Bq 1200 a) (_:Cs K H (Ep p q a) Q)
def jY:Ac ["self","points"] ["self","points"] (Ab Bu):=bN
inductive Cz (_:XK):Prop
 |mk (a C dx:MF) (x:V) (ps:List Pt) (_:vs=[↥a,x]) (_:Ay K "Curve" C) (_:H a=Z (.ins C dx [])) (_:Ad K H (IV ps) x) (_:Ew ps) (_:∀ H',Mv [a] H H'->BP K H' ps ↥a->(∀ T,AC H T->BP K (cut T H') ps ↥a)->Q .non H')
def mT:Ac uB3 uB3 (Ab Cw):=bN
inductive Es (_:XK):Prop
 |mk (v:V) (ps:List Pt) (z:Pt) (_:vs=[v]) (_:BP K H ps v) (_:ps.getLast?=Z z) (_:Q ↑z.1 H)
def fm:Ac ["self","place","low","high"] uC5 (Ab Cd):=bN
inductive DI (_:XK):Prop
 |mk (v x:V) (ps:List Pt) (a:Rat) (z:Pt) (_:vs=[v,x]) (_:BP K H ps v) (_:Ad K H (rD a) x) (_:Ew ps) (_:Bq 1200 a) (_:ps.getLast?=Z z) (_:0<=a) (_:a<=(z.1:Rat)) (_:∀ (w:V) (c:Rat) (H':Hp),Aa H H'->GU ps a c->Ad K H' (rD c) w->Q w H')
def mO:Ac uB3 uB3 (Ab Cp):=bN
inductive Ez (_:XK):Prop
 |mk (v:V) (ps:List Pt) (y z:Pt) (_:vs=[v]) (_:BP K H ps v) (_:ps[0]?=Z y) (_:ps.getLast?=Z z) (_:∀ u H',Aa H H'->Ad K H' (.tuple [↑y.2,↑z.2]) u->Q u H')
def cO:Ac ["self","value","first","final","low","high"] ["self","value"] (Ab Cq):=bN
inductive DA (E:XK):Prop
 |mk (v x:V) (ps:List Pt) (c:Rat) (y z:Pt) (_:vs=[v,x]) (_:BP K H ps v) (_:Ad K H (rD c) x) (_:Ew ps) (_:Bq 1200 c) (_:ps[0]?=Z y) (_:ps.getLast?=Z z) (_:(Jc y.2 z.2 (rD c)=true->∀ (w:V) (b:Rat) (H':Hp),Aa H H'->AU ps c b->Ad K H' (rD b) w->Q w H')) (_:(Jc y.2 z.2 (rD c)=false->Rz K 4 H E))
def jv:Ac uB3 uB3 (Ab Bo):=bN
inductive Co (_:XK):Prop
 |mk (v:V) (ps:List Pt) (_:vs=[v]) (_:BP K H ps v) (_:Ew ps) (_:∀ H',Aa H H'->Q (.bl (Ba ps)) H')
def kA:Ac uA9 uA9 (Ab AD):=bN
inductive C8 (_:XK):Prop
 |mk (a C dx:MF) (x y:V) (e:En) (_:vs=[↥a,x,y]) (_:Ay K "Ends" C) (_:H a=Z (.ins C dx [])) (_:Ad K H (AE false e.w) x) (_:Ad K H (AE false e.b) y) (_:e.In) (_:∀ H',Mv [a] H H'->A6 K H' e ↥a->Q .non H')
def pR:Ac uA4 uA4 (Ab CK):=bN
inductive E6 (_:XK):Prop
 |mk (v:V) (ps:List Pt) (y z:Pt) (most:Int) (_:vs=[v,↑most]) (_:BP K H ps v) (_:ps[0]?=Z y) (_:ps.getLast?=Z z) (_:z.1=60) (_:z.2<=most) (_:∀ H',Aa H H'->Q (.bl true) H')
def tu:Ac uA4 uA4 (Ab DZ):=bN
inductive FQ (_:XK):Prop
 |mk (l:MF) (ws:List V) (P:C3) (most:Int) (_:vs=[↥l,↑most]) (_:H l=Z (.lst ws)) (_:Bj K H P ws) (_:P.In most) (_:∀ H',Aa H H'->Q (.bl true) H')
def jZ:Ac uA4 uA4 (Ab BD):=bN
inductive CH (_:XK):Prop
 |mk (l:MF) (ws:List V) (P:C3) (most:Int) (_:vs=[↥l,↑most]) (_:H l=Z (.lst ws)) (_:Bj K H P ws) (_:P.In most) (_:∀ H',Aa H H'->Q .non H')
def j6:Ac j0 j0 (Ab Bs):=bN
inductive CJ (_:XK):Prop
 |mk (v:V) (e:En) (_:vs=[v]) (_:A6 K H e v) (_:Q .non H)
def lV:Ac ["curves"] ["curves"] (Ab B8):=bN
inductive DE (_:XK):Prop
 |mk (l:MF) (ws:List V) (P:C3) (most:Int) (_:vs=[↥l]) (_:H l=Z (.lst ws)) (_:Bj K H P ws) (_:P.In most) (_:∀ (D:MF) (us:List V) (H':Hp),Aa H H'->H D=none->H' D=Z (.lst us)->Bj K H' P us->(∀ T,AC H T->Bj K (cut T H') P us)->Q ↥D H')
def oh:Ac uC9 uC9 (Ab CS):=bN
inductive Fe (_:XK):Prop
 |mk (v:V) (e:En) (_:vs=[v]) (_:A6 K H e v) (_:e.In) (_:∀ (u:V) (H':Hp),Aa H H'->A6 K H' e u->Q u H')
def tF:Ac uD8 uD8 (Ab Ef):=bN
inductive F5 (_:XK):Prop
 |mk (l:MF) (x:V) (ws:List V) (P:C3) (most:Int) (c:Q3) (_:vs=[↥l,x]) (_:H l=Z (.lst ws)) (_:Bj K H P ws) (_:P.In most) (_:Ad K H c.col x) (_:c.Bd 1150) (_:c.Wi ((60:Int):Rat)) (_:∀ (r:Q3) (u:V) (H':Hp),Aa H H'->DD P c r->Ad K H' r.col u->Q u H')
def rY:Ac uB2 uB2 (Ab DU):=bN
inductive E_ (E:XK):Prop
 |mk (l:MF) (x:V) (ws:List V) (P:C3) (most:Int) (c:Q3) (_:vs=[↥l,x]) (_:H l=Z (.lst ws)) (_:Bj K H P ws) (_:P.In most) (_:Ad K H c.col x) (_:c.Bd 1200) (_:(AB P c=true->∀ (b:Q3) (u:V) (H':Hp),Aa H H'->B6 P c b->Ad K H' b.col u->Q u H')) (_:(AB P c=false->Rz K 4 H E))
def qL:Ac uB2 uB2 (Ab Dg):=bN
inductive Fv (_:XK):Prop
 |mk (l:MF) (x:V) (ws:List V) (P:C3) (most:Int) (c:Q3) (_:vs=[↥l,x]) (_:H l=Z (.lst ws)) (_:Bj K H P ws) (_:P.In most) (_:Ad K H c.col x) (_:c.Bd 1200) (_:∀ H',Aa H H'->Q (.bl (AB P c)) H')
def f6:Ac uA2 uA2 (Ab Al):=bN
inductive Br (_:XK):Prop
 |mk (a C dx l:MF) (x y:V) (ws:List V) (P:C3) (s:S9) (e:En) (_:vs=[↥a,↥l,x,y]) (_:Ay K "SquareProfile" C) (_:H a=Z (.ins C dx [])) (_:H l=Z (.lst ws)) (_:Bj K H P ws) (_:P.In 1000) (_:Ad K H s.d x) (_:s.In) (_:A6 K H e y) (_:e.In) (_:∀ H',Mv [a] H H'->(∀ T,AC H T->Gk K (cut T H') P s.cp e ↥a)->Q .non H')
def f9:Ac uB6 uB6 (Ab A1):=bN
inductive AG (_:XK):Prop
 |mk (v x:V) (P:C3) (s:S9) (e:En) (c:Q3) (_:vs=[v,x]) (_:Gk K H P s e v) (_:P.In 1000) (_:s.In) (_:Ad K H c.col x) (_:c.Wi ((60:Int):Rat)) (_:c.Bd 1150) (_:∀ (r:Q3) (u:V) (H':Hp),Aa H H'->DD P c r->Ad K H' (s.m.led r).col u->Q u H')
def fI:Ac uC6 uC6 (Ab AV):=bN
inductive Bb (E:XK):Prop
 |mk (v x:V) (P:C3) (s:S9) (e:En) (c:Q3) (_:vs=[v,x]) (_:Gk K H P s e v) (_:P.In 1000) (_:s.In) (_:Ad K H c.col x) (_:c.Bd 250) (_:(Em s P c=none->Rz K 4 H E)) (_:∀ w,Em s P c=Z w->w.Bd 1060->∀ (b:Q3) (u:V) (H':Hp),Aa H H'->B6 P w b->Ad K H' b.col u->Q u H')
def gN:Ac uA3 uA3 (Ab Ap):=bN
inductive BE (_:XK):Prop
 |mk (a C dx l:MF) (x y:V) (ws:List V) (P:C3) (f:X0) (e:En) (_:vs=[↥a,↥l,x,y]) (_:Ay K "GridProfile" C) (_:H a=Z (.ins C dx [])) (_:H l=Z (.lst ws)) (_:Bj K H P ws) (_:P.In 60) (_:Bh K H 2 f x) (_:GM 2 f) (_:A6 K H e y) (_:e.In) (_:∀ H',Mv [a] H H'->(∀ T,AC H T->Gh K (cut T H') P f e ↥a)->Q .non H')
def gM:Ac uB6 uB6 (Ab A5):=bN
inductive AL (_:XK):Prop
 |mk (v x:V) (P:C3) (f:X0) (e:En) (c:Q3) (k:Nat) (_:vs=[v,x]) (_:Gh K H P f e v) (_:P.In 60) (_:GM 2 f) (_:Ad K H c.col x) (_:c.Wi ((60:Int):Rat)) (_:c.Bd k) (_:k<=1150) (_:F7 K "parts_by_four" H) (_:∀ (r:Q3) (u:V) (H':Hp),Aa H H'->DD P c r->Ad K H' (W4 2 f r).col u->(W4 2 f r).Bd (4*k+137)->Q u H')
def cV:Ac ["self","worth","values"] uC6 (Ab A0):=bN
inductive Bl (E:XK):Prop
 |mk (v x:V) (P:C3) (f:X0) (e:En) (c:Q3) (_:vs=[v,x]) (_:Gh K H P f e v) (_:P.In 60) (_:GM 2 f) (_:Ad K H c.col x) (_:c.Bd 250) (_:F7 K "rising" H) (_:(∀ L,E7 f c L->L.find? (AB P)=none->Rz K 4 H E)) (_:∀ L w,E7 f c L->L.find? (AB P)=Z w->w.Bd 1060->∀ (b:Q3) (u:V) (H':Hp),Aa H H'->B6 P w b->Ad K H' b.col u->Q u H')
def t9:Ac uA5 uA5 (Ab Eh):=bN
inductive FZ (_:XK):Prop
 |mk (a:MF) (ns:List Int) (_:vs=[↥a]) (_:An K H a (ns.map V.int)) (_:⇑ns<=63) (_:∀ t r H',Aa H H'->H t=none->H r=none->Az H' t r->Q ↥t H')
def dh:Ac ["_law_town_here","_law_many","_law_row","_law_at","_law_cell","_law_mixed"] ["_law_town_here","_law_many"] (Ab DO):=bN
inductive FS (_:XK):Prop
 |mk (t r:MF) (many:Int) (_:vs=[↥t,↑many]) (_:Az H t r) (_:0<many) (_:Sm 8000 many) (_:∀ (d:Int) (H':Hp),0<=d->d<many->Az H' t r->Mv [t,r] H H'->Q ↑d H')
def tI:Ac uC1 uC1 (Ab D_):=bN
inductive FK (_:XK):Prop
 |mk (t r p:MF) (xs:List V) (_:vs=[↥t,↥p]) (_:Az H t r) (_:H p=Z (.lst xs)) (_:p≠t) (_:p≠r) (_:xs≠[]) (_:⇑xs<=1000) (_:∀ (i:Nat) (v:V) (H':Hp),xs[i]?=Z v->Az H' t r->Mv [t,r] H H'->Q v H')
def ql:Ac uA7 uA7 (Ab Ds):=bN
inductive Fo (_:XK):Prop
 |mk (x T) (_:vs=[x]) (_:Ty K H x T) (_:Q (.bl (Gd x)) H)
def b9:Ac ["_law_caught","_law_kinds","_law_words"] ["_law_caught"] (Ab Cj):=bN
inductive Eo (_:XK):Prop
 |mk (v:V) (_:vs=[v]) (_:KO K H 4 v) (_:∀ H',Aa H H'->Q (.str "back") H')
def gR:Ac ["_law_one","_law_two","_law_a","_law_b"] uB1 (Ab E3):=bN
inductive Gs (_:XK):Prop
 |mk (t b:Int) (_:vs=[↑t,↑b]) (_:b≠0) (_:Sm 8000 b) (_:Sh K H t b Q)
def qm:Ac uB1 uB1 (Ab Dj):=bN
inductive Fw (_:XK):Prop
 |mk (x y:V) (p q:Rat) (_:vs=[x,y]) (_:Ad K H (rD p) x) (_:Ad K H (rD q) y) (_:Bq 3900 p) (_:Bq 3900 q) (_:Q (.bl (decide (p<q))) H)
def ke:Ac ["_law_town_here","_law_cap","_law_below_here"] uA0 (Ab Dm):=bN
inductive Fu (_:XK):Prop
 |mk (t r:MF) (cap:Int) (_:vs=[↥t,↑cap]) (_:Az H t r) (_:0<cap) (_:cap<=1000) (_:∀ (v:V) (q:Rat) (H':Hp),Ad K H' (rD q) v->0<=q->q<=(cap:Rat)->Bq 17 q->Az H' t r->Mv [t,r] H H'->Q v H')
def gY:Ac ["_law_town_here","_law_found"] tR (Ab BV):=bN
inductive Dl (_:XK):Prop
 |mk (t r:MF) (_:vs=[↥t]) (_:Az H t r) (_:∀ (v:V) (n d:Int) (H':Hp),Ad K H' (F8 n d) v->Ok 12 n d->Az H' t r->Mv [t,r] H H'->Q v H')
def qu:Ac uA0 uA0 (Ab Dr):=bN
inductive Fi (_:XK):Prop
 |mk (t r:MF) (cap:Int) (_:vs=[↥t,↑cap]) (_:Az H t r) (_:0<cap) (_:cap<=1000) (_:∀ (v:V) (c:Q3) (H':Hp),Ad K H' c.col v->c.Wi cap->c.Bd 17->Az H' t r->Mv [t,r] H H'->Q v H')
def lG:Ac uA7 uA7 (Ab B'):=bN
inductive DK (_:XK):Prop
 |mk (x n d) (_:vs=[x]) (_:Ad K H (F8 n d) x) (_:Ok 8000 n d) (_:∀ H',Aa H H'->Q (.bl true) H')
def mf:Ac uA7 uA7 (Ab B7):=bN
inductive DJ (_:XK):Prop
 |mk (x:V) (c:Q3) (_:vs=[x]) (_:Ad K H c.col x) (_:c.Bd 3900) (_:∀ H',Aa H H'->Q (.bl true) H')
def bK:Ac ["_law_town_here","_law_last","_law_cap","_law_climbs","_law_size","_law_places","_law_values"] uB4 (Ab CQ):=bN
inductive Fa (_:XK):Prop
 |mk (t r:MF) (last cap:Int) (c:Bool) (_:vs=[↥t,↑last,↑cap,.bl c]) (_:Az H t r) (_:1<=last) (_:last<=1000) (_:1<=cap) (_:cap<=1000) (_:∀ (D:MF) (ps:List Pt) (z:Pt) (xs:List V) (H':Hp),H' D=Z (.lst xs)->Af K H' (ps.map Df) xs->Ew ps->ps.getLast?=Z z->z.1=last->z.2<=cap->D∉[t,r]->Az H' t r->Mv [t,r] H H'->Q ↥D H')
def eQ:Ac ["_law_town_here","_law_kind","_law_first_here","_law_cap"] tR (Ab CY):=bN
inductive EY (_:XK):Prop
 |mk (t r:MF) (_:vs=[↥t]) (_:Az H t r) (_:∀ (v:V) (s:S9) (H':Hp),Ad K (cut [t,r] H') s.d v->s.In->Az H' t r->Mv [t,r] H H'->Q v H')
def LC (d:NM):Prop:=∃ i:Int,d=↑i/\-4000<=i/\i<=4000
def xE {ds:List NM}(j:⇑ds=3)(h:∀ d∈ds,LC d):∃ r:R3,ds=r.ds/\r.In 4000:=by
 match ds,j,h with
 |[x,y,z],_,h=>
  obtain⟨a,rfl,g,f⟩:=h x zyA;obtain⟨b,rfl,i,e⟩:=h y zyA;obtain⟨c,rfl,c1,c2⟩:=h z zyA;show⟨⟨a,b,c⟩,U,g,f,i,e,c1,c2⟩
def cE:Ac ["_law_rows","_law_a","_law_b","_law_c","_law_one","_law_two"] ["_law_rows"] (Ab CW):=bN
inductive Cy (_:XK):Prop
 |mk (x:V) (s:S9) (_:vs=[x]) (_:Ad K H s.d x) (_:s.In) (_:Q ↑s.det H)
def bn:Ac ["_law_town_here","_law_size","_law_table","_law_kind","_law_rows","_law_a","_law_b","_law_c","_law_worth"] ["_law_town_here","_law_size"] (Ab Ek):=bN
inductive FX (_:XK):Prop
 |mk (t r:MF) (n:Nat) (_:vs=[↥t,↑n]) (_:Az H t r) (_:2<=n) (_:n<=7) (_:∀ (d:MF) (f:X0) (H':Hp),Hr K H' (As n) f d->GM n f->Az H' t r->Mv [t,r] H H'->H d=none->Q ↥d H')
structure R4 where
 w:Int
 x:Int
 y:Int
 z:Int
noncomputable def R4.ds (r:R4):List NM:=[↑r.w,↑r.x,↑r.y,↑r.z]
structure R4.In (r:R4):Prop where
 w0:0<=r.w
 w1:r.w<200
 x0:0<=r.x
 x1:r.x<90
 y0:0<=r.y
 y1:r.y<90
 z0:0<=r.z
 z1:r.z<90
def abm {K:KE}{H:Hp}{r:R4}{v:V}(h:Ad K H (.list r.ds) v):∃ a,v=↥a/\An K H a [↑r.w,↑r.x,↑r.y,↑r.z]:=by obtain⟨a,f,rfl,d,c⟩:=ay (b:=true) (ds:=r.ds) h;have e:f=[r.w,r.x,r.y,r.z].map V.int:=cn (ns:=[r.w,r.x,r.y,r.z]) c;subst e;show⟨a,U,d⟩
structure R3.Up (r:R3):Prop where
 a:0<=r.a
 b:0<=r.b
 c:0<=r.c
def afQ {ds:List NM}(f:⇑ds=3)(h:∀ d∈ds,∃ i:Int,d=↑i/\0<=i):∃ r:R3,ds=r.ds/\r.Up:=by
 match ds,f,h with
 |[x,y,z],_,h=>
  obtain⟨a,rfl,g⟩:=h x zyA;obtain⟨b,rfl,e⟩:=h y zyA;obtain⟨c,rfl,c1⟩:=h z zyA;show⟨⟨a,b,c⟩,U,g,e,c1⟩
structure B_ (K:KE)(t r d R:MF)(rs:NM)(H1:Hp)(ts:List Kn)(H':Hp):Prop where
 tw:Az H' t r
 mv:Mv [t,r,d] H1 H'
 rs:Ad K (cut [t,r] H') rs ↥R
 gr:∃ f,Hr K H' ts f d/\∀ u∈ts,(f u).Wt
def B_.same {K:KE}{t r d R:MF}{rs:NM}{e g c:Hp}{ts:List Kn}(h:B_ K t r d R rs e ts g)(s:Aa g c):B_ K t r d R rs e ts c:=
 ⟨h.tw.same s,h.mv\Mv.of s,Ad.same (Aa.cut s) h.rs,let ⟨f,a,b⟩:=h.gr;⟨f,a.same s,b⟩⟩
def B_.draw {K:KE}{t r d R:MF}{rs:NM}{e g c:Hp}{ts:List Kn}(h:B_ K t r d R rs e ts g)(i:Az c t r)(m:Mv [t,r] g c):B_ K t r d R rs e ts c:=
 ⟨i,h.mv\m.wide,Ad.same m.cut h.rs,let ⟨f,a,b⟩:=h.gr;⟨f,a.mv m h.tw.lists,b⟩⟩
def kK:Ac ["_law_town_here","_law_dark"] tR (Ab DN):=bN
inductive FT (_:XK):Prop
 |mk (t r:MF) (_:vs=[↥t]) (_:Az H t r) (_:∀ (v:V) (e:En) (H':Hp),Ad K H' (.tuple [AE false e.w,AE false e.b]) v->e.In->Az H' t r->Mv [t,r] H H'->Q v H')
def ou:Ac uA1 uA1 (Ab CU):=bN
inductive ET (_:XK):Prop
 |mk (t r:MF) (cap:Int) (c:Bool) (_:vs=[↥t,↑cap,.bl c]) (_:Az H t r) (_:1<=cap) (_:cap<=1000) (_:∀ (D:MF) (us:List V) (P:C3) (H':Hp),H D=none->H' D=Z (.lst us)->D∉[t,r]->Bj K (cut [t,r] H') P us->P.In cap->Az H' t r->Mv [t,r] H H'->Q ↥D H')
def bE:Ac ["_law_town_here","_law_bright","_law_dark","_law_edges","_law_curves_here","_law_square_here","_law_table"] tR (Ab Cu):=bN
structure LP (K:KE)(t r:MF)(P:C3)(b:X3)(e:En)(cl:MF)(us:List V)(pv sv dv:V)(H:Hp):Prop where
 tw:Az H t r
 nc:cl∉[t,r]
 hl:H cl=Z (.lst us)
 hc:Bj K (cut [t,r] H) P us
 hb:match b with
  |.inl s=>Gk K (cut [t,r,cl] H) P s.cp e pv/\Ad K (cut [t,r] H) s.d sv/\s.In/\P.In 1000
  |.inr f=>Gh K (cut [t,r,cl] H) P f e pv/\sv=.non/\(∃ d,dv=↥d/\Gr K H 2 f d)/\GM 2 f/\P.In 60
inductive Ey (_:XK):Prop
 |mk (t r:MF) (_:vs=[↥t]) (_:Az H t r) (_:∀ (Tp cl:MF) (us:List V) (P:C3) (b:X3) (e:En) (pv sv dv ev:V) (H':Hp),H' Tp=Z (.tup [pv,↥cl,sv,dv,ev])->LP K t r P b e cl us pv sv dv H'->Ad K H' (.tuple [AE false e.w,AE false e.b]) ev->e.In->Mv [t,r] H H'->Q ↥Tp H')
def de:Ac ["_law_profile_here","_law_worth","_law_caught","_law_told","e"] uD3 (Ab Eg):=bN
inductive F9 (_:XK):Prop
 |mk (v x:V) (P:C3) (b:X3) (e:En) (w:Q3) (_:vs=[v,x]) (_:IZ K H P b e v) (_:Ad K H w.col x) (_:w.Bd 250) (_:F7 K "rising" H) (_:(HQ b P w none->∀ H',Aa H H'->Q (.str "back") H')) (_:∀ c,HQ b P w (Z c)->c.Bd 1060->∀ (d:Q3) (u:V) (H':Hp),Aa H H'->B6 P c d->Ad K H' d.col u->Q u H')
def cA:Ac ["_law_grid_here","_law_curves_here","_law_worth","_law_inner","_law_within","_law_k","_law_low_here","_law_high"] uB7 (Ab Dk):=bN
inductive CT (_:XK):Prop
 |mk (v x:V) (cl:MF) (us:List V) (P:C3) (f:X0) (w:Q3) (_:vs=[v,↥cl,x]) (_:Bh K H 2 f v) (_:GM 2 f) (_:H cl=Z (.lst us)) (_:Bj K H P us) (_:P.In 60) (_:Ad K H w.col x) (_:w.Bd 250) (_:F7 K "rising" H) (_:(∀ L,E7 f w L->L.find? (AB P)=none->∀ H',Aa H H'->Q .non H')) (_:∀ L c,E7 f w L->L.find? (AB P)=Z c->∀ (u:V) (H':Hp),Aa H H'->Ad K H' c.col u->Q u H')
def dN:Ac ["_law_script","_law_town_here","_law_profile_here","_law_curves_here","_law_square_here","_law_table","_law_edges","_law_lame","_law_all_climb","_law_turn","_law_colour","_law_worth","_law_told","_law_inner"] uA5 (Ab CN):=bN
structure G6 (K:KE)(t r cl:MF)(P:C3)(b:X3)(e:En)(us:List V)(pv sv dv:V)(H:Hp):Prop where
 tw:Az H t r
 nc:cl∉[t,r]
 hl:H cl=Z (.lst us)
 h3:Bj K (cut [t,r] H) P us
 t4:F7 K "parts_by_four" H
 tr:F7 K "rising" H
 hp:IZ K (cut [t,r] H) P b e pv
 hb:match b with
  |.inl s=>Ad K (cut [t,r] H) s.d sv/\s.In
  |.inr f=>sv=.non/\∃ d,dv=↥d/\Gr K H 2 f d
section
variable {K:KE}{t r cl:MF}{P:C3}{b:X3}{e:En}{us:List V}{pv sv dv:V}{H H':Hp}
def G6.mv (h:G6 K t r cl P b e us pv sv dv H)(m:Mv [t,r] H H')(j:Az H' t r):G6 K t r cl P b e us pv sv dv H':=by
 obtain⟨a,g,k,o,u,l,i,c⟩:=h;refine⟨j,g,m _ _ k g,o.same m.cut,u.mv m a.lists,l.mv m a.lists,i.same m.cut,?_⟩;cases b with
 |inl s=>show⟨Ad.same m.cut c.1,c.2⟩
 |inr f=>
  obtain⟨p,d,n,q⟩:=c;show⟨p,d,n,q.mv m a.lists⟩
def G6.same (h:G6 K t r cl P b e us pv sv dv H)(s:Aa H H'):G6 K t r cl P b e us pv sv dv H':=h.mv (Mv.of s) (h.tw.same s)
def afi {d v:Q3}{i:Nat}(h:DD P d v)(e:i<3):GU (P.at i) (Aq d.a d.b d.c i) (Aq v.a v.b v.c i):=by
 match i,e with
 |0,_=>show h.1
 |1,_=>show h.2.1
 |2,_=>show h.2.2
def ab5 {d v:Q3}{i:Nat}(h:B6 P v d)(e:i<3):AU (P.at i) (Aq v.a v.b v.c i) (Aq d.a d.b d.c i):=by
 match i,e with
 |0,_=>show h.1
 |1,_=>show h.2.1
 |2,_=>show h.2.2
def yg {v:Q3}{i:Nat}{dd:NM}(h:v.ds[i]?=Z dd):i<3/\dd=rD (Aq v.a v.b v.c i):=by rcases j7 h with ⟨rfl,rfl⟩|⟨rfl,rfl⟩|⟨rfl,rfl⟩<;>show⟨O,rfl⟩
def G6.cv (h:G6 K t r cl P b e us pv sv dv H){i:Nat}(f:i<3):∃ a C c l z,us[i]?=Z ↥a/\BP K H (P.at i) ↥a/\Ay K "Curve" C/\H a=Z (.ins C c [("points",↥l)])/\Ew (P.at i)/\(P.at i).getLast?=Z z/\z.1=60:=by
 obtain⟨x,d⟩:∃ x,us[i]?=Z x:=⟨_,MC (by rw[h.h3.1];show f)⟩
 have g:=(h.h3.2 i x d).same cP;obtain⟨a,C,c,l,rfl,k,m,_⟩:=id g;obtain⟨o,_,z,_,n,j,_⟩:=h.hp.pin i f;show⟨a,C,c,l,z,d,g,k,m,o,n,j⟩
def aeJ {v w:Q3}(h:HQ b P w (Z v)):AB P v=true:=by
 cases b with
 |inl s=>
  unfold HQ Em at h;dsimp only at h
  split at h
  .cases h
   rename_i z
   show z.2
  .cases h
 |inr f=>
  obtain⟨L,_,e⟩:=h;show List.find?_some e.symm
end
section
variable {t r cl:MF}{P:C3}{b:X3}{e:En}{us:List V}{pv sv dv:V}{H H':Hp}
def yh {y:TE}{p:TA}{h:L2.St}{Q:VK}{c:Q3}{x:V}{k:Nat} (E:IZ K H P b e pv) (L:F7 K "parts_by_four" H) (G:∀ R:VK,R pv H->y h H R) (F:∀ R:List V->Hp->Prop,R [x] H->p h H R) (A:Ad K H c.col x) (wi:c.Wi ((60:Int):Rat)) (v:c.Bd k) (B:k <= 1150)
  (q:∀ (r:Q3) (u:V) (H':Hp),Aa H H'->DD P c r->Ad K H' (Jz b r).col u->(Jz b r).Bd (4*k+137)->Q u H'):
  Fx K "SquareProfile" "to_worth" AG [] E0 y p h H Q\/Fx K "GridProfile" "to_worth" AL [] E0 y p h H Q:=by
 cases b with
 |inl s=>
  obtain⟨g,D,d⟩:=E;obtain⟨a,C,t,l,vs,I,M,rfl,z,j,J⟩:=id g;show .inl (G _ ⟨a,C,t,_,U,z,j,U,F _ ⟨↥a,x,P,s.cp,e,c,U,g,d,D.cp,A,wi,v.mono B,λr u m n i o=>q r u m n i o ((wH (af9 D) (wg d i v)).mono Y)⟩⟩)
 |inr f=>
  obtain⟨g,D,d⟩:=E;obtain⟨a,C,t,l,vs,I,M,rfl,z,j,J⟩:=id g;show .inr (G _ ⟨a,C,t,_,U,z,j,U,F _ ⟨↥a,x,P,f,e,c,k,U,g,d,D,A,wi,v,B,L,λr u m n i o N=>q r u m n i o N⟩⟩)
def abR {M:Hp->Prop}{X:XK}{f:X0}{C g a d:MF} (k:Ay K "Grid" C) (j:H g=none) (h:H a=none) (b:a ≠ g) (r:Gr K H 2 f d) (m:GM 2 f) (q:∀ H',Aa H H'->Bh K H' 2 f ↥g->M H') :
  AS [↥g,↑2,↥d] (upd (upd H a (.own g)) g (.ins C a [])) (λv n=>v=.non/\M n) X:=by
 generalize l:upd (upd H a _) g _=x;have i:=uH j h b l;have t:=cW l;show⟨g,C,a,d,2,f,U,k,t,r.same i,m,O,O,λs L e c p u=>⟨U,q s (λy o z=>e _ _ (i _ _ z) λw=>by rw[Mu.mp w,j] at z;cases z) ⟨g,C,a,L,U,k,c,p⟩⟩⟩
def aeI {c:L2.St}{Q:VK} (V:G6 K t r cl P b e us pv sv dv H) (k:c[4]?=Z (Z sv)) (z:c[5]?=Z (Z dv)) (q:∀ H',Aa H H'->Q (.bl (Ig b)) H') :
  LR (DQ (HL (λx y H Q=>y=.non/\Q (.bl !decide (x=.non)) H) (BC 4) (tC .non))) (HL (HS λi j=>.bl (decide (i=j))) (DM Cy [] E0 (A4 (BC 4) Db)) (tC ↑0))
   (DM E9 [] E0 (A4 (Iv K "Grid" AS [] E0 (A4 (tC ↑2) (A4 (BC 5) Db))) Db)) c H Q:=by
 cases b with
 |inl s=>
  obtain⟨x,a,rfl,_⟩:=ay V.hb.1;show⟨_,k,U,_,U,aF ⟨_,k,_,s,U,Ad.uncut V.hb.1,V.hb.2,_,_,U,U,q _ (Aa.refl _)⟩⟩
 |inr f=>
  obtain⟨rfl,d,rfl,p⟩:=V.hb;have m:=V.hp.2.1;refine⟨_,k,U,_,U,aN ?_⟩;show⟨_,z,λC g B v u l a=>abR v u l a p m λA o h=>⟨↥g,2,f,U,h,m,O,O,λD n=>q _ (o\n)⟩⟩
def adB {h:L2.St}{M:X6}{v w:Q3}{D:MF}{F:V} (a:G6 K t r cl P b e us pv sv dv H) (h3:h[3]?=Z (Z ↥cl)) (T:h[4]?=Z (Z sv)) (h5:h[5]?=Z (Z dv)) (A:h[11]?=Z (Z F)) (B:h[13]?=Z (Z ↥D)) (hw:Ad K H w.col F) (bw:w.Bd 250) (E:Ad K H (.list v.ds) ↥D) (hv:HQ b P w (Z v)) (q:∀ H',Aa H H'->M false H') :
  Im (DQ (HL (λx y H Q=>y=.non/\Q (.bl (decide (x=.non))) H) (BC 4) (tC .non))) (DQ (HL (IQ K) (Lm (HR K) (A4 (BC 13) Db)) (DM CT [] E0 (A4 (Iv K "Grid" AS [] E0 (A4 (tC ↑2) (A4 (BC 5) Db))) (A4 (BC 3) (A4 (BC 11) Db)))))) h H M:=by
 cases b with
 |inl s=>
  obtain⟨x,k,rfl,_⟩:=ay a.hb.1;show⟨_,T,U,_,U,aN (q _ (Aa.refl _))⟩
 |inr f=>
  obtain⟨rfl,d,rfl,gr⟩:=a.hb;have N:=a.hp.2.1;obtain⟨L0,t0,X⟩:=hv;obtain⟨D',k,e1,hD,J⟩:=ay (b:=true) (ds:=v.ds) E;cases e1;refine⟨_,T,U,_,U,aF ⟨_,B,D,k,U,.inl ⟨hD,λp hp=>?_⟩⟩⟩;have j:=Aa.new (o:=.tup k) hp;have i:Ad K (upd H p (.tup k)) v.col ↥p:=Ad.tupN (ds:=v.ds) hp J;generalize upd H p (.tup k)=H1 at j i ⊢;refine⟨_,h5,λC g dx hC hg I n=>abR hC hg I n (gr.same j) N λH2 m z=>?_⟩;have l:=a.same (j\m);refine⟨_,h3,_,A,↥g,F,cl,us,P,f,w,U,z,N,l.hl,l.h3.same cP,l.hp.2.2,Ad.same (j\m) hw,bw,l.tr,λL G S=>?_,λL c G hf u H3 R hu=>?_⟩
  .rw[rf G t0,<- X] at S;cases S
  .rw[rf G t0,<- X] at hf;cases hf;show⟨v.col,v.col,Ad.same (m\R) i,hu,U,U,false,by rw[(jQ _ _).mpr rfl];rfl,q _ (j.trans m\R)⟩
def afr {g:L2.St}{M:X6}{c d v w:Q3}{cv A u:V} (a:G6 K t r cl P b e us pv sv dv H) (I:g[2]?=Z (Z pv)) (p:g[4]?=Z (Z sv)) (C:g[8]?=Z (Z (.bl (Fc P)))) (j:g[10]?=Z (Z cv)) (l:g[11]?=Z (Z A)) (m:g[12]?=Z (Z u)) (B:Ad K H c.col cv) (wi:c.Wi ((60:Int):Rat)) (F:c.Bd 17) (hw:Ad K H w.col A) (G:Ad K H d.col u) (h:HQ b P w (Z v)) (D:B6 P v d) (q:∀ H',Aa H H'->M false H') :
  Im (DQ (HL (λx y H Q=>y=.non/\Q (.bl !decide (x=.non)) H) (BC 4) (tC .non))) (Im (tB (BC 8)) (Im (DQ (HL (JM K) (BC 11) λg H Q=>Fx K "SquareProfile" "to_worth" AG [] E0 (BC 2) (A4 (BC 10) Db) g H Q\/Fx K "GridProfile" "to_worth" AL [] E0 (BC 2) (A4 (BC 10) Db) g H Q)) (DQ (HL (IQ K) (BC 12) (BC 10))))) g H M:=by
 cases b with
 |inr f=>
  obtain⟨rfl,_⟩:=a.hb;show⟨_,p,U,_,U,aN (q _ (Aa.refl _))⟩
 |inl s=>
  obtain⟨x,T,rfl,_⟩:=ay a.hb.1;refine⟨_,p,U,_,U,aF ⟨_,C,Fc P,U,dg (λE=>?_) (λ_=>q _ (Aa.refl _))⟩⟩;refine⟨_,l,yh (a.hp.same cP) a.t4 (λR k=>⟨_,I,k⟩) (λR k=>⟨_,j,k⟩) B wi F O λN S L i n o _=>?_⟩;refine⟨w.col,_,Ad.same i hw,o,U,U,_,U,dg (λJ=>?_) (λ_=>q _ i)⟩;obtain rfl:=(jQ _ _).mp J;unfold HQ Em Jz at h;dsimp only at h
  split at h
  .rename_i z
   rw[um z.1] at h;cases h;obtain rfl:=wj a.hp.pin E D n wi;show⟨_,m,_,j,d.col,d.col,Ad.same i G,Ad.same i B,U,U,false,by rw[(jQ _ _).mpr rfl];rfl,q _ i⟩
  .cases h
end
variable [T:LM K mg w]
def fH:Am 1 "is_whole" j0 [] Ge:=by
  refine AK.cal T.x16.g u_<<<λi h=>?_;obtain⟨x,S,rfl,ty,q⟩:=h;refine⟨_,((ag (ao (cZ (aq (iT Θ) (by rfl) T.x0 aw (aL (pv 0) (bO (v:=.ty "int") U T.xq acC rfl))) (fg (pV (aq (iT Θ) (by rfl) T.x0 aw (aL (pv 0) (bO (v:=.ty "bool") U T.xo xU rfl))))))))),?_⟩;obtain⟨b,d,a⟩:=ab1 ty;refine⟨_,U,_,_,_,b,U,ty,d,b,U,?_⟩;cases b with
  |false=>
   refine aN ?_;rw[show Gd x=false from a] at q;show q
  |true=>
   obtain⟨c,f,e⟩:=(show ∃ c,Bx S "bool"=Z c/\Gd x=!c from a)
   refine aF ⟨_,U,_,_,_,c,U,ty,f,c,U,?_⟩;rw[e] at q;show q
def dQ:Am 2 "is_whole_within" uD0 [] Dd:=by
  refine AK.cal T.x17.g kD<<<λj h=>?_;obtain⟨x,d,l,m,rfl,c,q⟩:=h;refine⟨_,((ag (ao (cZ (af am fH j (aJ (pv 0))) (fg (ul mF mF (pv 1) (pv 0) (pv 2))))))),_,U,_,_,U,c.ty,_,U,?_⟩;cases c with
  |int i=>
   refine aF ⟨_,U,_,U,_,_,U,U,decide (l<=i),U,dg (λa=>?_) (λa=>?_)⟩
   .refine⟨_,U,_,_,U,U,?_⟩;have q:Q (.bl (decide (l<=i)&&decide (i<=m))) H:=q;rw[a,T8] at q;show q
   .have a:decide (l<=i)=false:=by simpa using a
    have q:Q (.bl (decide (l<=i)&&decide (i<=m))) H:=q;rw[a,Pg] at q;show q
  |non=>show aN q
  |bl b=>show aN q
  |str z=>show aN q
  |lst e f=>show aN q
  |tup e f=>show aN q
  |dct e=>show aN q
def dP:Am 3 "is_tuple_within" uC0 [] C0:=by
  refine AK.cal T.x18.g kG<<<λA h=>?_;obtain⟨x,ns,n,l,m,rfl,u,rfl,C,q⟩:=h;refine⟨_,((ac (aQ (PW.pt (dS (aO (aM (aq (iT Θ) (by rfl) T.x0 aw (aL (pv 0) (bO (v:=.ty "tuple") U T.x2 aZ rfl))))) (dw (aG iQ (aq (fF Θ) (by rfl) T.x4 cS (aJ (pv 0))) (pv 1) (aA _))))) (ag (ao eF)) aE)
   (ag (ao (aq (iW Θ U) (by rfl) T.x8 fM (aJ (az ["number"] ["least","most"] [2,3] 1 (aY Θ (pv 0)) (λy=>(ah 0 y)) ax (af am dQ A (ai (pv 0) (ai (pv 1) (ai (pv 2) aH))))))))))),_,U,_,_,_,true,U,u.ty,(show Bx "tuple" "tuple"=Z true by decide +kernel),_,U,aN ?_⟩
  obtain⟨a,I,rfl,p,o⟩:=ay (b:=false) u;have j:=⇑o;rw[Mq] at j;refine⟨_,U,a,_,U,ic p,_,U,_,_,U,U,false,by change V.bl (!decide ((⇑I:Int)=⇑ns))=_;rw[MB Y];rfl,aN (⟨_,U,a,false,U,⟨_,p⟩,jk (f:=λd=>.bool (IB l m d)) p o (by rw[Mq];show C) (λi d x r J t s R G S=>?_) (λF r t c D z=>?_)⟩)⟩
  .show aF (B:=S r) ⟨_,U,_,U,_,U,x,d,l,m,U,s,G _ _ ⟨Aa.refl _,.bl _⟩⟩
  .have c:Af K r (((ns.map O7).map (IB l m)).map Qt) F:=by rw[OD];show c
   have e:=c6 c;subst e;refine⟨D,_,U,An.of ae,?_⟩;have e:((ns.map O7).map (IB l m)).all id=ns.all λk=>decide (l<=k)&&decide (k<=m):=by
    rw[OD,List.all_map];rfl
   rw[e];show q _ (t\Aa.new z)
def fU:Am 1 "greatest_measure" oR [] CG:=by
  refine AK.cal T.x19.g du<<<λp h=>?_;obtain⟨a,b,rfl,q⟩:=h;refine⟨_,((ac (oU (i:=0) (j:=1) U du.nd rfl rfl O U U (aL (aq uE (by rfl) T.xm acE (aJ (pv 0))) (aq uE (by rfl) T.xm acE (aJ (pv 1)))) U)
   (ac (oi NO (aG qZ (pv 1) aa (aA _)) (ag (oU (i:=0) (j:=1) U du.nd rfl rfl O U U (aL (pv 1) (au jw (pv 0) (pv 1))) U)))
   (ag (ao (pv 0)))))),_,U,_,U,_,U,_,U,_,_,U,λm f k=>∃ x y:Int,f=[Z ↑x,Z ↑y]/\k=H/\0<=x/\0<=y/\Os x y=Os a b/\m=y.toNat,⟨_,_,_,U,U,?_,?_,?_,U⟩,?_⟩
  .split<;>lia
  .split<;>lia
  .rw[xC]
  .rintro m f k ⟨x,y,rfl,rfl,o,n,l,rfl⟩;refine⟨_,U,_,_,U,U,_,U,dg (λc=>?_) (λc=>?_)⟩
   .have c:=N1 c;refine⟨_,λ_ _ z=>z,_,U,_,U,_,U,_,_,U,U,c,_,_,U,?_⟩;have d:=O5 x c;show⟨(x%y).toNat,Y,y,x%y,U,U,n,PQ x (show y≠0 by lia),by rw[vp o c];show l,U⟩
   .have c:¬ (0<y):=λz=>c (MB z)
    have d:y=0:=Y
    subst d;refine⟨_,U,?_⟩;have e:x=(Os a b:Int):=by
     rw[<- l,V1];lia
    rw[e];show q
def gW:Am 2 "is_share" j0 [] GG:=by
  refine AK.cal T.x1a.g jr<<<λj h=>?_;obtain⟨x,d,rfl,A,q⟩:=h;refine⟨_,((ac (aQ (PW.pt (dS (aO (aM (aq (iT Θ) (by rfl) T.x0 aw (aL (pv 0) (bO (v:=.ty "tuple") U T.x2 aZ rfl))))) (dw (aG iQ (aq (fF Θ) (by rfl) T.x4 cS (aJ (pv 0))) aa (aA _))))) (ag (ao eF)) aE)
   (ac (dA (pv 0) (bJ (n:=2) Θ U (aj (ah 1 jr.nd) (aj (ah 2 jr.nd) aK))))
   (ac (aQ (PW.pt (dS (aO (aM (af am fH j (aJ (pv 1))))) (dS (aO (aM (af am fH j (aJ (pv 2))))) (dw (aG n5 (pv 2) aa (aA _)))))) (ag (ao eF)) aE)
   (ag (ao (bh bY (af am fU j (aL (pv 1) (pv 2))) aa (aA _)))))))),?_⟩
  cases A with
  |non=>show⟨_,U,_,_,_,false,U,.non,zyB,_,U,aF (aF q)⟩
  |bl b=>show⟨_,U,_,_,_,false,U,.bl b,zyB,_,U,aF (aF q)⟩
  |int i=>show⟨_,U,_,_,_,false,U,↑i,zyB,_,U,aF (aF q)⟩
  |str z=>show⟨_,U,_,_,_,false,U,.str z,zyB,_,U,aF (aF q)⟩
  |dct c=>show⟨_,U,_,_,_,false,U,.dK c,(show Bx "dict" "tuple"=Z false by decide +kernel),_,U,aF (aF q)⟩
  |lst c f=>show⟨_,U,_,_,_,false,U,(Ad.lst c f).ty,(show Bx "list" "tuple"=Z false by decide +kernel),_,U,aF (aF q)⟩
  |@tup p o ds c f=>
   refine⟨_,U,_,_,_,true,U,.tup c,zyB,_,U,aN (⟨_,U,p,o,U,.inr (AZ.of c),_,_,U,U,_,U,?_⟩)⟩;have D:=⇑f;refine dg (λa=>?_) (λa=>?_)
   .have a:¬ ((⇑o:Int)=2):=of_decide_eq_false (by simpa using a);have e:shB (.tuple ds)=false:=acV Y;rw[e] at q;show q
   .have a:(⇑o:Int)=2:=by simpa using a
    cases f with
    |nil=>simp at a
    |@cons F s _ _ k y=>
     cases y with
     |nil=>simp at a
     |@cons G r _ _ l C=>
      cases C with
      |cons _ _=>simp at a;lia
      |nil=>
       refine⟨_,U,p,_,U,AZ.of c,U,_,_,U,_,_,U,U,_,U,_,_,U,k.ty,_,U,dg (λa=>?_) (λa=>?_)⟩
       .refine aF ?_;have e:Gd s=false:=by simpa using a
        rw[afZ k e] at q;show q
       .have u:Gd s=true:=by simpa using a
        refine⟨_,U,_,_,U,l.ty,_,U,dg (λa=>?_) (λa=>?_)⟩
        .refine aF ?_;have e:Gd r=false:=by simpa using a
         rw[af3 l e] at q;show q
        .have t:Gd r=true:=by simpa using a
         obtain⟨n,rfl,rfl⟩:=xA k u;obtain⟨m,rfl,rfl⟩:=xA l t;refine⟨_,U,_,_,U,U,_,U,?_⟩;have e:shB (F8 n m)=(decide (1<=m)&&decide (Os n m=1)):=U;refine dg (λa=>?_) (λa=>?_)
         .have a:m<1:=N1 a;rw[e,Na (show ¬ (1<=m) by lia)] at q;show q
         .have a:¬ (m<1):=of_decide_eq_false (by simpa using a);refine⟨_,U,_,U,n,m,U,_,_,U,U,?_⟩;rw[e,MB (show 1<=m by lia),T8] at q;have B:decide ((Os n m:Int)=1)=decide (Os n m=1):=by
           by_cases z:Os n m=1
           .rw[MB z,MB Y]
           .rw[Na z,Na Y]
          change Q (.bl (decide ((Os n m:Int)=1))) H;rw[B];show q
def bS:Am 3 "refuse_no_share" j0 [] Da:=by refine AK.cal T.x1b.g ku<<<λb h=>?_;obtain⟨x,d,rfl,a,c,q⟩:=h;refine⟨_,((ag (aQ (aO (aM (af am gW b (aJ (pv 0))))) (ag bG) aE))),_,U,x,d,U,a,_,U,?_⟩;rw[c];show aN q
def bB {c:List V} (D:AK K mg "share" Bp uA8 c):Am 2 "share" uA8 c Gq:=by
  refine D.cal oS<<<λg h=>?_;obtain⟨t,b,rfl,d,j,q⟩:=h;refine⟨_,((ac (aQ (PW.pt (dS (aO (aM (af am fH g (aJ (pv 0))))) (dw (aO (aM (af am fH g (aJ (pv 1)))))))) (ag bG) aE)
   (ac (aQ (aG bY (pv 1) aa (aA _)) (ag bG) aE)
   (ac (av 2 oS.nd (af am fU g (aL (pv 0) (pv 1))))
   (ac (aQ (aG n5 (pv 1) aa (aA _)) (ag (av 2 oS.nd (xO tT (pv 2)))) aE)
   (ag (ao (aV (aL (au c5 (pv 0) (pv 2)) (au c5 (pv 1) (pv 2))))))))))),_,U,_,_,U,↑t,_,U,aN (⟨_,U,_,_,U,↑b,_,U,aN (⟨_,U,_,_,U,U,_,U,dg (λa=>absurd (N1 a) d) (λ_=>(⟨_,U,_,U,t,b,U,_,U,_,_,U,U,_,U,?_⟩))⟩)⟩)⟩
  have e:Sm 8000 (Os t b:Int):=j.le (abF d);have i:(Os t b:Int)≠0:=by
   have:=Qj t d;lia
  refine dg (λa=>?_) (λa=>?_)
  .have a:=N1 a;show⟨_,U,_,U,_,U,_,U,_,_,U,U,⟨Y,e.neg⟩,_,U,_,U,_,_,U,U,⟨Y,e.neg⟩,iX,λp f=>q _ _ _ _ (Aa.new f) (ji ae) (vG d rfl (by rw[M' a]))⟩
  .have a:¬ (b<0):=λz=>a (MB z)
   show⟨_,U,_,U,_,_,U,U,⟨i,e⟩,_,U,_,U,_,_,U,U,⟨i,e⟩,iX,λp f=>q _ _ _ _ (Aa.new f) (ji ae) (vG d rfl (by rw[MZ a]))⟩
def u9:Am 4 "added" oR [] Ia:=by
  refine AK.cal T.x1c.g abV<<<λp h=>?_;obtain⟨x,y,n,d,m,e,rfl,s,r,f,k,q⟩:=h;obtain⟨a,rfl,l⟩:=aU s;obtain⟨b,rfl,o⟩:=aU r;refine⟨_,((ac (bg (af am bS p (aJ (pv 0))))
   (ac (bg (af am bS p (aJ (pv 1))))
   (ag (ao (af am (bB T.xe) p (aL (au bZ (au aD (ak K (pv 0) aa) (ak K (pv 1) aa)) (au aD (ak K (pv 1) aa) (ak K (pv 0) aa))) (au aD (ak K (pv 0) aa) (ak K (pv 1) aa))))))))),_,U,_,_,U,s,f.shB,_,U,_,_,U,r,k.shB,?_⟩
  have c:∀ {i j:Int},Sm 3900 i->Sm 3900 j->DX i j:=λu t=>.inl ⟨u.mono O,t.mono O⟩
  show⟨_,U,dD l ⟨_,U,cB o ⟨_,_,U,U,c f.sn k.sd,⟨_,U,dD o ⟨_,U,cB l ⟨_,_,U,U,c k.sn f.sd,_,_,U,U,⟨_,U,cB l ⟨_,U,cB o ⟨_,_,U,U,c f.sd k.sd,⟨_,_,U,OK f.ne k.ne,(f.sd.mul k.sd).mono O,q⟩⟩⟩⟩⟩⟩⟩⟩⟩⟩
def kf:Am 4 "multiplied" oR [] Fs:=by
  refine AK.cal T.x1d.g qD<<<λl h=>?_;obtain⟨x,y,n,d,m,e,rfl,r,p,f,k,q⟩:=h;obtain⟨a,rfl,o⟩:=aU r;obtain⟨b,rfl,s⟩:=aU p;refine⟨_,((ac (bg (af am bS l (aJ (pv 0))))
   (ac (bg (af am bS l (aJ (pv 1))))
   (ag (ao (af am (bB T.xe) l (aL (au aD (ak K (pv 0) aa) (ak K (pv 1) aa)) (au aD (ak K (pv 0) aa) (ak K (pv 1) aa))))))))),_,U,_,_,U,r,f.shB,_,U,_,_,U,p,k.shB,?_⟩
  have c:∀ {i j:Int},Sm 3900 i->Sm 3900 j->DX i j:=λu t=>.inl ⟨u.mono O,t.mono O⟩
  show⟨_,U,dD o ⟨_,U,dD s ⟨_,_,U,U,c f.sn k.sn,⟨_,U,cB o ⟨_,U,cB s ⟨_,_,U,U,c f.sd k.sd,⟨_,_,U,OK f.ne k.ne,(f.sd.mul k.sd).mono O,q⟩⟩⟩⟩⟩⟩⟩
def uq:Am 4 "floor_of" ["one"] [] GH:=by
  refine AK.cal T.x1e.g u6<<<λf h=>?_;obtain⟨x,n,d,rfl,c,b,q⟩:=h;obtain⟨a,rfl,e⟩:=aU c;show⟨_,((ac (bg (af am bS f (aJ (pv 0))))
   (ag (ao (au c5 (ak K (pv 0) aa) (ak K (pv 0) aa)))))),_,U,_,_,U,c,b.shB,_,U,dD e ⟨_,U,cB e ⟨_,_,U,U,⟨b.ne,b.sd.mono O⟩,q⟩⟩⟩
def pC:Am 1 "is_less" oR [] GO:=by
  refine AK.cal T.x1f.g wC<<<λs h=>?_;obtain⟨x,y,p,r,rfl,m,l,f,k,q⟩:=h;obtain⟨a,rfl,d⟩:=aU m;obtain⟨b,rfl,e⟩:=aU l;refine⟨_,((ag (ao (bh n5 (au aD (ak K (pv 0) aa) (ak K (pv 1) aa)) (au aD (ak K (pv 1) aa) (ak K (pv 0) aa)) (aA _))))),?_⟩;have c:∀ {i j:Int},Sm 3900 i->Sm 3900 j->DX i j:=λo n=>.inl ⟨o.mono O,n.mono O⟩
  refine⟨_,U,dD d ⟨_,U,cB e ⟨_,_,U,U,c f.sn k.sd,⟨_,U,dD e ⟨_,U,cB d ⟨_,_,U,U,c k.sn f.sd,_,_,U,U,?_⟩⟩⟩⟩⟩⟩;rw[show decide (p<r)=decide (p.num*(r.den:Int)<r.num*(p.den:Int)) from UC.mpr (Rat.lt_iff p r)] at q;show q
def yK:Am 5 "sum_of" ["many"] [] Hz:=by
  refine AK.cal T.x1g.g jM<<<λA h=>?_;obtain⟨x,k,b,rs,rfl,I,y,L,C,q⟩:=h;obtain⟨a,xs,rfl,D,j⟩:=ay I;have B:=⇑j;rw[Mq] at B;refine⟨_,((ac (av 1 jM.nd (af am (bB T.xc) A (aJ aa)))
   (ac (fj NO rfl (aY Θ (pv 0)) (ah 2 jM.nd) (ag (av 1 jM.nd (af am u9 A (aL (pv 1) (pv 2))))))
   (ag (ao (pv 1)))))),0,1,U,O,by unfold Sm;decide,λv n d X s M R=>?_⟩
  obtain⟨rfl,rfl⟩:=kr O R (acp 1);have f:=AF.same s D;refine⟨_,U,a,k,U,⟨_,f⟩,iO (λi l u=>∃ v p,l=[Z ↥a,Z v,p]/\Aa X u/\Ad K u (rD (Hu (rs.take i))) v)
   ⟨_,_,U,Aa.refl _,M⟩ (λi l t z ⟨_,_,_,e,_⟩=>AF.same e f) ?_ ?_⟩
  .rintro i w l t G ⟨v,p,rfl,e,c⟩;obtain⟨d,F,S⟩:=(Af.same (s\e) j).get G;obtain⟨r,o,rfl⟩:=rV F;have z:=(Mp.mp o).1;refine⟨_,U,_,U,_,_,_,_,_,_,U,c,S,((yt y i Y).mono ?_),(y r (MD o)).mono L,Cs.add λJ H5 N m=>?_⟩
   .show M1 (Nat.add_le_add_right (Vw _ (N4 z)) 1) C
   .show⟨J,_,U,e\N,by rw[bD o,qN];show m⟩
  .rintro l t ⟨v,p,rfl,e,c⟩;rw[<- B,Qf] at c;show⟨_,U,q _ _ (s\e) c⟩
def ge:Am 1 "is_within" uD5 [] FW:=by
  refine AK.cal T.x1h.g sO<<<λi h=>?_;obtain⟨x,p,l,m,rfl,c,f,d,e,q⟩:=h;obtain⟨a,rfl,b⟩:=aU c;refine⟨_,((ag (ao (ul mF mF (au aD (pv 1) (ak K (pv 0) aa)) (ak K (pv 0) aa) (au aD (pv 2) (ak K (pv 0) aa)))))),_,U,_,U,cB b ⟨_,_,U,U,.inr (d.mono O),_,U,dD b ⟨_,_,U,U,_,U,?_⟩⟩⟩;cases hc:decide (l*(p.den:Int)<=p.num) with
  |true=>
   rw[hc,T8] at q;show aF ⟨_,U,_,U,cB b ⟨_,_,U,U,.inr (e.mono O),_,_,U,U,q⟩⟩
  |false=>
   rw[hc,Pg] at q;show aN q
def gX:Am 1 "over_one_below" ["numbers"] [] Do:=by
  refine AK.cal T.x1i.g cU<<<λhr h=>?_;obtain⟨x,k,b,rs,rfl,hx,o,l5,b7,lb,q⟩:=h;obtain⟨a,xs,rfl,l,c⟩:=ay hx;have M:=⇑c;rw[Mq] at M;refine⟨_,((ac (av 1 cU.nd aa)
   (ac (fj NO rfl (aY Θ (pv 0)) (ah 2 cU.nd) (ag (abB (i:=1) cU.nd rfl (by first|show Or.inl rfl|show Xp rfl) (ak K (pv 2) aa) afc)))
   (ag (ao (aV (aL (az ["top","part"] ["below"] [1] 2 (aY Θ (pv 0)) (λz=>(bJ (n:=2) Θ U (aj (ah 0 z) (aj (ah 1 z) aK)))) ax (au aD (pv 0) (au c5 (pv 2) (pv 1)))) (pv 1)))))))),?_⟩
  refine⟨_,U,a,k,U,⟨_,l⟩,iO (λi j N=>∃ s,j=[Z ↥a,Z ↑(AX (rs.take i)),s]/\N=H)
   ⟨_,U,U⟩ (λi j A I ⟨_,_,e⟩=>e▸l) ?_ ?_⟩
  .rintro i w j A p ⟨s,rfl,rfl⟩;obtain⟨d,m,v⟩:=c.get p;obtain⟨r,f,rfl⟩:=rV m;have I:=(Mp.mp f).1;have y:i*b<=⇑rs*b:=Vw _ (N4 I);obtain⟨t,rfl,hw⟩:=aU v;refine⟨_,U,_,U,cB hw ⟨_,_,U,U,.inl ⟨((ij o i Y).2).mono Y,(o r (MD f)).sd.mono Y⟩,Z ↥t,?_,U⟩⟩;rw[bD f,oE];rfl
  .rintro j A ⟨s,rfl,rfl⟩;rw[<- M,Qf];obtain⟨B0,G⟩:=ij o ⇑rs (Mz _);rw[Qf] at B0 G;refine⟨_,U,a,k,U,⟨_,l⟩,aW (es:=rs.map λr=>↑(ov (AX rs) r)) l c zyA (by simp;lia) (λi d e u J v C L X R kk S=>?_) (λzs J L p D F=>?_)⟩
   .obtain⟨r,f,rfl⟩:=rV v;rw[Mw,f] at C;cases C;obtain⟨t,rfl,hw⟩:=aU X;have k2:=o r (MD f);have dp:=k2.pos;have m:(AX rs).fdiv (r.den:Int)=AX rs/(r.den:Int):=OR _ Y;refine⟨t,_,U,AZ.of hw,U,_,_,U,_,_,U,U,aF (B:=S J) (⟨_,U,_,U,_,U,_,_,U,U,⟨Y,k2.sd.mono Y⟩,_,_,U,U,.inl ⟨k2.sn.mono Y,?_⟩,kk _ _ ⟨Aa.refl _,?_⟩⟩)⟩
    .rw[m];have e1:AX rs/(r.den:Int)<=AX rs:=Int.ediv_le_self _ Y;have y:0<=AX rs/(r.den:Int):=UU Y Y;show(show Sm _ _ from by unfold Sm at G ⊢;lia:Sm (⇑rs*b+1) (AX rs/(r.den:Int))).mono Y
    .rw[m];show .int _
   .refine⟨_,U,iX,λT y=>?_⟩;show q _ _ (L.trans (Aa.new F)\Aa.new y) (Ad.tupN y (.cons (Ad.listN F p) (.cons ↑_ .nil)))
def lq:Am 3 "is_colour" j0 [] FP:=by
  refine AK.cal T.x1j.g rP<<<λy h=>?_;obtain⟨x,p,r,t,rfl,o,q⟩:=h;refine⟨_,((ag (ao (cZ (aq (iT Θ) (by rfl) T.x0 aw (aL (pv 0) (bO (v:=.ty "tuple") U T.x2 aZ rfl))) (cZ (bh bY (aq (fF Θ) (by rfl) T.x4 cS (aJ (pv 0))) aa (aA _)) (fg (aq (iW Θ U) (by rfl) T.x8 fM (aJ (az ["number"] [] [] 1 (aY Θ (pv 0)) (λs=>(ah 0 s)) ax (af am gW y (aJ (pv 0)))))))))))),_,U,_,_,_,true,U,o.ty,(show Bx "tuple" "tuple"=Z true by decide +kernel),_,U,aF ?_⟩;obtain⟨a,G,rfl,k,j⟩:=ay (b:=false) o;refine⟨_,U,a,_,U,ic k,_,_,U,U,true,lj (by rw[<- ⇑j];rfl),aF ?_⟩;have sh:∀ z:Rat,shB (rD z)=true:=λz=>(show Ok (z.num.natAbs+z.den) z.num z.den from⟨by have:=z.den_pos;lia,z.reduced,by unfold Sm;show MK (Q6) (PP O (Qg _ _)),by unfold Sm;show MK (Q6) (PP O (Nat.le_add_left _ _))⟩).shB
  refine⟨_,U,a,false,U,⟨_,k⟩,jk (f:=λd=>.bool (shB d)) k j (O:3<=1000) (λi d x l F n m R C S=>?_) (λA l n c D u=>?_)⟩
  .show aF (B:=S l) ⟨_,U,x,d,U,m,C _ _ ⟨Aa.refl _,.bl _⟩⟩
  .have c:Af K l (([rD p,rD r,rD t].map shB).map Qt) A:=by rw[OD];show c
   have e:=c6 c;subst e;refine⟨D,_,U,An.of ae,?_⟩;have e:([rD p,rD r,rD t].map shB).all id=true:=by
    change(shB (rD p)&&(shB (rD r)&&(shB (rD t)&&true)))=true;rw[sh p,sh r,sh t];rfl
   rw[e];show q _ (n\Aa.new u)
def zY:Am 3 "is_row" j0 [] HH:=by
  refine AK.cal T.x1k.g zd<<<λhr h=>?_;obtain⟨x,k,r,rfl,L,o,q⟩:=h;refine⟨_,((ac (aQ (PW.pt (dS (aO (aM (aq (ww Θ) (by rfl) T.x0 aw (aL (pv 0) (aV (aL (bO (v:=.ty "list") U T.xa eO rfl) (bO (v:=.ty "tuple") U T.x2 aZ rfl))))))) (dw (aG iQ (aq (fF Θ) (by rfl) T.x4 cS (aJ (pv 0))) aa (aA _))))) (ag (ao eF)) aE)
   (ag (ao (aq (iW Θ U) (by rfl) T.x8 fM (aJ (az ["number"] [] [] 1 (aY Θ (pv 0)) (λI=>(ah 0 I)) ax (af am dQ hr (ai (pv 0) (ai (xO tT (cM rfl T.xj)) (ai (cM rfl T.xj) aH))))))))))),_,U,iX,λp hp=>?_⟩
  have u:Aa H (upd H p (.tup [.ty "list",.ty "tuple"])):=Aa.new hp;generalize y:upd H p _=H1 at u ⊢;have s:H1 p=Z (.tup [.ty "list",.ty "tuple"]):=by rw[<- y];show ae
  have l:=Ad.same u L;obtain⟨T',ty,C⟩:=aaU l;refine⟨_,_,p,_,_,true,U,ty,s,C,_,U,aN ?_⟩;obtain⟨a,rfl,J⟩:=cN l;refine⟨_,U,a,_,U,ic J,_,_,U,U,_,U,aN ?_⟩;obtain⟨a',xs,F,m,t⟩:=ay l;cases F;refine⟨_,U,a,k,U,⟨_,m⟩,jk (f:=λd=>.bool (IB (-4000) 4000 d)) m t (O:3<=1000) (λi d x n hd A z R kk S=>?_) (λys n A j D N=>?_)⟩
  .show aF (B:=S n) ⟨_,U,_,U,x,d,-4000,4000,U,z,kk _ _ ⟨Aa.refl _,.bl _⟩⟩
  .have j:Af K n ((r.ds.map (IB (-4000) 4000)).map Qt) ys:=by rw[OD];show j
   have e:=c6 j;subst e;refine⟨D,_,U,An.of ae,?_⟩;have e:(r.ds.map (IB (-4000) 4000)).all id=true:=by
    obtain⟨X,M,b1,G,c1,c2⟩:=o;change((decide (-4000<=r.a)&&decide (r.a<=4000))&&((decide (-4000<=r.b)&&decide (r.b<=4000))&&((decide (-4000<=r.c)&&decide (r.c<=4000))&&true)))=true;rw[MB X,MB M,MB b1,MB G,MB c1,MB c2];rfl
   rw[e];show q _ (u.trans A\Aa.new N)
def tS:Am 4 "is_square" j0 [] F0:=by
  refine AK.cal T.x1l.g tD<<<λhr h=>?_;obtain⟨x,sq,rfl,M,c,q⟩:=h;refine⟨_,((ag (ao (cZ (aq (ww Θ) (by rfl) T.x0 aw (aL (pv 0) (aV (aL (bO (v:=.ty "list") U T.xa eO rfl) (bO (v:=.ty "tuple") U T.x2 aZ rfl))))) (cZ (bh bY (aq (fF Θ) (by rfl) T.x4 cS (aJ (pv 0))) aa (aA _)) (fg (aq (iW Θ U) (by rfl) T.x8 fM (aJ (az ["row"] [] [] 1 (aY Θ (pv 0)) (λL=>(ah 0 L)) ax (af am zY hr (aJ (pv 0)))))))))))),_,U,iX,λp X=>?_⟩;have u:Aa H (upd H p (.tup [.ty "list",.ty "tuple"])):=Aa.new X;generalize A:upd H p _=H1 at u ⊢;have t:H1 p=Z (.tup [.ty "list",.ty "tuple"]):=by rw[<- A];show ae
  have o:=Ad.same u M;obtain⟨T',ty,J⟩:=aaU o;refine⟨_,_,p,_,_,true,U,ty,t,J,_,U,aF ?_⟩;obtain⟨a,xs,rfl,r,m⟩:=ay o;refine⟨_,U,a,_,U,ic r,_,_,U,U,true,lj (by rw[<- ⇑m];rfl),aF (⟨_,U,a,sq.k,U,⟨_,r⟩,jk (f:=λ_=>.bool true) r m (O:3<=1000) (λi d x F b I j R C S=>?_) (λys F I s D N=>?_)⟩)⟩
  .refine aF (B:=S F) ⟨_,U,?_⟩
   match i,b with
   |0,b=>cases(Mn b);show⟨x,_,_,U,j,c.x,λG l=>C _ _ ⟨l,.bl _⟩⟩
   |1,b=>cases(Mn b);show⟨x,_,_,U,j,c.y,λG l=>C _ _ ⟨l,.bl _⟩⟩
   |2,b=>cases(Mn b);show⟨x,_,_,U,j,c.z,λG l=>C _ _ ⟨l,.bl _⟩⟩
   |n+3,b=>simp[S9.rows] at b
  .have e:=c6 (bs:=[true,true,true]) s;subst e;show⟨D,[true,true,true],U,An.of ae,q _ (u.trans I\Aa.new N)⟩
def dk:Am 5 "refuse_no_square" j0 [] CA:=by refine AK.cal T.x1m.g j8<<<λd h=>?_;obtain⟨x,sq,rfl,c,a,q⟩:=h;show⟨_,((ag (aQ (aO (aM (af am tS d (aJ (pv 0))))) (ag bG) aE))),_,U,x,sq,U,c,a,λe b=>⟨_,U,aN (q _ b)⟩⟩
def cC:Am 4 "refuse_no_colour" j0 [] CC:=by refine AK.cal T.x1n.g j5<<<λc h=>?_;obtain⟨x,p,r,t,rfl,b,q⟩:=h;show⟨_,((ag (aQ (aO (aM (af am lq c (aJ (pv 0))))) (ag bG) aE))),_,U,x,p,r,t,U,b,λd a=>⟨_,U,aN (q _ a)⟩⟩
def dM:Am 1 "crossed" oR [] GJ:=by
  refine AK.cal T.x1o.g wU<<<λt h=>?_;obtain⟨x,y,k,j,r,z,rfl,m,l,d,s,q⟩:=h;obtain⟨a,rfl,e⟩:=cN m;obtain⟨b,rfl,f⟩:=cN l;refine⟨_,((ag (ao (a_ (ai (au bI (au aD (ak K (pv 0) aa) (ak K (pv 1) aa)) (au aD (ak K (pv 0) aa) (ak K (pv 1) aa))) (ai (au bI (au aD (ak K (pv 0) aa) (ak K (pv 1) aa)) (au aD (ak K (pv 0) aa) (ak K (pv 1) aa))) (ai (au bI (au aD (ak K (pv 0) aa) (ak K (pv 1) aa)) (au aD (ak K (pv 0) aa) (ak K (pv 1) aa))) aH))))))),?_⟩;have c:∀ {u v:Int},-4000<=u->u<=4000->DX u v:=λo n=>.inr ((gO o n).mono O)
  show⟨_,U,fE e rfl ⟨_,U,fE f rfl ⟨_,_,U,U,c d.b1 d.b2,_,U,fE e rfl ⟨_,U,fE f rfl ⟨_,_,U,U,c d.c1 d.c2,_,_,U,U,⟨_,U,fE e rfl ⟨_,U,fE f rfl ⟨_,_,U,U,c d.c1 d.c2,_,U,fE e rfl ⟨_,U,fE f rfl ⟨_,_,U,U,c d.a1 d.a2,_,_,U,U,⟨_,U,fE e rfl ⟨_,U,fE f rfl ⟨_,_,U,U,c d.a1 d.a2,_,U,fE e rfl ⟨_,U,fE f rfl ⟨_,_,U,U,c d.b1 d.b2,_,_,U,U,⟨sX,λp i=>q _ _ (Aa.new i) (Ad.listN i (.cons ↑_ (.cons ↑_ (.cons ↑_ .nil))))⟩⟩⟩⟩⟩⟩⟩⟩⟩⟩⟩⟩⟩⟩⟩⟩
def rW:Am 1 "whole_sum" uD7 [] FJ:=by
  refine AK.cal T.xt.g lr<<<λhr h=>?_;obtain⟨x,y,k,j,r,z,rfl,hx,hy,l,o,q⟩:=h;obtain⟨a,xs,rfl,J,G⟩:=ay hx;obtain⟨b,ys,rfl,M,A⟩:=ay hy;have m:∀ {u v:Int},-4000<=u->u<=4000->-200000000<=v->v<=200000000->Sm 60 (u*v):=λh1 h2 h3 h4=>((gO h1 h2).mul (show Sm 28 _ by unfold Sm;lia)).mono O
  refine⟨_,((ag (ao (aq (afC Θ U) (by rfl) T.xi vQ (aJ (az ["part","number"] [] [] 2 (fX Θ U T.x7 (aL (pv 0) (pv 1))) (λL=>(bJ (n:=2) Θ U (aj (ah 0 L) (aj (ah 1 L) aK)))) ax (au aD (pv 0) (pv 1)))))))),_,U,_,U,a,b,k,j,U,⟨_,J⟩,⟨_,M⟩,dX (fs:=(R3.mk (r.a*z.a) (r.b*z.b) (r.c*z.c)).ds) J M G A rfl rfl (O:3<=1000) (λi d e f u v T N hd p C X s F hT R I S=>?_) (λzs N X t D hD=>?_)⟩
  .refine⟨T,_,U,AZ.of hT,U,_,_,U,_,_,U,U,aF (B:=S N) ?_⟩;rcases j7 hd with ⟨rfl,rfl⟩|⟨rfl,rfl⟩|⟨rfl,rfl⟩
   .cases(Mn p);cases(Mn C);cases s;cases F;show⟨_,U,_,U,_,_,U,U,.inr ((gO l.a1 l.a2).mono O),I _ _ ⟨Aa.refl _,↑_⟩⟩
   .cases(Mn p);cases(Mn C);cases s;cases F;show⟨_,U,_,U,_,_,U,U,.inr ((gO l.b1 l.b2).mono O),I _ _ ⟨Aa.refl _,↑_⟩⟩
   .cases(Mn p);cases(Mn C);cases s;cases F;show⟨_,U,_,U,_,_,U,U,.inr ((gO l.c1 l.c2).mono O),I _ _ ⟨Aa.refl _,↑_⟩⟩
  .cases dY t;show⟨D,_,_,_,U,An.of ae,m l.a1 l.a2 o.a1 o.a2,m l.b1 l.b2 o.b1 o.b2,m l.c1 l.c2 o.c1 o.c2,q _ (X\Aa.new hD)⟩
def i7:Am 1 "whole_sum" uD7 [] EV:=by
  refine AK.cal T.xt.g lr<<<λhr h=>?_;obtain⟨a,b,k,j,ns,C,rfl,o,s,I,h10,sn,sm,q⟩:=h;refine⟨_,((ag (ao (aq (abz Θ U) (by rfl) T.xi vQ (aJ (az ["part","number"] [] [] 2 (fX Θ U T.x7 (aL (pv 0) (pv 1))) (λp=>(bJ (n:=2) Θ U (aj (ah 0 p) (aj (ah 1 p) aK)))) ax (au aD (pv 0) (pv 1)))))))),_,U,_,U,a,b,k,j,U,⟨_,o⟩,⟨_,s⟩,dX (fs:=(Qs (·*·) ns C).map O7) o s (gx ns) (gx C) (by simp[I]) (by simp[I]) (by simp;lia) (λi d e g x y T v u r t F N M L R kk S=>?_) (λzs v F l D X=>?_)⟩
  .rw[Mw] at u r t;obtain⟨n,G,rfl⟩:=MG.mp u;obtain⟨m,J,rfl⟩:=MG.mp r;obtain⟨z,A,rfl⟩:=MG.mp t;rw[Se] at A;obtain⟨n',m',c,f,rfl⟩:=A;rw[G] at c;rw[J] at f;cases c;cases f;cases N;cases M;show⟨T,_,U,AZ.of L,U,_,_,U,_,_,U,U,aF (B:=S v) ⟨_,U,_,U,_,_,U,U,.inl ⟨sn _ (MD G),sm _ (MD J)⟩,kk _ _ ⟨Aa.refl _,↑_⟩⟩⟩
  .have e:=cn l;subst e;show⟨D,_,U,An.of ae,q _ (F\Aa.new X)⟩
def lC:Am 6 "share_sum" ["row","colour"] [] Dz:=by
  refine AK.cal T.x1p.g ue<<<λj h=>?_;obtain⟨x,y,k,p,c,rfl,hx,hy,m,l,q⟩:=h;obtain⟨a,xs,rfl,G,F⟩:=ay hx;obtain⟨b,ys,rfl,J,z⟩:=ay (b:=false) hy;refine⟨_,((ag (ao (af am yK j (aJ (az ["part","number"] [] [] 2 (fX Θ U T.x7 (aL (pv 0) (pv 1))) (λI=>(bJ (n:=2) Θ U (aj (ah 0 I) (aj (ah 1 I) aK)))) ax (af am kf j (aL (pv 0) (pv 1))))))))),_,U,_,U,a,b,k,false,U,⟨_,G⟩,⟨_,J⟩,dX (fs:=(Q3.mk (p.a*c.a) (p.b*c.b) (p.c*c.c)).ds) G J F z rfl rfl (O:3<=1000) (λi d e f u v T M hd s A N hu hv X R kk S=>?_) (λzs M N t D L=>?_)⟩
  .refine⟨T,_,U,AZ.of X,U,_,_,U,_,_,U,U,aF (B:=S M) ?_⟩;obtain⟨P,C,rfl,rfl,rfl,bP,bC⟩:∃ P C:Rat,d=rD P/\e=rD C/\f=rD (P*C)/\Bq 60 P/\Bq 1200 C:=by
    rcases j7 hd with ⟨rfl,rfl⟩|⟨rfl,rfl⟩|⟨rfl,rfl⟩
    .cases(Mn s);cases(Mn A);show⟨_,_,U,U,U,m.a,l.a⟩
    .cases(Mn s);cases(Mn A);show⟨_,_,U,U,U,m.b,l.b⟩
    .cases(Mn s);cases(Mn A);show⟨_,_,U,U,U,m.c,l.c⟩
   show⟨_,U,_,U,_,_,_,_,_,_,U,hu,hv,bP.mono O,bC.mono O,Cs.mul λv4 H4 s4 o=>kk _ _ ⟨s4,o⟩⟩
  .refine⟨↥D,true,1260,[p.a*c.a,p.b*c.b,p.c*c.c],U,Ad.listN L t,λr j=>?_,O,by change 3*(1260+1)+1<=3900;decide,λv5 H5 s5 o=>q v5 H5 (N.trans (Aa.new L)\s5) o⟩;rcases MA.mp j with rfl|j
   .show m.a.mul l.a
   .rcases MA.mp j with rfl|j
    .show m.b.mul l.b
    .cases Mu.mp j;show m.c.mul l.c
def lR:Am 6 "volume" ["square"] [] Hy:=by
  refine AK.cal T.x1q.g zU<<<λf h=>?_;obtain⟨x,sq,rfl,j,b,q⟩:=h;refine⟨_,((ac (bg (af am dk f (aJ (pv 0))))
   (ag (ao (af am rW f (aL (ak K (pv 0) aa) (af am dM f (aL (ak K (pv 0) aa) (ak K (pv 0) aa))))))))),_,U,x,sq,U,j,b,λA k=>?_⟩
  obtain⟨a,C,rfl,c,d⟩:=ay (Ad.same k j);obtain⟨s,t,r,rfl,n,p,m⟩:=b_ d;refine⟨_,U,fE c rfl ⟨_,U,fE c rfl ⟨_,U,fE c rfl ⟨t,r,_,_,sq.y,sq.z,U,p,m,b.y,b.z,λv u i o=>⟨s,v,_,true,sq.x,sq.y.cross sq.z,U,Ad.same i n,o,b.x,?_,λB l=>?_⟩⟩⟩⟩⟩
  .show dF b.y b.z
  .have e:sq.x.dot (sq.y.cross sq.z)=sq.det:=by
    simp only[R3.dot,R3.cross,S9.det];grind
   rw[e];show q _ (k.trans i\l)
def aeM:Am 7 "led" uB9 [] Jh:=by
  refine AK.cal T.x1r.g afe<<<λL h=>?_;obtain⟨x,y,sq,c,rfl,hx,j,hy,bc,q⟩:=h;refine⟨_,((ac (bg (af am dk L (aJ (pv 0))))
   (ac (bg (af am cC L (aJ (pv 1))))
   (ag (ao (aS (c9 Θ) (by rfl) T.x2 aZ (aJ (az ["row"] ["colour"] [1] 1 (aY Θ (pv 0)) (λN=>(ah 0 N)) ax (af am lC L (aL (az ["part"] [] [] 1 (aY Θ (pv 0)) (λN=>(ah 0 N)) ax (af am (bB T.xe) L (aL (pv 0) (cM rfl T.xk)))) (pv 1))))))))))),_,U,x,sq,U,hx,j,λH1 s1=>⟨_,U,y,c.a,c.b,c.c,U,Ad.same s1 hy,λH2 s2=>?_⟩⟩
  have p:=s1\s2;obtain⟨a,xs,rfl,ha,hds⟩:=ay (Ad.same p hx);have u13:Sm 13 (1000:Int):=by unfold Sm;decide
  have row:∀ (k:Bool) (r:R3),r.In 4000->∀ (v:V) (o:Hp) (X:VK),Ad K o (AE k r) v->Ad K o c.col y->Cs K o (Gy r.q c) X ->
    DM Dz [] E0 (A4 (Hq (Jm K (BC 0)) (Gg 0) JU (DM Gq [] E0 (A4 (BC 0) (A4 (tC ↑1000) Db))) (GS 1 [])) (A4 (BC 1) Db)) [Z v,Z y] o X:=λk r ir v o X hv hc hq=>by
   obtain⟨b,ys,rfl,hb,s⟩:=ay hv;refine⟨_,U,b,k,U,⟨_,hb⟩,aW (es:=r.q.ds) hb s rfl (O:3<=1000) (λi d e u H4 hd F s4 G R J S=>?_) (λzs H4 s4 hzs D A=>?_)⟩
   .refine aF (B:=S H4) ?_;rcases j7 hd with ⟨rfl,rfl⟩|⟨rfl,rfl⟩|⟨rfl,rfl⟩<;>(cases G;cases(Mn F);show⟨_,rfl,_,_,rfl,O,u13.mono O,Cs.sh O λI C n f=>J _ _ ⟨n,f⟩⟩)
   .show⟨_,U,↥D,y,true,r.q,c,U,Ad.listN A hzs,Ad.same (s4\Aa.new A) hc,(xQ ir).mono O,bc,λI C n f=>hq I C (s4.trans (Aa.new A)\n) f⟩
  refine⟨_,U,a,sq.k,U,⟨_,ha⟩,aW (es:=(sq.m.led c).ds) ha hds rfl (O:3<=1000) (λi d e u o hd F M G R J S=>?_) (λys o M s D A=>?_)⟩
  .refine aF (B:=S o) ?_;have t:=Ad.same M (Ad.same p hy);rcases j7 hd with ⟨rfl,rfl⟩|⟨rfl,rfl⟩|⟨rfl,rfl⟩
   .cases(Mn F);show row _ _ j.x _ _ _ G t λI C n f=>J _ _ ⟨n,f⟩
   .cases(Mn F);show row _ _ j.y _ _ _ G t λI C n f=>J _ _ ⟨n,f⟩
   .cases(Mn F);show row _ _ j.z _ _ _ G t λI C n f=>J _ _ ⟨n,f⟩
  .show⟨D,ys,U,.inl ⟨An.of ae,λl t=>q _ _ (p.trans M\(Aa.new A\Aa.new t)) (Ad.tupN t (Af.same (Aa.new A) s))⟩⟩
def qy:Am 7 "way_back" ["square"] [] Fn:=by
  refine AK.calX T.x1s.g dW<<<λhr h=>?_;obtain⟨x,sq,rfl,hx,b,hz,q⟩:=h;refine⟨_,((ac (av 1 dW.nd (af am lR hr (aJ (pv 0))))
   (ac (aQ (aG bY (pv 1) aa (aA _)) (ag (oZ Θ jN rfl rfl rfl (tH T.x5 (i:=4) U) (aJ c7))) aE)
   (ac (dA (pv 0) (vf (n:=3) Θ U (aj (ah 2 dW.nd) (aj (ah 3 dW.nd) (aj (ah 4 dW.nd) aK)))))
   (ac (av 5 dW.nd (a_ (ai (af am dM hr (aL (pv 3) (pv 4))) (ai (af am dM hr (aL (pv 4) (pv 2))) (ai (af am dM hr (aL (pv 2) (pv 3))) aH)))))
   (ag (ao (az ["k"] ["columns","size"] [5,1] 1 (aR rfl T.x1 (aJ aa)) (λnd=>(ah 0 nd)) ax (az ["column"] ["k","size"] [0,2] 1 (aY Θ (pv 1)) (λnd=>(ah 0 nd)) ax (af am (bB T.xe) hr (aL (au aD (cM rfl T.xk) (ak K (pv 0) (pv 1))) (pv 2)))))))))))),_,U,x,sq,U,hx,b,λH1 s1=>⟨_,U,_,_,U,U,_,U,dg (λhc=>?_) (λhc=>?_)⟩⟩
  .show⟨le1,(hz (N1 hc)).now s1 rfl⟩
  have v:sq.det≠0:=λz=>hc (MB z)
  obtain⟨a,xs,rfl,ha,hds⟩:=ay (Ad.same s1 hx);obtain⟨x0,x1,x2,rfl,g0,g1,g2⟩:=b_ hds;refine⟨_,U,a,_,U,ic ha,U,_,_,U,_,_,U,_,_,U,U,_,U,_,U,x1,x2,_,_,sq.y,sq.z,U,g1,g2,b.y,b.z,λA H2 G h0=>⟨_,U,_,U,x2,x0,_,_,sq.z,sq.x,U,Ad.same G g2,Ad.same G g0,b.z,b.x,λJ H3 s3 h1=>⟨_,U,_,U,x0,x1,_,_,sq.x,sq.y,U,Ad.same (G\s3) g0,Ad.same (G\s3) g1,b.x,b.y,λN M s4 h2=>⟨sX,λC hC=>?_⟩⟩⟩⟩;have sC:Aa M (upd M C (.lst [A,J,N])):=Aa.new hC;have p:Af K (upd M C (.lst [A,J,N])) [AE true sq.c0,AE true sq.c1,AE true sq.c2] [A,J,N]:=.cons (Ad.same (s3.trans s4\sC) h0) (.cons (Ad.same (s4\sC) h1) (.cons (Ad.same sC h2) .nil));have j:AF K (upd M C (.lst [A,J,N])) C [A,J,N] true:=An.of ae;have s5:=s1.trans G\(s3.trans s4\sC);generalize upd M C _=H5 at p j s5 ⊢;have t:Sm 64 (1000:Int):=by unfold Sm;decide
  have sd:=(tM b).mono (show 60<=8000 by decide);refine⟨3,U,O,O,cJ (ds:=[.list sq.back.x.ds,.list sq.back.y.ds,.list sq.back.z.ds]) U O (λi d H6 hd6 m R o S=>(aF (B:=S H6) ⟨_,U,C,true,U,⟨_,AF.same m j⟩,?_⟩)) (λzs H6 m c D l=>(q v) _ _ (s5\(m\Aa.new l)) (Ad.listN l c))⟩;rcases j7 hd6 with ⟨rfl,rfl⟩|⟨rfl,rfl⟩|⟨rfl,rfl⟩
  .refine aW (es:=sq.back.x.ds) (AF.same m j) (Af.same m p) U (O:3<=1000) (λi d e u s k X r L R o S=>(aF (B:=S s) ?_)) (λzs s r c D l=>o _ _ ⟨r\Aa.new l,Ad.listN l c⟩);rcases j7 k with ⟨rfl,rfl⟩|⟨rfl,rfl⟩|⟨rfl,rfl⟩<;>(cases(Mn X);obtain⟨g,rfl,F⟩:=cN L;show⟨_,rfl,_,rfl,fE (i:=0) F rfl ⟨_,_,rfl,rfl,.inr t,_,rfl,_,_,rfl,v,sd,Cs.sh v λv8 H8 I f=>o _ _ ⟨I,f⟩⟩⟩)
  .refine aW (es:=sq.back.y.ds) (AF.same m j) (Af.same m p) U (O:3<=1000) (λi d e u s k X r L R o S=>(aF (B:=S s) ?_)) (λzs s r c D l=>o _ _ ⟨r\Aa.new l,Ad.listN l c⟩);rcases j7 k with ⟨rfl,rfl⟩|⟨rfl,rfl⟩|⟨rfl,rfl⟩<;>(cases(Mn X);obtain⟨g,rfl,F⟩:=cN L;show⟨_,rfl,_,rfl,fE (i:=1) F rfl ⟨_,_,rfl,rfl,.inr t,_,rfl,_,_,rfl,v,sd,Cs.sh v λv8 H8 I f=>o _ _ ⟨I,f⟩⟩⟩)
  .refine aW (es:=sq.back.z.ds) (AF.same m j) (Af.same m p) U (O:3<=1000) (λi d e u s k X r L R o S=>(aF (B:=S s) ?_)) (λzs s r c D l=>o _ _ ⟨r\Aa.new l,Ad.listN l c⟩);rcases j7 k with ⟨rfl,rfl⟩|⟨rfl,rfl⟩|⟨rfl,rfl⟩<;>(cases(Mn X);obtain⟨g,rfl,F⟩:=cN L;show⟨_,rfl,_,rfl,fE F rfl ⟨_,_,rfl,rfl,.inr t,_,rfl,_,_,rfl,v,sd,Cs.sh v λv8 H8 I f=>o _ _ ⟨I,f⟩⟩⟩)
def qp:Am 8 "led_back" uB9 [] Fq:=by
  refine AK.calX T.x1t.g mH<<<λC h=>?_;obtain⟨x,y,sq,c,rfl,hx,k,J,t,qz,q⟩:=h;refine⟨_,((ac (av 2 mH.nd (nI (IN.g jN rfl) qy (C.mono O) U (aJ (pv 0))))
   (ac (bg (af am cC C (aJ (pv 1))))
   (ag (ao (aS (c9 Θ) (by rfl) T.x2 aZ (aJ (az ["row"] ["colour"] [1] 1 (aY Θ (pv 2)) (λnd=>(ah 0 nd)) ax (af am lC C (aL (pv 0) (pv 1))))))))))),_,U,x,sq,U,hx,k,λh=>(qz h).out (Aa.refl _),λX vb H1 F hb=>?_⟩
  replace q:=q X;refine⟨_,U,y,c.a,c.b,c.c,U,Ad.same F J,λH2 p=>?_⟩;obtain⟨a,xs,rfl,I,A⟩:=ay (b:=true) (Ad.same p hb);have bb:=su k X;refine⟨_,U,a,true,U,⟨_,I⟩,aW (es:=(sq.back.led c).ds) I A rfl (O:3<=1000) (λi d e u H3 n r o s R G S=>?_) (λys H3 o v D M=>?_)⟩
  .refine aF (B:=S H3) ?_;have j:=Ad.same o (Ad.same (F\p) J);rcases j7 n with ⟨rfl,rfl⟩|⟨rfl,rfl⟩|⟨rfl,rfl⟩
   .cases(Mn r);show⟨_,U,_,U,u,y,true,sq.back.x,c,U,s,j,bb.x,t,λN L m f=>G _ _ ⟨m,f⟩⟩
   .cases(Mn r);show⟨_,U,_,U,u,y,true,sq.back.y,c,U,s,j,bb.y,t,λN L m f=>G _ _ ⟨m,f⟩⟩
   .cases(Mn r);show⟨_,U,_,U,u,y,true,sq.back.z,c,U,s,j,bb.z,t,λN L m f=>G _ _ ⟨m,f⟩⟩
  .show⟨D,ys,U,.inl ⟨An.of ae,λl f=>q _ _ ((F\p).trans o\(Aa.new M\Aa.new f)) (Ad.tupN f (Af.same (Aa.new M) v))⟩⟩
def uZ:Am 3 "is_knots" j0 [] Gf:=by refine AK.cal T.x1u.g vo<<<λb h=>?_;obtain⟨x,d,rfl,a,q⟩:=h;show⟨_,((ag (ao (af am dQ b (ai (pv 0) (ai (cM rfl T.xv) (ai (cM rfl T.x10) aH))))))),_,U,x,d,2,7,U,a,q⟩
def pE:Am 4 "is_knot" uB5 [] GP:=by refine AK.cal T.x1v.g vI<<<λb h=>?_;obtain⟨x,ns,n,rfl,a,c,q⟩:=h;show⟨_,((ag (ao (af am dP b (ai (pv 0) (ai aa (ai aa (ai (au bI (pv 1) aa) aH)))))))),_,U,_,U,_,_,U,U,x,ns,3,0,n-1,U,a,Y,Y,q⟩
def i5:Am 4 "is_worth" j0 [] Gx:=by refine AK.cal T.x1w.g ut<<<λb h=>?_;obtain⟨x,ns,rfl,a,c,q⟩:=h;show⟨_,((ag (ao (af am dP b (ai (pv 0) (ai aa (ai aa (ai (cM rfl T.xz) aH)))))))),_,U,x,ns,3,0,1000,U,a,Y,Y,q⟩
def abu:Am 1 "apart" ["knots"] [] Iy:=by refine AK.cal T.x1x.g ab6<<<λc h=>?_;obtain⟨n,rfl,a,b,q⟩:=h;refine⟨_,((ag (ao (au c5 (cM rfl T.xg) (au bI (pv 0) aa))))),_,U,_,_,U,U,_,_,U,U,⟨Y,Sm.mono (k:=20) (by unfold Sm;lia) O⟩,?_⟩;dsimp only;rw[OR _ Y];show q
def uA:Am 5 "is_table" uB5 [] Gj:=by
  refine AK.cal T.x1y.g uP<<<λX h=>?_;obtain⟨d,n,f,rfl,hg,hw,h7,q⟩:=h;obtain⟨l,pm,vs,m,p⟩:=hg;have kl:⇑(De l vs)=n^3:=by rw[rS (Hr.len p),pm.length_eq,gh]
  have n3:=P_ h7 3;refine⟨_,((ac (aQ (PW.pt (dS (aO (aM (aq (iT Θ) (by rfl) T.x0 aw (aL (pv 0) (bO (v:=.ty "dict") U T.xp x_ rfl))))) (dw (aG iQ (aq zJ (by rfl) T.x4 cS (aJ (pv 0))) (au aav (pv 1) aa) (aA _))))) (ag (ao eF)) aE)
   (ag (ao (aq (iW Θ U) (by rfl) T.x8 fM (aJ (adG (az ["place","worth"] ["knots"] [1] 2 (acI (pv 0)) (λr=>(bJ (n:=2) Θ U (aj (ah 0 r) (aj (ah 1 r) aK)))) ax (cZ (af am pE X (aL (pv 0) (pv 2))) (fg (af am i5 X (aJ (pv 1))))))))))))),_,U,_,_,_,true,U,.dT m,(show Bx "dict" "dict"=Z true by decide +kernel),_,U,aN (⟨_,U,d,_,U,.inl m,_,U,_,_,U,U,⟨O,O,Y⟩,_,_,U,U,false,?_,aN ?_⟩)⟩
  .change V.bl (!decide ((⇑(De l vs):Int)=(n:Int)^(3:Int).toNat))=_;rw[kl,MB (by change((n^3:Nat):Int)=(n:Int)^3;simp)];rfl
  refine⟨_,U,d,_,U,m,λo=>vV (bs:=MN ⇑(De l vs) true) ae zyA Y (λi k x ka T b G hk j s A hT R kk S=>?_) (λG s D C=>?_)⟩
  .obtain⟨t,M,rfl,e2⟩:=ad7 hk;have j:b=true:=by
    rw[Rk] at j
    split at j
    .show(Mn j).symm
    .cases j
   subst j;have N:=pm.mem_iff.mp (MD M);have hm:=cY.mp N;have y:Ad K G (wD (f t)) x:=by
    obtain⟨dd,L,y⟩:=p.get e2;rw[Mw,M] at L;cases L;have F:Ad K (upd H d (.frz o (.dT (De l vs)))) (wD (f t)) x:=by
     obtain⟨a,xs,rfl,ha,hxs⟩:=ay (b:=false) (ds:=(f t).ds) y;cases y with
     |tup I h2=>show .tup (by rw[ar (λz=>by rw[z,m] at I;cases I)];show I) (by cases dY h2;show .cons ↑_ (.cons ↑_ (.cons ↑_ .nil)))
    show Ad.same s F
   have e3:([(t.1:Int),(t.2.1:Int),(t.2.2:Int)].all λk=>decide (0<=k)&&decide (k<=(n:Int)-1))=true:=by
    simp only[P7,UY,QB,MX,Oo];lia
   have e4:([(f t).a,(f t).b,(f t).c].all λk=>decide (0<=k)&&decide (k<=1000))=true:=by
    obtain⟨a0,a1,b0,b1,c0,c1⟩:=hw t N;simp only[P7,UY,QB,MX,Oo];lia
   show⟨T,_,U,AZ.of hT,U,_,_,U,_,_,U,U,aF (B:=S G) (⟨_,U,_,U,↥ka,[(t.1:Int),(t.2.1:Int),(t.2.2:Int)],n,U,jg A,U,λH2 J=>⟨true,by rw[e3],aF (⟨_,U,x,[(f t).a,(f t).b,(f t).c],U,Ad.same J y,U,λH3 s3=>by rw[e4];show kk _ _ ⟨J\s3,U⟩⟩)⟩⟩)⟩
  .have r:D≠d:=λz=>by rw[z,s _ _ ae] at C;cases C
   refine⟨d,o,De l vs,m,by rw[ar (Om r)];show s _ _ ae,D,_,U,An.of (by rw[ar r];show ae),?_⟩;rw[show(MN ⇑(De l vs) true).all id=true by simp];refine q _ λb u e=>?_
   by_cases j:b=d
   .subst j;rw[m] at e;cases e;show ae
   .rw[ar j];have y:=s b u (by rw[ar j];show e);rw[ar (λz=>by rw[z,C] at y;cases y)];show y
def bW:Am 4 "refuse_no_device_colour" j0 [] BB:=by
  refine AK.cal T.x1z.g gu<<<λy h=>?_;obtain⟨x,c,rfl,v,hw,n,q⟩:=h;refine⟨_,((ag (aQ (PW.pt (dS (aO (aM (af am lq y (aJ (pv 0))))) (dw (aO (aM (aq (iW Θ U) (by rfl) T.x8 fM (aJ (az ["number"] [] [] 1 (aY Θ (pv 0)) (λA=>(ah 0 A)) ax (af am ge y (ai (pv 0) (ai aa (ai (cM rfl T.xg) aH)))))))))))) (ag bG) aE))),_,U,x,c.a,c.b,c.c,U,v,λG z=>⟨_,U,aN ?_⟩⟩;obtain⟨a,J,rfl,r,o⟩:=ay (b:=false) (Ad.same z v);have j:Sm 60 (60:Int):=by unfold Sm;decide
  have f:Sm 60 (0:Int):=by unfold Sm;decide
  refine⟨_,U,a,false,U,⟨_,r⟩,aW (es:=[.bool true,.bool true,.bool true]) r o rfl (O:3<=1000) (λi d e u s F k t l R p S=>?_) (λI s t m D C=>?_)⟩
  .refine aF (B:=S s) ⟨_,U,?_⟩;rcases j7 F with ⟨rfl,rfl⟩|⟨rfl,rfl⟩|⟨rfl,rfl⟩
   .cases(Mn k);show⟨u,c.a,0,60,U,l,n.a.mono O,f,j,by rw[pB hw.a0 hw.a1];show p _ _ ⟨Aa.refl _,.bl _⟩⟩
   .cases(Mn k);show⟨u,c.b,0,60,U,l,n.b.mono O,f,j,by rw[pB hw.b0 hw.b1];show p _ _ ⟨Aa.refl _,.bl _⟩⟩
   .cases(Mn k);show⟨u,c.c,0,60,U,l,n.c.mono O,f,j,by rw[pB hw.c0 hw.c1];show p _ _ ⟨Aa.refl _,.bl _⟩⟩
  .have e:=c6 (bs:=[true,true,true]) m;subst e;show⟨D,_,U,An.of ae,_,U,aN (q _ (z.trans t\Aa.new C))⟩
def mX:Am 1 "places_below" ["many"] [] Eu:=by
  refine AK.cal T.x20.g iR<<<λhr h=>?_;obtain⟨n,rfl,X,q⟩:=h;refine⟨_,((ac (av 1 iR.nd (aS (tN rfl) (by rfl) T.xa eO (ai (aaM rfl T.x1 (aJ (pv 0))) aH)))
   (ag (ao (lv rfl (aY Θ (pv 1)) (jU zyB (by rfl)) (l7 (ts:=["a","b","c"]) (cs:=["numbers"]) (js:=[1]) (k:=3) (by rfl) U U) (λ_ _ _ _ _=>(ah 0 (show QD (α:=Str) uD2 by decide +kernel))) (λ_ _ _ _ _=>ax) (λ_ _ _ _ _=>(nV rfl rfl rfl (aY Θ (pv 3)) (ah 1 (show QD (α:=Str) uD2 by decide +kernel)) ax (nV rfl rfl rfl (aY Θ (pv 3)) (ah 2 (show QD (α:=Str) uD2 by decide +kernel)) ax (jV rfl (aV (ai (pv 0) (ai (pv 1) (ai (pv 2) aH))))))))))))),_,U,n,U,Y,λp y=>⟨p,n,U,ae,Y,λl hl=>?_⟩⟩
  have M:Aa H (upd (upd H p (.rng 0 n)) l (.lst ((FA n).map V.int))):=Aa.new y\Aa.new hl;have a:AF K (upd (upd H p (.rng 0 n)) l (.lst ((FA n).map V.int))) l ((FA n).map V.int) true:=An.of ae;generalize upd (upd H p (.rng 0 n)) l _=C at M a ⊢;refine⟨_,U,l,true,U,⟨_,a⟩,l_ (λi s e=>Aa C e/\Af K e ((Fm n i).map IW) s) ⟨Aa.refl _,.nil⟩ (λi s e _ p=>AF.same p.1 a) (λi x s N o p R kk S=>?_) (λs N p=>?_)⟩
  .obtain⟨hi,rfl⟩:=sN o;obtain⟨z,u⟩:=p;refine aF (B:=S N) ⟨_,U,l,true,U,⟨_,AF.same z a⟩,kL (λj f c e=>(∃ G m,f=[Z ↑i,G,m,Z ↥l])/\Aa C e/\Af K e ((Fm n i++Fh n i j).map IW) c) ⟨⟨none,none,U⟩,z,by simpa [Fh] using u⟩ (λj f c e _ p=>AF.same p.2.1 a) (λj x f c L o p R2 I S2=>?_) (λf c L p=>?_)⟩
   .obtain⟨hj,rfl⟩:=sN o;obtain⟨⟨G,m,rfl⟩,v,A⟩:=p;refine aF (B:=S2 [Z ↑i,Z ↑j,m,Z ↥l] L) ⟨_,U,l,true,U,⟨_,AF.same v a⟩,kL (xs:=(FA n).map V.int) (λk f d e=>(∃ m,f=[Z ↑i,Z ↑j,m,Z ↥l])/\Aa C e/\Af K e ((Fm n i++Fh n i j++Fz i j k).map IW) d) ⟨⟨m,U⟩,v,by simpa [Fz] using A⟩ (λj f c e _ p=>AF.same p.2.1 a) (λk x f d H3 o p R3 J S3=>?_) (λf d H3 p=>?_)⟩
    .obtain⟨hk,rfl⟩:=sN o;obtain⟨⟨o3,rfl⟩,F,r⟩:=p;have b:=⇑r;rw[Mq] at b;refine aF (B:=S3 [Z ↑i,Z ↑j,Z ↑k,Z ↥l] H3) ⟨fu (by rw[<- b];show M1 (ack X hi hj (N4 hk)) O),_,U,_,U,_,U,sX,λp y=>J _ _ _ ⟨⟨_,U⟩,F\Aa.new y,?_⟩⟩;rw[u8,<- OT,Nx];show(Af.same (Aa.new y) r).snoc (jg (t:=(i,j,k)) ae)
    .obtain⟨⟨o3,rfl⟩,F,r⟩:=p;rw[Mq,g_] at r;show I _ _ _ ⟨⟨_,_,U⟩,F,by rw[n0,<- OT];show r⟩
   .obtain⟨⟨G,m,rfl⟩,v,A⟩:=p;rw[Mq,g_] at A;show kk _ _ _ ⟨v,by rw[om];show A⟩
  .obtain⟨z,u⟩:=p;rw[Mq,g_,ad1] at u;have b:=⇑u;rw[Mq,gh] at b;refine⟨?_,λD c=>q D s _ (M.trans z\Aa.new c) ae (Af.same (Aa.new c) u)⟩;have:n^3<=7^3:=P_ X 3;lia
def uM:Am 1 "moved" ["place","steps"] [] Io:=by
  refine AK.cal T.x21.g ab4<<<λhr h=>?_;obtain⟨a,b,ns,o,rfl,p,t,j,N,q⟩:=h;refine⟨_,((ag (ao (aS (c9 Θ) (by rfl) T.x2 aZ (aJ (az ["number","step"] [] [] 2 (fX Θ U T.x7 (aL (pv 0) (pv 1))) (λr=>(bJ (n:=2) Θ U (aj (ah 0 r) (aj (ah 1 r) aK)))) ax (au bZ (pv 0) (pv 1)))))))),_,U,_,U,a,b,false,false,U,⟨_,p⟩,⟨_,t⟩,dX (fs:=(Qs (·+·) ns o).map O7) (show AF K H a (ns.map V.int) false from p) (show AF K H b (o.map V.int) false from t) (gx ns) (gx o) (by simp[j]) (by simp[j]) (by simp;lia) (λi d e g x y T A v s u F J I G R kk S=>?_) (λzs A F k D L=>?_)⟩
  .rw[Mw] at v s u;obtain⟨n,M,rfl⟩:=MG.mp v;obtain⟨m,X,rfl⟩:=MG.mp s;obtain⟨z,C,rfl⟩:=MG.mp u;rw[Se] at C;obtain⟨n',m',c,f,rfl⟩:=C;rw[M] at c;rw[X] at f;cases c;cases f;cases J;cases I;show⟨T,_,U,AZ.of G,U,_,_,U,_,_,U,U,aF (B:=S A) ⟨_,U,_,U,_,_,U,U,kk _ _ ⟨Aa.refl _,↑_⟩⟩⟩
  .have e:=cn k;subst e;show⟨D,_,U,.inl ⟨An.of ae,λl j=>q _ _ (F.trans (Aa.new L)\Aa.new j) ae⟩⟩
def mh:Am 2 "parts_by_four" uD6 [] BX:=by
  refine T.x3s.cal bH<<<λhcv hr h=>?_;obtain⟨a,x,y,z,j,rfl,ha,⟨Pt,tb,hP⟩,q⟩:=h;obtain⟨c,rfl,hcd⟩:=hcv Pt tb;refine⟨_,((ac (av 2 bH.nd (aV (ai aa (ai aa (ai aa aH)))))
   (ac (av 3 bH.nd (pv 1))
   (ac (av 4 bH.nd (a_ aH))
   (ac (fj NO rfl (aY Θ (wQ (i:=0) Θ U hr rfl T.xf rfl hcd rfl rfl (aaM rfl T.x1 (aJ aa)))) (ah 5 bH.nd) (ac (bg (uI Pb Qd Q9 l8 (pv 4) (aJ (aV (aL (pv 2) (au bI (pv 3) (ak K (pv 0) (pv 5))))))))
   (ac (av 2 bH.nd (af am uM hr (aL (pv 2) (ak K (abn (K:=K) (rows:=[[1,0,0],[0,1,0],[0,0,1]]) U T.x3r) (pv 5)))))
   (ag (av 3 bH.nd (ak K (pv 0) (pv 5)))))))
   (ac (bg (uI Pb Qd Q9 l8 (pv 4) (aJ (aV (aL (pv 2) (pv 3))))))
   (ag (ao (pv 4))))))))),sX,λc0 hc0=>⟨_,U,O,λk M=>⟨3,U,O,λX S=>?_⟩⟩⟩
  have s0:Aa H (upd (upd (upd H c0 (.tup [↑0,↑0,↑0])) k (.lst [])) X (.rng 0 3)):=(Aa.new hc0).trans (Aa.new M)\Aa.new S;have gc:upd (upd (upd H c0 (.tup [↑0,↑0,↑0])) k (.lst [])) X (.rng 0 3) c0=Z (.tup (BQ (0,0,0))):=Aa.new S _ _ (Aa.new M _ _ ae);have gP:upd (upd (upd H c0 (.tup [↑0,↑0,↑0])) k (.lst [])) X (.rng 0 3) k=Z (.lst []):=Aa.new S _ _ ae;have gr:upd (upd (upd H c0 (.tup [↑0,↑0,↑0])) k (.lst [])) X (.rng 0 3) X=Z (.rng 0 3):=ae;have fP:H k=none:=(Aa.new hc0).free M;generalize upd (upd (upd H c0 (.tup [↑0,↑0,↑0])) k (.lst [])) X _=H1 at s0 gc gP gr ⊢;refine⟨X,3,a,[x,y,z],U,gr,O,U,s0.seq ha,U,s0 _ _ hP,λH2 D order s2 hD perm pw=>?_⟩;obtain⟨⟨u,v,w⟩,ho,rfl⟩:=afg perm;obtain⟨u3,v3,w3⟩:=rN ho;have p1:AR x y z v<=AR x y z u:=by
   have:=(OL.mp pw).1 (v:Int) zyA
   rwa [jT u3,jT v3] at this
  have p2:AR x y z w<=AR x y z v:=by
   have:=(OL.mp (OL.mp pw).2).1 (w:Int) zyA
   rwa [jT v3,jT w3] at this
  have s3:Aa H (upd H2 D (.lst ([(u:Int),(v:Int),(w:Int)].map V.int))):=s0.trans s2\Aa.new hD;have N:AF K (upd H2 D (.lst ([(u:Int),(v:Int),(w:Int)].map V.int))) D [↑(u:Int),↑(v:Int),↑(w:Int)] true:=An.of ae;have gc3:=(s2\Aa.new (o:=.lst ([(u:Int),(v:Int),(w:Int)].map V.int)) hD) _ _ gc;have gP3:=(s2\Aa.new (o:=.lst ([(u:Int),(v:Int),(w:Int)].map V.int)) hD) _ _ gP;have DP:D≠k:=λz=>by rw[z,s2 _ _ gP] at hD;cases hD
  generalize upd H2 D _=J at s3 N gc3 gP3 ⊢;have fr:∀ {A:Hp},Mv [k] J A->∀ b o,J b=Z o->b≠k->A b=Z o:=λm b o e n=>m b o e (by simp[n])
  have sq:∀ {A:Hp},Mv [k] J A->An K A a [↑x,↑y,↑z]:=λ{A} m=>by
   have aP:∀ o,H a=Z o->A a=Z o:=λo e=>m _ _ (s3 _ _ e) (λz=>by rw[Mu.mp z,fP] at e;cases e)
   rcases ha with (h|⟨o,h⟩)|h
   .show .inl (.inl (aP _ h))
   .show .inl (.inr ⟨o,aP _ h⟩)
   .show .inr h
  have hlD:∀ {A:Hp},Mv [k] J A->AF K A D [↑(u:Int),↑(v:Int),↑(w:Int)] true:=λ{A} m=>by
   rcases N with (h|⟨o,h⟩)|h
   .show .inl (.inl (fr m _ _ h DP))
   .show .inl (.inr ⟨o,fr m _ _ h DP⟩)
   .show .inr h
  have B5:∀ (g:Nat) (cc:Kn) (left:Int) (ps:List Pc) (t:Hp) (ca:MF) (r:List V),g < 3->Mv [k] J t->t ca=Z (.tup (BQ cc))->t k=Z (.lst r)->Af K t (ps.map IL) r->⇑ps <= 10 ->
    ∀ R:Hp->MF->List V->Prop,(∀ s cb zs,Mv [k] J s->s cb=Z (.tup (BQ (Ae cc (un g))))->s k=Z (.lst zs)->Af K s ((ps++[(cc,left-AR x y z g)]).map IL) zs->R s cb zs) ->
    ∀ p,t p=none->(∀ sa,HF K sa [[1,0,0],[0,1,0],[0,0,1]]->∃ (bs:List V) (b:MF),KT K sa bs/\He bs (g:Int)=Z ↥b/\KT K b (BQ (un g))) /\
     ∀ cb s,Aa (upd (upd t p (.tup [↥ca,↑(left-AR x y z g)])) k (.lst (r++[↥p]))) s->s cb=Z (.tup (BQ (Ae cc (un g))))->R s cb (r++[↥p]):=by
   intro g cc left ps t ca r g3 L l f C hpl R kk p I;refine⟨λsa hs=>acr hs g3,λcb s s5 G=>?_⟩;have pP:p≠k:=λz=>by rw[z,f] at I;cases I
   have m5:Mv [k] t (upd (upd t p (.tup [↥ca,↑(left-AR x y z g)])) k (.lst (r++[↥p]))):=λb o e n=>by
    rw[ar (λz=>n (by simp[z])),ar (aI e I)];show e
   have li:AC t [k]:=λb mm=>⟨r,by rw[Mu.mp mm];show f⟩
   refine kk s cb _ (L.trans m5\Mv.of s5) G (s5 _ _ ae) ?_;rw[Nx];show Af.same s5 ((Af.mv m5 li (sY ps) C).snoc (.tup (by rw[ar pP];show ae) (.cons (jg (m5 _ _ l (λz=>by rw[Mu.mp z,f] at l;cases l))) (.cons ↑_ .nil))))
  refine ⟨D,true,U,⟨_,N⟩,iO (fun i σ A=>∃ (ca:MF) (r:List V) (ow:Option V) (cc:Kn) (left:Int),σ=[Z ↥a,Z ↑j,Z ↥ca,Z ↑left,Z ↥k,ow]/\Mv [k] J A/\A ca=Z (.tup (BQ cc))/\A k=Z (.lst r) /\
    Af K A (((BK (AR x y z) j u v w).take i).map IL) r/\(cc=match i with|0=>(0,0,0)|1=>un u|2=>Ae (un u) (un v)|_=>Ae (Ae (un u) (un v)) (un w))/\left=match i with|0=>j|1=>AR x y z u|2=>AR x y z v|_=>AR x y z w)
   ⟨c0,[],none,(0,0,0),j,U,Mv.refl,gc3,gP3,.nil,U,U⟩ (λi σ A hi ⟨_,_,_,_,_,_,m,_⟩=>hlD m) ?_ ?_⟩
  .rintro i wv σ t ew ⟨ca,r,ow,cc,left,rfl,L,l,f,C,F,B⟩;have hpl:⇑((BK (AR x y z) j u v w).take i)<=10:=by rw[Nl];change min i 4<=10;lia
   obtain⟨g,rfl,g3,hg⟩:∃ g:Nat,wv=↑(g:Int)/\g<3/\((i=0/\g=u)\/(i=1/\g=v)\/(i=2/\g=w)):=by
    rcases j7 ew with ⟨rfl,rfl⟩|⟨rfl,rfl⟩|⟨rfl,rfl⟩
    .show⟨u,U,u3,.inl ⟨U,U⟩⟩
    .show⟨v,U,v3,.inr (.inl ⟨U,U⟩)⟩
    .show⟨w,U,w3,.inr (.inr ⟨U,U⟩)⟩
   have hl:=⇑C;rw[Mq] at hl;refine⟨_,U,.inl ⟨U,_,An.of f⟩,_,U,_,U,_,U,_,U,.inl ⟨a,_,_,_,U,U,sq L,yi g3,_,_,U,U,iX,λp I=>?_⟩⟩;have pP:p≠k:=λz=>by rw[z,f] at I;cases I
   obtain⟨t1,t2⟩:=B5 g cc left _ t ca r g3 L l f C hpl (λs cb zs=>∃ (ca:MF) (r:List V) (ow:Option V) (cc:Kn) (left:Int),[Z (V.ref a),Z (V.int j),Z (V.ref cb),Z (V.int (AR x y z g)),Z (V.ref k),Z (V.int (g:Int))]=[Z ↥a,Z ↑j,Z ↥ca,Z ↑left,Z ↥k,ow]/\Mv [k] J s/\s ca=Z (.tup (BQ cc))/\s k=Z (.lst r) /\
    Af K s (((BK (AR x y z) j u v w).take (i+1)).map IL) r/\(cc=match i+1 with|0=>(0,0,0)|1=>un u|2=>Ae (un u) (un v)|_=>Ae (Ae (un u) (un v)) (un w))/\left=match i+1 with|0=>j|1=>AR x y z u|2=>AR x y z v|_=>AR x y z w) (λs cb zs m5 G hP5 hzs=>by
     refine⟨cb,zs,_,_,_,U,m5,G,hP5,?_,?_,?_⟩
     .rcases hg with ⟨rfl,rfl⟩|⟨rfl,rfl⟩|⟨rfl,rfl⟩<;>(subst F;subst B;show hzs)
     .rcases hg with ⟨rfl,rfl⟩|⟨rfl,rfl⟩|⟨rfl,rfl⟩
      .subst F;change Ae (0,0,0) (un g)=un g;unfold Ae;simp
      .subst F;rfl
      .subst F;rfl
     .rcases hg with ⟨rfl,rfl⟩|⟨rfl,rfl⟩|⟨rfl,rfl⟩<;>rfl) p I
   have gP5:upd t p (.tup [↥ca,↑(left-AR x y z g)]) k=Z (.lst r):=by rw[ar (Om pP)];show f
   refine⟨k,r,↥p,U,U,gP5,fu Y,?_⟩;have m6:Mv [k] t (upd (upd t p (.tup [↥ca,↑(left-AR x y z g)])) k (.lst (r++[↥p]))):=λb o e n=>by
    rw[ar (λz=>n (by simp[z])),ar (aI e I)];show e
   refine⟨_,U,λsa hsa=>?_⟩;obtain⟨bs,b,k1,k2,k3⟩:=t1 sa hsa;refine⟨_,U,.inr (.inl ⟨sa,bs,_,_,U,U,k1.sq,k2,ca,b,[(cc.1:Int),(cc.2.1:Int),(cc.2.2:Int)],[((un g).1:Int),((un g).2.1:Int),((un g).2.2:Int)],U,AZ.of (m6 _ _ l (λz=>by rw[Mu.mp z,f] at l;cases l)),k3.sq,U,(O:3<=10),λcb s s5 G=>?_⟩)⟩;rw[acz] at G;show⟨_,U,_,U,.inl ⟨a,_,_,_,U,U,s5.seq (sq (L\m6)),yi g3,t2 cb s s5 G⟩⟩
  .rintro σ t ⟨ca,r,ow,cc,left,rfl,L,l,f,C,F,B⟩;have hl:=⇑C;rw[Mq] at hl;refine⟨_,U,.inl ⟨U,_,An.of f⟩,_,U,_,U,iX,λp I=>?_⟩;have pP:p≠k:=λz=>by rw[z,f] at I;cases I
   refine⟨k,r,↥p,U,U,by rw[ar (Om pP)];show f,fu (by rw[<- hl];change 3<=1000;decide),_,U,?_⟩;have m6:Mv [k] t (upd (upd t p (.tup [↥ca,↑left])) k (.lst (r++[↥p]))):=λb o e n=>by
    rw[ar (λz=>n (by simp[z])),ar (aI e I)];show e
   have li:AC t [k]:=λb mm=>⟨r,by rw[Mu.mp mm];show f⟩
   subst F B;show q (u,v,w) k _ _ ho p1 p2 (λb o e=>(L\m6) b o (s3 _ _ e) (λz=>by rw[Mu.mp z,fP] at e;cases e)) ae ((Af.mv m6 li (sY _) C).snoc (d:=IL (Ae (Ae (un u) (un v)) (un w),AR x y z w)) (.tup (by rw[ar pP];show ae) (.cons (jg (m6 _ _ l (λz=>by rw[Mu.mp z,f] at l;cases l))) (.cons ↑_ .nil))))
def zt:Am 1 "is_way" j0 [] HG:=by refine AK.cal T.x22.g z_<<<λb h=>?_;obtain⟨i,rfl,q⟩:=h;show⟨_,((ag (ao (cZ (aq (iT Θ) (by rfl) T.x0 aw (aL (pv 0) (bO (v:=.ty "str") U T.x15 afl rfl))) (fg (bh (ab8 (w:=w) (mg:=mg) (kvs:=[("four","parts_by_four"),("eight","parts_by_eight")]) Θ U) (pv 0) (aaQ (K:=K) (w:=w) (mg:=mg) (kvs:=[("four","parts_by_four"),("eight","parts_by_eight")]) U T.xu) U)))))),_,U,_,_,_,true,U,.str i,(show Bx "str" "str"=Z true by decide +kernel),_,U,aF (⟨_,U,λD a=>⟨i,D,U,U,a,q⟩⟩)⟩
def cL:BH 6 "Grid" "__init__" uD1 [] AS:=by
  refine BO.cal (T.x3c.g T.x3) kB<<<λN h=>?_;obtain⟨a,C,u,d,n,f,rfl,R,X,I,hw,J,M,q⟩:=h;refine⟨_,((ac (aQ (aO (aM (af am uZ N (aJ (pv 1))))) (ag bG) aE)
   (ac (aQ (aO (aM (af am uA N (aL (pv 2) (pv 1))))) (ag bG) aE)
   (ac (eT (x:="Grid") Θ T.x3 (.head _) (pv 0) (pv 1))
   (ag (eT (x:="Grid") Θ T.x3 (.tail _ (.head _)) (pv 0) (aS vS (by rfl) T.xp x_ (aJ (pv 2))))))))),?_⟩
  have e1:IB 2 7 ↑(n:Int)=true:=by
   change(decide ((2:Int)<=n)&&decide ((n:Int)<=7))=true;rw[MB (show(2:Int)<=n by lia),MB (show(n:Int)<=7 by lia)];rfl
  refine⟨_,U,↑n,↑n,U,↑_,true,by rw[e1],aN (⟨_,U,_,U,d,n,f,U,I,hw,M,λr A=>⟨_,U,aN ?_⟩⟩)⟩;have l:=A _ _ X;refine⟨_,U,_,U,a,C,u,[],U,R,l,O,?_⟩;obtain⟨c,G,vs,F,s⟩:=id (I.same A);have k:=Hr.len s;have na:d≠a:=λz=>by rw[z,l] at F;cases F
  have D:Mv [a] r (upd r a (.ins C u (A8 "knots" ↑n []))):=λb o e i=>by rw[ar (λz=>i (by simp[z]))];show e
  have ne:De c vs≠[]:=λz=>by
   have:=Rp Uc z;rw[rS k,G.length_eq,gh] at this;have:0<n^3:=Nat.pow_pos Y;rw[SG] at *;lia
  refine⟨_,U,d,_,U,.inl (D _ _ F (by simp[na])),ne,adD M G k,λL j=>⟨_,U,a,C,u,_,U,R,by rw[ar (λz=>by rw[<- z,ae] at j;cases j)];show ae,by change 1<1000;decide,?_⟩⟩;have S:L≠a:=λz=>by rw[z,ae] at j;cases j
  have v:Mv [a] r (upd (upd (upd r a (.ins C u (A8 "knots" ↑n []))) L (.dT (De c vs))) a (.ins C u (A8 "table" ↥L (A8 "knots" ↑n [])))):=λb o e i=>by
   have i:b≠a:=λz=>i (by simp[z])
   rw[ar i,ar (λz=>by rw[<- z,ar i,e] at j;cases j),ar i];show e
  have p:∀ {c:List Kn}{y:List V}{B:Hp},Mv [a] r B->Af K r (c.map λt=>wD (f t)) y->Af K B (c.map λt=>wD (f t)) y:=λ{c y B} m h=>by
   induction c generalizing y with
   |nil=>cases h;show .nil
   |cons t c ih=>
    cases h with
    |cons h1 J=>
     refine .cons ?_ (ih J);cases h1 with
     |tup k1 k2=>
      cases dY k2;show .tup (m _ _ k1 (λz=>by rw[Mu.mp z,l] at k1;cases k1)) (.cons ↑_ (.cons ↑_ (.cons ↑_ .nil)))
  refine q _ L (λb o e i=>v b o (A _ _ e) i) ae ⟨c,G,vs,?_,p v s⟩ ?_
  .rw[ar S];show ae
  .cases z:H L with
   |none=>rfl
   |some o=>
    rw[ar S,A _ _ z] at j;cases j
def gy:BH 5 "Grid" "knot" uC5 [] E4:=by
  refine BO.cal (T.x3d.g T.x3) pI<<<λo h=>?_;obtain⟨v,x,n,f,t,rfl,u,l,m,q⟩:=h;obtain⟨a,C,j,d,rfl,p,i,y⟩:=id u;refine⟨_,((ac (aQ (aO (aM (af am pE o (aL (pv 1) (aX (x:="Grid") Θ T.x3 (.head _) (pv 0)))))) (ag bG) aE)
   (ag (ao (adg o.u1 (aX (x:="Grid") Θ T.x3 (.tail _ (.head _)) (pv 0)) (pv 1) (λ_ _=>rfl)))))),?_⟩
  have A:=cY.mp m;have e:([(t.1:Int),(t.2.1:Int),(t.2.2:Int)].all λk=>decide (0<=k)&&decide (k<=(n:Int)-1))=true:=by
   simp only[P7,UY,QB,MX,Oo];lia
  refine⟨_,U,_,U,a,C,j,_,_,U,p,i,U,x,[(t.1:Int),(t.2.1:Int),(t.2.2:Int)],n,U,l,U,λB c=>⟨true,by rw[e],aN ?_⟩⟩;obtain⟨b,rfl,r⟩:=nW (Ad.same c l);obtain⟨w,z,s⟩:=afz (y.same c) m r;show⟨_,U,a,C,j,_,_,U,p,c _ _ i,U,_,U,d,w,U,z,q _ _ c s⟩
def gB:BH 2 "Grid" "size" uB3 [] E8:=by refine BO.cal (T.x3e.g T.x3) oM<<<λm h=>?_;obtain⟨v,n,f,rfl,j,k,l,q⟩:=h;obtain⟨a,C,c,d,rfl,i,b,o⟩:=j;show⟨_,((ag (ao (aV (aL (aX (x:="Grid") Θ T.x3 (.head _) (pv 0)) (af am abu m (aJ (aX (x:="Grid") Θ T.x3 (.head _) (pv 0))))))))),_,U,a,C,c,_,_,U,i,b,U,_,U,a,C,c,_,_,U,i,b,U,n,U,k,l,iX,λp e=>q _ _ (Aa.new e) (Ad.tupN e (.cons ↑_ (.cons ↑_ .nil)))⟩
def mM:BH 6 "Grid" "mixed" ["self","least","parts"] [] Et:=by
  refine BO.cal (T.x3f.g T.x3) fK<<<λhr h=>?_;obtain⟨v,x,D,ys,n,f,base,y,rfl,hv,hx,hD,hys,hl,hw,hk,hp,h0,hS,q⟩:=h;refine⟨_,((ac (av 3 fK.nd (az ["corner","part"] ["self","least"] [0,1] 2 (aY Θ (pv 2)) (λs=>(bJ (n:=2) Θ U (aj (ah 0 s) (aj (ah 1 s) aK)))) ax (eA Θ am gy (hr.mono O) (pv 2) (aJ (af am uM hr (aL (pv 3) (pv 0)))))))
   (ac (av 4 fK.nd (az ["corner","part"] [] [] 2 (aY Θ (pv 2)) (λs=>(bJ (n:=2) Θ U (aj (ah 0 s) (aj (ah 1 s) aK)))) ax (pv 1)))
   (ag (ao (aS (c9 Θ) (by rfl) T.x2 aZ (aJ (az ["k"] ["worths","amounts"] [3,4] 1 (aR rfl T.x1 (aJ aa)) (λs=>(ah 0 s)) ax (af am (bB T.xe) hr (aL (af am i7 hr (aL (az ["worth"] ["k"] [0] 1 (aY Θ (pv 1)) (λs=>(ah 0 s)) ax (ak K (pv 0) (pv 1))) (pv 2))) (aq (abz Θ U) (by rfl) T.xi vQ (aJ (pv 2))))))))))))),?_⟩
  obtain⟨a,C,dx,d,rfl,hC,ha,hg⟩:=id hv;obtain⟨la,rfl,hla⟩:=nW hx;have lw:∀ {r:R3},r.Wt->∀ g:R3->Int,(∀ r:R3,g r=r.a\/g r=r.b\/g r=r.c)->Sm 8000 (g r):=λ{r} h g M=>by
   refine Sm.mono (k:=20) ?_ O;obtain⟨a0,a1,b0,b1,c0,c1⟩:=h;unfold Sm;rcases M r with e|e|e<;>(rw[e];lia)
  refine⟨_,U,D,true,U,⟨_,An.of hD⟩,aW (es:=y.map λp=>wD (f (Ae base p.1))) (show AF K H D ys true from An.of hD) hys zyA (by simp;lia) (λi e e' u X F m s1 hu R kk S=>?_) (λws X s1 hws W hW=>?_)⟩
  .rw[Mw] at F m;obtain⟨p,ep,rfl⟩:=MG.mp F;rw[ep] at m;cases m;obtain⟨ta,ca,rfl,I,hca⟩:=aaX hu;refine⟨ta,_,U,AZ.of I,U,_,_,U,_,_,U,U,aF (B:=S X) (⟨_,U,a,C,dx,_,U,hC,s1 _ _ ha,U,_,U,_,U,la,ca,[(base.1:Int),(base.2.1:Int),(base.2.2:Int)],[(p.1.1:Int),(p.1.2.1:Int),(p.1.2.2:Int)],U,AZ.of (s1 _ _ hla),AZ.of hca,U,(O:3<=10),λpa H2 t G=>?_⟩)⟩;rw[acz] at G;show⟨↥a,↥pa,n,f,Ae base p.1,U,hv.same (s1\t),jg G,hk p (MD ep),λw J s3 hw3=>kk _ _ ⟨t\s3,hw3⟩⟩
  have sW:Aa X (upd X W (.lst ws)):=Aa.new hW;have hW2:AF K (upd X W (.lst ws)) W ws true:=An.of ae;have A:=Af.same sW hws;have t:=s1\sW;generalize upd X W _=H2 at sW hW2 A t ⊢;refine⟨_,U,D,true,U,⟨_,An.of (t _ _ hD)⟩,aW (es:=(y.map (·.2)).map O7) (show AF K H2 D ys true from An.of (t _ _ hD)) (Af.same t hys) zyA (by simp;lia) (λi e e' u J F m s3 hu R kk S=>?_) (λks J s3 hks L hL=>?_)⟩
  .rw[Mw] at F m;obtain⟨p,ep,rfl⟩:=MG.mp F;rw[Mw,ep] at m;cases m;obtain⟨ta,ca,rfl,I,hca⟩:=aaX hu;show⟨ta,_,U,AZ.of I,U,_,_,U,_,_,U,U,aF (B:=S J) ⟨_,U,kk _ _ ⟨Aa.refl _,↑_⟩⟩⟩
  have eks:=cn hks;subst eks;have sL:Aa J (upd J L (.lst ((y.map (·.2)).map V.int))):=Aa.new hL;have hL4:AF K (upd J L (.lst ((y.map (·.2)).map V.int))) L ((y.map (·.2)).map V.int) true:=An.of ae;have s4:=s3\sL;generalize upd J L _=H4 at sL hL4 s4 ⊢;have hW4:=AF.same s4 hW2;refine⟨3,U,O,O,cJ (K:=K) (lo:=0) (ds:=(HP f base y).ds) (n:=3) U O (λi e H5 m s5 R kk S=>?_) (λzs H5 s5 hzs zzQ hZ=>?_)⟩
  .obtain⟨g,rfl,hi,hgv⟩:=agv m;have M:∀ r:R3,g r=r.a\/g r=r.b\/g r=r.c:=λr=>by
    have:=hgv r;rcases j7 this with ⟨_,e⟩|⟨_,e⟩|⟨_,e⟩
    .injection e with e;show .inl e
    .injection e with e;show .inr (.inl e)
    .injection e with e;show .inr (.inr e)
   refine aF (B:=S H5) ⟨_,U,W,true,U,⟨_,AF.same s5 hW4⟩,aW (es:=(y.map λp=>g (f (Ae base p.1))).map O7) (AF.same s5 hW4) (Af.same s5 (Af.same s4 A)) zyA (by simp;lia) (λj e e' u H6 F m s6 hu R2 kk2 S2=>?_) (λns H6 s6 hns N hN=>?_)⟩
   .rw[Mw] at F m;obtain⟨p,ep,rfl⟩:=MG.mp F;rw[Mw,ep] at m;cases m;obtain⟨wa,rfl,G⟩:=cN (b:=false) hu;refine aF (B:=S2 H6) ⟨_,U,_,U,?_⟩;have:=fE G (hgv (f (Ae base p.1))) (kk2 _ _ ⟨Aa.refl _,↑_⟩);rw[show((0:Int)+(i:Int))=(i:Int) from S7 _];show this
   .have ens:=cn hns;subst ens;have hL7:=AF.same (s5.trans s6\Aa.new (o:=.lst ((y.map λp=>g (f (Ae base p.1))).map V.int)) hN) hL4;refine⟨_,U,N,L,true,true,_,_,U,An.of ae,hL7,zyA,by simp;lia,λz hz=>?_,λz hz=>?_,λH7 s7=>?_⟩
    .obtain⟨p,G,rfl⟩:=Nd.mp hz;show lw (hw _ (hk p G)) g M
    .obtain⟨p,G,rfl⟩:=Nd.mp hz;show(hp p G).mono O
    .refine⟨_,U,L,_,U,AF.same s7 hL7,_,_,U,h0,hS,Cs.sh h0 λw H8 s8 hw8=>kk _ _ ⟨(s6\Aa.new hN).trans s7\s8,hw8⟩⟩
  .show⟨zzQ,zs,U,.inl ⟨An.of ae,λl hl=>q _ _ ((t.trans s4\s5).trans (Aa.new hZ)\Aa.new hl) (Ad.tupN hl (Af.same (Aa.new hZ) hzs))⟩⟩
def mJ:Am 3 "parts_of" uD9 [] Gp:=by
  refine AK.cal T.x23.g ve<<<λI h=>?_;obtain⟨v,n,f,rfl,hv,n2,n6,q⟩:=h;have n7:n<=7:=Y
  obtain⟨a,C,dx,d,rfl,hC,ha,hg⟩:=id hv;refine⟨_,((ag (ao (lv rfl (aY Θ (af am mX I (aJ (au bI (ak K (eJ Θ am gB (I.mono O) (pv 0)) aa) aa)))) (jU zyB (by rfl)) (l7 (ts:=uD4) (cs:=[]) (js:=[]) (k:=2) (by rfl) U U) (λ_ _ _ _ _=>(ah 0 (show QD (α:=Str) uD4 by decide +kernel))) (λ_ _ _ _ _=>ax) (λ_ _ _ _ _=>(nV rfl rfl rfl (aY Θ (abn (K:=K) (rows:=[[0,1,2],[0,2,1],[1,0,2],[1,2,0],[2,0,1],[2,1,0]]) U T.x3q)) (ah 1 (show QD (α:=Str) uD4 by decide +kernel)) ax (jV rfl (aV (aL (pv 0) (pv 1)))))))))),_,U,a,C,dx,_,U,hC,ha,U,↥a,n,f,U,hv,n2,n7,λw H1 s1 hw=>?_⟩;obtain⟨wa,ws,rfl,hwa,M⟩:=ay (b:=false) (ds:=[↑n,↑(B3 n)]) hw;have ew:=cn (ns:=[(n:Int),B3 n]) M;subst ew;have e1:(n:Int)-1=((n-1:Nat):Int):=Y
  refine fE (b:=false) (i:=0) hwa rfl ⟨_,_,U,U,?_⟩;dsimp only;rw[e1];refine⟨n-1,U,Y,λP ps H2 s2 hP z=>?_⟩;have few:⇑(As (n-1))<=125:=by
   rw[gh];show P_ (show n-1<=5 by lia) 3
  have L:=⇑z;rw[Mq] at L;refine⟨P,true,U,⟨_,An.of hP⟩,l_ (xs:=ps) (λi u m=>Aa H2 m/\Be K m (Bz ((As (n-1)).take i)) u) ⟨Aa.refl _,.nil⟩ (λi u m _ p=>An.of (p.1 _ _ hP)) (λi x u H3 J p R kk S=>?_) (λu H3 p=>?_)⟩
  .obtain⟨s3,l⟩:=p;obtain⟨dd,ed,hd⟩:=z.get J;rw[Mw] at ed;obtain⟨t,et,rfl⟩:=MG.mp ed;obtain⟨ka,rfl,hka⟩:=nW hd;refine aF (B:=S H3) (λsa hs=>?_);obtain⟨bs,s,y⟩:=hs;refine⟨sa,false,U,⟨_,KT.sq s⟩,kL (b:=false) (xs:=bs.map V.ref) (λj G c m=>(∃ N,G=[Z ↥ka,N])/\Aa H2 m/\Be K m (Bz ((As (n-1)).take i)++Bm t j) c) ⟨⟨_,U⟩,s3,by simpa [Bm] using l⟩ (λj G c m _ _=>KT.sq s) (λj x G c H4 J p R2 X S2=>?_) (λG c H4 p=>?_)⟩
   .obtain⟨⟨N,rfl⟩,F,e⟩:=p;rw[Mw] at J;obtain⟨b,eb,rfl⟩:=MG.mp J;obtain⟨r,A,I⟩:=lU y eb;have A:(Bc.map λo=>[(o.1:Int),(o.2.1:Int),(o.2.2:Int)])[j]?=Z r:=A;rw[Mw] at A;obtain⟨o,eo,rfl⟩:=MG.mp A;have hj:=(Mp.mp eo).1;have lt:⇑c<=6*125+6:=by
     rw[<- ⇑e,MP,iN,Nl];have:⇑(Bm t j)<=6:=by unfold Bm;rw[Mq,Nl];show M1 (Nat.min_le_right _ _) O
     lia
    refine aF (B:=S2 [Z ↥ka,Z ↥b] H4) ⟨Pz lt O,_,U,_,U,iX,λp hp=>X _ _ _ ⟨⟨_,U⟩,F\Aa.new hp,?_⟩⟩;rw[uC eo,<- OT];show(e.same (Aa.new hp)).snoc ⟨p,ka,b,U,ae,Aa.new hp _ _ (F _ _ hka),I⟩
   .obtain⟨⟨N,rfl⟩,F,e⟩:=p;have A:⇑(bs.map V.ref)=6:=by
     rw[Mq,Ug y];rfl
    rw[A] at e;refine kk _ _ _ ⟨F,?_⟩;rw[bD et,ui];show e
  .obtain⟨s3,l⟩:=p;rw[Nh Y] at l;have c:=⇑l;rw[iN] at c;show⟨Y,λD e=>q D u _ ((s1\s2).trans s3\Aa.new e) ae (l.same (Aa.new e))⟩
def mY:DV P w K mg base (Fj P w) 7 "Grid" "worth" uB0 [] 2 0 [.str "four"] EA:=by
  refine T.x3t.cal bL<<<λJ h=>?_;obtain⟨v,x,n,f,c,k,rfl,hv,hw,h2,h7,hx,wi,bd,hk,tb,q⟩:=h;obtain⟨a,C,dx,d,rfl,hC,ha,hg⟩:=id hv;obtain⟨ap0,ap1,ap2⟩:=jo h2 h7;have dva:Dv n c.a:=⟨h2,h7,wi.a0,wi.a1⟩
  have dvb:Dv n c.b:=⟨h2,h7,wi.b0,wi.b1⟩
  have dvc:Dv n c.c:=⟨h2,h7,wi.c0,wi.c1⟩
  have sap:Sm 6 (B3 n):=by unfold Sm;lia
  have bqs:∀ {y:Rat},Bq k y->Bq (k+6) (AW n y):=λ{y} h=>dE (OK h.ne Y) (h.sn.mono Y) ((h.sd.mul sap))
  refine⟨_,((ac (aQ (aO (aM (af am zt J (aJ (pv 2))))) (ag bG) aE)
   (ac (bg (af am bW J (aJ (pv 1))))
   (ac (av 3 bL.nd (aee (afw (w:=w) (mg:=mg) (kvs:=[("four","parts_by_four"),("eight","parts_by_eight")]) Θ U) (aaQ (K:=K) (w:=w) (mg:=mg) (kvs:=[("four","parts_by_four"),("eight","parts_by_eight")]) U T.xu) (pv 2) (λ_ _=>rfl)))
   (ac (cH 4 uA8 uB3 [0] 2 bL.nd (aY Θ (pv 1)) (λnd=>(bJ (n:=2) Θ U (aj (ah 0 nd) (aj (ah 1 nd) aK)))) ax (af am (bB T.xe) J (aL (pv 0) (au aD (pv 1) (ak K (eJ Θ am gB (J.mono O) (pv 2)) aa)))))
   (ac (av 5 bL.nd (aS (c9 Θ) (by rfl) T.x2 aZ (aJ (az ["step"] uB3 [0] 1 (aY Θ (pv 4)) (λnd=>(ah 0 nd)) ax (aq (jW rfl) (by rfl) T.xh sk (aL (af am uq J (aJ (pv 0))) (au bI (aX (x:="Grid") Θ T.x3 (.head _) (pv 1)) aa)))))))
   (ac (dA (af am gX J (aJ (pv 4))) (bJ (n:=2) Θ U (aj (ah 6 bL.nd) (aj (ah 7 bL.nd) aK))))
   (ac (cH 8 ["top","number"] ["below"] [7] 2 bL.nd (fX Θ U T.x7 (aL (pv 6) (pv 5))) (λnd=>(bJ (n:=2) Θ U (aj (ah 0 nd) (aj (ah 1 nd) aK)))) ax (au bI (pv 0) (au aD (pv 1) (pv 2))))
   (ag (ao (eA Θ am mM (J.mono O) (pv 0) (aL (pv 5) (ac1 (P:=P) (w:=w) (K:=K) (mg:=mg) (base:=base) (CX:=(Fj P w)) (k:=2) U U U U U am (J.mono O) (pv 3) (aL (pv 8) (pv 7))))))))))))))),_,U,_,U,true,U,aN (⟨_,U,x,c,U,hx,wi,bd.mono Y,λH1 s1=>λD hD=>⟨_,U,_,_,D,U,U,hD,U,λfa hfa=>?_⟩⟩)⟩
  obtain⟨ca,xs,rfl,hca,hxs⟩:=ay (b:=false) (ds:=c.ds) (Ad.same s1 hx);refine⟨_,U,ca,false,U,⟨_,hca⟩,aW (es:=[rD (AW n c.a),rD (AW n c.b),rD (AW n c.c)]) hca hxs rfl (O:3<=1000) (λi e e' u H2 hd he s2 hu R kk S=>?_) (λss H2 s2 hss St hSt=>?_)⟩
  .obtain⟨y,rfl,rfl,M⟩:∃ y:Rat,e=rD y/\e'=rD (AW n y)/\Bq k y:=by
    rcases j7 hd with ⟨rfl,rfl⟩|⟨rfl,rfl⟩|⟨rfl,rfl⟩
    .show⟨c.a,U,(Mn he).symm,bd.a⟩
    .show⟨c.b,U,(Mn he).symm,bd.b⟩
    .show⟨c.c,U,(Mn he).symm,bd.c⟩
   obtain⟨wa,rfl,hwa⟩:=aU hu;refine⟨wa,_,U,AZ.of hwa,U,_,_,U,_,_,U,U,aF (B:=S H2) (⟨_,U,_,U,_,U,a,C,dx,_,U,hC,(s1\s2) _ _ ha,U,↥a,n,f,U,(hv.same s1).same s2,h2,h7,λw H3 s3 hw3=>?_⟩)⟩;obtain⟨wb,rfl,hwb⟩:=aU (n:=(n:Int)) (d:=B3 n) hw3;show cB hwb ⟨_,_,U,U,.inl ⟨M.sd.mono Y,sap.mono O⟩,_,_,U,OK M.ne Y,(M.sd.mul sap).mono Y,Cs.sh (OK M.ne Y) λw H4 s4 hw4=>kk _ _ ⟨s3\s4,hw4⟩⟩
  have sS:Aa H2 (upd H2 St (.lst ss)):=Aa.new hSt;have hS3:Ad K (upd H2 St (.lst ss)) (.list [rD (AW n c.a),rD (AW n c.b),rD (AW n c.c)]) ↥St:=Ad.listN hSt hss;have s3:=s1.trans s2\sS;generalize upd H2 St _=H3 at sS hS3 s3 ⊢;obtain⟨St',ss',eS,hSq,hss3⟩:=ay (b:=true) (ds:=[rD (AW n c.a),rD (AW n c.b),rD (AW n c.c)]) hS3;cases eS;refine⟨_,U,St,true,U,⟨_,hSq⟩,aW (es:=[↑((A3 n c.a:Nat):Int),↑((A3 n c.b:Nat):Int),↑((A3 n c.c:Nat):Int)]) hSq hss3 rfl (O:3<=1000) (λi e e' u H4 hd he s4 hu R kk S=>?_) (λls H4 s4 hls L hL=>?_)⟩
  .obtain⟨y,rfl,rfl,M,dv⟩:∃ y:Rat,e=rD (AW n y)/\e'=↑((A3 n y:Nat):Int)/\Bq k y/\Dv n y:=by
    rcases j7 hd with ⟨rfl,rfl⟩|⟨rfl,rfl⟩|⟨rfl,rfl⟩
    .show⟨c.a,U,(Mn he).symm,bd.a,dva⟩
    .show⟨c.b,U,(Mn he).symm,bd.b,dvb⟩
    .show⟨c.c,U,(Mn he).symm,bd.c,dvc⟩
   refine aF (B:=S H4) ⟨_,U,u,_,_,U,hu,(bqs M).mono Y,_,U,a,C,dx,_,_,U,hC,(s3\s4) _ _ ha,U,_,_,U,U,_,_,U,?_⟩;have e:(if(n:Int)-2<(AW n y).num.fdiv ((AW n y).den:Int) then(n:Int)-2 else(AW n y).num.fdiv ((AW n y).den:Int))=((A3 n y:Nat):Int):=by
    rw[abM,nj dv];rfl
   rw[e];show kk _ _ ⟨Aa.refl _,↑_⟩
  have els:=cn (ns:=[((A3 n c.a:Nat):Int),((A3 n c.b:Nat):Int),((A3 n c.c:Nat):Int)]) hls;subst els;refine⟨L,_,U,.inl ⟨An.of ae,λle hle=>?_⟩⟩;have s5:Aa H3 (upd (upd H4 L (.lst ([((A3 n c.a:Nat):Int),((A3 n c.b:Nat):Int),((A3 n c.c:Nat):Int)].map V.int))) le (.tup ([((A3 n c.a:Nat):Int),((A3 n c.b:Nat):Int),((A3 n c.c:Nat):Int)].map V.int))):=s4.trans (Aa.new hL)\Aa.new hle;have hle5:upd (upd H4 L (.lst ([((A3 n c.a:Nat):Int),((A3 n c.b:Nat):Int),((A3 n c.c:Nat):Int)].map V.int))) le (.tup ([((A3 n c.a:Nat):Int),((A3 n c.b:Nat):Int),((A3 n c.c:Nat):Int)].map V.int)) le=Z (.tup (BQ (Ib n c))):=ae;generalize upd (upd H4 L (.lst ([((A3 n c.a:Nat):Int),((A3 n c.b:Nat):Int),((A3 n c.c:Nat):Int)].map V.int))) le _=H5 at s5 hle5 ⊢;have brs:∀ r∈[AW n c.a,AW n c.b,AW n c.c],Bq (k+6) r:=λr J=>by
   simp only[MA,MQ,Ob] at J;rcases J with rfl|rfl|rfl
   .show bqs bd.a
   .show bqs bd.b
   .show bqs bd.c
  refine⟨_,U,↥St,true,k+6,[AW n c.a,AW n c.b,AW n c.c],U,Ad.same s5 hS3,brs,(O:3<=500),Y,by change 3*(k+6)+(k+6)+1<=7900;lia,λtv H6 s6 htv=>?_⟩;obtain⟨B0,BS⟩:=ij brs 3 (O:3<=3);rw[Nh (O:3<=3)] at B0 BS;have dvd:∀ r∈[AW n c.a,AW n c.b,AW n c.c],(r.den:Int)∣AX [AW n c.a,AW n c.b,AW n c.c]:=λr J=>rH J
  have ovs:∀ r∈[AW n c.a,AW n c.b,AW n c.c],Sm (3*(k+6)+(k+6)+1) (ov (AX [AW n c.a,AW n c.b,AW n c.c]) r):=λr J=>ad9 brs J
  generalize AX [AW n c.a,AW n c.b,AW n c.c]=B at *;obtain⟨ta,ts,rfl,hta,hts⟩:=ay (b:=false) (ds:=[.list ([AW n c.a,AW n c.b,AW n c.c].map λr=>↑(ov B r)),↑B]) htv;obtain⟨t0,rfl,ht0⟩:∃ t0,ts=[t0,↑B]/\Ad K H6 (.list ([AW n c.a,AW n c.b,AW n c.c].map λr=>↑(ov B r))) t0:=by
   cases hts with
   |cons k1 k2=>
    cases k2 with
    |cons k3 k4=>
     cases k3;cases k4;show⟨_,U,k1⟩
  refine⟨ta,_,U,hta,U,_,_,U,_,_,U,U,?_⟩;obtain⟨tl,tls,rfl,htl,htls⟩:=ay (b:=true) (ds:=[AW n c.a,AW n c.b,AW n c.c].map λr=>↑(ov B r)) ht0;have N:=s6 _ _ hle5;refine⟨_,U,_,U,tl,le,true,false,U,⟨_,htl⟩,⟨_,AZ.of N⟩,dX (fs:=[↑(ov B (AW n c.a)-((A3 n c.a:Nat):Int)*B),↑(ov B (AW n c.b)-((A3 n c.b:Nat):Int)*B),↑(ov B (AW n c.c)-((A3 n c.c:Nat):Int)*B)]) htl (show AF K H6 le (BQ (Ib n c)) false from AZ.of N) htls (gx [((A3 n c.a:Nat):Int),((A3 n c.b:Nat):Int),((A3 n c.c:Nat):Int)]) U U (O:3<=1000) (λi e e' e'' u v T H7 hd he hf s7 hu hv' hT R kk S=>?_) (λfs H7 s7 hfs F hF=>?_)⟩
  .have sle:∀ {m:Nat},m+2<=n->Sm 8000 (m:Int):=λh=>Sm.mono (k:=20) (by unfold Sm;lia) O
   have sB:Sm 8000 B:=BS.mono Y;rcases j7 hd with ⟨rfl,rfl⟩|⟨rfl,rfl⟩|⟨rfl,rfl⟩
   .cases(Mn he);cases(Mn hf);cases hu;cases hv';show⟨T,_,U,AZ.of hT,U,_,_,U,_,_,U,U,aF (B:=S H7) ⟨_,U,_,U,_,U,_,_,U,U,.inl ⟨sle (ib dva),sB⟩,_,_,U,U,kk _ _ ⟨Aa.refl _,↑_⟩⟩⟩
   .cases(Mn he);cases(Mn hf);cases hu;cases hv';show⟨T,_,U,AZ.of hT,U,_,_,U,_,_,U,U,aF (B:=S H7) ⟨_,U,_,U,_,U,_,_,U,U,.inl ⟨sle (ib dvb),sB⟩,_,_,U,U,kk _ _ ⟨Aa.refl _,↑_⟩⟩⟩
   .cases(Mn he);cases(Mn hf);cases hu;cases hv';show⟨T,_,U,AZ.of hT,U,_,_,U,_,_,U,U,aF (B:=S H7) ⟨_,U,_,U,_,U,_,_,U,U,.inl ⟨sle (ib dvc),sB⟩,_,_,U,U,kk _ _ ⟨Aa.refl _,↑_⟩⟩⟩
  have efs:=cn (ns:=[ov B (AW n c.a)-((A3 n c.a:Nat):Int)*B,ov B (AW n c.b)-((A3 n c.b:Nat):Int)*B,ov B (AW n c.c)-((A3 n c.c:Nat):Int)*B]) hfs;subst efs;have BR:(B:Rat)≠0:=by
   intro z;have:B=0:=by exact_mod_cast z
   lia
  have ra:((ov B (AW n c.a)-((A3 n c.a:Nat):Int)*B:Int):Rat)=Cf n c.a*(B:Rat):=by
   rw[M6,MU,xF (dvd _ zyA)];unfold Cf;grind
  have rb:((ov B (AW n c.b)-((A3 n c.b:Nat):Int)*B:Int):Rat)=Cf n c.b*(B:Rat):=by
   rw[M6,MU,xF (dvd _ zyA)];unfold Cf;grind
  have rc:((ov B (AW n c.c)-((A3 n c.c:Nat):Int)*B:Int):Rat)=Cf n c.c*(B:Rat):=by
   rw[M6,MU,xF (dvd _ zyA)];unfold Cf;grind
  have sf:∀ {y:Rat},y∈[c.a,c.b,c.c]->Dv n y->Sm (4*k+30) (ov B (AW n y)-((A3 n y:Nat):Int)*B):=λ{y} hy dv=>by
   have h4:Sm (4*k+29) (((A3 n y:Nat):Int)*B):=((show Sm 3 ((A3 n y:Nat):Int) by have:=ib dv;unfold Sm;lia).mul BS).mono Y;show((ovs (AW n y) (by simp only[MA,MQ,Ob] at hy ⊢;rcases hy with rfl|rfl|rfl<;>simp)).mono Y).sub h4
  have sfa:=sf zyA dva;have sfb:=sf zyA dvb;have sfc:=sf zyA dvc;generalize ov B (AW n c.a)-((A3 n c.a:Nat):Int)*B=A at *;generalize ov B (AW n c.b)-((A3 n c.b:Nat):Int)*B=I at *;generalize ov B (AW n c.c)-((A3 n c.c:Nat):Int)*B=G at *;have s8:Aa H7 (upd H7 F (.lst ([A,I,G].map V.int))):=Aa.new hF;have hF8:An K (upd H7 F (.lst ([A,I,G].map V.int))) F [↑A,↑I,↑G]:=An.of ae;have s:Aa H (upd H7 F (.lst ([A,I,G].map V.int))):=(s3.trans s5\s6).trans s7\s8;have hle8:=(s7\s8) _ _ N;generalize upd H7 F _=H8 at s8 hF8 s hle8 ⊢;have hB8:Sm (4*k+30) B:=BS.mono Y;have cin:∀ t:Kn,t.1<=1->t.2.1<=1->t.2.2<=1->Ae (Ib n c) t∈As n:=λt u1 u2 u3=>by
   rw[cY];have l1:=ib dva;have l2:=ib dvb;have l3:=ib dvc;change A3 n c.a+t.1<n/\A3 n c.b+t.2.1<n/\A3 n c.c+t.2.2<n;lia
  have Jv:∀ j,Sm (4*k+30) (AR A I G j):=λj=>by
   match j with
   |0=>show sfa
   |1=>show sfb
   |_+2=>show sfc
  refine⟨_,U,a,C,dx,_,U,hC,s _ _ ha,U,_,U,?_⟩;refine⟨_,U,BX,mh.fnV hfa O,_,U,_,U,F,A,I,G,B,U,hF8,tb.same s,λo D9 ys H9 ho p1 p2 s9 hD9 hys=>?_⟩;have X:F_ (Ei n c) o:=by
   have mono:∀ i j,AR A I G i<=AR A I G j->Ei n c i<=Ei n c j:=λi j h=>by
    have l:∀ k,((AR A I G k:Int):Rat)=Ei n c k*(B:Rat):=λk=>by
     match k with
     |0=>show ra
     |1=>show rb
     |_+2=>show rc
    have h':((AR A I G i:Int):Rat)<=((AR A I G j:Int):Rat):=by exact_mod_cast h
    rw[l,l] at h';show QL h' (by exact_mod_cast B0)
   show⟨ho,mono _ _ p1,mono _ _ p2⟩
  obtain⟨o1,o2,o3⟩:=rN ho;have un1:∀ {j:Nat},j<3->(un j).1<=1/\(un j).2.1<=1/\(un j).2.2<=1:=λ{j} h=>by
   match j,h with
   |0,_=>decide
   |1,_=>decide
   |2,_=>decide
  have u2:∀ {p:Pc},p∈BK (AR A I G) B o.1 o.2.1 o.2.2->(p.1.1<=1/\p.1.2.1<=1/\p.1.2.2<=1)/\Sm (4*k+31) p.2:=λ{p} l=>by
   simp only[Bc,MA,MQ,Ob] at ho;simp only[BK,MA,MQ,Ob] at l;refine⟨?_,?_⟩
   .rcases ho with rfl|rfl|rfl|rfl|rfl|rfl<;>rcases l with rfl|rfl|rfl|rfl<;>(dsimp only;decide)
   .rcases l with rfl|rfl|rfl|rfl
    .show hB8.sub (Jv _)
    .show(Jv _).sub (Jv _)
    .show(Jv _).sub (Jv _)
    .show(Jv _).mono Y
  refine⟨↥a,↥le,D9,ys,n,f,Ib n c,_,U,hv.same (s\s9),jg (s9 _ _ hle8),hD9,hys,(O:4<=10),hw,λp l=>cin p.1 (u2 l).1.1 (u2 l).1.2.1 (u2 l).1.2.2,λp l=>(u2 l).2.mono Y,by rw[pS];lia,by rw[pS];show hB8.mono Y,λw Ha sa hwr=>?_⟩;have h0:((BK (AR A I G) B o.1 o.2.1 o.2.2).map (·.2)).sum≠0:=by rw[pS];lia
  have bb:∀ {g:R3->Int},(∀ r:R3,r.Wt->Sm 10 (g r))->Bq (4*k+45) (GF f (Ib n c) g (BK (AR A I G) B o.1 o.2.1 o.2.2)):=λhg=>Ok.mono (aeQ (n:=n) (λp l=>hg _ (hw _ (cin p.1 (u2 l).1.1 (u2 l).1.2.1 (u2 l).1.2.2))) (λp l=>(u2 l).2) h0) (by change 10+(4*k+31)+4<=4*k+45;lia)
  have bm:(HP f (Ib n c) (BK (AR A I G) B o.1 o.2.1 o.2.2)).Bd (4*k+45):=⟨bb λr h=>(aaO h).1,bb λr h=>(aaO h).2.1,bb λr h=>(aaO h).2.2⟩
  rw[show HP f (Ib n c) (BK (AR A I G) B o.1 o.2.1 o.2.2)=W4 n f c from Q3.ext (oW BR ra rb rc\p7 X) (oW BR ra rb rc\p7 X) (oW BR ra rb rc\p7 X)] at hwr bm;show q w Ha (s.trans s9\sa) hwr bm
def hJ:Am 1 "refuse_no_grid" j0 [] Dn:=by refine AK.cal T.x24.g kM<<<λm h=>?_;obtain⟨v,n,f,rfl,j,q⟩:=h;obtain⟨a,C,i,d,rfl,k,c,l⟩:=id j;refine⟨_,((ag (aQ (aO (aM (aq (yl (x:="Grid") Θ T.x3 T.xl) (by rfl) T.x0 aw (aL (pv 0) (dC (x:="Grid") Θ U (jL T.x3)))))) (ag bG) aE))),_,U,λD b=>?_⟩;have e:=bA k b;subst e;show⟨_,_,U,b,.inl ⟨a,i,_,U,c,_,U,aN q⟩⟩
def iS:Am 6 "worths_along" ["grid","least","order"] [] Er:=by
  refine AK.cal T.x25.g dG<<<λhr h=>?_;obtain⟨v,a,b,n,f,t,o,rfl,hv,ha,hb,ho,L,q⟩:=h;obtain⟨g,C,dx,d,rfl,hC,hg,hgr⟩:=id hv;refine⟨_,((ac (av 3 dG.nd (aS (jy Θ) (by rfl) T.xa eO (aJ (pv 1))))
   (ac (av 4 dG.nd (a_ (aJ (eA Θ am gy (hr.mono O) (pv 0) (aJ (pv 1))))))
   (ac (fj NO rfl (aY Θ (pv 2)) (ah 5 dG.nd) (ac (ad4 (pv 3) (pv 5) aaG aa abX kZ)
   (ag (bg (uI Pb Qd Q9 l8 (pv 4) (aJ (eA Θ am gy (hr.mono O) (pv 0) (aJ (aS (c9 Θ) (by rfl) T.x2 aZ (aJ (pv 3)))))))))))
   (ag (ao (pv 4))))))),?_⟩
  have mem:∀ {i:Nat},i<=3->Ae t (Bf o i)∈As n:=λhi=>wd L (vC ho hi)
  have t0:Ae t (Bf o 0)=t:=agw t;refine⟨_,U,a,_,U,.inr (AZ.of ha),λc S=>?_⟩;generalize e0:upd H c _=H1;have M:=e_ S e0;have gp:=cW e0;have tm:t∈As n:=by
   have:=mem (i:=0) O;rw[t0] at this;show this
  refine⟨_,U,g,C,dx,_,U,hC,M _ _ hg,U,_,U,↥g,↥a,n,f,t,U,hv.same M,jg (M _ _ ha),tm,λI R s2 hw0=>⟨le1,λj r=>?_⟩⟩;have gw:upd R j (.lst [I]) j=Z (.lst [I]):=ae;have sw:Aa R (upd R j (.lst [I])):=Aa.new r;have N:j≠c:=λz=>by rw[z,s2 _ _ gp] at r;cases r
  have x:Af K (upd R j (.lst [I])) ((I_ t o 1).map λu=>wD (f u)) [I]:=by
   have e:(I_ t o 1).map (λu=>wD (f u))=[wD (f t)]:=by
    show[wD (f (Ae t (Bf o 0)))]=_;rw[t0]
   rw[e];show .cons (Ad.same sw hw0) .nil
  generalize upd R j _=H3 at gw sw x ⊢;refine⟨_,U,b,false,U,⟨_,KT.sq hb⟩,iO (xs:=BQ o) (λi σ X=>(∃ o5:Option V,σ=[Z ↥g,Z ↥a,Z ↥b,Z ↥c,Z ↥j,o5])/\Aa H X/\X c=Z (.lst (BQ (Ae t (Bf o i))))/\∃ y,X j=Z (.lst y)/\Af K X ((I_ t o (i+1)).map λu=>wD (f u)) y)
   ⟨⟨_,U⟩,M.trans s2\sw,by rw[t0];show(s2\sw) _ _ gp,[I],gw,x⟩ (λi σ X _ _=>KT.sq hb) ?_ ?_⟩
  .rintro i xv σ J B ⟨⟨o5,rfl⟩,s4,s,y,F,k⟩;have hi:i<3:=(Mp.mp B).1;have exv:xv=↑((Gb o i:Nat):Int):=by
    match i,hi,B with
    |0,_,B=>show(Mn B).symm
    |1,_,B=>show(Mn B).symm
    |2,_,B=>show(Mn B).symm
   subst exv;have w3:=aaN (i:=i) ho;obtain⟨m,em,es⟩:=afv (t:=Ae t (Bf o i)) w3;rw[acv] at es;refine⟨_,U,_,U,c,_,_,_,U,U,Y,s,(show(BQ (Ae t (Bf o i)))[((Gb o i:Nat):Int).toNat]?=Z ↑m by rw[Ng];show em),_,_,U,U,c,_,_,Gb o i,U,U,s,xZ (by change Gb o i<3;show w3),?_⟩;have es:(BQ (Ae t (Bf o i))).set (Gb o i) ↑(m+1)=BQ (Ae t (Bf o (i+1))):=es;rw[es];have sA:Aa H (upd J c (.lst (BQ (Ae t (Bf o (i+1)))))):=kO s4 S;have gA:upd J c (.lst (BQ (Ae t (Bf o (i+1))))) c=Z (.lst (BQ (Ae t (Bf o (i+1))))):=ae;have G:upd J c (.lst (BQ (Ae t (Bf o (i+1))))) j=Z (.lst y):=by rw[ar N];show F
   have A:=Af.lput (zs:=BQ (Ae t (Bf o (i+1)))) s (nA _) k;generalize upd J c _=HA at sA gA G A ⊢;refine⟨_,U,.inl ⟨U,_,An.of G⟩,_,U,g,C,dx,_,U,hC,sA _ _ hg,U,_,U,c,_,U,.inl ⟨An.of gA,λl hl=>?_⟩⟩;generalize e0:upd HA l _=HB;have sl:=e_ hl e0;have gl:=cW e0;refine⟨↥g,↥l,n,f,Ae t (Bf o (i+1)),U,hv.same (sA\sl),jg gl,mem Y,λw1 HC sC hw1=>?_⟩;have p:=sl\sC;have D:=p _ _ G;have lw:=⇑k;rw[Mq] at lw;have lw4:⇑y<=4:=by
    rw[<- lw];change(List.map _ _).length<=4;rw[Mq,QF];lia
   refine⟨j,y,w1,U,U,D,fu Y,⟨_,U⟩,kO (sA\p) (vd (M\s2) r),by rw[ar N.symm];show p _ _ gA,_,ae,?_⟩;rw[ab3,Nx];show(Af.lput D (nA _) (Af.same p A)).snoc (by
    have:=Af.lput (zs:=y++[w1]) D (ds:=[wD (f (Ae t (Bf o (i+1))))]) U (.cons hw1 .nil);cases this with
    |cons h _=>show h)
  .rintro σ J ⟨⟨o5,rfl⟩,s4,s,y,F,k⟩;show⟨_,U,q _ J s4 (.lst (.inl F) k)⟩
def jm:Am 1 "differences" ["worths"] [] EF:=by
  refine AK.cal T.x26.g pY<<<λhr h=>?_;obtain⟨x,X,r,z,L,rfl,hx,q⟩:=h;refine⟨_,((ag (ao (az oR [] [] 2 (fX Θ U T.x7 (aL (pv 0) (jd (abw Θ) (pv 0) (lF aa) lA))) (λo=>(bJ (n:=2) Θ U (aj (ah 0 o) (aj (ah 1 o) aK)))) ax (az uC4 [] [] 2 (fX Θ U T.x7 (aL (pv 0) (pv 1))) (λo=>(bJ (n:=2) Θ U (aj (ah 0 o) (aj (ah 1 o) aK)))) ax (au bI (pv 1) (pv 0))))))),?_⟩;obtain⟨xa,xs,rfl,f,hxs⟩:=ay (b:=true) hx;obtain⟨G,a,rfl,h0,s⟩:∃ G a,xs=G::a/\Ad K H (wD X) G/\Af K H [wD r,wD z,wD L] a:=by
   cases hxs with
   |cons h t=>show⟨_,_,U,h,t⟩
  refine⟨_,U,_,U,1,U,xa,_,U,f,λp hp=>?_⟩;rw[kW (G::a) zyA];have m:Aa H (upd H p (.lst a)):=Aa.new hp;have N:upd H p (.lst a) p=Z (.lst a):=ae;dsimp only [List.drop];generalize upd H p _=H1 at m N ⊢;refine⟨xa,p,true,true,U,⟨_,AF.same m f⟩,⟨_,An.of N⟩,iD (fs:=[AE true (r.sub X),AE true (z.sub r),AE true (L.sub z)]) (AF.same m f) (show AF K H1 p a true from An.of N) (Af.same m (.cons h0 s)) (Af.same m s) (O:3<=4) U (O:4<=1000) (λi d e f' x y T H2 A I v s2 hx2 hy2 hT R kk S=>?_) (λzs H2 s2 c zzQ F=>?_)⟩
  .obtain⟨u,w,rfl,rfl,rfl⟩:∃ u w:R3,d=wD u/\e=wD w/\f'=AE true (w.sub u):=by
    rcases j7 I with ⟨rfl,rfl⟩|⟨rfl,rfl⟩|⟨rfl,rfl⟩
    .show⟨X,r,(Mn A).symm,U,(Mn v).symm⟩
    .show⟨r,z,(Mn A).symm,U,(Mn v).symm⟩
    .show⟨z,L,(Mn A).symm,U,(Mn v).symm⟩
   obtain⟨ua,rfl,C⟩:=cN (b:=false) hx2;obtain⟨wa,rfl,D⟩:=cN (b:=false) hy2;refine⟨T,_,U,AZ.of hT,U,_,_,U,_,_,U,U,aF (B:=S H2) ⟨_,U,_,U,ua,wa,false,false,U,⟨_,C⟩,⟨_,D⟩,dX (K:=K) (fs:=(w.sub u).ds) C D (lh _) (lh _) U U (O:3<=1000) (λj d e g' x y T' H3 A I v s3 J hy3 M R' kk' S'=>?_) (λzs H3 s3 c zzQ F=>?_)⟩⟩
   .obtain⟨k,l,rfl,rfl,rfl⟩:∃ k l:Int,d=↑k/\e=↑l/\g'=↑(l-k):=by
     rcases j7 A with ⟨rfl,rfl⟩|⟨rfl,rfl⟩|⟨rfl,rfl⟩<;>(cases(Mn I);cases(Mn v);show⟨_,_,rfl,rfl,rfl⟩)
    cases J;cases hy3;show⟨T',_,U,AZ.of M,U,_,_,U,_,_,U,U,aF (B:=S' H3) ⟨_,U,_,U,_,_,U,U,kk' _ _ ⟨Aa.refl _,↑_⟩⟩⟩
   .show kk _ _ ⟨s3\Aa.new F,Ad.listN F c⟩
  .show q _ _ (m.trans s2\Aa.new F) (Ad.listN F c)
def ug:Am 3 "distances" ["goal","start","rows","size"] [] FO:=by
  refine AK.cal T.x27.g cm<<<λN h=>?_;obtain⟨x,y,z,e,r,sq,rfl,hx,be,hy,o,hz,f,hd,q⟩:=h;refine⟨_,((ac (dA (af am gX N (aJ (pv 0))) (bJ (n:=2) Θ U (aj (ah 4 cm.nd) (aj (ah 5 cm.nd) aK))))
   (ac (av 6 cm.nd (az ["top","number"] ["below"] [5] 2 (fX Θ U T.x7 (aL (pv 4) (pv 1))) (λnd=>(bJ (n:=2) Θ U (aj (ah 0 nd) (aj (ah 1 nd) aK)))) ax (au bI (pv 0) (au aD (pv 1) (pv 2)))))
   (ac (dA (pv 2) (vf (n:=3) Θ U (aj (ah 7 cm.nd) (aj (ah 8 cm.nd) (aj (ah 9 cm.nd) aK)))))
   (ac (av 10 cm.nd (a_ (ai (af am dM N (aL (pv 8) (pv 9))) (ai (af am dM N (aL (pv 9) (pv 7))) (ai (af am dM N (aL (pv 7) (pv 8))) aH)))))
   (ag (ao (az ["row"] ["away","size","below"] [6,3,5] 1 (aY Θ (pv 10)) (λnd=>(ah 0 nd)) ax (af am (bB T.xe) N (aL (af am i7 N (aL (pv 1) (pv 0))) (au aD (pv 2) (pv 3)))))))))))),_,U,x,false,250,[e.a,e.b,e.c],U,hx,wT be,(O:3<=500),O,(O:3*250+250+1<=7900),λtv H1 s1 htv=>?_⟩
  obtain⟨B0,BS⟩:=xL be;obtain⟨z0,z1⟩:=aef be f hd;obtain⟨w1,w2,w3⟩:=xY be o;obtain⟨ta,ts,rfl,hta,hts⟩:=ay (b:=false) (ds:=[.list ([e.a,e.b,e.c].map λq=>↑(ov (dB e) q)),↑(dB e)]) htv;obtain⟨X,rfl,ht0⟩:∃ X,ts=[X,↑(dB e)]/\Ad K H1 (.list ([e.a,e.b,e.c].map λq=>↑(ov (dB e) q))) X:=by
   obtain⟨X,t1,rfl,k0,k1⟩:=xS hts;cases k1;show⟨X,U,k0⟩
  obtain⟨tl,tls,rfl,htl,htls⟩:=ay (b:=true) (ds:=[e.a,e.b,e.c].map λq=>↑(ov (dB e) q)) ht0;have etl:=cn (ns:=[ov (dB e) e.a,ov (dB e) e.b,ov (dB e) e.c]) htls;subst etl;obtain⟨ya,rfl,hya⟩:=cN (b:=false) (Ad.same s1 hy);refine⟨ta,_,U,hta,U,_,_,U,_,_,U,U,_,U,_,U,tl,ya,true,false,U,⟨_,htl⟩,⟨_,hya⟩,dX (K:=K) (fs:=(AY e r).ds) htl hya (gx [ov (dB e) e.a,ov (dB e) e.b,ov (dB e) e.c]) (lh _) U U (O:3<=1000) (λj d e' g' x y T' v hd he hf s3 hx3 hy3 hT' R' kk' S'=>?_) (λzs v s3 t p hZ=>?_)⟩
  .obtain⟨k,l,rfl,rfl,rfl,s⟩:∃ k l:Int,d=↑k/\e'=↑l/\g'=↑(k-l*dB e)/\Sm 13 l:=by
    rcases j7 hd with ⟨rfl,rfl⟩|⟨rfl,rfl⟩|⟨rfl,rfl⟩<;>(cases(Mn he);cases(Mn hf))
    .show⟨_,_,U,U,U,gO o.a1 o.a2⟩
    .show⟨_,_,U,U,U,gO o.b1 o.b2⟩
    .show⟨_,_,U,U,U,gO o.c1 o.c2⟩
   cases hx3;cases hy3;show⟨T',_,U,AZ.of hT',U,_,_,U,_,_,U,U,aF (B:=S' v) ⟨_,U,_,U,_,U,_,_,U,U,.inr (s.mono O),_,_,U,U,kk' _ _ ⟨Aa.refl _,↑_⟩⟩⟩
  .have ez:=dY t;subst ez;have sZ:Aa v (upd v p (.lst (AY e r).vs)):=Aa.new hZ;have gZ:upd v p (.lst (AY e r).vs) p=Z (.lst (AY e r).vs):=ae;have G:Aa H (upd v p (.lst (AY e r).vs)):=s1.trans s3\sZ;generalize upd v p _=H4 at sZ gZ G ⊢;obtain⟨a,xs,rfl,ha,hds⟩:=ay (Ad.same G hz);obtain⟨x0,x1,x2,rfl,g0,g1,g2⟩:=b_ hds;refine⟨_,U,a,_,U,ic ha,U,_,_,U,_,_,U,_,_,U,U,_,U,_,U,x1,x2,_,_,sq.y,sq.z,U,g1,g2,f.y,f.z,λJ H5 s5 h0=>⟨_,U,_,U,x2,x0,_,_,sq.z,sq.x,U,Ad.same s5 g2,Ad.same s5 g0,f.z,f.x,λL H6 s6 h1=>⟨_,U,_,U,x0,x1,_,_,sq.x,sq.y,U,Ad.same (s5\s6) g0,Ad.same (s5\s6) g1,f.x,f.y,λI M s7 h2=>⟨sX,λC hC=>?_⟩⟩⟩⟩;have sC:Aa M (upd M C (.lst [J,L,I])):=Aa.new hC;have hcs:Af K (upd M C (.lst [J,L,I])) [AE true sq.c0,AE true sq.c1,AE true sq.c2] [J,L,I]:=.cons (Ad.same (s6.trans s7\sC) h0) (.cons (Ad.same (s7\sC) h1) (.cons (Ad.same sC h2) .nil));have A:AF K (upd M C (.lst [J,L,I])) C [J,L,I] true:=An.of ae;have F:Aa H4 (upd M C (.lst [J,L,I])):=s5.trans s6\(s7\sC);generalize upd M C _=H8 at hcs A F ⊢;have sms:∀ m∈[(AY e r).a,(AY e r).b,(AY e r).c],Sm 8000 m:=λm hm=>by
    simp only[MA,MQ,Ob] at hm;rcases hm with rfl|rfl|rfl
    .show w1.mono O
    .show w2.mono O
    .show w3.mono O
   have smc:∀ {c:R3},c.In 200000000->∀ m∈[c.a,c.b,c.c],Sm 8000 m:=λ{c} s m hm=>by
    simp only[MA,MQ,Ob] at hm;rcases hm with rfl|rfl|rfl
    .show(zj s.a1 s.a2).mono O
    .show(zj s.b1 s.b2).mono O
    .show(zj s.c1 s.c2).mono O
   refine⟨_,U,C,true,U,⟨_,A⟩,aW (es:=(CF e r sq).ds) A hcs rfl (O:3<=1000) (λi d e' u H9 hd9 he s9 hu R kk S=>(aF (B:=S H9) ?_)) (λzs H9 s9 t D hD=>q D zs _ (G\(F.trans s9\Aa.new hD)) ae (Af.same (Aa.new hD) t))⟩;obtain⟨c,rfl,rfl,s⟩:∃ c:R3,d=AE true c/\e'=rD (((AY e r).dot c:Rat)/((sq.det*dB e:Int):Rat))/\c.In 200000000:=by
    rcases j7 hd9 with ⟨rfl,rfl⟩|⟨rfl,rfl⟩|⟨rfl,rfl⟩<;>cases(Mn he)
    .show⟨_,U,U,dF f.y f.z⟩
    .show⟨_,U,U,dF f.z f.x⟩
    .show⟨_,U,U,dF f.x f.y⟩
   obtain⟨g,rfl,hg⟩:=cN hu;refine⟨_,U,_,U,p,g,true,true,[(AY e r).a,(AY e r).b,(AY e r).c],[c.a,c.b,c.c],U,An.of ((F\s9) _ _ gZ),hg,U,(O:3<=1000),sms,smc s,λH10 s10=>?_⟩;rw[adO];show⟨_,U,_,U,_,_,U,U,.inr ((tM f).mono (show 60<=64 by decide)),_,_,U,z0,z1.mono O,Cs.sh z0 λv8 H8 s8 hv8=>kk _ _ ⟨s10\s8,hv8⟩⟩
def qJ:Am 3 "is_in_part" ["far"] [] Fk:=by
  refine AK.cal T.x28.g j_<<<λhr h=>?_;obtain⟨a,ws,p,rfl,ha,N,r,q⟩:=h;refine⟨_,((ac (av 1 j_.nd (au iY (au iY (a_ (aJ (af am (bB T.xc) hr (aJ aa)))) (pv 0)) (a_ (aJ (af am (bB T.xc) hr (aJ aa))))))
   (ag (ao (pV (aq (aei Θ U) (by rfl) T.xn acH (aJ (az oR [] [] 2 (fX Θ U T.x7 (aL (pv 1) (jd (abw Θ) (pv 1) (lF aa) lA))) (λnd=>(bJ (n:=2) Θ U (aj (ah 0 nd) (aj (ah 1 nd) aK)))) ax (af am pC hr (aL (pv 0) (pv 1))))))))))),?_⟩
  obtain⟨x0,x1,x2,rfl,g0,g1,g2⟩:=b_ N;have o1:Sm 8000 (1:Int):=Sm.mono (k:=20) (by unfold Sm;decide) O;refine⟨1,1,U,O,o1,Cs.sh O λv1 H1 s1 z=>?_⟩;rw[fJ] at z;refine⟨le1,λp1 L=>?_⟩;generalize f:upd H1 p1 _=H2;have X:=e_ L f;refine⟨_,U,p1,a,_,_,U,U,cW f,(s1\X) _ _ ha,(O:4<=MO),λm hZ=>?_⟩;generalize f:upd H2 m _=H3;have s3:=e_ hZ f;have gZ:=cW f;refine⟨0,1,U,O,o1,Cs.sh O λv2 H4 s4 s=>?_⟩;rw[fJ] at s;refine⟨le1,λp2 hp2=>?_⟩;generalize f:upd H4 p2 _=H5;have C:=e_ hp2 f;have gq:=cW f;refine⟨m,p2,_,_,U,U,(s4\C) _ _ gZ,gq,(O:5<=MO),λF hF=>?_⟩;generalize f:upd H5 F _=H6;have M:=e_ hF f;have I:=cW f;refine⟨_,U,_,U,1,U,F,_,U,An.of I,λG hG=>?_⟩;rw[kW _ zyA];generalize f:upd H6 G _=H7;have v:=e_ hG f;have gG:=cW f;have A:=(s1\X).trans (s3\(s4\C))\(M\v);have t:Af K H7 [rD p.a,rD p.b,rD p.c,rD ((0:Int):Rat)] [x0,x1,x2,v2]:=by
   obtain⟨_,_,_,e,k0,k1,k2⟩:=b_ (Af.same A (.cons g0 (.cons g1 (.cons g2 .nil))));cases e;show .cons k0 (.cons k1 (.cons k2 (.cons (Ad.same (C\(M\v)) s) .nil)))
  have b1:Bq 3900 ((1:Int):Rat):=by
   rw[<- fJ];show dE O (Sm.mono (k:=20) (by unfold Sm;decide) O) (Sm.mono (k:=20) (by unfold Sm;decide) O)
  refine⟨F,G,true,true,U,⟨_,An.of (v _ _ I)⟩,⟨_,An.of gG⟩,iD (K:=K) (fs:=[.bool (decide (1<p.a)),.bool (decide (p.a<p.b)),.bool (decide (p.b<p.c)),.bool (decide (p.c<0))]) (An.of (v _ _ I)) (show AF K H7 G [x0,x1,x2,v2] true from An.of gG) (.cons (Ad.same (X.trans (s3\(s4\C))\(M\v)) z) t) t (O:4<=5) U (O:5<=1000) (λi d e f' x y T H8 o j l s8 J hy8 hT R kk S=>?_) (λzs H8 s8 D m hZ=>?_)⟩
  .obtain⟨u,w,rfl,rfl,rfl,bu,bw⟩:∃ u w:Rat,d=rD u/\e=rD w/\f'=.bool (decide (u<w))/\Bq 3900 u/\Bq 3900 w:=by
    match i,o,j,l with
    |0,o,j,l=>cases o;cases j;cases l;show⟨_,_,U,U,U,b1,r.a⟩
    |1,o,j,l=>cases o;cases j;cases l;show⟨_,_,U,U,U,r.a,r.b⟩
    |2,o,j,l=>cases o;cases j;cases l;show⟨_,_,U,U,U,r.b,r.c⟩
    |3,o,j,l=>cases o;cases j;cases l;show⟨_,_,U,U,U,r.c,Ok.mono bq0 O⟩
    |n+4,_,j,_=>simp at j
   show⟨T,_,U,AZ.of hT,U,_,_,U,_,_,U,U,aF (B:=S H8) ⟨_,U,_,U,x,y,u,w,U,J,hy8,bu,bw,kk _ _ ⟨Aa.refl _,.bl _⟩⟩⟩
  .have ez:=c6 (bs:=[decide (1<p.a),decide (p.a<p.b),decide (p.b<p.c),decide (p.c<0)]) D;subst ez;show⟨m,_,U,An.of ae,_,U,q _ (A.trans s8\Aa.new hZ)⟩
def t5:Am 5 "colour_at" ["least","order","far","apart"] [] FV:=by
  refine AK.cal T.x29.g f8<<<λA h=>?_;obtain⟨a,b,x,ws,t,o,p,j,rfl,ha,t1,t2,t3,hb,ho,hx,hws,M,a0,a1,q⟩:=h;refine⟨_,((ac (av 4 f8.nd (a_ (ai (af am (bB T.xc) A (aJ aa)) (ai (af am (bB T.xc) A (aJ aa)) (ai (af am (bB T.xc) A (aJ aa)) aH)))))
   (ac (fj NO rfl (fX Θ U T.x7 (aL (pv 1) (pv 2))) (bJ (n:=2) Θ U (aj (ah 5 f8.nd) (aj (ah 6 f8.nd) aK))) (ag (dA (af am kf A (aL (af am u9 A (aL (af am (bB T.xc) A (aJ (ak K (pv 0) (pv 5)))) (pv 6))) (af am (bB T.xc) A (aJ (pv 3))))) (wE (pv 4) (pv 5) kZ))))
   (ag (ao (aS (c9 Θ) (by rfl) T.x2 aZ (aJ (pv 4)))))))),?_⟩
  obtain⟨x0,x1,x2,rfl,g0,g1,g2⟩:=b_ hws;have C:Sm 8000 (1:Int):=Sm.mono (k:=20) (by unfold Sm;decide) O;refine⟨0,1,U,O,C,Cs.sh O λv0 H1 s1 G=>⟨0,1,U,O,C,Cs.sh O λv1 H2 s2 I=>⟨0,1,U,O,C,Cs.sh O λv2 H3 S B=>?_⟩⟩⟩;rw[fJ] at G I B;refine⟨sX,λN hN=>?_⟩;generalize e0:upd H3 N _=H4;have L:=e_ hN e0;have F:=(s1\s2).trans S\L;refine⟨_,U,_,U,b,x,false,true,U,⟨_,KT.sq hb⟩,⟨_,An.of (F _ _ hx)⟩,adW (K:=K) (xs:=BQ o) (ys:=[x0,x1,x2]) (λi R X=>(∃ o5 o6:Option V,R=[Z ↥a,Z ↥b,Z ↥x,Z ↑j,Z ↥N,o5,o6])/\Aa H X/\∃ ns,X N=Z (.lst ns)/\Af K X ((C5 t o p j i).map rD) ns)
   ⟨⟨_,_,U⟩,F,_,cW e0,.cons (Ad.same (s2.trans S\L) G) (.cons (Ad.same (S\L) I) (.cons (Ad.same L B) .nil))⟩ rfl (λi R X _ pv=>⟨KT.sq hb,An.of (pv.2.1 _ _ hx)⟩) ?_ ?_⟩
  .rintro i xv yv T R r m u ⟨⟨o5,o6,rfl⟩,s,ns,z,f⟩ hT;have hi:i<3:=(Mp.mp m).1;have exv:xv=↑((Gb o i:Nat):Int):=by
    match i,hi,m with
    |0,_,m=>show(Mn m).symm
    |1,_,m=>show(Mn m).symm
    |2,_,m=>show(Mn m).symm
   subst exv;have v:Ad K r (rD ([p.a,p.b,p.c].getD i 0)) yv/\Bq 1035 ([p.a,p.b,p.c].getD i 0):=by
    match i,hi,u with
    |0,_,u=>cases u;show⟨Ad.same s g0,M.a⟩
    |1,_,u=>cases u;show⟨Ad.same s g1,M.b⟩
    |2,_,u=>cases u;show⟨Ad.same s g2,M.c⟩
   obtain⟨v,D⟩:=v;have w3:=aaN (i:=i) ho;have J:Aa r (upd r T (.tup [↑(Gb o i:Nat),yv])):=Aa.new hT;refine⟨T,_,U,AZ.of ae,U,_,_,U,_,_,U,U,?_⟩;generalize upd r T _=H6 at J ⊢;refine⟨_,U,_,U,fE (b:=false) (i:=Gb o i) (AZ.of ((s\J) _ _ ha)) (aew w3) ?_⟩;have o7:Sm 7 (1:Int):=by unfold Sm;decide
   have bk:Bq 7 ((((JR t).getD (Gb o i) 0:Int):Rat)/((1:Int):Rat)):=dE O (acA t1 t2 t3) o7;refine⟨_,1,U,O,C,Cs.sh O λu1 H7 s7 hu1=>⟨_,U,u1,yv,_,_,_,_,U,hu1,Ad.same (J\s7) v,bk.mono O,D.mono O,Cs.sh (pA _ _) ?_⟩⟩;rw[<- sK];refine λu2 H8 s8 hu2=>⟨_,U,j,1,U,O,C,Cs.sh O λu3 H9 s9 hu3=>⟨u2,u3,_,_,_,_,U,Ad.same s9 hu2,hu3,Ok.mono (Bq.add bk D) O,(dE O (show Sm 7 j by unfold Sm;lia) o7).mono O,Cs.sh (pA _ _) ?_⟩⟩
   rw[<- t_];refine λu4 H10 s10 hu4=>?_
   have y:Aa r H10:=(J\s7).trans s8\(s9\s10);have d:=y _ _ z;have ln:⇑ns=3:=by rw[<- ⇑f,Mq,k_]
   refine⟨_,U,_,U,N,ns,_,Gb o i,U,U,d,xZ (by rw[ln];show w3),⟨_,_,U⟩,kO (s\y) (vd (s1.trans s2\S) hN),_,ae,?_⟩;have e:(C5 t o p j (i+1)).map rD=((C5 t o p j i).map rD).set (Gb o i) (rD (((((JR t).getD (Gb o i) 0:Int):Rat)/((1:Int):Rat)+[p.a,p.b,p.c].getD i 0)*(((j:Int):Rat)/((1:Int):Rat)))):=by rw[C5,List.map_set]
   rw[e];have k2:=Af.lput (zs:=ns.set (Gb o i) u4) d (sU [_]) (.cons hu4 .nil);cases k2 with
   |cons k2 _=>show uw k2 _ (Af.lput d (sU _) (Af.same y f))
  .rintro R r ⟨⟨o5,o6,rfl⟩,s,ns,z,f⟩;have d:Af K r (Gz t o p j).ds ns:=by rw[<- ae5];show f
   show⟨_,U,N,ns,U,.inl ⟨An.of z,λl m=>q _ _ (s\Aa.new m) (aek t1 t2 t3 M a0 a1) (Ad.tupN m d)⟩⟩
def pT:Am 7 "way_in_part" ["grid","least","order","goal"] [] ED:=by
  refine AK.cal T.x2a.g cX<<<λr h=>?_;obtain⟨v,y,a,b,n,f,t,o,e,rfl,hv,wt,n2,n7,ha,hb,X,c,hy,be,q0,q1⟩:=h;obtain⟨g,C,dx,d,rfl,hC,hg,hgr⟩:=id hv;refine⟨_,((ac (av 4 cX.nd (af am iS r (ai (pv 0) (ai (pv 1) (ai (pv 2) aH)))))
   (ac (av 5 cX.nd (af am jm r (aJ (pv 4))))
   (ac (av 6 cX.nd (af am lR r (aJ (pv 5))))
   (ac (aQ (aG bY (pv 6) aa (aA _)) (ag (ao fh)) aE)
   (ac (av 7 cX.nd (af am ug r (ai (pv 3) (ai (ak K (pv 4) aa) (ai (pv 5) (ai (pv 6) aH))))))
   (ac (aQ (aO (aM (af am qJ r (aJ (pv 7))))) (ag (ao fh)) aE)
   (ag (ao (af am t5 r (ai (pv 1) (ai (pv 2) (ai (pv 7) (ai (ak K (eJ Θ am gB (r.mono O) (pv 0)) aa) aH)))))))))))))),?_⟩
  have mem:∀ {i:Nat},i<=3->(f (Ae t (Bf o i))).Wt:=λhi=>wt _ (wd c (vC X hi))
  refine⟨_,U,_,U,_,U,↥g,a,b,n,f,t,o,U,hv,ha,hb,X,c,λw H1 s1 hw=>?_⟩;obtain⟨wa,B,rfl,hwa,j⟩:=ay (b:=true) (ds:=(I_ t o 4).map λu=>wD (f u)) hw;obtain⟨I,ys,rfl,h0⟩:∃ I ys,B=I::ys/\Ad K H1 (wD (f (Ae t (Bf o 0)))) I:=by
   cases j with
   |cons h t=>show⟨_,_,U,h⟩
  refine⟨_,U,↥wa,_,_,_,_,U,hw,λw2 H2 R x=>?_⟩;have m:(Au f (t,o)).In:=abQ (mem O) (mem O) (mem O) (mem O);refine⟨_,U,w2,Au f (t,o),U,x,m,λH3 G=>?_⟩;have q:=s1.trans R\G;have r0:=agf (mem (i:=0) O);refine⟨_,U,_,_,U,U,_,U,dg (λp=>?_) (λp=>?_)⟩
  .have A:=N1 p;show q0 _ q (by unfold CB;rw[M' A])
  .have A:(Au f (t,o)).det≠0:=λz=>p (MB z)
   refine⟨_,U,_,U,fE (b:=true) (i:=0) (AF.same (b:=true) (R\G) hwa) U ⟨_,U,_,U,y,I,w2,e,f (Ae t (Bf o 0)),Au f (t,o),U,Ad.same q hy,be,Ad.same (R\G) h0,r0,Ad.same G x,m,A,λD B H4 s4 hD j=>?_⟩⟩;have J:=aez be r0 m A;generalize hF:CF e (f (Ae t (Bf o 0))) (Au f (t,o))=F at J j;refine⟨_,U,D,B,F,U,hD,j,J.mono O,λH5 S=>?_⟩;have k:=q.trans s4\S;have ew:CB n f e (t,o)=if IC F=true then Z (Gz t o F (B3 n)) else none:=by unfold CB;rw[MZ A];dsimp only;rw[hF]
   refine⟨_,U,dg (λp=>?_) (λp=>?_)⟩
   .have l:IC F=false:=by simpa using p
    show q0 _ k (by rw[ew,l];rfl)
   .have l:IC F=true:=by simpa using p
    refine⟨_,U,_,U,_,U,_,U,g,C,dx,_,U,hC,k _ _ hg,U,↥g,n,f,U,hv.same k,n2,n7,λw6 H6 L hw6=>?_⟩;obtain⟨sa,ss,rfl,hsa,M⟩:=ay (b:=false) (ds:=[↑n,↑(B3 n)]) hw6;have es:=cn (ns:=[(n:Int),B3 n]) M;subst es;have s:=k\L;obtain⟨p0,p1⟩:=agm n2 n7;obtain⟨l1,l2,l3⟩:=id c;show fE (b:=false) (i:=1) hsa rfl ⟨a,b,D,B,t,o,F,B3 n,U,s _ _ ha,Y,Y,Y,hb,X,(S\L) _ _ hD,Af.same (S\L) j,J,p0,p1,λw7 H7 s7 bd7 N=>q1 _ w7 H7 (s\s7) (by rw[ew,M' l]) bd7 N⟩
def yS:Am 1 "rising" ["colours"] [] HE:=by
  refine T.x3u.cal qY<<<λhcv g h=>?_;obtain⟨l,G,rfl,X,z,bx,hn,⟨Pt,tb,hP⟩,q⟩:=h;obtain⟨c,rfl,I⟩:=hcv Pt tb;refine⟨_,((ac (av 1 qY.nd (au adv (acT Θ U U T.xr (lv rfl (aY Θ (pv 0)) (jU zyB (by rfl)) (l7 (ts:=uB8) (cs:=[]) (js:=[]) (k:=3) (by rfl) U U) (λ_ _ _ _ _=>(ah 0 (show QD (α:=Str) uB8 by decide +kernel))) (λ_ _ _ _ _=>ax) (λ_ _ _ _ _=>(nV rfl rfl rfl (aY Θ (pv 0)) (bJ (n:=2) Θ U (aj (ah 1 (show QD (α:=Str) uB8 by decide +kernel)) (aj (ah 2 (show QD (α:=Str) uB8 by decide +kernel)) aK))) ax (jV rfl (pv 2)))))) aa))
   (ag (ao (aaY (i:=1) Θ U g.u2 g rfl T.xf rfl I rfl rfl (pv 0)))))),_,U,l,true,U,⟨_,An.of X⟩,l_ (λi o s=>Aa H s/\o=(DC (G.take i)).map V.int) ⟨Aa.refl _,U⟩ (λi o s _ p=>An.of (p.1 _ _ X)) (λi x o F ex p R kk S=>?_) (λo F p=>?_)⟩
  .obtain⟨C,y⟩:=p;rw[Mw] at ex;obtain⟨p,ep,rfl⟩:=MG.mp ex;obtain⟨xa,ya,za,t,L⟩:=ab0 (Ad.same C (z p (MD ep)));refine aF (B:=S F) ⟨_,U,p.2,false,U,⟨_,AZ.of t⟩,kL (b:=false) (λj A d s=>(∃ J N:Option V,A=[Z ↥p.2,J,N])/\Aa F s/\d=(DC (G.take i)++((Dw p.1).take j).map (·.2)).map V.int) ⟨⟨_,_,U⟩,Aa.refl _,by simpa using y⟩ (λj A d s _ pv=>AZ.of (pv.2.1 _ _ t)) (λj v A d H4 ev pv R2 M S2=>?_) (λA d H4 pv=>?_)⟩
   .obtain⟨⟨J,N,rfl⟩,f,e⟩:=pv;obtain⟨r,er⟩:∃ r,(Dw p.1)[j]?=Z r:=⟨_,MC (show j<3 from((Mp.mp ev).1))⟩
    obtain⟨b,rfl,hb⟩:=L j v r ev er;have lt:⇑d<=3*64+3:=by
     rw[e,Mq,MP,ur,Nl,Mq,Nl];have:⇑(Dw p.1)=3:=U;lia
    refine⟨b,_,U,AZ.of (f _ _ hb),U,_,_,U,_,_,U,U,aF (B:=S2 [Z ↥p.2,Z ↑r.1,Z ↑r.2] H4) ⟨Pz lt O,_,U,M _ _ _ ⟨⟨_,_,U⟩,f,?_⟩⟩⟩;rw[bD er,e];simp only[Nx,OT,MR,Px]
   .obtain⟨⟨J,N,rfl⟩,f,e⟩:=pv;refine kk _ _ _ ⟨C\f,?_⟩;rw[bD ep,zP,e];rfl
  .obtain⟨C,y⟩:=p;rw[Nh (by rw[Mq];show Mz _)] at y;have N:⇑o<=1000:=by rw[y,Mq,ur];lia
   refine⟨N,λD hD=>⟨D,DC G,U,An.of (by rw[y];show ae),λm J=>?_⟩⟩;obtain⟨L,A,M⟩:=adT (k:=1060) (by unfold Sm;decide +kernel) (adc bx) J;have f:Aa H (upd F D (.lst o)):=C\Aa.new hD;have sz:Sm 2120 (m^2):=by
    rw[Int.pow_succ,Int.pow_succ,Int.pow_zero,Int.one_mul];show(A.mul A).mono O
   refine⟨_,_,U,U,⟨O,O,A.mono O⟩,_,U,l,G,m^2,U,An.of (f _ _ X),λp e=>Ad.same f (z p e),hn,U,λp e r g=>?_,f _ _ hP,λH2 D2 s5 d=>q (m^2) D2 _ ⟨m,U,L,M,J.elim (λh=>.inl h.2) λh=>.inr h.1⟩ (f.trans s5\Aa.new d) ae⟩;have b:=bx p e;unfold Dw at g;simp only[MA,MQ,Ob] at g;have all:∀ {u:Rat},Bq 1060 u->Sm 8000 u.num/\Sm 8000 (m^2)/\Sm 8000 (u.num*m^2)/\Sm 8000 (u.den:Int):=λ{u} t=>⟨t.sn.mono O,sz.mono O,(t.sn.mul sz).mono O,t.sd.mono O⟩
   rcases g with rfl|rfl|rfl
   .show all b.a
   .show all b.b
   .show all b.c
def lB:Am 8 "ways_back" ["grid","goal"] [] FY:=by
  refine AK.cal T.x2b.g eN<<<λs h=>?_;obtain⟨v,y,n,f,e,rfl,hv,wt,S,n3,hy,be,tb,q⟩:=h;refine⟨_,((ac (bg (af am hJ s (aJ (pv 0))))
   (ac (bg (af am cC s (aJ (pv 1))))
   (ac (av 2 eN.nd (acF (P:=P) (w:=w) U U))
   (ac (fj NO rfl (aY Θ (af am mJ s (aJ (pv 0)))) (bJ (n:=2) Θ U (aj (ah 3 eN.nd) (aj (ah 4 eN.nd) aK))) (ac (av 5 eN.nd (af am pT s (ai (pv 0) (ai (pv 3) (ai (pv 4) (ai (pv 1) aH))))))
   (ag (aQ (aG tE (pv 5) fh (aA _)) (ag (abS (P:=P) (w:=w) (K:=K) U U s.u2 (pv 2) (pv 5) eF rfl)) aE))))
   (ag (ao (af am yS s (aJ (aS (vB (P:=P) (w:=w) (K:=K) U U U) (by rfl) T.xa eO (aJ (pv 2)))))))))))),_,U,v,n,f,U,hv,_,U,y,e.a,e.b,e.c,U,hy,λt G=>λF hF=>?_⟩
  have N:Aa t (upd t F (HY P w F [])):=Aa.new hF;have gF:upd t F (HY P w F []) F=Z (HY P w F []):=ae;generalize upd t F _=H2 at N gF ⊢;refine⟨_,U,v,n,f,U,hv.same (G\N),S,Y,λD ys H3 s3 hD u=>?_⟩;have few:=y9 n3;have ly:=⇑u;refine⟨D,true,U,⟨_,An.of hD⟩,iO (λi J A=>(∃ o3 M X:Option V,J=[Z v,Z y,Z ↥F,o3,M,X])/\Aa t A/\Bg H3 A/\∃ d,A F=Z (HY P w F d)/\d.map (·.1)=DG n f e ((AM n).take i)/\HI K A d/\(∀ p∈d,p.1.Bd 1060)/\⇑d<=i)
   ⟨⟨_,_,_,U⟩,N\s3,Bg.refl _,[],s3 _ _ gF,U,acR,λ_ h=>(by cases h),Mz _⟩ (λi J A _ pv=>An.of (pv.2.2.1 _ _ hD (λ_ z=>nomatch z))) ?_ ?_⟩
  .rintro i xv J x ex ⟨⟨o3,M,X,rfl⟩,r,I,d,k,B,o,C,lx⟩;have hi:=(Mp.mp ex).1;obtain⟨p,ep,R⟩:=u.get ex;obtain⟨pq,a,b,rfl,hq,ha,hb⟩:=R.sameE I;have pm:=iI.mp (MD ep);have AW:DG n f e ((AM n).take (i+1))=Ec n f e (DG n f e ((AM n).take i)) p:=by rw[bD ep,zQ]
   refine⟨pq,_,U,AZ.of hq,U,_,_,U,_,_,U,U,_,U,_,U,_,U,_,U,v,y,a,b,n,f,p.1,p.2,e,U,hv.same (G\r),wt,S,Y,ha,hb,pm.2,nv S pm.1,Ad.same (G\r) hy,be,λH5 j hn=>?_,λc w5 H5 j hc bc hw=>?_⟩
   .refine⟨_,U,U,_,U,aN ⟨⟨_,_,_,U⟩,r\j,I\sE j,d,j _ _ k,?_,o.same j,C,Y⟩⟩;rw[AW,B];unfold Ec;rw[show CB n f e p=none from hn]
   .obtain⟨cb,cs,rfl,_,_⟩:=ay (b:=false) hw;have m:=j _ _ k;refine⟨_,U,U,_,U,aF ⟨_,U,_,U,F,cb,d,c,U,U,U,m,hw,o.same j,Y,⟨_,_,_,U⟩,kO (r\j) hF,I.trans (sE j)\Bg.put m,EX d c cb,ae,?_,(o.same j).put hw (Bg.put m),λp' l=>?_,M1 (ac2 _ _ _) Y⟩⟩
    .rw[AW,xK,B];unfold Ec;rw[show CB n f e p=Z c from hc]
    .rcases xH l with l|rfl
     .show C _ l
     .show bc
  .rintro J x ⟨⟨o3,M,X,rfl⟩,r,I,d,k,B,o,C,lx⟩;rw[Nh Y] at B;refine⟨_,U,F,d,U,k,o,Y,λL hL=>?_⟩;have l:Aa x (upd x L (.lst (d.map λp=>↥p.2))):=Aa.new hL;have gL:upd x L (.lst (d.map λp=>↥p.2)) L=Z (.lst (d.map λp=>↥p.2)):=ae;generalize upd x L _=H5 at l gL ⊢;have j:=G.trans r\l;show⟨L,d,U,gL,(o.same l).1,C,Y,tb.same j,λz D6 H6 hz R m=>q z d D6 H6 hz B (o.same (l\R)) C Y (j\R) m⟩
def wL:Am 7 "is_flat" uD9 [] E9:=by
  refine AK.cal T.x2c.g wP<<<λj h=>?_;obtain⟨v,n,f,rfl,t,L,A,n6,q⟩:=h;refine⟨_,((ac (bg (af am hJ j (aJ (pv 0))))
   (ag (ao (aq (aei Θ U) (by rfl) T.xn acH (aJ (az uD4 uD9 [0] 2 (aY Θ (af am mJ j (aJ (pv 0)))) (λy=>(bJ (n:=2) Θ U (aj (ah 0 y) (aj (ah 1 y) aK)))) ax (bh bY (af am lR j (aJ (af am jm j (aJ (af am iS j (ai (pv 2) (ai (pv 0) (ai (pv 1) aH)))))))) aa (aA _))))))))),_,U,v,n,f,U,t,_,U,v,n,f,U,t,A,n6,λD ys H1 I F d=>?_⟩
  have C:=⇑d;have lp:⇑(AM n)<=750:=by
   have:⇑(As (n-1))<=125:=by
    rw[gh];show P_ (show n-1<=5 by lia) 3
   unfold AM;rw[iN];lia
  refine⟨D,true,U,⟨_,An.of F⟩,dU (λi o z=>Aa H1 z/\i<=⇑ys/\o=(((AM n).take i).map λp=>V.bl (decide ((Au f p).det=0)))) ⟨Aa.refl _,N7 _,U⟩ Y (λi o z m ⟨s,_,e⟩=>⟨An.of (s _ _ F),by rw[e,Mq,Nl];lia⟩) (λi xv o r J ⟨c,m,l⟩ RR M kR kS=>?_) (λo r ⟨c,m,l⟩ N hN=>?_)⟩
  .obtain⟨p,G,pq,a,b,rfl,hq,S,X⟩:=(d.same c).get J;have x:=iI.mp (MD G);have k:=nv A x.1;have mem:∀ {i:Nat},i<=3->(f (Ae p.1 (Bf p.2 i))).Wt:=λm=>L _ (wd k (vC x.2 m))
   refine⟨pq,_,U,AZ.of hq,U,_,_,U,_,_,U,U,aF (B:=M r) ⟨_,U,_,U,_,U,v,a,b,n,f,p.1,p.2,U,t.same (I\c),S,X,x.2,k,λw H3 R hw=>⟨w,_,_,_,_,U,hw,λw2 H4 s4 u=>⟨w2,Au f p,U,u,abQ (mem O) (mem O) (mem O) (mem O),λH5 s5=>⟨_,_,U,U,kR _ _ ⟨(c\R).trans s4\s5,(Mp.mp J).1,?_⟩⟩⟩⟩⟩⟩;rw[bD G,Nx,l];rfl
  .rw[Nh Y] at l;subst l;refine⟨N,(AM n).map λp=>decide ((Au f p).det=0),U,An.of (by rw[OD];show ae),?_⟩;have:=q (upd r N (.lst ((AM n).map λp=>V.bl (decide ((Au f p).det=0))))) (I.trans c\Aa.new hN);rw[List.any_map];show this
def uo:Am 4 "is_point" j0 [] GC:=by
  refine AK.cal T.x2d.g vi<<<λc h=>?_;obtain⟨x,p,rfl,b,a,q⟩:=h;refine⟨_,((ag (ao (af am dP c (ai (pv 0) (ai aa (ai aa (ai (cM rfl T.xy) aH)))))))),_,U,x,[p.1,p.2],2,0,1000,U,b,U,(O:2<=1000),λd s=>?_⟩;have e:([p.1,p.2].all λk=>decide (0<=k)&&decide (k<=1000))=true:=by
   change((decide (0<=p.1)&&decide (p.1<=1000))&&((decide (0<=p.2)&&decide (p.2<=1000))&&true))=true;rw[MB a.a1,MB a.a2,MB a.b1,MB a.b2];rfl
  rw[e];show q _ s
def tQ:Am 1 "is_onward" uC4 [] FU:=by
  refine AK.cal T.x2e.g rL<<<λi h=>?_;obtain⟨x,y,p,r,rfl,f,e,q⟩:=h;obtain⟨a,rfl,c⟩:=aU f;obtain⟨b,rfl,d⟩:=aU e;refine⟨_,((ag (ao (cZ (bh n5 (ak K (pv 0) aa) (ak K (pv 1) aa) (aA _)) (fg (bh mF (ak K (pv 0) aa) (ak K (pv 1) aa) (aA _))))))),_,U,dD c ⟨_,U,dD d ⟨_,_,U,U,decide (p.1<r.1),U,?_⟩⟩⟩;cases hc:decide (p.1<r.1) with
  |true=>
   rw[hc,T8] at q;show aF ⟨_,U,cB c ⟨_,U,cB d ⟨_,_,U,U,q⟩⟩⟩
  |false=>
   rw[hc,Pg] at q;show aN q
def r_:Am 5 "is_points" j0 [] FR:=by
  refine AK.cal T.x2f.g rR<<<λhr h=>?_;obtain⟨x,c,rfl,hx,A,q⟩:=h;refine⟨_,((ac (aQ (PW.pt (dS (aO (aM (aq (iT Θ) (by rfl) T.x0 aw (aL (pv 0) (bO (v:=.ty "list") U T.xa eO rfl))))) (dw (aO (aaL mF mF (cM rfl T.xw) (aq (fF Θ) (by rfl) T.x4 cS (aJ (pv 0))) (cM rfl T.x11)))))) (ag (ao eF)) aE)
   (ac (aQ (PW.pt (dS (aO (aM (aq (iW Θ U) (by rfl) T.x8 fM (aJ (az ["point"] [] [] 1 (aY Θ (pv 0)) (λJ=>(ah 0 J)) ax (af am uo hr (aJ (pv 0)))))))) (dw (aG iQ (ak K (ak K (pv 0) aa) aa) aa (aA _))))) (ag (ao eF)) aE)
   (ag (ao (aq (iW Θ U) (by rfl) T.x8 fM (aJ (az uC4 [] [] 2 (fX Θ U T.x7 (aL (pv 0) (jd (abw Θ) (pv 0) (lF aa) lA))) (λJ=>(bJ (n:=2) Θ U (aj (ah 0 J) (aj (ah 1 J) aK)))) ax (af am tQ hr (aL (pv 0) (pv 1))))))))))),_,U,_,_,_,true,U,hx.ty,(show Bx "list" "list"=Z true by decide +kernel),_,U,aN ?_⟩
  obtain⟨l,I,rfl,G,k⟩:=ay (b:=true) hx;have z:=⇑k;rw[Mq] at z;have two:=A.two;have few:=A.few;refine⟨_,U,l,_,U,ic G,_,_,U,U,true,lj Y,aF ⟨_,_,U,U,true,lj Y,aN ?_⟩⟩;have tr:∀ n:Nat,(MN n true).all id=true:=λn=>by induction n with
   |zero=>rfl
   |succ n ih=>rw[OU,P7,ih];rfl
  refine⟨_,U,l,true,U,⟨_,G⟩,jk (f:=λ_=>.bool true) G k (by rw[Mq];lia) (λi d x t a s2 hx2 R kk S=>?_) (λys t s2 j D hD=>?_)⟩
  .rw[Mw] at a;cases e:c[i]? with
   |none=>rw[e] at a;cases a
   |some p=>
    rw[e] at a;cases a;show aF (B:=S t) ⟨_,U,x,p,U,hx2,A.inn p (MD e),λF m=>kk _ _ ⟨m,.bl _⟩⟩
  have j:Af K t ((MN ⇑c true).map Qt) ys:=by
   have e:(c.map Df).map (λ_=>Qt true)=(MN ⇑c true).map Qt:=by
    rw[OD,S_];show UZ.mpr ⟨zyA,λb hb=>by obtain⟨_,_,h⟩:=Nd.mp hb;show h.symm⟩
   rw[<- e];show j
  have e:=c6 j;subst e;refine⟨D,_,U,An.of ae,_,U,?_⟩;rw[tr];refine aN ?_;have m:Aa H (upd t D (.lst ((MN ⇑c true).map V.bl))):=s2\Aa.new hD;generalize upd t D _=F at m ⊢;clear j s2 hD;have e0:c[0]?=Z c[0]:=MC Y;obtain⟨v0,ev0,N⟩:=lf (Af.same m k) e0;obtain⟨p0,rfl,hp0⟩:=aU N;refine⟨_,U,fE (AF.same m G) ev0 (dD hp0 ⟨_,_,U,U,_,U,afU (A.zero _ e0) ?_⟩)⟩;have X:=AF.same m G;refine⟨_,U,_,U,1,U,l,I,U,X,λL hL=>?_⟩;rw[kW I Y];have C:Aa F (upd F L (.lst (I.drop 1))):=Aa.new hL;have s:AF K (upd F L (.lst (I.drop 1))) L (I.drop 1) true:=An.of ae;generalize upd F L _=H4 at C s ⊢;have d4:=Af.same (m\C) k;refine⟨l,L,true,true,U,⟨_,AF.same C X⟩,⟨_,s⟩,iD (fs:=MN (⇑c-1) (.bool true)) (AF.same C X) s d4 (Af.drop 1 d4) zyA zyA (by simp;lia) (λi d e f x y zzQ H5 a u hf s5 hx5 hy5 hZ R kk S=>?_) (λzs H5 s5 o D2 M=>?_)⟩
  .have hf:f=.bool true:=(List.mem_replicate.mp (MD hf)).2;subst hf;rw[Mw] at a;rw[Rj,Mw] at u;cases e1:c[i]? with
   |none=>rw[e1] at a;cases a
   |some p=>
    cases e2:c[1+i]? with
    |none=>rw[e2] at u;cases u
    |some r=>
     rw[e1] at a;rw[e2] at u;cases a;cases u;obtain⟨u1,u2⟩:=A.up i p r e1 (by rw[P5];show e2);refine⟨zzQ,_,U,AZ.of hZ,U,_,_,U,_,_,U,U,aF (B:=S H5) ⟨_,U,_,U,x,y,p,r,U,hx5,hy5,?_⟩⟩;rw[MB u1,MB u2];show kk _ _ ⟨Aa.refl _,.bl _⟩
  .have o:Af K H5 ((MN (⇑c-1) true).map Qt) zs:=by rw[S_];show o
   have e:=c6 o;subst e;refine⟨D2,_,U,An.of ae,?_⟩;rw[tr];show q _ ((m\C).trans s5\Aa.new M)
def kb:Am 3 "stretch_to" ["pairs","at"] [] Ft:=by
  refine AK.cal T.x2g.g hV<<<λt h=>?_;obtain⟨x,y,c,a,z,rfl,hx,hy,X,D,oa,hz,ha,q⟩:=h;obtain⟨l,xs,rfl,hl,s⟩:=ay (b:=true) hx;refine⟨_,((ac (av 2 hV.nd aa)
   (ac (oi NO (aM (af am pC t (aL (af am (bB T.xc) t (aJ (ak K (ak K (pv 0) (pv 2)) aa))) (pv 1)))) (ag (abB (i:=2) hV.nd rfl (by first|show Or.inl rfl|show Xp rfl) aa abX)))
   (ag (ao (aV (aL (ak K (pv 0) (au bI (pv 2) aa)) (ak K (pv 0) (pv 2))))))))),?_⟩
  have d:c[⇑c-1]?=Z z:=by rw[<- NJ];show hz
  refine⟨λm G H'=>∃ k:Nat,G=[Z ↥l,Z y,Z ↑k]/\Aa H H'/\1<=k/\k<⇑c/\(k=1\/∃ p,c[k-1]?=Z p/\(p.1:Rat)<a)/\m=⇑c-k,⟨_,1,U,Aa.refl _,O,Y,.inl rfl,U⟩,?_⟩;rintro m G H1 ⟨k,rfl,n,k1,k2,hk,rfl⟩;have o:=MC k2;obtain⟨v,N,M⟩:=lf (Af.same n s) o;obtain⟨pa,rfl,B⟩:=aU M;have R:=D _ (MD o);have I:=AF.same n hl;have st:Sm 20 (c[k]).1:=by have:=R.a1;have:=R.a2;unfold Sm;lia
  refine⟨_,U,_,U,fE I N (dD B ⟨_,_,U,O,Sm.mono (k:=4) (by unfold Sm;decide) O,Cs.sh O λv2 H2 j u=>?_⟩)⟩;have e2:((c[k]).1:Rat)/((1:Int):Rat)=((c[k]).1:Rat):=by
   rw[show((1:Int):Rat)=1 from rfl];grind
  rw[e2] at u;refine⟨_,U,v2,y,_,a,U,u,Ad.same (n\j) hy,?_,oa.mono O,_,U,?_⟩
  .change Ok 3900 (((c[k]).1:Rat)).num ((((c[k]).1:Rat)).den:Int);rw[PY,PX];show⟨O,zyA,st.mono O,Sm.mono (k:=4) (by unfold Sm;decide) O⟩
  refine dg (λf=>?_) (λf=>?_)
  .have f:((c[k]).1:Rat)<a:=N1 f;have C:k+1<⇑c:=by
    by_cases e:k=⇑c-1
    .exfalso;have A:c[k]?=Z z:=by rw[e];show d
     rw[o] at A;rw[Mn A] at f;grind
    .lia
   show⟨_,λ_ _ w=>w,_,U,_,_,U,U,⇑c-(k+1),Y,k+1,U,n\j,Y,C,.inr ⟨c[k],by rw[Nat.add_sub_cancel];show o,f⟩,U⟩
  .have f:¬ ((c[k]).1:Rat)<a:=λw=>f (MB w)
   have F:c[k-1]?=Z c[k-1]:=MC Y;obtain⟨v0,C,A⟩:=lf (Af.same (n\j) s) F;have L:=AF.same j I;have S:((k:Nat):Int)-1=((k-1:Nat):Int):=Y
   refine⟨_,U,_,U,_,_,U,U,?_⟩;dsimp only;rw[S];refine fE L C ⟨_,U,_,U,fE L N ⟨iX,λr t=>?_⟩⟩;refine q _ (k-1) c[k-1] c[k] _ (n\(j\Aa.new t)) ⟨F,by rw[Nat.sub_add_cancel k1];show o,?_,by grind⟩ (Ad.tupN t (.cons A (.cons (Ad.same j M) .nil)));rcases hk with w|⟨p,J,w2⟩
   .show .inl Y
   .rw[F] at J;cases J;show .inr w2
def oJ:Am 3 "on_line" ["low","high","at"] [] GZ:=by
  refine AK.cal T.x2h.g gj<<<λD h=>?_;obtain⟨x,y,z,p,r,c,rfl,A,v,F,e,m,s,t,q⟩:=h;obtain⟨a,rfl,l⟩:=aU A;obtain⟨b,rfl,u⟩:=aU v;obtain⟨d,rfl,B⟩:=aU F;refine⟨_,((ac (av 3 gj.nd (au bI (ak K (pv 1) aa) (ak K (pv 0) aa)))
   (ac (av 4 gj.nd (au bI (ak K (pv 1) aa) (ak K (pv 0) aa)))
   (ac (dA (pv 2) (bJ (n:=2) Θ U (aj (ah 5 gj.nd) (aj (ah 6 gj.nd) aK))))
   (ag (ao (af am (bB T.xe) D (aL (au bZ (au aD (au aD (ak K (pv 0) aa) (pv 3)) (pv 6)) (au aD (au bI (pv 5) (au aD (ak K (pv 0) aa) (pv 6))) (pv 4))) (au aD (pv 3) (pv 6)))))))))),?_⟩
  have f:∀ {i:Int},0<=i->i<=1000->Sm 10 i:=λG C=>by unfold Sm;lia
  have k:∀ {i j:Int},0<=i->i<=1000->0<=j->j<=1000->Sm 11 (i-j):=λG C I J=>by unfold Sm;lia
  refine⟨_,U,dD u ⟨_,U,dD l ⟨_,_,U,U,⟨_,U,cB u ⟨_,U,cB l ⟨_,_,U,U,⟨_,U,d,_,U,AZ.of B,U,_,_,U,_,_,U,U,?_⟩⟩⟩⟩⟩⟩⟩;have o:=k m.a1 m.a2 e.a1 e.a2;refine⟨_,U,cB l ⟨_,U,_,_,U,U,.inr ((f e.b1 e.b2).mono O),⟨_,U,_,_,U,U,.inr (((f e.b1 e.b2).mul o).mono O),_,U,_,U,dD l ⟨_,U,_,_,U,U,.inr ((f e.a1 e.a2).mono O),_,_,U,U,_,U,⟨_,_,U,U,.inl ⟨?_,(k m.b1 m.b2 e.b1 e.b2).mono O⟩,_,_,U,U,?_⟩⟩⟩⟩⟩
  .show((t.sn.mono (show 1200<=1210 by decide)).sub ((f e.a1 e.a2).mul t.sd)).mono O
  refine⟨_,U,_,U,_,_,U,U,.inr (o.mono O),_,_,U,?_,?_,?_⟩
  .show OK Y (by exact_mod_cast c.den_nz)
  .show(o.mul t.sd).mono O
  .rw[aas s] at q;show Cs.sh (OK Y (by exact_mod_cast c.den_nz)) q
def fW:BH 6 "Curve" "__init__" ["self","points"] [] Cz:=by
  refine BO.cal (T.x3g.g T.x6) jY<<<λhr h=>?_;obtain⟨a,C,j,x,G,rfl,F,A,M,k,q⟩:=h;refine⟨_,((ac (aQ (aO (aM (af am r_ hr (aJ (pv 1))))) (ag bG) aE)
   (ag (eT (x:="Curve") Θ T.x6 (.head _) (pv 0) (aS (jy Θ) (by rfl) T.xa eO (aJ (pv 1))))))),_,U,x,G,U,M,k,λf s=>⟨_,U,aN ?_⟩⟩
  obtain⟨l,c,rfl,hl,B⟩:=ay (b:=true) (Ad.same s M);refine⟨_,U,l,c,U,.inl hl,λL t=>?_⟩;have u:Aa f (upd f L (.lst c)):=Aa.new t;have I:=u _ _ (s _ _ A);refine⟨_,U,a,C,j,[],U,F,I,O,?_⟩;have X:L≠a:=λz=>by rw[z,s _ _ A] at t;cases t
  have mv:Mv [a] (upd f L (.lst c)) (upd (upd f L (.lst c)) a (.ins C j (A8 "points" ↥L []))):=λb o e y=>by rw[ar (λz=>y (by simp[z]))];show e
  have tup:∀ p∈G.map Df,Fl p=true:=λp k=>by obtain⟨r,_,rfl⟩:=Nd.mp k;rfl
  have keep:∀ {ds:List NM}{n:List V},(∀ p∈ds,∃ r:Pt,p=Df r)->Af K (upd f L (.lst c)) ds n->Af K (upd (upd f L (.lst c)) a (.ins C j (A8 "points" ↥L []))) ds n:=λ{ds n} S h=>by
   induction ds generalizing n with
   |nil=>cases h;show .nil
   |cons d ds ih=>
    cases h with
    |cons h1 h2=>
     refine .cons ?_ (ih (λp k=>S p (Mx _ k)) h2);obtain⟨r,rfl⟩:=S d (MS ..);obtain⟨pa,rfl,i⟩:=aU h1;show ji (mv _ _ i (λz=>by rw[Mu.mp z,I] at i;cases i))
  have R:=keep (λp k=>by obtain⟨r,_,rfl⟩:=Nd.mp k;show⟨r,U⟩) (Af.same u B);have J:upd (upd f L (.lst c)) a (.ins C j (A8 "points" ↥L [])) L=Z (.lst c):=by rw[ar X];show ae
  refine q _ (λb o e y=>mv b o (u _ _ (s _ _ e)) y) ⟨a,C,j,L,U,F,ae,.lst (.inl J) R⟩ λT D=>?_
  have N:=D.not A λ_ z=>nomatch z
  have LT:L∉T:=λm=>by
   obtain⟨n,e⟩:=D L m;rw[s _ _ e] at t;cases t
  have v:AC (upd (upd f L (.lst c)) a (.ins C j (A8 "points" ↥L []))) T:=λb m=>by
   obtain⟨n,e⟩:=D b m;show⟨n,mv _ _ (u _ _ (s _ _ e)) (λz=>N (Mu.mp z▸m))⟩
  show⟨a,C,j,L,U,F,by rw[dO N];show ae,.lst (.inl (by rw[dO LT];show J)) (Af.cutT v (adr G) R)⟩
def iV:BH 1 "Curve" "last" uB3 [] Es:=by refine BO.cal (T.x3h.g T.x6) mT<<<λy h=>?_;obtain⟨v,A,z,rfl,⟨a,C,i,l,rfl,p,j,k⟩,m,q⟩:=h;refine⟨_,((ag (ao (ak K (ak K (aX (x:="Curve") Θ T.x6 (.head _) (pv 0)) (xO tT aa)) aa)))),?_⟩;obtain⟨s,r,e,o,d⟩:=ay (b:=true) k;cases e;obtain⟨u,n,f⟩:=u5 d m;obtain⟨t,rfl,c⟩:=aU f;show⟨_,U,a,C,i,_,_,U,p,j,U,_,U,.inl ⟨l,r,_,_,U,U,o,pM n,dD c q⟩⟩
def ik:BH 4 "Curve" "value" uC5 [] DI:=by
  refine BO.cal (T.x3i.g T.x6) fm<<<λe h=>?_;obtain⟨v,x,J,c,z,rfl,y,i,d,o,s,c0,D,q⟩:=h;refine⟨_,((ac (aQ (PW.pt (dS (aO (aM (af am gW e (aJ (pv 1))))) (dw (aO (aM (af am ge e (ai (pv 1) (ai aa (ai (eJ Θ am iV (e.mono O) (pv 0)) aH))))))))) (ag bG) aE)
   (ac (dA (af am kb e (aL (aX (x:="Curve") Θ T.x6 (.head _) (pv 0)) (pv 1))) (bJ (n:=2) Θ U (aj (ah 2 fm.nd) (aj (ah 3 fm.nd) aK))))
   (ag (ao (af am oJ e (ai (pv 2) (ai (pv 3) (ai (pv 1) aH))))))))),_,U,x,_,U,i,_,U,?_⟩
  rw[xT];refine aN ?_;obtain⟨a,C,t,l,rfl,I,B,hd⟩:=id y;have A:=d.inn z (Ot s);refine⟨_,U,_,U,a,C,t,_,U,I,B,U,↥a,J,z,U,y,s,x,c,0,z.1,U,i,o.mono O,?_,?_,?_⟩
  .unfold Sm;decide
  .refine Sm.mono (k:=20) ?_ O;have:=A.a1;have:=A.a2;unfold Sm;lia
  have S:=MB (by
   have h:=(Vm c (z.1:Rat)).mp D;rw[PY,PX] at h
   simpa using h)
  rw[MB (by rw[Int.zero_mul];show Rat.num_nonneg.mpr c0),S];refine⟨_,U,aN (⟨_,U,a,C,t,_,_,U,I,B,U,_,U,↥l,x,J,c,z,U,hd,i,d.two,d.inn,o,s,D,λu k p r F G st R=>?_⟩)⟩;obtain⟨tp,ys,rfl,ht,m⟩:=ay (b:=false) R;obtain⟨f,j,rfl,g0,g1⟩:∃ f j,ys=[f,j]/\Ad K F (Df p) f/\Ad K F (Df r) j:=by
   cases m with
   |cons h1 h2=>
    cases h2 with
    |cons L X=>
     cases X;show⟨_,_,U,h1,L⟩
  refine⟨tp,_,U,ht,U,_,_,U,_,_,U,U,?_⟩;show⟨_,U,_,U,_,U,f,j,x,p,r,c,U,g0,g1,Ad.same G i,d.inn p (MD st.lo),d.inn r (MD st.hi),(d.up k p r st.lo st.hi).1,o,λw M N hw=>q w _ M (G\N) ⟨k,p,r,st,U⟩ hw⟩
def cQ:BH 1 "Curve" "ends" uB3 [] Ez:=by refine BO.cal (T.x3j.g T.x6) mO<<<λM h=>?_;obtain⟨v,N,y,z,rfl,⟨a,C,k,l,rfl,r,m,A⟩,s,B,q⟩:=h;refine⟨_,((ag (ao (aV (aL (ak K (ak K (aX (x:="Curve") Θ T.x6 (.head _) (pv 0)) aa) aa) (ak K (ak K (aX (x:="Curve") Θ T.x6 (.head _) (pv 0)) (xO tT aa)) aa)))))),?_⟩;obtain⟨G,F,e,o,c⟩:=ay (b:=true) A;cases e;obtain⟨J,j,i⟩:=lf c s;obtain⟨I,rfl,d⟩:=aU i;obtain⟨u,D,t⟩:=u5 c B;obtain⟨L,rfl,f⟩:=aU t;show⟨_,U,a,C,k,_,_,U,r,m,U,fE o j (cB d (⟨_,U,a,C,k,_,_,U,r,m,U,_,U,.inl ⟨l,F,_,_,U,U,o,pM D,cB f ⟨iX,λp n=>q _ _ (Aa.new n) (Ad.tupN n (.cons ↑_ (.cons ↑_ .nil)))⟩⟩⟩))⟩
def gU:BH 4 "Curve" "back" ["self","value"] [] DA:=by
  refine BO.calX (T.x3k.g T.x6) cO<<<λm h=>?_;obtain⟨v,x,L,c,y,z,rfl,hv,hx,G,oc,M,hz,q,qz⟩:=h;refine⟨_,((ac (dA (eJ Θ am cQ (m.mono O) (pv 0)) (bJ (n:=2) Θ U (aj (ah 2 cO.nd) (aj (ah 3 cO.nd) aK))))
   (ac (aQ (PW.pt (dS (aO (aM (af am gW m (aJ (pv 1))))) (dw (aO (aM (af am ge m (ai (pv 1) (ai (pv 2) (ai (pv 3) aH))))))))) (ag (oZ Θ jN rfl rfl rfl (tH T.x5 (i:=4) U) (aJ c7))) aE)
   (ac (aQ (aG (lg Θ m.units) (pv 1) (af am (bB T.xc) m (aJ (pv 2))) (aA _)) (ag (ao (af am (bB T.xc) m (aJ aa)))) aE)
   (ac (dA (af am kb m (aL (az ["place","height"] [] [] 2 (aY Θ (aX (x:="Curve") Θ T.x6 (.head _) (pv 0))) (λnd=>(bJ (n:=2) Θ U (aj (ah 0 nd) (aj (ah 1 nd) aK)))) ax (aV (aL (pv 1) (pv 0)))) (pv 1))) (bJ (n:=2) Θ U (aj (ah 4 cO.nd) (aj (ah 5 cO.nd) aK))))
   (ag (ao (af am oJ m (ai (pv 4) (ai (pv 5) (ai (pv 1) aH))))))))))),?_⟩
  have few:=G.few;obtain⟨a,C,dx,l,rfl,hC,hH,hd⟩:=id hv;refine⟨_,U,a,C,dx,_,U,hC,hH,U,↥a,L,y,z,U,hv,M,hz,λu H1 s1 I=>?_⟩;obtain⟨E,es,rfl,hE,hes⟩:=ay (b:=false) (ds:=[↑y.2,↑z.2]) I;have ees:=jq (ns:=[y.2,z.2]) hes;subst ees;refine⟨E,_,U,hE,U,_,_,U,_,_,U,U,?_⟩;have iy:=G.inn y (MD M);have iz:=G.inn z (Ot hz);have sm:∀ {n:Int},0<=n->n<=1000->Sm 60 n:=λh1 h2=>Sm.mono (k:=20) (by unfold Sm;lia) O
  have j:=Ad.same s1 hx;refine⟨_,U,x,_,U,j,_,U,?_⟩;rw[xT];refine aN ⟨_,U,_,U,_,U,x,c,y.2,z.2,U,j,oc.mono O,sm iy.b1 iy.b2,sm iz.b1 iz.b2,?_⟩;rw[<- nC];cases hw:Jc y.2 z.2 (rD c) with
  |false=>show⟨_,U,aF ⟨le1,(qz hw).now s1 rfl⟩⟩
  |true=>
  replace q:=q hw;obtain⟨c0,cz⟩:=acW hw;refine⟨_,U,aN ?_⟩;have F:Sm 8000 (1:Int):=by unfold Sm;decide
  refine⟨_,U,_,U,y.2,1,U,O,F,Cs.sh O ?_⟩;rw[fJ];intro v2 H2 X h2;refine⟨_,_,Ad.same X j,h2,U,U,_,U,?_⟩;rw[abC];have o:=s1.trans X
  by_cases e:c=(y.2:Rat)
  .rw[MB e];refine aF ⟨0,1,U,O,F,Cs.sh O ?_⟩;rw[fJ];show λf t A h3=>q f 0 t (o\A) (.first y M e) h3
  .rw[Na e];refine aN ?_;obtain⟨l',xs,el,hl,hds⟩:=ay (b:=true) (Ad.same o hd);cases el;refine⟨_,U,a,C,dx,_,_,U,hC,o _ _ hH,U,l,true,U,⟨_,hl⟩,aW (es:=(L.map sw).map Df) hl hds zyA (by rw[Mq];lia) (λi d e u t f he A I R kk S=>?_) (λys t A hys D hD=>?_)⟩
   .rw[Mw] at f;cases e1:L[i]? with
    |none=>rw[e1] at f;cases f
    |some p=>
     rw[e1] at f;cases f;rw[OD,Mw,e1] at he;cases he;obtain⟨N,rfl,s⟩:=aU I;show⟨N,_,U,AZ.of s,U,_,_,U,_,_,U,U,aF (B:=S t) (⟨_,U,_,U,iX,λn J=>kk _ _ ⟨Aa.new J,ji ae⟩⟩)⟩
   .have sD:Aa t (upd t D (.lst ys)):=Aa.new hD;have s:∀ p∈L.map sw,p.In:=λp h=>by
     obtain⟨r,m,rfl⟩:=Nd.mp h;have i:=G.inn r m;show⟨i.b1,i.b2,i.a1,i.a2⟩
    refine⟨_,U,↥D,x,L.map sw,c,sw z,U,Ad.listN hD hys,Ad.same (X\(A\sD)) j,by rw[Mq];show G.two,s,oc,by rw[List.getLast?_map,hz];rfl,cz,λu k p r H4 s4 st I=>?_⟩;obtain⟨tp,us,rfl,ht,hus⟩:=ay (b:=false) (ds:=[Df p,Df r]) I;obtain⟨y0,N,rfl,g0,g1⟩:∃ y0 N,us=[y0,N]/\Ad K H4 (Df p) y0/\Ad K H4 (Df r) N:=by
     cases hus with
     |cons h1 h2=>
      cases h2 with
      |cons h3 h4=>
       cases h4;show⟨_,_,U,h1,h3⟩
    refine⟨tp,_,U,ht,U,_,_,U,_,_,U,U,?_⟩;have lo:=st.lo;have J:=st.hi;rw[Mw,MG] at lo J;obtain⟨p',lo,rfl⟩:=lo;obtain⟨r',J,rfl⟩:=J;have gt:(p'.2:Rat)<c:=by
     rcases st.gt with hk|h
     .subst hk;rw[M] at lo;cases lo;have:c≠(y.2:Rat):=e;grind
     .show h
    have le:=st.le;show⟨_,U,_,U,_,U,y0,N,x,sw p',sw r',c,U,g0,g1,Ad.same (X.trans (A\sD)\s4) j,s _ (Nd.mpr ⟨_,MD lo,U⟩),s _ (Nd.mpr ⟨_,MD J,U⟩),oG (p9 gt le),oc,λw H5 s5 hw=>q w _ H5 (o.trans (A\sD)\(s4\s5)) (.on k p' r' lo J gt le) hw⟩
def iZ:BH 1 "Curve" "is_rising" uB3 [] Co:=by
  refine BO.cal (T.x3l.g T.x6) jv<<<λhr h=>?_;obtain⟨v,A,rfl,⟨a,C,dx,l,rfl,hC,hH,c⟩,hp,q⟩:=h;refine⟨_,((ag (ao (aq (iW Θ U) (by rfl) T.x8 fM (aJ (az uC4 [] [] 2 (fX Θ U T.x7 (aL (aX (x:="Curve") Θ T.x6 (.head _) (pv 0)) (jd (abw Θ) (aX (x:="Curve") Θ T.x6 (.head _) (pv 0)) (lF aa) lA))) (λnd=>(bJ (n:=2) Θ U (aj (ah 0 nd) (aj (ah 1 nd) aK)))) ax (bh n5 (ak K (pv 0) aa) (ak K (pv 1) aa) (aA _)))))))),?_⟩;obtain⟨l',t,e,M,o⟩:=ay (b:=true) c;cases e;have m:=⇑o;rw[Mq] at m;have two:=hp.two;have few:=hp.few;refine⟨_,U,a,C,dx,_,_,U,hC,hH,U,_,U,a,C,dx,_,_,U,hC,hH,U,1,U,l,t,U,M,λL hL=>?_⟩;rw[kW t Y];have s:Aa H (upd H L (.lst (t.drop 1))):=Aa.new hL;have j:AF K (upd H L (.lst (t.drop 1))) L (t.drop 1) true:=An.of ae;generalize upd H L _=H4 at s j ⊢;have d4:=Af.same s o;refine⟨l,L,true,true,U,⟨_,AF.same s M⟩,⟨_,j⟩,iD (fs:=((A.zip (A.drop 1)).map λz=>decide (z.1.2<z.2.2)).map Qt) (AF.same s M) j d4 (Af.drop 1 d4) zyA zyA (by simp;lia) (λi d e f x y X H5 c k u s5 J N hZ R kk S=>?_) (λzs H5 s5 G D2 D=>?_)⟩
  .rw[Mw] at c;rw[Rj,Mw] at k;cases e1:A[i]? with
   |none=>rw[e1] at c;cases c
   |some p=>
    cases e2:A[1+i]? with
    |none=>rw[e2] at k;cases k
    |some r=>
     rw[e1] at c;rw[e2] at k;cases c;cases k;have u:f=.bool (decide (p.2<r.2)):=by
      rw[OD,Mw,(Nm (z:=(p,r))).mpr ⟨e1,by rw[Rj];show e2⟩] at u;cases u;rfl
     subst u;obtain⟨pa,rfl,F⟩:=aU J;obtain⟨ra,rfl,I⟩:=aU N;refine⟨X,_,U,AZ.of hZ,U,_,_,U,_,_,U,U,aF (B:=S H5) ⟨_,U,cB F ⟨_,U,cB I ⟨_,_,U,U,kk _ _ ⟨Aa.refl _,.bl _⟩⟩⟩⟩⟩
  .have e:=c6 G;subst e;show⟨D2,_,U,An.of ae,q _ (s.trans s5\Aa.new D)⟩
def gC:DV P w K mg base (Fj P w) 5 "Ends" "__init__" uA9 uC3 1 2 [] C8:=by
  refine T.x3v.cal kA<<<λhr h=>?_;obtain⟨a,C,I,x,y,e,rfl,hC,hH,J,v,ie,q⟩:=h;refine⟨_,((ac (aQ (PW.pt (dS (aO (aM (af am i5 hr (aJ (pv 1))))) (dw (aO (aM (af am i5 hr (aJ (pv 2)))))))) (ag bG) aE)
   (ac (aQ (aO (aM (aq (iW Θ U) (by rfl) T.x8 fM (aJ (az ["high","low"] [] [] 2 (fX Θ U T.x7 (aL (pv 1) (pv 2))) (λnd=>(bJ (n:=2) Θ U (aj (ah 0 nd) (aj (ah 1 nd) aK)))) ax (bh qZ (pv 0) (pv 1) (aA _))))))) (ag bG) aE)
   (ac (eT (x:="Ends") Θ T.xd (.head _) (pv 0) (pv 1))
   (ag (eT (x:="Ends") Θ T.xd (.tail _ (.head _)) (pv 0) (pv 2))))))),?_⟩
  have ok:∀ {i j k:Int},0<=i->i<=1000->0<=j->j<=1000->0<=k->k<=1000->([i,j,k].all λz=>decide (0<=z)&&decide (z<=1000))=true:=λ{i j k} h1 h2 h3 h4 h5 h6=>by
   simp[h1,h2,h3,h4,h5,h6]
  have⟨a0,a1,a2,b0,b1,b2,c0,c1,c2⟩:=ie;refine⟨_,U,x,[e.w.a,e.w.b,e.w.c],U,J,U,λH1 s1=>⟨_,U,?_⟩⟩;rw[ok Y Y Y Y Y Y];refine aN ⟨_,U,y,[e.b.a,e.b.b,e.b.c],U,Ad.same s1 v,U,λH2 s2=>⟨_,U,?_⟩⟩;rw[ok Y Y Y Y Y Y];refine aN ?_;have g:=s1\s2;obtain⟨p,xs,rfl,hp,hds⟩:=ay (Ad.same g J);obtain⟨r,ys,rfl,s,L⟩:=ay (b:=false) (Ad.same g v);refine⟨_,U,_,U,p,r,false,false,U,⟨_,hp⟩,⟨_,s⟩,dX (fs:=[.bool true,.bool true,.bool true]) hp s hds L rfl rfl (O:3<=1000) (λi d e' f x y T t hd he N s3 F hy3 hT R kk S=>?_) (λzs t s3 A D hD=>?_)⟩
  .obtain⟨n,rfl,l⟩:=R3.at hd;obtain⟨m,rfl,M⟩:=R3.at he;have N:f=.bool true:=by rcases j7 N with ⟨_,rfl⟩|⟨_,rfl⟩|⟨_,rfl⟩<;>rfl
   subst N;cases F;cases hy3;refine⟨T,_,U,AZ.of hT,U,_,_,U,_,_,U,U,aF (B:=S t) ⟨_,U,_,U,_,_,U,U,?_⟩⟩
   (try dsimp only)
   rw[MB (show m<n by lia)];show kk _ _ ⟨Aa.refl _,.bl _⟩
  .have ez:=c6 (bs:=[true,true,true]) A;subst ez;refine⟨D,[true,true,true],U,An.of ae,_,U,aN ?_⟩;have l:Aa H (upd t D (.lst ([true,true,true].map V.bl))):=g.trans s3\Aa.new hD;generalize upd t D _=G at l ⊢;have M:=l _ _ hH;refine⟨_,U,_,U,a,C,I,[],U,hC,M,O,_,U,_,U,a,C,I,_,U,hC,ae,(by change 1<1000;decide),?_⟩;rw[ac5];have mv:∀ {o:HO},Mv [a] G (upd G a o):=λb u z X=>by rw[ar (λw=>X (by simp[w]))];show z
   refine q _ (λb u z X=>mv b u (l _ _ z) X) ⟨a,C,I,_,_,U,hC,ae,Ad.sameI (A_.put M) (Ad.same l J),Ad.sameI (A_.put M) (Ad.same l v)⟩
def pU:Am 2 "is_curve_to" uA4 [] E6:=by refine AK.cal T.x2i.g pR<<<λi h=>?_;obtain⟨v,m,y,z,j,rfl,f,B,k,s,r,q⟩:=h;refine⟨_,((ag (ao (cZ (aq (yl (x:="Curve") Θ T.x6 T.x12) (by rfl) T.x0 aw (aL (pv 0) (dC (x:="Curve") Θ U (jL T.x6)))) (cZ (bh (lg Θ i.units) (eJ Θ am iV (i.mono O) (pv 0)) (cM rfl T.xg) (aA _)) (fg (bh mF (ak K (eJ Θ am cQ (i.mono O) (pv 0)) aa) (pv 1) (aA _)))))))),?_⟩;obtain⟨a,C,e,l,rfl,c,d,G⟩:=id f;refine⟨_,U,λD o=>?_⟩;cases bA o c;refine⟨_,_,U,c,.inl ⟨a,e,_,U,d,_,U,aF (⟨_,U,a,C,e,_,U,c,d,U,↥a,m,z,U,f,k,↑z.1,↑60,↑_,↑_,U,U,true,by rw[s];rfl,aF (⟨_,U,a,C,e,_,U,c,d,U,↥a,m,y,z,U,f,B,k,λu F A n=>?_⟩)⟩)⟩⟩;obtain⟨p,rfl,t⟩:=aU n;refine fE (b:=false) (AZ.of t) U ⟨_,U,_,_,U,U,?_⟩;dsimp only;rw[MB r];show q _ A
def r6:Am 3 "is_curves" uA4 [] FQ:=by
  refine AK.cal T.x2j.g tu<<<λhr h=>?_;obtain⟨l,L,P,c,rfl,k,hw,N,q⟩:=h;refine⟨_,((ac (aQ (PW.pt (dS (aO (aM (aq (ww Θ) (by rfl) T.x0 aw (aL (pv 0) (aV (aL (bO (v:=.ty "list") U T.xa eO rfl) (bO (v:=.ty "tuple") U T.x2 aZ rfl))))))) (dw (aG iQ (aq (fF Θ) (by rfl) T.x4 cS (aJ (pv 0))) aa (aA _))))) (ag (ao eF)) aE)
   (ag (ao (aq (iW Θ U) (by rfl) T.x8 fM (aJ (az ["curve"] ["most"] [1] 1 (aY Θ (pv 0)) (λF=>(ah 0 F)) ax (af am pU hr (aL (pv 0) (pv 1)))))))))),_,U,iX,λp n=>?_⟩
  generalize m:upd H p _=A;have a:=e_ n m;obtain⟨C,s,o⟩:∃ T,Ty K A ↥l T/\EG T ["list","tuple"]=Z true:=⟨"list",.lst (a _ _ k),zyB⟩
  refine⟨_,C,p,_,_,true,U,s,cW m,o,_,U,aN (⟨_,U,l,L,U,.inl (An.of (a _ _ k)),_,_,U,U,false,by rw[hw.1];rfl,aN (⟨_,U,l,true,U,⟨_,An.of (a _ _ k)⟩,dU (λi f b=>Aa A b/\⇑f=i/\∀ v∈f,v=.bl true) ⟨Aa.refl _,U,λ_ h=>nomatch h⟩ (by rw[hw.1];decide) (λi f b u h=>⟨An.of (h.1 _ _ (a _ _ k)),by have:=h.2.1;lia⟩) (λi x f b t h R S kk _=>?_) (λf b h D I=>?_)⟩)⟩)⟩
  .obtain⟨j,e,r⟩:=h;have u:i<3:=by rw[<- hw.1];show(Mp.mp t).1
   obtain⟨pp,y,z,m,X,M,J⟩:=N i u;refine aF (B:=S b) ⟨_,U,_,U,x,_,y,z,c,U,(hw.2 i x t).same (a\j),m,X,M,J,λH2 G=>kk _ _ ⟨j\G,by rw[MP,e];rfl,λv d=>?_⟩⟩;rcases Nk.mp d with d|d
   .show r v d
   .show Mu.mp d
  .obtain⟨j,e,r⟩:=h;rw[hw.1] at e;have d:=vO e r;subst d;show⟨D,_,U,An.of ae,q _ (a.trans j\Aa.new I)⟩
def fZ:Am 4 "refuse_no_curves" uA4 [] CH:=by refine AK.cal T.x2k.g jZ<<<λd h=>?_;obtain⟨l,e,P,a,rfl,b,hw,c,q⟩:=h;show⟨_,((ag (aQ (aO (aM (af am r6 d (aL (pv 0) (pv 1))))) (ag bG) aE))),_,U,_,U,l,e,P,a,U,b,hw,c,λi f=>⟨_,U,aN (q _ f)⟩⟩
def fY:Am 1 "refuse_no_bounds" j0 [] CJ:=by refine AK.cal T.x2l.g j6<<<λj h=>?_;obtain⟨v,e,rfl,i,q⟩:=h;refine⟨_,((ag (aQ (aO (aM (aq (yl (x:="Ends") Θ T.xd T.x13) (by rfl) T.x0 aw (aL (pv 0) (dC (x:="Ends") Θ U (jL T.xd)))))) (ag bG) aE))),?_⟩;obtain⟨a,C,d,x,y,rfl,b,c,_⟩:=i;refine⟨_,U,λD f=>?_⟩;cases bA f b;show⟨_,_,U,b,.inl ⟨a,d,_,U,c,_,U,aN q⟩⟩
def iG:Am 8 "copied_curves" ["curves"] [] DE:=by
  refine AK.cal T.x2m.g lV<<<λhr h=>?_;obtain⟨l,ws,P,M,rfl,hl,hw,hp,q⟩:=h;refine⟨_,((ag (ao (az ["curve"] [] [] 1 (aY Θ (pv 0)) (λnd=>(ah 0 nd)) ax (l9 Θ am fW (hr.mono O) U (aJ (aX (x:="Curve") Θ T.x6 (.head _) (pv 0)))))))),_,U,l,true,U,⟨_,An.of hl⟩,dU (λi n c=>Aa H c/\⇑n=i/\(∀ (j:Nat) (v:V),n[j]?=Z v->BP K c (P.at j) v)/\∀ T,AC H T->∀ (j:Nat) (v:V),n[j]?=Z v->BP K (cut T c) (P.at j) v) ⟨Aa.refl _,U,λj v e=>by simp at e,λ_ _ j v e=>by simp at e⟩ (by rw[hw.1];decide) (λi n c hi ⟨f,e,_⟩=>⟨An.of (f _ _ hl),Y⟩) (λi x n c N ⟨f,e,I,m⟩ R S kk _=>?_) (λn c ⟨f,e,I,m⟩=>?_)⟩
  .have hi:i<3:=by rw[<- hw.1];show(Mp.mp N).1
   obtain⟨pp,_⟩:=hp i hi;obtain⟨a,C,dx,l2,rfl,hC,ha,F⟩:=(hw.2 i x N).same f;refine aF (B:=S c) ⟨_,U,a,C,dx,_,_,U,hC,ha,U,λp b k G X t u=>?_⟩;have r:Aa c (upd (upd c k (.own b)) b (.ins p k [])):=Aa.new t\Aa.new (by rw[ar u.symm];show X);have gv:upd (upd c k (.own b)) b (.ins p k []) b=Z (.ins p k []):=ae;generalize upd (upd c k (.own b)) b _=H5 at r gv ⊢;refine⟨b,p,k,_,P.at i,U,G,gv,Ad.same r F,pp,λH6 J A y=>⟨U,kk _ _ ?_⟩⟩;have L:Aa c H6:=λb' o e=>J _ _ (r _ _ e) (λz=>by rw[Mu.mp z,X] at e;cases e)
   refine⟨f\L,by rw[MP,e];rfl,λj v d=>?_,λT s j v d=>?_⟩
   .rcases jE d with ⟨_,d⟩|⟨rfl,rfl⟩
    .show(I j v d).same L
    .rw[e];show A
   .rcases jE d with ⟨_,d⟩|⟨rfl,rfl⟩
    .show(m T s j v d).same (Aa.cut L)
    .rw[e];show y T ((s.same f).same r)
  .intro D k;rw[hw.1] at e;refine q D n _ (f\Aa.new k) ?_ ae ⟨e,λj v d=>(I j v d).same (Aa.new k)⟩ λT s=>⟨e,λj v d=>(m T s j v d).same (Aa.cut (Aa.new k))⟩
   cases z:H D with
   |none=>rfl
   |some o=>rw[f _ _ z] at k;cases k
def i_:Am 7 "copied_ends" uC9 [] Fe:=by refine AK.cal T.x2n.g oh<<<λF h=>?_;obtain⟨v,e,rfl,B,D,q⟩:=h;refine⟨_,((ag (ao (xM Θ am gC (F.mono O) U (jC (aX (x:="Ends") Θ T.xd (.head _) (pv 0)) (jC (aX (x:="Ends") Θ T.xd (.tail _ (.head _)) (pv 0)) oX)))))),?_⟩;obtain⟨a,C,m,x,y,rfl,r,l,A,u⟩:=B;refine⟨_,U,a,C,m,_,_,U,r,l,U,_,U,a,C,m,_,_,U,r,l,U,λt b p f n c d=>?_⟩;generalize s:upd (upd H p _) b _=I;have i:=uH n c d s;have G:=cW s;refine⟨b,t,p,x,y,e,U,f,G,Ad.same i A,Ad.same i u,D,λL k j=>⟨U,q _ _ (λJ o e=>k _ _ (i _ _ e) (λz=>by rw[Mu.mp z,n] at e;cases e)) j⟩⟩
def kQ:Am 5 "values_at" uD8 [] F5:=by
  refine AK.cal T.x2o.g tF<<<λhr h=>?_;obtain⟨l,x,ws,P,most,c,rfl,hl,hw,hp,G,bd,wi,q⟩:=h;refine⟨_,((ag (ao (aS (c9 Θ) (by rfl) T.x2 aZ (aJ (az uC2 [] [] 2 (fX Θ U T.x7 (aL (pv 0) (pv 1))) (λX=>(bJ (n:=2) Θ U (aj (ah 0 X) (aj (ah 1 X) aK)))) ax (eA Θ am ik (hr.mono O) (pv 0) (aJ (pv 1))))))))),?_⟩;obtain⟨ca,xs,rfl,f,m⟩:=ay (b:=false) (ds:=c.ds) G;have I:⇑xs=3:=by rw[<- ⇑m];rfl
  refine⟨_,U,_,U,l,ca,true,false,U,⟨_,An.of hl⟩,⟨_,f⟩,lZ (λi t d=>Aa H d/\⇑t=i/\∀ (j:Nat) (v:V),t[j]?=Z v->∃ r:Rat,GU (P.at j) (Aq c.a c.b c.c j) r/\Ad K d (rD r) v) ⟨Aa.refl _,U,λj v e=>by simp at e⟩ (by rw[hw.1,I]) (by rw[hw.1];decide) (λi t d h=>⟨An.of (h.1 _ _ hl),AF.same h.1 f,by have:=h.2.1;lia⟩) (λi x y t T d G A h hT R kk S=>?_) (λt d h D hD=>?_)⟩
  .obtain⟨k,e,u⟩:=h;have s:i<3:=by rw[<- hw.1];show(Mp.mp G).1
   generalize N:upd d T _=H2;have F:=e_ hT N;have gT:=cW N;obtain⟨pp,yy,z,N,ez,z1,z2⟩:=hp i s;obtain⟨yv,ey,J⟩:=re m s;rw[A] at ey;cases ey;have p:=(hw.2 i x G).same (k\F);obtain⟨a,C,dx,l2,rfl,hC,ha,hl2⟩:=id p;refine⟨T,_,U,AZ.of gT,U,_,_,U,_,_,U,U,aF (B:=S H2) ⟨_,U,a,C,dx,_,U,hC,ha,U,_,U,↥a,y,P.at i,_,z,U,p,Ad.same (k\F) J,pp,Ok.mono (jO bd s) O,ez,(nK wi s).1,by rw[z1];show(nK wi s).2,λw r H3 s3 on M=>kk _ _ ⟨k.trans F\s3,by rw[MP,e];rfl,λj v L=>?_⟩⟩⟩;rcases jE L with ⟨_,L⟩|⟨rfl,rfl⟩
   .obtain⟨r',o',h'⟩:=u j v L;show⟨r',o',Ad.same (F\s3) h'⟩
   .rw[e];show⟨r,on,M⟩
  .obtain⟨k,e,u⟩:=h;rw[hw.1] at e;obtain⟨p,u1,u2,rfl⟩:=ad0 e;obtain⟨J,o0,M⟩:=u 0 p rfl;obtain⟨F,N,h1⟩:=u 1 u1 rfl;obtain⟨L,o2,h2⟩:=u 2 u2 rfl;refine⟨D,_,U,.inl ⟨An.of ae,λy A=>?_⟩⟩;have s:=Aa.new (o:=.lst [p,u1,u2]) hD;show q ⟨J,F,L⟩ ↥y _ (k.trans s\Aa.new A) ⟨o0,N,o2⟩ (Ad.tupN (ds:=(Q3.mk J F L).ds) A (Af.same s (.cons M (.cons h1 (.cons h2 .nil)))))
def jj:Am 5 "places_of" uB2 [] E_:=by
  refine AK.calX T.x2p.g rY<<<λhr h=>?_;obtain⟨l,x,ws,P,most,c,rfl,hl,hw,hp,J,bd,q,qz⟩:=h;refine⟨_,((ag (ao (aS (c9 Θ) (by rfl) T.x2 aZ (aJ (acG rfl rfl rfl acB rfl (fX Θ U T.x7 (aL (pv 0) (pv 1))) (jU zyB (by rfl)) (l7 (ts:=uC2) (cs:=[]) (js:=[]) (k:=2) (by rfl) U U) (λ_ _ _ _ _=>(bJ (n:=2) Θ U (aj (ah 0 (show QD (α:=Str) uC2 by decide +kernel)) (aj (ah 1 (show QD (α:=Str) uC2 by decide +kernel)) aK)))) (λ_ _ _ _ _=>ax) (λ_ _ _ _ _=>(nY Θ aaB gU (hr.mono O) (pv 0) (aJ (pv 1)))))))))),?_⟩;obtain⟨ca,xs,rfl,s,u⟩:=ay (b:=false) (ds:=c.ds) J;have M:⇑xs=3:=by rw[<- ⇑u];rfl
  refine⟨_,U,_,U,l,ca,true,false,U,⟨_,An.of hl⟩,⟨_,s⟩,lZ (λi F m=>Aa H m/\⇑F=i/\∀ (j:Nat) (v:V),F[j]?=Z v->AA (P.at j) (Aq c.a c.b c.c j)=true/\∃ r:Rat,AU (P.at j) (Aq c.a c.b c.c j) r/\Ad K m (rD r) v) ⟨Aa.refl _,U,λj v e=>by simp at e⟩ (by rw[hw.1,M]) (by rw[hw.1];decide) (λi F m h=>⟨An.of (h.1 _ _ hl),AF.same h.1 s,by have:=h.2.1;lia⟩) (λi x y F T m J I h hT R kk S=>?_) (λF m h D hD=>?_)⟩
  .obtain⟨f,e,G⟩:=h;have L:i<3:=by rw[<- hw.1];show(Mp.mp J).1
   generalize e0:upd m T _=H2;have t:=e_ hT e0;have gT:=cW e0;obtain⟨pp,yy,z,d,ez,z1,z2⟩:=hp i L;obtain⟨yv,ey,X⟩:=re u L;rw[I] at ey;cases ey;have A:=(hw.2 i x J).same (f\t);obtain⟨a,C,dx,l2,rfl,hC,ha,hl2⟩:=id A;refine⟨T,_,U,AZ.of gT,U,_,_,U,_,_,U,U,aF (B:=S H2) ⟨_,U,a,C,dx,_,U,hC,ha,U,_,U,↥a,y,P.at i,_,yy,z,U,A,Ad.same (f\t) X,pp,jO bd L,d,ez,λhin w b H3 s3 bc hb=>kk _ _ ⟨f.trans t\s3,by rw[MP,e];rfl,λj v ej=>?_⟩,λN=>(qz (Wp.mpr λz=>?_)).out (f\t)⟩⟩
   .rcases jE ej with ⟨_,ej⟩|⟨rfl,rfl⟩
    .obtain⟨r1,r',o',h'⟩:=G j v ej;show⟨r1,r',o',Ad.same (t\s3) h'⟩
    .rw[e];show⟨gg d ez _\hin,b,bc,hb⟩
   .have:=mw.mp z i L;rw[gg d ez,N] at this;cases this
  .obtain⟨f,e,G⟩:=h;rw[hw.1] at e;obtain⟨d,u1,u2,rfl⟩:=ad0 e;obtain⟨i0,L,o0,X⟩:=G 0 d rfl;obtain⟨i1,A,o1,h1⟩:=G 1 u1 rfl;obtain⟨i2,N,o2,h2⟩:=G 2 u2 rfl;refine⟨D,_,U,.inl ⟨An.of ae,λy I=>?_⟩⟩;have t:=Aa.new (o:=.lst [d,u1,u2]) hD;show q (by unfold AB;rw[show AA P.p c.a=true from i0,show AA P.q c.b=true from i1,show AA P.r c.c=true from i2];rfl) ⟨L,A,N⟩ ↥y _ (f.trans t\Aa.new I) ⟨o0,o1,o2⟩ (Ad.tupN (ds:=(Q3.mk L A N).ds) I (Af.same t (.cons X (.cons h1 (.cons h2 .nil)))))
def qC:Am 2 "are_values" uB2 [] Fv:=by
  refine AK.cal T.x2q.g qL<<<λhr h=>?_;obtain⟨l,x,ws,P,most,c,rfl,hl,hw,hp,I,bd,q⟩:=h;refine⟨_,((ag (ao (aq (iW Θ U) (by rfl) T.x8 fM (aJ (az uC2 [] [] 2 (fX Θ U T.x7 (aL (pv 0) (pv 1))) (λnd=>(bJ (n:=2) Θ U (aj (ah 0 nd) (aj (ah 1 nd) aK)))) ax (af am ge hr (ai (pv 1) (ai (ak K (eJ Θ am cQ (hr.mono O) (pv 0)) aa) (ai (ak K (eJ Θ am cQ (hr.mono O) (pv 0)) aa) aH)))))))))),?_⟩;obtain⟨ca,xs,rfl,v,F⟩:=ay (b:=false) (ds:=c.ds) I;have N:⇑xs=3:=by rw[<- ⇑F];rfl
  have sm:∀ {n:Int},0<=n->n<=1000->Sm 60 n:=λh1 h2=>Sm.mono (k:=20) (by unfold Sm;lia) O
  refine⟨_,U,_,U,l,ca,true,false,U,⟨_,An.of hl⟩,⟨_,v⟩,lZ (xs:=ws) (ys:=xs) (λi J G=>Aa H G/\J=(NG i).map λj=>V.bl (AA (P.at j) (Aq c.a c.b c.c j))) ⟨Aa.refl _,U⟩ (by rw[hw.1,N]) (by rw[hw.1];decide) (λi J G ⟨o,e⟩=>⟨An.of (o _ _ hl),AF.same o v,by rw[e];simp⟩) (λi x y J T G I hy ⟨o,e⟩ hT R kk S=>?_) (λJ G ⟨o,e⟩ D hD=>?_)⟩
  .have hi:i<3:=by rw[<- hw.1];show(Mp.mp I).1
   generalize e0:upd G T _=H2;have sT:=e_ hT e0;obtain⟨pp,f,z,d,L,z1,z2⟩:=hp i hi;obtain⟨yv,ey,X⟩:=re F hi;rw[hy] at ey;cases ey;have t:=(hw.2 i x I).same (o\sT);obtain⟨a,C,dx,l2,rfl,hC,ha,hl2⟩:=id t;have iy:=pp.inn f (MD d);have iz:=pp.inn z (Ot L);refine⟨T,_,U,AZ.of (cW e0),U,_,_,U,_,_,U,U,aF (B:=S H2) ⟨_,U,_,U,a,C,dx,_,U,hC,ha,U,↥a,_,f,z,U,t,d,L,λu H3 s3 hu=>?_⟩⟩;obtain⟨E1,es,rfl,hE,s⟩:=ay (b:=false) (ds:=[↑f.2,↑z.2]) hu;have m:=jq (ns:=[f.2,z.2]) s;subst m;refine fE (b:=false) (i:=0) hE rfl ⟨_,U,a,C,dx,_,U,hC,s3 _ _ ha,U,↥a,_,f,z,U,t.same s3,d,L,λu H4 s4 hu=>?_⟩;obtain⟨E2,es,rfl,M,s⟩:=ay (b:=false) (ds:=[↑f.2,↑z.2]) hu;have m:=jq (ns:=[f.2,z.2]) s;subst m;have A:=o.trans sT\(s3\s4);refine fE (b:=false) (i:=1) M rfl ⟨y,_,f.2,z.2,U,Ad.same A X,Ok.mono (jO bd hi) O,sm iy.b1 iy.b2,sm iz.b1 iz.b2,kk _ _ ⟨A,?_⟩⟩;rw[O2,Nx,<- e,MR,Px,gg d L,nC]
  .rw[hw.1] at e;subst e;refine⟨D,[AA P.p c.a,AA P.q c.b,AA P.r c.c],U,An.of ae,?_⟩;have d:[AA P.p c.a,AA P.q c.b,AA P.r c.c].all id=AB P c:=by
    simp only[P7,UY,id,QB];rfl
   rw[d];show q _ (o\Aa.new hD)
def f_:DV P w K mg base (Fj P w) 9 "SquareProfile" "__init__" uA2 uC9 3 1 [] Br:=by
  refine T.x3w.cal f6<<<λhr h=>?_;obtain⟨a,C,c,l,x,y,ws,P,s,e,rfl,hC,hH,L,hw,hp,hx,hs,hy,ie,q⟩:=h;refine⟨_,((ac (bg (af am fZ hr (aL (pv 1) (cM rfl T.xx))))
   (ac (bg (af am fY hr (aJ (pv 3))))
   (ac (bg (af am dk hr (aJ (pv 2))))
   (ac (eT (x:="SquareProfile") Θ T.xb (.head _) (pv 0) (af am iG hr (aJ (pv 1))))
   (ac (eT (x:="SquareProfile") Θ T.xb (.tail _ (.head _)) (pv 0) (az ["row"] [] [] 1 (aY Θ (pv 2)) (λnd=>(ah 0 nd)) ax (aS (jy Θ) (by rfl) T.xa eO (aJ (pv 0)))))
   (ag (eT (x:="SquareProfile") Θ T.xb (.tail _ (.tail _ (.head _))) (pv 0) (af am i_ hr (aJ (pv 3))))))))))),_,U,l,ws,P,1000,U,L,hw,hp,λH1 s1=>⟨_,U,y,e,U,hy.same s1,_,U,x,s,U,Ad.same s1 hx,hs,λH2 s2=>?_⟩⟩
  have d:=s1\s2;refine⟨_,U,l,ws,P,1000,U,d _ _ L,hw.same d,hp,λD us H3 s3 hD gD c3 cT=>?_⟩;have p:=d\s3;have ha:=p _ _ hH;refine⟨_,U,a,C,c,[],U,hC,ha,O,?_⟩;generalize hG:upd H3 a _=G;have ga:G a=Z (.ins C c [("curves",↥D)]):=by rw[<- hG];show ae
  have sI:A_ H3 G:=by rw[<- hG];show A_.put ha
  have mG:Mv [a] H G:=λb o z f=>by rw[<- hG,ar (λw=>f (by simp[w]))];show p _ _ z
  have gD':=sI _ _ gD λ_ _ _ z=>nomatch z
  have yG:A6 K G e y:=by rw[<- hG];show(hy.same p).put ha O
  have cG:∀ T,AC H T->Bj K (cut T G) P us:=λT g=>by
   have r:=g.not hH λ_ z=>nomatch z
   have e:cut T G=upd (cut T H3) a (.ins C c (A8 "curves" ↥D [])):=by rw[<- hG];show jR r
   rw[e];show(cT T (g.same d)).put (by rw[dO r];show ha) O
  have xG:=Ad.sameI sI (Ad.same p hx);have hD0:=jc (T:=[]) (l:=D) (Mv.of d) hD zyA;clear hG sI s1 s2 s3 d p ha L hw hx hy gD c3 cT;obtain⟨xa,xs,rfl,hxa,hxs⟩:=ay xG;have hxl:⇑xs=3:=by rw[<- ⇑hxs];rfl
  refine⟨_,U,xa,s.k,U,⟨_,hxa⟩,dU (λi F J=>Aa G J/\⇑F=i/\∀ (j:Nat) (v:V),F[j]?=Z v->∃ l,v=↥l/\H l=none/\J l=Z (.lst (s.row j).vs)) ⟨Aa.refl _,U,λj v e=>by simp at e⟩ (by rw[hxl];decide) (λi F J hi h=>⟨AF.same h.1 hxa,by have:=h.2.1;lia⟩) (λi x F J hx h R S kk _=>?_) (λF J h=>?_)⟩
  .obtain⟨M,el,hz⟩:=h;obtain⟨hi,k,hr⟩:=aeA (Af.same M hxs) hx;obtain⟨ra,rfl,hra⟩:=cN hr;refine aF (B:=S J) ⟨_,U,ra,_,U,ic hra,λl L=>kk _ _ ⟨M\Aa.new L,by rw[MP,el];rfl,λj v ej=>?_⟩⟩;rcases jE ej with ⟨_,ej⟩|⟨rfl,rfl⟩
   .obtain⟨l',h1,h2,h3⟩:=hz j v ej;show⟨l',h1,h2,Aa.new L _ _ h3⟩
   .rw[el];refine⟨l,U,jc (T:=[a]) (λb o z f=>M _ _ (mG _ _ z f)) L (λz=>?_),ae⟩;rw[Mu.mp z,M _ _ ga] at L;cases L
  obtain⟨M,el,hz⟩:=h;intro A t;have sZ:=M\Aa.new (o:=.lst F) t;have eZ:upd J A (.lst F) A=Z (.lst F):=ae;have hD20:H A=none:=jc (T:=[a]) (λb o z f=>M _ _ (mG _ _ z f)) t (λz=>by rw[Mu.mp z,M _ _ ga] at t;cases t);replace hz:∀ (j:Nat) (v:V),F[j]?=Z v->∃ l,v=↥l/\H l=none/\upd J A (.lst F) l=Z (.lst (s.row j).vs):=λj v ej=>by obtain⟨l,h1,h2,h3⟩:=hz j v ej;show⟨l,h1,h2,Aa.new t _ _ h3⟩
  generalize upd J A _=H4 at sZ eZ hz ⊢;rw[hxl] at el;obtain⟨z0,z1,z2,rfl⟩:=ad0 el;have I:=sZ _ _ ga;refine⟨_,U,a,C,c,_,U,hC,I,(by change 1<1000;decide),?_⟩;generalize n:upd H4 a _=G2;have ga2:G2 a=Z (.ins C c [("curves",↥D),("square",↥A)]):=by rw[<- n];show ae
  have sI2:A_ H4 G2:=by rw[<- n];show A_.put I
  have mG2:Mv [a] H G2:=λb o z f=>by rw[<- n,ar (λw=>f (by simp[w]))];show sZ _ _ (mG _ _ z f)
  have yG2:A6 K G2 e y:=by rw[<- n];show(yG.same sZ).put I (by change([("curves":Str)]:List Str)≠[("white":Str),("black":Str)];decide)
  have cG2:∀ T,AC H T->Bj K (cut T G2) P us:=λT g=>by
   have r:a∉T:=g.not hH λ_ z=>nomatch z
   have e:cut T G2=upd (cut T H4) a (.ins C c (A8 "square" ↥A [("curves",↥D)])):=by rw[<- n];show jR r
   rw[e];show((cG T g).same (Aa.cut sZ)).put (by rw[dO r];show I) (by change([("curves":Str)]:List Str)≠[("points":Str)];decide)
  refine⟨_,U,y,e,U,yG2,ie,λu H5 s5 en5=>?_⟩;have ga5:=s5 _ _ ga2;refine⟨_,U,a,C,c,_,U,hC,ga5,(by change 2<1000;decide),?_⟩;have r:∀ {T},AC H T->a∉T:=λg=>g.not hH λ_ z=>nomatch z
  have m5:Mv [a] H H5:=λb o z f=>s5 _ _ (mG2 _ _ z f)
  refine q _ (λb o z f=>by rw[ar (λw=>f (by simp[w]))];show m5 _ _ z f) λT g=>?_
  have r:=r g;have lT5:AC H5 T:=λb m=>let ⟨w,e⟩:=g b m;⟨w,m5 _ _ e (λz=>r (Mu.mp z▸m))⟩
  rw[jR r];have N:cut T H5 a=Z (.ins C c [("curves",↥D),("square",↥A)]):=by rw[dO r];show ga5
  have X:∀ {l:MF}{o:HO},H l=none->H4 l=Z o->(∀ C c fs,o≠.ins C c fs)->upd (cut T H5) a (.ins C c (A8 "bounds" u [("curves",↥D),("square",↥A)])) l=Z o:=λ{l o} h0 h4 hn=>by
   rw[ar (λz=>by rw[z,hH] at h0;cases h0),dO (g.new h0)];show s5 _ _ (sI2 _ _ h4 hn)
  have rows:∀ (j:Nat) (v:V),[z0,z1,z2][j]?=Z v->Ad K (upd (cut T H5) a (.ins C c (A8 "bounds" u [("curves",↥D),("square",↥A)]))) (AE true (s.row j)) v:=λj v ej=>by
   obtain⟨l,rfl,h0,h4⟩:=hz j v ej;show .lst (.inl (X h0 h4 λ_ _ _ z=>nomatch z)) (lh _)
  show⟨a,C,c,D,us,↥A,u,U,hC,ae,X hD0 (sZ _ _ gD') (λ_ _ _ z=>nomatch z),((cG2 T g).same (Aa.cut s5)).put N (by change([("curves":Str),("square":Str)]:List Str)≠[("points":Str)];decide),
   .lst (.inl (X hD20 eZ λ_ _ _ z=>nomatch z)) (.cons (rows 0 z0 rfl) (.cons (rows 1 z1 rfl) (.cons (rows 2 z2 rfl) .nil))),(en5.mv Mv.self lT5).put N (by change([("curves":Str),("square":Str)]:List Str)≠[("white":Str),("black":Str)];decide)⟩
def bj:BH 8 "SquareProfile" "to_worth" uB6 [] AG:=by
  refine BO.cal (T.x3m.g T.xb) f9<<<λi h=>?_;obtain⟨v,x,P,s,e,c,rfl,D,p,F,o,wi,d,q⟩:=h;refine⟨_,((ac (bg (af am bW i (aJ (pv 1))))
   (ag (ao (af am aeM i (aL (aX (x:="SquareProfile") Θ T.xb (.tail _ (.head _)) (pv 0)) (af am kQ i (aL (aX (x:="SquareProfile") Θ T.xb (.head _) (pv 0)) (pv 1))))))))),_,U,x,c,U,o,wi,d.mono O,λN j=>?_⟩
  obtain⟨a,C,n,J,I,z,R,rfl,t,k,f,A,hq,M⟩:=D.same j;show⟨_,U,a,C,n,_,_,U,t,k,U,_,U,a,C,n,_,_,U,t,k,U,_,U,J,x,I,P,1000,c,U,f,A,p,Ad.same j o,d,wi,λr u L l m B=>⟨z,u,s,r,U,Ad.same l hq,F,B,(wg p m d).mono O,λv G y b=>q r v G (j.trans l\y) m b⟩⟩
def fb:BH 9 "SquareProfile" "from_worth" uC6 [] Bb:=by
  refine BO.calX (T.x3n.g T.xb) fI<<<λo h=>?_;obtain⟨v,x,P,sq,e,c,rfl,I,J,k,s,l,y,q⟩:=h;refine⟨_,((ac (bg (af am cC o (aJ (pv 1))))
   (ag (ao (nI (IN.g jN rfl) jj (o.mono O) U (aL (aX (x:="SquareProfile") Θ T.xb (.head _) (pv 0)) (nI (IN.g jN rfl) qp (o.mono O) U (aL (aX (x:="SquareProfile") Θ T.xb (.tail _ (.head _)) (pv 0)) (pv 1))))))))),_,U,x,c.a,c.b,c.c,U,s,λH1 d=>?_⟩
  obtain⟨a,C,r,R,N,B,en,rfl,t,p,m,D,hq,X⟩:=I.same d;refine⟨_,U,a,C,r,_,_,U,t,p,U,_,U,a,C,r,_,_,U,t,p,U,_,U,B,x,sq,c,U,hq,k,Ad.same d s,l.mono O,λL=>(y (by unfold Em;rw[MZ λz=>z.1 L])).out d,λn u S f F=>⟨R,u,N,P,1000,_,U,f _ _ m,D.same f,J,F,(wH (su k n) l).mono O,λj b w M A G hw=>q _ (by unfold Em;rw[M' ⟨n,j⟩]) ((wH (su k n) l).mono O) b w M (d.trans f\A) G hw,λi=>(y (by unfold Em;rw[MZ λz=>by rw[i] at z;cases z.2])).out (d\f)⟩⟩
def gQ:DV P w K mg base (Fj P w) 9 "GridProfile" "__init__" uA3 uC9 3 1 [] BE:=by
  refine T.x3x.cal gN<<<λhr h=>?_;obtain⟨a,C,r,l,x,y,ws,P,f,e,rfl,hC,X,hl,hw,hp,hx,wt,hy,ie,q⟩:=h;refine⟨_,((ac (bg (af am fZ hr (aL (pv 1) (cM rfl T.xg))))
   (ac (bg (af am fY hr (aJ (pv 3))))
   (ac (aQ (aO (aM (aq (yl (x:="Grid") Θ T.x3 T.xl) (by rfl) T.x0 aw (aL (pv 2) (dC (x:="Grid") Θ U (jL T.x3)))))) (ag bG) aE)
   (ac (eT (x:="GridProfile") Θ T.x9 (.head _) (pv 0) (af am iG hr (aJ (pv 1))))
   (ac (eT (x:="GridProfile") Θ T.x9 (.tail _ (.head _)) (pv 0) (l9 Θ am cL (hr.mono O) U (aL (aX (x:="Grid") Θ T.x3 (.head _) (pv 2)) (aX (x:="Grid") Θ T.x3 (.tail _ (.head _)) (pv 2)))))
   (ag (eT (x:="GridProfile") Θ T.x9 (.tail _ (.tail _ (.head _))) (pv 0) (af am i_ hr (aJ (pv 3))))))))))),_,U,l,ws,P,60,U,hl,hw,hp,λH1 A=>⟨_,U,y,e,U,hy.same A,?_⟩⟩
  obtain⟨g,Cg,dy,Lt,rfl,d,J,v⟩:=hx.same A;refine⟨_,U,λD hD=>?_⟩;cases bA hD d;refine⟨_,_,U,d,.inl ⟨g,dy,_,U,J,_,U,aN (⟨_,U,l,ws,P,60,U,A _ _ hl,hw.same A,hp,λD us H3 s3 hD gD c3 cT=>?_⟩)⟩⟩;have k:=A\s3;have L:=k _ _ X;refine⟨_,U,a,C,r,[],U,hC,L,O,?_⟩;generalize B:upd H3 a _=G;have ga:G a=Z (.ins C r [("curves",↥D)]):=by rw[<- B];show ae
  have sI:A_ H3 G:=by rw[<- B];show A_.put L
  have mG:Mv [a] H G:=λb o z t=>by rw[<- B,ar (λw=>t (by simp[w]))];show k _ _ z
  have gD':=sI _ _ gD λ_ _ _ z=>nomatch z
  have yG:A6 K G e y:=by rw[<- B];show(hy.same k).put L O
  have cG:∀ T,AC H T->Bj K (cut T G) P us:=λT i=>by
   have n:=i.not X λ_ z=>nomatch z
   have e:cut T G=upd (cut T H3) a (.ins C r (A8 "curves" ↥D [])):=by rw[<- B];show jR n
   rw[e];show(cT T (i.same A)).put (by rw[dO n];show L) O
  have xG:Bh K G 2 f ↥g:=by rw[<- B];show(hx.same k).put L O
  have I:=jc (T:=[]) (Mv.of A) hD zyA;clear B A s3 k L hl hw hx hy gD c3 cT J v d sI;obtain⟨_,Cg,dy,Lt,eg,d,J,v⟩:=id xG;cases eg;refine⟨_,U,g,Cg,dy,_,_,U,d,J,U,_,U,g,Cg,dy,_,_,U,d,J,U,λC3 b dz S hb hdz hne=>?_⟩;generalize e0:upd (upd G dz _) b _=H5;have s:=uH hb hdz hne e0;refine⟨b,C3,dz,Lt,2,f,U,S,cW e0,v.same s,wt,O,O,λH4 L4 mv4 hb4 R hL4=>⟨U,?_⟩⟩;have M:Aa G H4:=λb' o e=>mv4 _ _ (s _ _ e) (λz=>by rw[Mu.mp z,hb] at e;cases e)
  have gr4:Bh K H4 2 f ↥b:=⟨b,C3,dz,L4,U,S,hb4,R⟩
  clear s mv4 hb4 R hL4 J v xG;have p:=M _ _ ga;refine⟨_,U,a,C,r,_,U,hC,p,(by change 1<1000;decide),?_⟩;generalize c:upd H4 a _=F;have ga2:F a=Z (.ins C r [("curves",↥D),("grid",↥b)]):=by rw[<- c];show ae
  have sI2:A_ H4 F:=by rw[<- c];show A_.put p
  have mG2:Mv [a] H F:=λb o z t=>by rw[<- c,ar (λw=>t (by simp[w]))];show M _ _ (mG _ _ z t)
  have yG2:A6 K F e y:=by rw[<- c];show(yG.same M).put p (by change([("curves":Str)]:List Str)≠[("white":Str),("black":Str)];decide)
  have gr2:Bh K F 2 f ↥b:=by rw[<- c];show gr4.put p (by change([("curves":Str)]:List Str)≠[("knots":Str),("table":Str)];decide)
  have cG2:∀ T,AC H T->Bj K (cut T F) P us:=λT i=>by
   have n:=i.not X λ_ z=>nomatch z
   have e:cut T F=upd (cut T H4) a (.ins C r (A8 "grid" ↥b [("curves",↥D)])):=by rw[<- c];show jR n
   rw[e];show((cG T i).same (Aa.cut M)).put (by rw[dO n];show p) (by change([("curves":Str)]:List Str)≠[("points":Str)];decide)
  refine⟨_,U,y,e,U,yG2,ie,λu H5 s en5=>?_⟩;have ga5:=s _ _ ga2;refine⟨_,U,a,C,r,_,U,hC,ga5,(by change 2<1000;decide),?_⟩;have n:∀ {T},AC H T->a∉T:=λi=>i.not X λ_ z=>nomatch z
  have m5:Mv [a] H H5:=λb o z t=>s _ _ (mG2 _ _ z t)
  refine q _ (λb o z t=>by rw[ar (λw=>t (by simp[w]))];show m5 _ _ z t) λT i=>?_
  have n:=n i;have N:AC H5 T:=λb m=>let ⟨w,e⟩:=i b m;⟨w,m5 _ _ e (λz=>n (Mu.mp z▸m))⟩
  rw[jR n];have j:cut T H5 a=Z (.ins C r [("curves",↥D),("grid",↥b)]):=by rw[dO n];show ga5
  refine⟨a,C,r,D,us,↥b,u,U,hC,ae,?_,((cG2 T i).same (Aa.cut s)).put j (by change([("curves":Str),("grid":Str)]:List Str)≠[("points":Str)];decide),((gr2.same s).mv Mv.self N).put j (by change([("curves":Str),("grid":Str)]:List Str)≠[("knots":Str),("table":Str)];decide),(en5.mv Mv.self N).put j (by change([("curves":Str),("grid":Str)]:List Str)≠[("white":Str),("black":Str)];decide)⟩;rw[ar (λz=>by rw[z,X] at I;cases I),dO (i.new I)];show s _ _ (sI2 _ _ (M _ _ gD') λ_ _ _ z=>nomatch z)
def bF:BH 8 "GridProfile" "to_worth" uB6 [] AL:=by
  refine BO.cal (T.x3o.g T.x9) gM<<<λo h=>?_;obtain⟨v,x,P,f,e,c,k,rfl,G,n,A,t,wi,l,I,J,q⟩:=h;refine⟨_,((ac (bg (af am bW o (aJ (pv 1))))
   (ag (ao (adt Θ am mY (o.mono O) (aX (x:="GridProfile") Θ T.x9 (.tail _ (.head _)) (pv 0)) (aJ (af am kQ o (aL (aX (x:="GridProfile") Θ T.x9 (.head _) (pv 0)) (pv 1)))) oX))))),_,U,x,c,U,t,wi,l.mono Y,λH1 b=>?_⟩
  obtain⟨a,C,s,cl,S,gv,en,rfl,y,p,m,D,hq,he⟩:=G.same b;obtain⟨g,z,N,L,rfl,j,M,gL⟩:=id hq;show⟨_,U,a,C,s,_,_,U,y,p,U,g,z,N,_,U,j,M,U,_,U,a,C,s,_,_,U,y,p,U,_,U,cl,x,S,P,60,c,U,m,D,n,Ad.same b t,l.mono I,wi,λr u H2 d i F=>⟨↥g,u,2,f,r,k+23,U,hq.same d,A,O,O,F,aed n i wi,wg n i l,Y,(J.same b).same d,λw R B hw X=>q r w R (b.trans d\B) i hw (X.mono Y)⟩⟩
def fC:BH 9 "GridProfile" "from_worth" uC6 [] Bl:=by
  refine BO.calX (T.x3p.g T.x9) cV<<<λI h=>?_;obtain⟨v,x,P,f,e,c,rfl,hv,X,wt,hx,bd,tr,qz,q⟩:=h;refine⟨_,((ac (aeU (fj NO rfl (aY Θ (af am lB I (aL (aX (x:="GridProfile") Θ T.x9 (.tail _ (.head _)) (pv 0)) (pv 1)))) (ah 2 cV.nd) (ag (aQ (aM (af am qC I (aL (aX (x:="GridProfile") Θ T.x9 (.head _) (pv 0)) (pv 2)))) (ag (ao (nI aba jj (I.mono O) U (aL (aX (x:="GridProfile") Θ T.x9 (.head _) (pv 0)) (pv 2))))) aE))))
   (ag (oZ Θ jN rfl rfl rfl (tH T.x5 (i:=4) U) (aJ c7))))),?_⟩
  obtain⟨a,C,G,cl,us,gv,en,rfl,J,F,s,N,hq,he⟩:=id hv;refine⟨_,U,a,C,G,_,_,U,J,F,U,_,U,gv,x,2,f,c,U,hq,wt,O,O,hx,bd,tr,λz y T H1 hz ew ks b6 lx s1 M=>?_⟩;have S:=jK z y;have l:E7 f c ((C6 z y).map (·.1)):=⟨z,y,hz,ew,U⟩
  have kk:∀ p∈C6 z y,Ad K H1 p.1.col ↥p.2/\p.1.Bd 1060:=λp m=>⟨ks.1 p (S.mem_iff.mp m),b6 p (S.mem_iff.mp m)⟩
  generalize C6 z y=cs at *;refine⟨T,true,U,⟨_,An.of M⟩,iO (λi A R=>(∃ o,A=[Z ↥a,Z x,o])/\Aa H1 R/\∀ j p,j<i->cs[j]?=Z p->AB P p.1=false) ⟨⟨_,U⟩,Aa.refl _,λj p L=>absurd L (Nat.not_lt_zero _)⟩ (λi A R _ h=>An.of (h.2.1 _ _ M)) ?_ ?_⟩
  .rintro i v A H2 t ⟨⟨o,rfl⟩,r,B⟩;rw[Mw] at t;obtain⟨p,n,rfl⟩:=MG.mp t;obtain⟨k1,k2⟩:=kk p (MD n);have k:=s1\r;refine⟨_,U,a,C,G,_,_,U,J,k _ _ F,U,_,U,cl,↥p.2,us,P,60,p.1,U,k _ _ s,N.same k,X,Ad.same r k1,k2.mono O,λH3 D=>⟨_,U,?_⟩⟩;cases hin:AB P p.1 with
   | false=>show aN ⟨⟨_,U⟩,r\D,fun j d L e=>by
     rcases TW.mp L with h|rfl
     .show B j d h e
     .rw[n] at e;cases e;show hin⟩
   |true=>
    have d:=k\D;show aF ⟨_,U,a,C,G,_,_,U,J,d _ _ F,U,_,U,cl,↥p.2,us,P,60,p.1,U,d _ _ s,N.same d,X,Ad.same (r\D) k1,k2.mono O,λ_ b u H4 s4 bc hu=>q _ p.1 l (sV n hin B) k2 b u H4 (d\s4) bc hu,λz=>by rw[hin] at z;cases z⟩
  .rintro A H2 ⟨⟨o,rfl⟩,r,B⟩;show⟨le1,(qz _ l (xD λj p e=>B j p (by rw[Mq];show(Mp.mp e).1) e)).now (s1\r) U⟩
def uf:Am 1 "_law_town" uA5 [] FZ:=by
  refine AK.cal T.x2r.g t9<<<λc h=>?_;obtain⟨a,ns,rfl,i,k,q⟩:=h;refine⟨_,((ag (ao (a_ (aL (iH (aG (ac6 Θ c.units) (pv 0) (a_ aH) (aA _)) (aS (jy Θ) (by rfl) T.xa eO (aJ (pv 0))) (a_ (aJ aa))) aa))))),_,U,O,λp j=>⟨a,p,ns,U,U,(Aa.new j).seq i,ae,_,U,?_⟩⟩;have e:Aa H (upd H p (.lst [])):=Aa.new j
  by_cases f:ns=[]
  .rw[MB f];refine aN ⟨O,λr c=>⟨iX,λt b=>?_⟩⟩;have d:=e\Aa.new (o:=.lst [↑0]) c;show q t r _ (d\Aa.new b) (d.free b) (e.free c) ⟨[0],0,ae,by rw[ar (aI ae b)];show ae,O,O⟩
  .rw[Na f];refine aF ⟨_,U,a,ns.map V.int,U,.inl (e.seq i),λr c=>⟨iX,λt b=>?_⟩⟩;have d:=e\Aa.new (o:=.lst (ns.map V.int)) c;show q t r _ (d\Aa.new b) (d.free b) (e.free c) ⟨ns,0,ae,by rw[ar (aI ae b)];show ae,f,k⟩
def aB:Am 1 "_law_draw" ["_law_town_here","_law_many"] [] FS:=by
  refine AK.cal T.x2s.g dh<<<λI h=>?_;obtain⟨t,r,e,rfl,s,l,D,q⟩:=h;have i:=s.ne;obtain⟨a,k,p,hw,f,d⟩:=s;refine⟨_,((ac (av 2 dh.nd (ak K (pv 0) aa))
   (ac (dA (au bZ (ak K (pv 0) aa) aa) (wE (pv 0) aa kZ))
   (ac (av 3 dh.nd (au jw (ak K (pv 0) aa) (aq (fF Θ) (by rfl) T.x4 cS (aJ (pv 2)))))
   (ac (av 4 dh.nd (ak K (pv 2) (pv 3)))
   (ac (aQ (aG af1 (pv 4) aa (aA _)) (ac (dA (au c5 (pv 4) (pv 1)) (wE (pv 2) (pv 3) kZ))
   (ag (ao (au jw (pv 4) (pv 1))))) aE)
   (ac (av 5 dh.nd (au jw (au bZ (pv 4) (au aD aa (ak K (pv 0) aa))) aa))
   (ac (av 5 dh.nd (au jw (au aav (pv 5) aa) aa))
   (ag (ao (au jw (au c5 (au jw (au bZ (au aD (au c5 (pv 5) aa) aa) (pv 5)) aa) aa) (pv 1)))))))))))),?_⟩
  have G:=VO.mpr f;have b:∀ o,upd H t o r=Z (.lst (a.map V.int)):=λo=>by rw[ar i.symm];show hw
  refine⟨_,U,afh p (⟨_,U,vM p ⟨_,_,U,U,_,U,t,_,1,1,U,U,p,U,⟨_,U,vM ae ⟨_,U,r,a.map V.int,U,.inl (An.of (b _)),_,_,U,U,?_,?_⟩⟩⟩⟩)⟩
  .change(0:Int)<(⇑(a.map V.int):Int);rw[Mq];lia
  have J:(⇑(a.map V.int):Int)=(⇑a:Int):=by rw[Mq]
  obtain⟨j,F⟩:∃ j:Nat,(k+1)%(⇑(a.map V.int):Int)=(j:Int):=⟨_,(Int.toNat_of_nonneg (PQ _ Y)).symm⟩
  have n:j<⇑a:=by
   have:=O5 (k+1) (show 0<(⇑(a.map V.int):Int) by lia);lia
  simp only[F];refine⟨_,U,_,U,.inl ⟨r,_,_,.int a[j],U,U,An.of (b _),jG (by simp[n]),?_⟩⟩;generalize a[j]=c;refine⟨_,U,_,_,U,U,_,U,dg (λC=>?_) (λC=>?_)⟩
  .refine⟨_,U,_,U,_,_,U,U,⟨Y,D⟩,_,U,_,U,r,_,_,j,U,U,b _,?_,?_⟩
   .rw[Mq];unfold G_;rw[M' (show(0:Int)<=(j:Int) by lia),M' (show(j:Int)<(⇑a:Int) by lia)];rfl
   refine⟨_,U,_,U,_,_,U,U,l,q _ _ (PQ _ Y) (O5 _ l) ⟨a.set j (c.fdiv e),k+1,?_,?_,?_,?_⟩ ?_⟩
   .rw[ar i];show ae
   .rw[ae,List.map_set]
   .intro z;have:=Rp Uc z;rw[SH] at this;show absurd this (by rw[SG];lia)
   .rw[SH];show d
   .show(Mv.upd zyA).trans (Mv.upd zyA)
  .refine⟨_,U,_,U,vM ae ⟨_,_,U,U,.inr (by unfold Sm;decide),_,_,U,U,_,_,U,U,(by change(0:Int)<4294967291;decide),?_⟩⟩;dsimp only;have A:=PQ (c+104729*(k+1)) (show(4294967291:Int)≠0 by decide);have v:=O5 (c+104729*(k+1)) (show(0:Int)<4294967291 by decide);generalize (c+104729*(k+1))%4294967291=m at A v ⊢;refine⟨_,U,_,_,U,U,⟨O,O,Y⟩,_,_,U,U,(by change(0:Int)<4294967279;decide),?_⟩;dsimp only;have x:=PQ (m^(5:Int).toNat) (show(4294967279:Int)≠0 by decide);have B:=O5 (m^(5:Int).toNat) (show(0:Int)<4294967279 by decide);generalize m^(5:Int).toNat%4294967279=u at x B ⊢;have y:Sm 64 (u.fdiv 64):=by
    rw[OR _ O];unfold Sm;lia
   show⟨_,U,_,_,U,U,⟨O,by unfold Sm;decide⟩,_,_,U,U,.inr y,_,U,_,_,U,U,_,_,U,U,(by change(0:Int)<4294967231;decide),_,_,U,U,⟨O,by unfold Sm;decide⟩,_,U,_,_,U,U,l,q _ _ (PQ _ Y) (O5 _ l) ⟨a,k+1,ae,b _,f,d⟩ (Mv.upd zyA)⟩
def dZ:Am 2 "_law_pick" uC1 [] FK:=by
  refine AK.cal T.x2t.g tI<<<λn h=>?_;obtain⟨t,r,p,a,rfl,i,e,m,l,b,x,q⟩:=h;refine⟨_,((ag (ao (ak K (pv 1) (af am aB n (aL (pv 0) (aq (fF Θ) (by rfl) T.x4 cS (aJ (pv 1))))))))),?_⟩;have s:=VO.mpr b;refine⟨_,U,_,U,_,U,p,a,U,.inl (An.of e),t,r,_,U,i,Y,?_,λd u o v c mv=>?_⟩
  .refine Sm.mono (k:=64) ?_ O;unfold Sm;lia
  obtain⟨j,rfl⟩:=Rh o;have f:j<⇑a:=Y
  show .inl ⟨p,a,_,a[j],U,U,An.of (mv p _ e (by simp[m,l])),jG (by simp[f]),q j _ _ (by simp[f]) c mv⟩
def kg:Am 1 "_law_whole" uA7 [] Fo:=by
  refine AK.cal T.x2u.g ql<<<λi h=>?_;obtain⟨x,S,rfl,ty,q⟩:=h;refine⟨_,((ag (ao (cZ (aq (iT Θ) (by rfl) T.x0 aw (aL (pv 0) (bO (v:=.ty "int") U T.xq acC rfl))) (fg (pV (aq (iT Θ) (by rfl) T.x0 aw (aL (pv 0) (bO (v:=.ty "bool") U T.xo xU rfl))))))))),?_⟩;obtain⟨b,d,a⟩:=ab1 ty;refine⟨_,U,_,_,_,b,U,ty,d,b,U,?_⟩;cases b with
  |false=>
   refine aN ?_;rw[show Gd x=false from a] at q;show q
  |true=>
   obtain⟨c,f,e⟩:=(show ∃ c,Bx S "bool"=Z c/\Gd x=!c from a)
   refine aF ⟨_,U,_,_,_,c,U,ty,f,c,U,?_⟩;rw[e] at q;show q
def mL:Am 1 "_law_refusal" ["_law_caught"] [] Eo:=by
  refine AK.cal T.x2v.g b9<<<λhr h=>?_;obtain⟨v,rfl,⟨e,C,rfl,k,b⟩,q⟩:=h;refine⟨_,((ac (av 1 b9.nd (a_ (ai (aq (iA Θ) (by rfl) T.x0 aw (aL (pv 0) (dC Θ U (b8 T.x5 (i:=0) U)))) (ai (aq (iA Θ) (by rfl) T.x0 aw (aL (pv 0) (dC Θ U (b8 T.x5 (i:=1) U)))) (ai (aq (iA Θ) (by rfl) T.x0 aw (aL (pv 0) (dC Θ U (b8 T.x5 (i:=2) U)))) aH)))))
   (ac (av 1 b9.nd (au iY (pv 1) (a_ (ai (aq (iA Θ) (by rfl) T.x0 aw (aL (pv 0) (dC Θ U (b8 T.x5 (i:=3) U)))) (ai (aq (iA Θ) (by rfl) T.x0 aw (aL (pv 0) (dC Θ U (b8 T.x5 (i:=4) U)))) (ai (aq (iA Θ) (by rfl) T.x0 aw (aL (pv 0) (dC Θ U (b8 T.x5 (i:=5) U)))) aH))))))
   (ac (av 1 b9.nd (au iY (pv 1) (a_ (ai (aq (iA Θ) (by rfl) T.x0 aw (aL (pv 0) (dC Θ U (b8 T.x5 (i:=6) U)))) (ai (aq (iA Θ) (by rfl) T.x0 aw (aL (pv 0) (dC Θ U (b8 T.x5 (i:=7) U)))) (ai (aq (iA Θ) (by rfl) T.x0 aw (aL (pv 0) (dC Θ U (b8 T.x5 (i:=8) U)))) aH))))))
   (ac (av 1 b9.nd (au iY (pv 1) (a_ (aL (aq (iA Θ) (by rfl) T.x0 aw (aL (pv 0) (dC Θ U (b8 T.x5 (i:=9) U)))) (aq (iA Θ) (by rfl) T.x0 aw (aL (pv 0) (dC Θ U (b8 T.x5 (i:=10) U))))))))
   (ac (aQ (PW.pt (dS (aG iQ (uI Pb Uj PySem.F.type_list_count abq (pv 1) (aJ eF)) aa (aA _)) (dS (aO (aM (aq (iA Θ) (by rfl) T.x0 aw (aL (pv 0) (dC Θ U (ads T.x5)))))) (dw (aO (aM (aq (iA Θ) (by rfl) T.x0 aw (aL (pv 0) (bO (v:=.ty "ValueError") U T.x14 qo rfl))))))))) (ag (ao c7)) aE)
   (ac (av 2 b9.nd (a_ (ai c7 (ai c7 (ai c7 (ai c7 (ai c7 (ai c7 (ai c7 (ai c7 (ai c7 (ai c7 (ai c7 aH)))))))))))))
   (ag (ao (ak K (pv 2) (uI Pb Uk PySem.F.type_list_index aa4 (pv 1) (aJ eF)))))))))))),?_⟩
  have R:=T.x5;obtain⟨_,_,_,_,_,f⟩:=gi R;have c:=(f 4 C k).1;clear f;have r:∀ {j:Nat}{D:MF}{x:Str},A9[j]?=Z x->Ay K x D->_:=λ{j D x} u t=>adU R k (j:=j) ⟨_,u,t⟩
  refine⟨_,U,λD0 k0=>⟨e,C,_,_,_,U,b,c,.inl ⟨_,U,U⟩,r (j:=0) U k0,_,U,λD1 k1=>⟨e,C,_,_,_,U,b,c,.inl ⟨_,U,U⟩,r (j:=1) U k1,_,U,λD2 k2=>⟨e,C,_,_,_,U,b,c,.inl ⟨_,U,U⟩,r (j:=2) U k2,sX,λl0 h0=>?_⟩⟩⟩⟩;generalize e0:upd H l0 _=G0;have M:=e_ h0 e0;have g0:=cW e0;replace b:=M _ _ b;refine⟨_,U,_,U,λD3 k3=>⟨e,C,_,_,_,U,b,c,.inl ⟨_,U,U⟩,r (j:=3) U k3,_,U,λD4 k4=>⟨e,C,_,_,_,U,b,c,.inl ⟨_,U,U⟩,r (j:=4) U k4,_,U,λD5 k5=>⟨e,C,_,_,_,U,b,c,.inl ⟨_,U,U⟩,r (j:=5) U k5,sX,λm1 s=>?_⟩⟩⟩⟩;generalize G:upd G0 m1 _=F1;have N:=e_ s G;refine⟨l0,m1,_,_,U,U,N _ _ g0,cW G,(O:6<=MO),λS u=>?_⟩;generalize X:upd F1 S _=G1;have J:=N\e_ u X;have g1:=cW X;replace b:=J _ _ b;refine⟨_,U,_,U,λD6 k6=>⟨e,C,_,_,_,U,b,c,.inl ⟨_,U,U⟩,r (j:=6) U k6,_,U,λD7 k7=>⟨e,C,_,_,_,U,b,c,.inl ⟨_,U,U⟩,r (j:=7) U k7,_,U,λD8 k8=>⟨e,C,_,_,_,U,b,c,.inl ⟨_,U,U⟩,r (j:=8) U k8,sX,λy p=>?_⟩⟩⟩⟩;generalize e3:upd G1 y _=F2;have y2:=e_ p e3;refine⟨S,y,_,_,U,U,y2 _ _ g1,cW e3,(O:9<=MO),λl2 t=>?_⟩;generalize e4:upd F2 l2 _=G2;have z2:=y2\e_ t e4;have g2:=cW e4;replace b:=z2 _ _ b;refine⟨_,U,_,U,λD9 k9=>⟨e,C,_,_,_,U,b,c,.inl ⟨_,U,U⟩,r (j:=9) U k9,_,U,λD10 l=>⟨e,C,_,_,_,U,b,c,.inl ⟨_,U,U⟩,r (j:=10) U l,iX,λI n=>?_⟩⟩⟩;generalize z:upd G2 I _=F3;have y3:=e_ n z;refine⟨l2,I,_,_,U,U,y3 _ _ g2,cW z,(O:11<=MO),λo h3=>?_⟩;generalize e6:upd F3 o _=L;have A:=y3\e_ h3 e6;have d:=cW e6;replace b:=A _ _ b;refine⟨_,U,.inl ⟨U,_,An.of d⟩,o,_,_,U,U,d,U,U,_,_,U,U,_,U,aN ?_⟩;refine⟨_,U,λDT kT=>⟨e,C,_,_,_,U,b,c,.inl ⟨_,U,U⟩,acD R k kT,_,U,aN ⟨_,U,e,C,_,_,_,U,b,c,.inr ⟨_,U,U⟩,abh R k,_,U,aN ⟨(O:11<=MO),λB hw=>?_⟩⟩⟩⟩;have zw:Aa L (upd L B (.lst (Ii.map V.str))):=Aa.new hw;replace d:=zw _ _ d;show⟨_,U,_,U,.inl ⟨U,_,An.of d⟩,o,_,_,4,U,U,d,U,U,(O:11<=1000),⟨_,U,U⟩,λm a hm e=>by
   match m,hm with
   |0,_|1,_|2,_|3,_=>cases e;rfl,.inl ⟨B,_,_,_,U,U,An.of ae,jG rfl,q _ ((M.trans J\z2).trans A\zw)⟩⟩
def jA:Am 1 "_law_low" uB1 [] Gs:=by
  refine AK.cal T.x2w.g gR<<<λL h=>?_;obtain⟨t,b,rfl,J,u,q⟩:=h;refine⟨_,((ac (aQ (aG n5 (pv 1) aa (aA _)) (ag (oU (i:=0) (j:=1) U gR.nd rfl rfl O U U (aL (au bI aa (pv 0)) (au bI aa (pv 1))) U)) aE)
   (ac (oU (i:=2) (j:=3) U gR.nd rfl rfl O U U (aL (aq (zl rfl) (by rfl) T.xr acJ (aL (pv 0) (au bI aa (pv 0)))) (pv 1)) U)
   (ac (oi NO (aG qZ (pv 3) aa (aA _)) (ag (oU (i:=2) (j:=3) U gR.nd rfl rfl O U U (aL (pv 3) (au jw (pv 2) (pv 3))) U)))
   (ag (ao (aV (aL (au c5 (pv 0) (pv 2)) (au c5 (pv 1) (pv 2)))))))))),?_⟩
  have k:∃ c a:Int,(b<0->c=0-t/\a=0-b)/\(¬ b<0->c=t/\a=b)/\0<a/\Sm 8000 a/\∀ n d,Hw c a n d->Hw t b n d:=by
   by_cases f:b<0
   .refine⟨0-t,0-b,λ_=>⟨U,U⟩,λz=>absurd f z,Y,by rw[UW];show u.neg,λn d z=>⟨z.1,z.2.1,?_⟩⟩;have:=z.2.2;rw[UW,UW,W',Int.neg_mul] at this;lia
   .show⟨t,b,λz=>absurd z f,λ_=>⟨U,U⟩,Y,u,λ_ _ z=>z⟩
  obtain⟨c,a,c1,c2,G,o,I⟩:=k;refine⟨_,U,_,_,U,U,_,U,?_⟩
  suffices AQ:Kc _ _ _ [Z ↑c,Z ↑a,none,none] H by
   refine dg (λf=>?_) (λf=>?_)
   .obtain⟨rfl,rfl⟩:=c1 (N1 f);show⟨_,U,_,_,U,U,_,U,_,_,U,U,_,_,U,AQ⟩
   .obtain⟨rfl,rfl⟩:=c2 (λz=>f (MB z));show AQ
  refine⟨_,U,_,U,_,_,U,U,_,_,U,_,U,_,_,U,λm r s=>∃ x y:Int,r=[Z ↑c,Z ↑a,Z ↑x,Z ↑y]/\s=H/\0<=x/\0<=y/\Os x y=Os c a/\m=y.toNat,⟨_,_,_,U,U,?_,?_,?_,U⟩,?_⟩
  .split<;>lia
  .lia
  .rw[<- xC c a,show(if a<0 then -a else a)=a from MZ Y]
   congr 1
   by_cases l:c<0
   .rw[M' l,M' (show 0-c>c by lia)];lia
   .rw[MZ l]
    split<;>lia
  .rintro m r s ⟨x,y,rfl,rfl,D,C,A,rfl⟩;refine⟨_,U,_,_,U,U,_,U,dg (λf=>?_) (λf=>?_)⟩
   .have f:=N1 f;refine⟨_,λ_ _ z=>z,_,U,_,U,_,U,_,_,U,U,f,_,_,U,?_⟩;have l:=O5 x f;show⟨(x%y).toNat,Y,y,x%y,U,U,C,PQ x (show y≠0 by lia),by rw[vp D f];show A,U⟩
   .have f:¬ (0<y):=λz=>f (MB z)
    have l:y=0:=Y
    subst l;have e:x=(Os c a:Int):=by
     rw[<- A,V1];lia
    subst e;have v:Sm 8000 (Os c a:Int):=o.le (abF Y);have B:(Os c a:Int)≠0:=by
     have:=Qj c (show a≠0 by lia);lia
    show⟨_,U,_,U,_,_,U,U,⟨B,v⟩,_,U,_,U,_,_,U,U,⟨B,v⟩,iX,λp F=>q _ _ _ _ (Aa.new F) (ji ae) (I _ _ (vG Y U (by rw[MZ Y])))⟩
def ki:Am 1 "_law_below" uB1 [] Fw:=by
  refine AK.cal T.x2x.g qm<<<λs h=>?_;obtain⟨x,y,p,r,rfl,m,l,f,k,q⟩:=h;obtain⟨a,rfl,d⟩:=aU m;obtain⟨b,rfl,e⟩:=aU l;refine⟨_,((ag (ao (bh n5 (au aD (ak K (pv 0) aa) (ak K (pv 1) aa)) (au aD (ak K (pv 1) aa) (ak K (pv 0) aa)) (aA _))))),?_⟩;have c:∀ {i j:Int},Sm 3900 i->Sm 3900 j->DX i j:=λo n=>.inl ⟨o.mono O,n.mono O⟩
  refine⟨_,U,dD d ⟨_,U,cB e ⟨_,_,U,U,c f.sn k.sd,⟨_,U,dD e ⟨_,U,cB d ⟨_,_,U,U,c k.sn f.sd,_,_,U,U,?_⟩⟩⟩⟩⟩⟩;rw[show decide (p<r)=decide (p.num*(r.den:Int)<r.num*(p.den:Int)) from UC.mpr (Rat.lt_iff p r)] at q;show q
def fB:Am 3 "_law_share" uA0 [] Fu:=by
  refine AK.cal T.x2y.g ke<<<λS h=>?_;obtain⟨t,r,e,rfl,tw,c0,c1,q⟩:=h;refine⟨_,((ac (av 2 ke.nd (af am dZ S (aL (pv 0) (a_ (ai aa (ai aa (ai aa (ai aa (ai aa (ai aa aH))))))))))
   (ag (ao (af am dZ S (aL (pv 0) (au iY (au wm (a_ (aJ (af am jA S (aL (af am aB S (aL (pv 0) (au bZ (au aD (pv 1) (pv 2)) aa))) (pv 2))))) aa) (a_ (aL (aV (aL aa aa)) (aV (aL (pv 1) aa))))))))))),?_⟩
  have J:∀ {n:Int},0<n->n<100000->Sm 8000 n:=λh1 h2=>Sm.mono (k:=20) (by unfold Sm;lia) O
  refine⟨_,U,(O:6<=MO),λp hp=>?_⟩;have sp:=Aa.new (o:=.lst [↑1,↑1,↑2,↑3,↑7,↑60]) hp;have np:=tw.not hp;refine⟨t,r,p,_,U,tw.same sp,ae,λz=>np (by simp[z]),λz=>np (by simp[z]),zyA,(O:6<=1000),λj v G c tw1 u=>?_⟩;obtain⟨b,rfl,b0,b1⟩:∃ b:Int,v=↑b/\0<b/\b<=60:=by
   match j,c with
   |0,c=>show⟨1,(Mn c).symm,O,O⟩
   |1,c=>show⟨1,(Mn c).symm,O,O⟩
   |2,c=>show⟨2,(Mn c).symm,O,O⟩
   |3,c=>show⟨3,(Mn c).symm,O,O⟩
   |4,c=>show⟨7,(Mn c).symm,O,O⟩
   |5,c=>show⟨60,(Mn c).symm,O,O⟩
  have cb:e*b<=60000:=WU (Int.mul_le_mul_of_nonneg_right c1 Y) Y;have cb0:0<=e*b:=PM Y Y;have u:=Mv.of sp\u;clear c sp np hp;refine⟨_,U,_,U,_,U,_,U,_,_,U,U,.inr ((afT Y c1).mono O),_,_,U,U,t,r,_,U,tw1,Y,J Y Y,λd H2 d0 d1 C mv2=>?_⟩;have bq:Bq 17 ((d:Rat)/(b:Rat)):=dE Y (by unfold Sm;lia) (by unfold Sm;lia);have bp:(0:Rat)<(b:Rat):=Rat.intCast_pos.mpr b0;have hd0:(0:Rat)<=(d:Rat):=Te.mpr d0;have hd1:(d:Rat)<=(e:Rat)*(b:Rat):=by rw[<- MU];show UL.mpr Y
  have nb:=kI (n:=b) Y;have eq:(d:Rat)=(d:Rat)/(b:Rat)*(b:Rat):=by grind
  have N:0<=(d:Rat)/(b:Rat):=O8.mp λz=>by
   have:=SR z bp;grind
  have R:(d:Rat)/(b:Rat)<=(e:Rat):=O8.mp λz=>by
   have:=SR z bp;grind
  refine⟨_,U,_,_,U,Y,J Y Y,Cs.sh Y λf D s3 hv3=>⟨le1,λL hp1=>?_⟩⟩;have s4:=Aa.new (o:=.lst [f]) hp1;refine adM (n:=4) U O ae λA hp2=>?_
  have s5:=Aa.new (o:=.lst (MN 4 f)) hp2;refine⟨iX,λl X=>?_⟩;refine⟨_,U,iX,λm hp4=>?_⟩;have s7:=Aa.new (o:=.tup [↑e,↑1]) hp4;refine⟨iX,λp5 hp5=>?_⟩;have s8:=Aa.new (o:=.lst [↥l,↥m]) hp5;have s:=Aa.new (o:=.tup [↑0,↑1]) X\(s7\s8);refine⟨A,p5,_,_,U,U,s _ _ ae,ae,(O:4+2<=MO),λB y=>?_⟩;have s9:=Aa.new (o:=.lst (MN 4 f++[↥l,↥m])) y;have g3:=s9 _ _ (s8 _ _ (s7 _ _ (ae (H:=upd (upd D L (.lst [f])) A (.lst (MN 4 f))) (a:=l))));have g4:=s9 _ _ (s8 _ _ (ae (H:=upd (upd (upd D L (.lst [f])) A (.lst (MN 4 f))) l (.tup [↑0,↑1]))));have M:Aa D _:=(s4\s5).trans s\s9;have c:=Ad.same M hv3;have x:=(C.same s3).same M;have n6:B∉[t,r]:=((C.same s3).same (s4.trans s5\s)).not y;have I:=u.trans mv2\Mv.of (s3\M);have gA:upd (upd (upd (upd (upd (upd D L (.lst [f])) A (.lst (MN 4 f))) l (.tup [↑0,↑1])) m (.tup [↑e,↑1])) p5 (.lst [↥l,↥m])) B (.lst (MN 4 f++[↥l,↥m])) B=Z (.lst (MN 4 f++[↥l,↥m])):=ae;generalize upd (upd (upd (upd (upd (upd D L (.lst [f])) A (.lst (MN 4 f))) l (.tup [↑0,↑1])) m (.tup [↑e,↑1])) p5 (.lst [↥l,↥m])) B _=GA at g3 g4 M c x I gA ⊢;refine⟨t,r,B,_,U,x,gA,λz=>n6 (by simp[z]),λz=>n6 (by simp[z]),zyA,(O:6<=1000),λj v H7 i tw7 F=>?_⟩;have one:∀ {n:Int}{a:MF},GA a=Z (.tup [↑n,↑1])->Ad K GA (rD (n:Rat)) ↥a:=λ{n a} h=>by rw[tY];show ji h
  obtain⟨z,hz,z0,z1,bz⟩:∃ z:Rat,Ad K GA (rD z) v/\0<=z/\z<=(e:Rat)/\Bq 17 z:=by
   have cp:(0:Rat)<=(e:Rat):=Te.mpr Y
   match j,i with
   |0,i=>cases i;show⟨_,c,N,R,bq⟩
   |1,i=>cases i;show⟨_,c,N,R,bq⟩
   |2,i=>cases i;show⟨_,c,N,R,bq⟩
   |3,i=>cases i;show⟨_,c,N,R,bq⟩
   |4,i=>cases i;show⟨_,one g3,Xf,cp,(lP (by unfold Sm;decide) O)⟩
   |5,i=>cases i;show⟨_,one g4,cp,Xf,(lP (afT Y c1) O).mono O⟩
  show q v z H7 (Ad.mv F x.lists rfl hz) z0 z1 bz tw7 (I\F)
def eR:Am 2 "_law_any_share" tR [] Dl:=by
  refine AK.cal T.x2z.g gY<<<λi h=>?_;obtain⟨t,r,rfl,y,q⟩:=h;refine⟨_,((ac (av 1 gY.nd (af am jA i (aL (af am aB i (aL (pv 0) aa)) (au bZ aa (af am aB i (aL (pv 0) aa))))))
   (ag (ao (iH (aG bY (af am aB i (aL (pv 0) aa)) aa (aA _)) (pv 1) (aV (aL (au bI aa (ak K (pv 1) aa)) (ak K (pv 1) aa)))))))),_,U,t,r,_,U,y,O,by unfold Sm;decide,λS M I J o l=>⟨_,U,t,r,_,U,o,O,by unfold Sm;decide,λX D G B j m=>⟨_,_,U,U,_,_,U,Y,?_,λv n d R s z A=>?_⟩⟩⟩
  .refine Sm.mono (k:=64) ?_ O;unfold Sm;lia
  have ok:Ok 12 n d:=A.ok Y (by unfold Sm;lia) (by unfold Sm;lia);have kX:=j.same s;have f:=l.trans m\Mv.of s;refine⟨_,U,t,r,_,U,kX,O,by unfold Sm;decide,λN L C F e b=>?_⟩;have c:=Ad.mv b kX.lists rfl z;refine⟨_,_,U,U,_,U,dg (λ_=>?_) (λ_=>?_)⟩
  .show⟨_,U,q _ _ _ _ c ok e (f\b)⟩
  .obtain⟨a,rfl,u⟩:=aU c;refine⟨_,U,dD u ⟨_,_,U,U,_,U,cB u ⟨iX,λp x=>q _ (-n) d _ (ji ?_) ok.neg (e.same (Aa.new x)) (f.trans b\Mv.of (Aa.new x))⟩⟩⟩;rw[ae];change Z (HO.tup [V.int (0-n),V.int d])=_;rw[UW]
def qt:Am 4 "_law_three" uA0 [] Fi:=by
  refine AK.cal T.x30.g qu<<<λj h=>?_;obtain⟨t,r,a,rfl,B,c0,c1,q⟩:=h;refine⟨_,((ac (aQ (aG bY (af am aB j (aL (pv 0) aa)) aa (aA _)) (ag (ao (au yx (aV (aJ (af am fB j (aL (pv 0) (pv 1))))) aa))) aE)
   (ag (ao (aV (ai (af am fB j (aL (pv 0) (pv 1))) (ai (af am fB j (aL (pv 0) (pv 1))) (ai (af am fB j (aL (pv 0) (pv 1))) aH)))))))),_,U,t,r,6,U,B,O,by unfold Sm;decide,λd H1 S d1 k f=>⟨_,_,U,U,_,U,dg (λ_=>?_) (λ_=>?_)⟩⟩
  .refine⟨_,U,_,U,t,r,a,U,k,c0,c1,λv z C c x i y b e=>⟨le1,λp m=>?_⟩⟩;have l:=Aa.new (o:=.tup [v]) m;refine⟨p,_,U,U,ae,λA n=>?_⟩;have u:=Aa.new (o:=.tup [v,v,v]) n;have c:=Ad.same (l\u) c;show q _ ⟨z,z,z⟩ _ (.tup ae (.cons c (.cons c (.cons c .nil)))) ⟨x,i,x,i,x,i⟩ ⟨y,y,y⟩ (b.same (l\u)) (f.trans e\Mv.of (l\u))
  .refine⟨_,U,_,U,t,r,a,U,k,c0,c1,λL i C u R D I b e=>⟨_,U,_,U,t,r,a,U,b,c0,c1,λM F H3 y G J bb kX l=>⟨_,U,_,U,t,r,a,U,kX,c0,c1,λN A X n k0 k1 bk x c=>⟨sX,λp m=>?_⟩⟩⟩⟩;have s:=Aa.new (o:=.tup [L,M,N]) m;show q _ ⟨i,F,A⟩ _ (Ad.tupN m (.cons (Ad.mv (l\c) b.lists rfl u) (.cons (Ad.mv c kX.lists rfl y) (.cons n .nil)))) ⟨R,D,G,J,k0,k1⟩ ⟨I,bb,bk⟩ (x.same s) ((f.trans e\l).trans c\Mv.of s)
def lM:Am 2 "_law_is_share" uA7 [] DK:=by
  refine AK.cal T.x31.g lG<<<λf h=>?_;obtain⟨x,n,d,rfl,i,c,q⟩:=h;obtain⟨a,rfl,b⟩:=aU i;refine⟨_,((ac (aQ (PW.pt (dS (aO (aM (aq (iT Θ) (by rfl) T.x0 aw (aL (pv 0) (bO (v:=.ty "tuple") U T.x2 aZ rfl))))) (dS (aG iQ (aq (fF Θ) (by rfl) T.x4 cS (aJ (pv 0))) aa (aA _)) (dS (aO (aM (af am kg f (aJ (ak K (pv 0) aa))))) (dw (aO (aM (af am kg f (aJ (ak K (pv 0) aa)))))))))) (ag (ao eF)) aE)
   (ag (ao (cZ (bh qZ (ak K (pv 0) aa) aa (aA _)) (fg (bh (lg Θ f.units) (af am jA f (aL (ak K (pv 0) aa) (ak K (pv 0) aa))) (pv 0) (aA _)))))))),_,U,_,_,_,true,U,.tup b,zyB,_,U,aN (⟨_,U,a,_,U,.inr (AZ.of b),_,_,U,U,_,U,aN (⟨_,U,dD b ⟨_,_,U,↑n,_,U,aN (⟨_,U,cB b ⟨_,_,U,↑d,_,U,aN (⟨_,U,cB b ⟨_,_,U,U,_,U,?_⟩⟩)⟩⟩)⟩⟩)⟩)⟩
  rw[MB c.pos];refine aF ⟨_,U,dD b ⟨_,U,cB b ⟨n,d,U,c.ne,c.sd,λv m e o j k l=>⟨_,U,_,_,k,Ad.same j i,U,U,?_⟩⟩⟩⟩;rw[uz (kr c.ne l (vq c.pos c.co))];show q _ j
def l6:Am 3 "_law_is_three" uA7 [] DJ:=by
  refine AK.cal T.x32.g mf<<<λt h=>?_;obtain⟨x,c,rfl,r,l,q⟩:=h;refine⟨_,((ag (ao (cZ (aq (iT Θ) (by rfl) T.x0 aw (aL (pv 0) (bO (v:=.ty "tuple") U T.x2 aZ rfl))) (cZ (bh bY (aq (fF Θ) (by rfl) T.x4 cS (aJ (pv 0))) aa (aA _)) (fg (bh (lg Θ t.units) (az ["_law_one"] [] [] 1 (aY Θ (pv 0)) (λy=>(ah 0 y)) (acX (aO (aM (af am lM t (aJ (pv 0)))))) (pv 0)) (a_ aH) (aA _)))))))),_,U,_,_,_,true,U,r.ty,(show Bx "tuple" "tuple"=Z true by decide +kernel),_,U,aF ?_⟩;obtain⟨a,C,rfl,j,f⟩:=ay (b:=false) r;refine⟨_,U,a,_,U,ic j,_,_,U,U,true,lj (by rw[<- ⇑f];rfl),aF (⟨_,U,a,false,U,⟨_,j⟩,yC j f (O:3<=1000) (λi d u z A o k B S m=>?_) (λz o D s=>?_)⟩)⟩
  .rcases j7 A with ⟨rfl,rfl⟩|⟨rfl,rfl⟩|⟨rfl,rfl⟩
   .show⟨_,U,u,_,_,U,k,l.a.mono O,λn e=>⟨_,U,aN (m _ e)⟩⟩
   .show⟨_,U,u,_,_,U,k,l.b.mono O,λn e=>⟨_,U,aN (m _ e)⟩⟩
   .show⟨_,U,u,_,_,U,k,l.c.mono O,λn e=>⟨_,U,aN (m _ e)⟩⟩
  .show⟨O,λp e=>⟨.list [],.list [],Ad.same (Aa.new e) (Ad.listN s .nil),Ad.listN e .nil,U,U,q _ (o.trans (Aa.new s)\Aa.new e)⟩⟩
def pH:Am 2 "_law_points" uB4 [] Fa:=by
  refine AK.cal T.x33.g bK<<<λhr h=>?_;obtain⟨t,r,a,b,c,rfl,tw,l1,l2,c1,c2,q⟩:=h;refine⟨_,((ac (av 4 bK.nd (au bZ aa (af am aB hr (aL (pv 0) aa))))
   (ac (av 5 bK.nd (oA Θ U (by rfl) T.xf (by rfl) T.xs (aJ (au iY (a_ (aL aa (pv 1))) (az uA6 ["_law_town_here","_law_last"] [0,1] 1 (aR rfl T.x1 (aJ (pv 4))) (λnd=>(ah 0 nd)) ax (af am aB hr (aL (pv 1) (au bZ (pv 2) aa))))))))
   (ac (av 6 bK.nd (aq (acj Θ) (by rfl) T.xf jD (aJ (az uA6 uA0 [0,2] 1 (aR rfl T.x1 (aJ (aq (fF Θ) (by rfl) T.x4 cS (aJ (pv 5))))) (λnd=>(ah 0 nd)) ax (af am aB hr (aL (pv 1) (au bZ (pv 2) aa)))))))
   (ac (aQ (aM (pv 3)) (ac (av 6 bK.nd (az uA6 ["_law_cap","_law_values"] [2,6] 1 (aR rfl T.x1 (aJ (aq (fF Θ) (by rfl) T.x4 cS (aJ (pv 5))))) (λnd=>(ah 0 nd)) ax (aq (jW rfl) (by rfl) T.xh sk (aL (pv 1) (au bZ (ak K (pv 2) (pv 0)) (pv 0))))))
   (ac (av 6 bK.nd (oA Θ U (by rfl) T.xf (by rfl) T.xs (aJ (pv 6))))
   (ac (av 5 bK.nd (iH (aG qZ (aq (fF Θ) (by rfl) T.x4 cS (aJ (pv 6))) aa (aA _)) (au iY (jd (abw Θ) (pv 5) lA (lF (au bI (aq (fF Θ) (by rfl) T.x4 cS (aJ (pv 6))) aa))) (a_ (aJ (pv 1)))) (a_ (aL aa (pv 1)))))
   (ag (av 6 bK.nd (iH (aG qZ (aq (fF Θ) (by rfl) T.x4 cS (aJ (pv 6))) aa (aA _)) (pv 6) (a_ (aL aa (pv 2))))))))) aE)
   (ag (ao (az uA6 ["_law_places","_law_values"] [5,6] 1 (aR rfl T.x1 (aJ (aq (fF Θ) (by rfl) T.x4 cS (aJ (pv 5))))) (λnd=>(ah 0 nd)) ax (aV (aL (ak K (pv 1) (pv 0)) (ak K (pv 2) (pv 0)))))))))))),?_⟩
  have s64:∀ {n:Int},0<n->n<100000->Sm 8000 n:=λh1 h2=>Sm.mono (k:=20) (by unfold Sm;lia) O
  refine⟨_,U,t,r,5,U,tw,O,s64 O O,λd H1 d0 d1 tw1 mv1=>⟨_,_,U,U,?_⟩⟩;refine⟨_,U,iX,λp hp=>?_⟩;generalize J:upd H1 p _=H2;have sp:=e_ hp J;have gp:=cW J;have np:=tw1.not hp;have tw2:=tw1.same sp;refine⟨_,U,_,U,Y,Y,mK (t:=t) (r:=r) (lo:=0) (m:=a) tw2 Y (λi H3 hi kX mv3 R kk S=>?_) (λks H3 hk hP kX mv3 D I=>?_)⟩
  .show aF (B:=S H3) ⟨_,U,_,U,_,_,U,U,t,r,_,U,kX,Y,s64 Y Y,λd3 H4 a3 b3 tw4 mv4=>kk _ _ ⟨d3,U,a3,Y,tw4,mv4⟩⟩
  generalize J:upd H3 D _=H4;have sD:=e_ I J;have tw4:=kX.same sD;have mv4:=(mv1\Mv.of sp).trans mv3\Mv.of sD;have hk':⇑ks<=6:=Y
  refine⟨p,D,_,_,U,U,sD _ _ (mv3 _ _ gp np),cW J,by rw[Mq,NN];simp;lia,λp5 hp5=>?_⟩;have s5:Aa H4 (upd H4 p5 (.lst ([↑0,↑a]++ks.map V.int))):=Aa.new hp5;have g5:upd H4 p5 (.lst ([↑0,↑a]++ks.map V.int)) p5=Z (.lst (([0,a]++ks).map V.int)):=by rw[ae,Nx];rfl
  have tw5:=tw4.same s5;have mv5:=mv4\Mv.of s5;generalize upd H4 p5 _=H5 at s5 g5 tw5 mv5 ⊢;refine⟨p5,[0,a]++ks,U,An.of g5,by simp;lia,λL ns hL up mem len=>?_⟩;have pl:Pl a ns:=aga l1 up ((mem 0).mpr zyA) ((mem a).mpr zyA) (λx M=>by
   have:=(mem x).mp M;simp only[Nk,MA,MQ,Ob] at this;rcases this with (e|e)|e
   .lia
   .lia
   .show hP x e) (by simp at len;lia)
  have few8:⇑ns<=8:=by simp at len;lia
  generalize J:upd H5 L _=H6;have s6:=e_ hL J;have g6:=cW J;have two:=pl.two;have len6:⇑(ns.map V.int)=⇑ns:=Mq _;refine⟨_,U,L,_,U,.inl (An.of g6),_,U,Y,Y,mK (t:=t) (r:=r) (lo:=0) (m:=b) (tw5.same s6) Y (λi H7 hi tw7 mv7 R kk S=>?_) (λvs H7 hv iv tw7 mv7 D7 hD7=>?_)⟩
  .show aF (B:=S H7) ⟨_,U,_,U,_,_,U,U,t,r,_,U,tw7,Y,s64 Y Y,λd3 H4 a3 b3 tw4 mv4=>kk _ _ ⟨d3,U,a3,Y,tw4,mv4⟩⟩
  have hv:⇑vs=⇑ns:=Y
  generalize J:upd H7 D7 _=H8;have s8:=e_ hD7 J;have tw8:=tw7.same s8;refine⟨D7,vs,U,An.of (cW J),Y,λL9 A hL9 up9 pe9=>?_⟩;have lw:⇑A=⇑ns:=by rw[pe9.length_eq];show hv
  have iw:∀ x∈A,0<=x/\x<=b:=λx M=>iv x (pe9.mem_iff.mp M)
  generalize J:upd H8 L9 _=H9;have s9:=e_ hL9 J;have g9:=cW J;have nL9:=tw8.not hL9;have tw9:=tw8.same s9;have mv9:=(mv5.trans (Mv.of s6)\mv7).trans (Mv.of s8)\Mv.of s9;have gL9:=s9 _ _ (s8 _ _ (mv7 _ _ g6 (tw5.not hL)));have out:∀ (ps:List Pt) (z:Pt) (G:Hp) (ys:List V) (D:MF),Ew ps->ps.getLast?=Z z->z.1=a->z.2<=b->Az G t r->Mv [t,r] H G->Af K G (ps.map Df) ys->G D=none->Q ↥D (upd G D (.lst ys)):=
   λps z G ys D h1 h2 h3 h4 twG mvG s I=>q D ps z ys _ ae (Af.same (Aa.new I) s) h1 h2 h3 h4 (twG.not I) (twG.same (Aa.new I)) (mvG\Mv.of (Aa.new I))
  refine⟨_,U,_,U,dg (λhc=>?_) (λhc=>?_)⟩
  .letI cl:List Int:=(NG ⇑ns).map λk:Nat=>if A.getD k 0+(k:Int)<b then A.getD k 0+(k:Int) else b
   have icl:∀ x∈cl,0<=x/\x<=b:=λx M=>by
    obtain⟨k,hk,rfl⟩:=Nd.mp M;rw[Od] at hk;have:A.getD k 0=A[k]:=by simp[List.getD,show k<⇑A by lia]
    have:=iw A[k] (Oy _)
    split<;>lia
   have lcl:⇑cl=⇑ns:=by simp[cl]
   refine⟨_,U,L,_,U,.inl (An.of gL9),_,U,Y,Y,cJ (K:=K) (lo:=0) (ds:=cl.map O7) (by rw[Mq,lcl];lia) Y (λi d G hd l R kk S=>?_) (λys G l s D I=>?_)⟩
   .rw[Mw] at hd;obtain⟨m,em,rfl⟩:=MG.mp hd;have hi:i<⇑ns:=by have:=(Mp.mp em).1;lia
    have em':m=if A.getD i 0+(i:Int)<b then A.getD i 0+(i:Int) else b:=by
     simp only[cl,Mw,List.getElem?_range hi,Xb,WC] at em;show em.symm
    have ew:(A.map V.int)[i]?=Z ↑(A.getD i 0):=by simp[List.getD,show i<⇑A by lia]
    show aF (B:=S G) ⟨_,U,_,U,_,U,ixL (l _ _ g9) (j:=i) ew Y ⟨_,U,_,_,U,U,_,_,U,kk _ _ ⟨Aa.refl _,by rw[em',S7];show ↑_⟩⟩⟩
   cases yr s;have s10:Aa H9 (upd G D (.lst (cl.map V.int))):=l\Aa.new I;have g10:upd G D (.lst (cl.map V.int)) D=Z (.lst (cl.map V.int)):=ae;clear s;generalize upd G D _=G at s10 g10 ⊢;refine⟨_,U,D,cl,U,An.of g10,Y,λL2 f hL2 up2 mem2 len2=>?_⟩;have iu:∀ x∈f,0<=x/\x<=b:=λx M=>icl x ((mem2 x).mp M)
   have s11:Aa H9 (upd G L2 (.lst (f.map V.int))):=s10\Aa.new hL2;have g11:upd G L2 (.lst (f.map V.int)) L2=Z (.lst (f.map V.int)):=ae;generalize upd G L2 _=G at s11 g11 ⊢;have lu:⇑(f.map V.int)=⇑f:=Mq _;refine⟨_,U,L2,_,U,.inl (An.of g11),_,_,U,U,_,U,?_⟩
   by_cases hu:1<⇑f
   .rw[MB (show(⇑(f.map V.int):Int)>1 by lia)];refine aF ⟨_,U,_,U,L2,_,U,.inl (An.of g11),_,_,U,U,_,U,L,_,U,An.of (s11 _ _ gL9),λF o=>⟨_,U,le1,λp2 X=>?_⟩⟩;rw[lu,abK (ns.map V.int) ⇑f Y,<- List.map_take] at X ⊢;have N:Aa G (upd (upd G F (.lst ((ns.take (⇑f-1)).map V.int))) p2 (.lst [↑a])):=Aa.new o\Aa.new X;have ga:upd (upd G F (.lst ((ns.take (⇑f-1)).map V.int))) p2 (.lst [↑a]) F=Z (.lst ((ns.take (⇑f-1)).map V.int)):=Aa.new X _ _ ae;have gb:upd (upd G F (.lst ((ns.take (⇑f-1)).map V.int))) p2 (.lst [↑a]) p2=Z (.lst [↑a]):=ae;generalize upd (upd G F (.lst ((ns.take (⇑f-1)).map V.int))) p2 _=G2 at N ga gb ⊢;refine⟨F,p2,_,_,U,U,ga,gb,by rw[Mq,Nl,NN];simp;lia,λp3 hp3=>?_⟩;rw[show(ns.take (⇑f-1)).map V.int++[V.int a]=(ns.take (⇑f-1)++[a]).map V.int by simp];obtain⟨pl2,len2'⟩:=afn pl hu Y;generalize ns.take (⇑f-1)++[a]=ms at pl2 len2' ⊢;have y:Aa H9 (upd G2 p3 (.lst (ms.map V.int))):=s11.trans N\Aa.new hp3;have C:upd G2 p3 (.lst (ms.map V.int)) p3=Z (.lst (ms.map V.int)):=ae;have u:upd G2 p3 (.lst (ms.map V.int)) L2=Z (.lst (f.map V.int)):=Aa.new hp3 _ _ (N _ _ g11);generalize upd G2 p3 _=G3 at y C u ⊢;have lm:⇑(ms.map V.int)=⇑ms:=Mq _;refine⟨_,U,L2,_,U,.inl (An.of u),_,_,U,U,_,U,?_⟩;rw[MB (show(⇑(f.map V.int):Int)>1 by lia)];refine aF ⟨_,U,?_⟩;obtain⟨o,z,hz,ez⟩:=wI pl2 l2 (up2.imp (λh=>Pw h)) (λx M=>by have:=iu x M;lia) Y;have lz:⇑(ms.zip f)=⇑ms:=by rw[SI];lia
    refine⟨_,U,p3,_,U,.inl (An.of C),_,U,Y,Y,cJ (K:=K) (lo:=0) (ds:=(ms.zip f).map Df) (by rw[Mq];lia) Y (λi d G' hd l R kk S=>?_) (λys G' l s D I=>?_)⟩
    .rw[Mw] at hd;obtain⟨pt,ept,rfl⟩:=MG.mp hd;obtain⟨ea,eb⟩:=Nm.mp ept;show aF (B:=S G') ⟨_,U,_,U,ixL (l _ _ C) (j:=i) (v:=↑pt.1) (by rw[Mw,ea];rfl) Y ⟨_,U,_,U,ixL (l _ _ u) (j:=i) (v:=↑pt.2) (by rw[Mw,eb];rfl) Y ⟨iX,λp hp=>kk _ _ ⟨Aa.new hp,Ad.tupN hp (.cons ↑_ (.cons ↑_ .nil))⟩⟩⟩⟩
    .show out _ z G' ys D o hz ez (iu z.2 (PU (Ot hz)).2).2 ((tw9.same y).same l) (mv9.trans (Mv.of y)\Mv.of l) s I
   .rw[Na (show ¬ (⇑(f.map V.int):Int)>1 by lia)];refine aN ⟨_,U,iX,λF o=>?_⟩;have N:Aa H9 (upd G F (.lst [↑0,↑a])):=s11\Aa.new o;have g12:upd G F (.lst [↑0,↑a]) F=Z (.lst ([0,a].map V.int)):=ae;have gu12:upd G F (.lst [↑0,↑a]) L2=Z (.lst (f.map V.int)):=Aa.new o _ _ g11;generalize upd G F _=G2 at N g12 gu12 ⊢;refine⟨_,U,L2,_,U,.inl (An.of gu12),_,_,U,U,_,U,?_⟩;rw[Na (show ¬ (⇑(f.map V.int):Int)>1 by lia)];refine aN ⟨_,U,iX,λp2 X=>?_⟩;have y:Aa H9 (upd G2 p2 (.lst [↑0,↑b])):=N\Aa.new X;have C:upd G2 p2 (.lst [↑0,↑b]) F=Z (.lst ([0,a].map V.int)):=Aa.new X _ _ g12;have u:upd G2 p2 (.lst [↑0,↑b]) p2=Z (.lst ([0,b].map V.int)):=ae;generalize upd G2 p2 _=G3 at y C u ⊢;have lm:⇑([0,a].map V.int)=2:=U;have lm2:[0,a].length=2:=U;have lm3:[0,b].length=2:=U;obtain⟨o,z,hz,ez⟩:=wI (afy l1) l2 (show[0,b].Pairwise (·<=·) by simp;lia) (λx M=>by simp at M;lia) U;have lz:⇑([0,a].zip [0,b])=[0,a].length:=by rw[SI];lia
    refine⟨_,U,F,_,U,.inl (An.of C),_,U,Y,Y,cJ (K:=K) (lo:=0) (ds:=([0,a].zip [0,b]).map Df) (by rw[Mq];lia) Y (λi d G' hd l R kk S=>?_) (λys G' l s D I=>?_)⟩
    .rw[Mw] at hd;obtain⟨pt,ept,rfl⟩:=MG.mp hd;obtain⟨ea,eb⟩:=Nm.mp ept;show aF (B:=S G') ⟨_,U,_,U,ixL (l _ _ C) (j:=i) (v:=↑pt.1) (by rw[Mw,ea];rfl) Y ⟨_,U,_,U,ixL (l _ _ u) (j:=i) (v:=↑pt.2) (by rw[Mw,eb];rfl) Y ⟨iX,λp hp=>kk _ _ ⟨Aa.new hp,Ad.tupN hp (.cons ↑_ (.cons ↑_ .nil))⟩⟩⟩⟩
    .show out _ z G' ys D o hz ez (by have m:=(PU (Ot hz)).2;simp at m;lia) ((tw9.same y).same l) (mv9.trans (Mv.of y)\Mv.of l) s I
  .obtain⟨o,z,hz,ez⟩:=wI pl l2 up9 (λx M=>by have:=iw x M;lia) lw;have lz:⇑(ns.zip A)=⇑ns:=by rw[SI];lia
   refine⟨_,U,L,_,U,.inl (An.of gL9),_,U,Y,Y,cJ (K:=K) (lo:=0) (ds:=(ns.zip A).map Df) (by rw[Mq];lia) Y (λi d G hd l R kk S=>?_) (λys G l s D I=>?_)⟩
   .rw[Mw] at hd;obtain⟨pt,ept,rfl⟩:=MG.mp hd;obtain⟨ea,eb⟩:=Nm.mp ept;show aF (B:=S G) ⟨_,U,_,U,ixL (l _ _ gL9) (by rw[Mw,ea];rfl) Y ⟨_,U,_,U,ixL (l _ _ g9) (by rw[Mw,eb];rfl) Y ⟨iX,λp hp=>kk _ _ ⟨Aa.new hp,Ad.tupN hp (.cons ↑_ (.cons ↑_ .nil))⟩⟩⟩⟩
   .show out _ z G ys D o hz ez (iw z.2 (PU (Ot hz)).2).2 (tw9.same l) (mv9\Mv.of l) s I
def pX:Am 3 "_law_square" tR [] EY:=by
  refine AK.cal T.x34.g eQ<<<λhr h=>?_;obtain⟨t,r,rfl,tw,q⟩:=h;refine⟨_,((ac (av 1 eQ.nd (af am aB hr (aL (pv 0) aa)))
   (ac (aQ (aG bY (pv 1) aa (aA _)) (ag (ao (aV (ai (aV (ai aa (ai aa (ai aa aH)))) (ai (aV (ai aa (ai aa (ai aa aH)))) (ai (aV (ai aa (ai aa (ai aa aH)))) aH)))))) aE)
   (ac (aQ (aG bY (pv 1) aa (aA _)) (ac (cH 2 uA6 tR [0] 1 eQ.nd (aR rfl T.x1 (aJ aa)) (λJ=>(ah 0 J)) ax (au bI (af am aB hr (aL (pv 1) aa)) aa))
   (ag (ao (a_ (ai (pv 2) (ai (az ["_law_one"] [] [] 1 (aY Θ (pv 2)) (λJ=>(ah 0 J)) ax (au aD aa (pv 0))) (ai (az uA6 tR [0] 1 (aR rfl T.x1 (aJ aa)) (λJ=>(ah 0 J)) ax (af am aB hr (aL (pv 1) aa))) aH))))))) aE)
   (ac (av 3 eQ.nd (af am dZ hr (aL (pv 0) (a_ (ai aa (ai aa (ai aa aH)))))))
   (ag (ao (az ["_law_j"] uA0 [0,3] 1 (aR rfl T.x1 (aJ aa)) (λJ=>(ah 0 J)) ax (az uA6 uA0 [1,2] 1 (aR rfl T.x1 (aJ aa)) (λJ=>(ah 0 J)) ax (au bI (af am aB hr (aL (pv 1) (au bZ (au aD aa (pv 2)) aa))) (pv 2))))))))))),?_⟩
  have s64:∀ {n:Int},0<n->n<100000->Sm 8000 n:=λh1 h2=>Sm.mono (k:=20) (by unfold Sm;lia) O
  refine⟨_,U,t,r,4,U,tw,O,s64 O O,λd1 H1 a1 b1 N mv1=>⟨_,U,_,_,U,U,_,U,dg (λ_=>?_) (λ_=>?_)⟩⟩
  .refine⟨sX,λp hp=>⟨sX,λp2 hp2=>⟨sX,λp3 I=>⟨sX,λp4 C=>?_⟩⟩⟩⟩;have t1:Ad K (upd H1 p (.tup [↑412,↑357,↑180])) (AE false ⟨412,357,180⟩) ↥p:=Ad.tupN hp (.cons ↑_ (.cons ↑_ (.cons ↑_ .nil)));have sa:Aa H1 (upd H1 p (.tup [↑412,↑357,↑180])):=Aa.new hp;generalize upd H1 p _=F at t1 sa hp2 I C ⊢;have t2:Ad K (upd F p2 (.tup [↑212,↑715,↑72])) (AE false ⟨212,715,72⟩) ↥p2:=Ad.tupN hp2 (.cons ↑_ (.cons ↑_ (.cons ↑_ .nil)));have sb:Aa F (upd F p2 (.tup [↑212,↑715,↑72])):=Aa.new hp2;generalize upd F p2 _=H3 at t2 sb I C ⊢;have t3:Ad K (upd H3 p3 (.tup [↑19,↑119,↑950])) (AE false ⟨19,119,950⟩) ↥p3:=Ad.tupN I (.cons ↑_ (.cons ↑_ (.cons ↑_ .nil)));have sc:Aa H3 (upd H3 p3 (.tup [↑19,↑119,↑950])):=Aa.new I;generalize upd H3 p3 _=A at t3 sc C ⊢;have s4:Aa H1 (upd A p4 (.tup [↥p,↥p2,↥p3])):=sa.trans sb\(sc\Aa.new C);have j:=N.same s4;have hh:Ad K (upd A p4 (.tup [↥p,↥p2,↥p3])) (S9.d ⟨false,false,false,false,⟨412,357,180⟩,⟨212,715,72⟩,⟨19,119,950⟩⟩) ↥p4:=
    Ad.tupN C (.cons (Ad.same (sb\sc) t1) (.cons (Ad.same sc t2) (.cons t3 .nil)))
   show q _ ⟨false,false,false,false,⟨412,357,180⟩,⟨212,715,72⟩,⟨19,119,950⟩⟩ _ (Ad.cutT j.lists rfl hh) (⟨⟨O,O,O,O,O,O⟩,⟨O,O,O,O,O,O⟩,⟨O,O,O,O,O,O⟩⟩) j (mv1\Mv.of s4)
  refine⟨_,U,_,_,U,U,_,U,dg (λ_=>?_) (λ_=>?_)⟩
  .refine⟨3,U,O,O,c8 (K:=K) (lo:=0) (n:=3) (Pd:=λd=>∃ i:Int,d=↑i/\-2000<=i/\i<=2000) N O (λi F hi o mv2 R X S=>?_) (λds ys F hl hP o mv2 m D G=>?_)⟩
   .refine aF (B:=S F) ⟨_,U,t,r,9,U,o,O,s64 O O,λd2 H3 a2 b2 kX l=>⟨_,_,U,U,X _ _ ⟨kX,l,↑(d2-4),⟨_,U,Y,Y⟩,↑_⟩⟩⟩
   obtain⟨f,rfl,i1⟩:∃ f:R3,ds=f.ds/\f.In 2000:=by
    match ds,hl,hP with
    |[x,y,z],_,h=>
     obtain⟨a,rfl,a1,a2⟩:=h x zyA;obtain⟨b,rfl,b1,b2⟩:=h y zyA;obtain⟨c,rfl,c1,c2⟩:=h z zyA;show⟨⟨a,b,c⟩,U,a1,a2,b1,b2,c1,c2⟩
   have sD:Aa F (upd F D (.lst ys)):=Aa.new G;have c1:=fG o G m;have kX:=o.same sD;have l:=mv1.trans mv2\Mv.of sD;generalize upd F D _=H3 at sD c1 kX l ⊢;obtain⟨b,xs,eb,hb,hxs⟩:=ay (b:=true) (Ad.uncut c1);cases eb;refine⟨_,U,_,U,D,true,U,⟨_,hb⟩,aW (es:=(R3.mk (2*f.a) (2*f.b) (2*f.c)).ds) hb hxs rfl (O:3<=1000) (λi d e u A hd he s4 hu R X S=>?_) (λzs A s4 hzs D2 hD2=>?_)⟩
   .refine aF (B:=S A) ?_;rcases j7 hd with ⟨rfl,rfl⟩|⟨rfl,rfl⟩|⟨rfl,rfl⟩<;>(cases hu;cases(Mn he);show⟨_,rfl,_,_,rfl,rfl,.inr (by unfold Sm;decide),X _ _ ⟨Aa.refl _,↑_⟩⟩)
   have j:=kX.same s4;have sD2:Aa A (upd A D2 (.lst zs)):=Aa.new hD2;have zz:=dY hzs;subst zz;have c2:Ad K (cut [t,r] (upd A D2 (.lst (R3.mk (2*f.a) (2*f.b) (2*f.c)).vs))) (AE true ⟨2*f.a,2*f.b,2*f.c⟩) ↥D2:=fG j hD2 (.cons ↑_ (.cons ↑_ (.cons ↑_ .nil)));have c1':=Ad.same (Aa.cut (T:=[t,r]) (s4\sD2)) c1;have tw5:=j.same sD2;have mv5:=l.trans (Mv.of s4)\Mv.of sD2;generalize upd A D2 _=H5 at c2 c1' tw5 mv5 ⊢;refine⟨3,U,O,O,c8 (K:=K) (lo:=0) (n:=3) (Pd:=LC) tw5 O (λi H6 hi tw6 I R X S=>?_) (λds ys H6 hl hP tw6 I m D3 hD3=>?_)⟩
   .refine aF (B:=S H6) ⟨_,U,t,r,99,U,tw6,O,s64 O O,λd2 H7 a2 b2 C mv7=>X _ _ ⟨C,mv7,↑d2,⟨_,U,Y,Y⟩,↑_⟩⟩
   obtain⟨M,rfl,i3⟩:=xE hl hP;have c3:=fG tw6 hD3 m;have sD3:Aa H6 (upd H6 D3 (.lst ys)):=Aa.new hD3;have c1'':=Ad.same ((I\Mv.of sD3).cut) c1';have c2':=Ad.same ((I\Mv.of sD3).cut) c2;have C:=tw6.same sD3;have mv7:=mv5.trans I\Mv.of sD3;generalize upd H6 D3 _=H7 at c3 c1'' c2' C mv7 ⊢;refine⟨sX,λL hL=>q _ ⟨true,true,true,true,f,⟨2*f.a,2*f.b,2*f.c⟩,M⟩ _ (fG (ds:=[AE true f,AE true ⟨2*f.a,2*f.b,2*f.c⟩,AE true M]) C hL (.cons c1'' (.cons c2' (.cons c3 .nil)))) ⟨?_,?_,i3⟩ (C.same (Aa.new hL)) (mv7\Mv.of (Aa.new hL))⟩
   .obtain⟨a1,a2,b1,b2,c1,c2⟩:=i1;show⟨by change -4000<=f.a;lia,by change f.a<=4000;lia,by change -4000<=f.b;lia,by change f.b<=4000;lia,by change -4000<=f.c;lia,by change f.c<=4000;lia⟩
   .obtain⟨a1,a2,b1,b2,c1,c2⟩:=i1;show⟨by change -4000<=2*f.a;lia,by change 2*f.a<=4000;lia,by change -4000<=2*f.b;lia,by change 2*f.b<=4000;lia,by change -4000<=2*f.c;lia,by change 2*f.c<=4000;lia⟩
  refine⟨_,U,sX,λp hp=>?_⟩;obtain⟨_,_,k1,k2,_⟩:=id N;refine⟨t,r,p,_,U,N.same (Aa.new hp),ae,(aI k1 hp).symm,(aI k2 hp).symm,zyA,O,λi v F hv o mv2=>?_⟩;obtain⟨s,rfl,h1,h2⟩:∃ s:Int,v=↑s/\0<s/\s<=4000:=by
   rcases j7 hv with ⟨_,rfl⟩|⟨_,rfl⟩|⟨_,rfl⟩<;>show⟨_,rfl,O,O⟩
  refine⟨3,U,O,O,c8 (K:=K) (lo:=0) (n:=3) (Pd:=λd=>∃ r:R3,d=AE true r/\r.In 4000) o O (λi H3 hi kX l R X S=>?_) (λds ys H3 hl hP kX l m D G=>?_)⟩
  .refine aF (B:=S H3) ⟨3,U,O,O,c8 (K:=K) (lo:=0) (n:=3) (Pd:=LC) kX O (λi A hi j C R X S=>?_) (λds ys A hl hP j C m D G=>?_)⟩
   .refine aF (B:=S A) ⟨_,U,_,U,_,_,U,U,.inr (by unfold Sm;decide),_,_,U,U,t,r,2*s+1,U,j,Y,s64 Y Y,λd2 H5 a2 b2 tw5 mv5=>⟨_,U,_,_,U,U,X _ _ ⟨tw5,mv5,↑(d2-s),⟨_,U,Y,Y⟩,↑_⟩⟩⟩
   obtain⟨M,rfl,i3⟩:=xE hl hP;show X _ _ ⟨j.same (Aa.new G),C\Mv.of (Aa.new G),AE true M,⟨_,U,i3⟩,fG j G m⟩
  obtain⟨f,r2,M,rfl,i1,i2,i3⟩:∃ f r2 M:R3,ds=[AE true f,AE true r2,AE true M]/\f.In 4000/\r2.In 4000/\M.In 4000:=by
   match ds,hl,hP with
   |[x,y,z],_,h=>
    obtain⟨a,rfl,a1⟩:=h x zyA;obtain⟨b,rfl,b1⟩:=h y zyA;obtain⟨c,rfl,c1⟩:=h z zyA;show⟨a,b,c,U,a1,b1,c1⟩
  show q _ ⟨true,true,true,true,f,r2,M⟩ _ (fG kX G m) ⟨i1,i2,i3⟩ (kX.same (Aa.new G)) ((mv1.trans (Mv.of (Aa.new hp))\mv2).trans l\Mv.of (Aa.new G))
def i8:Am 1 "_law_volume" ["_law_rows"] [] Cy:=by
  refine AK.cal T.x35.g cE<<<λp h=>?_;obtain⟨x,sq,rfl,k,b,q⟩:=h;obtain⟨a,C,rfl,j,f⟩:=ay k;obtain⟨s,z,r,rfl,m,o,l⟩:=b_ f;obtain⟨A,rfl,i⟩:=cN m;obtain⟨t,rfl,e⟩:=cN o;obtain⟨B,rfl,d⟩:=cN l;have c:∀ {u v:Int},-4000<=u->u<=4000->DX u v:=λe d=>.inr ((gO e d).mono O)
  show⟨_,((ac (dA (pv 0) (vf (n:=3) Θ U (aj (ah 1 cE.nd) (aj (ah 2 cE.nd) (aj (ah 3 cE.nd) aK)))))
   (ac (av 4 cE.nd (au aD (ak K (pv 1) aa) (au bI (au aD (ak K (pv 2) aa) (ak K (pv 3) aa)) (au aD (ak K (pv 2) aa) (ak K (pv 3) aa)))))
   (ac (av 5 cE.nd (au aD (ak K (pv 1) aa) (au bI (au aD (ak K (pv 2) aa) (ak K (pv 3) aa)) (au aD (ak K (pv 2) aa) (ak K (pv 3) aa)))))
   (ag (ao (au bZ (au bI (pv 4) (pv 5)) (au aD (ak K (pv 1) aa) (au bI (au aD (ak K (pv 2) aa) (ak K (pv 3) aa)) (au aD (ak K (pv 2) aa) (ak K (pv 3) aa))))))))))),_,U,a,_,U,ic j,U,_,_,U,_,_,U,_,_,U,U,_,U,fE i rfl ⟨_,U,fE e rfl ⟨_,U,fE d rfl ⟨_,_,U,U,c b.y.b1 b.y.b2,_,U,fE e rfl ⟨_,U,fE d rfl ⟨_,_,U,U,c b.y.c1 b.y.c2,_,_,U,U,_,_,U,U,c b.x.a1 b.x.a2,⟨_,U,fE i rfl ⟨_,U,fE e rfl ⟨_,U,fE d rfl ⟨_,_,U,U,c b.y.a1 b.y.a2,_,U,fE e rfl ⟨_,U,fE d rfl ⟨_,_,U,U,c b.y.c1 b.y.c2,_,_,U,U,_,_,U,U,c b.x.b1 b.x.b2,⟨_,U,_,U,_,_,U,U,_,U,fE i rfl ⟨_,U,fE e rfl ⟨_,U,fE d rfl ⟨_,_,U,U,c b.y.a1 b.y.a2,_,U,fE e rfl ⟨_,U,fE d rfl ⟨_,_,U,U,c b.y.b1 b.y.b2,_,_,U,U,_,_,U,U,c b.x.c1 b.x.c2,_,_,U,U,q⟩⟩⟩⟩⟩⟩⟩⟩⟩⟩⟩⟩⟩⟩⟩⟩⟩⟩
def tj:Am 2 "_law_grid" ["_law_town_here","_law_size"] [] FX:=by
  refine AK.cal T.x36.g bn<<<λhr h=>?_;obtain⟨t,r,n,rfl,tw,h2,h7,q⟩:=h;refine⟨_,((ac (av 2 bn.nd aaT)
   (ac (av 3 bn.nd (af am aB hr (aL (pv 0) aa)))
   (ac (cH 4 uA6 tR [0] 1 bn.nd (aR rfl T.x1 (aJ aa)) (λM=>(ah 0 M)) ax (a_ (ai (af am aB hr (aL (pv 1) aa)) (ai (af am aB hr (aL (pv 1) aa)) (ai (af am aB hr (aL (pv 1) aa)) (ai (af am aB hr (aL (pv 1) aa)) aH))))))
   (ac (fj NO rfl (aR rfl T.x1 (aJ (pv 1))) (ah 5 bn.nd) (ag (fj NO rfl (aR rfl T.x1 (aJ (pv 1))) (ah 6 bn.nd) (ag (fj NO rfl (aR rfl T.x1 (aJ (pv 1))) (ah 7 bn.nd) (ac (aQ (aG bY (pv 3) aa (aA _)) (ag (cH 8 uC8 ["_law_a","_law_b","_law_c"] [5,6,7] 4 bn.nd (aY Θ (pv 4)) (λM=>(vf (n:=4) Θ U (aj (ah 0 M) (aj (ah 1 M) (aj (ah 2 M) (aj (ah 3 M) aK)))))) ax (au bZ (au bZ (au bZ (pv 0) (au aD (pv 1) (pv 4))) (au aD (pv 2) (pv 5))) (au aD (pv 3) (pv 6))))) (ag (aQ (aG bY (pv 3) aa (aA _)) (ag (cH 8 uA6 tR [0] 1 bn.nd (aR rfl T.x1 (aJ aa)) (λM=>(ah 0 M)) ax (af am aB hr (aL (pv 1) aa)))) (ag (cH 8 uC8 ["_law_a","_law_size","_law_b","_law_c"] [5,1,6,7] 4 bn.nd (aY Θ (pv 4)) (λM=>(vf (n:=4) Θ U (aj (ah 0 M) (aj (ah 1 M) (aj (ah 2 M) (aj (ah 3 M) aK)))))) ax (aq (jW rfl) (by rfl) T.xh sk (aL aa (au bZ (au bZ (au bZ (pv 0) (au c5 (au aD (au aD (pv 1) (pv 4)) (pv 4)) (pv 5))) (au aD aa (pv 6))) (au aD aa (pv 7))))))))))
   (ac (aQ (PW.pt (kE (aG bY (pv 5) (pv 6) (aA _)) (kE (aG bY (pv 6) (pv 7) (aA _)) (nr (aG bY (pv 3) aa (aA _)))))) (ag (av 8 bn.nd (au wm (a_ (aJ (ak K (pv 8) aa))) aa))) aE)
   (ag (ado hr.u1 (pv 2) (aV (ai (pv 5) (ai (pv 6) (ai (pv 7) aH)))) (aS (c9 Θ) (by rfl) T.x2 aZ (aJ (az ["_law_one"] [] [] 1 (aY Θ (pv 8)) (λM=>(ah 0 M)) ax (aq (jW rfl) (by rfl) T.xh sk (aL aa (pv 0)))))) U)))))))))
   (ag (ao (pv 2)))))))),?_⟩
  have s64:∀ {n:Int},0<n->n<100000->Sm 8000 n:=λh1 h2=>Sm.mono (k:=20) (by unfold Sm;lia) O
  refine λd hd=>?_
  have sd:Aa H (upd H d (.dT [])):=Aa.new hd;have tw0:=tw.same sd;have gd0:upd H d (.dT []) d=Z (.dT []):=ae;generalize hH0:upd H d _=H0 at sd tw0 gd0 ⊢;refine⟨_,U,t,r,3,U,tw0,O,s64 O O,λkd H1 k0 k3 tw1 mv1=>⟨3,U,O,O,c8 (K:=K) (lo:=0) (n:=3) (Pd:=λd=>∃ r:R4,d=.list r.ds/\r.In) tw1 O (λi H2 hi tw2 mv2 R kk S=>?_) (λds ys H2 hl hP tw2 mv2 hys R hR=>?_)⟩⟩
  .show aF (B:=S H2) ⟨_,U,t,r,200,U,tw2,O,s64 O O,λx1 H3 a1 b1 kX G=>⟨_,U,t,r,90,U,kX,O,s64 O O,λx2 H4 a2 b2 tw4 mv4=>⟨_,U,t,r,90,U,tw4,O,s64 O O,λx3 H5 a3 b3 N mv5=>⟨_,U,t,r,90,U,N,O,s64 O O,λx4 H6 a4 b4 s D=>⟨le4,λL J=>kk _ _ ⟨s.same (Aa.new J),(G.trans mv4\mv5).trans D\Mv.of (Aa.new J),_,⟨⟨x1,x2,x3,x4⟩,U,a1,b1,a2,b2,a3,b3,a4,b4⟩,fG s J (.cons ↑_ (.cons ↑_ (.cons ↑_ (.cons ↑_ .nil))))⟩⟩⟩⟩⟩⟩
  obtain⟨C,F,A,rfl,i1,i2,i3⟩:∃ C F A:R4,ds=[.list C.ds,.list F.ds,.list A.ds]/\C.In/\F.In/\A.In:=by
   match ds,hl,hP with
   |[x,y,z],_,h=>
    obtain⟨a,rfl,a1⟩:=h x zyA;obtain⟨b,rfl,b1⟩:=h y zyA;obtain⟨c,rfl,c1⟩:=h z zyA;show⟨a,b,c,U,a1,b1,c1⟩
  have M:d∉[t,r]:=λm=>by
   obtain⟨xs,e⟩:=tw0.lists d m;rw[gd0] at e;cases e
  have gi0:B_ K t r d R (.list [.list C.ds,.list F.ds,.list A.ds]) H0 [] (upd H2 R (.lst ys)):=⟨tw2.same (Aa.new hR),(mv1.trans mv2\Mv.of (Aa.new hR)).wide,fG tw2 hR hys,λ_=>⟨0,0,0⟩,⟨[],Aa.new hR _ _ (mv2 _ _ (mv1 _ _ gd0 M) M),.nil⟩,λ_ m=>nomatch m⟩
  generalize upd H2 R _=H3 at gi0 ⊢;have lt:∀ {x:Int}{m:Nat},0<=x->x<200->m<7->Sm 64 x:=λh1 h2 _=>by unfold Sm;lia
  have inr:∀ {v:R4},v=C\/v=F\/v=A->v.In:=λh=>by rcases h with rfl|rfl|rfl<;>assumption
  refine⟨_,U,(n:Int),U,Y,Y,iB (λi σ H'=>(∃ oa ob oc ow,σ=[Z ↥t,Z ↑n,Z ↥d,Z ↑kd,Z ↥R,oa,ob,oc,ow])/\B_ K t r d R (.list [.list C.ds,.list F.ds,.list A.ds]) H0 (Fm n i) H')
   ⟨⟨_,_,_,_,U⟩,gi0⟩ ?_ ?_⟩
  .rintro i σ H4 hi ⟨⟨oa,ob,oc,ow,rfl⟩,gi1⟩;have hi:i<n:=Y
   refine⟨_,U,(n:Int),U,Y,Y,iB (λj σ H'=>(∃ ob oc ow,σ=[Z ↥t,Z ↑n,Z ↥d,Z ↑kd,Z ↥R,Z ↑(0+i),ob,oc,ow])/\B_ K t r d R (.list [.list C.ds,.list F.ds,.list A.ds]) H0 (Fm n i++Fh n i j) H')
    ⟨⟨_,_,_,U⟩,by simpa [Fh] using gi1⟩ ?_ ?_⟩
   .rintro j σ H5 hj ⟨⟨ob,oc,ow,rfl⟩,gi2⟩;have hj:j<n:=Y
    refine⟨_,U,(n:Int),U,Y,Y,iB (λk σ H'=>(∃ oc ow,σ=[Z ↥t,Z ↑n,Z ↥d,Z ↑kd,Z ↥R,Z ↑(0+i),Z ↑(0+j),oc,ow])/\B_ K t r d R (.list [.list C.ds,.list F.ds,.list A.ds]) H0 (Fm n i++Fh n i j++Fz i j k) H')
     ⟨⟨_,_,U⟩,by simpa [Fz] using gi2⟩ ?_ ?_⟩
    .rintro k σ H6 hk ⟨⟨oc,ow,rfl⟩,N⟩;have hk:k<n:=Y
     obtain⟨b0,xs,eb,hb,hxs⟩:=ay (b:=true) (ds:=[.list C.ds,.list F.ds,.list A.ds]) (Ad.uncut N.rs);cases eb;apply sup (I:=λwv H'=>∃ (W:MF) (s:R3),wv=↥W/\B_ K t r d R (.list [.list C.ds,.list F.ds,.list A.ds]) H0 (Fm n i++Fh n i j++Fz i j k) H'/\H' W=Z (.lst s.vs)/\s.Up)
     case main=>
      intro rest1;refine⟨_,U,_,_,U,U,_,U,dg (λhc=>?k0) (λhc=>?kx)⟩
      case' k0=>
       refine⟨_,U,R,true,U,⟨_,hb⟩,aW (es:=[↑(C.w+C.x*(0+i)+C.y*(0+j)+C.z*(0+k)),↑(F.w+F.x*(0+i)+F.y*(0+j)+F.z*(0+k)),↑(A.w+A.x*(0+i)+A.y*(0+j)+A.z*(0+k))]) hb hxs rfl (O:3<=1000) (λii dd ee u H7 hd he s7 X RR kk S=>?_) (λzs H7 s7 hzs W hW=>?_)⟩
       .obtain⟨v,hrr,rfl,rfl⟩:∃ v:R4,(v=C\/v=F\/v=A)/\dd=.list v.ds/\ee=↑(v.w+v.x*(0+i)+v.y*(0+j)+v.z*(0+k)):=by
         rcases j7 hd with ⟨rfl,rfl⟩|⟨rfl,rfl⟩|⟨rfl,rfl⟩
         .show⟨C,.inl rfl,U,(Mn he).symm⟩
         .show⟨F,.inr (.inl rfl),U,(Mn he).symm⟩
         .show⟨A,.inr (.inr rfl),U,(Mn he).symm⟩
        obtain⟨w0,w1,x0,x1,y0,y1,z0,z1⟩:=inr hrr;obtain⟨ra,rfl,hra⟩:=abm X;refine⟨ra,_,U,.inl hra,U,_,_,U,_,_,U,_,_,U,_,_,U,U,aF (B:=S H7) ?_⟩;show⟨_,U,_,U,_,U,_,_,U,U,.inr (by unfold Sm;lia),_,_,U,U,_,U,_,U,_,_,U,U,.inr (by unfold Sm;lia),_,_,U,U,_,U,_,U,_,_,U,U,.inr (by unfold Sm;lia),_,_,U,U,kk _ _ ⟨Aa.refl _,↑_⟩⟩
       have zz:=cn (ns:=[C.w+C.x*(0+i)+C.y*(0+j)+C.z*(0+k),F.w+F.x*(0+i)+F.y*(0+j)+F.z*(0+k),A.w+A.x*(0+i)+A.y*(0+j)+A.z*(0+k)]) hzs;subst zz;have D:=(N.same s7).same (Aa.new (o:=.lst ([C.w+C.x*(0+i)+C.y*(0+j)+C.z*(0+k),F.w+F.x*(0+i)+F.y*(0+j)+F.z*(0+k),A.w+A.x*(0+i)+A.y*(0+j)+A.z*(0+k)].map V.int)) hW);have pos:∀ {v:R4},v.In->0<=v.w+v.x*(0+(i:Int))+v.y*(0+(j:Int))+v.z*(0+(k:Int)):=λh=>by
        have p1:=PM h.x0 (show(0:Int)<=0+i by lia);have p2:=PM h.y0 (show(0:Int)<=0+j by lia);have p3:=PM h.z0 (show(0:Int)<=0+k by lia);have p4:=h.w0;lia
       obtain⟨s,G,up⟩:∃ s:R3,upd H7 W (.lst ([C.w+C.x*(0+i)+C.y*(0+j)+C.z*(0+k),F.w+F.x*(0+i)+F.y*(0+j)+F.z*(0+k),A.w+A.x*(0+i)+A.y*(0+j)+A.z*(0+k)].map V.int)) W=Z (.lst s.vs)/\s.Up:=⟨⟨_,_,_⟩,ae,pos i1,pos i2,pos i3⟩
       generalize upd H7 W _=H8 at D G ⊢
      case' kx=>
       refine⟨_,U,_,_,U,U,_,U,dg (λhc1=>?k1) (λhc1=>?k2)⟩
      case' k1=>
       refine⟨3,U,O,O,c8 (K:=K) (lo:=0) (n:=3) (Pd:=λd=>∃ i:Int,d=↑i/\0<=i) N.tw O (λii H7 hii tw7 mv7 RR kk S=>aF (B:=S H7) ⟨_,U,t,r,1001,U,tw7,O,s64 O O,λx1 H9 a1 b1 tw9 mv9=>kk _ _ ⟨tw9,mv9,_,⟨x1,U,a1⟩,↑_⟩⟩) (λds ws H7 hl hP tw7 mv7 hws W hW=>?_)⟩;obtain⟨s,rfl,up⟩:=afQ hl hP;have zz:=dY hws;subst zz;have D:=(N.draw tw7 mv7).same (Aa.new (o:=.lst s.vs) hW);have G:upd H7 W (.lst s.vs) W=Z (.lst s.vs):=ae;generalize upd H7 W _=H8 at D G ⊢
      case' k2=>
       have e2:∃ g:R4->Int,g=λv=>if v.w+(v.x*(0+(i:Int))*(0+(i:Int))).fdiv n+40*(0+(j:Int))+30*(0+(k:Int))<1000 then v.w+(v.x*(0+(i:Int))*(0+(i:Int))).fdiv n+40*(0+(j:Int))+30*(0+(k:Int)) else 1000:=⟨_,U⟩
       obtain⟨g,hg⟩:=e2;refine⟨_,U,R,true,U,⟨_,hb⟩,aW (es:=[↑(g C),↑(g F),↑(g A)]) hb hxs rfl (O:3<=1000) (λii dd ee u H7 hd he s7 X RR kk S=>?_) (λzs H7 s7 hzs W hW=>?_)⟩
       .obtain⟨v,hrr,rfl,rfl⟩:∃ v:R4,(v=C\/v=F\/v=A)/\dd=.list v.ds/\ee=↑(g v):=by
         rcases j7 hd with ⟨rfl,rfl⟩|⟨rfl,rfl⟩|⟨rfl,rfl⟩
         .show⟨C,.inl rfl,U,(Mn he).symm⟩
         .show⟨F,.inr (.inl rfl),U,(Mn he).symm⟩
         .show⟨A,.inr (.inr rfl),U,(Mn he).symm⟩
        obtain⟨w0,w1,x0,x1,y0,y1,z0,z1⟩:=inr hrr;obtain⟨ra,rfl,hra⟩:=abm X;have sx:Sm 64 (v.x*(0+(i:Int))):=((show Sm 10 v.x by unfold Sm;lia).mul (show Sm 10 (0+(i:Int)) by unfold Sm;lia)).mono O;refine⟨ra,_,U,.inl hra,U,_,_,U,_,_,U,_,_,U,_,_,U,U,aF (B:=S H7) (⟨_,U,_,U,_,U,_,_,U,U,.inr (by unfold Sm;lia),_,U,_,_,U,U,.inr sx,_,U,_,_,U,U,⟨Y,Sm.mono (k:=20) (by unfold Sm;lia) O⟩,_,_,U,U,_,U,_,_,U,U,.inr (by unfold Sm;decide),_,_,U,U,_,U,_,_,U,U,.inr (by unfold Sm;decide),_,_,U,U,_,_,U,kk _ _ ⟨Aa.refl _,?_⟩⟩)⟩;rw[hg];show .int _
       have zz:=cn (ns:=[g C,g F,g A]) hzs;subst zz;have D:=(N.same s7).same (Aa.new (o:=.lst ([g C,g F,g A].map V.int)) hW);have pos:∀ {v:R4},v.In->0<=g v:=λ{v} h=>by
        have p2:0<=(v.x*(0+(i:Int))*(0+(i:Int))).fdiv n:=by
         rw[OR _ Y];show UU (PM (PM h.x0 (show(0:Int)<=0+i by lia)) (show(0:Int)<=0+i by lia)) Y
        have p4:=h.w0;rw[hg];dsimp only
        split<;>lia
       obtain⟨s,G,up⟩:∃ s:R3,upd H7 W (.lst ([g C,g F,g A].map V.int)) W=Z (.lst s.vs)/\s.Up:=⟨⟨_,_,_⟩,ae,pos i1,pos i2,pos i3⟩
       generalize upd H7 W _=H8 at D G ⊢
      all_goals
       obtain⟨wv,ewv⟩:∃ wv,wv=V.ref W:=⟨_,U⟩
       rw[<- ewv];show rest1 wv H8 ⟨W,s,ewv,D,G,up⟩
     clear N hb hxs;rintro wv H8 ⟨W,s,rfl,D,G,up⟩;apply sup (I:=λwv H'=>∃ (W:MF) (s:R3),wv=↥W/\B_ K t r d R (.list [.list C.ds,.list F.ds,.list A.ds]) H0 (Fm n i++Fh n i j++Fz i j k) H'/\H' W=Z (.lst s.vs)/\s.Up)
     case main=>
      intro J;refine⟨_,U,_,U,_,_,U,U,_,U,dg (λc1=>?c1t) (λc1=>aN ?c1f)⟩
      case c1t=>
       refine⟨_,U,_,U,_,_,U,U,_,U,dg (λc2=>?c2t) (λc2=>aN ?c2f)⟩
       case c2t=>
        refine⟨_,U,_,_,U,U,_,U,dg (λc3=>?c3t) (λc3=>?c3f)⟩
        case c3t=>
         refine⟨_,U,.inl ⟨W,_,0,↑s.a,U,U,An.of G,U,le1,λp hp=>⟨p,3,_,U,U,ae,O,O,(O:3<=MO),λp2 hp2=>?_⟩⟩⟩;have D:=(D.same (Aa.new (o:=.lst [↑s.a]) hp)).same (Aa.new (o:=.lst (MN (3:Int).toNat [V.int s.a]).flatten) hp2);have ewr2:upd (upd H8 p (.lst [↑s.a])) p2 (.lst (MN (3:Int).toNat [V.int s.a]).flatten) p2=Z (.lst (R3.mk s.a s.a s.a).vs):=ae;generalize upd (upd H8 p (.lst [↑s.a])) p2 _=H9 at D ewr2 ⊢;obtain⟨wv,ewv⟩:∃ wv,wv=V.ref p2:=⟨_,U⟩
         rw[<- ewv];show J wv H9 ⟨p2,_,ewv,D,ewr2,up.a,up.a,up.a⟩
        case c3f=>show J ↥W H8 ⟨W,s,U,D,G,up⟩
       case c2f=>show J ↥W H8 ⟨W,s,U,D,G,up⟩
      case c1f=>show J ↥W H8 ⟨W,s,U,D,G,up⟩
     clear D G up;rintro wv H8 ⟨W,s,rfl,D,G,up⟩;refine⟨_,U,_,true,U,⟨_,An.of G⟩,aW (es:=[↑(min 1000 s.a),↑(min 1000 s.b),↑(min 1000 s.c)]) (K:=K) (b:=true) (An.of G) (.cons ↑s.a (.cons ↑s.b (.cons ↑s.c .nil))) U (O:3<=1000) (λii dd ee u H9 hd he s9 X RR kk S=>?_) (λzs H9 s9 hzs D9 hD9=>?_)⟩
     .refine aF (B:=S H9) ?_;rcases j7 hd with ⟨rfl,rfl⟩|⟨rfl,rfl⟩|⟨rfl,rfl⟩<;>(cases X;cases(Mn he);show⟨_,rfl,_,_,rfl,by rw[abM];show kk _ _ ⟨Aa.refl _,↑_⟩⟩)
     .have zz:=cn (ns:=[min 1000 s.a,min 1000 s.b,min 1000 s.c]) hzs;subst zz;refine⟨D9,_,U,.inl ⟨An.of ae,λl hl=>?_⟩⟩;have wtl:(R3.mk (min 1000 s.a) (min 1000 s.b) (min 1000 s.c)).Wt:=by
       obtain⟨u1,u2,u3⟩:=up;show⟨by change 0<=min 1000 s.a;lia,by change min 1000 s.a<=1000;lia,by change 0<=min 1000 s.b;lia,by change min 1000 s.b<=1000;lia,by change 0<=min 1000 s.c;lia,by change min 1000 s.c<=1000;lia⟩
      have gi5:=((D.same s9).same (Aa.new (o:=.lst ([min 1000 s.a,min 1000 s.b,min 1000 s.c].map V.int)) hD9)).same (Aa.new (o:=.tup ([min 1000 s.a,min 1000 s.b,min 1000 s.c].map V.int)) hl);have hlt:Ad K (upd (upd H9 D9 (.lst ([min 1000 s.a,min 1000 s.b,min 1000 s.c].map V.int))) l (.tup ([min 1000 s.a,min 1000 s.b,min 1000 s.c].map V.int))) (wD ⟨min 1000 s.a,min 1000 s.b,min 1000 s.c⟩) ↥l:=Ad.tupN hl (.cons ↑_ (.cons ↑_ (.cons ↑_ .nil)));generalize upd (upd H9 D9 (.lst ([min 1000 s.a,min 1000 s.b,min 1000 s.c].map V.int))) l _=Ha at gi5 hlt ⊢;generalize R3.mk (min 1000 s.a) (min 1000 s.b) (min 1000 s.c)=wf at wtl hlt;refine⟨_,U,_,U,_,U,_,U,sX,λkt hkt=>?_⟩;have ek:[V.int (0+(i:Int)),V.int (0+(j:Int)),V.int (0+(k:Int))]=(A7 (i,j,k)).map kV:=by rw[S7,S7,S7];rfl
      have gi6:=gi5.same (Aa.new (o:=.tup [V.int (0+(i:Int)),V.int (0+(j:Int)),V.int (0+(k:Int))]) hkt);have hlt:=Ad.same (Aa.new (o:=.tup [V.int (0+(i:Int)),V.int (0+(j:Int)),V.int (0+(k:Int))]) hkt) hlt;have hkt':upd Ha kt (.tup [V.int (0+(i:Int)),V.int (0+(j:Int)),V.int (0+(k:Int))]) kt=Z (.tup ((A7 (i,j,k)).map kV)):=by rw[<- ek];show ae
      generalize upd Ha kt _=Hb at gi6 hlt hkt' ⊢;obtain⟨f,⟨vs,gd,gv⟩,gw⟩:=gi6.gr;have hlen:=Hr.len gv;have fresh:((i,j,k):Kn)∉Fm n i++Fh n i j++Fz i j k:=λm=>by
       rcases Nk.mp m with m|m
       .rcases Nk.mp m with m|m
        .have:=(ac4.mp m).1;show absurd this (Nq _)
        .have:=(xX.mp m).2.1;show absurd this (Nq _)
       .have:=(ym.mp m).2.2;show absurd this (Nq _)
      refine⟨d,_,U,Il.t (k:=A7 (i,j,k)) gd hkt' (by rw[rS hlen];show fu (M1 (ack h7 hi hj (N4 hk)) O)),⟨_,_,U⟩,?_⟩;rw[ae9 hlen fresh,u8,<- OT];have sdb:Ca Hb (upd Hb d (.dT (De (Fm n i++Fh n i j++Fz i j k++[(i,j,k)]) (vs++[↥l])))):=Ca.put gd;refine⟨gi6.tw.sameD sdb,gi6.mv.trans λb o e nb=>?_,Ad.sameD (Ca.cut sdb) gi6.rs,λu=>if u=(i,j,k) then wf else f u,⟨_,ae,?_⟩,λu X=>?_⟩
      .rw[ar (λz=>nb (by simp[z]))];show e
      .rw[Nx];refine(Af.sameD sdb (show Af K Hb _ _ from ?_)).snoc ?_
       .have cg:(Fm n i++Fh n i j++Fz i j k).map (λu=>wD (if u=(i,j,k) then wf else f u))=(Fm n i++Fh n i j++Fz i j k).map (λu=>wD (f u)):=VP λu X=>by
         have nu:u≠(i,j,k):=λz=>fresh (z▸X)
         rw[MZ nu]
        rw[cg];show gv
       .change Ad K _ (wD (if((i,j,k):Kn)=(i,j,k) then wf else f (i,j,k))) _;rw[M' rfl];show Ad.sameD sdb hlt
      .change(if u=(i,j,k) then wf else f u).Wt;rcases Nk.mp X with X|X
       .have nu:u≠(i,j,k):=λz=>fresh (z▸X)
        rw[MZ nu];show gw u X
       .rw[M' (Mu.mp X)];show wtl
    .rintro σ H6 ⟨⟨oc,ow,rfl⟩,N⟩;refine⟨⟨_,_,_,U⟩,?_⟩;rw[n0,<- OT];show N
   .rintro σ H5 ⟨⟨ob,oc,ow,rfl⟩,gi2⟩;refine⟨⟨_,_,_,_,U⟩,?_⟩;rw[om];show gi2
  .rintro σ H4 ⟨⟨oa,ob,oc,ow,rfl⟩,gi1⟩;obtain⟨f,s,D⟩:=gi1.gr;refine⟨_,U,q d f H4 s (λu X=>D u X) gi1.tw (λb o e nb=>(gi1.mv b o (sd _ _ e) λz=>?_)) hd⟩;simp only[MA,MQ,Ob] at z nb;rcases z with z|z|z
   .show nb (.inl z)
   .show nb (.inr z)
   .rw[z,hd] at e;cases e
def sH:Am 3 "_law_ends" tR [] FT:=by
  refine AK.cal T.x37.g kK<<<λhr h=>?_;obtain⟨t,r,rfl,tw,q⟩:=h;refine⟨_,((ac (cH 1 uA6 tR [0] 1 kK.nd (aR rfl T.x1 (aJ aa)) (λnd=>(ah 0 nd)) ax (af am dZ hr (aL (pv 1) (a_ (ai aa (ai aa (ai (af am aB hr (aL (pv 1) aa)) aH)))))))
   (ag (ao (aV (aL (aS (c9 Θ) (by rfl) T.x2 aZ (aJ (az ["_law_one"] tR [0] 1 (aY Θ (pv 1)) (λnd=>(ah 0 nd)) ax (au bZ (au bZ (pv 0) aa) (af am aB hr (aL (pv 1) (au bI aa (pv 0)))))))) (aS (c9 Θ) (by rfl) T.x2 aZ (aJ (pv 1))))))))),?_⟩
  have F:∀ {n:Int},0<n->n<100000->Sm 8000 n:=λh1 h2=>Sm.mono (k:=20) (by unfold Sm;lia) O
  refine⟨3,U,O,O,c8 (K:=K) (lo:=0) (n:=3) (Pd:=λd=>∃ i:Int,d=↑i/\0<=i/\i<=399) tw O (λi H2 hi o A R kk S=>?_) (λds ys H2 hl hP o A hys D hD=>?_)⟩
  .refine aF (B:=S H2) ⟨_,U,_,U,t,r,400,U,o,O,F O O,λd2 H3 C L kX mv3=>⟨sX,λp J=>?_⟩⟩;have sp:Aa H3 (upd H3 p (.lst [↑0,↑0,↑d2])):=Aa.new J;have np:=kX.not J;refine⟨t,r,p,_,U,kX.same sp,ae,λz=>np (by simp[z]),λz=>np (by simp[z]),zyA,(O:3<=1000),λj v s hv f e=>kk _ _ ⟨f,mv3.trans (Mv.of sp)\e,?_⟩⟩;rcases j7 hv with ⟨rfl,rfl⟩|⟨rfl,rfl⟩|⟨rfl,rfl⟩
   .show⟨_,⟨0,U,O,O⟩,↑_⟩
   .show⟨_,⟨0,U,O,O⟩,↑_⟩
   .show⟨_,⟨d2,U,C,Y⟩,↑_⟩
  obtain⟨b,rfl,bi⟩:∃ b:R3,ds=b.ds/\(0<=b.a/\b.a<=399/\0<=b.b/\b.b<=399/\0<=b.c/\b.c<=399):=by
   match ds,hl,hP with
   |[x,y,z],_,h=>
    obtain⟨a,rfl,a1,C⟩:=h x zyA;obtain⟨b,rfl,b1,L⟩:=h y zyA;obtain⟨c,rfl,c1,c2⟩:=h z zyA;show⟨⟨a,b,c⟩,U,a1,C,b1,L,c1,c2⟩
  cases dY hys;generalize e0:upd H2 D _=G;have sD:=e_ hD e0;have gD:=cW e0;have nD:=o.not hD;refine⟨_,U,D,true,U,⟨_,An.of gD⟩,wz (K:=K) (xs:=b.vs) (Pn:=λi n=>∃ m,b.vs[i]?=Z ↑m/\m<n/\n<=1000) (o.same sD) gD nD (O:3<=1000) (λi x s hx f e R kk S=>?_) (λns s hn hP4 f e u hD2=>?_)⟩
  .obtain⟨m,rfl,m1,m2⟩:∃ m:Int,x=↑m/\0<=m/\m<=399:=by
    rcases j7 hx with ⟨rfl,rfl⟩|⟨rfl,rfl⟩|⟨rfl,rfl⟩
    .show⟨_,U,Y,Y⟩
    .show⟨_,U,Y,Y⟩
    .show⟨_,U,Y,Y⟩
   refine aF (B:=S s) ⟨_,U,_,_,U,U,_,U,_,U,_,_,U,U,t,r,_,U,f,Y,F Y Y,λd5 H5 a5 b5 tw5 mv5=>⟨_,_,U,U,kk _ _ ⟨tw5,mv5,_,⟨m,hx,Y,Y⟩,U⟩⟩⟩
  obtain⟨w,ew,wi⟩:∃ w:R3,ns.map V.int=w.vs/\(b.a<w.a/\w.a<=1000/\b.b<w.b/\w.b<=1000/\b.c<w.c/\w.c<=1000):=by
   match ns,hn,hP4 with
   |[x,y,z],_,h=>
    obtain⟨a,ea,a1,C⟩:=h 0 x rfl;obtain⟨b',eb,b1,L⟩:=h 1 y rfl;obtain⟨c,ec,c1,c2⟩:=h 2 z rfl;cases ea;cases eb;cases ec;show⟨⟨x,y,z⟩,U,a1,C,b1,L,c1,c2⟩
  rw[ew];have sD2:Aa s (upd s u (.lst w.vs)):=Aa.new hD2;refine⟨u,_,U,.inl ⟨An.of ae,λl hl=>?_⟩⟩;have sl:Aa (upd s u (.lst w.vs)) (upd (upd s u (.lst w.vs)) l (.tup w.vs)):=Aa.new hl;have gl:upd (upd s u (.lst w.vs)) l (.tup w.vs) l=Z (.tup w.vs):=ae;have I:=sD2\sl;have g5:=I _ _ (e _ _ gD nD);generalize upd (upd s u (.lst w.vs)) l _=M at gl I g5 ⊢;refine⟨_,U,D,_,U,.inl ⟨An.of g5,λN hl2=>⟨iX,λp J=>?_⟩⟩⟩;have s6:Aa M (upd M N (.tup b.vs)):=Aa.new hl2;have X:Aa (upd M N (.tup b.vs)) (upd (upd M N (.tup b.vs)) p (.tup [↥l,↥N])):=Aa.new J;refine q _ ⟨w,b⟩ _ (.tup ae (.cons (Ad.same (s6\X) (.tup gl (.cons ↑_ (.cons ↑_ (.cons ↑_ .nil))))) (.cons (Ad.same X (.tup ae (.cons ↑_ (.cons ↑_ (.cons ↑_ .nil))))) .nil))) ⟨bi.1,wi.1,wi.2.1,bi.2.2.1,wi.2.2.1,wi.2.2.2.1,bi.2.2.2.2.1,wi.2.2.2.2.1,wi.2.2.2.2.2⟩ (f.same (I\(s6\X))) ((A\Mv.of sD).trans e\Mv.of (I\(s6\X)))
def i':Am 8 "_law_curves" uA1 [] ET:=by
  refine AK.cal T.x38.g ou<<<λhr h=>?_;obtain⟨t,r,m,c,rfl,tw,c1,c2,q⟩:=h;refine⟨_,((ag (ao (az uA6 uA1 [0,1,2] 1 (aR rfl T.x1 (aJ aa)) (λnd=>(ah 0 nd)) ax (l9 Θ am fW (hr.mono O) U (aJ (af am pH hr (ai (pv 1) (ai aa (ai (pv 2) (ai (pv 3) aH))))))))))),3,U,O,O,mD (λi p k=>Az k t r/\Mv [t,r] H k/\⇑p=i/\∀ (j:Nat) (v:V),p[j]?=Z v->∃ f y z,BP K (cut [t,r] k) f v/\Ew f/\f[0]?=Z y/\f.getLast?=Z z/\z.1=60/\z.2<=m) ⟨tw,Mv.refl,U,λj v e=>by simp at e⟩ O (λi p k _ ⟨_,_,e,_⟩=>Y) (λi p k hi ⟨b,d,e,s⟩ R S kk _=>?_) (λp k ⟨b,d,e,s⟩=>?_)⟩
  .refine aF (B:=S k) ⟨_,U,_,U,_,U,t,r,60,m,c,U,b,O,O,c1,c2,λL f z xs H1 hL M J hz A X nL l n=>λC a dx hC ha hdx x=>?_⟩;generalize u:upd (upd H1 dx _) a _=H5;have I:=uH ha hdx x u;refine⟨a,C,dx,↥L,f,U,hC,cW u,Ad.same I (.lst (.inl hL) M),J,λH6 F cv6 N=>⟨U,kk _ _ ?_⟩⟩;have G:Aa H1 H6:=λb' o e=>F _ _ (I _ _ e) (λz=>by rw[Mu.mp z,ha] at e;cases e)
   refine⟨l.same G,d.trans n\Mv.of G,by rw[MP,e];rfl,λj v ej=>?_⟩;rcases jE ej with ⟨_,ej⟩|⟨rfl,rfl⟩
   .obtain⟨ps',y,z',h1,h2⟩:=s j v ej;show⟨ps',y,z',(h1.same n.cut).same (Aa.cut G),h2⟩
   .show⟨f,f[0]'(by have:=J.two;lia),z,N [t,r] (l.lists.same I),J,MC _,hz,A,X⟩
  .intro D n;obtain⟨x,u1,u2,rfl⟩:=ad0 e;obtain⟨p0,y0,N,a0,b0,c0,d0,u,J⟩:=s 0 x rfl;obtain⟨p1,y1,A,M,b1,F,d1,I,f1⟩:=s 1 u1 rfl;obtain⟨p2,y2,X,a2,b2,G,d2,e2,f2⟩:=s 2 u2 rfl;have l:=Aa.new (o:=.lst [x,u1,u2]) n;refine q D [x,u1,u2] ⟨p0,p1,p2⟩ _ (jc d n (b.not n)) ae (b.not n) ⟨U,λi v ei=>?_⟩ (λi hi=>?_) (b.same l) (d\Mv.of l)
   .rcases j7 ei with ⟨rfl,rfl⟩|⟨rfl,rfl⟩|⟨rfl,rfl⟩
    .show a0.same (Aa.cut l)
    .show M.same (Aa.cut l)
    .show a2.same (Aa.cut l)
   .match i,hi with
    |0,_=>show⟨b0,y0,N,c0,d0,u,J⟩
    |1,_=>show⟨b1,y1,A,F,d1,I,f1⟩
    |2,_=>show⟨b2,y2,X,G,d2,e2,f2⟩
def mR:Am 11 "_law_profile" tR [] Ey:=by
  refine AK.cal T.x39.g bE<<<λI h=>?_;obtain⟨t,r,rfl,tw,q⟩:=h;refine⟨_,((ac (dA (af am sH I (aJ (pv 0))) (bJ (n:=2) Θ U (aj (ah 1 bE.nd) (aj (ah 2 bE.nd) aK))))
   (ac (av 3 bE.nd (xM Θ am gC (I.mono O) U (jC (pv 1) (jC (pv 2) oX))))
   (ac (aQ (aG bY (af am aB I (aL (pv 0) aa)) aa (aA _)) (ac (av 4 bE.nd (af am i' I (ai (pv 0) (ai (af am dZ I (aL (pv 0) (a_ (aL aa aa)))) (ai (bh bY (af am aB I (aL (pv 0) aa)) aa (aA _)) aH)))))
   (ac (av 5 bE.nd (af am pX I (aJ (pv 0))))
   (ag (ao (aV (ai (uS Θ am f_ (I.mono O) U (aL (pv 4) (pv 5)) (jC (pv 3) oX)) (ai (pv 4) (ai (pv 5) (ai fh (ai (aV (aL (pv 1) (pv 2))) aH)))))))))) aE)
   (ac (av 4 bE.nd (af am i' I (ai (pv 0) (ai aa (ai (bh bY (af am aB I (aL (pv 0) aa)) aa (aA _)) aH)))))
   (ac (av 6 bE.nd (af am tj I (aL (pv 0) aa)))
   (ag (ao (aV (ai (uS Θ am gQ (I.mono O) U (aL (pv 4) (l9 Θ am cL (I.mono O) U (aL aa (pv 6)))) (jC (pv 3) oX)) (ai (pv 4) (ai fh (ai (pv 6) (ai (aV (aL (pv 1) (pv 2))) aH)))))))))))))),_,U,t,r,U,tw,λv e H1 hv ie tw1 mv1=>?_⟩
  obtain⟨ea,xs,rfl,hea,hes⟩:=ay (b:=false) (ds:=[AE false e.w,AE false e.b]) hv;obtain⟨x,y,rfl,S,J⟩:=xS hes;refine⟨ea,_,U,hea,U,_,_,U,_,_,U,U,_,U,_,U,λC1 a1 dx1 hC1 ha1 hdx1 hne1=>?_⟩;generalize G:upd (upd H1 dx1 _) a1 _=H2;have s2:=uH ha1 hdx1 hne1 G;refine⟨a1,C1,dx1,x,y,e,U,hC1,cW G,Ad.same s2 S,Ad.same s2 J,ie,λH3 mv3 en=>⟨U,?_⟩⟩;have s3:Aa H1 H3:=λb' o z=>mv3 _ _ (s2 _ _ z) (λw=>by rw[Mu.mp w,ha1] at z;cases z)
  replace tw:=tw1.same s3;have mv:=mv1\Mv.of s3;replace S:=Ad.same s3 S;replace J:=Ad.same s3 J;clear s2 mv3 s3 tw1 mv1 hv hea hes ha1 hdx1 hne1;have s64:∀ {n:Int},0<n->n<100000->Sm 8000 n:=λh1 h2=>Sm.mono (k:=20) (by unfold Sm;lia) O
  refine⟨_,U,t,r,2,U,tw,O,s64 O O,λx0 H4 a0 b0 l mv4=>⟨_,_,U,U,_,U,?_⟩⟩;replace en:=en.mv mv4 tw.lists;replace S:=Ad.mv mv4 tw.lists rfl S;replace J:=Ad.mv mv4 tw.lists rfl J;replace mv:=mv\mv4;clear tw mv4;refine dg (λhc=>?_) (λhc=>?_)
  .refine⟨_,U,_,U,iX,λp hp=>?_⟩;generalize G:upd H4 p _=H5;have s5:=e_ hp G;have np:=l.not hp;refine⟨t,r,p,_,U,l.same s5,cW G,λz=>np (by simp[z]),λz=>np (by simp[z]),zyA,(O:2<=1000),λi v H6 ev tw6 mv6=>?_⟩;obtain⟨cap,rfl,c1,c2⟩:∃ cap:Int,v=↑cap/\1<=cap/\cap<=1000:=by
    have m:=MD ev;simp only[MA,MQ,Ob] at m;rcases m with rfl|rfl
    .show⟨60,U,O,O⟩
    .show⟨1000,U,O,O⟩
   refine⟨_,U,t,r,2,U,tw6,O,s64 O O,λx1 H7 a2 b2 tw7 mv7=>⟨_,_,U,U,t,r,cap,_,U,tw7,c1,c2,λD us P H8 hD N nD c3 pin tw8 mv8=>⟨_,U,t,r,U,tw8,λsv s H9 hs si A u=>?_⟩⟩⟩;have j:=((Mv.of (T:=[t,r]) s5).trans mv6\mv7).trans mv8\u;replace en:=en.mv j l.lists;replace S:=Ad.mv j l.lists rfl S;replace J:=Ad.mv j l.lists rfl J;replace mv:=mv\j;replace N:=u _ _ N nD;replace c3:=c3.same u.cut;clear s5 np tw6 mv6 tw7 mv7 tw8 mv8 u j l ev hD;refine⟨_,U,_,U,_,U,λC a dx hC ha hdx hne=>?_⟩;generalize G:upd (upd H9 dx _) a _=H10;have c:=uH ha hdx hne G;refine⟨a,C,dx,D,sv,↥a1,us,P,s,e,U,hC,cW G,c _ _ N,(c3.same cP).same c,pin.mono c2,Ad.same c (Ad.uncut hs),si,en.same c,ie,λH11 mv11 sp11=>⟨U,?_⟩⟩;have B:Aa H9 H11:=λb' o z=>mv11 _ _ (c _ _ z) (λw=>by rw[Mu.mp w,ha] at z;cases z)
   refine⟨_,U,_,U,_,U,_,U,iX,λp1 M=>⟨(O:5<=MO),λp2 hp2=>?_⟩⟩;have X:=Aa.new (o:=.tup [x,y]) M;have F:=Aa.new (o:=.tup [↥a,↥D,sv,.non,↥p1]) hp2;have R:=B.trans X\F;have lD:AC H10 [t,r,D]:=λb m=>by
    simp only[MA,MQ,Ob] at m;rcases m with rfl|rfl|rfl
    .show(A.lists.same c) _ zyA
    .show(A.lists.same c) _ zyA
    .show⟨_,c _ _ N⟩
   show q p2 D us P (.inl s) e ↥a sv .non ↥p1 _ ae ⟨A.same R,nD,R _ _ N,c3.same (Aa.cut R),⟨(sp11 [t,r,D] lD).same (Aa.cut (T:=[t,r,D]) (X\F)),Ad.same (Aa.cut R) hs,si,pin.mono c2⟩⟩ (Ad.same F (Ad.tupN (ds:=[AE false e.w,AE false e.b]) M (.cons (Ad.same B S) (.cons (Ad.same B J) .nil)))) ie (mv\Mv.of R)
  .refine⟨_,U,_,U,t,r,2,U,l,O,s64 O O,λx1 H7 a2 b2 tw7 mv7=>⟨_,_,U,U,t,r,60,_,U,tw7,O,O,λD us P H8 hD N nD c3 pin tw8 mv8=>⟨_,U,t,r,2,U,tw8,O,O,λd f H9 gp wt A u nd=>?_⟩⟩⟩;have j:=mv7.trans mv8\u;replace en:=en.mv j l.lists;replace S:=Ad.mv j l.lists rfl S;replace J:=Ad.mv j l.lists rfl J;replace mv:=mv\j;replace N:=u _ _ N nD;replace c3:=c3.same u.cut;have gr:Gr K H9 2 f d:=⟨_,.refl _,gp⟩
   clear tw7 mv7 tw8 mv8 u j l hD nd;refine⟨_,U,_,U,λC2 g dy hC2 hg hdy hne2=>?_⟩;generalize G:upd (upd H9 dy _) g _=H5;have s5:=uH hg hdy hne2 G;refine⟨g,C2,dy,d,2,f,U,hC2,cW G,gr.same s5,wt,O,O,λH6 L mv6 hg6 gL hL=>⟨U,_,U,λC a dx hC ha hdx hne=>?_⟩⟩;have s6:Aa H9 H6:=λb' o z=>mv6 _ _ (s5 _ _ z) (λw=>by rw[Mu.mp w,hg] at z;cases z)
   generalize G:upd (upd H6 dx _) a _=H10;have s10':=uH ha hdx hne G;have c:=s6\s10';refine⟨a,C,dx,D,↥g,↥a1,us,P,f,e,U,hC,cW G,c _ _ N,(c3.same cP).same c,pin,⟨g,C2,dy,L,U,hC2,s10' _ _ hg6,gL.same s10'⟩,wt,en.same c,ie,λH11 mv11 sp11=>⟨U,?_⟩⟩;have B:Aa H9 H11:=λb' o z=>mv11 _ _ (c _ _ z) (λw=>by rw[Mu.mp w] at z;rw[s6 _ _ z] at ha;cases ha)
   refine⟨_,U,_,U,_,U,_,U,iX,λp1 M=>⟨(O:5<=MO),λp2 hp2=>?_⟩⟩;have X:=Aa.new (o:=.tup [x,y]) M;have F:=Aa.new (o:=.tup [↥a,↥D,.non,↥d,↥p1]) hp2;have R:=B.trans X\F;have lD:AC H10 [t,r,D]:=λb m=>by
    simp only[MA,MQ,Ob] at m;rcases m with rfl|rfl|rfl
    .show(A.lists.same c) _ zyA
    .show(A.lists.same c) _ zyA
    .show⟨_,c _ _ N⟩
   show q p2 D us P (.inr f) e ↥a .non ↥d ↥p1 _ ae ⟨A.same R,nD,R _ _ N,c3.same (Aa.cut R),⟨(sp11 [t,r,D] lD).same (Aa.cut (T:=[t,r,D]) (X\F)),U,⟨d,U,gr.same R⟩,wt,pin⟩⟩ (Ad.same F (Ad.tupN (ds:=[AE false e.w,AE false e.b]) M (.cons (Ad.same B S) (.cons (Ad.same B J) .nil)))) ie (mv\Mv.of R)
def kU:Am 10 "_law_from" uD3 [] F9:=by
  refine AK.cal T.x3a.g de<<<λD h=>?_;obtain⟨v,x,P,b,e,c,rfl,N,M,R,X,S,q⟩:=h;refine⟨_,((ac (av 2 de.nd fh)
   (ac (av 3 de.nd fh)
   (ac (aeE (i:=4) Θ de.nd rfl rfl rfl rfl rfl rfl (λ_ _ W J=>(ag (av 3 de.nd (ig (nY Θ (J.g rfl) fb (D.mono O) (pv 0) (aJ (pv 1))) (nY Θ (J.g rfl) fC (D.mono O) (pv 0) (aJ (pv 1))))))) (λ_=>(ag (av 2 de.nd (pv 4)))))
   (ag (ao (iH (aG vJ (pv 2) fh (aA _)) (pv 3) (af am mL D (aJ (pv 2)))))))))),?_⟩
  cases b with
  |inl s=>
   obtain⟨k,hs,B⟩:=N;obtain⟨a,C,z,l,vs,q1,en,rfl,I,n,r1⟩:=id k;refine .inl ⟨_,U,a,C,z,_,U,I,n,U,_,U,↥a,x,P,s.cp,e,c,U,k,B,hs.cp,M,R,λF=>?_,λw hw G d u m j y r=>?_⟩
   .show Rz.caught T.x5 λC m e A j p=>⟨_,U,_,U,U,_,U,aN ⟨_,U,↥e,U,⟨e,C,U,A,ae⟩,λH2 o=>S F.symm _ (j.trans (Aa.new p)\o)⟩⟩
   .show⟨_,U,U,_,U,aF ⟨_,U,q w hw.symm G d u m j y r⟩⟩
  |inr f=>
   obtain⟨k,wt,B⟩:=N;obtain⟨a,C,z,l,vs,q1,en,rfl,I,n,r1⟩:=id k;refine .inr ⟨_,U,a,C,z,_,U,I,n,U,_,U,↥a,x,P,f,e,c,U,k,B,wt,M,R,X,λL t F=>?_,λL w t hw G d u m j y r=>?_⟩
   .show Rz.caught T.x5 λC m e A j p=>⟨_,U,_,U,U,_,U,aN ⟨_,U,↥e,U,⟨e,C,U,A,ae⟩,λH2 o=>S ⟨L,t,F.symm⟩ _ (j.trans (Aa.new p)\o)⟩⟩
   .show⟨_,U,U,_,U,aF ⟨_,U,q w ⟨L,t,hw.symm⟩ G d u m j y r⟩⟩
def qF:Am 9 "_law_first" uB7 [] CT:=by
  refine AK.cal T.x3b.g cA<<<λhr h=>?_;obtain⟨v,x,cl,us,P,f,c,rfl,hv,wt,hcl,h3,hp,hx,bd,tr,qz,q⟩:=h;refine⟨_,((ac (fj NO rfl (aY Θ (af am lB hr (aL (pv 0) (pv 2)))) (ah 3 cA.nd) (ac (av 4 cA.nd eF)
   (ac (fj NO rfl (aR rfl T.x1 (aJ aa)) (ah 5 cA.nd) (ac (dA (eJ Θ am cQ (hr.mono O) (ak K (pv 1) (pv 5))) (bJ (n:=2) Θ U (aj (ah 6 cA.nd) (aj (ah 7 cA.nd) aK))))
   (ag (av 4 cA.nd (cZ (pv 4) (cZ (pV (af am ki hr (aL (ak K (pv 3) (pv 5)) (aV (aL (pv 6) aa))))) (fg (pV (af am ki hr (aL (aV (aL (pv 7) aa)) (ak K (pv 3) (pv 5))))))))))))
   (ag (aQ (aM (pv 4)) (ag (ao (pv 3))) aE)))))
   (ag (ao fh)))),_,U,_,U,v,x,2,f,c,U,hv,wt,O,O,hx,bd,tr,λz xs T H1 hz ew ks b6 lx s1 hT=>?_⟩
  have pe:=jK z xs;have s:E7 f c ((C6 z xs).map (·.1)):=⟨z,xs,hz,ew,U⟩
  have kk:∀ p∈C6 z xs,Ad K H1 p.1.col ↥p.2/\p.1.Bd 1060:=λp m=>⟨ks.1 p (pe.mem_iff.mp m),b6 p (pe.mem_iff.mp m)⟩
  clear hz ew ks b6 lx pe;generalize C6 z xs=cs at *;refine⟨T,true,U,⟨_,An.of hT⟩,iO (K:=K) (xs:=cs.map λp=>V.ref p.2) (λi t H'=>(∃ o3 o4 G J D,t=[Z v,Z ↥cl,Z x,o3,o4,G,J,D])/\Aa H1 H'/\∀ j p,j<i->cs[j]?=Z p->AB P p.1=false) ⟨⟨_,_,_,_,_,U⟩,Aa.refl _,λj p hj=>absurd hj (Nat.not_lt_zero _)⟩ (λi t H' _ h=>An.of (h.2.1 _ _ hT)) ?_ ?_⟩
  .rintro i u t H2 M ⟨⟨o3,o4,G,J,D,rfl⟩,B,no⟩;rw[Mw] at M;obtain⟨p,F,rfl⟩:=MG.mp M;obtain⟨k1,k2⟩:=kk p (MD F);obtain⟨pa,ys,ey,hpa,hys⟩:=ay (b:=false) (ds:=p.1.ds) k1;cases ey;refine⟨3,U,O,O,iB (lo:=0) (n:=3) (λm t H'=>(∃ G J D,t=[Z v,Z ↥cl,Z x,Z ↥p.2,Z (.bl ((NG m).all λj=>AA (P.at j) (Aq p.1.a p.1.b p.1.c j))),G,J,D])/\Aa H2 H') ⟨⟨_,_,_,U⟩,Aa.refl _⟩ ?_ ?_⟩
   .rintro m t H3 hm ⟨⟨G,J,D,rfl⟩,l⟩;have s13:=s1.trans B\l;obtain⟨cv,S⟩:∃ cv,us[m]?=Z cv:=⟨_,MC (by rw[h3.1];show hm)⟩
    have L:=(h3.2 m cv S).same s13;obtain⟨a,C,dx,l2,rfl,hC,ha,hl2⟩:=id L;obtain⟨pp,r,z,y,ez,z1,z2⟩:=hp m hm;obtain⟨yv,ey,X⟩:=re hys hm;have iy:=pp.inn r (MD y);have iz:=pp.inn z (Ot ez);refine⟨_,U,_,U,fE (b:=true) (An.of (s13 _ _ hcl)) (i:=0+m) (by rw[Ol];show S) ⟨a,C,dx,_,U,hC,ha,U,↥a,_,r,z,U,L,y,ez,λu H4 s4 hu=>?_⟩⟩;obtain⟨E,es,rfl,hE,hes⟩:=ay (b:=false) (ds:=[↑r.2,↑z.2]) hu;have ees:=jq (ns:=[r.2,z.2]) hes;subst ees;refine⟨E,_,U,hE,U,_,_,U,_,_,U,U,?_⟩;have d:=B\(l\s4);have ee:AA (P.at m) (Aq p.1.a p.1.b p.1.c m)=(!decide (Aq p.1.a p.1.b p.1.c m<(r.2:Rat))&&!decide ((z.2:Rat)<Aq p.1.a p.1.b p.1.c m)):=gg y ez _\acy _ _ _;have N:((NG (m+1)).all λj=>AA (P.at j) (Aq p.1.a p.1.b p.1.c j))=(((NG m).all λj=>AA (P.at j) (Aq p.1.a p.1.b p.1.c j))&&AA (P.at m) (Aq p.1.a p.1.b p.1.c m)):=by rw[O2,List.all_append];simp
    rw[ee] at N;generalize ((NG m).all λj=>AA (P.at j) (Aq p.1.a p.1.b p.1.c j))=bb at N ⊢;have R:∀ {n:Int},0<=n->n<=1000->Bq 3900 (n:Rat):=λh1 h2=>Ok.mono (lP (k:=11) (by unfold Sm;lia) O) O
    have bp:Bq 3900 (Aq p.1.a p.1.b p.1.c m):=Ok.mono (jO k2 hm) O;have at':ys[0+m]?=Z yv:=by rw[Ol];show ey
    refine⟨_,U,_,U,dg (λhb=>(⟨_,U,_,U,fE (b:=false) (AF.same d hpa) at' ⟨_,U,iX,λT2 hT2=>?_⟩⟩)) (λhb=>⟨⟨_,_,_,by rw[N,show bb=false by simpa using hb];rfl⟩,l\s4⟩)⟩;have A:=Aa.new (o:=.tup [↑r.2,↑1]) hT2;refine⟨yv,↥T2,_,(r.2:Rat),U,Ad.same (d\A) X,by rw[tY];show ji ae,bp,R iy.b1 iy.b2,_,U,_,U,dg (λh1=>(⟨_,U,iX,λT3 hT3=>?_⟩)) (λh1=>⟨⟨_,_,_,by rw[N,show decide (Aq p.1.a p.1.b p.1.c m<(r.2:Rat))=true by simpa using h1,Pu,Pg,RV];rfl⟩,l.trans s4\A⟩)⟩;have I:=A\Aa.new (o:=.tup [↑z.2,↑1]) hT3;refine⟨_,U,_,U,fE (b:=false) (AF.same (d\I) hpa) at' ⟨↥T3,yv,(z.2:Rat),_,U,by rw[tY];show ji ae,Ad.same (d\I) X,R iz.b1 iz.b2,bp,_,U,⟨_,_,_,by rw[N,show bb=true from hb,show decide (Aq p.1.a p.1.b p.1.c m<(r.2:Rat))=false by simpa using h1];rfl⟩,l.trans s4\I⟩⟩
   .rintro t H3 ⟨⟨G,J,D,rfl⟩,l⟩;rw[show((NG 3).all λj=>AA (P.at j) (Aq p.1.a p.1.b p.1.c j))=AB P p.1 by unfold AB;simp[O2,Bool.and_assoc];rfl];cases hin:AB P p.1 with
    | false=>show ⟨_,U,_,U,aN ⟨⟨_,_,_,_,_,U⟩,B\l,fun j d hj e=>by
      rcases TW.mp hj with h|rfl
      .show no j d h e
      .rw[F] at e;cases e;show hin⟩⟩
    |true=>show⟨_,U,_,U,aF ⟨_,U,q _ p.1 s (sV F hin no) _ _ (s1.trans B\l) (Ad.same (B\l) k1)⟩⟩
  .rintro t H2 ⟨⟨o3,o4,G,J,D,rfl⟩,B,no⟩;show qz _ s (xD λj p e=>no j p (by rw[Mq];show(Mp.mp e).1) e) _ (s1\B)
def aeR {f:MF}{fd:OQ}(F:JP K "law" "law" CN f fd):Bw P w K mg base (Fj P w) 12 f fd uA5 (DF uC7 K):=by
 refine JP.okX F dN (λvs H Q E h=>?_) (λcdv A outer s H vs Q E G h=>?_)
 .obtain⟨a,ns,rfl,_⟩:=h;rfl
 .obtain⟨a,ns,rfl,hS,hl,hT,q⟩:=h;refine⟨_,((ac (av 1 dN.nd (af am uf G (aJ (pv 0))))
   (ac (dA (af am mR G (aJ (pv 1))) (bJ (n:=5) Θ U (aj (ah 2 dN.nd) (aj (ah 3 dN.nd) (aj (ah 4 dN.nd) (aj (ah 5 dN.nd) (aj (ah 6 dN.nd) aK)))))))
   (ac (av 7 dN.nd (iH (aG tE (pv 4) fh (aA _)) (bh bY (af am i8 G (aJ (pv 4))) aa (aA _)) (af am wL G (aJ (l9 Θ am cL (G.mono O) U (aL aa (pv 5)))))))
   (ac (av 8 dN.nd (bh (lg Θ G.units) (az ["_law_curve"] [] [] 1 (aY Θ (pv 3)) (λnd=>(ah 0 nd)) ax (eJ Θ am iZ (G.mono O) (pv 0))) (au wm (a_ (aJ eF)) aa) (aA _)))
   (ac (fj NO rfl (aR rfl T.x1 (aJ aa)) (ah 9 dN.nd) (ac (av 10 dN.nd (af am qt G (aL (pv 1) aa)))
   (ac (av 11 dN.nd (ig (eA Θ am bj (G.mono O) (pv 2) (aJ (pv 10))) (eA Θ am bF (G.mono O) (pv 2) (aJ (pv 10)))))
   (ac (aQ (aG bY (af am aB G (aL (pv 1) aa)) aa (aA _)) (ag (av 11 dN.nd (aV (ai (af am eR G (aJ (pv 1))) (ai (af am eR G (aJ (pv 1))) (ai (af am eR G (aJ (pv 1))) aH)))))) aE)
   (ac (av 12 dN.nd (af am kU G (aL (pv 2) (pv 11))))
   (ag (aQ (aG (lg Θ G.units) (pv 12) c7 (aA _)) (ag (aQ (PW.pt (kE (aG (lg Θ G.units) (pv 11) (ig (eA Θ am bj (G.mono O) (pv 2) (aJ (pv 10))) (eA Θ am bF (G.mono O) (pv 2) (aJ (pv 10)))) (aA _)) (nr (aO (aM (pv 7)))))) (ag (ao eF)) aE)) (ag (aQ (PW.pt (dS (aO (aM (af am l6 G (aJ (pv 12))))) (dw (aG (w9 Θ G.units) (ig (eA Θ am bj (G.mono O) (pv 2) (aJ (pv 12))) (eA Θ am bF (G.mono O) (pv 2) (aJ (pv 12)))) (pv 11) (aA _))))) (ag (ao eF)) (ac (av 13 dN.nd (az uA6 ["_law_curves_here","_law_told"] [3,12] 1 (aR rfl T.x1 (aJ aa)) (λnd=>(ah 0 nd)) ax (eA Θ am ik (G.mono O) (ak K (pv 1) (pv 0)) (aJ (ak K (pv 2) (pv 0))))))
   (ac (aQ (PW.pt (kE (aG vJ (pv 4) fh (aA _)) (nr (aG (w9 Θ G.units) (aS (c9 Θ) (by rfl) T.x2 aZ (aJ (pv 13))) (af am qF G (ai (l9 Θ am cL (G.mono O) U (aL aa (pv 5))) (ai (pv 3) (ai (pv 11) aH)))) (aA _))))) (ag (ao eF)) aE)
   (ac (aQ (aG (w9 Θ G.units) (az uA6 ["_law_curves_here","_law_inner"] [3,13] 1 (aR rfl T.x1 (aJ aa)) (λnd=>(ah 0 nd)) ax (nY Θ aba gU (G.mono O) (ak K (pv 1) (pv 0)) (aJ (ak K (pv 2) (pv 0))))) (aS (jy Θ) (by rfl) T.xa eO (aJ (pv 12))) (aA _)) (ag (ao eF)) aE)
   (ag (aQ (PW.pt (kE (aG tE (pv 4) fh (aA _)) (kE (aM (pv 8)) (kE (aG (lg Θ G.units) (pv 11) (ig (eA Θ am bj (G.mono O) (pv 2) (aJ (pv 10))) (eA Θ am bF (G.mono O) (pv 2) (aJ (pv 10)))) (aA _)) (nr (aG (w9 Θ G.units) (pv 12) (pv 10) (aA _))))))) (ag (ao eF)) aE))))))))))))))
   (ag (ao (aeg (bh vJ (pv 4) fh (aA _)) (aeg (bh iQ (af am i8 G (aJ (pv 4))) aa (aA _)) (fg (bh (lg Θ G.units) (af am kU G (aL (pv 2) (au yx (aV (aJ (aV (aL aa aa)))) aa))) c7 (aA _))))))))))))),?_⟩
  have s64:∀ {n:Int},0<n->n<100000->Sm 8000 n:=λh1 h2=>Sm.mono (k:=20) (by unfold Sm;lia) O
  refine⟨_,U,a,ns,U,hS,hl,λt r H0 s0 _ _ tw0=>?_⟩;have tb0:=(hT "parts_by_four" zyA).same s0;have tr0:=(hT "rising" zyA).same s0;clear hT hS hl s0;refine⟨_,U,t,r,U,tw0,λTp cl us P b e pv sv dv ev H1 hT lp _ ie mv1=>?_⟩;have g:G6 K t r cl P b e us pv sv dv H1:=by
   obtain⟨l1,l2,l3,l4,l5⟩:=lp;have w:Aa (cut [t,r,cl] H1) (cut [t,r] H1):=λb' o z=>by
    unfold cut at z ⊢
    split at z
    .cases z
    .rename_i n
     rw[MZ λm=>n (by simp only[MA,MQ,Ob] at m ⊢;rcases m with m|m<;>simp[m])];show z
   refine⟨l1,l2,l3,l4,tb0.mv mv1 tw0.lists,tr0.mv mv1 tw0.lists,?_,?_⟩
   .cases b with
    |inl s=>show⟨l5.1.same w,l5.2.2.1,l5.2.2.2⟩
    |inr f=>show⟨l5.1.same w,l5.2.2.2⟩
   .cases b with
    |inl s=>show⟨l5.2.1,l5.2.2.1⟩
    |inr f=>show⟨l5.2.1,l5.2.2.1⟩
  clear tb0 tr0 mv1 tw0 lp;refine⟨Tp,_,U,AZ.of hT,U,_,_,U,_,_,U,_,_,U,_,_,U,_,_,U,U,?_⟩;clear hT;refine aeI g rfl rfl λH2 s2=>?_
  replace g:=g.same s2;clear s2;refine⟨_,U,cl,true,U,⟨_,An.of g.hl⟩,dU (K:=K) (xs:=us) (λi ys N=>Aa H2 N/\ys=(NG i).map λj=>V.bl (Ba (P.at j))) ⟨Aa.refl _,U⟩ (by rw[g.h3.1];decide) (λi ys N _ p=>⟨An.of (p.1 _ _ g.hl),by rw[p.2];simp⟩) (λi x ys N hx p R S kk _=>?_) (λys N p D hD=>?_)⟩
  .have hi:i<3:=by rw[<- g.h3.1];show(Mp.mp hx).1
   have hcv:=((g.h3.2 i x hx).same cP).same p.1;obtain⟨ca,C,dx,l2,rfl,hC,ha,X⟩:=id hcv;refine aF (B:=S N) ⟨_,U,ca,C,dx,_,U,hC,ha,U,↥ca,P.at i,U,hcv,(g.hp.pin i hi).1,λH5 s5=>kk _ _ ⟨p.1\s5,?_⟩⟩;rw[O2,Nx,<- p.2];rfl
  obtain⟨s',e'⟩:=p;rw[g.h3.1] at e';obtain rfl:ys=[.bl (Ba P.p),.bl (Ba P.q),.bl (Ba P.r)]:=e';generalize e0:upd N D _=Ha;have sa:=e_ hD e0;refine⟨le1,λL1 hL1=>?_⟩;generalize e1:upd Ha L1 _=Hb;refine⟨L1,3,[.bl true],U,U,cW e1,O,O,(O:3<=MO),λL2 hL2=>?_⟩;have sc:=e_ hL1 e1\Aa.new (o:=.lst [.bl true,.bl true,.bl true]) hL2;refine⟨.list [.bool (Ba P.p),.bool (Ba P.q),.bool (Ba P.r)],.list [.bool true,.bool true,.bool true],.lst (.inl (sc _ _ (cW e0))) (.cons (.bl _) (.cons (.bl _) (.cons (.bl _) .nil))),.lst (.inl ae) (.cons (.bl _) (.cons (.bl _) (.cons (.bl _) .nil))),U,U,?_⟩;rw[show QH (.list [.bool (Ba P.p),.bool (Ba P.q),.bool (Ba P.r)]) (.list [.bool true,.bool true,.bool true])=Fc P by unfold Fc;cases Ba P.p<;>cases Ba P.q<;>cases Ba P.r<;>rfl];replace g:G6 K t r cl P b e us pv sv dv (upd Hb L2 (.lst (MN (Qe 3) [V.bl true]).flatten)):=g.same (s'.trans sa\sc);generalize upd Hb L2 _=H3 at g ⊢;clear s' hD e0 sa hL1 e1 hL2 sc;refine⟨4,U,O,O,iB (lo:=0) (n:=4) (λi σ N=>(∃ o9 o10 o11 o12 o13,σ=[Z ↥a,Z ↥t,Z pv,Z ↥cl,Z sv,Z dv,Z ev,Z (.bl (Ig b)),Z (.bl (Fc P)),o9,o10,o11,o12,o13])/\G6 K t r cl P b e us pv sv dv N)
   ⟨⟨_,_,_,_,_,U⟩,g⟩ ?_ ?_⟩
  .clear g;rintro i σ H1 hi ⟨⟨o9,o10,o11,o12,o13,rfl⟩,g⟩;refine⟨_,U,t,r,60,U,g.tw,O,O,λcv c H2 J wi bd tw2 mv2=>?_⟩;replace g:=g.mv mv2 tw2;clear mv2 tw2;refine yh (g.hp.same cP) g.t4 (λR k=>⟨_,U,k⟩) (λR k=>⟨_,U,k⟩) J wi bd O λrr u H3 s3 on hu bw=>?_
   replace g:=g.same s3;replace J:=Ad.same s3 J;clear s3;refine⟨_,U,t,r,4,U,g.tw,O,s64 O O,λx0 H4 a0 b0 tw4 mv4=>⟨_,_,U,U,_,U,?_⟩⟩;replace J:=Ad.mv mv4 g.tw.lists rfl J;replace hu:=Ad.mv mv4 g.tw.lists rfl hu;replace g:=g.mv mv4 tw4;clear mv4 tw4 a0 b0;apply sup (I:=λv H=>G6 K t r cl P b e us pv sv dv H/\Ad K H c.col cv/\∃ w:Q3,Ad K H w.col v/\w.Bd 250)
   case main=>
    intro AQ;refine dg (λhx=>?tt) (λhx=>?ff)
    case tt=>
     refine⟨_,U,t,r,U,g.tw,λv1 n1 d1 Ha h1 o1 tw1 mv1=>?_⟩;obtain⟨q1,rfl,rfl⟩:=o1.rat;have Ya:=g.mv mv1 tw1;refine⟨_,U,t,r,U,Ya.tw,λv2 n2 d2 Hb h2 o2 tw2 mv2=>?_⟩;obtain⟨q2,rfl,rfl⟩:=o2.rat;have Yb:=Ya.mv mv2 tw2;refine⟨_,U,t,r,U,Yb.tw,λv3 n3 d3 Hc h3 o3 kX mv3=>⟨sX,λgo hgo0=>?_⟩⟩;obtain⟨q3,rfl,rfl⟩:=o3.rat;have sg:=Aa.new (o:=.tup [v1,v2,v3]) hgo0;have hgo:Ad K (upd Hc go (.tup [v1,v2,v3])) (Q3.mk q1 q2 q3).col ↥go:=Ad.tupN (ds:=[rD q1,rD q2,rD q3]) hgo0 (.cons (Ad.mv mv3 Yb.tw.lists rfl (Ad.mv mv2 Ya.tw.lists rfl h1)) (.cons (Ad.mv mv3 Yb.tw.lists rfl h2) (.cons h3 .nil)));have Yd:=(Yb.mv mv3 kX).same sg;have hcd:=Ad.same sg (Ad.mv mv3 Yb.tw.lists rfl (Ad.mv mv2 Ya.tw.lists rfl (Ad.mv mv1 g.tw.lists rfl J)));generalize upd Hc go _=Hd at hgo Yd hcd ⊢;generalize V.ref go=gw at hgo ⊢;show AQ gw Hd ⟨Yd,hcd,_,hgo,⟨o1.mono O,o2.mono O,o3.mono O⟩⟩
    case ff=>show AQ u H4 ⟨g,J,_,hu,bw.mono O⟩
   clear g J hu bw on;rintro wv H5 ⟨g,J,w,hw,bw⟩;refine⟨_,U,_,U,pv,wv,P,b,e,w,U,g.hp.same cP,hw,bw,g.tr,λhz H6 s6=>?_,λv hv bv d u2 H6 s6 bc X=>?_⟩
   .replace g:=g.same s6;replace J:=Ad.same s6 J;replace hw:=Ad.same s6 hw;clear s6;refine⟨_,U,.str "back",.str "back",.str _,.str _,zyB,zyB,true,Rp V.bl zyB,aF (⟨_,U,yh (g.hp.same cP) g.t4 (λR k=>⟨_,U,k⟩) (λR k=>⟨_,U,k⟩) J wi bd O λr2 u3 H7 s7 on2 hu3 _=>⟨w.col,_,Ad.same s7 hw,hu3,U,U,_,U,dg (λh1=>?_) (λh1=>aN ⟨⟨_,_,_,_,_,U⟩,g.same s7⟩)⟩⟩)⟩;obtain rfl:=(jQ _ _).mp h1;show⟨_,U,Ig b,U,dg (λh2=>absurd h2 (by rw[never g.hp.pin (λf hf=>by subst hf;show g.hp.2.2) on2 wi bw hz];decide)) (λh2=>⟨⟨_,_,_,_,_,U⟩,g.same s7⟩)⟩
   .replace g:=g.same s6;replace J:=Ad.same s6 J;replace hw:=Ad.same s6 hw;clear s6;have pin:=g.hp.pin;obtain⟨on',wid⟩:=acO pin bc;have bdd:=aaK pin bc bv;have ev:=aep bw hv;refine⟨_,U,d.col,.str "back",X,.str _,U,zyB,_,U,aN (⟨_,U,u2,d,U,X,bdd.mono O,λH7 s7=>⟨_,U,aN ?_⟩⟩)⟩;replace g:=g.same s7;replace J:=Ad.same s7 J;replace hw:=Ad.same s7 hw;replace X:=Ad.same s7 X;clear s7;refine yh (g.hp.same cP) g.t4 (λR k=>⟨_,U,k⟩) (λR k=>⟨_,U,k⟩) X wid bdd O λr2 u3 H8 s8 on2 hu3 _=>?_
    obtain rfl:=yT pin on' on2;rw[ev] at hu3;refine⟨_,U,w.col,w.col,hu3,Ad.same s8 hw,U,U,false,by rw[(jQ _ _).mpr rfl];rfl,aN ?_⟩;replace g:=g.same s8;replace J:=Ad.same s8 J;replace hw:=Ad.same s8 hw;replace X:=Ad.same s8 X;clear s8 hu3;obtain⟨ta,ts,rfl,hta,hts⟩:=ay (b:=false) (ds:=d.ds) X;refine⟨3,U,O,O,cJ (K:=K) (lo:=0) (ds:=v.ds) (n:=3) U O (λi dd N hdd s' R kk S=>?_) (λys N s' hys D hD=>?_)⟩
    .obtain⟨hi,rfl⟩:=yg hdd;obtain⟨ca,C,dx,l,z,hx,hcv,hC,ha,pp,ez,z1⟩:=(g.same s').cv hi;obtain⟨y,ey,hy⟩:=re hts hi;refine aF (B:=S N) ⟨_,U,_,U,fE (b:=true) (i:=0+i) (An.of (s' _ _ g.hl)) (by rw[Ol];show hx) ⟨ca,C,dx,_,U,hC,ha,U,_,U,_,U,fE (b:=false) (i:=0+i) (AF.same s' hta) (by rw[Ol];show ey) ⟨↥ca,y,P.at i,_,z,U,hcv,Ad.same s' hy,pp,Ok.mono (jO bdd hi) O,ez,(nK wid hi).1,by rw[z1];show(nK wid hi).2,λw2 r3 H9 s9 on3 hw9=>kk _ _ ⟨s9,?_⟩⟩⟩⟩;rw[<- lE pp on3 (afi on' hi)];show hw9
    have hin:Ad K (upd N D (.lst ys)) (.list v.ds) ↥D:=Ad.listN hD hys;have sD:=s'\Aa.new (o:=.lst ys) hD;replace g:=g.same sD;replace J:=Ad.same sD J;replace hw:=Ad.same sD hw;replace X:=Ad.same sD X;generalize upd N D _=H9 at g J hw X hin ⊢;clear hta hts s' hys hD sD;refine adB g rfl rfl rfl rfl rfl hw bw hin hv λHa sa=>aN ?_
    replace g:=g.same sa;replace J:=Ad.same sa J;replace hw:=Ad.same sa hw;replace X:=Ad.same sa X;replace hin:=Ad.same sa hin;clear sa;obtain⟨D',xs,e1,hD,hxs⟩:=ay (b:=true) (ds:=v.ds) hin;cases e1;refine⟨3,U,O,O,cJ (K:=K) (lo:=0) (ds:=d.ds) (n:=3) U O (λi dd N hdd s' R kk S=>?_) (λys N s' hys L hL=>?_)⟩
    .obtain⟨hi,rfl⟩:=yg hdd;obtain⟨ca,C,dx,l,z,hx,hcv,hC,ha,pp,ez,z1⟩:=(g.same s').cv hi;obtain⟨y,ey,hy⟩:=re hxs hi;obtain⟨_,yy,_,e0,_⟩:=pin i hi;refine aF (B:=S N) ⟨_,U,_,U,fE (b:=true) (i:=0+i) (An.of (s' _ _ g.hl)) (by rw[Ol];show hx) ⟨ca,C,dx,_,U,hC,ha,U,_,U,_,U,fE (b:=true) (i:=0+i) (AF.same s' hD) (by rw[Ol];show ey) ⟨↥ca,y,P.at i,_,yy,z,U,hcv,Ad.same s' hy,pp,Ok.mono (jO bv hi) O,e0,ez,λ_ w2 b2 H9 s9 bk hw9=>kk _ _ ⟨s9,?_⟩,λhno=>?_⟩⟩⟩
     .rw[<- ze pp ez bk (ab5 bc hi)];show hw9
     .have:=(mw.mp (aeJ hv)) i hi;rw[gg e0 ez,hno] at this;cases this
    obtain⟨ta',ts,e2,hta,hts⟩:=ay (b:=false) (ds:=d.ds) X;cases e2;have sL:=s'\Aa.new (o:=.lst ys) hL;have h1:Ad K (upd N L (.lst ys)) (.list d.ds) ↥L:=Ad.listN hL hys;generalize upd N L _=Hb at sL h1 ⊢;refine⟨_,U,ta,ts,U,.inr (AF.same (b:=false) sL hta),λM hM=>?_⟩;have sM:=Aa.new (o:=.lst ts) hM;refine⟨.list d.ds,.list d.ds,Ad.same sM h1,Ad.listN hM (Af.same sL hts),U,U,false,by rw[show QH (.list d.ds) (.list d.ds)=QH d.col d.col from rfl,(jQ _ _).mpr rfl];rfl,aN ?_⟩;have sB:=sL\sM;replace g:=g.same sB;replace J:=Ad.same sB J;replace hw:=Ad.same sB hw;replace X:=Ad.same sB X;generalize upd Hb M _=Hc at g J hw X ⊢;show afr g rfl rfl rfl rfl rfl rfl J wi bd hw X hv bc λHd sd=>aN ⟨⟨_,_,_,_,_,U⟩,g.same sd⟩
  .rintro σ H1 ⟨⟨o9,o10,o11,o12,o13,rfl⟩,g⟩;cases b with
   |inr f=>
    obtain⟨rfl,_⟩:=g.hb;show⟨_,U,U,_,U,aF (q _)⟩
   |inl s=>
    obtain⟨x,xs,rfl,_⟩:=ay g.hb.1;refine⟨_,U,U,_,U,aN ⟨_,U,_,s,U,Ad.uncut g.hb.1,g.hb.2,_,_,U,U,_,U,dg (λ_=>q _) (λhz=>?_)⟩⟩;have z0:s.det=0:=by simpa using hz
    have vn:Em s P ⟨((1:Int):Rat),((1:Int):Rat),((1:Int):Rat)⟩=none:=by unfold Em;rw[MZ λz=>z.1 z0]
    have b1:Bq 250 ((1:Int):Rat):=lP (by unfold Sm;decide) O;refine⟨_,U,iX,λp hp=>⟨le1,λp1 X=>⟨p1,_,U,U,ae,λp2 hp2=>?_⟩⟩⟩;have h0:Ad K (upd H1 p (.tup [↑1,↑1])) (rD ((1:Int):Rat)) ↥p:=by rw[tY];show ji ae
    have h1:=Ad.same (Aa.new (o:=.tup [↥p]) X) h0;have Y2:=g.same ((Aa.new hp).trans (Aa.new X)\Aa.new (o:=.tup [↥p,↥p,↥p]) hp2);show⟨pv,↥p2,P,.inl s,e,⟨((1:Int):Rat),((1:Int):Rat),((1:Int):Rat)⟩,U,Y2.hp.same cP,Ad.tupN (ds:=(Q3.mk ((1:Int):Rat) ((1:Int):Rat) ((1:Int):Rat)).ds) hp2 (.cons h1 (.cons h1 (.cons h1 .nil))),⟨b1,b1,b1⟩,Y2.tr,λ_ N _=>⟨.str "back",.str "back",.str _,.str _,zyB,zyB,q _⟩,λc J=>by cases J.trans vn⟩
end
def aca (e:K0):JA e:=Classical.byContradiction λn=>Classical.epsilon_spec (p:=λe=>¬JA e) ⟨e,n⟩ λT _ _ F=>@aeR T _ _ F
structure Lz (K:KE):Prop where
 x14:ML K ME "ValueError"=Z none
 xm:ML K ME "abs"=Z none
 x8:ML K ME "all"=Z none
 xn:ML K ME "any"=Z none
 xo:ML K ME "bool"=Z none
 xp:ML K ME "dict"=Z none
 xq:ML K ME "int"=Z none
 x0:ML K ME "isinstance"=Z none
 x4:ML K ME "len"=Z none
 xa:ML K ME "list"=Z none
 xr:ML K ME "max"=Z none
 xh:ML K ME "min"=Z none
 x1:ML K ME "range"=Z none
 xs:ML K ME "set"=Z none
 xf:ML K ME "sorted"=Z none
 x15:ML K ME "str"=Z none
 xi:ML K ME "sum"=Z none
 x2:ML K ME "tuple"=Z none
 x7:ML K ME "zip"=Z none
structure Lk (K:KE):Prop where
 xv:∃ t,ML K ME "FEWEST_KNOTS"=Z (Z (.int 2 t))
 xw:∃ t,ML K ME "FEWEST_POINTS"=Z (Z (.int 2 t))
 xx:∃ t,ML K ME "GREATEST_TO_SQUARE"=Z (Z (.int 1000 t))
 xy:∃ t,ML K ME "GREATEST_curves"=Z (Z (.int 1000 t))
 xz:∃ t,ML K ME "GREATEST_grids"=Z (Z (.int 1000 t))
 xj:∃ t,ML K ME "GREATEST_squares"=Z (Z (.int 4000 t))
 x10:∃ t,ML K ME "MOST_KNOTS"=Z (Z (.int 7 t))
 x11:∃ t,ML K ME "MOST_POINTS"=Z (Z (.int 12 t))
 xg:∃ t,ML K ME "REACH"=Z (Z (.int 60 t))
 xk:∃ t,ML K ME "UNIT"=Z (Z (.int 1000 t))
structure Lj (K:KE):Prop where
 x6:BN K "Curve" ["points"]=true
 xd:BN K "Ends" uC3=true
 x3:BN K "Grid" ["knots","table"]=true
 x9:BN K "GridProfile" ["curves","grid","bounds"]=true
 xb:BN K "SquareProfile" ["curves","square","bounds"]=true
 x12:Jy K "Curve"=true
 x13:Jy K "Ends"=true
 xl:Jy K "Grid"=true
 x5:Hv K=true
set_option autoImplicit true in
set_option relaxedAutoImplicit true in
def all_mk {l:U_}{w:Nr}{K:KE}{h:Oz}{mg:O'}{fa:MF}{i:List MF} (X:K.In h) (G:h.Ns ME mg) (k:mg "law"=Z ↥fa)
  (RN:Lz K)
  (RG:Lk K)
  (RB:Lj K)
  (RD:RawD K)
  (RM:KR K)
  (mi:ML K ME "Grid"=Z (Z ↥aeY))
  (tV:ML K ME "Ends"=Z (Z ↥aeZ))
  (dH:ML K ME "SquareProfile"=Z (Z ↥mV))
  (fA:ML K ME "GridProfile"=Z (Z ↥qw))
  (m_:ML K ME "share"=Z (Z ↥yB))
  (nQ:K.lookup yB=Z ⟨afS,agi,.func (M5 "share" "share" (Ak Bp) (Ai Bp) (Ab Bp) ↥adf agc agk agj agg abi agd),afV⟩)
  (nF:Nj K abi "share"=true)
  (nE:M8 K ↥yB=true)
  (nX:K.lookup adf=Z aax)
  (nB:aax.data=.seq #[.int 1 abZ] ago)
  (bM:ML K ME "parts_by_four"=Z (Z ↥fO))
  (dJ:K.lookup fO=Z ⟨zF,aah,.func (M5 "parts_by_four" "parts_by_four" (Ak AN) (Ai AN) (Ab AN) .none yR zR yN aaa ↥fk y8),zh⟩)
  (fN:Nj K ↥fk "parts_by_four"=true)
  (fQ:M8 K ↥fO=true)
  (df:K.lookup fk=Z ⟨.type "code",xR,.fields lO,yf⟩)
  (c_:Hm lO fk cD)
  (fv:K.lookup cD=none)
  (fe:cD∈i)
  (eK:M7 K ↥aeY "worth"=Z (Z ↥gm))
  (eV:K.lookup gm=Z ⟨aar,aam,.func (M5 "worth" "Grid.worth" (Ak AH) (Ai AH) (Ab AH) .none ↥m7 aal aao aap mU aaq),aak⟩)
  (eh:Nj K mU "Grid.worth"=true)
  (eE:M8 K ↥gm=true)
  (eW:O3 K ↥gm=true)
  (fR:K.lookup m7=Z ⟨.type "dict",none,.dict #[⟨yP,.str "way" zo,.str "four" lJ⟩] zg,#[]⟩)
  (iF:ML K ME "rising"=Z (Z ↥vg))
  (kY:K.lookup vg=Z ⟨afE,afF,.func (M5 "rising" "rising" (Ak B1) (Ai B1) (Ab B1) .none afK afL afG afM ↥lH afI),afJ⟩)
  (pK:Nj K ↥lH "rising"=true)
  (pN:M8 K ↥vg=true)
  (jH:K.lookup lH=Z ⟨.type "code",aeT,.fields zK,aeq⟩)
  (jF:Hm zK lH im)
  (mj:K.lookup im=none)
  (lK:im∈i)
  (d_:M7 K ↥aeZ "__init__"=Z (Z ↥eG))
  (eX:K.lookup eG=Z ⟨vP,wu,.func (M5 "__init__" "Ends.__init__" (Ak AD) (Ai AD) (Ab AD) .none vL vZ we v9 ky wN),wx⟩)
  (eU:Nj K ky "Ends.__init__"=true)
  (eD:M8 K ↥eG=true)
  (eY:O3 K ↥eG=true)
  (bV:M7 K ↥mV "__init__"=Z (Z ↥bQ))
  (bX:K.lookup bQ=Z ⟨ng,ni,.func (M5 "__init__" "SquareProfile.__init__" (Ak Al) (Ai Al) (Ab Al) .none nH nJ nG nN f7 nM),nk⟩)
  (bU:Nj K f7 "SquareProfile.__init__"=true)
  (bT:M8 K ↥bQ=true)
  (bR:O3 K ↥bQ=true)
  (cr:M7 K ↥qw "__init__"=Z (Z ↥cw))
  (cq:K.lookup cw=Z ⟨qe,qf,.func (M5 "__init__" "GridProfile.__init__" (Ak Ap) (Ai Ap) (Ab Ap) .none qk qd qj qg gK qh),qi⟩)
  (cy:Nj K gK "GridProfile.__init__"=true)
  (cu:M8 K ↥cw=true)
  (cx:O3 K ↥cw=true)
  (a_law:ML K ME "law"=Z (Z ↥f_law))
  (l_law:K.lookup f_law=Z ⟨agC,agy,.func (M5 "law" "law" (Ak CN) (Ai CN) (Ab CN) .none aeK aeG ae2 ae4 acb aeO),agG⟩)
  (c_law:Nj K acb "law"=true)
  (k_law:M8 K ↥f_law=true)
  (a_parts_by_eight:ML K ME "parts_by_eight"=Z (Z ↥f_parts_by_eight))
  (rQ:ML K ME "WAYS"=Z (Z ↥wM))
  (so:K.lookup wM=Z ⟨.type "dict",none,.dict rZ ac8,#[]⟩)
  (tZ:Xc w.params rZ.toList)
  (tJ:Tc (λ(e:OS) (p:Str×MF)=>∃ t,e.key=.str p.1 t/\e.val=↥p.2) rZ.toList [("four",fO),("eight",f_parts_by_eight)])
  (sj:(wM==Oe)=false)
  (z_k_ORDERS:ML K ME "ORDERS"=Z (Z ↥TA_ORDERS))
  (md:K.lookup TA_ORDERS=Z oTA_ORDERS)
  (mn:oTA_ORDERS.cls=.type "tuple"/\oTA_ORDERS.data=.seq iTA_ORDERS nTA_ORDERS/\iTA_ORDERS.size<=MO/\Ah [↥TA_ORDERS_0,↥TA_ORDERS_1,↥TA_ORDERS_2,↥TA_ORDERS_3,↥TA_ORDERS_4,↥TA_ORDERS_5] iTA_ORDERS.toList)
  (kt_ORDERS_0:K.lookup TA_ORDERS_0=Z oTA_ORDERS_0)
  (ku_ORDERS_0:oTA_ORDERS_0.cls=.type "tuple"/\oTA_ORDERS_0.data=.seq iTA_ORDERS_0 nTA_ORDERS_0/\iTA_ORDERS_0.size<=MO/\Ah ([0,1,2].map V.int) iTA_ORDERS_0.toList)
  (kt_ORDERS_1:K.lookup TA_ORDERS_1=Z oTA_ORDERS_1)
  (ku_ORDERS_1:oTA_ORDERS_1.cls=.type "tuple"/\oTA_ORDERS_1.data=.seq iTA_ORDERS_1 nTA_ORDERS_1/\iTA_ORDERS_1.size<=MO/\Ah ([0,2,1].map V.int) iTA_ORDERS_1.toList)
  (kt_ORDERS_2:K.lookup TA_ORDERS_2=Z oTA_ORDERS_2)
  (ku_ORDERS_2:oTA_ORDERS_2.cls=.type "tuple"/\oTA_ORDERS_2.data=.seq iTA_ORDERS_2 nTA_ORDERS_2/\iTA_ORDERS_2.size<=MO/\Ah ([1,0,2].map V.int) iTA_ORDERS_2.toList)
  (kt_ORDERS_3:K.lookup TA_ORDERS_3=Z oTA_ORDERS_3)
  (ku_ORDERS_3:oTA_ORDERS_3.cls=.type "tuple"/\oTA_ORDERS_3.data=.seq iTA_ORDERS_3 nTA_ORDERS_3/\iTA_ORDERS_3.size<=MO/\Ah ([1,2,0].map V.int) iTA_ORDERS_3.toList)
  (kt_ORDERS_4:K.lookup TA_ORDERS_4=Z oTA_ORDERS_4)
  (ku_ORDERS_4:oTA_ORDERS_4.cls=.type "tuple"/\oTA_ORDERS_4.data=.seq iTA_ORDERS_4 nTA_ORDERS_4/\iTA_ORDERS_4.size<=MO/\Ah ([2,0,1].map V.int) iTA_ORDERS_4.toList)
  (kt_ORDERS_5:K.lookup TA_ORDERS_5=Z oTA_ORDERS_5)
  (ku_ORDERS_5:oTA_ORDERS_5.cls=.type "tuple"/\oTA_ORDERS_5.data=.seq iTA_ORDERS_5 nTA_ORDERS_5/\iTA_ORDERS_5.size<=MO/\Ah ([2,1,0].map V.int) iTA_ORDERS_5.toList)
  (z_k_STEPS:ML K ME "STEPS"=Z (Z ↥TA_STEPS))
  (o_:K.lookup TA_STEPS=Z oTA_STEPS)
  (qc:oTA_STEPS.cls=.type "tuple"/\oTA_STEPS.data=.seq iTA_STEPS nTA_STEPS/\iTA_STEPS.size<=MO/\Ah [↥TA_STEPS_0,↥TA_STEPS_1,↥TA_STEPS_2] iTA_STEPS.toList)
  (kt_STEPS_0:K.lookup TA_STEPS_0=Z oTA_STEPS_0)
  (ku_STEPS_0:oTA_STEPS_0.cls=.type "tuple"/\oTA_STEPS_0.data=.seq iTA_STEPS_0 nTA_STEPS_0/\iTA_STEPS_0.size<=MO/\Ah ([1,0,0].map V.int) iTA_STEPS_0.toList)
  (kt_STEPS_1:K.lookup TA_STEPS_1=Z oTA_STEPS_1)
  (ku_STEPS_1:oTA_STEPS_1.cls=.type "tuple"/\oTA_STEPS_1.data=.seq iTA_STEPS_1 nTA_STEPS_1/\iTA_STEPS_1.size<=MO/\Ah ([0,1,0].map V.int) iTA_STEPS_1.toList)
  (kt_STEPS_2:K.lookup TA_STEPS_2=Z oTA_STEPS_2)
  (ku_STEPS_2:oTA_STEPS_2.cls=.type "tuple"/\oTA_STEPS_2.data=.seq iTA_STEPS_2 nTA_STEPS_2/\iTA_STEPS_2.size<=MO/\Ah ([0,0,1].map V.int) iTA_STEPS_2.toList)
  (nd_:[cD,im].Nodup)
  : ∃ (ts:X') (q:OQ),FM K i ts/\(∀ (s:Mt) (v:Mo),VI s q ⟨[v],[]⟩ [("_law_script",v)])/\∀ base:Oz,K.In base->base.Ns ME mg->Bw l.prog w K mg base (Fj l.prog w) 12 fa q uA5 (DF (ts.map (·.1)) K):=by
 have g:FM K i [("parts_by_four",cD),("rising",im)]:=⟨nd_,λp m=>by
  simp only[MA,MQ,Ob] at m;rcases m with rfl|rfl
  .show⟨fe,fv,abA df c_,aaE bM dJ rfl rfl df c_⟩
  .show⟨lK,mj,abA jH jF,aaE iF kY rfl rfl jH jF⟩⟩
 refine⟨[("parts_by_four",cD),("rising",im)],M5 "law" "law" (Ak CN) (Ai CN) (Ab CN) .none aeK aeG ae2 ae4 acb aeO,g,λs v=>.of_eq rfl,?_⟩;change ∀ base:Oz,K.In base->base.Ns ME mg->Bw l.prog w K mg base (Fj l.prog w) 12 fa _ uA5 (DF uC7 K);have e:=k.symm\Nn X G a_law;cases e;have o:AK K mg "share" Bp uA8 []:=ye (ds:=[]) nQ nF nE (Nn X G m_) nX nB .nil (λb f=>by obtain⟨_,_,rfl⟩:=ex2 (show ⇑b=2 by simpa using f);show⟨_,U,U⟩);have a:AK K mg "share" Bp uA8 [↑1]:=ye (ds:=[.int 1 abZ]) nQ nF nE (Nn X G m_) nX nB (.cons ⟨_,U⟩ (.nil)) (λb f=>by obtain⟨_,rfl⟩:=ex1 (show ⇑b=1 by simpa using f);show⟨_,U,U⟩);have y:Hs K mg "parts_by_four" AN uD6:=⟨vR dJ fN fQ (Nn X G bM) (λb f=>by obtain⟨_,_,rfl⟩:=ex2 f;show U),_,bM,Nn X G bM⟩
 have x:BU K mg "Grid" "worth" "Grid.worth" AH uB0 [] 2 0 [.str "four"]:=yL (t:=lJ) eV eh eE eW mi eK RB.x3 (Nn X G mi) fR (λb j d c=>by obtain⟨_,_,rfl⟩:=ex2 d;obtain rfl:=ex0 c;show⟨_,_,U,U⟩);have r:BU K mg "Grid" "worth" "Grid.worth" AH uB0 ["way"] 2 1 []:=kN eV eh eE eW mi eK RB.x3 (Nn X G mi) (λb j d c=>by obtain⟨_,_,rfl⟩:=ex2 d;obtain⟨_,rfl⟩:=ex1 c;show U);have n:Hs K mg "rising" B1 ["colours"]:=⟨vR kY pK pN (Nn X G iF) (λb f=>by obtain⟨_,rfl⟩:=ex1 f;show U),_,iF,Nn X G iF⟩
 have B:BU K mg "Ends" "__init__" "Ends.__init__" AD uA9 uC3 1 2 []:=kN eX eU eD eY tV d_ RB.xd (Nn X G tV) (λb j d c=>by obtain⟨_,rfl⟩:=ex1 d;obtain⟨_,_,rfl⟩:=ex2 c;show U);have A:BU K mg "SquareProfile" "__init__" "SquareProfile.__init__" Al uA2 uC9 3 1 []:=kN bX bU bT bR dH bV RB.xb (Nn X G dH) (λb j d c=>by obtain⟨_,_,_,rfl⟩:=ex3 d;obtain⟨_,rfl⟩:=ex1 c;show U);have z:BU K mg "GridProfile" "__init__" "GridProfile.__init__" Ap uA3 uC9 3 1 []:=kN cq cy cu cx fA cr RB.x9 (Nn X G fA) (λb j d c=>by obtain⟨_,_,_,rfl⟩:=ex3 d;obtain⟨_,rfl⟩:=ex1 c;show U);have u:KW K mg:=⟨⟨_,X,G⟩⟩
 have T:LM K mg w:=⟨RD,RM,RB.x6,RB.xd,RB.x3,RB.x9,RB.xb,⟨wM,Nn X G rQ,⟨rZ,ac8,so,tZ,uN tJ (.cons ⟨U,Nn X G bM⟩ (.cons ⟨U,Nn X G a_parts_by_eight⟩ (.nil)))⟩,sj⟩,mgI X G RG.xv,mgI X G RG.xw,mgI X G RG.xx,mgI X G RG.xy,mgI X G RG.xz,mgI X G RG.xj,mgI X G RG.x10,mgI X G RG.x11,mgI X G RG.xg,mgI X G RG.xk,RB.x12,RB.x13,RB.xl,⟨_,Nn X G z_k_ORDERS,[TA_ORDERS_0,TA_ORDERS_1,TA_ORDERS_2,TA_ORDERS_3,TA_ORDERS_4,TA_ORDERS_5],jx md mn,.cons (jx kt_ORDERS_0 ku_ORDERS_0) (.cons (jx kt_ORDERS_1 ku_ORDERS_1) (.cons (jx kt_ORDERS_2 ku_ORDERS_2) (.cons (jx kt_ORDERS_3 ku_ORDERS_3) (.cons (jx kt_ORDERS_4 ku_ORDERS_4) (.cons (jx kt_ORDERS_5 ku_ORDERS_5) (.nil))))))⟩,⟨_,Nn X G z_k_STEPS,[TA_STEPS_0,TA_STEPS_1,TA_STEPS_2],jx o_ qc,.cons (jx kt_STEPS_0 ku_STEPS_0) (.cons (jx kt_STEPS_1 ku_STEPS_1) (.cons (jx kt_STEPS_2 ku_STEPS_2) (.nil)))⟩,Nb X G RN.x14,Nb X G RN.xm,Nb X G RN.x8,Nb X G RN.xn,Nb X G RN.xo,Nb X G RN.xp,Nb X G RN.xq,Nb X G RN.x0,Nb X G RN.x4,Nb X G RN.xa,Nb X G RN.xr,Nb X G RN.xh,Nb X G RN.x1,Nb X G RN.xs,Nb X G RN.xf,Nb X G RN.x15,Nb X G RN.xi,Nb X G RN.x2,Nb X G RN.x7,RB.x5,o,a,y,x,n,B,A,z⟩
 intro base _ _;show aca ⟨l.prog,w,K,mg,base⟩ T _ _ (afq (st:=CN) l_law c_law k_law)
def walk {l:U_}{t:MY}{b:List Str}{q:(Str->Option Mo)->Oz->Prop}{c:Nr->Oz->Prop}{d:DefRec}{K:Params->KE} (n:l.most=Z 63) (g:d.params.defaults=[])
  {j:List MF}(m:∀ (w:Nr) (h:Oz),c w h->(K w.params).In h)(e:∀ (w:Nr) (h:Oz),c w h->∀ P∈j,h.get? P=Z { cls:=.none,data:=.fields #[] })
  (F:∀ (w:Nr) (mg:O') (fa:MF) (h:Oz),(K w.params).In h->h.Ns ME mg->mg d.name=Z ↥fa ->
   ∃ (ts:X') (i:OQ),FM (K w.params) j ts/\(∀ (s:Mt) (u:Mo),VI s i ⟨[u],[]⟩ [("_law_script",u)])/\∀ base:Oz,(K w.params).In base->base.Ns ME mg->Bw l.prog w (K w.params) mg base (Fj l.prog w) 12 fa i uA5 (DF (ts.map (·.1)) (K w.params))) :
  PySem.W.WalkO t b q c l.row.toRowW d [] (λf vs=>Xq f vs):=
 abE (k:=12) (x:="_law_script") (CX:=λw=>(Fj l.prog w)) (sp:=DF) n g ⟨U,O,O⟩ m e F (λ_ _ _ a ns r o p=>⟨a,ns,U,o,r,p,λ_=>rfl⟩) λ_ _ _ _ _ z=>am _ _ _ _ _ z
end TR
local macro_rules
 |`(command|abbrev $n:declId:=$s:str)=>do
  let mut a:Array Lean.Syntax:=#[]
  let mut d:=0
  let mut v:=0
  let mut i:=0
  for c in s.getString.toList do
   d:=d*90+(if c.toNat<92 then c.toNat-35 else c.toNat-36)
   i:=i+1
   if i%9==0 then
    v:=v+d
    d:=0
    a:=a.push (<-Lean.MonadRef.withRef .missing `(command|theorem $(Lean.mkIdent (n.raw[0].getId.str s!"tw{v}")):ident:True:=trivial))
  pure (Lean.mkNullNode a)
abbrev PySem.W.Fast:="#C;mU#9(m$9RX*5x<@&DGvN}^<(#CIup=Ji0$$`hui1cy#n}#^qO2q#7:mYWfUT)_XTZ@%xA$0_LAY'0y&-VSD6=aw.oXKU.m;w&0&FJ,w^`$cS>1lq{'%JF$Q]0`}#eMU.@>l?,ilr%,2`;.1M6CN;IV.l9J$Ml%d*D(E69dH^%?5MG[38I$&&B;fn${.yJXfc@=Y/Bf=kH2|e'7&xUi/W),[6y3nPm@/F|/RY-*O#@Q-rG`8x#@2(,zPR3$l7FW8(uo+$<MPUnJI#N/Kx6qXg%%<))-r8j*ya|m]<u0*iX]^zSnW%wN7kjMBP,:*4Fdm82'yH@ey{'C#ygF=dE$d'SsQzLE0]*q|3Ka[-b#It1w1TRz$4V_;s`2H)@|FYf(XU$>2-8ekhv%sGq0.P5^(At6-_b2i'#N%[MVdV%7Nc8@#}D0L,J`6coW)+>}Jdr<K$T+zA+?nb%8`RhML_E0m`lI%&&l)NXGt_F@v$:&#}qbeT4pNo,_s'M&,sHg-[cR#2fZ):VC3#yCfyb&}@%AM*^G&Wd#OGJ:ID/|)(>d8w>aU$&C6+d4#--$Ts>oVZ*%U]lYW|gl(Vq)=EF`F'n*dEN?j)#qj*:7mLt#GW5(lVoP6DXrTvme/(9q?QGOcK)HpyWZ-YG$X6I[kZFc,+RGSoX<:(UwOWcuBu$2wcXohDS#Nu]g^4OB%*$C.lG3W?|6xi]bcF$*NUJfB9-%I-(o*/pq0SmT-wag]#r[aqhqI0'6d1`s@EZ)*922^DMe#5#Bwbje(03U$mR:K0$#dg^9gys#,X,534X_#O9a]l%A'&cdn=b2[@%;][PR>BB$3`[lMu>b+BP{vf8bi&XgQ+YbH;+/W<::o_T%]'nrm;(s#_frbZE^s&&9u}<_sz4OcKaCr###]/jVJ[9&$wj9j0KAb*C<f47yTh'0`cCIZm<#ebYy8(<)(qzu%tR<]#d^&Lpp8B&[_{U#30p(wKHW:`m;)XAj|rSnl&Gk2]E3R5#E*gQJde*#7o.2E@OK88*559zVa09_B@:fx&1?3$vT@]%&i&uv$3.v$aoT5tIoF&__^nN;gv%USC4FY9w#<`s8/J$6*(xlDpw=t$3qyuRP`^%AIln:'1u+%ZpJ8DPs#,+A+n3Q9%V2X:^Bma#RBarc0&)%ncU8XpV$$G@Wuz2Ce$5@&#(:-L%=PJHp:W}#[2I220}1,dks=^qTa%p?zfCoW^.Ybn&+-I6#l`po17jt).S?yWT2m%>QZU^2Ya&YCPZ<Qmv,S+as3OrM(Oebd}j69&ZR@/^_Nm$-BhzbF(W.>S|n9?,C%?Uq0Vdbg((dgozbCk#.&ec4zwC%a'uu[&wh$*Nb>cwxY&9'[g-w#^&]e-Ayx$F$a-+lB{|?#FDwxgurk-{0BjK0E2%,;c&SI|G#t4-AGHRp#&Kucdu+d&W&40S0a?((/'S5}P9%c{ev3em8$yHH=4)sM#mFQoD[n%#.TDDj_LV&J}MIm(hr&PxtgzSPn#{-o#0`GB*emwhhjG3(5NN;;C.$'qt&b[oG8$kwD0(AU,$$9lbs,l4(pFjtw]mr)e4`=iOml#%h-,<|PS'KiKT69@/%}z%7-:bj#},)_x]Ih%{}Uk:F;z/]$8D`qNb#Y=,q(fqt$^R.Ga|ox%%<xqt[Xx,E,@vQi_^$TcI/N6_-(G.@/&{E6/|%+%<=?$,=1Lbh,E}(TX0A5o1W$GKQ8%or_$m#Zv2Id{&4,V(?krW$.[CVR5gM+y)zfcp]X#o&Z2<BWY%muwrI}-0#x<LN^{b5')BvQ>?yc#VKl?>Sn:#MaMon-|4,_ic`zSa8(j[.vm:kV&/DNjntR8$+r$|0E=3'a0g04-?6/SSS8]Ns>2c9(iwboP):VzF/>mU'AX$VCUO&#?3k`x#qz$(Gmk-`4]%r>5ODU'I7uGLUtgu$#g9<j9UBY$qmdQfP$N#Fz&h@z`U%)h_}b_G_+2ACjOhYu**^YcsI5U&DMEUq^,}'{)_lCJK<))w+hdAx0#$us6vPMz-aoMtF<Hr&iz[k1Z$v&gHa.Ayh4$I_3DL)Re(pCN1zfNp3Hk3M]^O]7N:L_iDxMA{+;td}k7&W5}tn?Q6;-{:_Ro%2%pwjSj{TT#Q6A9U`ZO%92zwHeqB'iKWqHTg6#wOQ03n=^#gy=GAyyP()R%?;XyK3t7VFf^i}$}Ot=]cQ[(z9=p+_r%-aP?vOSxs/P-86yFG%#Ro}mgj='%+B(HQ7aF(lLv,e_&M&BI]{=gOj#WFUbUQlB&*TB.oRmY&R&faCT9N*1|[HJ{i?*D7Em)u3I$|1H'7.gD#KU-3*;BL$25X<quHQ1m0,BXF3H'L0j=Xg2C&|,)IH?^l'Ig@X[ylt/y[}t^|js#$jGb(6H42]Wa1,STU)|IDZ*o..(Jfv7iEXm%(@|44)w#(M|]8qD}[$%ZO&bT<G,q.f)v>E7#6)R{0HBY#d)z;R9=t'*cY,Q88I$u6IW6*r8#TVx63GV:'}g.}admg&jrCz>r*L$T|;n{zS&#;yVl7VZX%$A4*AQi8&D$q*v?A{(&K=m}C|K(/nC/g=kF#Q&:#5%Qh#'f-dQPE+3/1%v/f2v#)Q^byc+C%H%l>9,;,%tB>n?^B|)Z^>KPZd*&XAY.Y4q#';p_6>A(*,$j5G}ULE$|Z7CY7hl&NGu%%W@v11o&)%g2,#;S5v./7m#yJUw`F#|#J$`cVO-Y&'JhoxJ'v$dw9hx2V|${OW?rR)R#fas1>^4<$rE2_PlK4-HZ)}Of_o$}`.Q7)`q&qo{62DcY%PK,9<[AQ*QFj-s9pW#;ka^yiUd&]brv$VS3&vebSh)O{$;juhwk4G4/-T*UbII-#?Rg+_J@&XCde[4Zv%aQAj/,LT$#Qj=]pxF&,wVET(TH*w6bO^tnE%fs/88-qe%McH#kiYO#/W,XD)a#&G)yd5wSq#Zi(kRyht,1UPJUW1q#rT8cp^xY&t2<S7G$/&'Lc=[rdN&*$7fQuEg#U/LL)m|W6&n4{WgCH1C6-sN(h]#lNn&;ZFi$+gtGR.1Z%V`]Ok>:=#pjac$m?2&hr]:^UKC$PtzRp.^K,9lFY}q*m$C'p$2Uu,#X8.Ma9zH$AJsiOUOV6;/8T]YkS((bYX)}?s%j`naUHRE&t;/gS9M>$4k_(+$3-#']2cdDY0$5S8H+MR5$SD^+fkWV)hg*C7gHF#{/QHfbFH%[:8'1d3A069LgZFw($&i0{c^=E#FLh8LV'`&U-s*q?{x%?f#,|K?[#iQN^W@_A(10rnmE8K+lLFYv5xH$2DHab5b;&8c.C2;?*&p#p6x'[c)<x6*m8*:'xaC_@q*`2t}Ka:?}i&2zJ]hJ`2,BGGtFBG6+?2&)ojZ6,C&[cZxXQ#7Q$m4{3?%;V7/z7Em#yw9z$6}_%rO`}zSD8%#q,4Mq8o%VMM}VX_T/`x^Bchau$?[|FQ4)t,U1QSY44d$LAErWa53'B'[tPwQW&*q`=xEa{&WTm4z-kH+7`W*4h=@&A;J$dW_6:(|'9_Obo%dr3$(v:i#.}TLn@yK+1eRO>JX8(**8/8lsE'j;mEcklq$<|T>)WVJ-Z3r;Y5i0$2foej?pn%D,ep[M%j&ibF(;Q?w#WtePq);['.#PZ*LIf#6+@T9mN_)><o$;+#c#=B@d)g-Y'ZrPq^ma)#0ym-e-G>,Wqh+4#mb%|WN$[xE['>D}Y.hpM$OtSg+/ti%A)?ce{`i-gVIe,vJy)x*nyVc8D'Px#WPz.u(>:}]ifK:#JhTb6'ku)6eW1jl%P'Qg9w$P.y+r/Q'Q2{?#]U']btx%);s$ValYR%DUfrA3ji%{{GIH/WX'?5EXCqL%$KWXA:as0'CJnHE47F%sif00DHR$&>|Pz:6l$o:XvfiW8$ZgE|${3?):^S0R?h)#'A+wM=mo)5*&CQ4J,#&{Ph|}``#{<7R+V2')4]oe$9nI(QUsk.2Qm$#NBqc921+T&[0|cdp%yLn;T1L1,;d_t*|?R'/KmKs#JX)4u#[^k['&Pa'SXN[+)JQ^1pBQw*^Qoaqx3}#c|II<}Qt/)ESKFcQ.'nDXNF]+3,TIBpd5sV&2-Z@3KA{$bH/r#fKA1k..-zGIL%w+e+qLQ4*EfZ;9^W&$-t(t.D'D,1CyXJwmy&`m(LZ_Cm(=MP./m=B#?]a,YnI|+BAa_RfUr%FwR,,^mY*;cbS.I.0*&i2Z4XB;#$,:t=C/.%Y0a<ay9].:W@6Vs0L,e=a=Qw}t&vg<S4YL;,n'.q)]|_'MMN?$_*a':+b>]371%bIh}=P*`$(:1nyCge%L.?i]qTN&[Ge0>ELX$;rpiefnP$ZggC6l2;*auMdJsp$#M|mmqP^P)6VRoKHp0*7*jkFN$U2(cC8$mBI#UkuX*&=2)aFnrCkr[-jrlH{h:=$eNnCz}..'$=@Q@)7{#)1|(rcqO%6Eh5us4K&JRY2;z>s'D,WGA2Gy$d>':Wl'/,?dnD6Clj%VRf]%|#J(w.,k?6-))lruU*u}s&>?>m7NJz#k#bD:Y=W)if5*mqZV'/_l<bgch#E:P%Pzlv$FWNP9>KQ$#2Lc5P,h#u'JJQBxN*+-'R.'wJ%,@Dix0Hh*7=iW(|yA3>c2f?urj#=}Ouji3%%->|4'X3n%[O7:ENWt%Vf_KnI}+8@Yn3MIw<9<_KobHhF$,`Zm[qo6$a6)xfl&A%Lrhmd`{+#,@$)q_OJ/M`AwNmu}*<n{};O_-05w/$/tj|=N1Lx?k/?&=lKy{rWB)kZj^DJ*C)WqMBv'f<.R>q-?L6I.;f9hN)C5%]<DZwi+z'AwLbPXAd0Sc}HAqsh#GnI_deAv#QbuZwoJ1%OUHezi2o&lVn8SM,c'U<[K<qE>#9d(8RUyU'[ML)*J8x-[76:*#'{.*urnUd#Z&VO{AUd)=#b2s$|w3w#$00p@l`+$XbMYtGMACZHV/m[9n&rGr-Ra.D$Iz>Rl$,_$=$H`NdCb;//kv;ep<&$vz_<*lO#,<n1Zk3E%EAC}^+g_']+5o]ja'$VNMpPRJ$,z2l3cP%C#-<wchrxC)EXp%#*Lp)pClqviI$%A}(u&EY2$$?:GA?S(38VA>0ym.&Y4Ku/yqz(SSXlw(6##G0Dn>w7939f0t2PO)$8J[a*>M8%HXrFYw@G'(sH;et>r9RnyKT$<T$q6V)=Wjy*mCn68rbG,(eQuf_Ww#{jQ[iqOL)}wx9if7*+)9IZTIUz%i7z:R`xx$41K@NL%E'ZC3A9x2N+%/)YW)cR'a;6Jk`Oj%dr:>]vN[')RTsbPon's9cs`^|u$xF|%s11h$%AA$/>VM#FfE_krIY3}05kYLg/,i_#uf>:n%sbS*5$qB$I%i}@4Ul$wYc14%;6#Vg;I?KM>-qw%Q&)pi&]2+MDe:k1SGE&hl^E&;[?H/izi'E$$V4=U'*'r32tEJG#?0TZ2D5c$,j|4YB-X'dwTuG@)6({iwE),Zr(<34,tYqf'+-/aXU@9$7hR4CFAc/7)|&h1,)+VUMaeBck%}wE[CVIy&v3aLAeee)Y/{n)N:[$mH#{<bj',wKX5:&SH'L`g4mo&<$VPr5L3<$'EH{E+<)r#Dy]IbBOS#R5YG8?Ug&M]|g);^N+[Jly;d5/%F#qWatlX2)Bh'J|dj#i;f4[[H3&;T4MUH6r'Q3vvZC6_$6BWA%QxY-fy0+']qQ'aR&WJ2jQ%LeTo?pp(&X]_(BhX)0VSBC<r2K%3-p$}Ot1'{0OLgIqC$[@&&6S|>+?`29S^Pa*HDlolB$j&A&L7Sz3V%:;'sjmxc$5@MHNZ*b(ELDV-b5V(S%9U)DOk#0qg{=:dR)LE`DZD$T$NfG<m+G%%A('3F<xk&{/P;:eDo*LV0Ep1Bp'aTbLQj./%ojDDB{dg(M5;W|.Py#DfAsi8X@&ziq_$%</+.%6p]p&p#fx>`=|Av%tb_[#em&&6VY|$9h.()5h+^K}X&HRz2w[K.#7L6rb?${#'9|gLnTE#OQ#Ktlp/(YH&gqq0D)*xjopz*:#58{y?f-i&d}+MsS+k1,sapN^vF+GD*ph}{l'iX6C=2T)4ryOG){v6$46_}X?L2%Ara7^(BU'&xC]Y&x',.aVy$/E_)J_rICoy8%_Cxy#']I.*y{A)HYo*ma:zDW:[#;yLj@cx8$iN$>G)L]#1tP3^Xpv*35N)^Wt+/U[sOh[|m%tP?JM7.{.FVWDB&QT/.6)i};k`%i|^(=MAU&gOHq84hu$IZ,;8H6^#eV/^1_UY$H-EpwBk00r+j%Z`kw#OjHH*BCw.=BUn;s06#`AA?Ng@n#da)Lu&kV#QT_>$yaa$ZMN}J@i0#{ANzC60,(+c0Nm0{N#D2(klEea':qrC[^[3$z4`:0KMM2Vq,o9:98#{eo{-jLw'4n)EAAI/#AWCeQ]io0MGEJ}W|$'qKvDM=WU&lP['d{1g*3VZ9ItAk#{`$[7(&j7+5I(//L,#g*>zLbT0+J<PNgN??%9]VK'AHK&`<2.B.=5*IXn`h6Hv#A[;&M':y'k5RfX'54$MH/]U-P_)..8eT`w`:N4SAM-35%edjyU%`p(y18&='rD&COIZVABh$^KM$%Yt7#[DI`O&VS$F'5Sn$=b&K$XsKN;P)oysM>'5D$th8{zBWM%UEHU^uWJA,bB}6Ev]'.8i(<?;L(KF%&uSvN$MW){|+^G-+w61a7H:'txAVWOV,(Ge[VY.$?'S/a_>'LD%u,qYIWE|%L+c%<p`9$|Ly9@>^?#6#h;D*=<$nQ-RRWJT#Ee}_UmO_#GpL25B.l&]}9`b%@C(8RG)+I59&/e9#I/@?)zeA|y&<`,OT$3nDGy#v+]x'/eG,=tk@Q&_%(]|<{{P6E#U1UxMy<o%7j/ORT)L%dKfE]gaK&Roo4%-_$+=#];+m%h#|Sj[*vqo)x#F1}$au#B[QVPEw_#OF$vVxgX*Jgi1D4^Y$JxM+TWq.2r:sF(h<E%,>n+>@uC%==u^h_xp#5H3Z:h8%+T5tD3:]Z$5x39)Xa|,gh-r6:<e$%7)&j[{>#gFYg]C1M$'?M3R;ml#9y<y,5+]'4UGXHMKK&Ej{PCx{_(pv3]GSgF*}60oO/[8#CM{Z;6Zo2</&hm?Dw($z8PDd2T$c&N:pV7|+;,n7<V;W&mxi?.,C0$o6rHpAXI'p$cLBe7O$]oTWguqs&x%n2CF<Y$(WqRAZH6&/_YOUg}?0x.%<0ryJ'34)kpNV,%/`o)lY:;#&NrX=&Uz-fH/crLpD&(Q88|[JF#$PzP2F(R&Y%WahO7D$Ol,FCx3*2/>t,eVps(Frv_%hyB'Zvhh[TEZ's8n]8kF(&;l(?;?CA+48W0uHk='Dvt9oB9^$)aSFZ0v|%KlXl+bgX0]$ln^Q$],V-_c]>[x&`p`m^US<$^Hk7}qU2#(/e,5{&V#td.<DSCT'njAf44Jt#cd),>-;`&BURvANv^$B#eH|JAW#d'k1iIZ0#h@2ALtlq$F1j6opO<#d@2y70ix*I:)Es9`Q({+d3ApO+$fxB2{y%0')$BW4)X>%Eu'kyStz=+Rrd.4WX$-weO6Cu5-`dE^(Abt&<Hmx.NU)&hRh5;7%q-f-6y>h%3%M]G9q8sj(^Q,e3(26'&f*6BN6=%FD]dh]&y&%Z5I9{7?%;^?I&N))*.`|d8HW_4kJ6Mpt}.#w@w5<B(&#d)uQx_Da(3&#1R'^h#MOTSlS$N+Mp],sp0p*7dT`]v$[#^2AGbM[e%/]Y<v5)H#>}E.g=X##LtRrs';4'fJqCIY2q'm}&&J^*b:,(R,+*_$;<1jXg`,?+*$.R5bU9)zqn#NsZ`$dNQ@j;b>%W*q6O7=2,W&+6L}Lr#%&u_xS'FA*S=WtZn`1bH,PNwLE#>Ao$6;ms#N_8v]Z/f-V9P{Fg]Z/NQdHY9tF&mX}JM:x{2=:_,dg`)#;/qWl[3-,PR+nt$s/#IX9hohw&(>IY@5)qg,tfcVjaB["
open PySem PySem.W PyProof.Rows
set_option maxRecDepth 100000 in
set_option maxHeartbeats 0 in
theorem PySem.Challenge.cw_tintroads_k20_whole_round_holds : PySem.Challenge.rw_tintroads_k20_whole_round.Holds := by
  w_on;o_law;k_head;(case hw=>w_witness2)
  k_fill
  refine TR.walk (l:=PySem.Challenge.rw_tintroads_k20_whole_round) U U (fun w h Y=>PySem.W.km_in_of Y) (fun w h Y=>PySem.W.km_tabs_of Y) ?F
  case F=>
    intro w mg fa h KX G hmg
    refine' TR.all_mk KX G hmg ?RN ?RG ?RB ?RD ?RM ?mi ?tV ?dH ?fA ?m_ ?nQ ?nF ?nE ?nX ?nB ?bM ?dJ ?fN ?fQ ?df ?c_ ?fv ?fe ?eK ?eV ?eh ?eE ?eW ?fR ?iF ?kY ?pK ?pN ?jH ?jF ?mj ?lK ?d_ ?eX ?eU ?eD ?eY ?bV ?bX ?bU ?bT ?bR ?cr ?cq ?cy ?cu ?cx ?a_law ?l_law ?c_law ?k_law ?a_parts_by_eight ?rQ ?so ?tZ ?tJ ?sj ?z_k_ORDERS ?md ?mn ?kt_ORDERS_0 ?ku_ORDERS_0 ?kt_ORDERS_1 ?ku_ORDERS_1 ?kt_ORDERS_2 ?ku_ORDERS_2 ?kt_ORDERS_3 ?ku_ORDERS_3 ?kt_ORDERS_4 ?ku_ORDERS_4 ?kt_ORDERS_5 ?ku_ORDERS_5 ?z_k_STEPS ?o_ ?qc ?kt_STEPS_0 ?ku_STEPS_0 ?kt_STEPS_1 ?ku_STEPS_1 ?kt_STEPS_2 ?ku_STEPS_2 ?nd_
    (case RN=>constructor <;> k_is)
    (case RG=>constructor <;> (refine' TR.gOf ?a;(case a=>k_is)))
    (case RB=>constructor <;> kernel_rfl)
    (case RD=>constructor <;> (refine' TR.AtD.of ?a ?b ?c ?d;(case a=>k_is);(case b=>k_is);(case c=>k_is);(case d=>k_is)))
    (case RM=>constructor <;> (refine' TR.AtM.of ?a ?b ?c ?d ?e ?f;(case a=>k_is);(case b=>k_is);(case c=>k_is);(case d=>k_is);(case e=>k_is);(case f=>k_is)))
    (case a_parts_by_eight=>k_is)
    (case mi=>k_is)
    (case tV=>k_is)
    (case dH=>k_is)
    (case fA=>k_is)
    (case m_=>k_is)
    (case nQ=>k_is)
    (case nF=>k_is)
    (case nE=>k_is)
    (case nX=>k_is)
    (case nB=>first | rfl | k_is)
    (case bM=>k_is)
    (case dJ=>k_is)
    (case fN=>k_is)
    (case fQ=>k_is)
    (case df=>k_is)
    (case c_=>show ⟨_,_,_,_,_,_,_,U,U,U,U,U,U,by decide⟩)
    (case fv=>kernel_rfl)
    (case fe=>decide)
    (case eK=>k_is)
    (case eV=>k_is)
    (case eh=>k_is)
    (case eE=>k_is)
    (case eW=>k_is)
    (case fR=>k_is)
    (case iF=>k_is)
    (case kY=>k_is)
    (case pK=>k_is)
    (case pN=>k_is)
    (case jH=>k_is)
    (case jF=>show ⟨_,_,_,_,_,_,_,U,U,U,U,U,U,by decide⟩)
    (case mj=>kernel_rfl)
    (case lK=>decide)
    (case d_=>k_is)
    (case eX=>k_is)
    (case eU=>k_is)
    (case eD=>k_is)
    (case eY=>k_is)
    (case bV=>k_is)
    (case bX=>k_is)
    (case bU=>k_is)
    (case bT=>k_is)
    (case bR=>k_is)
    (case cr=>k_is)
    (case cq=>k_is)
    (case cy=>k_is)
    (case cu=>k_is)
    (case cx=>k_is)
    (case a_law=>k_is)
    (case l_law=>k_is)
    (case c_law=>k_is)
    (case k_law=>k_is)
    (case rQ=>k_is)
    (case so=>k_is)
    (case tZ=>first | show ⟨⟨_,_,rfl,rfl⟩,⟨_,_,rfl,rfl⟩,trivial⟩ | (k_is;show ⟨⟨_,_,rfl,rfl⟩,⟨_,_,rfl,rfl⟩,trivial⟩))
    (case tJ=>show .cons ⟨_,U,U⟩ (.cons ⟨_,U,U⟩ (.nil)))
    (case sj=>first | rfl | decide)
    (case z_k_ORDERS=>k_is)
    (case md=>k_is)
    (case mn=>show ⟨U,U,by decide,.cons rfl (.cons rfl (.cons rfl (.cons rfl (.cons rfl (.cons rfl (.nil))))))⟩)
    (case kt_ORDERS_0=>k_is)
    (case ku_ORDERS_0=>show ⟨U,U,by decide,.cons ⟨_,U⟩ (.cons ⟨_,U⟩ (.cons ⟨_,U⟩ .nil))⟩)
    (case kt_ORDERS_1=>k_is)
    (case ku_ORDERS_1=>show ⟨U,U,by decide,.cons ⟨_,U⟩ (.cons ⟨_,U⟩ (.cons ⟨_,U⟩ .nil))⟩)
    (case kt_ORDERS_2=>k_is)
    (case ku_ORDERS_2=>show ⟨U,U,by decide,.cons ⟨_,U⟩ (.cons ⟨_,U⟩ (.cons ⟨_,U⟩ .nil))⟩)
    (case kt_ORDERS_3=>k_is)
    (case ku_ORDERS_3=>show ⟨U,U,by decide,.cons ⟨_,U⟩ (.cons ⟨_,U⟩ (.cons ⟨_,U⟩ .nil))⟩)
    (case kt_ORDERS_4=>k_is)
    (case ku_ORDERS_4=>show ⟨U,U,by decide,.cons ⟨_,U⟩ (.cons ⟨_,U⟩ (.cons ⟨_,U⟩ .nil))⟩)
    (case kt_ORDERS_5=>k_is)
    (case ku_ORDERS_5=>show ⟨U,U,by decide,.cons ⟨_,U⟩ (.cons ⟨_,U⟩ (.cons ⟨_,U⟩ .nil))⟩)
    (case z_k_STEPS=>k_is)
    (case o_=>k_is)
    (case qc=>show ⟨U,U,by decide,.cons rfl (.cons rfl (.cons rfl (.nil)))⟩)
    (case kt_STEPS_0=>k_is)
    (case ku_STEPS_0=>show ⟨U,U,by decide,.cons ⟨_,U⟩ (.cons ⟨_,U⟩ (.cons ⟨_,U⟩ .nil))⟩)
    (case kt_STEPS_1=>k_is)
    (case ku_STEPS_1=>show ⟨U,U,by decide,.cons ⟨_,U⟩ (.cons ⟨_,U⟩ (.cons ⟨_,U⟩ .nil))⟩)
    (case kt_STEPS_2=>k_is)
    (case ku_STEPS_2=>show ⟨U,U,by decide,.cons ⟨_,U⟩ (.cons ⟨_,U⟩ (.cons ⟨_,U⟩ .nil))⟩)
    (case nd_=>decide)
#print axioms PySem.Challenge.cw_tintroads_k20_whole_round_holds
