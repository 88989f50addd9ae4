import PyProof.Rows.All
import Wide.All
import OpenK.AllK
import Wide.FinOn
import Lean
import PyProof.EqAt
import PyProof.EqKinds
import PyProof.TupleCall
import KE.KTryMore
import PyProof.ExcAttrAll.ValueError
import PyProof.NsDelKeeps
import KE.KDictOf
import KE.KPairComp
import KE.KSortKey
import KE.KLam
import KE.KRevSl
import PyProof.ListRange
import KE.KSortTup
import KE.KDictSum
import KE.KIntText
import PySem.Challenge.RW_tintroads_k13_whole_ways_back
open PySem.W renaming Frag->HD,nsIn->Lv,fnOf->LG,findIn->LP,mg_none_of->LQ,keepIn->LR,codeIn->L8,mg_of->Mh,kas_rev->Mt,emptyDict->M',instObj->NS,kas_place->Oa,KasT->Og,isFn->Oh,kas_desc->Ov,cellsFrom_some->OA,kla_obj->OP,subIn->OV,kas_descPart->O5,kla_fn->O9,kas_sort->Ph,plainGet->Pj,callWith_K->PP,mroIn->PQ,hasDictIn->P9,specialIn->P_,CodeHd->Qf,kitOne->Qg,methodCall_KW->Qq,makesIn->QX,plainGet_of->QY,takesIn->QZ,lookIn->Rq,typeIn->Rr,kas_count->RA,kas_tail3->RC,methodObj->RE,plainOver->RF,OpenLaw->SN,isClsIn->SO,kas_asc->SQ,kas_bin->SR,takerIn->SU,kla_callFunE->Tj,kla_codeExpr->Tk,kitAny->Tp,Looks->T3,kitx_dict->Ut,kitx_list->Uu,handedIn->UW,KeysLit->U6,InstAt->Vd,tabObj->Ve
open PySem renaming wpAny_bind->KE,wpAny_pure->K7,Value->K9,Shared->K_,mainGlobals->Lf,Addr->Lg,wpAny->Lm,sizeLine->Ly,Program->Lz,model->LJ,starEach->LN,PyData->LU,World->LX,Around->L9,bootBuiltins->Me,wpAny_seqItems->Mi,wpAny_newObj_type->Ml,wpAny_callSpecial?_slot->Mo,wpAny_holding->Mp,wpAny_mono->Mq,wpAny_setField_rec->Mx,wpAny_call_entry->MG,sysModules->MJ,bindArgs->MM,foldedSetIterable->MQ,wpAny_dictEntries->MR,wpAny_truthy_bool->MS,FuncData->MW,wpAny_Call_Name_kw->MX,DictEntry->M0,codeAny_builtin->M2,wpAny_forIn_list->M4,wpAny_field->M7,wpAny_pyIter_list->Na,Heap->Ng,compareOp->Nj,sizeLine_eq->Nk,mem_of_lookup->Nn,Expr->Nq,wpAny_specialOf->NA,wpAny_typeNameOfWhole_itemiter->NB,wpAny_typeNameOfWhole_keyiter->NG,wpAny_loadName_local->NH,Stmt->NO,Builtin->NU,assignEach->NY,wpAny_isInstance->NZ,wpAny_pyIter_tuple->N1,wpAny_typeNameOf_itemiter->N3,wpAny_comprehension_free->Oc,wpAny_passesOwn->Od,wpAny_typeNameOf_keyiter->Oe,codeAny->Oo,plainId_quiet->Op,wpAny_letGo->Oq,wpAny_standAt->Os,carriedByValue->Oz,NameKind->OE,compEnvC->OH,tupleKeyHash->OQ,tupleKind->OR,wpAny_dictEpoch->OS,ofAClassStatement->OW,wpAny_attempt->OX,wpAny_rule->OY,wpAny_setState_of->OZ,lookup_relabel_local->O6,eval->O7,firstArgMember->Pb,Scope->Pq,codeAny_mono->Pu,pyNext->Pw,wpAny_Name->Px,Comprehension->Py,cellsFrom->PV,letOwnedTupleGo->PX,wpAny_isOneOf_itemiter->P2,IsItemIter->P4,builtinsNs->Qa,keywordEach->Qb,sliceBounds->Qc,wpAny_assign_Name->Qd,binaryOp->Qh,wpAny_setField->Qi,wpAny_tryCatch->Qj,codeAmong->Qs,isSubtype_tuple_tuple->Qt,wpAny_notOrdered_dict->Qu,wpAny_storeName_local->Qv,backTo->QC,rawInt->QD,wpAny_newFunctionEnv->QE,wpAny_updateSeq_pair->QF,KeyKind->QL,IsTupleKey->QN,wpAny_call->QO,argBest->Q1,swapsWith->Q2,wpAny_execs_nil->Q4,wpAny_loadName_free->Q5,Paired->Ra,intItems->Rh,wpAny_tupleItemsOf->Ri,Keyword->Rm,newFunctionEnv->Rs,wpAny_binaryOp_repeat_ref->Rt,wpAny_fieldsOf->Ru,call_meets->RK,SetTable->RZ,attributeBase->R1,behindInMarks->R5,hashByValue->R6,setSearchFrom->R8,wpAny_newList->R9,wpAny_of_eq->R_,wpAny_onRaise->Sa,IsPair->Se,codeAny_compStart_list->Ss,wpAny_Assign_Subscript->Sv,wpAny_pyNext_list_item->Sw,codeAny_of_tree->SW,pushCells_keeps->SY,seqItems?->SZ,size_of_entries->S0,wpAny_updateSeq->S4,backToKw->S7,entryOfKey->S8,isInstance->S_,typeIs_int->Ta,isSubtype_stop->Tq,wpAny_newTuple->Tr,BindsTo->Tu,standAt->TL,Arguments->TM,IsItemIterOut->TW,TriplesOk->T8,assignInOrder->T9,eval_ListComp->T_,rangeSize_one->Ua,wpAny_handled->Uc,getItem->Uz,numAt->UA,valueAt->UB,Within->UP,pyIter->UR,seqSlot_of->UX,HeapKind->UZ,Result->U7,argsOk->U9,callerA->U',IsZip->Va,atKey->Vf,call->Vh
open PySem.Heap renaming get?_push_of_some->K6,lt_size->Lb,get?_push_size->Ld,size_push->Mw,SameBut->Mz,get?_update_self->MN,get?_update_other->MY,ExtBut->RQ,IsTuple->Sz,get?_none_of_le->Te,IsList->Tx,get?_push_ne->Ug
open Option.some renaming inj->K8
open List renaming length_map->K',mem_cons_of_mem->Le,size_toArray->Lh,getElem?_map->Lk,getElem?_eq_some_iff->Ll,mem_cons->Ln,mem_singleton->Lo,mem_of_getElem?->Lq,mem_cons_self->Lr,mem_append_right->Lu,map_cons->LA,length_append->LC,replicate->LD,not_mem_nil->LF,take_of_length_le->LI,length_cons->LK,getElem?_eq_getElem->LS,range->L0,length_take->L5,mem_map->Md,map_append->Mg,lookup_cons->Mj,mem_append->Mm,all_eq_true->MF,getElem?_append_right->MT,mem_range->M1,mem_append_left->Nl,getElem?_append_left->Nr,find?_cons->Nv,nodup_cons->Nw,map_map->NK,map_nil->NL,append_assoc->NN,replicate_succ->NR,getD_eq_getElem?_getD->NW,length_range->N7,range_succ->N8,flatMap_append->Oi,mem_flatMap->Ot,mem_filterMap->OD,zipWith->OO,flatten_cons->OT,any_eq_true->Pe,take_length->Pf,getElem_of_mem->Po,lookup->Pp,append_nil->PJ,getElem?_replicate->PL,zipWith_cons_cons->P0,Nodup->P6,length->P7,eq_nil_iff_forall_not_mem->Qm,length_singleton->Qn,zipWith_nil_left->Qo,getElem?_zipWith_eq_some->Qy,getElem_mem->Qz,any_cons->QJ,sum_cons->QK,filterMap_cons->QS,foldl_cons->QT,length_nil->QU,length_set->QV,toList_toArray->QW,pairwise_cons->Q8,toArray->Q9,drop_eq_getElem_cons->Rn,getElem?_zip_eq_some->Ro,pairwise_iff_getElem->Rp,filterMap_cons_some->Ry,all_cons->RS,length_eq_zero_iff->RT,cons_append->Sf,drop_of_length_le->So,getElem?_set_self->Sq,forIn_cons->SD,getElem?_toArray->SE,length_replicate->SF,of_mem_zip->SG,sum_nil->SH,getElem?_of_mem->Tf,getElem?_set_ne->Tg,forIn_nil->Tn,length_pos_iff->TC,map_congr_left->TD,filterMap_map->TX,find?_toArray->TY,any_eq_false->Uj,flatMap_cons->Uk,foldl_append->Ul,nodup_append->Um,push_toArray->Uo,take_sublist->Uq,all_nil->UJ,any_map->UK,foldl->Vg
open Nat renaming le_refl->Lc,ne_of_lt->Lp,lt_of_lt_of_le->Ls,le_trans->LM,zero_le->LY,lt_irrefl->L7,lt_succ_of_lt->Mr,zero_add->MA,not_lt->MZ,lt_of_le_of_lt->Nh,le_of_lt->Nx,ne_of_gt->Ny,add_zero->NM,add_assoc->Ol,pow_le_pow_left->Om,lt_succ_self->Ou,le_add_right->Pg,le_of_succ_le->P8,pow_le_pow_right->QB,succ_mul->Q_,le_mul_of_pos_right->RV,add_comm->SI,eq_of_beq_eq_true->SJ,mul_comm->SK,pow_succ->SL,mul_le_mul->To,le_succ->TF,lt_two_pow_self->TH,le_of_eq->UL,lt_or_ge->UM,sub_self->UN,succ_add->UO,beq->U3,log2_lt->U4
open Bool renaming false_eq_true->Li,false_ne_true->LZ,and_eq_true->L4,not_true->MP,beq_eq_decide_eq->OJ,not_false->Qe,and_true->QG,false_and->Rj,true_and->RL,eq_iff_iff->Sx,or_eq_true->Sy,and_false->Tl,not_eq_true'->Ud
open Rat renaming intCast_mul->Lw,intCast_sub->Mn,intCast_add->MO,intCast_le_intCast->OB,le_of_mul_le_mul_right->O2,mul_le_mul_of_nonneg_right->Qr,mul_lt_mul_of_pos_right->Q0,div_mul_cancel->Rc,intCast_nonneg->Re,mul_div_cancel->T4,le_trans->UQ
open Option renaming map_eq_some_iff->Lx,isSome_iff_exists->M8,isSome_some->TZ,isSome_map->Ur,map->Us,getD_none->UV
open PySem.Value renaming ref->LH,none->Ma,isStrOf->N0,bool->Ox,type->Oy,int->PU,str->RI,float->U8
open Array renaming length_toList->LO,forIn_toList->ML,getD_eq_getD_getElem?->Nf,getElem?_eq_getElem->Np,getElem?_toList->Nt,getElem?_eq_some_iff->O0,perm_iff_toList_perm->O1,mem_toList_iff->O3,toArray_toList->O4,getElem?_eq_none->PZ,getD->S5,toList_append->Tt,toList_map->US
open PySem.SetTable renaming bits->LV,insertAt->M_,Probe->N2,runEnd->Ob,turns->Ow,sizeAbove->OF,grown->O_,leap->PR,fill->QM,fits->R0,has->SV,slot->T6,layClean->Uv,advance->UY,laid->Vi
open PySem.Builtin.SmallTypes renaming nextOf->L6,ownedTupleIsFree->M5,ownedTupleHandOut->O8
open PySem.AutoSeq1 renaming wpAny_loadPart'->L'
open PySem.NameKind renaming free->L_,cell->ME
open PySem.Heap.SameBut renaming update->Mc
open Int renaming mul_ne_zero->Mf,fdiv_eq_ediv_of_nonneg->MC,toNat_natCast->MI,gcd->MV,emod_lt_of_pos->NC,mul_nonneg->NJ,emod_nonneg->N5,mul_fdiv_cancel_left->N6,mul_le_mul_of_nonneg_right->Of,gcd_pos_of_ne_zero_right->OC,mul_comm->ON,eq_ofNat_of_zero_le->PF,mul_assoc->PH,zero_add->Q7,eq_of_mul_eq_mul_left->Rk,natAbs_mul->Rl,mul_left_comm->Rv,ofNat_ne_zero->Rx,ediv_nonneg->SA,natAbs_dvd_natAbs->SB,pow_succ->SC,gcd_zero_right->TV,gcd_comm->UF,le_of_lt->UG,le_trans->UH,zero_sub->UI,le_refl->U1,mul_neg->U2
open PySem.PassesOwn renaming never->Ms
open PySem.Str renaming ofString->MB
open PySem.Obj renaming mapSeq->MD,data_mapFields->PM,isFreed_of_fields->SM,putSet->S6,data_mapDictKeys->Th
open PySem.Builtin.Tuple renaming tupleHashOf->MH
open PySem.Around renaming under_plainId->MK,under->UC
open PyProof.Rows renaming seqObj->MU,callWith_type1->Ni,IntsAre->Nu,assignInOrder_cons->OG,callWith_builtin1->Qp,assign_Tuple_tuple->Rg,assignInOrder_nil->RJ,listUpdate_at->R7,envOfC->Sj,call_function_entry_kw->Sr,subscriptTail_builtinR->Su,get?_update_seq->SX,AllBare->Ts,mirror_size->TK,subscriptTail->Ub,Subscript_->Uw
open PySem.F renaming slot_dict_itemiterator_next->M3,slot_dict_keyiterator_next->Nc,slot_list_append->NI,slot_tuple_iterator_next->NV,plain_max_loop->NX,slot_tuple_hash->N4,type_list_append->N_,plainAttrs_list->On,called_set->OL,slot_int_rmul->PC,slot_tuple_eq->PD,slot_tuple_mul->P1,args_dict_itemiterator_next_1->P3,args_dict_keyiterator_next_1->Qk,entry_dict_itemiterator_next->Ql,entry_dict_keyiterator_next->Qw,args_tuple_iterator_next_1->QI,entry_tuple_iterator_next->QQ,slot_zip_next->QR,slot_dict_items->RX,slot_tuple_rmul->RY,entry_max_loop->Sb,slot_dict_iter->Sc,slot_dict_items_iter->Sn,args_int_rmul_2->Td,slot_list_lt->Ti,entry_int_rmul->Tv,slot_int_index->Tw,fills_int_mul->TU
open PySem.Builtin.Dict_items renaming ownsTuple->Nb,ownedTupleFields->Pl,ownedTupleIsFree->Pm,pairFromOwner->PY,newIterator->UD,dictOf->U_
open False renaming elim->Nm
open PySem.PyData renaming eqv->ND,int->N9,canLayAll0->OU,depthAll->PN,bool->TJ,eqvAll->T2
open Ne renaming symm->NF
open PyProof.Rows.KeyOrd renaming kle_refl->NQ,kle_of_klt->P5,kle_trans->Qx,kle_antisymm->Tz
open PySem.SetTable.layClean renaming free->NT
open PySem.MeetsSeq3 renaming plain_eq_loop->Oj,entry_eq_loop->RU
open PySem.Builtin.Dict renaming showsAll->OK,entriesForEmpty->QH,updateFrom->RO,mergeDict->Sk,quietEq->Tc
open ForInStep renaming yield->OM
open PySem.Builtin.Int renaming intBits->Pn
open PySem.Shared renaming heap->Pr,TypeIs->T7
open PySem.Builtin.List renaming listTooLong->Ps
open PyProof.Rows.F renaming plain_set_update_loop->Pz,entry_set_update_loop->RP
open Sum renaming inl->QA,inr->Ux
open PySem.Builtin.Builtins renaming bindParams->QP
open PySem.Calls renaming Name_function_global->Q6,callWith_builtin->Sl,spliced_cons->TN,spliced_nil->Ue
open PySem.W.Looks renaming here->Rb,ld->Sg
open PySem.SeqAt renaming shaped->Rf
open PyProof renaming noPylong_of_log2->Rz
open PySem.SetTable.probe renaming go->RH
open PySem.Paired renaming length->RW
open PySem.IntMulOk renaming of_bits->Sd,of_left->UU
open PySem.Code renaming quiet_builtin->TQ,isFrame->UE
open Or renaming inr->T0,inl->U5
open Prod.mk renaming injEq->T1
open PySem.ScopeKind renaming function->T5
open PySem.Heap.IsTuple renaming push->Uf
open List.Pairwise renaming map->Uh,nil->Ui
open PySem.Walks renaming list->Uy
open PySem.Heap.IsList renaming push->UT
open And renaming intro->U0
open List.Perm renaming cons->Vb,refl->Vc
abbrev Lj:=@decide_eq_true
abbrev LB:=@if_neg
abbrev LL:=@if_pos
abbrev LW:=@decide_eq_false
abbrev Mb:=@if_false
abbrev Mu:=@of_decide_eq_true
abbrev M6:=@beq_eq_false_iff_ne
abbrev Nd:=@or_false
abbrev No:=@decide_eq_true_eq
abbrev Nz:=@if_true
abbrev NE:=@congrArg
abbrev NP:=@beq_iff_eq
abbrev OI:=@of_decide_eq_false
abbrev Pk:=@beq_self_eq_true
abbrev Si:=@decide_eq_decide
set_option autoImplicit true
set_option relaxedAutoImplicit true
set_option Elab.async false
set_option linter.all false
set_option maxRecDepth 100000
namespace L2
open PySem PySem.Spec PyProof.Rows
abbrev eK:=Sum Int Str
def qX:eK->K9->Bool
 |.inl k,v=>Value.isInt k v
 |.inr x,v=>N0 x v
def JK (w:LX):eK->Int
 |.inl k=>hashInt k
 |.inr x=>hashStr w x
theorem b_:∀ {k:eK}{v:K9},qX k v=true->(∃ i t,k=QA i/\v=PU i t)\/(∃ x t,k=Ux x/\v=RI x t)
 |.inl i,v,h=>by
  obtain⟨t,e⟩:=Value.isInt_shape (k:=i) (v:=v) h;exact .inl ⟨i,t,rfl,e⟩
 |.inr x,v,h=>by
  obtain⟨t,e⟩:=Value.isStrOf_shape (x:=x) (v:=v) h;exact .inr ⟨x,t,rfl,e⟩
theorem AS (i:Int)(t:Tok):qX (.inl i) (.int i t)=true:=by simp[qX,Value.isInt]
theorem zx (x:Str)(t:Tok):qX (.inr x) (.str x t)=true:=by simp[qX,N0]
theorem GX (a b:Int):decide ((QA a:eK)=QA b)=(a==b):=by
 by_cases e:a=b
 ·subst e;simp
 ·have h:¬ (QA a:eK)=QA b:=λq=>e (Sum.inl.inj q)
  rw[LW h];exact(M6.mpr e).symm
theorem Hj (a b:Str):decide ((Ux a:eK)=Ux b)=decide (a=b):=by
 by_cases e:a=b
 ·subst e;simp
 ·have h:¬ (Ux a:eK)=Ux b:=λq=>e (Sum.inr.inj q)
  rw[LW h,LW e]
theorem F0 (a:Int)(b:Str):decide ((QA a:eK)=Ux b)=false:=LW (λq=>nomatch q)
theorem GS (a:Str)(b:Int):decide ((Ux a:eK)=QA b)=false:=LW (λq=>nomatch q)
def bh (prog:Lz)(w:LX):QL prog w eK where
 is:=qX
 hash:=JK w
 inj:=λv a b ha hb=>by
  rcases b_ ha with ⟨i,t,rfl,rfl⟩|⟨x,t,rfl,rfl⟩
  ·rcases b_ hb with ⟨j,u,rfl,e⟩|⟨y,u,rfl,e⟩
   ·injection e with e1 _;rw[e1]
   ·exact nomatch e
  ·rcases b_ hb with ⟨j,u,rfl,e⟩|⟨y,u,rfl,e⟩
   ·exact nomatch e
   ·injection e with e1 _;rw[e1]
 byValue:=λk v h=>by
  rcases b_ h with ⟨i,t,rfl,rfl⟩|⟨x,t,rfl,rfl⟩<;>rfl
 pyHash:=λhv h=>by
  rcases b_ hv with ⟨i,t,rfl,rfl⟩|⟨x,t,rfl,rfl⟩
  ·exact wpAny_pyHash_int h
  ·exact wpAny_pyHash_str h
 eqBool:=λhu hv h=>by
  rcases b_ hu with ⟨i,t,rfl,rfl⟩|⟨x,t,rfl,rfl⟩
  ·rcases b_ hv with ⟨j,u,rfl,rfl⟩|⟨y,u,rfl,rfl⟩
   ·rw[GX] at h;exact wpAny_eqBool_int h
   ·rw[F0] at h;exact SeqAt.EqAt.int_str i t y u _ _ _ _ h
  ·rcases b_ hv with ⟨j,u,rfl,rfl⟩|⟨y,u,rfl,rfl⟩
   ·rw[GS] at h;exact SeqAt.EqAt.str_int x t j u _ _ _ _ h
   ·rw[Hj] at h;exact wpAny_eqBool_str h
 «strs»:=λk x t v h=>by
  rcases b_ h with ⟨i,u,rfl,e⟩|⟨y,u,rfl,e⟩
  ·exact nomatch e
  ·injection e with e1 _
   subst e1;cases v<;>rfl
theorem vm (prog:Lz)(w:LX)(i:Int)(t:Tok):(bh prog w).is (.inl i) (.int i t)=true:=AS i t
theorem vS (prog:Lz)(w:LX)(x:Str)(t:Tok):(bh prog w).is (.inr x) (.str x t)=true:=zx x t
inductive V where
 |non|bl (b:Bool)|int (i:Int)|str (x:Str)|byt (b:Array UInt8)|flt (b:UInt64)|ref (a:Lg)|ty (n:String)
 deriving DecidableEq
def aY:V->K9->Prop
 |.non,u=>u=Ma
 |.bl b,u=>u=Ox b
 |.int i,u=>∃ t,u=PU i t
 |.str x,u=>∃ t,u=RI x t
 |.byt b,u=>∃ t,u=Value.bytes b t
 |.flt b,u=>∃ t,u=U8 b t
 |.ref a,u=>u=LH a
 |.ty n,u=>u=Oy n
abbrev aF:List V->List K9->Prop:=Ra aY
theorem aF.length (r:aF xs us):xs.length=us.length:=RW r
theorem aF.get:∀ {xs:List V}{us:List K9}{i:Nat}{x:V},aF xs us->xs[i]?=some x->∃ u,us[i]?=some u/\aY x u
 |_,_,_,_,.nil,e=>by simp at e
 |_,_,0,_,.cons r _,e=>by simp at e;subst e;exact⟨_,rfl,r⟩
 |_,_,i+1,x,.cons _ t,e=>by
  obtain⟨u,h1,h2⟩:=aF.get (i:=i) (x:=x) t (by simpa using e);exact⟨u,by simpa using h1,h2⟩
theorem aF.set (r:aY x u):∀ {xs:List V}{us:List K9} (i:Nat),aF xs us->aF (xs.set i x) (us.set i u)
 |_,_,_,.nil=>.nil
 |_,_,0,.cons _ t=>.cons r t
 |_,_,i+1,.cons q t=>.cons q (aF.set r i t)
theorem aF.append:∀ {xs ys:List V}{us ws:List K9},aF xs us->aF ys ws->aF (xs++ys) (us++ws)
 |_,_,_,_,.nil,s=>s
 |_,_,_,_,.cons r t,s=>.cons r (aF.append t s)
theorem aF.take:∀ {xs:List V}{us:List K9} (n:Nat),aF xs us->aF (xs.take n) (us.take n)
 |_,_,0,_=>.nil
 |_,_,_+1,.nil=>.nil
 |_,_,n+1,.cons r t=>.cons r (aF.take n t)
theorem aF.drop:∀ {xs:List V}{us:List K9} (n:Nat),aF xs us->aF (xs.drop n) (us.drop n)
 |_,_,0,r=>r
 |_,_,_+1,.nil=>.nil
 |_,_,n+1,.cons _ t=>aF.drop n t
def jL:Option V->Option K9->Prop
 |some v,some u=>aY v u
 |none,none=>True
 |_,_=>False
def KV {κ:Type}:List (κ×V)->List (κ×K9)->Prop:=Ra λ(p:κ×V) (q:κ×K9)=>p.1=q.1/\aY p.2 q.2
def kV:eK->V
 |.inl i=>.int i
 |.inr x=>.str x
inductive HO where
  |lst (xs:List V)
  |tup (xs:List V)
  |dK (kvs:List (eK×V))|dT (kvs:List (List eK×V))
  |set (S:Int->Bool) (n:Nat)
  |ins (C dx:Lg) (fs:List (Str×V))
  |own (x:Lg)
  |xd (fs:List (Str×V))
  |met (f x:Lg)
  |rng (lo hi:Int)
  |frz (o:Obj) (u:HO)
  |tbl (ps:Array K9)
  |ext (φ:Ng->Prop)
abbrev Hp:=Lg->Option HO
def upd (H:Hp)(a:Lg)(o:HO):Hp:=λb=>if b=a then some o else H b
theorem ae:upd H a o a=some o:=by unfold upd;rw[LL rfl]
theorem aq (h:b≠a):upd H a o b=H b:=by unfold upd;rw[LB h]
theorem FH {H:Hp}{a b:Lg}{o u:HO}(h:H a=some o)(h':H b=some u)(d:o≠u):a≠b:=by
 intro e;subst e;rw[h] at h';exact d (K8 h')
theorem aJ {H:Hp}{a b:Lg}{o:HO}(h:H a=some o)(h':H b=none):a≠b:=by
 intro e;subst e;rw[h] at h';cases h'
section
variable (P:Lz)(w:LX)
def bv (H:Hp)(h:Ng)(a:Lg):HO->Prop
 |.lst xs=>xs.length<=Ly/\∃ (its:List K9) (n:Nat),aF xs its/\h.get? a=some { cls:=.type "list",data:=.seq its.toArray n }
 |.tup xs=>xs.length<=Ly/\∃ its:List K9,aF xs its/\IsTup h a its.toArray
 |.dK kvs=>kvs.length<=Ly/\(a==MJ)=false/\∃ vs,KV kvs vs/\h.DictOf (bh P w) a vs
 | .dT kvs=>kvs.length <= Ly/\(a == MJ)=false/\∃ xs:List (List eK × Lg × K9),
   Ra (λ(p:List eK×V) (q:List eK×Lg×K9)=>p.1=q.1/\H q.2.1=some (.tup (p.1.map kV))/\aY p.2 q.2.2) kvs xs /\
   ∃ o es ep,h.get? a=some o/\o.ExactDict/\o.data=.dict es ep/\es.toList=xs.map (S8 (OR (bh P w)))/\(xs.map (·.1)).Nodup
 |.set S n=>h.SetOf (intKind P w) a S n
 | .ins C dx fs=>H dx=some (.own a)/\fs.length <= 1000/\dx ≠ a/\h.get? a=some (NS C dx) /\
   ∃ mA,h.Ns1 dx mA/\(∀ f,jL (fs.lookup f) (mA f))/\UP mA (fs.map (·.1))
 |.own _=>∃ o,h.get? a=some o
 |.xd fs=>∃ mA,h.Ns1 a mA/\∀ f,jL (fs.lookup f) (mA f)
 |.rng lo hi=>∃ t u v,h.get? a=some { cls:=.type "range",data:=.fields #[.int lo t,.int hi u,.int 1 v] }
 |.frz o u=>h.get? a=some o/\bv H h a u
 |.tbl qs=>∃ ps:Array K9,h.get? a=some { cls:=.none,data:=.fields ps }/\T8 ps.toList/\∃ (q:Str) (t:Nat),qs[0]?=some (.str q t)/\∀ pos cv,Qs pos ps.toList=some cv->∃ c o vs t',cv=.ref c/\H c=some (.own a)/\h.get? c=some o/\o.data=.fields vs/\vs[1]?=some (.str q t')
 |.met f x=>h.get? a=some (RE (.ref f) (.ref x))
 |.ext φ=>φ h/\(∃ o,h.get? a=some o)/\∀ h1 h2:Ng,φ h1->(∀ o,h1.get? a=some o->h2.get? a=some o)->φ h2
def jd (H:Hp)(h:Ng):Prop:=∀ a o,H a=some o->bv P w H h a o
end
section
variable {P:Lz}{w:LX}{H H':Hp}{h h':Ng}{a:Lg}{o:HO}
theorem bv.lt (x:bv P w H h a o):a<h.objs.size:=by
 cases o with
 |lst xs=>obtain⟨_,_,_,_,e⟩:=x;exact Lb e
 |tup xs=>obtain⟨_,_,_,p⟩:=x;exact p.lt
 |dK kvs=>obtain⟨_,_,_,_,o,_,_,e,_⟩:=x;exact Lb e
 |dT kvs=>obtain⟨_,_,_,_,o,_,_,e,_⟩:=x;exact Lb e
 |set S n=>obtain⟨o,_,_,_,e,_⟩:=x;exact Lb e
 |ins C dx fs=>obtain⟨_,_,_,e,_⟩:=x;exact Lb e
 |own y=>obtain⟨_,e⟩:=x;exact Lb e
 |xd fs=>obtain⟨_,⟨_,_,_,e,_⟩,_⟩:=x;exact Lb e
 |rng lo hi=>obtain⟨_,_,_,e⟩:=x;exact Lb e
 |frz ob u=>obtain⟨e,_⟩:=x;exact Lb e
 |tbl qs=>obtain⟨_,e,_⟩:=x;exact Lb e
 |met f y=>exact Lb (show h.get? a=some _ from x)
 |ext φ=>obtain⟨_,⟨_,e⟩,_⟩:=x;exact Lb e
theorem Paired.mapP:∀ {l₁:List α}{l₂:List β},Ra F l₁ l₂->(∀ a b,F a b->G a b)->Ra G l₁ l₂
 |_,_,.nil,_=>.nil
 |_,_,.cons r t,f=>.cons (f _ _ r) (Paired.mapP t f)
theorem bv.stay (x:bv P w H h a o) (k:∀ b u,(b=a\/H b=some (.own a))->h.get? b=some u->h'.get? b=some u)
  (ho:∀ b,H b=some (.own a)->H' b=some (.own a))(ht:∀ b xs,H b=some (.tup xs)->H' b=some (.tup xs)):bv P w H' h' a o:=by
 induction o with
 |lst xs=>obtain⟨z,its,n,r,e⟩:=x;exact⟨z,its,n,r,k _ _ (.inl rfl) e⟩
 |tup xs=>obtain⟨z,its,r,ob,e,c⟩:=x;exact⟨z,its,r,ob,k _ _ (.inl rfl) e,c⟩
 |dK kvs=>obtain⟨z,y,vs,r,ob,es,ep,e,c⟩:=x;exact⟨z,y,vs,r,ob,es,ep,k _ _ (.inl rfl) e,c⟩
 |dT kvs=>
  obtain⟨z,y,xs,r,ob,es,ep,e,c⟩:=x;exact⟨z,y,xs,Paired.mapP r λp q z=>⟨z.1,ht _ _ z.2.1,z.2.2⟩,ob,es,ep,k _ _ (.inl rfl) e,c⟩
 |set S n=>obtain⟨ob,es,ep,t,e,c⟩:=x;exact⟨ob,es,ep,t,k _ _ (.inl rfl) e,c⟩
 |ins C dx fs=>
  obtain⟨d,z,ne,e,mA,⟨od,es,ep,e2,c⟩,r⟩:=x;exact⟨ho _ d,z,ne,k _ _ (.inl rfl) e,mA,⟨od,es,ep,k _ _ (.inr d) e2,c⟩,r⟩
 |own y=>obtain⟨ob,e⟩:=x;exact⟨ob,k _ _ (.inl rfl) e⟩
 |xd fs=>obtain⟨mA,⟨od,es,ep,e,c⟩,r⟩:=x;exact⟨mA,⟨od,es,ep,k _ _ (.inl rfl) e,c⟩,r⟩
 |rng lo hi=>obtain⟨t,u,v,e⟩:=x;exact⟨t,u,v,k _ _ (.inl rfl) e⟩
 |frz ob u ih=>obtain⟨e,q⟩:=x;exact⟨k _ _ (.inl rfl) e,ih q⟩
 |tbl qs=>
  obtain⟨ps,e,tr,q,tq,e0,f⟩:=x;refine⟨ps,k _ _ (.inl rfl) e,tr,q,tq,e0,λpos cv z=>?_⟩;obtain⟨c,oc,vs,tc,z1,z2,z3,z4⟩:=f pos cv z;exact⟨c,oc,vs,tc,z1,ho _ z2,k _ _ (.inr z2) z3,z4⟩
 |met f y=>
  have e:h.get? a=some (RE (.ref f) (.ref y)):=x;show h'.get? a=some (RE (.ref f) (.ref y));exact k a _ (.inl rfl) e
 |ext φ=>obtain⟨p,⟨o,e⟩,st⟩:=x;exact⟨st _ _ p λo q=>k _ _ (.inl rfl) q,⟨o,k _ _ (.inl rfl) e⟩,st⟩
theorem jd.lt (x:jd P w H h)(e:H a=some o):a<h.objs.size:=(x a o e).lt
theorem jd.fresh (x:jd P w H h)(e:h.objs.size<=a):H a=none:=by
 cases q:H a with
 |none=>rfl
 |some u=>exact absurd (Ls (x.lt q) e) (L7 _)
theorem jd.kept (x:jd P w H h)(k:∀ b u,h.get? b=some u->h'.get? b=some u):jd P w H h':=λa o e=>
 (x a o e).stay (λb u _ q=>k b u q) (λ_ q=>q) λ_ _ q=>q
theorem jd.laid (x:jd P w H h)(k:∀ b u,h.get? b=some u->h'.get? b=some u)(hp:h.objs.size<=a)(new:bv P w (upd H a o) h' a o):jd P w (upd H a o) h':=λb u e=>by
 have hn:=x.fresh hp
 by_cases hb:b=a
 ·subst hb;rw[ae] at e;cases e;exact new
 ·rw[aq hb] at e;exact(x b u e).stay (λc v _ q=>k c v q) (λc q=>by rw[aq (aJ q hn)];exact q) λc xs q=>by rw[aq (aJ q hn)];exact q
end
def Rd (H:Hp)(a:Lg)(u:HO):Prop:=H a=some u\/∃ o,H a=some (.frz o u)
theorem Rd.ok (r:Rd H a u)(x:jd P w H h):bv P w H h a u:=by
 rcases r with r|⟨o,r⟩
 ·exact x a u r
 ·obtain⟨_,q⟩:=x a _ r;exact q
def Im:Option HO->Prop
 |some (.lst _)=>True
 |some (.dK _)=>True
 |some (.dT _)=>True
 |some (.set _ _)=>True
 |some (.ins _ _ _)=>True
 |some (.ext _)=>True
 |_=>False
section
variable {P:Lz}{w:LX}{H:Hp}{h h':Ng}{x e:Lg}{o':HO}
theorem jd.write (ok:jd P w H h) (mu:Im (H x)) (he:e=x\/H e=some (.own x)) (k:∀ b u,b ≠ e->h.get? b=some u->h'.get? b=some u) (heo:∃ u,h'.get? e=some u)
  (new:bv P w (upd H x o') h' x o'):jd P w (upd H x o') h':=λb u q=>by
 have nown:∀ c y,H c=some (.own y)->c≠x:=λc y r z=>by subst z;rw[r] at mu;exact mu
 have ntup:∀ c xs,H c=some (.tup xs)->c≠x:=λc xs r z=>by subst z;rw[r] at mu;exact mu
 by_cases hb:b=x
 ·subst hb;rw[ae] at q;cases q;exact new
 ·rw[aq hb] at q
  by_cases hbe:b=e
  ·have q':H b=some (.own x):=by
    rcases he with z|z
    ·exact absurd (hbe.trans z) hb
    ·rw[hbe];exact z
   rw[q] at q';cases q';obtain⟨v,hv⟩:=heo;exact⟨v,by rw[hbe];exact hv⟩
  ·refine(ok b u q).stay (λc v hc r=>k c v ?_ r) (λc r=>by rw[aq (nown c b r)];exact r) λc xs r=>by rw[aq (ntup c xs r)];exact r
   rcases hc with rfl|hc
   ·exact hbe
   ·rintro rfl;rcases he with z|z
    ·exact nown c b hc z
    ·rw[hc] at z;cases z;exact hb rfl
end
structure Un (fs ex:List Lg)(H H':Hp)(h h':Ng):Prop where
 keep:∀ b o,h.get? b=some o->H b=none->b∉fs->b∉ex->h'.get? b=some o
 slot:∀ b o,h.get? b=some o->H b=none->b∈fs->b∉ex->∃ sl,h'.get? b=some { o with slots:=sl }
 free:∀ b o,h.get? b=some o->H b=none->b∉ex->H' b=none
 there:∀ b o,h.get? b=some o->b∉ex->∃ o',h'.get? b=some o'
 tups:∀ b xs,H b=some (.tup xs)->H' b=some (.tup xs)
 frzs:∀ b o u,H b=some (.frz o u)->H' b=some (.frz o u)
 tbls:∀ b ps,H b=some (.tbl ps)->∃ more,H' b=some (.tbl (ps++more))
section
variable {fs fs' ex ex':List Lg}{H H1 H2:Hp}{h h1 h2 h':Ng}{a x e:Lg}{o:HO}
theorem Un.any (u:Un fs ex H H1 h h1)(q:h.get? b=some ob)(n:H b=none)(hx:b∉ex):∃ sl,h1.get? b=some { ob with slots:=sl }:=by
 by_cases hb:b∈fs
 ·exact u.slot b ob q n hb hx
 ·exact⟨ob.slots,u.keep b ob q n hb hx⟩
theorem Un.kept (k:∀ b u,h.get? b=some u->h'.get? b=some u):Un fs ex H H h h':=
 ⟨λb ob q _ _ _=>k b ob q,λb ob q _ _ _=>⟨ob.slots,k b ob q⟩,λ_ _ _ n _=>n,λb ob q _=>⟨ob,k b ob q⟩,λ_ _ q=>q,λ_ _ _ q=>q,λ_ ps q=>⟨#[],by rw[q];simp⟩⟩
theorem Un.refl:Un fs ex H H h h:=Un.kept λ_ _ q=>q
theorem Un.laid (k:∀ b u,h.get? b=some u->h'.get? b=some u)(hp:h.objs.size<=a)(hn:H a=none):Un fs ex H (upd H a o) h h' where
 keep:=λb u q _ _ _=>k b u q
 slot:=λb u q _ _ _=>⟨u.slots,k b u q⟩
 free:=λb u q n _=>by rw[aq (Lp (Ls (Lb q) hp))];exact n
 there:=λb u q _=>⟨u,k b u q⟩
 tups:=λb xs q=>by rw[aq (aJ q hn)];exact q
 frzs:=λb u xs q=>by rw[aq (aJ q hn)];exact q
 tbls:=λb ps q=>⟨#[],by rw[aq (aJ q hn),q];simp⟩
theorem Un.write (mu:Im (H x))(he:e=x\/H e=some (.own x))(k:∀ b u,b≠e->h.get? b=some u->h'.get? b=some u)(heo:∃ u,h'.get? e=some u):Un fs ex H (upd H x o) h h':=by
 have hx:∀ b,H b=none->b≠x:=λb n z=>by subst z;rw[n] at mu;exact mu
 have hb:∀ b,H b=none->b≠e:=λb n z=>by
  subst z;rcases he with r|r
  ·exact hx b n r
  ·rw[n] at r;cases r
 have hm:∀ b u,H b=some u->¬ Im (some u)->b≠x:=λb u q nm z=>by subst z;rw[q] at mu;exact nm mu
 refine⟨λb u q n _ _=>k b u (hb b n) q,λb u q n _ _=>⟨u.slots,k b u (hb b n) q⟩,λb u q n _=>by rw[aq (hx b n)];exact n,λb u q _=>?_,
  λb xs q=>by rw[aq (hm b _ q λz=>z)];exact q,λb u xs q=>by rw[aq (hm b _ q λz=>z)];exact q,λb ps q=>⟨#[],by rw[aq (hm b _ q λz=>z),q];simp⟩⟩
 by_cases hbe:b=e
 ·subst hbe;exact heo
 ·exact⟨u,k b u hbe q⟩
end
def Jv (h:Ng)(H:Hp):List Lg:=(L0 h.objs.size).filter λa=>(H a).isSome
def vx (h:Ng)(H:Hp):Ng:=PySem.W.hideAll h (Jv h H)
theorem A3 (h:Ng)(H:Hp):(vx h H).objs.size=h.objs.size:=PySem.W.hideAll_size _ _
theorem qh (e:h.get? b=some o)(n:H b=none):(vx h H).get? b=some o:=
 PySem.W.hideAll_get _ e λhm=>by
  have q:(H b).isSome=true:=(List.mem_filter.mp hm).2;rw[n] at q;simp at q
theorem Fj (e:(vx h H).get? b=some o):h.get? b=some o/\H b=none:=by
 have e':h.get? b=some o:=PySem.W.of_hideAll (Jv h H) e;refine⟨e',?_⟩;cases q:H b with
 |none=>rfl
 |some x=>
  have hm:b∈Jv h H:=List.mem_filter.mpr ⟨M1.mpr (Lb e'),by simp[q]⟩;have z:(vx h H).get? b=none:=PySem.W.hideAll_none (Jv h H) hm;rw[z] at e;cases e
def jB (g h:Ng)(L:Lg):List (Lg×Obj):=(L0 h.objs.size).filterMap λa=>if a=L\/(g.get? a).isSome=true then none else(h.get? a).map λo=>(a,o)
theorem uT (h1:a≠L)(h2:g.get? a=none)(h3:h.get? a=some o):(a,o)∈jB g h L:=
 OD.mpr ⟨a,M1.mpr (Lb h3),by simp[h1,h2,h3]⟩
theorem oX (hp:p∈jB g h L):p.1≠L/\g.get? p.1=none/\h.get? p.1=some p.2:=by
 obtain⟨b,_,e⟩:=OD.mp hp
 split at e
 ·cases e
 ·rename_i hn
  cases q:h.get? b with
  |none=>rw[q] at e;simp at e
  |some u=>
   rw[q] at e;simp only[Option.map_some,Option.some.injEq] at e;subst e;refine⟨λz=>hn (.inl z),?_,q⟩;show g.get? b=none;cases r:g.get? b with
   |none=>rfl
   |some v=>exact(hn (.inr (by simp[r]))).elim
def bA (g h:Ng)(L d:Lg):List (Lg×Obj):=(jB g h L).filter λp=>decide (p.1≠d)
theorem BY:News g L h (jB g h L):=λp hp=>let ⟨a,b,c⟩:=oX hp;⟨c,a,b⟩
structure Mod (K:HD)(mg:Str->Option K9)(base:Ng):Prop where
 kin:K.In base
 glob:base.Ns Lf mg
 blt:∃ mb,base.Ns Qa mb/\∀ x:Str,x≠"__name__"->mb x=Me x
 nolimit:base.NoLimit
 bm:∃ bm o,mg "__builtins__"=some (.ref bm)/\bm≠Qa/\base.get? bm=some o/\o.cls=.type "module"/\o.dict=some Qa/\o.data=.plain
structure Cx where
 prog:Lz
 w:LX
 K:HD
 mg:Str->Option K9
 base:Ng
 A:L9
 N:List Str
 s₀:K_
 H₀:Hp
 env:Env
 outer:List Env
 stack:List Env
 ex:List Lg
 fn:Str->Bool
 calm:Bool
 pn:List (Lg×Obj)
 xe:K9->K_->Prop
def v5 (l:List Env):List Lg:=l.filterMap (·.frame)
abbrev Cx.fs (X:Cx):List Lg:=v5 X.outer
def Ht (sc:Pq)(x:Str):Prop:=sc.names.lookup x=some .local\/sc.names.lookup x=some .cell\/sc.names.lookup x=some .free
def Hk (sc:Pq)(x:Str):Prop:=sc.names.lookup x=some .local\/sc.names.lookup x=some .cell
def J' (env:Env)(h:Ng)(m:Str->Option K9)(x:Str)(u:K9):Prop:=
 (env.kindOf x=some .local/\m x=some u)\/((env.kindOf x=some .cell\/env.kindOf x=some .free)/\∃ c,env.cells.lookup x=some c/\h.IsCell c (some u))
structure Cx.Ok (X:Cx):Prop where
 mod:Mod X.K X.mg X.base
 kind:X.env.scope.kind=.function
 glob:X.env.globals=Lf
 blt:X.env.builtins=Qa
 above:X.s₀.heap.objs.size<=X.env.locals
 inj:∀ x y c,X.env.cells.lookup x=some c->X.env.cells.lookup y=some c->x=y
 has:∀ x,(X.env.kindOf x=some .cell\/X.env.kindOf x=some .free)->∃ c,X.env.cells.lookup x=some c
 cab:∀ x c,X.fn x=true->X.env.cells.lookup x=some c->X.s₀.heap.objs.size<=c
 hd:X.calm=true->X.A.handled=none
 frames:X.A.frames=some X.stack
 stk:X.stack=X.outer\/(X.stack=X.env::X.outer/\X.env.frame=some X.env.locals)
 exf:∀ b∈X.ex,b≠X.env.locals/\∀ x c,X.env.cells.lookup x=some c->c≠b
 bs:∀ b o,X.base.get? b=some o->X.s₀.heap.get? b=some o/\X.H₀ b=none
 bsz:X.base.objs.size<=X.s₀.heap.objs.size
 noex:∀ b o,X.base.get? b=some o->b∉X.ex
 exfs:∀ b∈X.ex,b∉X.fs
 funs:X.s₀.heap.FunFrames X.base X.outer
 frf:∀ b∈X.fs,X.H₀ b=none
structure aD (X:Cx)(pins:List (Lg×Obj))(σ:List (Option V))(H:Hp)(s:K_):Prop where
 ok:X.Ok
 os:s.os=X.s₀.os
 bare:Ts s.gens
 base:Un X.fs X.ex X.H₀ H X.s₀.heap s.heap
 loc:∃ m,s.heap.Ns X.env.locals m/\∀ (i:Nat) (x:Str) (v:V),X.N[i]?=some x->σ[i]?=some (some v)->Ht X.env.scope x->∃ u,aY v u/\J' X.env s.heap m x u
 cell:∀ x c,X.env.cells.lookup x=some c->∃ v,s.heap.IsCell c v
 free:H X.env.locals=none
 freeC:∀ x c,X.env.cells.lookup x=some c->H c=none
 pin:∀ p∈X.pn++pins,s.heap.get? p.1=some p.2/\H p.1=none/\p.1≠X.env.locals/\p.1∉X.fs/\∀ v,p.2.data≠.cell v
 hok:jd X.prog X.w H s.heap
 len:σ.length=X.N.length
section
variable {X:Cx}{pins:List (Lg×Obj)}{σ:List (Option V)}{H H':Hp}{s:K_}{h':Ng}
theorem Cx.Ok.nofr (ok:X.Ok)(e:X.base.get? b=some o):b∉X.fs:=λhb=>by
 have:=(ok.funs.mem hb).1;rw[e] at this;cases this
theorem aD.bs (I:aD X pins σ H s):∀ b o,X.base.get? b=some o->s.heap.get? b=some o/\H b=none:=λb o e=>
 ⟨I.base.keep b o (I.ok.bs b o e).1 (I.ok.bs b o e).2 (I.ok.nofr e) (I.ok.noex b o e),I.base.free b o (I.ok.bs b o e).1 (I.ok.bs b o e).2 (I.ok.noex b o e)⟩
theorem aD.bk (I:aD X pins σ H s):∀ b o,X.base.get? b=some o->s.heap.get? b=some o:=λb o e=>(I.bs b o e).1
theorem aD.mod (I:aD X pins σ H s):Mod X.K X.mg X.base:=I.ok.mod
theorem aD.kIn (I:aD X pins σ H s):X.K.In s.heap:=I.ok.mod.kin.keeps I.bk
theorem aD.lt (I:aD X pins σ H s):X.env.locals<s.heap.objs.size:=let ⟨_,hn,_⟩:=I.loc;hn.lt
theorem aD.sz (I:aD X pins σ H s):X.s₀.heap.objs.size<=s.heap.objs.size:=LM I.ok.above (Nx I.lt)
theorem aD.nofs (I:aD X pins σ H s)(h:s.heap.objs.size<=a):a∉X.fs:=λhb=>by
 obtain⟨_,o,ho,_⟩:=I.ok.funs.mem hb;exact absurd (Ls (Lb ho) (LM I.sz h)) (L7 _)
theorem aD.cne (I:aD X pins σ H s):∀ x c,X.env.cells.lookup x=some c->c≠X.env.locals:=λx c e z=>by
 obtain⟨v,o,ho,hd⟩:=I.cell x c e;obtain⟨m,⟨o',es,ep,ho',hd',_⟩,_⟩:=I.loc;rw[z,ho'] at ho;cases ho;rw[hd'] at hd;cases hd
theorem aD.funs (I:aD X pins σ H s):s.heap.FunFrames X.base X.outer:=by
 have all:∀ (l:List Env),(∀ b∈v5 l,b∈X.fs)->X.s₀.heap.FunFrames X.base l->s.heap.FunFrames X.base l:=by
  intro l
  induction l with
  |nil=>intro _ _;trivial
  |cons env r ih=>
   intro hs hl;obtain⟨hk,⟨L,o,hf,hn,ho,hd⟩,hr⟩:=hl;have hL:L∈X.fs:=hs L (by unfold v5;rw[QS,hf];exact Lr);obtain⟨sl,e⟩:=I.base.slot L o ho (I.ok.frf L hL) hL λz=>I.ok.exfs L z hL
   exact⟨hk,⟨L,_,hf,hn,e,hd⟩,ih (λb hb=>hs b (by unfold v5;rw[QS,hf];exact Le _ hb)) hr⟩
 exact all X.outer (λ_ hb=>hb) I.ok.funs
theorem aD.stack (I:aD X pins σ H s):s.heap.FunFrames X.base X.stack:=by
 rcases I.ok.stk with e|⟨e,hf⟩
 ·rw[e];exact I.funs
 ·rw[e];obtain⟨m,hn,_⟩:=I.loc;refine .cons (by rw[I.ok.kind];decide) hf hn ?_ I.funs;exact Te (LM I.ok.bsz I.ok.above)
theorem aD.stkSub (I:aD X pins σ H s):∀ b∈v5 X.stack,b∈X.env.locals::X.fs:=λb hb=>by
 rcases I.ok.stk with e|⟨e,hf⟩
 ·rw[e] at hb;exact Le _ hb
 ·rw[e] at hb;unfold v5 at hb;rw[QS,hf] at hb;exact hb
theorem aD.stkFree (I:aD X pins σ H s):∀ b∈v5 X.stack,H b=none:=λb hb=>by
 rcases Ln.mp (I.stkSub b hb) with e|hb
 ·rw[e];exact I.free
 ·obtain⟨_,o,ho,_⟩:=I.ok.funs.mem hb;exact I.base.free b o ho (I.ok.frf b hb) λz=>I.ok.exfs b z hb
theorem aD.step {g':Array GenState}{t':Nat}{d':Drawn}{ch:List Lg} (I:aD X pins σ H s)
  (hch:∀ b∈ch,(b∈X.ex\/X.s₀.heap.objs.size<=b)/\b≠X.env.locals/\(∀ x c,X.env.cells.lookup x=some c->c≠b)/\∀ p∈X.pn++pins,p.1≠b)
  (keep:∀ b o,b≠X.env.locals->b∉X.fs->b∉ch->s.heap.get? b=some o->H b=none->h'.get? b=some o)
  (slot:∀ b o,b≠X.env.locals->b∈X.fs->b∉ch->s.heap.get? b=some o->H b=none->∃ sl,h'.get? b=some { o with slots:=sl })(free:∀ b o,b∉ch->s.heap.get? b=some o->H b=none->H' b=none)
  (there:∀ b o,b∉ch->s.heap.get? b=some o->∃ o',h'.get? b=some o')
  (tups:∀ b xs,H b=some (.tup xs)->H' b=some (.tup xs))(frzs:∀ b o u,H b=some (.frz o u)->H' b=some (.frz o u))(tbls:∀ b ps,H b=some (.tbl ps)->∃ more,H' b=some (.tbl (ps++more)))
  (ns:∀ m,s.heap.Ns X.env.locals m->h'.Ns X.env.locals m)(hok:jd X.prog X.w H' h')(hg:Ts g'):
  aD X pins σ H' { s with heap:=h',gens:=g',drawn:=d',toks:=t' }:=by
 have neL:∀ b o,X.s₀.heap.get? b=some o->b≠X.env.locals:=λb o e=>Lp (Ls (Lb e) I.ok.above)
 have neC:∀ b o,X.s₀.heap.get? b=some o->b∉X.ex->b∉ch:=λb o e hx hb=>by
  rcases(hch b hb).1 with z|z
  ·exact hx z
  ·exact absurd (Ls (Lb e) z) (L7 _)
 have cellK:∀ x c,X.env.cells.lookup x=some c->∀ v,s.heap.IsCell c v->h'.IsCell c v:=λx c e v ⟨o,ho,hd⟩=>by
  have nch:c∉ch:=λz=>(hch c z).2.2.1 x c e rfl
  by_cases hc:c∈X.fs
  ·obtain⟨sl,q⟩:=slot c o (I.cne x c e) hc nch ho (I.freeC x c e);exact⟨_,q,hd⟩
  ·exact⟨o,keep c o (I.cne x c e) hc nch ho (I.freeC x c e),hd⟩
 refine⟨I.ok,I.os,hg,⟨λb o e n hb hx=>?_,λb o e n hb hx=>?_,λb o e n hx=>?_,λb o e hx=>?_,λb xs e=>tups b xs (I.base.tups b xs e),λb o xs e=>frzs b o xs (I.base.frzs b o xs e),λb ps e=>?_⟩,?_,λx c e=>?_,?_,λx c e=>?_,λp hp=>?_,hok,I.len⟩
 ·exact keep b o (neL b o e) hb (neC b o e hx) (I.base.keep b o e n hb hx) (I.base.free b o e n hx)
 ·obtain⟨sl,e1⟩:=I.base.slot b o e n hb hx;obtain⟨sl',e2⟩:=slot b _ (neL b o e) hb (neC b o e hx) e1 (I.base.free b o e n hx);exact⟨sl',e2⟩
 ·obtain⟨o',e1⟩:=I.base.there b o e hx;exact free b o' (neC b o e hx) e1 (I.base.free b o e n hx)
 ·obtain⟨o',e1⟩:=I.base.there b o e hx;exact there b o' (neC b o e hx) e1
 ·obtain⟨m1,e1⟩:=I.base.tbls b ps e;obtain⟨m2,e2⟩:=tbls b _ e1;exact⟨m1++m2,by rw[e2,Array.append_assoc]⟩
 ·obtain⟨m,hn,hl⟩:=I.loc;refine⟨m,ns m hn,λi x v e1 e2 e3=>?_⟩;obtain⟨u,r,l⟩:=hl i x v e1 e2 e3;refine⟨u,r,?_⟩;rcases l with l|⟨k,c,e,z⟩
  ·exact .inl l
  ·exact .inr ⟨k,c,e,cellK x c e _ z⟩
 ·obtain⟨v,z⟩:=I.cell x c e;exact⟨v,cellK x c e v z⟩
 ·obtain⟨m,⟨o,_,_,ho,_⟩,_⟩:=I.loc;exact free _ o (λz=>(hch _ z).2.1 rfl) ho I.free
 ·obtain⟨v,o,ho,hd⟩:=I.cell x c e;exact free c o (λz=>(hch c z).2.2.1 x c e rfl) ho (I.freeC x c e)
 ·obtain⟨e,n,ne,nf,d⟩:=I.pin p hp;have nch:p.1∉ch:=λz=>(hch p.1 z).2.2.2 p hp rfl
  exact⟨keep p.1 p.2 ne nf nch e n,free p.1 p.2 nch e n,ne,nf,d⟩
theorem aD.un {t':Nat}(I:aD X pins σ H s)(u:Un X.fs [] H H' s.heap h')(hok:jd X.prog X.w H' h'):aD X pins σ H' { s with heap:=h',toks:=t' }:=by
 obtain⟨m,⟨o,es,ep,ho,r⟩,_⟩:=id I.loc;obtain⟨sl,hL⟩:=u.any ho I.free (by simp);exact I.step (g':=s.gens) (d':=s.drawn) (ch:=[]) (λ_ z=>nomatch z) (λb o _ hb _ e n=>u.keep b o e n hb (by simp)) (λb o _ hb _ e n=>u.slot b o e n hb (by simp)) (λb o _ e n=>u.free b o e n (by simp)) (λb o _ e=>u.there b o e (by simp)) u.tups u.frzs u.tbls (λm' hm=>by
  obtain⟨o',es',ep',ho',r'⟩:=hm;rw[ho] at ho';cases ho';exact⟨_,es',ep',hL,r'⟩) hok I.bare
theorem aD.call {g':Array GenState}{t':Nat}{d':Drawn}{ch:List Lg} (I:aD X pins σ H s) (u:Un (v5 X.stack) ch H H' s.heap h') (hok:jd X.prog X.w H' h') (hg:Ts g')
  (hch:∀ b∈ch,(b∈X.ex\/X.s₀.heap.objs.size<=b)/\b≠X.env.locals/\(∀ x c,X.env.cells.lookup x=some c->c≠b)/\∀ p∈X.pn++pins,p.1≠b):
  aD X pins σ H' { s with heap:=h',gens:=g',drawn:=d',toks:=t' }:=by
 obtain⟨m,⟨o,es,ep,ho,r⟩,_⟩:=id I.loc;obtain⟨sl,hL⟩:=u.any ho I.free λz=>(hch _ z).2.1 rfl
 exact I.step (ch:=ch) hch (λb o hL hb hc e n=>u.keep b o e n (λz=>(Ln.mp (I.stkSub b z)).elim hL hb) hc) (λb o _ _ hc e n=>u.any e n hc) (λb o hc e n=>u.free b o e n hc) (λb o hc e=>u.there b o e hc) u.tups u.frzs u.tbls (λm' hm=>by
  obtain⟨o',es',ep',ho',r'⟩:=hm;rw[ho] at ho';cases ho';exact⟨_,es',ep',hL,r'⟩) hok hg
theorem aD.turned {t':Nat}{it:Lg} (I:aD X pins σ H s) (k:∀ b o,b ≠ it->s.heap.get? b=some o->h'.get? b=some o) (hn:H it=none) (hL:it ≠ X.env.locals)
  (h1:it∈X.ex\/X.s₀.heap.objs.size<=it)(h2:∀ x c,X.env.cells.lookup x=some c->c≠it)(h3:∀ p∈X.pn++pins,p.1≠it):aD X pins σ H { s with heap:=h',toks:=t' }:=by
 have nit:∀ b u,H b=some u->b≠it:=λb u e z=>by rw[z,hn] at e;cases e
 refine I.step (g':=s.gens) (d':=s.drawn) (ch:=[it]) (λb hb=>?_) (λb o _ _ hc e _=>k b o (λz=>hc (by simp[z])) e) (λb o _ _ hc e _=>⟨o.slots,k b o (λz=>hc (by simp[z])) e⟩) (λ_ _ _ _ n=>n)
  (λb o hc e=>⟨o,k b o (λz=>hc (by simp[z])) e⟩) (λ_ _ e=>e) (λ_ _ _ e=>e) (λb ps e=>⟨#[],by rw[e];simp⟩) (λm hm=>?_) (λb u e=>?_) I.bare
 ·have e:b=it:=by simpa using hb
  subst e;exact⟨h1,hL,h2,h3⟩
 ·obtain⟨o,es,ep,ho,r⟩:=hm;exact⟨o,es,ep,k _ o (NF hL) ho,r⟩
 ·refine(I.hok b u e).stay (λc v hc q=>k c v ?_ q) (λ_ q=>q) λ_ _ q=>q
  rcases hc with z|z
  ·rw[z];exact nit b u e
  ·exact nit c _ z
theorem aD.tok (I:aD X pins σ H s)(t:Nat):aD X pins σ H { s with toks:=t }:=I.un (h':=s.heap) (t':=t) Un.refl I.hok
theorem aD.kept {t':Nat}(I:aD X pins σ H s)(k:∀ b u,s.heap.get? b=some u->h'.get? b=some u):aD X pins σ H { s with heap:=h',toks:=t' }:=I.un (Un.kept k) (I.hok.kept k)
theorem aD.laid {t':Nat} (I:aD X pins σ H s) (k:∀ b u,s.heap.get? b=some u->h'.get? b=some u) (hp:s.heap.objs.size <= a) (new:bv X.prog X.w (upd H a o) h' a o) :
  aD X pins σ (upd H a o) { s with heap:=h',toks:=t' }:=I.un (Un.laid k hp (I.hok.fresh hp)) (I.hok.laid k hp new)
theorem aD.write {t':Nat} (I:aD X pins σ H s) (mu:Im (H x)) (he:e=x\/H e=some (.own x)) (k:∀ b u,b ≠ e->s.heap.get? b=some u->h'.get? b=some u) (heo:∃ u,h'.get? e=some u)
  (new:bv X.prog X.w (upd H x o) h' x o):aD X pins σ (upd H x o) { s with heap:=h',toks:=t' }:=I.un (Un.write mu he k heo) (I.hok.write mu he k heo new)
theorem aD.pins_of (I:aD X pins σ H s)(h:∀ p∈pins',s.heap.get? p.1=some p.2/\H p.1=none/\p.1≠X.env.locals/\p.1∉X.fs/\∀ v,p.2.data≠.cell v):aD X pins' σ H s:=
 ⟨I.ok,I.os,I.bare,I.base,I.loc,I.cell,I.free,I.freeC,λp hp=>(Mm.mp hp).elim (λz=>I.pin p (Nl _ z)) (h p),I.hok,I.len⟩
theorem uX {N:List Str}(hN:N.Nodup){i j:Nat}{x:Str}(a:N[i]?=some x)(b:N[j]?=some x):i=j:=by
 obtain⟨h1,e1⟩:=Ll.mp a;obtain⟨h2,e2⟩:=Ll.mp b;exact(List.getElem_inj hN).mp (e1.trans e2.symm)
theorem qN {M:Model}{A:L9}{E:K9->K_->Prop}{i:Nat}{x:Str}{v:V}{u:K9}{Q:Unit->K_->Prop} (I:aD X pins σ H s) (hN:X.N.Nodup) (hi:X.N[i]?=some x) (hx:Hk X.env.scope x) (r:aY v u)
  (h:∀ s',aD X pins (σ.set i (some v)) H s'->(∃ a,Mz a s.heap s'.heap/\(a=X.env.locals\/X.env.cells.lookup x=some a))->Q () s')(hf:X.fn x=true\/X.env.scope.names.lookup x=some .local:=by first|exact .inl rfl|exact .inr rfl|assumption):Lm M A (storeName X.env x u) Q E s:=by
 obtain⟨m,hn,hl⟩:=id I.loc;have hcls:(X.env.scope.kind==.class||(X.env.scope.kind==.module&&X.env.locals != X.env.globals))=false:=by rw[I.ok.kind];rfl
 have hiσ:i<σ.length:=by rw[I.len];exact(Ll.mp hi).1
 have cne:=I.cne;have tracked:∀ {a:Lg}{h':Ng},(∃ o,s.heap.get? a=some o/\H a=none)->Mz a s.heap h'->jd X.prog X.w H h':=λ{a h'} ha hs b ob e=>by
  obtain⟨_,_,hfree⟩:=ha;refine(I.hok b ob e).stay (λc w' hc q=>(hs.2 c ?_).trans q) (λ_ q=>q) λ_ _ q=>q
  rintro rfl;rcases hc with rfl|hc
  ·rw[hfree] at e;cases e
  ·rw[hfree] at hc;cases hc
 rcases hx with hk|hk
 ·refine Qv hk hn (λh' hn' hs=>?_) hcls;obtain⟨oL,_,_,hoL,_⟩:=id hn;refine h _ ⟨I.ok,I.os,I.bare,⟨λb o e n hb hx=>?_,λb o e n hb hx=>?_,I.base.free,λb o e hx=>?_,I.base.tups,I.base.frzs,I.base.tbls⟩,⟨_,hn',λj y v' e1 e2 e3=>?_⟩,λy c e=>?_,I.free,I.freeC,λp hp=>?_,tracked ⟨oL,hoL,I.free⟩ hs,by simpa using I.len⟩ ⟨_,hs,.inl rfl⟩
  ·exact(hs.2 b (Lp (Ls (Lb e) I.ok.above))).trans (I.base.keep b o e n hb hx)
  ·obtain⟨sl,e1⟩:=I.base.slot b o e n hb hx;exact⟨sl,(hs.2 b (Lp (Ls (Lb e) I.ok.above))).trans e1⟩
  ·obtain⟨o',e1⟩:=I.base.there b o e hx;exact⟨o',(hs.2 b (Lp (Ls (Lb e) I.ok.above))).trans e1⟩
  ·by_cases hj:j=i
   ·subst hj;rw[hi] at e1;cases e1;rw[Sq hiσ] at e2;cases e2;exact⟨u,r,.inl ⟨hk,by simp⟩⟩
   ·rw[Tg (NF hj)] at e2;obtain⟨u',r',q⟩:=hl j y v' e1 e2 e3;refine⟨u',r',?_⟩;rcases q with ⟨k,e⟩|⟨k,c,e,z⟩
    ·refine .inl ⟨k,?_⟩;have:y≠x:=λe=>hj (uX hN e1 (e▸hi))
     simp[this,e]
    ·exact .inr ⟨k,c,e,z.sameBut hs (cne y c e)⟩
  ·obtain⟨w',z⟩:=I.cell y c e;exact⟨w',z.sameBut hs (cne y c e)⟩
  ·obtain⟨e,n,ne,nf,d⟩:=I.pin p hp;exact⟨(hs.2 p.1 ne).trans e,n,ne,nf,d⟩
 ·have hfn:X.fn x=true:=by
   rcases hf with z|z
   ·exact z
   ·rw[z] at hk;cases hk
  obtain⟨c,hc⟩:=I.ok.has x (.inl hk);obtain⟨w',z⟩:=I.cell x c hc;refine wpAny_storeName_cell I.ok.kind hk hc z (λh' hc' hs=>?_);obtain⟨oc,hoc,hocd⟩:=id z;refine h { s with heap:=h' } ⟨I.ok,I.os,I.bare,⟨λb o e n hb hx=>?_,λb o e n hb hx=>?_,I.base.free,λb o e hx=>?_,I.base.tups,I.base.frzs,I.base.tbls⟩,⟨m,hn.sameBut hs (NF (cne x c hc)),λj y v' e1 e2 e3=>?_⟩,λy c' e=>?_,I.free,I.freeC,λp hp=>?_,tracked ⟨oc,hoc,I.freeC x c hc⟩ hs,by simpa using I.len⟩ ⟨c,hs,.inr hc⟩
  ·exact(hs.2 b (Lp (Ls (Lb e) (I.ok.cab x c hfn hc)))).trans (I.base.keep b o e n hb hx)
  ·obtain⟨sl,e1⟩:=I.base.slot b o e n hb hx;exact⟨sl,(hs.2 b (Lp (Ls (Lb e) (I.ok.cab x c hfn hc)))).trans e1⟩
  ·obtain⟨o',e1⟩:=I.base.there b o e hx;exact⟨o',(hs.2 b (Lp (Ls (Lb e) (I.ok.cab x c hfn hc)))).trans e1⟩
  ·by_cases hj:j=i
   ·subst hj;rw[hi] at e1;cases e1;rw[Sq hiσ] at e2;cases e2;exact⟨u,r,.inr ⟨.inl hk,c,hc,hc'⟩⟩
   ·rw[Tg (NF hj)] at e2;obtain⟨u',r',q⟩:=hl j y v' e1 e2 e3;refine⟨u',r',?_⟩;rcases q with q|⟨k,c',e,z'⟩
    ·exact .inl q
    ·refine .inr ⟨k,c',e,z'.sameBut hs ?_⟩;rintro rfl;exact hj (uX hN e1 (I.ok.inj _ _ _ e hc▸hi))
  ·by_cases hcc:c'=c
   ·subst hcc;exact⟨_,hc'⟩
   ·obtain⟨w2,z2⟩:=I.cell y c' e;exact⟨w2,z2.sameBut hs hcc⟩
  ·obtain⟨e,n,ne,nf,d⟩:=I.pin p hp;refine⟨(hs.2 p.1 ?_).trans e,n,ne,nf,d⟩;intro q;rw[q,hoc] at e;have q':oc=p.2:=K8 e;exact d w' (by rw[<- q'];exact hocd)
theorem iR {i:Nat} (I:aD X pins σ H s) (hN:X.N.Nodup) (hi:X.N[i]?=some x) (hx:Hk X.env.scope x) (r:aY v u)
  (h:∀ s',aD X pins (σ.set i (some v)) H s'->Q () s')(hf:X.fn x=true\/X.env.scope.names.lookup x=some .local:=by first|exact .inl rfl|exact .inr rfl|assumption):Lm M A (storeName X.env x u) Q E s:=
 qN I hN hi hx r (λs' I' _=>h s' I') hf
theorem aD.call' (I:aD X pins σ H s) (ho:s'.os=s.os) (u:Un (v5 X.stack) ch H H' s.heap s'.heap) (hok:jd X.prog X.w H' s'.heap) (hg:Ts s'.gens)
  (hch:∀ b∈ch,(b∈X.ex\/X.s₀.heap.objs.size<=b)/\b≠X.env.locals/\(∀ x c,X.env.cells.lookup x=some c->c≠b)/\∀ p∈X.pn++pins,p.1≠b):aD X pins σ H' s':=by
 obtain⟨h',g',d',t',o'⟩:=s';have e:o'=s.os:=ho;subst e;exact I.call (g':=g') (t':=t') (d':=d') u hok hg hch
end
abbrev XK:=K9->Option Lg->Hp->Prop
abbrev St:=List (Option V)
abbrev VK:=V->Hp->Prop
abbrev TE:=St->Hp->VK->Prop
abbrev TT:=St->Hp->(Bool->Hp->Prop)->Prop
abbrev TA:=St->Hp->(List V->Hp->Prop)->Prop
structure qE where
 nx:St->Hp->Prop
 rt:VK
 bk:St->Hp->Prop:=λ_ _=>False
 ct:St->Hp->Prop:=λ_ _=>False
abbrev TS:=qE->St->Hp->Prop
def EP (X:Cx)(pins:List (Lg×Obj))(σ:St)(Q:VK)(u:K9)(s':K_):Prop:=∃ v H',aD X pins σ H' s'/\aY v u/\Q v H'
def TP (X:Cx)(pins:List (Lg×Obj))(σ:St)(Q:Bool->Hp->Prop)(b:Bool)(s':K_):Prop:=∃ H',aD X pins σ H' s'/\Q b H'
def AP (X:Cx)(pins:List (Lg×Obj))(σ:St)(Q:List V->Hp->Prop)(us:List K9)(s':K_):Prop:=∃ vs H',aD X pins σ H' s'/\aF vs us/\Q vs H'
def SP (X:Cx)(pins:List (Lg×Obj))(D:qE)(f:Flow)(s':K_):Prop:=
 match f with
 |.next=>∃ σ' H',aD X pins σ' H' s'/\D.nx σ' H'
 |.brk=>∃ σ' H',aD X pins σ' H' s'/\D.bk σ' H'
 |.cont=>∃ σ' H',aD X pins σ' H' s'/\D.ct σ' H'
 |.ret u=>∃ v σ' H',aD X pins σ' H' s'/\aY v u/\D.rt v H'
def PE (X:Cx)(e:Nq)(t:TE):Prop:=
 ∀ (pins:List (Lg×Obj)) (s:K_) (σ:St) (H:Hp) (Q:VK),aD X pins σ H s->t σ H Q->Lm (LJ X.prog X.w) X.A (O7 e X.env) (EP X pins σ Q) X.xe s
structure WE (X:Cx)(e:Nq)(t:TE):Prop where
 go:PE X e t
def PT (X:Cx)(e:Nq)(t:TT):Prop:=
 ∀ (pins:List (Lg×Obj)) (s:K_) (σ:St) (H:Hp) (Q:Bool->Hp->Prop),aD X pins σ H s->t σ H Q->Lm (LJ X.prog X.w) X.A (isTrue e X.env (O7 e X.env)) (TP X pins σ Q) X.xe s
structure WT (X:Cx)(e:Nq)(t:TT):Prop where
 go:PT X e t
def PW (X:Cx)(e:Nq)(t:TT):Prop:=
 ∀ (whole:Sem K9) (pins:List (Lg×Obj)) (s:K_) (σ:St) (H:Hp) (Q:Bool->Hp->Prop),aD X pins σ H s->t σ H Q->Lm (LJ X.prog X.w) X.A (isTrue e X.env whole) (TP X pins σ Q) X.xe s
structure WW (X:Cx)(e:Nq)(t:TT):Prop where
 go:PW X e t
theorem PW.pt (h:PW X e t):PT X e t:=h _
def PA (X:Cx)(es:List Nq)(t:TA):Prop:=
 ∀ (pos:Pos) (pins:List (Lg×Obj)) (s:K_) (σ:St) (H:Hp) (Q:List V->Hp->Prop),aD X pins σ H s->t σ H Q->Lm (LJ X.prog X.w) X.A (spliced (QC pos (LN es X.env))) (AP X pins σ Q) X.xe s
structure WA (X:Cx)(e:List Nq)(t:TA):Prop where
 go:PA X e t
def PS (X:Cx)(st:NO)(t:TS):Prop:=
 ∀ (pins:List (Lg×Obj)) (s:K_) (σ:St) (H:Hp) (D:qE),aD X pins σ H s->t D σ H->Lm (LJ X.prog X.w) X.A (exec st X.env) (SP X pins D) X.xe s
structure WS (X:Cx)(e:NO)(t:TS):Prop where
 go:PS X e t
def DT (X:Cx)(st:List NO)(t:TS):Prop:=
 ∀ (pins:List (Lg×Obj)) (s:K_) (σ:St) (H:Hp) (D:qE),aD X pins σ H s->t D σ H->Lm (LJ X.prog X.w) X.A (execs st X.env) (SP X pins D) X.xe s
structure cQ (X:Cx)(e:List NO)(t:TS):Prop where
 go:DT X e t
theorem bP (h:Lm M A t Q E s)(hQ:∀ a s,Q a s->Q' a s):Lm M A t Q' E s:=Mq h hQ λ_ _ x=>x
section
variable {X:Cx}
inductive E4 (i:Nat)(σ:St)(H:Hp)(Q:VK):Prop
 |mk (v:V) (_:σ[i]?=some (some v)) (_:Q v H)
def tC (v:V):TE:=λ_ H Q=>Q v H
theorem G6 {i:Nat}(hN:X.N[i]?=some x)(hv:Ht X.env.scope x)(hd:(x==("__debug__":Str))=false:=by decide)(hcd:(x==("__classdict__":Str))=false:=by decide):PE X (.Name x pos) (E4 i):=by
 intro pins s σ H Q I h;obtain⟨v,e,h⟩:=h;obtain⟨m,hn,hl⟩:=I.loc;obtain⟨u,r,l⟩:=hl i x v hN e hv;have fin:EP X pins σ Q u s:=⟨v,H,I,r,h⟩
 rcases l with ⟨hk,hm⟩|⟨hk,c,hc,hcell⟩
 ·exact Px (NH I.ok.kind hk hn hm fin) hd
 ·rcases hk with hk|hk
  ·exact Px (wpAny_loadName_cell I.ok.kind hk hc hcell fin) hd
  ·exact Px (Q5 I.ok.kind hk hc hcell fin hcd) hd
theorem aa {i j pos}:WE X (.Constant (.int i) j pos) (tC (.int i)):=by
 exact⟨λ_ _ _ H _ I h=>wpAny_Constant_int ⟨.int i,H,I.tok _,⟨_,rfl⟩,h⟩⟩
theorem eX {b j pos}:WE X (.Constant (.bool b) j pos) (tC (.bl b)):=by
 exact⟨λ_ _ _ H _ I h=>Constant_bool ⟨.bl b,H,I,rfl,h⟩⟩
theorem rL {j pos}:WE X (.Constant .none j pos) (tC .non):=by
 exact⟨λ_ _ _ H _ I h=>Constant_none ⟨.non,H,I,rfl,h⟩⟩
def Gl (X:Cx)(x:Str):Prop:=X.env.kindOf x=some .globalImplicit
theorem jC (I:aD X pins σ H s) (hg:Gl X x) (hm:X.mg x=some u) (h:Q u s)
  (hd:(x==("__debug__":Str))=false:=by decide):Lm (LJ X.prog X.w) X.A (O7 (.Name x pos) X.env) Q E s:=
 Q6 I.ok.kind hg (Calls.loadGlobal_global (by rw[I.ok.glob];exact I.mod.glob.keeps I.bk) hm h) hd
theorem fW (I:aD X pins σ H s) (hg:Gl X x) (hm:X.mg x=none) (hv:Me x=some u) (h:Q u s)
  (hn:x≠"__name__":=by decide)(hd:(x==("__debug__":Str))=false:=by decide):Lm (LJ X.prog X.w) X.A (O7 (.Name x pos) X.env) Q E s:=by
 obtain⟨mb,h1,h2⟩:=I.mod.blt;exact Q6 I.ok.kind hg (Calls.loadGlobal_builtin (by rw[I.ok.glob];exact I.mod.glob.keeps I.bk) hm (by rw[I.ok.blt];exact h1.keeps I.bk) ((h2 x hn).trans hv) h) hd
theorem EM (hg:Gl X x)(hm:X.mg x=some u)(r:aY v u)(hd:(x==("__debug__":Str))=false:=by decide):PE X (.Name x pos) (tC v):=
 λ_ _ _ H _ I h=>jC I hg hm ⟨v,H,I,r,h⟩ hd
theorem bJ (hg:Gl X x)(hm:X.mg x=none)(hv:Me x=some u)(r:aY v u)(hn:x≠"__name__":=by decide)(hd:(x==("__debug__":Str))=false:=by decide):WE X (.Name x pos) (tC v):=by
 exact⟨λ_ _ _ H _ I h=>fW I hg hm hv ⟨v,H,I,r,h⟩ hn hd⟩
variable {a b:Nq}{ta tb:TE}{pos:Pos}
inductive KF (x:V)(H:Hp)(Q:Bool->Hp->Prop):Prop
 |mk (c:Bool) (_:x=.bl c) (_:Q c H)
def tB (t:TE):TT:=λσ H Q=>t σ H λx H1=>KF x H1 Q
theorem bg (h:WE X e t)(he:∀ whole,isTrue e X.env whole=(do let v <- whole;TL e.pos;holding [v] (truthy v)):=by intro _;rfl):WT X e (tB t):=by
 have h:=h.go;refine⟨?_⟩;intro pins s σ H Q I hw;refine isTrue_plain (bP (h pins s σ H _ I hw) λv s1 ⟨x,H1,I1,r1,q1⟩=>?_) (he _);obtain⟨d,rfl,q⟩:=q1;cases r1;exact MS ⟨H1,I1,q⟩
variable {tA tB':TT}{bA:List Nq}
def Kd (t u:TT):TT:=λσ H Q=>t σ H λc H1=>if c=true then u σ H1 Q else Q false H1
def K4 (t u:TT):TT:=λσ H Q=>t σ H λc H1=>if c=true then Q true H1 else u σ H1 Q
def Km (t:TT):TT:=λσ H Q=>t σ H λc H1=>Q (!c) H1
theorem vj (ha:WT X a tA):WW X (.BoolOp .And [a] pos) tA:=by
 have ha:=ha.go;refine⟨?_⟩;intro wh pins s σ H Q I h;refine isTrue_and (bP (ha pins s σ H Q I h) λc s1 e=>?_);cases c with
 |true=>exact isTrue_and_nil e
 |false=>exact e
theorem eO (ha:WT X a tA):WW X (.BoolOp .Or [a] pos) tA:=by
 have ha:=ha.go;refine⟨?_⟩;intro wh pins s σ H Q I h;refine isTrue_or (bP (ha pins s σ H Q I h) λc s1 e=>?_);cases c with
 |false=>exact isTrue_or_nil e
 |true=>exact e
theorem ny (ha:WT X a tA)(hb:WW X (.BoolOp .And (b::bA) pos) tB'):WW X (.BoolOp .And (a::b::bA) pos) (Kd tA tB'):=by
 have ha:=ha.go;have hb:=hb.go;refine⟨?_⟩;intro wh pins s σ H Q I h;refine isTrue_and (bP (ha pins s σ H _ I h) λc s1 ⟨H1,I1,q1⟩=>?_);cases c with
 |true=>exact hb wh pins s1 σ H1 Q I1 q1
 |false=>exact⟨H1,I1,q1⟩
theorem eG (ha:WT X a tA)(hb:WW X (.BoolOp .Or (b::bA) pos) tB'):WW X (.BoolOp .Or (a::b::bA) pos) (K4 tA tB'):=by
 have ha:=ha.go;have hb:=hb.go;refine⟨?_⟩;intro wh pins s σ H Q I h;refine isTrue_or (bP (ha pins s σ H _ I h) λc s1 ⟨H1,I1,q1⟩=>?_);cases c with
 |true=>exact⟨H1,I1,q1⟩
 |false=>exact hb wh pins s1 σ H1 Q I1 q1
theorem a_ (ha:WT X a tA):WT X (.UnaryOp .Not a pos) (Km tA):=by
 have ha:=ha.go;refine⟨?_⟩;intro pins s σ H Q I h;exact isTrue_not (ha pins s σ H (λc H1=>Q (!c) H1) I h)
def HX (ta tb:TE):TE:=λσ H Q=>ta σ H λx H1=>∃ c,x=.bl c/\if c=true then tb σ H1 Q else Q (.bl false) H1
def Jj (ta:TE):TE:=λσ H Q=>ta σ H λx H1=>∃ c,x=.bl c/\Q (.bl (!c)) H1
theorem eM {op}(h:WE X a t):WE X (.BoolOp op [a] pos) t:=by
 have h:=h.go;exact⟨λpins s σ H Q I hw=>BoolOp_one (h pins s σ H Q I hw)⟩
theorem cZ (ha:WE X a ta)(hb:WE X (.BoolOp .And (b::bA) pos) tb):WE X (.BoolOp .And (a::b::bA) pos) (HX ta tb):=by
 have ha:=ha.go;have hb:=hb.go;refine⟨?_⟩;intro pins s σ H Q I h;refine BoolOp_and (bP (ha pins s σ H _ I h) λv s1 ⟨x,H1,I1,r1,q1⟩=>?_);obtain⟨c,rfl,q1⟩:=q1;cases r1;refine MS ?_;cases c with
 |true=>exact hb pins s1 σ H1 Q I1 q1
 |false=>exact⟨.bl false,H1,I1,rfl,q1⟩
theorem tS (ha:WE X a ta):WE X (.UnaryOp .Not a pos) (Jj ta):=by
 have ha:=ha.go;refine⟨?_⟩;intro pins s σ H Q I h;refine UnaryOp_ (bP (ha pins s σ H _ I h) λv s1 ⟨x,H1,I1,r1,q1⟩=>?_);obtain⟨c,rfl,q1⟩:=q1;cases r1;exact not_of (MS ⟨.bl (!c),H1,I1,rfl,q1⟩)
def K1 (t:TT)(ta tb:TE):TE:=λσ H Q=>t σ H λc H1=>if c=true then ta σ H1 Q else tb σ H1 Q
theorem rk (hc:WT X c tA)(ha:WE X a ta)(hb:WE X b tb):WE X (.IfExp c a b pos) (K1 tA ta tb):=by
 have hc:=hc.go;have ha:=ha.go;have hb:=hb.go;refine⟨?_⟩;intro pins s σ H Q I h;refine wpAny_IfExp (bP (hc pins s σ H _ I h) λd s1 ⟨H1,I1,q1⟩=>?_);cases d with
 |true=>exact ha pins s1 σ H1 Q I1 q1
 |false=>exact hb pins s1 σ H1 Q I1 q1
end
def bE (K:HD)(H:Hp)(a:Lg)(xs:List V):Prop:=
 Rd H a (.lst xs) \/
  ∃ (o:Obj) (its:Array K9) (n:Nat),K.lookup a=some o/\o.cls=.type "list"/\o.dict=none/\o.data=.seq its n/\its.size<=Ly/\aF xs its.toList
def dk (K:HD)(H:Hp)(a:Lg)(xs:List V):Prop:=
 Rd H a (.tup xs) \/
  ∃ (o:Obj) (its:Array K9) (n:Nat),K.lookup a=some o/\o.cls=.type "tuple"/\o.data=.seq its n/\its.size<=Ly/\aF xs its.toList
def JP:K9->Option V
 |.none=>some .non
 |.bool b=>some (.bl b)
 |.int i _=>some (.int i)
 |.str x _=>some (.str x)
 |.bytes b _=>some (.byt b)
 |.float b _=>some (.flt b)
 |.ref a=>some (.ref a)
 |.type n=>some (.ty n)
 |_=>none
theorem aY.abs (r:aY x u):JP u=some x:=by
 cases x with
 |non=>cases r;rfl
 |bl _=>cases r;rfl
 |int _=>obtain⟨t,rfl⟩:=r;rfl
 |str _=>obtain⟨t,rfl⟩:=r;rfl
 |byt _=>obtain⟨t,rfl⟩:=r;rfl
 |flt _=>obtain⟨t,rfl⟩:=r;rfl
 |ref _=>cases r;rfl
 |ty _=>cases r;rfl
theorem aY.inj (r:aY x u)(q:aY y u):x=y:=K8 (r.abs.symm.trans q.abs)
theorem aF.inj:∀ {xs ys:List V}{us:List K9},aF xs us->aF ys us->xs=ys
 |_,_,_,.nil,.nil=>rfl
 |_,_,_,.cons r t,.cons r' t'=>by rw[r.inj r',aF.inj t t']
section
variable {X:Cx}{pins:List (Lg×Obj)}{σ:St}{H:Hp}{s:K_}{a:Lg}{xs ys:List V}
theorem bE.of {K:HD}(h:H a=some (.lst xs)):bE K H a xs:=.inl (.inl h)
theorem dk.of {K:HD}(h:H a=some (.tup xs)):dk K H a xs:=.inl (.inl h)
theorem aD.list (I:aD X pins σ H s)(h:bE X.K H a xs):∃ its:List K9,aF xs its/\PlainL s.heap a its.toArray/\xs.length<=Ly:=by
 rcases h with h|⟨o,its,n,hk,hc,hd,hs,hz,r⟩
 ·obtain⟨z,its,n,r,e⟩:=h.ok I.hok;exact⟨its,r,⟨_,n,e,rfl,rfl,rfl⟩,z⟩
 ·refine⟨its.toList,r,⟨o,n,I.kIn a o hk,hc,hd,by simpa using hs⟩,?_⟩;have e:=r.length;simp only[LO] at e;lia
theorem aD.tuple (I:aD X pins σ H s)(h:dk X.K H a xs):∃ its:List K9,aF xs its/\IsTup s.heap a its.toArray/\xs.length<=Ly:=by
 rcases h with h|⟨o,its,n,hk,hc,hs,hz,r⟩
 ·obtain⟨z,its,r,p⟩:=h.ok I.hok;exact⟨its,r,p,z⟩
 ·refine⟨its.toList,r,⟨o,I.kIn a o hk,hc,n,by simpa using hs⟩,?_⟩;have e:=r.length;simp only[LO] at e;lia
theorem aD.list_inj (I:aD X pins σ H s)(h:bE X.K H a xs)(h':bE X.K H a ys):xs=ys:=by
 obtain⟨its,r,⟨o,n,e,_,_,d⟩,_⟩:=I.list h;obtain⟨its',r',⟨o',n',e',_,_,d'⟩,_⟩:=I.list h';rw[e] at e';cases e';rw[d] at d';injection d' with d1 _
 have:its=its':=by simpa using NE Array.toList d1
 subst this;exact r.inj r'
theorem aD.tuple_inj (I:aD X pins σ H s)(h:dk X.K H a xs)(h':dk X.K H a ys):xs=ys:=by
 obtain⟨its,r,⟨o,e,_,n,d⟩,_⟩:=I.tuple h;obtain⟨its',r',⟨o',e',_,n',d'⟩,_⟩:=I.tuple h';rw[e] at e';cases e';rw[d] at d';injection d' with d1 _
 have:its=its':=by simpa using NE Array.toList d1
 subst this;exact r.inj r'
end
abbrev Cx.wish (X:Cx)(E:K9->K_->Prop):Cx:={ X with xe:=E }
abbrev Cx.nox (X:Cx):Cx:=X.wish λ_ _=>False
theorem Cx.Ok.wish {X:Cx}(ok:X.Ok)(E:K9->K_->Prop):(X.wish E).Ok:=
 ⟨ok.mod,ok.kind,ok.glob,ok.blt,ok.above,ok.inj,ok.has,ok.cab,ok.hd,ok.frames,ok.stk,ok.exf,ok.bs,ok.bsz,ok.noex,ok.exfs,ok.funs,ok.frf⟩
theorem Cx.Ok.unwish {X:Cx}{E:K9->K_->Prop}(ok:(X.wish E).Ok):X.Ok:=
 ⟨ok.mod,ok.kind,ok.glob,ok.blt,ok.above,ok.inj,ok.has,ok.cab,ok.hd,ok.frames,ok.stk,ok.exf,ok.bs,ok.bsz,ok.noex,ok.exfs,ok.funs,ok.frf⟩
section
variable {X:Cx}{pins:List (Lg×Obj)}{σ:St}{H:Hp}{s:K_}{E:K9->K_->Prop}
theorem aD.wish (I:aD X pins σ H s)(E:K9->K_->Prop):aD (X.wish E) pins σ H s:=⟨I.ok.wish E,I.os,I.bare,I.base,I.loc,I.cell,I.free,I.freeC,I.pin,I.hok,I.len⟩
theorem aD.unwish (I:aD (X.wish E) pins σ H s):aD X pins σ H s:=⟨I.ok.unwish,I.os,I.bare,I.base,I.loc,I.cell,I.free,I.freeC,I.pin,I.hok,I.len⟩
theorem SP.unwish (h:SP (X.wish E) pins D f s'):SP X pins D f s':=by
 cases f with
 |next=>obtain⟨σ',H',I,q⟩:=h;exact⟨σ',H',I.unwish,q⟩
 |brk=>obtain⟨σ',H',I,q⟩:=h;exact⟨σ',H',I.unwish,q⟩
 |cont=>obtain⟨σ',H',I,q⟩:=h;exact⟨σ',H',I.unwish,q⟩
 |ret u=>obtain⟨v,σ',H',I,r,q⟩:=h;exact⟨v,σ',H',I.unwish,r,q⟩
theorem DT.nox {st:List NO}{t:TS}(h:DT X.nox st t):DT X st t:=λpins s σ H D I hw=>
 Mq (h pins s σ H D (I.wish _) hw) (λ_ _ q=>q.unwish) λ_ _ z=>Nm z
end
section
variable {X:Cx}{st:NO}{bA:List NO}{t u:TS}{e:Nq}{te:TE}{pos:Pos}
def Iv:TS:=λD σ H=>D.nx σ H
def IC (t u:TS):TS:=λD σ H=>t { D with nx:=u D } σ H
theorem aM:cQ X [] Iv:=by
 exact⟨λ_ _ σ H _ I h=>Q4 ⟨σ,H,I,h⟩⟩
theorem ab (h1:WS X st t)(h2:cQ X bA u):cQ X (st::bA) (IC t u):=by
 have h1:=h1.go;have h2:=h2.go;refine⟨?_⟩;intro pins s σ H D I h;refine wpAny_execs_cons (bP (h1 pins s σ H { D with nx:=u D } I h) λf s1 q=>?_);cases f with
 |next=>
  obtain⟨σ',H',I',q⟩:=q;exact h2 pins s1 σ' H' D I' q
 |ret v=>exact q
 |brk=>exact q
 |cont=>exact q
theorem ah (h1:WS X st t):cQ X [st] t:=by
 have h1:=h1.go;refine⟨?_⟩;intro pins s σ H D I h;refine wpAny_execs_cons (bP (h1 pins s σ H D I h) λf s1 q=>?_);cases f with
 |next=>exact Q4 q
 |ret v=>exact q
 |brk=>exact q
 |cont=>exact q
theorem aD.quiet (I:aD X pins σ H s):interactive X.env=false:=by simp[interactive,I.ok.kind]
def Jm (te:TE):TS:=λD σ H=>te σ H λ_ H1=>D.nx σ H1
theorem cm (he:WE X e te)(hs:Q2 e none pos.line X.env=pure false:=by rfl):WS X (.Expr e pos) (Jm te):=by
 have he:=he.go;refine⟨?_⟩;intro pins s σ H D I h;exact wpAny_Expr_any (bP (he pins s σ H _ I h) λv s1 ⟨x,H1,I1,r1,q1⟩=>⟨σ,H1,I1,q1⟩) I.quiet hs
def JS (te:TE):TS:=λD σ H=>te σ H D.rt
theorem au (he:WE X e te):WS X (.Return (some e) pos) (JS te):=by
 have he:=he.go;refine⟨?_⟩;intro pins s σ H D I h;exact wpAny_Return_some (bP (he pins s σ H _ I h) λv s1 ⟨x,H1,I1,r1,q1⟩=>⟨x,σ,H1,I1,r1,q1⟩)
def Kw (c:TT)(t u:TS):TS:=λD σ H=>c σ H λb H1=>if b=true then t D σ H1 else u D σ H1
theorem bn (hc:WT X c tc)(ha:cQ X a t)(hb:cQ X b u):WS X (.If c a b pos) (Kw tc t u):=by
 have hc:=hc.go;have ha:=ha.go;have hb:=hb.go;refine⟨?_⟩;intro pins s σ H D I h;refine wpAny_If (bP (hc pins s σ H _ I h) λd s1 ⟨H1,I1,q1⟩=>?_);cases d with
 |true=>exact ha pins s1 σ H1 D I1 q1
 |false=>exact hb pins s1 σ H1 D I1 q1
def Hh:TS:=λ_ _ _=>False
theorem cz:WS X st Hh:=by
 exact⟨λ_ _ _ _ _ _ h=>h.elim⟩
end
abbrev TG:=V->St->Hp->(St->Hp->Prop)->Prop
abbrev F_:=List V->St->Hp->(St->Hp->Prop)->Prop
def PG (X:Cx)(target:Nq)(t:TG):Prop:=
 ∀ (pins:List (Lg×Obj)) (s:K_) (σ:St) (H:Hp) (v:V) (u:K9) (Q:St->Hp->Prop),aD X pins σ H s->aY v u->t v σ H Q ->
  Lm (LJ X.prog X.w) X.A (assign target X.env u) (λ_ s'=>∃ σ' H',aD X pins σ' H' s'/\Q σ' H') X.xe s
structure WG (X:Cx)(e:Nq)(t:TG):Prop where
 go:PG X e t
def Kv (X:Cx)(ts:List Nq)(t:F_):Prop:=
 ∀ (pins:List (Lg×Obj)) (s:K_) (σ:St) (H:Hp) (vs:List V) (us:List K9) (Q:St->Hp->Prop),aD X pins σ H s->aF vs us->t vs σ H Q ->
  Lm (LJ X.prog X.w) X.A (T9 ((NY ts X.env).map (·.2)) us) (λ_ s'=>∃ σ' H',aD X pins σ' H' s'/\Q σ' H') X.xe s
structure HI (X:Cx)(e:List Nq)(t:F_):Prop where
 go:Kv X e t
abbrev GM:=V->V->V->Hp->(Hp->Prop)->Prop
def F7 (X:Cx)(t:GM):Prop:=
 ∀ (pins:List (Lg×Obj)) (s:K_) (σ:St) (H:Hp) (o i v:V) (ov iv u:K9) (Q:Hp->Prop),aD X pins σ H s->aY o ov->aY i iv->aY v u->t o i v H Q ->
  Lm (LJ X.prog X.w) X.A (setItem ov iv u) (λ_ s'=>∃ H',aD X pins σ H' s'/\Q H') X.xe s
abbrev Ja:=V->V->Hp->VK->Prop
def Jy (X:Cx)(op:Operator)(t:Ja):Prop:=
 ∀ (pins:List (Lg×Obj)) (s:K_) (σ:St) (H:Hp) (x y:V) (v u:K9) (Q:VK),aD X pins σ H s->aY x v->aY y u->t x y H Q ->
  Lm (LJ X.prog X.w) X.A (inplaceOp op v u) (EP X pins σ Q) X.xe s
section
variable {X:Cx}{pos:Pos}
def zh (i:Nat):TG:=λv σ H Q=>Q (σ.set i (some v)) H
theorem CQ {i:Nat}(hN:X.N.Nodup)(hi:X.N[i]?=some x)(hx:Hk X.env.scope x)(hf:X.fn x=true\/X.env.scope.names.lookup x=some .local:=by first|exact .inl rfl|exact .inr rfl|assumption):WG X (.Name x pos) (zh i):=by
 refine⟨?_⟩;intro pins s σ H v u Q I r h;exact Qd (iR I hN hi hx r (λs' I'=>⟨_,H,I',h⟩) hf)
def Kf:F_:=λvs σ H Q=>vs=[]/\Q σ H
def IE (t:TG)(u:F_):F_:=λvs σ H Q=>∃ v r,vs=v::r/\t v σ H λσ' H'=>u r σ' H' Q
theorem aX:HI X [] Kf:=by
 refine⟨?_⟩;intro pins s σ H vs us Q I r h;obtain⟨e,h⟩:=h;subst e;cases r;exact RJ ⟨σ,H,I,h⟩
theorem ao (h1:WG X e t) (h2:HI X es u)
  (hs:(NY (e::es) X.env).map (·.2)=assign e X.env::(NY es X.env).map (·.2):=by rfl):HI X (e::es) (IE t u):=by
 have h1:=h1.go;have h2:=h2.go;refine⟨?_⟩;intro pins s σ H vs us Q I r h;obtain⟨v,vr,e1,h⟩:=h;subst e1;cases r with
 |cons r rr=>
  rw[hs];refine OG (bP (h1 pins s σ H _ _ _ I r h) λ_ s1 ⟨σ1,H1,I1,q1⟩=>?_);exact h2 pins s1 σ1 H1 _ _ Q I1 rr q1
def I_ (K:HD)(n:Nat)(t:F_):TG:=λv σ H Q=>∃ a xs,v=.ref a/\dk K H a xs/\xs.length=n/\t xs σ H Q
theorem Hg {k:Nat}{n:Nat} (hc:X.calm=true) (h:Kv X es t)
  (hn:(NY es X.env).length=n:=by rfl)(hst:(NY es X.env).findIdx? (·.1)=none:=by rfl):PG X (.Tuple es k pos) (I_ X.K n t):=by
 intro pins s σ H v u Q I r hw;obtain⟨a,xs,e1,hq,hl,hw⟩:=hw;subst e1;cases r;obtain⟨its,rv,ht,hz⟩:=I.tuple hq;refine Rg (I.ok.hd hc) ht (by simp[hn,<- hl,rv.length]) hst λh' hx=>?_
 have I1:aD X pins σ H { s with heap:=h' }:=I.kept (t':=s.toks) λb o e=>hx b o (Lp (Lb e)) e
 exact h pins _ σ H xs _ Q I1 (by simpa using rv) hw
def J7 (to ti:TE)(t:GM):TG:=λv σ H Q=>to σ H λo H1=>ti σ H1 λi H2=>t o i v H2 λH3=>Q σ H3
theorem tj (ho:WE X o to) (hi:WE X i ti) (hs:F7 X t)
  (ha:∀ v,assign (.Subscript o i pos) X.env v=(do
   let ov <- holding [v] (O7 o X.env)
   let iv <- holding [v,ov] (O7 i X.env)
   TL pos
   holding [v,ov,iv] (setItem ov iv v)
   release [v,ov,iv] []):=by intro _;rfl):WG X (.Subscript o i pos) (J7 to ti t):=by
 have ho:=ho.go;have hi:=hi.go;refine⟨?_⟩;intro pins s σ H v u Q I r h;rw[ha];refine KE (Mp (bP (ho pins s σ H _ I h) λov s1 ⟨x,H1,I1,r1,q1⟩=>?_));refine KE (Mp (bP (hi pins s1 σ H1 _ I1 q1) λiv s2 ⟨y,H2,I2,r2,q2⟩=>?_));refine KE (Os (KE (Mp (bP (hs pins s2 σ H2 x y v ov iv u _ I2 r1 r2 r q2) λ_ s3 ⟨H3,I3,q3⟩=>?_))));exact wpAny_release ⟨σ,H3,I3,q3⟩
def GF (te:TE)(g:TG):TS:=λD σ H=>te σ H λx H1=>g x σ H1 D.nx
theorem gy (he:WE X e te) (hg:WG X tg g) (hs:swapsWithSole [tg] e pos.line X.env=pure false:=by rfl) (hw:swappedStores [tg] e X.env=pure none:=by rfl)
  (h1:(NY [tg] X.env).map (·.2)=[assign tg X.env]:=by rfl):WS X (.Assign [tg] e pos) (GF te g):=by
 have he:=he.go;have hg:=hg.go;refine⟨?_⟩;intro pins s σ H D I h;refine wpAny_Assign_stores (bP (he pins s σ H _ I h) λv s1 ⟨x,H1,I1,r1,q1⟩=>?_) hs hw;rw[h1];exact bP (hg pins s1 σ H1 x v _ I1 r1 q1) λ_ s2 q=>q
theorem EW {i:Nat} (hN:X.N.Nodup) (hi:X.N[i]?=some x) (hx:Hk X.env.scope x) (he:WE X e te) (hs:Q2 e (some (.Name x pos')) pos.line X.env=pure false:=by rfl) (hf:X.fn x=true\/X.env.scope.names.lookup x=some .local:=by first | exact .inl rfl | exact .inr rfl | assumption) :
  WS X (.Assign [.Name x pos'] e pos) (GF te (zh i)):=by
 have he:=he.go;refine⟨?_⟩;intro pins s σ H D I h;refine wpAny_Assign_Name (bP (he pins s σ H _ I h) λv s1 ⟨y,H1,I1,r1,q1⟩=>?_) hs;exact iR I1 hN hi hx r1 (λs2 I2=>⟨_,H1,I2,q1⟩) hf
def JO (i j:Nat)(ta:TA):TS:=λD σ H=>ta σ H λvs H1=>∃ v w,vs=[v,w]/\D.nx ((σ.set i (some v)).set j (some w)) H1
theorem kZ {i j:Nat}{kt k2 pt2} (hc:X.calm=true) (hN:X.N.Nodup) (hi:X.N[i]?=some x) (hj:X.N[j]?=some y) (hij:i ≠ j)
  (hx:X.env.scope.names.lookup x=some .local)(hy:X.env.scope.names.lookup y=some .local)(ha:WA X [a,b] ta)
  (hw:swappedStores [.Tuple [.Name x px,.Name y py] kt pt] (.Tuple [a,b] k2 pt2) X.env=pure (some [x,y]))
  (hs:swapsWithSole [.Tuple [.Name x px,.Name y py] kt pt] (.Tuple [a,b] k2 pt2) pos.line X.env=pure false:=by rfl):
  WS X (.Assign [.Tuple [.Name x px,.Name y py] kt pt] (.Tuple [a,b] k2 pt2) pos) (JO i j ta):=by
 have ha:=ha.go;refine⟨?_⟩;intro pins s σ H D I h;rw[exec_Assign_arm];refine KE (Os ?_);rw[hs];refine KE (K7 ?_);rw[LB (by decide)];refine KE (Tuple_ (bP (ha _ pins s σ H _ I h) λus s1 ⟨vs,H1,I1,r1,q1⟩=>?_));obtain⟨v,w,e1,q1⟩:=q1;subst e1;obtain⟨u1,u2,rfl,rv,rw'⟩:∃ u1 u2,us=[u1,u2]/\aY v u1/\aY w u2:=by
  cases r1 with
  |cons p q=>
   cases q with
   |cons p' q'=>
    cases q';exact⟨_,_,rfl,p,p'⟩
 refine Ml ?_ (by show 2<=Ly;decide);have I2:aD X pins σ H1 { s1 with heap:=s1.heap.push { cls:=.type "tuple",data:=.seq [u1,u2].toArray } }:=I1.kept (t':=s1.toks) λb o e=>K6 _ e
 rw[hw];refine KE (K7 ?_);show Lm (LJ X.prog X.w) X.A (do rule "assign.swapped-stores";let items <- unpackItems (.ref s1.heap.objs.size) 2 none;T9 [λv=>bindName X.env y v,λv=>bindName X.env x v] items.reverse;pure Flow.next) _ _ _;refine KE (OY (KE (unpackItems_tuple (items:=#[u1,u2]) (I.ok.hd hc) (IsTup.new s1.heap _) λh' hx'=>?_)));have I3:=I2.kept (h':=h') (t':=s1.toks) λb o e=>hx' b o (Lp (Lb e)) e
 show Lm _ _ (T9 [λv=>bindName X.env y v,λv=>bindName X.env x v] [u2,u1]>>=λ_=>pure Flow.next) _ _ _;refine KE (OG (wpAny_bindName (iR I3 hN hj (.inl hy) rw' (λs2 I4=>?_) (.inr hy))));refine OG (wpAny_bindName (iR I4 hN hi (.inl hx) rv (λs3 I5=>RJ (K7 ?_)) (.inr hx)));rw[List.set_comm _ _ (NF hij)] at I5;exact⟨_,H1,I5,q1⟩
def J4 (i:Nat)(te:TE)(ti:Ja):TS:=λD σ H=>∃ x,σ[i]?=some (some x)/\te σ H λy H1=>ti x y H1 λz H2=>D.nx (σ.set i (some z)) H2
theorem y7 {i:Nat} (hN:X.N.Nodup) (hi:X.N[i]?=some x) (hx:Hk X.env.scope x) (he:WE X e te) (ho:Jy X op ti) (hf:X.fn x=true\/X.env.scope.names.lookup x=some .local:=by first | exact .inl rfl | exact .inr rfl | assumption) :
  WS X (.AugAssign (.Name x pos') op e pos) (J4 i te ti):=by
 have he:=he.go;refine⟨?_⟩;intro pins s σ H D I h;obtain⟨v,e1,h⟩:=h;obtain⟨m,hn,hl⟩:=I.loc;have vis:Ht X.env.scope x:=by rcases hx with k|k;exact .inl k;exact .inr (.inl k)
 obtain⟨u,r,l⟩:=hl i x v hi e1 vis;refine wpAny_AugAssign_Name ?_;have go:Lm (LJ X.prog X.w) X.A (O7 e X.env) (λw s₂=>Lm (LJ X.prog X.w) X.A (inplaceOp op u w) (λr s₃=>Lm (LJ X.prog X.w) X.A (storeName X.env x r) (λ_=>SP X pins D .next) X.xe s₃) X.xe s₂) X.xe s:=by
  refine bP (he pins s σ H _ I h) λw s1 ⟨y,H1,I1,r1,q1⟩=>?_
  refine bP (ho pins s1 σ H1 v y u w _ I1 r r1 q1) λz s2 ⟨zv,H2,I2,r2,q2⟩=>?_
  exact iR I2 hN hi hx r2 (λs3 I3=>⟨_,H2,I3,q2⟩) hf
 rcases l with ⟨hk,hm⟩|⟨hk,c,hc,hcell⟩
 ·exact NH I.ok.kind hk hn hm go
 ·rcases hk with hk|hk
  ·exact wpAny_loadName_cell I.ok.kind hk hc hcell go
  ·rcases hx with k|k
   ·have:X.env.scope.names.lookup x=some .free:=hk;rw[k] at this;cases this
   ·have:X.env.scope.names.lookup x=some .free:=hk;rw[k] at this;cases this
def II (to ti te:TE)(tget:V->V->Hp->VK->Prop)(tip:Ja)(tset:GM):TS:=λD σ H=>to σ H λo H1=>ti σ H1 λi H2=>tget o i H2 λx H3=>te σ H3 λy H4=>tip x y H4 λz H5=>tset o i z H5 λH6=>D.nx σ H6
def Iw (X:Cx)(t:V->V->Hp->VK->Prop):Prop:=
 ∀ (pins:List (Lg×Obj)) (s:K_) (σ:St) (H:Hp) (o i:V) (ov iv:K9) (Q:VK),aD X pins σ H s->aY o ov->aY i iv->t o i H Q ->
  Lm (LJ X.prog X.w) X.A (Uz ov iv) (EP X pins σ Q) X.xe s
theorem BW (ho:WE X o to) (hi:WE X i ti) (hg:Iw X tget) (he:WE X e te) (hp:Jy X op tip) (hs:F7 X tset)
  (ha:∀ ov iv new,augStore i ov iv new=(do holding [new,ov,iv] (setItem ov iv new);release [new,ov,iv] [];pure .next):=by intros;rfl):WS X (.AugAssign (.Subscript o i tpos) op e pos) (II to ti te tget tip tset):=by
 have ho:=ho.go;have hi:=hi.go;have he:=he.go;refine⟨?_⟩;intro pins s σ H D I h;refine wpAny_AugAssign_SubscriptAny (bP (ho pins s σ H _ I h) λov s1 ⟨x1,H1,I1,r1,q1⟩=>?_) ha;refine bP (hi pins s1 σ H1 _ I1 q1) λiv s2 ⟨x2,H2,I2,r2,q2⟩=>?_
 refine bP (hg pins s2 σ H2 x1 x2 ov iv _ I2 r1 r2 q2) λold s3 ⟨x3,H3,I3,r3,q3⟩=>?_
 refine bP (he pins s3 σ H3 _ I3 q3) λv s4 ⟨x4,H4,I4,r4,q4⟩=>?_
 refine bP (hp pins s4 σ H4 x3 x4 old v _ I4 r3 r4 q4) λnew s5 ⟨x5,H5,I5,r5,q5⟩=>?_
 exact bP (hs pins s5 σ H5 x1 x2 x5 ov iv new _ I5 r1 r2 r5 q5) λ_ s6 ⟨H6,I6,q6⟩=>⟨σ,H6,I6,q6⟩
def KP (f:Int->Int->Int):Ja:=λx y H Q=>∃ i j,x=.int i/\y=.int j/\Q (.int (f i j)) H
theorem G7:Jy X .Add (KP λi j=>i+j):=by
 intro pins s σ H x y v u Q I r1 r2 h;obtain⟨i,j,e1,e2,q⟩:=h;subst e1;subst e2;obtain⟨t,rfl⟩:=r1;obtain⟨t',rfl⟩:=r2;exact iadd_int ⟨.int _,H,I.tok _,⟨_,rfl⟩,q⟩
end
section
variable {X:Cx}{pos:Pos}
def Hq (c:TT)(tb:TS):TS:=λD σ H=>∃ W:Nat->St->Hp->Prop,(∃ m,W m σ H)/\∀ m σ H,W m σ H ->
 c σ H λb H1=>if b=true then ∃ N:St->Hp->Prop,(∀ σ' H',N σ' H'->∃ m',m'<m/\W m' σ' H')/\tb { D with nx:=N,ct:=N,bk:=D.nx } σ H1 else D.nx σ H1
theorem qT (hp:PassesOwn (LJ X.prog X.w) X.A X.env X.xe)(hc:WT X c tc)(hb:cQ X body tb):WS X (.While c body [] pos) (Hq tc tb):=by
 have hc:=hc.go;have hb:=hb.go;refine⟨?_⟩;intro pins s σ H D I h;obtain⟨W,⟨m0,w0⟩,gR⟩:=h;refine wpAny_While (codeAny_whileLoop (λn s'=>∃ σ' H',aD X pins σ' H' s'/\W n σ' H') ?_ m0 ⟨σ,H,I,w0⟩);rintro n s1 ⟨σ1,H1,I1,w1⟩;refine Od hp (bP (hc pins s1 σ1 H1 _ I1 (gR n σ1 H1 w1)) λb s2 ⟨H2,I2,q2⟩=>?_);cases b with
 |true=>
  obtain⟨N,hN,q2⟩:=q2;rw[LL rfl];refine Od hp (bP (hb pins s2 σ1 H2 _ I2 q2) λf s3 q3=>?_);cases f with
  |next=>
   obtain⟨σ3,H3,I3,n3⟩:=q3;obtain⟨m',hm,w3⟩:=hN σ3 H3 n3;exact⟨m',hm,σ3,H3,I3,w3⟩
  |cont=>
   obtain⟨σ3,H3,I3,n3⟩:=q3;obtain⟨m',hm,w3⟩:=hN σ3 H3 n3;exact⟨m',hm,σ3,H3,I3,w3⟩
  |brk=>exact q3
  |ret v=>exact q3
 |false=>
  rw[LB LZ];exact Q4 ⟨σ1,H2,I2,q2⟩
end
structure It where
 go:Nat->Hp->Prop
 yld:Nat->Hp->V->Hp->Prop
 stop:Nat->Hp->Prop
def mC (X:Cx)(pins:List (Lg×Obj))(H:Hp)(b:Lg):Prop:=
 H b=none/\b≠X.env.locals/\b∉X.fs/\(b∈X.ex\/X.s₀.heap.objs.size<=b)/\(∀ x c,X.env.cells.lookup x=some c->c≠b)/\∀ p∈X.pn++pins,p.1≠b
theorem aD.fpOk (I:aD X pins σ H s)(hb:s.heap.objs.size<=b)(hn:H' b=none):mC X pins H' b:=by
 refine⟨hn,Ny (Ls I.lt hb),I.nofs hb,.inr (LM I.sz hb),λx c e z=>?_,λp hp z=>?_⟩
 ·obtain⟨v,q⟩:=I.cell x c e;exact absurd (Ls q.lt (by rw[z];exact hb)) (L7 _)
 ·exact absurd (Ls (Lb (I.pin p hp).1) (by rw[z];exact hb)) (L7 _)
structure um (P:Lz)(w:LX)(K:HD)(tg:Nq)(J:It)(fp:List Lg)(it:Lg)(tn:Nat->Ng->Prop):Prop where
 mem:it∈fp
 obj:∀ i h,tn i h->∀ b∈fp,∃ o,h.get? b=some o/\∀ v,o.data≠.cell v
 keep:∀ i h h',tn i h->(∀ b∈fp,∀ o,h.get? b=some o->h'.get? b=some o)->tn i h'
 item:∀ (X:Cx),X.prog=P->X.w=w->X.K=K->X.calm=true->∀ (i:Nat) (pins:List (Lg×Obj)) (s:K_) (σ:St) (H:Hp) (E:K9->K_->Prop),aD X pins σ H s->(∀ b∈fp,mC X pins H b)->tn i s.heap->J.go i H ->
  Lm (LJ P w) X.A (Pw (.ref it)) (λr s1=>∃ u,r=some u /\
   Lm (LJ P w) X.A (PX tg (.ref it) u) (λ_ s2=>∃ x H',aD X pins σ H' s2/\aY x u/\J.yld i H x H'/\tn (i+1) s2.heap/\∀ b∈fp,H' b=none) E s1) E s
 done:∀ (X:Cx),X.prog=P->X.w=w->X.K=K->X.calm=true->∀ (i:Nat) (pins:List (Lg×Obj)) (s:K_) (σ:St) (H:Hp) (E:K9->K_->Prop),aD X pins σ H s->(∀ b∈fp,mC X pins H b)->tn i s.heap->J.stop i H ->
  Lm (LJ P w) X.A (Pw (.ref it)) (λr s1=>r=none/\aD X pins σ H s1) E s
 self:∀ (A:L9) (i:Nat) (s:K_) (Q:K9->K_->Prop) (E:K9->K_->Prop),tn i s.heap->Q (.ref it) s->Lm (LJ P w) A (UR (.ref it)) Q E s
abbrev TI:=St->Hp->(It->Hp->Prop)->Prop
def Kz (X:Cx)(pins:List (Lg×Obj))(σ:St)(tg:Nq)(R:It->Hp->Prop)(itv:K9)(s2:K_):Prop:=
 ∃ (it:Lg) (fp:List Lg) (tn:Nat->Ng->Prop) (J:It) (H':Hp),itv=.ref it/\aD X pins σ H' s2/\um X.prog X.w X.K tg J fp it tn/\tn 0 s2.heap/\(∀ b∈fp,mC X pins H' b)/\R J H'
def PI (X:Cx)(tg iter:Nq)(wi:TI):Prop:=
 ∀ (pins:List (Lg×Obj)) (s:K_) (σ:St) (H:Hp) (R:It->Hp->Prop),aD X pins σ H s->wi σ H R ->
  Lm (LJ X.prog X.w) X.A (O7 iter X.env) (λv s1=>Lm (LJ X.prog X.w) X.A (UR v) (Kz X pins σ tg R) X.xe s1) X.xe s
structure WI (X:Cx)(tg e:Nq)(t:TI):Prop where
 go:PI X tg e t
theorem y_ (ho:s.heap.get? it=some o) (hc:o.cls=.type n) (hd:o.data=.fields vs)
  (hn:["enumerate","zip","dict_itemiterator","dict_reverseitemiterator","odict_iterator","itertools.zip_longest","itertools.pairwise"].contains n=false)(hQ:Q () s):Lm M A (PX tg (.ref it) u) Q E s:=by
 unfold PX;cases tg<;>first
  |exact K7 hQ
  | (cases u <;> first
    |exact K7 hQ
    | (refine KE (wpAny_load ho ?_)
       rw[hc,hd];show Lm M A (if(["enumerate","zip","dict_itemiterator","dict_reverseitemiterator","odict_iterator","itertools.zip_longest","itertools.pairwise"].contains n&&vs[0]?==some (QD _))=true then _ else _) Q E s;rw[LB (by intro h;rw[hn,Rj] at h;cases h)];exact K7 hQ))
def Io (K:HD)(a:Lg):It:=
 ⟨λi H=>∃ xs x,bE K H a xs/\xs[i]?=some x,λi H x H'=>H'=H/\∀ xs,bE K H a xs->xs[i]?=some x,λi H=>∃ xs,bE K H a xs/\xs.length<=i⟩
def Js (K:HD)(a:Lg):It:=
 ⟨λi H=>∃ xs x,dk K H a xs/\xs[i]?=some x,λi H x H'=>H'=H/\∀ xs,dk K H a xs->xs[i]?=some x,λi H=>∃ xs,dk K H a xs/\xs.length<=i⟩
def DU (lo:Int)(n:Nat):It:=⟨λi _=>i<n,λi H x H'=>H'=H/\x=.int (lo+i),λi _=>n<=i⟩
theorem A2 {P:Lz}{w:LX}{K:HD}{tg:Nq}(a it:Lg):um P w K tg (Io K a) [it] it (λi h=>h.IsListIter it a i) where
 mem:=by simp
 obj:=λi h st b hb=>by
  have e:b=it:=by simpa using hb
  subst e;obtain⟨o,e,c,d⟩:=st;exact⟨o,e,λv z=>by rw[d] at z;cases z⟩
 keep:=λi h h' st k=>st.at λo e=>k it (by simp) o e
 item:=by
  intro X hP hw hK hc i pins s σ H E I hf st hg;subst hP hw hK;obtain⟨xs,x,hq,hx⟩:=hg;obtain⟨its,rv,p,hz⟩:=I.list hq;obtain⟨u,hu,ru⟩:=rv.get hx;obtain⟨f0,f1,f2,f3,f4,f5⟩:=hf it (by simp);refine Sw st p.isList (x:=u) (by simpa using hu) λh' st' sb=>?_
  have I1:aD X pins σ H { s with heap:=h' }:=I.turned (t':=s.toks) (λb o hb e=>(sb.2 b hb).trans e) f0 f1 f3 f4 f5;obtain⟨o,e,c,d⟩:=id st';exact⟨u,rfl,y_ (s:={ s with heap:=h' }) e c d (by decide) ⟨x,H,I1,ru,⟨rfl,λys hy=>by rw[I.list_inj hy hq];exact hx⟩,st',λb hb=>(hf b hb).1⟩⟩
 done:=by
  intro X hP hw hK hc i pins s σ H E I hf st hg;subst hP hw hK;obtain⟨xs,hq,hx⟩:=hg;obtain⟨its,rv,p,hz⟩:=I.list hq;obtain⟨f0,f1,f2,f3,f4,f5⟩:=hf it (by simp);have hl:=rv.length;exact wpAny_pyNext_list_end (I.ok.hd hc) st p.isList (by simp;lia) λh' eb=>⟨rfl,I.turned (t':=s.toks) (λb o hb e=>eb b o hb e) f0 f1 f3 f4 f5⟩
 self:=λ_ _ _ _ _ st h=>wpAny_pyIter_listiter st h
theorem xT {P:Lz}{w:LX}{K:HD}{tg:Nq}(a it:Lg):um P w K tg (Js K a) [it] it (λi h=>h.IsTupleIter it a i) where
 mem:=by simp
 obj:=λi h st b hb=>by
  have e:b=it:=by simpa using hb
  subst e;obtain⟨o,e,c,d⟩:=st;exact⟨o,e,λv z=>by rw[d] at z;cases z⟩
 keep:=λi h h' st k=>st.at λo e=>k it (by simp) o e
 item:=by
  intro X hP hw hK hc i pins s σ H E I hf st hg;subst hP hw hK;obtain⟨xs,x,hq,hx⟩:=hg;obtain⟨its,rv,p,hz⟩:=I.tuple hq;obtain⟨u,hu,ru⟩:=rv.get hx;obtain⟨f0,f1,f2,f3,f4,f5⟩:=hf it (by simp);refine wpAny_pyNext_tuple_item st (show s.heap.IsTuple a its.toArray from p) (x:=u) (by simpa using hu) λh' st' sb=>?_
  have I1:aD X pins σ H { s with heap:=h' }:=I.turned (t':=s.toks) (λb o hb e=>(sb.2 b hb).trans e) f0 f1 f3 f4 f5;obtain⟨o,e,c,d⟩:=id st';exact⟨u,rfl,y_ (s:={ s with heap:=h' }) e c d (by decide) ⟨x,H,I1,ru,⟨rfl,λys hy=>by rw[I.tuple_inj hy hq];exact hx⟩,st',λb hb=>(hf b hb).1⟩⟩
 done:=by
  intro X hP hw hK hc i pins s σ H E I hf st hg;subst hP hw hK;obtain⟨xs,hq,hx⟩:=hg;obtain⟨its,rv,p,hz⟩:=I.tuple hq;obtain⟨f0,f1,f2,f3,f4,f5⟩:=hf it (by simp);have hl:=rv.length;exact wpAny_pyNext_tuple_end (I.ok.hd hc) st (show s.heap.IsTuple a its.toArray from p) (by simp;lia) λh' eb=>⟨rfl,I.turned (t':=s.toks) (λb o hb e=>eb b o hb e) f0 f1 f3 f4 f5⟩
 self:=λ_ _ _ _ _ st h=>wpAny_pyIter_tupleiter st h
theorem wg {P:Lz}{w:LX}{K:HD}{tg:Nq}(it:Lg)(lo:Int)(n:Nat):um P w K tg (DU lo n) [it] it (λi h=>IsRangeIter h it (lo+(i:Nat)*1) ((n:Int)-(i:Nat)) 1) where
 mem:=by simp
 obj:=λi h st b hb=>by
  have e:b=it:=by simpa using hb
  subst e;exact⟨_,st,λv z=>by
   have z':Data.fields _=Data.cell v:=z;cases z'⟩
 keep:=λi h h' st k=>k it (by simp) _ st
 item:=by
  intro X hP hw hK hc i pins s σ H E I hf st hg;subst hP hw hK;obtain⟨f0,f1,f2,f3,f4,f5⟩:=hf it (by simp);have W:=Walks.range (prog:=X.prog) (w:=X.w) (I.ok.hd hc) it lo 1 n;refine W.item i s _ _ hg st λv h' tk hv st' kk=>?_
  obtain⟨t,rfl⟩:=hv;have I1:aD X pins σ H { s with heap:=h',toks:=tk }:=I.turned (λb o hb e=>kk b o (by simpa using hb) e) f0 f1 f3 f4 f5;refine⟨_,rfl,y_ (s:={ s with heap:=h',toks:=tk }) (n:="range_iterator") st' rfl rfl (by decide) ⟨.int (lo+i),H,I1,⟨t,?_⟩,⟨rfl,rfl⟩,st',λb hb=>(hf b hb).1⟩⟩;rw[Int.mul_one]
 done:=by
  intro X hP hw hK hc i pins s σ H E I hf st hg;subst hP hw hK;obtain⟨f0,f1,f2,f3,f4,f5⟩:=hf it (by simp);exact wpAny_pyNext_range_end (I.ok.hd hc) st (by have:n<=i:=hg;lia) λh' eb=>⟨rfl,I.turned (t':=s.toks) (λb o hb e=>eb b o hb e) f0 f1 f3 f4 f5⟩
 self:=λ_ _ _ _ _ st h=>wpAny_pyIter_rangeiter st h
section
variable {X:Cx}{tg:Nq}
theorem Cc {lo hi:Int}{tk:Nat} (I:aD X pins σ H s) (h1:-(2 ^ 62) <= lo) (h2:lo < 2 ^ 62) (h3:-(2 ^ 62) <= hi) (h4:hi < 2 ^ 62)
  (q:R (DU lo (hi-lo).toNat) H):Lm (LJ X.prog X.w) X.A (UR (.ref s.heap.objs.size)) (Kz X pins σ tg R) E { s with heap:=s.heap.push { cls:=.type "range",data:=.fields #[.int lo t,.int hi u,.int 1 v] },toks:=tk }:=by
 refine wpAny_pyIter_range (IsRange.new ..) (small_one h1 h2 h3 h4) ?_;have I1:aD X pins σ H { s with heap:=s.heap.push { cls:=.type "range",data:=.fields #[.int lo t,.int hi u,.int 1 v] },toks:=tk }:=I.kept λb o e=>K6 _ e
 refine⟨(s.heap.push { cls:=.type "range",data:=.fields #[.int lo t,.int hi u,.int 1 v] }).objs.size,[(s.heap.push { cls:=.type "range",data:=.fields #[.int lo t,.int hi u,.int 1 v] }).objs.size],_,_,H,rfl,
  I1.kept (t':=tk) λb o e=>K6 _ e,wg _ lo (hi-lo).toNat,?_,λb hb=>?_,q⟩
 ·have e1:lo+((0:Nat):Int)*1=lo:=by simp
  have e2:(((hi-lo).toNat:Nat):Int)-((0:Nat):Int)=Builtin.Range.rangeSize lo hi 1:=by rw[Ua];split<;>lia
  show IsRangeIter _ _ (lo+((0:Nat):Int)*1) ((((hi-lo).toNat:Nat):Int)-((0:Nat):Int)) 1;rw[e1,e2];exact Ld _ rfl
 ·have e:b=(s.heap.push { cls:=.type "range",data:=.fields #[.int lo t,.int hi u,.int 1 v] }).objs.size:=by simpa using hb
  subst e;exact I1.fpOk (Lc _) (I1.hok.fresh (Lc _))
def Ip (ta:TA):TI:=λσ H R=>ta σ H λvs H1=>∃ j:Int,vs=[.int j]/\-(2^62)<=j/\j<2^62/\R (DU 0 j.toNat) H1
theorem cJ (hg:Gl X "range")(hm:X.mg "range"=none)(ha:WA X [a] ta)(hs:LN [a] X.env=[(false,O7 a X.env)]:=by rfl):WI X tg (.Call (.Name "range" p) [a] [] pos) (Ip ta):=by
 have ha:=ha.go;refine⟨?_⟩;intro pins s σ H R I h;refine Call_ (fW I hg hm boot_range (Ni (bP (ha pos pins s σ H _ I h) λus s1 ⟨vs,H1,I1,r1,q1⟩=>?_) hs rfl));obtain⟨j,e,q1,q2,q⟩:=q1;subst e;cases r1 with
 |cons r rr=>
  cases rr;obtain⟨t,rfl⟩:=r;exact call_range_1 (Cc I1 (by lia) (by lia) q1 q2 (by simpa using q))
def Kh (wi:TI)(g:TG)(tb:TS):TS:=λD σ H=>wi σ H λJ H1=>∃ W:Nat->Nat->St->Hp->Prop,(∃ m,W 0 m σ H1)/\∀ i m σ H,W i m σ H ->
 (J.stop i H/\D.nx σ H)\/(J.go i H/\∃ N:St->Hp->Prop,(∀ σ' H',N σ' H'->∃ m',m'<m/\W (i+1) m' σ' H')/\∀ x H',J.yld i H x H'->g x σ H' λσ2 H2=>tb { D with nx:=N,ct:=N,bk:=D.nx } σ2 H2)
def ic (fp:List Lg)(h:Ng):List (Lg×Obj):=fp.filterMap λb=>(h.get? b).map λo=>(b,o)
theorem eF (hb:b∈fp)(e:h.get? b=some o):(b,o)∈ic fp h:=OD.mpr ⟨b,hb,by rw[e];rfl⟩
theorem mz (hp:p∈ic fp h):p.1∈fp/\h.get? p.1=some p.2:=by
 obtain⟨b,hb,e⟩:=OD.mp hp;cases q:h.get? b with
 |none=>rw[q] at e;cases e
 |some o=>
  rw[q] at e;have e':(b,o)=p:=K8 e;subst e';exact⟨hb,q⟩
theorem aD.pinned (I:aD X pins σ H s)(hf:∀ b∈fp,mC X pins H b)(ho:∀ b∈fp,∃ o,s.heap.get? b=some o/\∀ v,o.data≠.cell v):aD X (pins++ic fp s.heap) σ H s:=
 I.pins_of λp hp=>(Mm.mp hp).elim (λz=>I.pin p (Lu _ z)) λz=>by
  obtain⟨hb,e⟩:=mz z;obtain⟨f0,f1,f2,_⟩:=hf p.1 hb;obtain⟨o,e',d⟩:=ho p.1 hb;rw[e] at e';cases e';exact⟨e,f0,f1,f2,d⟩
theorem aD.unpinned (I:aD X (pins++pl) σ H s):aD X pins σ H s:=I.pins_of λp hp=>I.pin p (Lu _ (Nl _ hp))
theorem di (hp:PassesOwn (LJ X.prog X.w) X.A X.env X.xe) (hc:X.calm=true) (hi:WI X tg iter wi) (hg:WG X tg g) (hb:cQ X body tb)
  (hs:∀ x,MQ iter X.env x=pure x:=by intro _;rfl):WS X (.For tg iter body [] pos) (Kh wi g tb):=by
 have hi:=hi.go;have hg:=hg.go;have hb:=hb.go;refine⟨?_⟩;intro pins s σ H D I h;refine wpAny_For (bP (hi pins s σ H _ I h) λv s1 h1=>bP h1 λitv s2 h2=>?_) hs;obtain⟨it,fp,tn,J,H2,e,I2,T,st2,f2,W,⟨m0,w0⟩,gR⟩:=h2;subst e;have stat:∀ {H':Hp},(∀ b∈fp,H' b=none)->∀ b∈fp,mC X pins H' b:=λhn b hb=>⟨hn b hb,(f2 b hb).2⟩
 refine codeAny_forLoop_any (λn s'=>∃ i σ' H',aD X pins σ' H' s'/\tn i s'.heap/\(∀ b∈fp,H' b=none)/\W i n σ' H') ?_ m0 ⟨0,σ,H2,I2,st2,λb hb=>(f2 b hb).1,w0⟩;rintro n s3 ⟨i,σ3,H3,I3,st3,fr3,w3⟩;rcases gR i n σ3 H3 w3 with ⟨stop,qn⟩|⟨go,N,hN,step⟩
 ·refine Od hp (bP (T.done X rfl rfl rfl hc i pins s3 σ3 H3 X.xe I3 (stat fr3) st3 stop) λr s4 ⟨hr,I4⟩=>?_);subst hr;exact Q4 ⟨σ3,H3,I4,qn⟩
 ·refine Od hp (bP (T.item X rfl rfl rfl hc i pins s3 σ3 H3 X.xe I3 (stat fr3) st3 go) λr s4 ⟨u,hr,h4⟩=>?_);subst hr;refine Od hp (bP h4 λ_ s5 ⟨x,H5,I5,r5,y5,st5,fr5⟩=>?_);have I5':=I5.pinned (stat fr5) (T.obj _ _ st5);refine Od hp (bP (hg _ s5 σ3 H5 x u _ I5' r5 (step x H5 y5)) λ_ s6 ⟨σ6,H6,I6,q6⟩=>?_);refine Od hp (bP (hb _ s6 σ6 H6 _ I6 q6) λf s7 q7=>?_);have again:∀ {σ7:St}{H7:Hp},aD X (pins++ic fp s5.heap) σ7 H7 s7->N σ7 H7->∃ m,m<n/\∃ i σ' H',aD X pins σ' H' s7/\tn i s7.heap/\(∀ b∈fp,H' b=none)/\W i m σ' H':=λ{σ7 H7} I7 n7=>by
   obtain⟨m',hm,w7⟩:=hN σ7 H7 n7;refine⟨m',hm,i+1,σ7,H7,I7.unpinned,T.keep _ _ _ st5 λb hb o e=>(I7.pin (b,o) (Lu _ (Lu _ (eF hb e)))).1,λb hb=>?_,w7⟩;obtain⟨o,e,d⟩:=T.obj _ _ st5 b hb;exact(I7.pin (b,o) (Lu _ (Lu _ (eF hb e)))).2.1
  cases f with
  |next=>obtain⟨σ7,H7,I7,n7⟩:=q7;exact again I7 n7
  |cont=>obtain⟨σ7,H7,I7,n7⟩:=q7;exact again I7 n7
  |brk=>obtain⟨σ7,H7,I7,q7⟩:=q7;exact⟨σ7,H7,I7.unpinned,q7⟩
  |ret v=>obtain⟨x7,σ7,H7,I7,r7,q7⟩:=q7;exact⟨x7,σ7,H7,I7.unpinned,r7,q7⟩
end
theorem Cy {K:HD}{a:Lg}{xs:List V}{g:TG}{tb:TS}{D:qE}{σ:St}{H:Hp} (Pv:Nat->St->Hp->Prop) (h0:Pv 0 σ H) (hl:∀ i σ H,i <= xs.length->Pv i σ H->bE K H a xs)
  (hs:∀ i x σ H,xs[i]?=some x->Pv i σ H->g x σ H λσ2 H2=>tb { D with nx:=Pv (i+1),ct:=Pv (i+1),bk:=D.nx } σ2 H2)(hd:∀ σ H,Pv xs.length σ H->D.nx σ H):
  ∃ W:Nat->Nat->St->Hp->Prop,(∃ m,W 0 m σ H)/\∀ i m σ H,W i m σ H ->
   ((Io K a).stop i H/\D.nx σ H)\/((Io K a).go i H/\∃ N:St->Hp->Prop,(∀ σ' H',N σ' H'->∃ m',m'<m/\W (i+1) m' σ' H')/\∀ x H',(Io K a).yld i H x H'->g x σ H' λσ2 H2=>tb { D with nx:=N,ct:=N,bk:=D.nx } σ2 H2):=by
 refine⟨λi m σ H=>m=xs.length-i/\i<=xs.length/\Pv i σ H,⟨xs.length,by simp,LY _,h0⟩,?_⟩;rintro i m σ H ⟨rfl,hi,p⟩;have q:=hl i σ H hi p
 by_cases hlt:i<xs.length
 ·refine .inr ⟨⟨xs,xs[i],q,by simp[hlt]⟩,Pv (i+1),λσ' H' p'=>⟨xs.length-(i+1),by lia,rfl,hlt,p'⟩,λx H' y=>?_⟩;obtain⟨e,y⟩:=y;subst e;exact hs i x σ _ (y xs q) p
 ·have e:i=xs.length:=by lia
  subst e;exact .inl ⟨⟨xs,q,Lc _⟩,hd σ H p⟩
theorem ER {K:HD}{a:Lg}{xs:List V}{g:TG}{tb:TS}{D:qE}{σ:St}{H:Hp} (Pv:Nat->St->Hp->Prop) (h0:Pv 0 σ H) (hl:∀ i σ H,i <= xs.length->Pv i σ H->dk K H a xs)
  (hs:∀ i x σ H,xs[i]?=some x->Pv i σ H->g x σ H λσ2 H2=>tb { D with nx:=Pv (i+1),ct:=Pv (i+1),bk:=D.nx } σ2 H2)(hd:∀ σ H,Pv xs.length σ H->D.nx σ H):
  ∃ W:Nat->Nat->St->Hp->Prop,(∃ m,W 0 m σ H)/\∀ i m σ H,W i m σ H ->
   ((Js K a).stop i H/\D.nx σ H)\/((Js K a).go i H/\∃ N:St->Hp->Prop,(∀ σ' H',N σ' H'->∃ m',m'<m/\W (i+1) m' σ' H')/\∀ x H',(Js K a).yld i H x H'->g x σ H' λσ2 H2=>tb { D with nx:=N,ct:=N,bk:=D.nx } σ2 H2):=by
 refine⟨λi m σ H=>m=xs.length-i/\i<=xs.length/\Pv i σ H,⟨xs.length,by simp,LY _,h0⟩,?_⟩;rintro i m σ H ⟨rfl,hi,p⟩;have q:=hl i σ H hi p
 by_cases hlt:i<xs.length
 ·refine .inr ⟨⟨xs,xs[i],q,by simp[hlt]⟩,Pv (i+1),λσ' H' p'=>⟨xs.length-(i+1),by lia,rfl,hlt,p'⟩,λx H' y=>?_⟩;obtain⟨e,y⟩:=y;subst e;exact hs i x σ _ (y xs q) p
 ·have e:i=xs.length:=by lia
  subst e;exact .inl ⟨⟨xs,q,Lc _⟩,hd σ H p⟩
theorem g_ {lo:Int}{n:Nat}{g:TG}{tb:TS}{D:qE}{σ:St}{H:Hp} (Pv:Nat->St->Hp->Prop) (h0:Pv 0 σ H)
  (hs:∀ i σ H,i<n->Pv i σ H->g (.int (lo+i)) σ H λσ2 H2=>tb { D with nx:=Pv (i+1),ct:=Pv (i+1),bk:=D.nx } σ2 H2)(hd:∀ σ H,Pv n σ H->D.nx σ H):
  ∃ W:Nat->Nat->St->Hp->Prop,(∃ m,W 0 m σ H)/\∀ i m σ H,W i m σ H ->
   ((DU lo n).stop i H/\D.nx σ H)\/((DU lo n).go i H/\∃ N:St->Hp->Prop,(∀ σ' H',N σ' H'->∃ m',m'<m/\W (i+1) m' σ' H')/\∀ x H',(DU lo n).yld i H x H'->g x σ H' λσ2 H2=>tb { D with nx:=N,ct:=N,bk:=D.nx } σ2 H2):=by
 refine⟨λi m σ H=>m=n-i/\i<=n/\Pv i σ H,⟨n,by simp,LY _,h0⟩,?_⟩;rintro i m σ H ⟨rfl,hi,p⟩
 by_cases hlt:i<n
 ·refine .inr ⟨hlt,Pv (i+1),λσ' H' p'=>⟨n-(i+1),by lia,rfl,hlt,p'⟩,λx H' y=>?_⟩;obtain⟨e,y⟩:=y;subst e y;exact hs i σ _ hlt p
 ·have e:i=n:=by lia
  subst e;exact .inl ⟨Lc _,hd σ H p⟩
abbrev R2:=V->V->Hp->VK->Prop
def jI (X:Cx)(f:K9->K9->Sem K9)(r:R2):Prop:=
 ∀ (pins:List (Lg×Obj)) (s:K_) (σ:St) (H:Hp) (x y:V) (v u:K9) (Q:VK),aD X pins σ H s->aY x v->aY y u->r x y H Q ->
  Lm (LJ X.prog X.w) X.A (f v u) (EP X pins σ Q) X.xe s
def Ko (X:Cx)(f:K9->Sem K9)(r:V->Hp->VK->Prop):Prop:=
 ∀ (pins:List (Lg×Obj)) (s:K_) (σ:St) (H:Hp) (x:V) (v:K9) (Q:VK),aD X pins σ H s->aY x v->r x H Q ->
  Lm (LJ X.prog X.w) X.A (f v) (EP X pins σ Q) X.xe s
def cy (X:Cx)(f:K9)(r:List V->Hp->VK->Prop):Prop:=
 ∀ (pins:List (Lg×Obj)) (s:K_) (σ:St) (H:Hp) (xs:List V) (us:List K9) (Q:VK),aD X pins σ H s->aF xs us->r xs H Q ->
  Lm (LJ X.prog X.w) X.A (call f us) (EP X pins σ Q) X.xe s
def HU (r:R2)(ta tb:TE):TE:=λσ H Q=>ta σ H λx H1=>tb σ H1 λy H2=>r x y H2 Q
def KU (r:V->Hp->VK->Prop)(ta:TE):TE:=λσ H Q=>ta σ H λx H1=>r x H1 Q
inductive rI (C:Int->Int->Prop)(g:Int->Int->V)(x y:V)(H:Hp)(Q:VK):Prop
 |mk (i j:Int) (_:x=.int i) (_:y=.int j) (_:C i j) (_:Q (g i j) H)
inductive DX (g:Int->Int->V)(x y:V)(H:Hp)(Q:VK):Prop
 |mk (i j:Int) (_:x=.int i) (_:y=.int j) (_:Q (g i j) H)
def rU (g:Int->V):V->Hp->VK->Prop:=λx H Q=>∃ i,x=.int i/\Q (g i) H
section
variable {X:Cx}{a b c:Nq}{ta tb tc:TE}{pos:Pos}
theorem FP (ha:PE X a ta) (hb:PE X b tb) {pins:List (Lg × Obj)}{s:K_}{σ:St}{H:Hp}{R:V->V->Hp->Prop} (I:aD X pins σ H s)
  (h:ta σ H λx H1=>tb σ H1 λy H2=>R x y H2){Q:K9->K_->Prop}{f:K9->K9->Sem K9}
  (hf:∀ v u s2 x y H2,aD X pins σ H2 s2->aY x v->aY y u->R x y H2->Lm (LJ X.prog X.w) X.A (f v u) Q X.xe s2):
  Lm (LJ X.prog X.w) X.A (O7 a X.env) (λv s₁=>Lm (LJ X.prog X.w) X.A (O7 b X.env) (λu s₂=>Lm (LJ X.prog X.w) X.A (f v u) Q X.xe s₂) X.xe s₁) X.xe s:=by
 refine bP (ha pins s σ H _ I h) λv s1 ⟨x,H1,I1,r1,q1⟩=>?_
 refine bP (hb pins s1 σ H1 _ I1 q1) λu s2 ⟨y,H2,I2,r2,q2⟩=>?_
 exact hf v u s2 x y H2 I2 r1 r2 q2
theorem ar {op:Operator}{r:R2}(ho:jI X (Qh op) r)(ha:WE X a ta)(hb:WE X b tb):WE X (.BinOp a op b pos) (HU r ta tb):=by
 have ha:=ha.go;have hb:=hb.go;refine⟨?_⟩;intro pins s σ H Q I h;exact wpAny_BinOp (FP ha hb I h λv u s2 x y H2 I2 rx ry q=>ho pins s2 σ H2 x y v u Q I2 rx ry q)
theorem CZ (ho:Ko X (unaryOp op) r)(ha:WE X a ta):WE X (.UnaryOp op a pos) (KU r ta):=by
 have ha:=ha.go;refine⟨?_⟩;intro pins s σ H Q I h;exact UnaryOp_ (bP (ha pins s σ H _ I h) λv s1 ⟨x,H1,I1,r1,q1⟩=>ho pins s1 σ H1 x v Q I1 r1 q1)
theorem HH {f:K9->K9->Sem K9}{C:Int->Int->Prop}{g:Int->Int->Int}
  (rule:∀ (i j:Int) (t u:Tok) (s:K_) (Q:K9->K_->Prop) (E:K9->K_->Prop),C i j->Q (.int (g i j) s.toks) { s with toks:=s.toks+1 }->Lm (LJ X.prog X.w) X.A (f (.int i t) (.int j u)) Q E s):
  jI X f (rI C λi j=>.int (g i j)):=by
 intro pins s σ H x y v u Q I rx ry h;obtain⟨i,j,rfl,rfl,hc,q⟩:=h;obtain⟨t,rfl⟩:=rx;obtain⟨t',rfl⟩:=ry;exact rule i j t t' s _ _ hc ⟨.int (g i j),H,I.tok _,⟨_,rfl⟩,q⟩
theorem Iu {f:K9->K9->Sem K9}{g:Int->Int->Int}
  (rule:∀ (i j:Int) (t u:Tok) (s:K_) (Q:K9->K_->Prop) (E:K9->K_->Prop),Q (.int (g i j) s.toks) { s with toks:=s.toks+1 }->Lm (LJ X.prog X.w) X.A (f (.int i t) (.int j u)) Q E s):
  jI X f (DX λi j=>.int (g i j)):=by
 intro pins s σ H x y v u Q I rx ry h;obtain⟨i,j,rfl,rfl,q⟩:=h;obtain⟨t,rfl⟩:=rx;obtain⟨t',rfl⟩:=ry;exact rule i j t t' s _ _ ⟨.int (g i j),H,I.tok _,⟨_,rfl⟩,q⟩
theorem Ah {f:K9->K9->Sem K9}{g:Int->Int->Bool}
  (rule:∀ (i j:Int) (t u:Tok) (s:K_) (Q:K9->K_->Prop) (E:K9->K_->Prop),Q (.bool (g i j)) s->Lm (LJ X.prog X.w) X.A (f (.int i t) (.int j u)) Q E s):
  jI X f (DX λi j=>.bl (g i j)):=by
 intro pins s σ H x y v u Q I rx ry h;obtain⟨i,j,rfl,rfl,q⟩:=h;obtain⟨t,rfl⟩:=rx;obtain⟨t',rfl⟩:=ry;exact rule i j t t' s _ _ ⟨.bl (g i j),H,I,rfl,q⟩
def J_ (i j:Int):Prop:=0<=j/\j<=1000000/\i.natAbs<2^64
theorem eh:jI X (Qh .Add) (DX λi j=>.int (i+j)):=Iu λ_ _ _ _ _ _ _ q=>add_int q
theorem c_:jI X (Qh .Sub) (DX λi j=>.int (i-j)):=Iu λ_ _ _ _ _ _ _ q=>sub_int q
theorem ju:jI X (Qh .Mod) (rI (λ_ j=>0<j) λi j=>.int (i%j)):=HH λi j _ _ _ _ _ hc q=>by
 have h1:(0:Int)<j:=hc;exact mod_int' (by lia) (by rw[Int.fmod_eq_emod_of_nonneg i (by lia)];exact q)
theorem C7:jI X (Qh .Pow) (rI J_ λi j=>.int (i^j.toNat)):=HH λ_ _ _ _ _ _ _ hc q=>pow_int_small hc.1 hc.2.1 hc.2.2 q
theorem K0 {f:K9->Sem K9}{g:Int->Int}
  (rule:∀ (i:Int) (t:Tok) (s:K_) (Q:K9->K_->Prop) (E:K9->K_->Prop),Q (.int (g i) s.toks) { s with toks:=s.toks+1 }->Lm (LJ X.prog X.w) X.A (f (.int i t)) Q E s):
  Ko X f (rU λi=>.int (g i)):=by
 intro pins s σ H x v Q I rx h;obtain⟨i,rfl,q⟩:=h;obtain⟨t,rfl⟩:=rx;exact rule i t s _ _ ⟨.int (g i),H,I.tok _,⟨_,rfl⟩,q⟩
theorem Cz:Ko X (unaryOp .USub) (rU λi=>.int (-i)):=K0 λ_ _ _ _ _ q=>neg_int q
end
section
variable {X:Cx}{a b c:Nq}{ta tb tc:TE}{pos:Pos}
theorem Dm (I:aD X pins σ H s)(q:Q (.bl k) H)(e:k=k'):EP X pins σ Q (.bool k') s:=by
 subst e;exact⟨.bl k,H,I,rfl,q⟩
theorem vV:jI X (Nj .Lt) (DX λi j=>.bl (decide (i<j))):=Ah λ_ _ _ _ _ _ _ q=>lt_int q
theorem yK:jI X (Nj .LtE) (DX λi j=>.bl (decide (i<=j))):=Ah λ_ _ _ _ _ _ _ q=>le_int q
theorem yw:jI X (Nj .Gt) (DX λi j=>.bl (decide (j<i))):=Ah λ_ _ _ _ _ _ _ q=>gt_int q
theorem Jc:jI X (Nj .GtE) (DX λi j=>.bl (decide (j<=i))):=Ah λ_ _ _ _ _ _ _ q=>ge_int q
theorem Ec:jI X (Nj .IsNot) (λx y H Q=>y=.non/\Q (.bl (!decide (x=.non))) H):=by
 intro pins s σ H x y v u Q I rx ry h;obtain⟨rfl,q⟩:=h;cases ry;refine isnot_none_gen (Dm I q ?_);cases x<;>first
  |(cases rx;rfl)
  |(obtain⟨t,rfl⟩:=rx;rfl)
theorem aT (b:Nq)(h:op≠.In:=by decide)(h2:op≠.NotIn:=by decide):R5 op b=false:=by
 have e1:(op==CmpOp.In)=false:=by cases op<;>first|rfl|exact absurd rfl h
 have e2:(op==CmpOp.NotIn)=false:=by cases op<;>first|rfl|exact absurd rfl h2
 cases b<;>simp[R5,e1,e2]
theorem cq (ho:jI X (Nj op) r)(ha:WE X a ta)(hb:WE X b tb)(hm:R5 op b=false):WE X (.Compare a [op] [b] pos) (HU r ta tb):=by
 have ha:=ha.go;have hb:=hb.go;refine⟨?_⟩;intro pins s σ H Q I h;exact wpAny_Compare1 (FP ha hb I h λv u s2 x y H2 I2 rx ry q=>ho pins s2 σ H2 x y v u Q I2 rx ry q) hm
def HJ (t:TE):TT:=λσ H Q=>t σ H λx H'=>KF x H' Q
theorem aN (ho:jI X (Nj op) r)(ha:WE X a ta)(hb:WE X b tb)(hm:R5 op b=false):WT X (.Compare a [op] [b] pos) (HJ (HU r ta tb)):=by
 have ha:=ha.go;have hb:=hb.go;refine⟨?_⟩;intro pins s σ H Q I h;refine wpAny_isTrue_Compare1 (bP (ha pins s σ H _ I h) λv s1 ⟨x,H1,I1,r1,q1⟩=>bP (hb pins s1 σ H1 _ I1 q1) λu s2 ⟨y,H2,I2,r2,q2⟩=>
  bP (ho pins s2 σ H2 x y v u _ I2 r1 r2 q2) λc s3 ⟨z,H3,I3,r3,k,e,q3⟩=>?_) hm
 subst e;cases r3;exact MS ⟨H3,I3,q3⟩
def FX (r r':R2)(ta tb tc:TE):TE:=λσ H Q=>ta σ H λx H1=>tb σ H1 λy H2=>r x y H2 λz H3=>∃ k,z=.bl k /\
 (if k=true then tc σ H3 λw' H4=>r' y w' H4 Q else Q (.bl false) H3)
theorem qM (ho:jI X (Nj op) r) (ho':jI X (Nj op') r') (ha:WE X a ta) (hb:WE X b tb) (hc:WE X c tc)
  (hm:lastMarks [op,op'] [b,c]=false:=by with_unfolding_all rfl):WE X (.Compare a [op,op'] [b,c] pos) (FX r r' ta tb tc):=by
 have ha:=ha.go;have hb:=hb.go;have hc:=hc.go;refine⟨?_⟩;intro pins s σ H Q I h;refine Compare_chain (bP (ha pins s σ H _ I h) λv s1 ⟨x,H1,I1,r1,q1⟩=>chain_link (bP (hb pins s1 σ H1 _ I1 q1) λu s2 ⟨y,H2,I2,r2,q2⟩=>
  bP (ho pins s2 σ H2 x y v u _ I2 r1 r2 q2) λd s3 ⟨z,H3,I3,r3,k,e,q3⟩=>?_)) hm
 subst e;cases r3;refine MS ?_;cases k with
 |false=>exact ite_ff ⟨.bl false,H3,I3,rfl,q3⟩
 |true=>exact ite_tt (chain_last (bP (hc pins s3 σ H3 _ I3 q3) λw' s4 ⟨z',H4,I4,r4,q4⟩=>ho' pins s4 σ H4 y z' u w' Q I4 r2 r4 q4))
theorem kg:(Ly:Nat)<2^63:=by rw[Nk];decide
theorem fk (r:aF [x] us):∃ u,us=[u]/\aY x u:=by
 cases r with
 |cons r1 r2=>cases r2;exact⟨_,rfl,r1⟩
theorem kW (r:aF [x,y] us):∃ u w',us=[u,w']/\aY x u/\aY y w':=by
 cases r with
 |cons r1 r2=>
  cases r2 with
  |cons r3 r4=>cases r4;exact⟨_,_,rfl,r1,r3⟩
theorem uZ:cy X (.builtin "abs") (λxs H Q=>∃ i,xs=[.int i]/\Q (.int (if i<0 then -i else i)) H):=by
 intro pins s σ H xs us Q I r h;obtain⟨i,rfl,q⟩:=h;obtain⟨u,rfl,t,rfl⟩:=fk r;exact call_abs_int λu tk=>⟨.int (if i<0 then -i else i),H,I.tok _,⟨_,rfl⟩,q⟩
theorem zN (hc:X.calm=true):cy X (.builtin "max") (λxs H Q=>∃ i j,xs=[.int i,.int j]/\Q (.int (if j>i then j else i)) H):=by
 intro pins s σ H xs us Q I r h;obtain⟨i,j,rfl,q⟩:=h;obtain⟨u,w',rfl,⟨t,rfl⟩,⟨t',rfl⟩⟩:=kW r;refine max_two_ints (I.ok.hd hc) λh' tk k=>⟨_,H,I.kept k,?_,q⟩
 by_cases hj:j>i
 ·rw[LL hj,LL hj];exact⟨_,rfl⟩
 ·rw[LB hj,LB hj];exact⟨_,rfl⟩
theorem l4 (hc:X.calm=true):cy X (.builtin "min") (λxs H Q=>∃ i j,xs=[.int i,.int j]/\Q (.int (if j<i then j else i)) H):=by
 intro pins s σ H xs us Q I r h;obtain⟨i,j,rfl,q⟩:=h;obtain⟨u,w',rfl,⟨t,rfl⟩,⟨t',rfl⟩⟩:=kW r;refine min_two_ints (I.ok.hd hc) λh' tk k=>⟨_,H,I.kept k,?_,q⟩
 by_cases hj:j<i
 ·rw[LL hj,LL hj];exact⟨_,rfl⟩
 ·rw[LB hj,LB hj];exact⟨_,rfl⟩
end
structure wP (h:Ng)(x dx C:Lg)(mA:Str->Option K9):Prop where
 obj:h.get? x=some (NS C dx)
 ns:h.Ns1 dx mA
 ne:dx≠x
theorem Ay {h:Ng}{dx:Lg}{mA:Str->Option K9}(n:h.Ns1 dx mA):∃ od,h.get? dx=some od/\∀ name,Rq name od=some (mA name):=by
 obtain⟨o,es,ep,ho,hd,hk,_,hm⟩:=n;refine⟨o,ho,λname=>?_⟩;have e:=hm name;unfold nsFind findBy at e;rw[<- Array.find?_toList] at e;unfold Rq;rw[hd];dsimp only
 split
 ·rename_i y q
  rw[q] at e;exact NE some e
 ·rename_i q
  rw[q] at e;have a:es.toList.any (·.refKey)=false:=by
   rw[Uj];intro y hy;obtain⟨z,t,hkey⟩:=hk y (O3.mp hy);simp[DictEntry.refKey,hkey]
  have a':¬ es.toList.any (·.refKey)=true:=by rw[a];exact LZ
  rw[LB a'];exact NE some e
theorem wP.look (I:wP h x dx C mA):∃ od,Vd h x (NS C dx) C (some od)/\∀ name,Rq name od=some (mA name):=
 let ⟨od,ho,hl⟩:=Ay I.ns
 ⟨od,⟨I.obj,rfl,rfl,ho⟩,hl⟩
section
variable {prog:Lz}{w:LX}{A:L9}{E:K9->K_->Prop}{s:K_}{K:HD}{x dx C f:Lg}{mA:Str->Option K9}{name:Str}{v:K9}
theorem EV (X:K.In s.heap) (I:wP s.heap x dx C mA) (hg:Pj K C name=true) (hh:P9 K C=true)
  (ha:LP K (.ref C) name=some none)(hv:mA name=some v)(hv':UW v=true)(h:Q v { s with toks:=s.toks+1 }):
  Lm (LJ prog w) A (getAttr (.ref x) name expr) Q E s:=by
 obtain⟨od,J,hl⟩:=I.look;exact PySem.W.get_value X J (QY hg).1 (PySem.W.findObj_own hh ha rfl (by rw[hl,hv])) hv' h
theorem Cb (X:K.In s.heap) (I:wP s.heap x dx C mA) (hg:Pj K C name=true)
  (hf:LP K (.ref C) name=some (some (.ref f)))(ht:Oh K (.ref f)=true)(hv:mA name=none)(h:Q (.ref f,[.ref x]) s):
  Lm (LJ prog w) A (getMethod (.ref x) name pl) Q E s:=by
 obtain⟨od,J,hl⟩:=I.look;exact PySem.W.method_fn X J (QY hg).1 (QY hg).2 hf (NP.mp ht) (by show(Rq name od).map (·.isSome)=some false;rw[hl,hv];rfl) h
theorem EF (X:K.In s.heap) (I:wP s.heap x dx C mA)
  (hs:LP K (.ref C) "__setattr__"=some (some (.builtin "object.__setattr__")))(hp:RF K C=true)(ht:SU K C name=some none)(hh:P9 K C=true)
  (hw:UP mA ns)(hsz:ns.length<=Ly)
  (h:∀ h',wP h' x dx C (λy=>if y=name then some v else mA y)->Mz dx s.heap h'->Q () { s with heap:=h',toks:=s.toks+2 }):
  Lm (LJ prog w) A (setAttr (.ref x) name v) Q E s:=by
 obtain⟨od,J,hl⟩:=I.look;refine PySem.W.set_plain X J hs (PySem.W.osa_open (s:={ s with toks:=s.toks+1 }) (r:=none) X J hp ht λb=>?_);obtain⟨cd,hc,hd'⟩:=PySem.W.any_some hh;have hx:s.heap.get? x=some ⟨.ref C,some dx,.plain,#[]⟩:=I.obj;refine KE (K7 (KE (KE (wpAny_loadPart hx (KE (Rb (s:={ s with toks:=s.toks+1 }) (PySem.W.looks_clsIn X hc) ?_))))));rw[hd'];refine K7 (a:=some dx) (KE (K7 (KE ?_)));refine wpAny_nsSet1 (s:={ s with toks:=s.toks+1 }) I.ns λh' hn2 hs2=>?_
 obtain⟨oD,esD,epD,hoD,hdD,hcD⟩:=hn2.count (PySem.Within.cons name v hw);refine KE (wpAny_lookBehind hoD (by rw[hdD];exact pastItsLine_dict (LM hcD (by rw[LK];lia))) ?_);exact K7 (h _ ⟨(hs2.2 _ (NF I.ne)).trans I.obj,hn2,I.ne⟩ hs2)
theorem Bz (X:K.In s.heap) (hm:QX K C=true)
  (hi:LP K (.ref C) "__init__"=some (some (.ref f)))(hf:Rr K (.ref f)=some (.type "function"))
  (h:Oo (LJ prog w) (A.under (.builtin "type.__call__" ⟨.ref C::vs,kw⟩)) (.call (.ref f) ⟨.ref (s.heap.objs.size+1)::vs,kw⟩) (PySem.W.InitBack (s.heap.objs.size+1) R)
   { s with heap:=(s.heap.push M').push (NS C s.heap.objs.size) }) :
  Oo (LJ prog w) A (.call (.ref C) ⟨vs,kw⟩) R s:=by
 obtain⟨hh,g,d,t,os⟩:=s;exact PySem.W.make_core (PySem.W.makes_of X hm) (PySem.W.looks_findIn X hi) (λself=>PySem.W.bind_fn X self hf) (.inl rfl) h
end
def gW (f:Str)(v:V):List (Str×V)->List (Str×V)
 |[]=>[(f,v)]
 |(g,x)::r=>if g=f then(g,v)::r else(g,x)::gW f v r
theorem mO (f g:Str)(v:V):∀ fs:List (Str×V),(gW f v fs).lookup g=if g=f then some v else fs.lookup g
 |[]=>by
  show Pp g [(f,v)]=_
  by_cases h:g=f
  ·have hb:(g==f)=true:=NP.mpr h;simp only[Pp,hb,LL h]
  ·have hb:(g==f)=false:=M6.mpr h;simp only[Pp,hb,LB h]
 |(k,x)::r=>by
  have ih:=mO f g v r;rw[show gW f v ((k,x)::r)=(if k=f then(k,v)::r else(k,x)::gW f v r) from rfl]
  by_cases hk:k=f
  ·rw[LL hk]
   by_cases h:g=k
   ·have hb:(g==k)=true:=NP.mpr h;simp only[Pp,hb,LL (h.trans hk)]
   ·have hb:(g==k)=false:=M6.mpr h;simp only[Pp,hb,LB (λe:g=f=>h (e.trans hk.symm))]
  ·rw[LB hk]
   by_cases h:g=k
   ·have hb:(g==k)=true:=NP.mpr h;simp only[Pp,hb,LB (λe:g=f=>hk (h.symm.trans e))]
   ·have hb:(g==k)=false:=M6.mpr h;simp only[Pp,hb];exact ih
theorem mh (f:Str)(v:V):∀ fs:List (Str×V),f∈(gW f v fs).map (·.1)/\∀ g,g∈fs.map (·.1)->g∈(gW f v fs).map (·.1)
 |[]=>⟨by simp[gW],λg h=>by simp at h⟩
 |(k,x)::r=>by
  obtain⟨i1,i2⟩:=mh f v r;rw[show gW f v ((k,x)::r)=(if k=f then(k,v)::r else(k,x)::gW f v r) from rfl]
  by_cases hk:k=f
  ·rw[LL hk];subst hk;exact⟨by simp,λg h=>by simpa using h⟩
  ·rw[LB hk];refine⟨?_,λg h=>?_⟩
   ·rw[LA];exact Le _ i1
   ·rw[LA] at h ⊢;rcases Ln.mp h with e|e
    ·exact Ln.mpr (.inl e)
    ·exact Le _ (i2 g e)
theorem mM (f:Str)(v:V):∀ fs:List (Str×V),(gW f v fs).length<=fs.length+1
 |[]=>by simp[gW]
 |(k,x)::r=>by
  have ih:=mM f v r;rw[show gW f v ((k,x)::r)=(if k=f then(k,v)::r else(k,x)::gW f v r) from rfl]
  by_cases hk:k=f
  ·rw[LL hk,LK,LK];lia
  ·rw[LB hk,LK,LK];lia
theorem jL.some_of (r:jL (some v) o):∃ u,o=some u/\aY v u:=by
 cases o with
 |none=>exact(show False from r).elim
 |some u=>exact⟨u,rfl,r⟩
theorem jL.none_of (r:jL none o):o=none:=by
 cases o with
 |none=>rfl
 |some u=>exact(show False from r).elim
theorem Ad (r:aY v u):UW u=true:=by
 cases v with
 |non=>cases(show u=Ma from r);rfl
 |bl b=>cases(show u=Ox b from r);rfl
 |int i=>obtain⟨t,e⟩:=(show ∃ t,u=PU i t from r);cases e;rfl
 |str x=>obtain⟨t,e⟩:=(show ∃ t,u=RI x t from r);cases e;rfl
 |byt b=>obtain⟨t,e⟩:=(show ∃ t,u=Value.bytes b t from r);cases e;rfl
 |flt b=>obtain⟨t,e⟩:=(show ∃ t,u=U8 b t from r);cases e;rfl
 |ref a=>cases(show u=LH a from r);rfl
 |ty n=>cases(show u=Oy n from r);rfl
section
variable {P:Lz}{w:LX}{H H':Hp}{h h':Ng}{a C dx:Lg}{fs fs':List (Str×V)}
theorem nK (hok:jd P w H h)(e:H a=some (.ins C dx fs)):∃ mA,wP h a dx C mA/\(∀ f,jL (fs.lookup f) (mA f))/\UP mA (fs.map (·.1))/\fs.length<=1000/\H dx=some (.own a):=by
 obtain⟨d,z,ne,ob,mA,n,r,q⟩:=(show bv P w H h a (.ins C dx fs) from hok a _ e)
 exact⟨mA,⟨ob,n,ne⟩,r,q,z,d⟩
end
structure FO (K:HD)(C:Lg):Prop where
 pg:Pj K C Str.empty=true
 hd:P9 K C=true
 po:RF K C=true
 sa:LP K (.ref C) "__setattr__"=some (some (.builtin "object.__setattr__"))
theorem FO.get {K:HD}{C:Lg}(c:FO K C)(f:Str):Pj K C f=true:=c.pg
def oY (K:HD)(C:Lg)(f:Str):Prop:=LP K (.ref C) f=some none
theorem oY.taker {K:HD}{C:Lg}{f:Str}(n:oY K C f):SU K C f=some none:=by
 unfold SU;rw[show LP K (.ref C) f=some none from n];rfl
structure DM (K:HD)(C:Lg)(m:Str)(f:Lg):Prop where
 at_:LP K (.ref C) m=some (some (.ref f))
 fn:Oh K (.ref f)=true
 kp:LR K (.ref f)=true
section
variable {X:Cx}{pins:List (Lg×Obj)}{σ:St}{H:Hp}{s:K_}{a C dx:Lg}{fs:List (Str×V)}{f:Str}{v:V}{A:L9}{E:K9->K_->Prop}
theorem xI (I:aD X pins σ H s) (e:H a=some (.ins C dx fs)) (c:FO X.K C) (n:oY X.K C f) (l:fs.lookup f=some v)
  (h:∀ u s',aD X pins σ H s'->aY v u->Q u s'):Lm (LJ X.prog X.w) A (getAttr (.ref a) f b) Q E s:=by
 obtain⟨mA,O,r,_,_,_⟩:=nK I.hok e;obtain⟨u,hu,ru⟩:=jL.some_of (v:=v) (o:=mA f) (by rw[<- l];exact r f);exact EV I.kIn O (c.get f) c.hd n hu (Ad ru) (h u _ (I.tok _) ru)
theorem j_ (I:aD X pins σ H s) (e:H a=some (.ins C dx fs)) (c:FO X.K C) (k:DM X.K C m g) (l:fs.lookup m=none)
  (h:Q (.ref g,[.ref a]) s):Lm (LJ X.prog X.w) A (getMethod (.ref a) m pl) Q E s:=by
 obtain⟨mA,O,r,_,_,_⟩:=nK I.hok e;have hn:mA m=none:=jL.none_of (by rw[<- l];exact r m);exact Cb I.kIn O (c.get m) k.at_ k.fn hn h
theorem xE (I:aD X pins σ H s) (e:H a=some (.ins C dx fs)) (c:FO X.K C) (n:oY X.K C f) (hl:fs.length < 1000) (ry:aY y u)
  (h:∀ s',aD X pins σ (upd H a (.ins C dx (gW f y fs))) s'->Q () s'):Lm (LJ X.prog X.w) A (setAttr (.ref a) f u) Q E s:=by
 obtain⟨mA,O,r,wi,_,ho⟩:=nK I.hok e;have hz:(fs.map (·.1)).length<=Ly:=by rw[K',Nk];lia
 refine EF I.kIn O c.sa c.po n.taker c.hd wi hz λh' O' sb=>h _ ?_
 have hd:∃ o,h'.get? dx=some o:=let ⟨o,_,_,e',_⟩:=O'.ns;⟨o,e'⟩
 refine I.write (x:=a) (e:=dx) (by rw[e];exact True.intro) (.inr ho) (λb q hb z=>(sb.2 b hb).trans z) hd ?_;refine⟨by rw[aq O.ne];exact ho,?_,O.ne,O'.obj,_,O'.ns,λg=>?_,λg hg=>?_⟩
 ·have:=mM f y fs;lia
 ·show jL ((gW f y fs).lookup g) (if g=f then some u else mA g);rw[mO]
  by_cases q:g=f
  ·rw[LL q,LL q];exact ry
  ·rw[LB q,LB q];exact r g
 ·by_cases q:g=f
  ·rw[q];exact(mh f y fs).1
  ·refine(mh f y fs).2 g (wi g λz=>hg ?_);show(if g=f then some u else mA g)=none;rw[LB q];exact z
theorem aD.made (I:aD X pins σ H s):aD X pins σ (upd (upd H s.heap.objs.size (.own (s.heap.objs.size + 1))) (s.heap.objs.size + 1) (.ins C s.heap.objs.size []))
  { s with heap:=(s.heap.push M').push (NS C s.heap.objs.size) }:=by
 have e1:(s.heap.push M').get? s.heap.objs.size=some M':=Ld s.heap rfl;have e2:((s.heap.push M').push (NS C s.heap.objs.size)).get? (s.heap.objs.size+1)=some (NS C s.heap.objs.size):=by
  have:=Ld (s.heap.push M') (o:=NS C s.heap.objs.size) rfl
  rwa [Mw] at this
 have e3:(s.heap.push M').Ns s.heap.objs.size (λ_=>none):=⟨M',#[],_,e1,rfl,(λe he=>absurd he (by simp)),λ_=>rfl⟩
 have I1:=I.laid (a:=s.heap.objs.size) (o:=.own (s.heap.objs.size+1)) (h':=s.heap.push M') (t':=s.toks) (λb u q=>K6 _ q) (Lc _) ⟨_,e1⟩;refine I1.laid (a:=s.heap.objs.size+1) (o:=.ins C s.heap.objs.size []) (t':=s.toks) (λb u q=>K6 _ q) (UL (Mw _ _)) ?_;have ne:s.heap.objs.size≠s.heap.objs.size+1:=Lp (Ou _);refine⟨by rw[aq ne,ae],LY _,ne,e2,λ_=>none,(Heap.Ns1.of_empty e3).at λo q=>K6 _ q,λ_=>True.intro,λy hy=>absurd rfl hy⟩
theorem Eg (hb:R1 e f env (O7 e env)=O7 e env)
  (h:Lm (LJ prog w) A (O7 e env) (λo s₁=>Lm (LJ prog w) A (getAttr o f true) Q E s₁) E s):Lm (LJ prog w) A (O7 (.Attribute e f pos) env) Q E s:=
 Attribute_any_ h (by rw[arm_eval_Attribute,hb])
end
section
variable {X:Cx}{pins:List (Lg×Obj)}{σ:St}{H:Hp}{s:K_}{A:L9}{E:K9->K_->Prop}{Q:K9->K_->Prop}{c:K9}{b:Bool}
inductive ku (K:HD)(H:Hp):V->K9->Prop where
 |non:ku K H .non (.type "NoneType")
 |bl (x:Bool):ku K H (.bl x) (.type "bool")
 |int (i:Int):ku K H (.int i) (.type "int")
 |str (x:Str):ku K H (.str x) (.type "str")
 |flt (x:UInt64):ku K H (.flt x) (.type "float")
 |lst {a:Lg}{xs:List V} (e:H a=some (.lst xs)):ku K H (.ref a) (.type "list")
 |frz {a:Lg}{o:Obj}{xs:List V} (e:H a=some (.frz o (.lst xs))):ku K H (.ref a) (.type "list")
 |tup {a:Lg}{xs:List V} (e:H a=some (.tup xs)):ku K H (.ref a) (.type "tuple")
 |dK {a:Lg}{kvs:List (eK×V)} (e:H a=some (.dK kvs)):ku K H (.ref a) (.type "dict")
 |dT {a:Lg}{kvs:List (List eK×V)} (e:H a=some (.dT kvs)):ku K H (.ref a) (.type "dict")
 | ins {a C dx:Lg}{fs:List (Str × V)} (e:H a=some (.ins C dx fs)) (cl:FO K C) (ha:LP K (.ref C) "__class__"=some (some (.builtin "object.__class__")))
   (hn:P_ K (.builtin "object.__class__") "__get__"=some (some (.builtin "getset_descriptor.__get__")))(htk:QZ K (.builtin "object.__class__")=some true)
   (hm:PQ K C (.type "object")=some true):ku K H (.ref a) (.ref C)
theorem Dj (I:aD X pins σ H s)(rx:aY x u)(ty:ku X.K H x t):∃ Z,PySem.W.KitX X.K u t Z/\Z s.heap/\u≠.builtin "__main__.__loader__#opaque":=by
 cases ty with
 |non=>cases(show u=Ma from rx);exact⟨_,PySem.W.kitx_none,True.intro,λz=>nomatch z⟩
 |bl y=>cases(show u=Ox y from rx);exact⟨_,PySem.W.kitx_bool,True.intro,λz=>nomatch z⟩
 |int i=>obtain⟨t,q⟩:=(show ∃ t,u=PU i t from rx);cases q;exact⟨_,PySem.W.kitx_int,True.intro,λz=>nomatch z⟩
 |str y=>obtain⟨t,q⟩:=(show ∃ t,u=RI y t from rx);cases q;exact⟨_,PySem.W.kitx_str,True.intro,λz=>nomatch z⟩
 |flt y=>obtain⟨t,q⟩:=(show ∃ t,u=U8 y t from rx);cases q;exact⟨_,PySem.W.kitx_float,True.intro,λz=>nomatch z⟩
 |@lst a xs ea=>
  cases(show u=LH a from rx);obtain⟨_,_,n,_,h1⟩:=(show bv X.prog X.w H s.heap a (.lst xs) from I.hok a _ ea)
  exact⟨_,Uu,⟨_,h1,rfl⟩,λz=>nomatch z⟩
 |@frz a ob xs ea=>
  cases(show u=LH a from rx);obtain⟨_,_,_,n,_,h1⟩:=(show bv X.prog X.w H s.heap a (.frz ob (.lst xs)) from I.hok a _ ea)
  exact⟨_,Uu,⟨_,h1,rfl⟩,λz=>nomatch z⟩
 |@tup a xs ea=>
  cases(show u=LH a from rx);obtain⟨_,_,_,p⟩:=(show bv X.prog X.w H s.heap a (.tup xs) from I.hok a _ ea)
  obtain⟨o,h1,h2,_⟩:=p;exact⟨_,PySem.W.kitx_tuple,⟨o,h1,h2⟩,λz=>nomatch z⟩
 |@dK a kvs ea=>
  cases(show u=LH a from rx);obtain⟨_,_,vs,_,p⟩:=(show bv X.prog X.w H s.heap a (.dK kvs) from I.hok a _ ea)
  obtain⟨o,es,ep,h1,h2,_⟩:=p;exact⟨_,Ut,⟨o,h1,h2.1⟩,λz=>nomatch z⟩
 |@dT a kvs ea=>
  cases(show u=LH a from rx);obtain⟨_,_,xs,_,o,es,ep,h1,h2,_⟩:=(show bv X.prog X.w H s.heap a (.dT kvs) from I.hok a _ ea)
  exact⟨_,Ut,⟨o,h1,h2.1⟩,λz=>nomatch z⟩
 |@ins a C dx fs ea cl ha hn htk hm=>
  cases(show u=LH a from rx);obtain⟨mA,O,_⟩:=nK I.hok ea;obtain⟨od,J,_⟩:=O.look;exact⟨_,(PySem.W.kitx_own (cl.get _) cl.hd ha hn htk hm),J,λz=>nomatch z⟩
theorem my (I:aD X pins σ H s) (rx:aY x u) (ty:ku X.K H x t) (e:Qg X.K t c=some b) (h:∀ tk,Q (.bool b) { s with toks:=tk }) :
  Lm (LJ X.prog X.w) A (call (.builtin "isinstance") [u,c]) Q E s:=by
 obtain⟨Z,a,b,c⟩:=Dj I rx ty;exact PySem.W.kia_one a I.kIn b e c h
end
structure Room (k:Nat)(A:L9):Prop where
 hd:A.handled=none
 dp:A.depth+3*k+5<recursionLimit
 un:A.units+16*k+200<cLine
theorem Room.mono {j k:Nat}(r:Room k A)(h:j<=k):Room j A:=⟨r.hd,by have:=r.dp;lia,by have:=r.un;lia⟩
theorem Room.deeper {k:Nat}(r:Room (k+1) A)(env:Env):Room k (A.deeper env):=
 ⟨r.hd,by have:=r.dp;show A.depth+1+3*k+5<_;lia,by have:=r.un;show A.units+3+16*k+200<_;lia⟩
theorem wJ {A:L9}{C:Lg}{us:List K9}{kw:List (Str×K9)}:(A.under (.builtin "type.__call__" ⟨.ref C::us,kw⟩)).depth=A.depth+1:=by
 first|rfl|simp[UC,Code.weight,Code.isCreation,Code.isGuard,Code.isCaller,Code.frames,UE,guardIds]
theorem wz {A:L9}{C:Lg}{us:List K9}{kw:List (Str×K9)}:(A.under (.builtin "type.__call__" ⟨.ref C::us,kw⟩)).units=A.units+1:=by
 first|rfl|simp[UC,Code.cUnits,Code.frames,UE]
theorem Room.make {k:Nat}(r:Room (k+1) A)(C:Lg)(us:List K9)(kw:List (Str×K9)):Room k (A.under (.builtin "type.__call__" ⟨.ref C::us,kw⟩)):=
 ⟨r.hd,by have:=r.dp;rw[wJ];lia,by have:=r.un;rw[wz];lia⟩
theorem Room.depth {k:Nat}(r:Room k A):A.depth<recursionLimit:=by have:=r.dp;lia
theorem Room.units {k:Nat}(r:Room k A):A.units+64<cLine:=by have:=r.un;lia
def Ax:TA:=λ_ H Q=>Q [] H
def uz (ta:TE)(tr:TA):TA:=λσ H Q=>ta σ H λx H1=>tr σ H1 λxs H2=>Q (x::xs) H2
section
variable {X:Cx}{e:Nq}{es:List Nq}{te:TE}{t:TA}{pos:Pos}
theorem tD:PA X [] Ax:=λ_ _ _ _ H Q I h=>Ue ⟨[],H,I,.nil,h⟩
theorem nO (ha:PE X e te)(hr:PA X es t)(hs:LN (e::es) X.env=(false,O7 e X.env)::LN es X.env:=by rfl):PA X (e::es) (uz te t):=by
 intro pos pins s σ H Q I h;rw[hs];show Lm _ _ (spliced ((false,O7 e X.env)::QC pos (LN es X.env))) _ _ s;refine TN (bP (ha pins s σ H _ I h) λu s1 ⟨x,H1,I1,r1,q1⟩=>?_);exact bP (hr pos pins s1 σ H1 _ I1 q1) λus s2 ⟨xs,H2,I2,r2,q2⟩=>⟨x::xs,H2,I2,.cons r1 r2,q2⟩
def J1 (t:TA):TE:=λσ H Q=>t σ H λxs H1=>xs.length<=Ly/\∀ p,H1 p=none->Q (.ref p) (upd H1 p (.tup xs))
def JC (t:TA):TE:=λσ H Q=>t σ H λxs H1=>xs.length<=Ly/\∀ p,H1 p=none->Q (.ref p) (upd H1 p (.lst xs))
theorem bT {x1}(h:WA X es t):WE X (.Tuple es x1 pos) (J1 t):=by
 have h:=h.go;refine⟨?_⟩;intro pins s σ H Q I hq;refine wpAny_Tuple_spliced (bP (h pos pins s σ H _ I hq) λus s1 ⟨xs,H1,I1,r,z,q⟩=>⟨by rw[<- r.length];exact z,?_⟩);have hf:H1 s1.heap.objs.size=none:=I1.hok.fresh (Lc _);refine⟨.ref s1.heap.objs.size,upd H1 s1.heap.objs.size (.tup xs),I1.laid (t':=s1.toks) (λb u e=>K6 _ e) (Lc _) ?_,rfl,q _ hf⟩;exact⟨z,us,r,⟨_,Ld _ rfl,rfl,_,rfl⟩⟩
theorem bN (h:WA X es t):WE X (.List es pos) (JC t):=by
 have h:=h.go;refine⟨?_⟩;intro pins s σ H Q I hq;refine wpAny_List_spliced (bP (h pos pins s σ H _ I hq) λus s1 ⟨xs,H1,I1,r,z,q⟩=>⟨by rw[<- r.length];exact z,?_⟩);have hf:H1 s1.heap.objs.size=none:=I1.hok.fresh (Lc _);refine⟨.ref s1.heap.objs.size,upd H1 s1.heap.objs.size (.lst xs),I1.laid (t':=s1.toks) (λb u e=>K6 _ e) (Lc _) ?_,rfl,q _ hf⟩;exact⟨z,us,0,r,Ld _ rfl⟩
end
abbrev Sp:=List V->Hp->VK->XK->Prop
abbrev jG:=List Env->Hp->K_->XK->K9->K_->Prop
structure xW (P:Lz)(w:LX)(K:HD)(mg:Str->Option K9)(base:Ng)(A:L9)(outer:List Env)(s:K_)(H:Hp):Prop where
 frames:A.frames=some outer
 mod:Mod K mg base
 bs:∀ b o,base.get? b=some o->s.heap.get? b=some o/\H b=none
 bsz:base.objs.size<=s.heap.objs.size
 funs:s.heap.FunFrames base outer
 frf:∀ b∈v5 outer,H b=none
 hok:jd P w H s.heap
 bare:Ts s.gens
def CE (outer:List Env)(P:Lz)(w:LX)(H:Hp)(s:K_)(Q:VK)(u:K9)(s':K_):Prop:=
 ∃ v H',s'.os=s.os/\Ts s'.gens/\Un (v5 outer) [] H H' s.heap s'.heap/\jd P w H' s'.heap/\aY v u/\Q v H'
def CR (CX:jG)(outer:List Env)(P:Lz)(w:LX)(H:Hp)(s:K_)(Q:VK)(E:XK)(r:U7)(s':K_):Prop:=
 match r with
 |.ok (.ret u)=>CE outer P w H s Q u s'
 |.ok _=>False
 |.error e=>CX outer H s E e s'
structure iy (P:Lz)(w:LX)(K:HD)(mg:Str->Option K9)(base:Ng)(CX:jG)(k:Nat)(f:Lg)(fd:MW)(ps:List Str)(sp:Sp):Prop where
 len:∀ vs H Q E,sp vs H Q E->vs.length=ps.length
 run:∀ (A:L9) (outer:List Env) (s:K_) (H:Hp) (args:Args) (us:List K9) (vs:List V) (Q:VK) (E:XK),Room k A->xW P w K mg base A outer s H->Tu s fd args (ps.zip us)->aF vs us->sp vs H Q E ->
  Oo (LJ P w) A (.call (.ref f) args) (CR CX outer P w H s Q E) s
theorem iy.mono {P:Lz}{w:LX}{K:HD}{mg:Str->Option K9}{base:Ng}{CX:jG}{j k:Nat}{f:Lg}{fd:MW}{ps:List Str}{sp:Sp} (F:iy P w K mg base CX j f fd ps sp) (h:j <= k) :
  iy P w K mg base CX k f fd ps sp:=⟨F.len,λA outer s H args us vs Q E hr=>F.run A outer s H args us vs Q E (hr.mono h)⟩
theorem xW.make {P:Lz}{w:LX}{K:HD}{mg:Str->Option K9}{base:Ng}{A:L9}{outer:List Env}{s:K_}{H:Hp} (e:xW P w K mg base A outer s H) (C:Lg) (us:List K9) (kw:List (Str × K9)) :
  xW P w K mg base (A.under (.builtin "type.__call__" ⟨.ref C::us,kw⟩)) outer s H:=⟨by first|exact e.frames|(simpa [UC,Code.envs,UE,pushEnvs] using e.frames),e.mod,e.bs,e.bsz,e.funs,e.frf,e.hok,e.bare⟩
section
variable {X:Cx}{pins:List (Lg×Obj)}{σ:St}{H:Hp}{s s':K_}
theorem aD.env0 (I:aD X pins σ H s):xW X.prog X.w X.K X.mg X.base X.A X.stack s H:=
 ⟨I.ok.frames,I.ok.mod,I.bs,LM I.ok.bsz I.sz,I.stack,I.stkFree,I.hok,I.bare⟩
theorem aD.after (I:aD X pins σ H s)(h:CE X.stack X.prog X.w H s Q u s'):EP X pins σ Q u s':=by
 obtain⟨v,H',os,bare,un,hok,r,q⟩:=h;obtain⟨hh,g,d,t,os'⟩:=s';obtain rfl:os'=s.os:=os;exact⟨v,H',I.call (h':=hh) (g':=g) (d':=d) (t':=t) (ch:=[]) un hok bare (λb z=>absurd z (by simp)),r,q⟩
end
def Bu (sp:Sp)(dvs:List V)(E:XK)(t:TA):TE:=λσ H Q=>t σ H λvs H1=>sp (vs++dvs) H1 Q E
def jZ (K:HD)(fd:MW)(ps:List Str)(ds:List K9):Prop:=
 ∀ (s:K_) (us:List K9),K.In s.heap->(us++ds).length=ps.length->Tu s fd ⟨us,[]⟩ (ps.zip (us++ds))
theorem jZ.all {K:HD}{fd:MW}{ps:List Str}(h:∀ us:List K9,us.length=ps.length->MM fd ⟨us,[]⟩=pure (ps.zip us)):jZ K fd ps []:=λs us _ hl=>by
 rw[PJ] at hl ⊢;exact .of_eq (h us hl)
def qg (CX:jG)(X:Cx)(E:XK):Prop:=∀ (pins:List (Lg×Obj)) (σ:St) (H:Hp) (s:K_) (e:K9) (s':K_),aD X pins σ H s->CX X.stack H s E e s'->X.xe e s'
section
variable {X:Cx}{CX:jG}{k:Nat}{f C:Lg}{fd:MW}{ps:List Str}{sp:Sp}{dvs:List V}{ds:List K9}{E:XK}{x m:Str}{p pos apos:Pos}{e o:Nq}{es:List Nq}{ta:TE}{t:TA}
theorem rO (F:iy X.prog X.w X.K X.mg X.base CX k f fd ps sp) (hr:Room k X.A) (hb:jZ X.K fd ps ds) (hd:aF dvs ds) (hx:qg CX X E)
  (I:aD X pins σ H s)(r:aF vs us)(h:sp (vs++dvs) H Q E):Lm (LJ X.prog X.w) X.A (call (.ref f) us) (EP X pins σ Q) X.xe s:=by
 have r2:aF (vs++dvs) (us++ds):=r.append hd;have hl:(us++ds).length=ps.length:=by rw[<- r2.length];exact F.len _ _ _ _ h
 refine QO (Pu (F.run X.A X.stack s H ⟨us,[]⟩ (us++ds) (vs++dvs) Q E hr I.env0 (hb s us I.kIn hl) r2 h) λr s' hq=>?_);cases r with
 |error e=>exact hx pins σ H s e s' I hq
 |ok fl=>
  cases fl with
  |ret u=>exact I.after hq
  |next=>exact Nm hq
  |brk=>exact Nm hq
  |cont=>exact Nm hq
theorem Er (F:iy X.prog X.w X.K X.mg X.base CX k f fd ps sp) (hr:Room k X.A) (hg:Gl X x) (hm:X.mg x=some (.ref f)) (hk:LR X.K (.ref f)=true) (hb:jZ X.K fd ps ds) (hd:aF dvs ds) (hx:qg CX X E)
  (ha:PA X (e::es) t)(hdb:(x==("__debug__":Str))=false:=by decide)(he:LN (e::es) X.env=(false,O7 e X.env)::LN es X.env:=by rfl)(hpl:(QC pos (LN es X.env)).any (·.1)=false:=by rfl):
  PE X (.Call (.Name x p) (e::es) [] pos) (Bu sp dvs E t):=by
 intro pins s σ H Q I h;refine MX (jC I hg hm ?_ hdb);refine PP (h₀:=X.base) I.ok.mod.kin hk (bP (ha pos pins s σ H _ I h) λus s1 ⟨vs,H1,I1,r,q⟩=>⟨I1.kIn,?_⟩) he hpl;exact rO F hr hb hd hx I1 r q
structure Mk (K:HD)(C f:Lg):Prop where
 makes:QX K C=true
 init:LP K (.ref C) "__init__"=some (some (.ref f))
 fn:Oh K (.ref f)=true
 kp:LR K (.ref C)=true
theorem Dt (M:Mk X.K C f) (F:iy X.prog X.w X.K X.mg X.base CX k f fd ps sp) (hr:Room (k + 1) X.A) (hb:jZ X.K fd ps ds) (hd:aF dvs ds)
  (hx:qg CX X E)(I:aD X pins σ H s)(r:aF vs us)
  (h:∀ x dx,H x=none->H dx=none->dx≠x->sp (.ref x::(vs++dvs)) (upd (upd H dx (.own x)) x (.ins C dx [])) (λv H2=>v=.non/\Q (.ref x) H2) E):
  Lm (LJ X.prog X.w) X.A (call (.ref C) us) (EP X pins σ Q) X.xe s:=by
 have hq:=h (s.heap.objs.size+1) s.heap.objs.size (I.hok.fresh (TF _)) (I.hok.fresh (Lc _)) (Lp (Ou _));have I2:=aD.made (C:=C) I;have r2:aF (V.ref (s.heap.objs.size+1)::(vs++dvs)) (LH (s.heap.objs.size+1)::(us++ds)):=.cons rfl (r.append hd);have hl:(LH (s.heap.objs.size+1)::us++ds).length=ps.length:=by
  have e:=r2.length;rw[F.len _ _ _ _ hq] at e;exact e.symm
 refine QO (Bz (f:=f) I.kIn M.makes M.init (NP.mp M.fn) (Pu (F.run _ X.stack _ _ ⟨LH (s.heap.objs.size+1)::us,[]⟩ (LH (s.heap.objs.size+1)::(us++ds)) _ _ E (hr.make C us [])
  (I2.env0.make C us []) (hb _ (LH (s.heap.objs.size+1)::us) I2.kIn hl) r2 hq) λr s' hq'=>?_))
 cases r with
 |error e=>exact hx pins σ _ _ e s' I2 hq'
 |ok fl=>
  cases fl with
  |ret u=>
   obtain⟨v,H',I3,rv,ev,q3⟩:=I2.after hq';subst ev;exact⟨rv,⟨V.ref (s.heap.objs.size+1),H',I3,rfl,q3⟩⟩
  |next=>exact Nm hq'
  |brk=>exact Nm hq'
  |cont=>exact Nm hq'
end
def PK (X:Cx)(kws:List Rm)(t:TA):Prop:=
 ∀ (pos:Pos) (pins:List (Lg×Obj)) (s:K_) (σ:St) (H:Hp) (Q:List V->Hp->Prop),aD X pins σ H s->t σ H Q->Lm (LJ X.prog X.w) X.A (evalAll ((S7 pos (Qb kws X.env)).map (·.2))) (AP X pins σ Q) X.xe s
structure WK (X:Cx)(e:List Rm)(t:TA):Prop where
 go:PK X e t
section
variable {X:Cx}{CX:jG}{k:Nat}{f C:Lg}{fd:MW}{ps ks:List Str}{sp:Sp}{E:XK}{x m:Str}{p pos apos kpos:Pos}{e o:Nq}{es:List Nq}{kws:List Rm}{te ta:TE}{t tk:TA}{nm:Option Str}
theorem sv:WK X [] Ax:=by
 exact⟨λ_ _ _ _ H Q I h=>wpAny_evalAll_nil ⟨[],H,I,.nil,h⟩⟩
structure pG (K:HD)(fd:MW)(ps ks:List Str)(g:List K9->List K9->List K9)(gV:List V->List V->List V):Prop where
 to:∀ (s:K_) (us ws:List K9),K.In s.heap->(g us ws).length=ps.length->Tu s fd ⟨us,ks.zip ws⟩ (ps.zip (g us ws))
 rel:∀ {vs:List V}{us:List K9}{zs:List V}{ws:List K9},aF vs us->aF zs ws->aF (gV vs zs) (g us ws)
variable {g:List K9->List K9->List K9}{gV:List V->List V->List V}
theorem Ev (F:iy X.prog X.w X.K X.mg X.base CX k f fd ps sp) (hr:Room k X.A) (hb:pG X.K fd ps ks g gV) (hx:qg CX X E)
  (I:aD X pins σ H s)(r:aF vs us)(rz:aF zs ws)(h:sp (gV vs zs) H Q E):Lm (LJ X.prog X.w) X.A (call (.ref f) us (ks.zip ws)) (EP X pins σ Q) X.xe s:=by
 have r2:=hb.rel r rz;have hl:(g us ws).length=ps.length:=by rw[<- r2.length];exact F.len _ _ _ _ h
 refine QO (Pu (F.run X.A X.stack s H ⟨us,ks.zip ws⟩ (g us ws) (gV vs zs) Q E hr I.env0 (hb.to s us ws I.kIn hl) r2 h) λr s' hq=>?_);cases r with
 |error e=>exact hx pins σ H s e s' I hq
 |ok fl=>
  cases fl with
  |ret u=>exact I.after hq
  |next=>exact Nm hq
  |brk=>exact Nm hq
  |cont=>exact Nm hq
end
structure av (N P:List Str)(sc:Pq):Prop where
 kind:sc.kind=.function
 co:sc.isCoroutine=false
 gen:sc.isGenerator=false
 nd:N.Nodup
 pre:N.take P.length=P
 par:∀ x∈P,sc.names.lookup x=some .local\/sc.names.lookup x=some .cell
 nofree:∀ y∈sc.names,y.2≠.free
theorem qR {kindOf:Str->Option OE}{x:Str}:∀ {binds:List (Str×K9)}{m:Str->Option K9},(∀ v,(x,v)∉binds)->bindL kindOf binds m x=m x
 |[],_,_=>rfl
 |(n,v)::r,m,h=>by
  unfold bindL;rw[qR λw hw=>h w (Le _ hw)]
  split
  ·have:x≠n:=by rintro rfl;exact h v Lr
   simp[this]
  ·rfl
theorem rC {kindOf:Str->Option OE}{x:Str}:∀ {binds:List (Str×K9)}{m:Str->Option K9},(∀ v,(x,v)∉binds)->bindC kindOf binds m x=m x
 |[],_,_=>rfl
 |(n,v)::r,m,h=>by
  unfold bindC;rw[rC λw hw=>h w (Le _ hw)]
  split
  ·rfl
  ·have:x≠n:=by rintro rfl;exact h v Lr
   simp[this]
theorem rq {kindOf:Str->Option OE}{x:Str}{v:K9}:∀ {P:List Str}{vs:List K9}{i:Nat}{m:Str->Option K9},P.Nodup->P[i]?=some x->vs[i]?=some v->kindOf x=some .local ->
  bindL kindOf (P.zip vs) m x=some v
 |[],_,_,_,_,h,_,_=>by simp at h
 |_::_,[],_,_,_,_,h,_=>by simp at h
 |p::P,w::vs,0,m,nd,h1,h2,hk=>by
  simp at h1 h2;subst h1;subst h2;show bindL kindOf ((p,w)::P.zip vs) m p=_;unfold bindL;rw[qR λv hv=>(Nw.mp nd).1 (SG hv).1,LL hk];simp
 |p::P,w::vs,i+1,m,nd,h1,h2,hk=>by
  show bindL kindOf ((p,w)::P.zip vs) m x=_;unfold bindL;exact rq (i:=i) (Nw.mp nd).2 (by simpa using h1) (by simpa using h2) hk
theorem q9 {kindOf:Str->Option OE}{x:Str}{v:K9}:∀ {P:List Str}{vs:List K9}{i:Nat}{m:Str->Option K9},P.Nodup->P[i]?=some x->vs[i]?=some v->kindOf x ≠ some .local ->
  bindC kindOf (P.zip vs) m x=some v
 |[],_,_,_,_,h,_,_=>by simp at h
 |_::_,[],_,_,_,_,h,_=>by simp at h
 |p::P,w::vs,0,m,nd,h1,h2,hk=>by
  simp at h1 h2;subst h1;subst h2;show bindC kindOf ((p,w)::P.zip vs) m p=_;unfold bindC;rw[rC λv hv=>(Nw.mp nd).1 (SG hv).1,LB hk];simp
 |p::P,w::vs,i+1,m,nd,h1,h2,hk=>by
  show bindC kindOf ((p,w)::P.zip vs) m x=_;unfold bindC;exact q9 (i:=i) (Nw.mp nd).2 (by simpa using h1) (by simpa using h2) hk
def iE (N:List Str)(vs:List V):St:=vs.map some++LD (N.length-vs.length) none
def qu (CX:jG)(P:Lz)(w:LX)(K:HD)(mg:Str->Option K9)(base:Ng)(N:List Str)(qual:Str)(scope:Pq)(f:Lg)(cd:K9)(A:L9)(outer:List Env)(s:K_)(H:Hp)(E:XK):Cx where
 prog:=P
 w:=w
 K:=K
 mg:=mg
 base:=base
 A:=A.deeper (Sj qual scope s.heap.objs.size f cd)
 N:=N
 s₀:=s
 H₀:=H
 env:=Sj qual scope s.heap.objs.size f cd
 outer:=outer
 stack:=Sj qual scope s.heap.objs.size f cd::outer
 ex:=[]
 calm:=true
 fn:=λ_=>true
 pn:=[]
 xe:=λe s'=>Lm (LJ P w) (A.deeper (Sj qual scope s.heap.objs.size f cd)) (leaving (Sj qual scope s.heap.objs.size f cd) e) (λ_ s''=>CX outer H s E e s'') (λe' s''=>CX outer H s E e' s'') s'
theorem vg {sc:Pq}{n:Nat}{x:Str}(h:sc.names.lookup x=some .cell):∃ c,(PV n sc.names []).lookup x=some c:=by
 have q:=OA sc.names n [] (.inl h);exact M8.mp q
theorem Aa {CX:jG}{P:Lz}{w:LX}{K:HD}{mg:Str->Option K9}{base:Ng}{N ps:List Str}{qual:Str}{scope:Pq}{f:Lg}{cd:K9}{A:L9}{outer:List Env}{s s1:K_}{H:Hp}{E:XK}{us:List K9}{vs:List V}
  (S:av N ps scope)(hd:A.handled=none)(e0:xW P w K mg base A outer s H)(hl:vs.length=ps.length)(r:aF vs us)
  (x:InCallC s s.heap.objs.size (bindL (Sj qual scope s.heap.objs.size f cd).kindOf (ps.zip us) λ_=>none) (PV (s.heap.objs.size+1) scope.names []) (bindC (Sj qual scope s.heap.objs.size f cd).kindOf (ps.zip us) λ_=>none) s1):
  aD (qu CX P w K mg base N qual scope f cd A outer s H E) [] (iE N vs) H s1:=by
 have hpl:ps.length<=N.length:=by have:=NE P7 S.pre;rw[L5] at this;lia
 obtain⟨h1,tk,rfl,hk⟩:=x.done;have noA:∀ b:Lg,b∉(qu CX P w K mg base N qual scope f cd A outer s H E).ex:=λb z=>absurd (show b∈([]:List Lg) from z) (by simp)
 refine⟨⟨e0.mod,S.kind,rfl,rfl,Lc _,λy z c h1 h2=>?_,λy hy=>?_,λy c _ h=>?_,λ_=>hd,Around.frames_deeper e0.frames,.inr ⟨rfl,rfl⟩,λb z=>absurd z (noA b),e0.bs,e0.bsz,λb _ _=>noA b,λb z=>absurd z (noA b),e0.funs,e0.frf⟩,
  rfl,e0.bare,Un.kept hk,⟨_,x.toInCall.ns,λi y v h1 h2 h3=>?_⟩,λy c h=>⟨_,x.cell y c h⟩,e0.hok.fresh (Lc _),λy c h=>?_,λp hp=>absurd (show p∈([]:List (Lg×Obj)) from hp) (by simp),e0.hok.kept hk,?_⟩
 ·exact name_of_addr x.apart (Nn h1) (Nn h2)
 ·have hy:scope.names.lookup y=some .cell\/scope.names.lookup y=some .free:=hy;rcases hy with hy|hy
  ·exact vg hy
  ·exact absurd rfl (S.nofree _ (Nn hy))
 ·exact Nx (x.above y c (Nn h))
 ·have hi:i<vs.length:=by
   unfold iE at h2
   by_cases hi:i<vs.length
   ·exact hi
   ·rw[MT (by simpa using hi)] at h2;rw[PL] at h2
    split at h2<;>cases h2
  have ha:vs[i]?=some v:=by
   unfold iE at h2;rw[Nr (by simpa using hi),Lk] at h2;cases e:vs[i]? with
   |none=>rw[e] at h2;cases h2
   |some a=>rw[e] at h2;cases h2;rfl
  obtain⟨u,hu,rv⟩:=r.get ha;have hp:ps[i]?=some y:=by
   rw[<- S.pre,List.getElem?_take_of_lt (by lia)];exact h1
  have ndP:ps.Nodup:=by rw[<- S.pre];exact S.nd.sublist (Uq _ _)
  refine⟨u,rv,?_⟩;rcases S.par y (Lq hp) with k|k
  ·exact .inl ⟨k,rq ndP hp hu k⟩
  ·obtain⟨c,e⟩:=vg (n:=s.heap.objs.size+1) k;refine .inr ⟨.inl k,c,e,?_⟩;have q:=x.cell y c e;rw[q9 ndP hp hu (by show scope.names.lookup y≠_;rw[k];decide)] at q;exact q
 ·exact e0.hok.fresh (Nx (x.above y c (Nn h)))
 ·unfold iE;show _=N.length;rw[LC,K',SF];lia
theorem ux {CX:jG}{P:Lz}{w:LX}{K:HD}{mg:Str->Option K9}{base:Ng}{k:Nat}{f:Lg}{name qual:Str}{params:TM}{body:List NO}{scope:Pq}{dV kV doc pm cdv ct oc:K9}{an od:Option Lg}
  {osl:Array (Option K9)}{N ps:List Str}{sp:Sp}(lk:K.lookup f=some ⟨oc,od,.func (LG name qual params body scope dV kV doc pm an cdv ct),osl⟩)(hcd:L8 K cdv qual=true)(S:av N ps scope)
  (len:∀ vs H Q E,sp vs H Q E->vs.length=ps.length)
  (bb:∀ (A:L9) (outer:List Env) (s:K_) (H:Hp) (vs:List V) (Q:VK) (E:XK),Room k (A.deeper (Sj qual scope s.heap.objs.size f cdv))->sp vs H Q E ->
   ∃ t,DT (qu CX P w K mg base N qual scope f cdv A outer s H E) body t/\t { nx:=λ_ H'=>Q .non H',rt:=Q } (iE N vs) H) :
  iy P w K mg base CX (k+1) f (LG name qual params body scope dV kV doc pm an cdv ct) ps sp:=by
 refine⟨len,λA outer s H args us vs Q E hr e0 hb r hsp=>?_⟩;have hl:=len _ _ _ _ hsp;have KX:K.In s.heap:=e0.mod.kin.keeps λb o e=>(e0.bs b o e).1
 have lim:s.heap.NoLimit:=e0.mod.nolimit.keeps λb o e=>(e0.bs b o e).1
 have hkind:∀ y∈ps.zip us,scope.names.lookup y.1=some .local\/(scope.names.lookup y.1=some .cell/\((PV (s.heap.objs.size+1) scope.names []).lookup y.1).isSome=true):=λ⟨n,v⟩ hy=>by
  rcases S.par n (SG hy).1 with q|q
  ·exact .inl q
  ·exact .inr ⟨q,OA _ _ _ (.inl q)⟩
 refine codeAny_call_function hr.depth (KX _ _ lk) rfl S.co S.gen rfl (PySem.W.codeRec_of KX hcd) (hb _ _ _ _ ?_);refine wpAny_newFunctionEnv_cells S.kind hkind λenv he s1 x=>?_
 subst he;refine⟨lim.keeps x.toInCall.keep,codeAny_func ?_⟩;obtain⟨t,ht,hq⟩:=bb A outer s H vs Q E (hr.deeper _) hsp;have I:aD (qu CX P w K mg base N qual scope f cdv A outer s H E) [] (iE N vs) H s1:=Aa S hr.hd e0 hl r x;refine Mq (ht [] s1 (iE N vs) H _ I hq) (λfl s' hs=>?_) λe s' hs=>hs
 have fin:∀ {σ':St}{H':Hp}{v:V}{u:K9},aD (qu CX P w K mg base N qual scope f cdv A outer s H E) [] σ' H' s'->aY v u->Q v H'->CE outer P w H s Q u s':=
  λ{σ' H' v u} J rv q=>⟨v,H',J.os,J.bare,J.base,J.hok,rv,q⟩
 cases fl with
 |ret u=>
  obtain⟨v,σ',H',J,rv,q⟩:=hs;exact fin J rv q
 |next=>
  obtain⟨σ',H',J,q⟩:=hs;exact fin (v:=V.non) (u:=Ma) J rfl q
 |brk=>
  obtain⟨_,_,_,q⟩:=hs;exact Nm q
 |cont=>
  obtain⟨_,_,_,q⟩:=hs;exact Nm q
section
variable {X:Cx}{x:Str}{p pos:Pos}{e:Nq}{es:List Nq}{t:TA}{id T:String}{r:List V->Hp->VK->Prop}
def KD (r:List V->Hp->VK->Prop)(t:TA):TE:=λσ H Q=>t σ H λvs H1=>r vs H1 Q
theorem ax (hc:cy X (.builtin id) r) (hg:Gl X x) (hm:X.mg x=none) (hv:Me x=some (.builtin id)) (ha:WA X (e :: es) t) (hn:x ≠ "__name__":=by decide) (hdb:(x == ("__debug__":Str))=false:=by decide)
  (he:LN (e::es) X.env=(false,O7 e X.env)::LN es X.env:=by rfl)(hpl:(QC pos (LN es X.env)).any (·.1)=false:=by rfl):WE X (.Call (.Name x p) (e::es) [] pos) (KD r t):=by
 have ha:=ha.go;refine⟨?_⟩;intro pins s σ H Q I h;refine MX (fW I hg hm hv ?_ hn hdb);exact Qp (bP (ha pos pins s σ H _ I h) λus s1 ⟨vs,H1,I1,r1,q1⟩=>hc pins s1 σ H1 vs us Q I1 r1 q1) he hpl
theorem bW (hc:cy X (.type T) r) (hg:Gl X x) (hm:X.mg x=none) (hv:Me x=some (.type T)) (ha:WA X (e :: es) t) (hn:x ≠ "__name__":=by decide) (hdb:(x == ("__debug__":Str))=false:=by decide)
  (he:LN (e::es) X.env=(false,O7 e X.env)::LN es X.env:=by rfl)(hpl:(QC pos (LN es X.env)).any (·.1)=false:=by rfl):WE X (.Call (.Name x p) (e::es) [] pos) (KD r t):=by
 have ha:=ha.go;refine⟨?_⟩;intro pins s σ H Q I h;refine MX (fW I hg hm hv ?_ hn hdb);exact Ni (bP (ha pos pins s σ H _ I h) λus s1 ⟨vs,H1,I1,r1,q1⟩=>hc pins s1 σ H1 vs us Q I1 r1 q1) he hpl
end
end L2
namespace HT
open PySem PyProof.Rows
section
variable {prog:Lz}{w:LX}{A:L9}{E:K9->K_->Prop}{s:K_}
def sIx (n d:Nat):Option Int->Nat
 |none=>d
 |some v=>if v<0 then(v+(n:Int)).toNat else min v.toNat n
end
end HT
namespace L2
open PySem PySem.Spec PyProof.Rows
abbrev TO:=St->Hp->(Option Int->Hp->Prop)->Prop
def PO (X:Cx)(e:Option Nq)(t:TO):Prop:=
 ∀ (pins:List (Lg×Obj)) (s:K_) (σ:St) (H:Hp) (Q:Option Int->Hp->Prop),aD X pins σ H s->t σ H Q ->
  Lm (LJ X.prog X.w) X.A (evalPart e X.env) (λu s'=>∃ o H',aD X pins σ H' s'/\IsPart u o/\Q o H') X.xe s
structure WO (X:Cx)(e:Option Nq)(t:TO):Prop where
 go:PO X e t
def Es:TO:=λ_ H Q=>Q none H
def Jp (t:TE):TO:=λσ H Q=>t σ H λx H1=>∃ i,x=.int i/\Q (some i) H1
theorem pZ:∀ {us:List K9},aF (ns.map V.int) us->Nu us ns:=by
 induction ns with
 |nil=>intro us r;rw[NL] at r;cases r;exact .nil
 |cons n ns ih=>
  intro us r;rw[LA] at r;cases r with
  |cons r1 r2=>
   obtain⟨t,e⟩:=r1;subst e;exact .cons n t (ih r2)
section
variable {X:Cx}{e:Nq}{te:TE}{lo hi:Option Nq}{tl th:TO}{pos p2:Pos}
theorem ul:WO X none Es:=by
 refine⟨?_⟩;intro pins s σ H Q I h;rw[evalPart_none];exact K7 ⟨none,H,I,.none,h⟩
theorem vt (h:WE X e te):WO X (some e) (Jp te):=by
 have h:=h.go;refine⟨?_⟩;intro pins s σ H Q I hw;rw[evalPart_some];refine bP (h pins s σ H _ I hw) λu s1 ⟨x,H1,I1,r1,q1⟩=>?_
 obtain⟨i,rfl,q⟩:=q1;obtain⟨t,rfl⟩:=r1;exact⟨some i,H1,I1,.int i t,q⟩
def JH (X:Cx)(r:V->Option Int->Option Int->Hp->VK->Prop):Prop:=
 ∀ (pins:List (Lg×Obj)) (s:K_) (σ:St) (H:Hp) (x:V) (v vl vu:K9) (lo hi:Option Int) (sl:Lg) (Q:VK),aD X pins σ H s->aY x v->s.heap.IsSliceOf sl vl vu .none->IsPart vl lo->IsPart vu hi->r x lo hi H Q ->
  ∃ T id,typeLookup (.type T) "__getitem__"=pure (some (.builtin id))/\s.TypeIs v T/\Lm (LJ X.prog X.w) X.A (Uz v (.ref sl)) (EP X pins σ Q) X.xe s
def KJ (r:V->Option Int->Option Int->Hp->VK->Prop)(te:TE)(tl th:TO):TE:=λσ H Q=>te σ H λx H1=>tl σ H1 λl H2=>th σ H2 λu H3=>r x l u H3 Q
theorem qU (hr:JH X r)(he:WE X e te)(hl:WO X lo tl)(hu:WO X hi th):WE X (.Subscript e (.Slice lo hi none p2) pos) (KJ r te tl th):=by
 have he:=he.go;have hl:=hl.go;have hu:=hu.go;refine⟨?_⟩;intro pins s σ H Q I h;refine Uw (bP (he pins s σ H _ I h) λv s1 ⟨x,H1,I1,r1,q1⟩=>?_);refine wpAny_Slice (bP (hl pins s1 σ H1 _ I1 q1) λvl s2 ⟨l,H2,I2,pl,q2⟩=>bP (hu pins s2 σ H2 _ I2 q2) λvu s3 ⟨u,H3,I3,pu,q3⟩=>?_);rw[evalPart_none];refine K7 ?_;have I4:aD X pins σ H3 { s3 with heap:=s3.heap.push { cls:=.type "slice",data:=.fields #[vl,vu,.none] } }:=I3.kept (t':=s3.toks) λb ob q=>K6 _ q
 obtain⟨T,id,hT,ht,hg⟩:=hr pins { s3 with heap:=s3.heap.push { cls:=.type "slice",data:=.fields #[vl,vu,.none] } } σ H3 x v vl vu l u s3.heap.objs.size Q I4 r1 (Heap.IsSliceOf.new ..) pl pu q3;show Lm (LJ X.prog X.w) X.A (Ub e (.Slice lo hi none p2) v (.ref s3.heap.objs.size)) (EP X pins σ Q) X.xe { s3 with heap:=s3.heap.push { cls:=.type "slice",data:=.fields #[vl,vu,.none] } };exact tail_any (ops:=[.ref s3.heap.objs.size,v]) ht hT hg (by with_unfolding_all rfl)
def Ag (xs:List V)(lo hi:Option Int):List V:=(xs.drop (HT.sIx xs.length 0 lo)).take (HT.sIx xs.length xs.length hi-HT.sIx xs.length 0 lo)
theorem vC (xs:List V)(lo hi:Option Int):(Ag xs lo hi).length<=xs.length:=by
 unfold Ag;rw[L5,List.length_drop];lia
end
def DZ (n:Nat)(i:Int):Option Nat:=if 0<=i then(if i<n then some i.toNat else none) else if -(n:Int)<=i then some (i+n).toNat else none
def DV {α:Type}(xs:List α)(i:Int):Option α:=(DZ xs.length i).bind λj=>xs[j]?
theorem yV {n:Nat}{i:Int}{j:Nat}(h:DZ n i=some j):seqIndex? i n=some j/\j<n/\-(n:Int)<=i/\i<n:=by
 unfold DZ at h
 by_cases h0:0<=i
 ·rw[LL h0] at h
  by_cases h1:i<n
  ·rw[LL h1] at h;have e:i.toNat=j:=K8 h;exact⟨by rw[seqIndex_of h0 h1,e],by lia,by lia,h1⟩
  ·rw[LB h1] at h;cases h
 ·rw[LB h0] at h
  by_cases h1:-(n:Int)<=i
  ·rw[LL h1] at h;have e:(i+n).toNat=j:=K8 h;exact⟨by rw[seqIndex_neg (by lia) h1,e],by lia,h1,by lia⟩
  ·rw[LB h1] at h;cases h
theorem sP {i:Int}(h:DV xs i=some v):∃ j,seqIndex? i xs.length=some j/\xs[j]?=some v/\j<xs.length/\-(xs.length:Int)<=i/\i<xs.length:=by
 unfold DV at h;cases e:DZ xs.length i with
 |none=>rw[e] at h;cases h
 |some j=>
  rw[e] at h;obtain⟨h1,h2,h3,h4⟩:=yV e;exact⟨j,h1,h,h2,h3,h4⟩
theorem nF {α:Type}{xs:List α}{j:Nat}{v:α}(h:xs[j]?=some v):DV xs (j:Int)=some v:=by
 have hj:j<xs.length:=(Ll.mp h).1;have e:DZ xs.length (j:Int)=some j:=by
  unfold DZ;rw[LL (by lia),LL (by lia)];simp
 unfold DV;rw[e];exact h
def yY (b:Nq):Prop:=∀ o i,subscripted b false o i=operate [o,i] (Uz o i)
def Cp (X:Cx)(r:R2):Prop:=
 ∀ (value slice:Nq) (pins:List (Lg×Obj)) (s:K_) (σ:St) (H:Hp) (x y:V) (v u:K9) (Q:VK),aD X pins σ H s->aY x v->aY y u->r x y H Q ->
  subscripted slice false v u=operate [v,u] (Uz v u)->Lm (LJ X.prog X.w) X.A (Ub value slice v u) (EP X pins σ Q) X.xe s
def KO (X:Cx)(id:String)(r:V->List V->Hp->VK->Prop):Prop:=
 ∀ (pins:List (Lg×Obj)) (s:K_) (σ:St) (H:Hp) (x:V) (xs:List V) (v:K9) (us:List K9) (Q:VK),aD X pins σ H s->aY x v->aF xs us->r x xs H Q ->
  Lm (LJ X.prog X.w) X.A (call (.builtin id) (v::us)) (EP X pins σ Q) X.xe s
section
variable {X:Cx}{a b:Nq}{ta tb:TE}{pos:Pos}
theorem Cp.or (h:Cp X r)(h':Cp X r'):Cp X (λx y H Q=>r x y H Q\/r' x y H Q):=by
 intro value slice pins s σ H x y v u Q I rx ry q hs;rcases q with q|q
 ·exact h value slice pins s σ H x y v u Q I rx ry q hs
 ·exact h' value slice pins s σ H x y v u Q I rx ry q hs
theorem B5 (hr:Cp X r)(ha:WE X a ta)(hb:WE X b tb)(hs:yY b):WE X (.Subscript a b pos) (HU r ta tb):=by
 have ha:=ha.go;have hb:=hb.go;refine⟨?_⟩;intro pins s σ H Q I h;exact Uw (FP ha hb I h λv u s2 x y H2 I2 rx ry q=>hr a b pins s2 σ H2 x y v u Q I2 rx ry q (hs _ _))
inductive HR (K:HD)(x y:V)(H:Hp)(Q:VK):Prop
 |mk (p:Lg) (xs:List V) (i:Int) (v:V) (_:x=.ref p) (_:y=.int i) (_:bE K H p xs) (_:DV xs i=some v) (_:Q v H)
inductive IX (K:HD)(x y:V)(H:Hp)(Q:VK):Prop
 |mk (p:Lg) (xs:List V) (i:Int) (v:V) (_:x=.ref p) (_:y=.int i) (_:dk K H p xs) (_:DV xs i=some v) (_:Q v H)
def Jh:R2:=λx y H Q=>∃ z i c,x=.str z/\y=.int i/\z.length<=Ly/\DV z.cps.toList i=some c/\Q (.str ⟨#[c]⟩) H
theorem D_:Cp X (HR X.K):=by
 intro value slice pins s σ H x y v u Q I rx ry h hs;obtain⟨p,xs,i,z,rfl,rfl,hq,he,q⟩:=h;cases rx;obtain⟨t,rfl⟩:=ry;obtain⟨its,r,pl,hz⟩:=I.list hq;obtain⟨j,h1,h2,h3,h4,h5⟩:=sP he;obtain⟨w,ew,rw'⟩:=r.get h2;have hl:=r.length;have hn:=kg;have fin:EP X pins σ Q w s:=⟨z,H,I,rw',q⟩
 by_cases h0:0<=i
 ·have hj:i.toNat=j:=by
   rw[seqIndex_of h0 h5] at h1;exact K8 h1
  exact item_listR pl.isList h0 (by lia) (by rw[hj];simpa using ew) fin hs
 ·have hj:(i+(its.toArray.size:Int)).toNat=j:=by
   rw[seqIndex_neg (by lia) h4] at h1;rw[Lh,<- hl];exact K8 h1
  exact Su (x:=w) pl.isList.typeIs slot_list_getitem.lookup
   (wpAny_getItem_list_neg (Q:=λr s'=>r=w/\EP X pins σ Q r s') pl.isList (by lia) (by rw[Lh]<;>lia) (by lia) (by rw[hj];simpa using ew) ⟨rfl,fin⟩) hs
theorem Gn:Cp X (IX X.K):=by
 intro value slice pins s σ H x y v u Q I rx ry h hs;obtain⟨p,xs,i,z,rfl,rfl,hq,he,q⟩:=h;cases rx;obtain⟨t,rfl⟩:=ry;obtain⟨its,r,pl,hz⟩:=I.tuple hq;obtain⟨j,h1,h2,h3,h4,h5⟩:=sP he;obtain⟨w,ew,rw'⟩:=r.get h2;have hl:=r.length;have hn:=kg;have fin:EP X pins σ Q w s:=⟨z,H,I,rw',q⟩
 exact Su (x:=w) pl.typeIs slot_tuple_getitem.lookup
  (getItem_tuple (j:=j) (Q:=λr s'=>r=w/\EP X pins σ Q r s') pl (by lia) (by lia) (by rw[Lh,<- hl];exact h1) (by simpa using ew) ⟨rfl,fin⟩) hs
theorem F1:Cp X Jh:=by
 intro value slice pins s σ H x y v u Q I rx ry h hs;obtain⟨z,i,c,rfl,rfl,hz,he,q⟩:=h;obtain⟨t,rfl⟩:=rx;obtain⟨t',rfl⟩:=ry;obtain⟨j,h1,h2,h3,h4,h5⟩:=sP he;have hl:z.cps.toList.length=z.length:=by simp[Str.length]
 rw[hl] at h1 h4 h5;have hn:=kg;exact tail_any (typeIs_str s z t) slot_str_getitem.lookup (getItem_str (c:=c) (by
  have e1:decide (i < -(2^63:Int))=false:=LW (by lia);have e2:decide (i>=2^63)=false:=LW (by lia);rw[e1,e2,Bool.or_false]) (by rw[h1];simpa using h2) ⟨.str ⟨#[c]⟩,H,I.tok _,⟨_,rfl⟩,q⟩) hs
def Fv (K:HD):R2:=λx y H Q=>HR K x y H Q\/IX K x y H Q\/Jh x y H Q
theorem Gk:Cp X (Fv X.K):=D_.or (Gn.or F1)
theorem xV (its:List K9)(n j:Nat)(u:K9):MD (·.setIfInBounds j u) { cls:=.type "list",data:=.seq its.toArray n }={ cls:=.type "list",data:=.seq (its.set j u).toArray n }:=by
 simp[MD]
theorem aD.lst {pins:List (Lg × Obj)}{σ:St}{H:Hp}{s:K_}{p:Lg}{xs:List V} (I:aD X pins σ H s) (h:H p=some (.lst xs)) :
  ∃ (its:List K9) (n:Nat),aF xs its/\s.heap.get? p=some { cls:=.type "list",data:=.seq its.toArray n }/\xs.length<=Ly:=by
 obtain⟨z,its,n,r,e⟩:=I.hok p _ h;exact⟨its,n,r,e,z⟩
theorem aD.lstUpd {pins:List (Lg × Obj)}{σ:St}{H:Hp}{s:K_}{p:Lg}{xs ys:List V}{its its':List K9}{n n':Nat}{f:Obj->Obj} (I:aD X pins σ H s) (h:H p=some (.lst xs))
  (ho:s.heap.get? p=some { cls:=.type "list",data:=.seq its.toArray n })(hf:f { cls:=.type "list",data:=.seq its.toArray n }={ cls:=.type "list",data:=.seq its'.toArray n' })(r:aF ys its')(hz:ys.length<=Ly)(t:Nat):
  aD X pins σ (upd H p (.lst ys)) { s with heap:=s.heap.update p f,toks:=t }:=by
 have e:(s.heap.update p f).get? p=some { cls:=.type "list",data:=.seq its'.toArray n' }:=by
  rw[MN f ho (by rw[hf]<;>rfl),hf]
 refine I.write (x:=p) (e:=p) (by rw[h];trivial) (.inl rfl) (λb u hb q=>(MY _ _ (NF hb)).trans q) ⟨_,e⟩ ?_;exact⟨hz,its',n',r,e⟩
def Iy:V->V->V->Hp->(Hp->Prop)->Prop:=λo i v H Q=>∃ p xs k j,o=.ref p/\i=.int k/\H p=some (.lst xs)/\DZ xs.length k=some j/\Q (upd H p (.lst (xs.set j v)))
theorem lB:F7 X Iy:=by
 intro pins s σ H o i v ov iv u Q I ro ri rv h;obtain⟨p,xs,k,j,rfl,rfl,hp,hj,q⟩:=h;cases ro;obtain⟨t,rfl⟩:=ri;obtain⟨its,n,r,ho,hz⟩:=I.lst hp;obtain⟨h1,h2,h3,h4⟩:=yV hj;have hl:=r.length;have hn:=kg;have I':aD X pins σ (upd H p (.lst (xs.set j v))) { s with heap:=s.heap.update p (MD (·.setIfInBounds j u)) }:=
  I.lstUpd hp ho (xV its n j u) (r.set rv j) (by rw[QV];exact hz) s.toks
 by_cases h0:0<=k
 ·have hk:k.toNat=j:=by
   rw[seqIndex_of h0 h4] at h1;exact K8 h1
  exact PySem.W.ki_setAt ho h0 (by lia) (by rw[Lh,<- hl];exact h4) (by rw[hk];exact⟨_,I',q⟩)
 ·have hk:(k+(its.toArray.size:Int)).toNat=j:=by
   rw[seqIndex_neg (by lia) h3] at h1;rw[Lh,<- hl];exact K8 h1
  exact PySem.W.ki_setBack ho (by lia) (by rw[Lh,<- hl];exact h3) (by lia) (by rw[hk];exact⟨_,I',q⟩)
theorem r9 (lo hi:Option Int)(n:Nat):(Qc lo hi none n).1=((HT.sIx n 0 lo:Nat):Int)/\(Qc lo hi none n).2.1=((HT.sIx n n hi:Nat):Int)/\(Qc lo hi none n).2.2=1:=by
 refine⟨?_,?_,rfl⟩
 ·cases lo with
  |none=>simp[Qc,HT.sIx]
  |some i=>
   simp only[Qc,HT.sIx,UV,show(1:Int)>0 by decide,Nz]
   by_cases h:i<0
   ·simp only[h,Nz]<;>lia
   ·simp only[h,Mb]<;>lia
 ·cases hi with
  |none=>simp[Qc,HT.sIx]
  |some i=>
   simp only[Qc,HT.sIx,UV,show(1:Int)>0 by decide,Nz]
   by_cases h:i<0
   ·simp only[h,Nz]<;>lia
   ·simp only[h,Mb]<;>lia
theorem qA (its:List K9)(lo hi:Option Int):slicePick its.toArray lo hi none=((its.drop (HT.sIx its.length 0 lo)).take (HT.sIx its.length its.length hi-HT.sIx its.length 0 lo)).toArray:=by
 obtain⟨h1,h2,h3⟩:=r9 lo hi its.toArray.size;unfold slicePick;rw[h1,h2,h3];simp only[sliceRange_one,pick_run,Lh]<;>rfl
def HY (K:HD):V->Option Int->Option Int->Hp->VK->Prop:=λx lo hi H Q=>∃ a xs,x=.ref a/\bE K H a xs/\∀ p,H p=none->Q (.ref p) (upd H p (.lst (Ag xs lo hi)))
theorem Fa:JH X (HY X.K):=by
 intro pins s σ H x v vl vu lo hi sl Q I rx hs pl pu h;obtain⟨a,xs,rfl,hx,q⟩:=h;cases rx;obtain⟨its,r,ht,hz⟩:=I.list hx;have hlen:=r.length;refine⟨"list",_,slot_list_getitem.lookup,ht.isList.typeIs,?_⟩;refine wpAny_getItem_list_slice ht.isList hs pl pu .none (by simp) ?_ (by rw[Lh]<;>lia);rw[qA,<- hlen];refine⟨.ref s.heap.objs.size,_,I.laid (t':=s.toks) (o:=.lst (Ag xs lo hi)) (λb ob q=>K6 _ q) (Lc _) ?_,rfl,q _ (I.hok.fresh (Lc _))⟩;exact⟨LM (vC xs lo hi) hz,_,0,(r.drop (HT.sIx xs.length 0 lo)).take (HT.sIx xs.length xs.length hi-HT.sIx xs.length 0 lo),Ld _ rfl⟩
theorem sO:cy X (.builtin "len") (λxs H Q=>∃ p ys,xs=[.ref p]/\(bE X.K H p ys\/dk X.K H p ys)/\Q (.int ys.length) H):=by
 intro pins s σ H xs us Q I r h;obtain⟨p,ys,rfl,hq,q⟩:=h;obtain⟨u,rfl,rx⟩:=fk r;cases rx;have hn:=kg;rcases hq with hq|hq
 ·obtain⟨its,r',pl,hz⟩:=I.list hq;have hlen:=r'.length;exact Calls.call_len_list pl.isList (by simp only[Lh]<;>lia) ⟨.int ys.length,H,I.tok _,⟨s.toks+1,by rw[Lh,hlen]⟩,q⟩
 ·obtain⟨its,r',pl,hz⟩:=I.tuple hq;have hlen:=r'.length;exact len_tuple pl (by simp only[Lh]<;>lia) ⟨.int ys.length,H,I.tok _,⟨s.toks+1,by rw[Lh,hlen]⟩,q⟩
theorem sR:cy X (.type "list") (λxs H Q=>∃ p ys,xs=[.ref p]/\(bE X.K H p ys\/dk X.K H p ys)/\∀ l,H l=none->Q (.ref l) (upd H l (.lst ys))):=by
 intro pins s σ H xs us Q I r h;obtain ⟨p,ys,rfl,hq,q⟩:=h;obtain ⟨u,rfl,rx⟩:=fk r;cases rx;have fin:∀ (its:List K9),aF ys its->ys.length <= Ly->∀ (h':Ng) (c':Nat),(∀ b o',s.heap.get? b=some o'->h'.get? b=some o') ->
   h'.get? s.heap.objs.size=some { cls:=.type "list",dict:=none,data:=.seq its.toArray c',slots:=#[] }->EP X pins σ Q (.ref s.heap.objs.size) { s with heap:=h' }:=λits r' hz h' c' kp e=>
  ⟨.ref s.heap.objs.size,_,I.laid (t':=s.toks) kp (Lc _) (show bv X.prog X.w _ h' _ (.lst ys) from⟨hz,its,c',r',e⟩),rfl,q _ (I.hok.fresh (Lc _))⟩
 rcases hq with hq|hq
 ·obtain⟨its,r',pl,hz⟩:=I.list hq;have hlen:=r'.length;obtain⟨o,ho,hc,n,hd⟩:=pl.isList;exact call_list_seq p (.inl rfl) ho hc hd (λh' c' kp e=>fin its r' hz h' c' kp e) (by simp only[Lh]<;>lia)
 ·obtain⟨its,r',pl,hz⟩:=I.tuple hq;have hlen:=r'.length;obtain⟨o,ho,hc,n,hd⟩:=pl;exact call_list_seq p (.inr rfl) ho hc hd (λh' c' kp e=>fin its r' hz h' c' kp e) (by simp only[Lh]<;>lia)
theorem qr:cy X (.type "tuple") (λxs H Q=>∃ p ys,xs=[.ref p]/\((bE X.K H p ys/\∀ l,H l=none->Q (.ref l) (upd H l (.tup ys)))\/(dk X.K H p ys/\Q (.ref p) H))):=by
 intro pins s σ H xs us Q I r h;obtain⟨p,ys,rfl,h⟩:=h;obtain⟨u,rfl,rx⟩:=fk r;cases rx;rcases h with ⟨hq,q⟩|⟨hq,q⟩
 ·obtain⟨its,r',pl,hz⟩:=I.list hq;have hlen:=r'.length;refine call_tuple_list pl.isList (λh' kp=>?_) (by simp only[Lh]<;>lia);have I1:aD X pins σ H { s with heap:=h' }:=I.kept (t':=s.toks) kp;have I2:aD X pins σ (upd H h'.objs.size (.tup ys)) { s with heap:=h'.push { cls:=.type "tuple",data:=.seq its.toArray } }:=
   I1.laid (t':=s.toks) (λb o e=>K6 _ e) (Lc _) (show bv X.prog X.w _ _ _ (.tup ys) from⟨hz,its,r',IsTup.new _ _⟩)
  exact⟨.ref h'.objs.size,_,I2,rfl,q _ (I1.hok.fresh (Lc _))⟩
 ·obtain⟨its,r',pl,hz⟩:=I.tuple hq;exact call_tuple_same pl ⟨.ref p,H,I,rfl,q⟩
def Ky (K:HD)(T:String)(x:V)(H:Hp):Prop:=match x with
 |.str _=>T="str"
 |.int _=>T="int"
 | .ref p=>(T="list"/\∃ xs,bE K H p xs)\/(T="tuple"/\∃ o,K.lookup p=some o/\o.cls=.type "tuple"/\o.dict=none) \/
   (T="dict"/\((∃ kvs,H p=some (.dK kvs))\/∃ kvs,H p=some (.dT kvs)))\/(T="set"/\∃ S n,H p=some (.set S n))
 |_=>False
theorem CV (I:aD X pins σ H s) (r:aY x v) (ty:Ky X.K T x H) :
  s.TypeIs v T/\∀ a,v=.ref a->∃ ob,s.heap.get? a=some ob/\ob.dict=none:=by
 cases x with
 |str z=>
  obtain⟨t,rfl⟩:=r;cases(show T="str" from ty);exact⟨typeIs_str s z t,λ_ e=>nomatch e⟩
 |int i=>
  obtain⟨t,rfl⟩:=r;cases(show T="int" from ty);exact⟨Ta s i t,λ_ e=>nomatch e⟩
 |ref p=>
  cases r;rcases ty with ⟨rfl,xs,hq⟩|⟨rfl,o,hk,hc,hd⟩|⟨rfl,hk⟩|⟨rfl,S,n,hk⟩
  ·obtain⟨its,_,pl,_⟩:=I.list hq;refine⟨pl.isList.typeIs,λa e=>?_⟩;cases e;obtain⟨o,n,e,c,hd,_⟩:=pl;exact⟨o,e,hd⟩
  ·refine⟨⟨o,I.kIn p o hk,hc⟩,λa e=>?_⟩;cases e;exact⟨o,I.kIn _ o hk,hd⟩
  ·have z:∃ o,s.heap.get? p=some o/\o.ExactDict:=by
    rcases hk with ⟨kvs,hk⟩|⟨kvs,hk⟩
    ·obtain⟨_,_,_,_,o,_,_,e,ex,_⟩:=I.hok p _ hk;exact⟨o,e,ex⟩
    ·obtain⟨_,_,_,_,o,_,_,e,ex,_⟩:=I.hok p _ hk;exact⟨o,e,ex⟩
   obtain⟨o,e,ex⟩:=z;refine⟨⟨o,e,ex.1⟩,λa e2=>?_⟩;cases e2;exact⟨o,e,ex.2.1⟩
  ·obtain⟨o,_,_,_,e,ex,_⟩:=I.hok p _ hk;refine⟨⟨o,e,ex.1⟩,λa e2=>?_⟩;cases e2;exact⟨o,e,ex.2.1⟩
 |_=>exact Nm ty
def KG (K:HD)(T:String)(r:V->List V->Hp->VK->Prop)(to:TE)(t:TA):TE:=λσ H Q=>to σ H λx H1=>Ky K T x H1/\t σ H1 λxs H2=>r x xs H2 Q
variable {o e:Nq}{es:List Nq}{to:TE}{t:TA}{name:Str}{apos cpos:Pos}{T id:String}{r:V->List V->Hp->VK->Prop}
theorem rW (pa:PlainAttrs T) (slot:Slot T name id) (hty:typeOf (.builtin id)=pure (.type "method_descriptor")) (hm:KO X id r) (ho:WE X o to) (ha:WA X (e :: es) t)
  (hbase:R1 o name X.env (O7 o X.env)=O7 o X.env:=by rfl)
  (hfew:((QC cpos (LN (e::es) X.env)).all (λx=>!x.1)&&(S7 cpos (Qb [] X.env)).all (λx=>x.1.isSome)
   &&decide ((e::es).length+([]:List Rm).length+(if([]:List Rm).isEmpty then 0 else 1)<30))=true:=by rfl)
  (hline:(apos.endLine==cpos.line)=true:=by rfl)(hs:LN (e::es) X.env=(false,O7 e X.env)::LN es X.env:=by rfl)(hplain:(QC cpos (LN es X.env)).any (·.1)=false:=by rfl):
  WE X (.Call (.Attribute o name apos) (e::es) [] cpos) (KG X.K T r to t):=by
 have ho:=ho.go;have ha:=ha.go;refine⟨?_⟩;intro pins s σ H Q I h;refine wpAny_Call_method_late hbase hfew hline rfl (bP (ho pins s σ H _ I h) λv s1 ⟨x,H1,I1,r1,ty,q1⟩=>?_);obtain⟨h1,h2⟩:=CV I1 r1 ty;refine⟨T,id,pa,slot,hty,h1,h2,?_⟩;have hA:=ha cpos pins s1 σ H1 _ I1 q1;rw[hs] at hA ⊢;refine Sl (by show(false||(QC cpos (LN es X.env)).any (·.1))=false;rw[hplain]<;>rfl) (Calls.evalArgs_plain ?_);exact bP hA λus s2 ⟨vs,H2,I2,r2,q2⟩=>hm pins s2 σ H2 x vs v us Q I2 r1 r2 q2
end
def K2 (X:Cx)(id:String)(r:V->List V->Hp->VK->Prop):Prop:=
 ∀ (pins:List (Lg×Obj)) (s:K_) (σ:St) (H:Hp) (x:V) (xs:List V) (v:K9) (us:List K9) (Q:VK),aD X pins σ H s->aY x v->aF xs us->r x xs H Q ->
  Lm (LJ X.prog X.w) X.A (call (.builtin id) (v::us)) (EP X pins σ Q) X.xe s
theorem aF.one:∀ {x:V}{us:List K9},aF [x] us->∃ u,us=[u]/\aY x u
 |_,_,.cons r .nil=>⟨_,rfl,r⟩
theorem aF.rep (h:aF xs us):∀ k:Nat,aF (LD k xs).flatten (LD k us).flatten
 |0=>.nil
 |k+1=>by
  rw[NR,NR,OT,OT];exact aF.append h (aF.rep h k)
theorem rl (its:List K9):∀ (k:Nat) (acc:List K9),
  Vg (λx1 x2=>x1++x2) acc.toArray (LD k its.toArray)=(acc++(LD k its).flatten).toArray
 |0,acc=>by simp
 |k+1,acc=>by
  have e:acc.toArray++its.toArray=(acc++its).toArray:=by simp
  have e2:(acc++its)++(LD k its).flatten=acc++(LD (k+1) its).flatten:=by
   rw[NR,OT,NN]
  rw[<- e2,<- rl its k (acc++its),<- e,NR,QT]
section
variable {X:Cx}{pins:List (Lg×Obj)}{σ:St}{H:Hp}{s:K_}{l b:Lg}{xs ys zs:List V}
theorem aD.lset {its its':List K9}{n:Nat}{f:Array K9->Array K9}{t':Nat} (I:aD X pins σ H s) (hH:H l=some (.lst xs))
  (e:s.heap.get? l=some { cls:=.type "list",data:=.seq its.toArray n })(hf:f its.toArray=its'.toArray)(hv:aF ys its')(hz:ys.length<=Ly):
  aD X pins σ (upd H l (.lst ys)) { s with heap:=s.heap.update l (MD f),toks:=t' }:=by
 have q:=PySem.IsL.update e f;rw[hf] at q;refine I.write (x:=l) (e:=l) (by rw[hH];exact trivial) (.inl rfl) (λb' u hb hu=>(MY s.heap (MD f) (NF hb)).trans hu) ⟨_,q⟩ ?_;exact⟨hz,its',_,hv,q⟩
theorem aD.lnew {t':Nat} (I:aD X pins σ H s) (hv:aF ys its) (hz:ys.length <= Ly) :
  aD X pins σ (upd H s.heap.objs.size (.lst ys)) { s with heap:=s.heap.push { cls:=.type "list",data:=.seq its.toArray },toks:=t' }:=
 I.laid (λ_ _ q=>K6 _ q) (Lc _) ⟨hz,its,0,hv,Ld _ rfl⟩
theorem aD.fresh (I:aD X pins σ H s):H s.heap.objs.size=none:=I.hok.fresh (Lc _)
theorem aD.lstM (I:aD X pins σ H s)(hH:H l=some (.lst xs)):xs.length<=Ly/\∃ (its:List K9) (n:Nat),aF xs its/\xs.length=its.length/\s.heap.get? l=some { cls:=.type "list",data:=.seq its.toArray n }:=by
 obtain⟨z,its,n,r,e⟩:=I.hok l _ hH;exact⟨z,its,n,r,r.length,e⟩
theorem Dd {n:Nat}(h:n<=Ly):Ps n=false:=by
 unfold Ps;exact LW (by lia)
end
section
variable {X:Cx}
def E8:V->List V->Hp->VK->Prop:=λx vs H Q=>∃ l xs y,x=.ref l/\vs=[y]/\H l=some (.lst xs)/\xs.length<Ly/\Q .non (upd H l (.lst (xs++[y])))
theorem jy:K2 X "list.append" E8:=by
 intro pins s σ H x vs v us Q I rx rv h;obtain⟨l,xs,y,rfl,rfl,hH,hz,q⟩:=h;cases rx;obtain⟨u,rfl,ru⟩:=rv.one;obtain⟨z,its,n,r,hl,e⟩:=I.lstM hH;refine RK NI ⟨_,e,rfl⟩ F.entry_list_append (F.args_list_append_2 _ _) (PySem.list_append l its.toArray n u (by rw[Lh];lia)) ⟨e,?_⟩;refine⟨.non,_,I.lset (its':=its++[u]) hH e (by simp) (r.append (.cons ru .nil)) ?_,rfl,q⟩;rw[LC,Qn];lia
def Ki:R2:=λx y H Q=>∃ l b xs zs,x=.ref l/\y=.ref b/\H l=some (.lst xs)/\H b=some (.lst zs)/\xs.length+zs.length<=Ly/\∀ p,H p=none->Q (.ref p) (upd H p (.lst (xs++zs)))
theorem v9:jI X (Qh .Add) Ki:=by
 intro pins s σ H x y v u Q I rx ry h;obtain⟨l,b,xs,zs,rfl,rfl,hH,hB,hz,q⟩:=h;cases rx;cases ry;obtain⟨z,its,n,r,hl,e⟩:=I.lstM hH;obtain⟨z2,its2,n2,r2,hl2,e2⟩:=I.lstM hB;refine PySem.P.add_list e e2 ?_ (by rw[Lh,Lh];lia);have ea:its.toArray++its2.toArray=(its++its2).toArray:=by simp
 rw[ea];exact⟨.ref _,_,I.lnew (t':=s.toks) (r.append r2) (by rw[LC];lia),rfl,q _ I.fresh⟩
def FR:R2:=λx y H Q=>∃ l k xs,x=.ref l/\y=.int k/\H l=some (.lst xs)/\-(2^63)<=k/\k<2^63/\xs.length*k.toNat<=Ly /\
 ∀ p,H p=none->Q (.ref p) (upd H p (.lst (LD k.toNat xs).flatten))
theorem Ee (xs:List α)(k:Nat):(LD k xs).flatten.length=k*xs.length:=by
 induction k with
 |zero=>simp
 |succ k ih=>rw[NR,OT,LC,ih,Q_,SI]
theorem Bt:jI X (Qh .Mult) FR:=by
 intro pins s σ H x y v u Q I rx ry h;obtain⟨l,k,xs,rfl,rfl,hH,h1,h2,hz,q⟩:=h;cases rx;obtain⟨t,rfl⟩:=ry;obtain⟨z,its,n,r,hl,e⟩:=I.lstM hH;have hlen:its.toArray.size*k.toNat<=Ly:=by rw[Lh,<- hl];exact hz
 have hcap:¬ its.toArray.size*k.toNat>(2^63-1)/8:=by
  have:(Ly:Nat)<=(2^63-1)/8:=by decide
  lia
 have hfit:¬ (!Builtin.List.listFitsIndex k)=true:=by
  rw[fitsIndex_both h1 h2];exact LZ
 have hlong:¬ Ps (its.toArray.size*k.toNat)=true:=by
  rw[Dd hlen];exact LZ
 have hnew:Vg (λx1 x2=>x1++x2) #[] (LD (if its.toArray.isEmpty=true then 0 else k.toNat) its.toArray)=(LD k.toNat its).flatten.toArray:=by
  have f0:∀ m:Nat,Vg (λx1 x2=>x1++x2) #[] (LD m its.toArray)=(LD m its).flatten.toArray:=λm=>by
   have:=rl its m [];rw[List.nil_append] at this;exact this
  rw[f0];cases its with
  |nil=>simp
  |cons a r'=>rw[LB (by simp)]
 refine Rt (T:="list") (U:="int") (by decide) ⟨_,e,rfl⟩ (λs'=>Ta s' k t) noFill_list_mul TU PC repeat_list Tw.lookup
  (RK PC (Ta s k t) Tv (Td _ _) (int___rmul___int_list k t l its.toArray n)
   ⟨e,rfl,⟨_,e,rfl⟩,RK F.slot_list_mul ⟨_,e,rfl⟩ F.entry_list_mul (F.args_list_mul_2 _ _) (AutoListH.list___mul___list_int_3 l its.toArray n k t hfit hcap hlong) ⟨e,?_⟩⟩)
 rw[hnew];exact⟨.ref _,_,I.lnew (t':=s.toks) (r.rep k.toNat) (by rw[Ee,SK];exact hz),rfl,q _ I.fresh⟩
end
end L2
namespace Att
open PySem PySem.W PySem.Calls PyProof.Rows
theorem nk:∀ (ns:List Int) (vs:List K9),WellAll P h vs (ns.map WData.int)->Nu vs ns:=by
 intro ns
 induction ns with
 |nil=>
  intro vs w;rw[NL] at w;cases w;exact .nil
 |cons n ns ih=>
  intro vs w;rw[LA] at w;cases w with
  |cons a b=>
   cases a;exact .cons _ _ (ih _ b)
theorem zU {l:OpenLaw}{n:Nat} (hn:l.most=some n) {P:Params}{h:Ng}{args:List WData}{vals:List K9}
  (hpre:l.row.toRowW.claim.pre args=true)(hwl:WellAll P h vals args):
  ∃ a vs ns,vals=[LH a]/\args=[WData.list (ns.map WData.int)]/\h.get? a=some { cls:=.type "list",data:=.seq vs.toArray }/\Nu vs ns/\ns.length<=n:=by
 have hsh:WShape.hasAll [] args [.list .int]=true:=(pre_splitW hpre).1;have hc:l.pre.holds [] { args:=args }=true:=(pre_splitW hpre).2;obtain⟨d,r,rfl,h1,h2⟩:=hasAllW_cons hsh;obtain rfl:=hasAllW_nil h2;obtain⟨xs,rfl,h3⟩:=hasW_list h1;obtain⟨ns,rfl⟩:=items_int h3;have hlen:ns.length<=n:=by
  unfold OpenLaw.pre at hc;have h4:(WTm.not (.lt (.lit (.int (n:Int))) (.len (.arg 0)))).holds [] { args:=[.list (ns.map .int)] }=true:=by
   have h4:=(holds_andW hc).1;rw[hn] at h4;exact h4
  have h5:=condW_of h4 (w_not (w_lt w_lit (w_len_list (w_arg rfl))));rw[K'] at h5;refine Nat.le_of_not_lt λq=>?_
  have q':(n:Int)<((ns.length:Nat):Int):=by lia
  first
   |(rw[Lj q'] at h5;exact absurd h5 (by decide))
   |(simp at h5;lia)
 cases hwl with
 |cons w1 w2=>
  cases w2;cases w1 with
  |list ho hall=>exact⟨_,_,ns,rfl,rfl,ho,nk ns _ hall,hlen⟩
theorem zO (l:OpenLaw)(args:List WData):l.row.toRowW.claim.post args (.bool true) args=true:=
 postW_of (r:=l.row.toRowW) (X:=(true==true))
  (show WShape.has [] (.bool true) .bool=true by first|rfl|decide|simp[WShape.has,WShape.arms,WShape.armsAll])
  (show(WTm.eq .res (.lit (.bool true))).value [] { args:=args,res:=some (.bool true),after:=args }=some (.bool (true==true)) from w_eq_bool (w_res rfl) w_lit) rfl
theorem attach_call {l:OpenLaw}{n:Nat}{q:Lz}{loose:List Str}{XP:(Str->Option K9)->Ng->Prop}{YP:LX->Ng->Prop}{d:DefRec}
  (hn:l.most=some n)(hdf:d.params.defaults=[])
  (call:∀ (w:LX) (s₀ s₁:K_) (mg mb:Str->Option K9) (fa:Lg) (o:Obj) (pm cd doc:K9) (a:Lg) (vs:List K9) (ns:List Int),
   Ground q loose [] XP w s₀ mg mb s₁.heap->YP w s₁.heap ->
   s₁.heap.get? fa=some o->o.data=.func (docDef d.name d.params d.body d.scope pm cd doc)->s₁.heap.CodeRec cd d.name->mg d.name=some (.ref fa) ->
   s₁.heap.get? a=some { cls:=.type "list",data:=.seq vs.toArray }->Nu vs ns->ns.length<=n->s₁.gens=#[] ->
   Oo (LJ l.prog w) U' (.call (.ref fa) ⟨[.ref a],[]⟩) (λr s'=>r=.ok (.ret (.bool true))/\OldK s₁.heap s'.heap/\s'.os=s₁.os/\Ts s'.gens) s₁) :
  WalkO q loose XP YP l.row.toRowW d [] (λf vs=>Vh f vs):=by
 intro w s₀ s₁ mg mb G Y fa o pm cd doc dV kV ho hd hcd hD hmg hg args vals as hpre hlay hrd hwl hlo;obtain rfl:dV=.none:=Dflts.none hD hdf;obtain rfl:kV=.none:=Dflts.noKw hD;obtain⟨a,vs,ns,rfl,rfl,hobj,hints,hlen⟩:=zU hn hpre hwl;refine enter_call (Pu (call w s₀ s₁ mg mb fa o pm cd doc a vs ns G Y ho (fd_plain hd) hcd hmg hobj hints hlen hg) λr s' hq=>?_);obtain⟨rfl,h2,h3,h4⟩:=hq;exact⟨.inl ⟨.bool true,.bool true,[],rfl,λ_=>rfl,.bool true,zO l _,λ_=>⟨Ui,λ_ hm=>(nomatch hm)⟩⟩,h2,h3,h4⟩
end Att
namespace L2
open PySem PySem.Spec PyProof.Rows
theorem mE:∀ {vs:List K9}{ns:List Int},Nu vs ns->aF (ns.map V.int) vs
 |_,_,.nil=>.nil
 |_,_,.cons n t h=>.cons ⟨t,rfl⟩ (mE h)
end L2
namespace L2
open PySem PySem.Spec PyProof.Rows
def k_ (s:NO)(j:Nat):NO:=match s with
 |.ClassDef _ _ _ body _ _ _ _ _ _ _=>body.getD j (.Pass ⟨0,0,0,0⟩)
 |_=>.Pass ⟨0,0,0,0⟩
def aR (s:NO):TM:=match s with
 |.FunctionDef _ a _ _ _ _ _ _ _ _=>a
 |_=>{ posonlyargs:=[],args:=[],vararg:=none,kwonlyargs:=[],kw_defaults:=[],kwarg:=none,defaults:=[] }
def aI (s:NO):List NO:=match s with
 |.FunctionDef _ _ b _ _ _ _ _ _ _=>b
 |_=>[]
def ag (s:NO):Pq:=match s with
 |.FunctionDef _ _ _ _ _ _ sc _ _ _=>sc
 |_=>{ kind:=.function,names:=[],isGenerator:=false,isCoroutine:=false }
abbrev c5:jG:=λ_ _ _ _ _ _=>False
abbrev E0:XK:=λ_ _ _=>False
structure IJ (K:HD)(x qual:Str)(st:NO)(f:Lg)(fd:MW):Prop where
 ex:∃ (oc:K9) (od:Option Lg) (kV doc pm:K9) (an:Option Lg) (cdv ct:K9) (osl:Array (Option K9)),
  fd=LG x qual (aR st) (aI st) (ag st) .none kV doc pm an cdv ct/\K.lookup f=some ⟨oc,od,.func fd,osl⟩/\L8 K cdv qual=true
 kp:LR K (.ref f)=true
section
variable {P:Lz}{w:LX}{K:HD}{mg:Str->Option K9}{base:Ng}
theorem Gu {x qual:Str}{st:NO}{f:Lg}{oc:K9}{od an:Option Lg}{osl:Array (Option K9)}{kV doc pm cdv ct:K9} (l:K.lookup f=some ⟨oc,od,.func (LG x qual (aR st) (aI st) (ag st) .none kV doc pm an cdv ct),osl⟩)
  (c:L8 K cdv qual=true)(k:LR K (.ref f)=true):IJ K x qual st f (LG x qual (aR st) (aI st) (ag st) .none kV doc pm an cdv ct):=⟨⟨oc,od,kV,doc,pm,an,cdv,ct,osl,rfl,l,c⟩,k⟩
end
theorem bH {n:Nat}(h:n<=1000):n<Ly:=Nh h (by decide)
section
variable {X:Cx}
theorem pv (i:Nat) (hN:X.N[i]?=some x:=by rfl) (hv:Ht X.env.scope x:=by first | exact U5 rfl | exact T0 (U5 rfl) | exact T0 (T0 rfl)) (hd:(x == ("__debug__":Str))=false:=by decide)
  (hcd:(x==("__classdict__":Str))=false:=by decide):PE X (.Name x pos) (E4 i):=G6 hN hv hd hcd
end
theorem bI {A B:Prop}(h:B):if false=true then A else B:=by
 rw[LB LZ];exact h
theorem bj {A B:Prop}(h:A):if true=true then A else B:=by
 rw[LL rfl];exact h
theorem eU {c A B:Prop}[Decidable c](h1:c->A)(h2:¬ c->B):if c then A else B:=by
 by_cases h:c
 ·rw[LL h];exact h1 h
 ·rw[LB h];exact h2 h
def af (H H':Hp):Prop:=∀ b o,H b=some o->H' b=some o
theorem af.refl (H:Hp):af H H:=λ_ _ h=>h
theorem af.trans (a:af H H1)(b:af H1 H2):af H H2:=λc o h=>b c o (a c o h)
theorem af.free (e:af H H')(h:H' l=Option.none):H l=Option.none:=by
 cases q:H l with
 |none=>rfl
 |some o=>
  rw[e l o q] at h;cases h
theorem af.seq {K:HD}{H H':Hp}{a:Lg}{xs:List V}(e:af H H')(h:bE K H a xs):bE K H' a xs:=by
 rcases h with (h|⟨o,h⟩)|h
 ·exact .inl (.inl (e _ _ h))
 ·exact .inl (.inr ⟨o,e _ _ h⟩)
 ·exact .inr h
end L2
set_option Elab.async false
set_option linter.all false
set_option maxRecDepth 100000
set_option maxHeartbeats 4000000
namespace TR
def Bc (t b n d:Int):Prop:=0<d/\MV n d=1/\n*b=t*d
def Sm (k:Nat)(x:Int):Prop:=x.natAbs<2^k
theorem vf {a b:Int}(ha:0<=a)(hb:0<b):MV b (a%b)=MV a b:=by
 obtain⟨x,rfl⟩:=PF ha;obtain⟨y,rfl⟩:=PF (UG hb);show Nat.gcd y ((x:Int)%(y:Int)).natAbs=Nat.gcd x y;rw[show((x:Int)%(y:Int)).natAbs=x%y from rfl,Nat.gcd_comm,<- Nat.gcd_rec,Nat.gcd_comm]
theorem wF {k m n:Int}(h:k∣m*n)(c:MV k m=1):k∣n:=by
 have h':k.natAbs∣m.natAbs*n.natAbs:=by rw[<- Rl];exact SB.mpr h
 exact SB.mp (Nat.Coprime.dvd_of_dvd_mul_left (show Nat.Coprime k.natAbs m.natAbs from c) h')
theorem xY {t b g m:Int}(hb:b≠0)(hg:g=(MV t b:Int))(hm:m=if b<0 then -g else g):Bc t b (t.fdiv m) (b.fdiv m):=by
 have hgp:0<g:=by
  rw[hg];have:0<MV t b:=OC _ hb;lia
 have dt:g∣t:=by rw[hg];exact Int.gcd_dvd_left ..
 have db:g∣b:=by rw[hg];exact Int.gcd_dvd_right ..
 obtain⟨x,hx⟩:=dt;obtain⟨y,hy⟩:=db;have hco:MV x y=1:=by
  have h1:MV t b=MV x y*g.natAbs:=by
   rw[hx,hy,Int.gcd_mul_left,SK]
  have h2:g.natAbs=MV t b:=by rw[hg];rfl
  have h3:0<g.natAbs:=by lia
  rw[<- h2] at h1;exact Nat.eq_of_mul_eq_mul_right h3 (by lia)
 by_cases hn:b<0
 ·have em:m=-g:=by rw[hm,LL hn]
  have hy0:y<0:=by
   rw[hy] at hn;rcases Int.lt_or_le y 0 with h|h
   ·exact h
   ·have:=NJ (UG hgp) h;lia
  have e1:t.fdiv m=-x:=by
   have e:t=m*(-x):=by rw[em,Int.neg_mul_neg];exact hx
   rw[e];exact N6 _ (by lia)
  have e2:b.fdiv m=-y:=by
   have e:b=m*(-y):=by rw[em,Int.neg_mul_neg];exact hy
   rw[e];exact N6 _ (by lia)
  rw[e1,e2];refine⟨by lia,by rw[Int.gcd_neg,Int.neg_gcd];exact hco,?_⟩;rw[Int.neg_mul,U2,hx,hy,Rv,PH]
 ·have em:m=g:=by rw[hm,LB hn]
  have hy0:0<y:=by
   have hb':0<b:=by lia
   rw[hy] at hb';rcases Int.lt_or_le 0 y with h|h
   ·exact h
   ·have:=NJ (UG hgp) (show 0<=-y by lia);rw[U2] at this;lia
  have e1:t.fdiv m=x:=by
   rw[hx,em];exact N6 _ (by lia)
  have e2:b.fdiv m=y:=by
   rw[hy,em];exact N6 _ (by lia)
  rw[e1,e2];refine⟨hy0,hco,?_⟩;rw[hx,hy,Rv,PH]
theorem pM {t b n d n' d':Int}(hb:b≠0)(h:Bc t b n d)(h':Bc t b n' d'):n=n'/\d=d':=by
 obtain⟨h1,h2,h3⟩:=h;obtain⟨k1,k2,k3⟩:=h';have e:n*d'=n'*d:=by
  have e1:b*(n*d')=b*(n'*d):=by
   have a1:b*(n*d')=(n*b)*d':=by rw[ON n b,PH]
   have a2:b*(n'*d)=(n'*b)*d:=by rw[ON n' b,PH]
   rw[a1,a2,h3,k3,PH,PH,ON d d']
  exact Rk hb e1
 have dd:d∣d':=by
  have:d∣n*d':=⟨n',by rw[e,ON]⟩
  exact wF this (by rw[UF];exact h2)
 have dd':d'∣d:=by
  have:d'∣n'*d:=⟨n,by rw[<- e,ON]⟩
  exact wF this (by rw[UF];exact k2)
 have l1:=Int.le_of_dvd k1 dd;have l2:=Int.le_of_dvd h1 dd';have ed:d=d':=by lia
 subst ed;exact⟨Int.eq_of_mul_eq_mul_right (by lia) e,rfl⟩
theorem oP {t b n d:Int}(hb:b≠0)(h:Bc t b n d):n.natAbs<=t.natAbs/\d.natAbs<=b.natAbs:=by
 obtain⟨h1,h2,h3⟩:=h;have db:d∣b:=by
  have:d∣n*b:=⟨t,by rw[h3,ON]⟩
  exact wF this (by rw[UF];exact h2)
 obtain⟨y,hy⟩:=db;have e:t=n*y:=by
  have:d*(n*y)=d*t:=by
   rw[Rv,<- hy,h3,ON]
  exact(Rk (by lia) this).symm
 have hy0:y≠0:=by rintro rfl;simp at hy;exact hb hy
 have hp:0<y.natAbs:=by lia
 constructor
 ·rw[e,Rl];exact RV _ hp
 ·rw[hy,Rl];exact RV _ hp
theorem C2 {n d:Int}(hd:0<d)(h:MV n d=1):Bc n d n d:=⟨hd,h,rfl⟩
theorem Sm.mono {k j:Nat}{x:Int}(h:Sm k x)(l:k<=j):Sm j x:=Ls h (QB (by decide) l)
theorem Sm.mul {k j:Nat}{x y:Int}(h:Sm k x)(h':Sm j y):Sm (k+j) (x*y):=by
 unfold Sm at *;rw[Rl,Nat.pow_add];exact Nat.mul_lt_mul'' h h'
theorem Sm.add {k:Nat}{x y:Int}(h:Sm k x)(h':Sm k y):Sm (k+1) (x+y):=by
 unfold Sm at *;have:=Int.natAbs_add_le x y;rw[SL];lia
theorem Sm.sub {k:Nat}{x y:Int}(h:Sm k x)(h':Sm k y):Sm (k+1) (x-y):=by
 unfold Sm at *;rw[SL];lia
theorem Sm.neg {k:Nat}{x:Int}(h:Sm k x):Sm k (-x):=by
 unfold Sm at *;rw[Int.natAbs_neg];exact h
theorem Sm.le {k:Nat}{x y:Int}(h:Sm k x)(l:y.natAbs<=x.natAbs):Sm k y:=Nh l h
theorem yF (a b:Int):MV (if a<0 then -a else a) (if b<0 then -b else b)=MV a b:=by
 split<;>split<;>simp
theorem De {t b:Int}(hb:b≠0):((MV t b:Int)).natAbs<=b.natAbs:=by
 have:MV t b∣b.natAbs:=Nat.gcd_dvd_right ..;exact Nat.le_of_dvd (by lia) this
open PySem PySem.Spec PyProof.Rows L2
theorem B7:Me "int"=some (.type "int"):=by decide +kernel
theorem nI:Me "bool"=some (.type "bool"):=by decide +kernel
theorem cB:Me "tuple"=some (.type "tuple"):=by decide +kernel
theorem hV:Me "list"=some (.type "list"):=by decide +kernel
theorem G0:Me "str"=some (.type "str"):=by decide +kernel
theorem yQ:Me "dict"=some (.type "dict"):=by decide +kernel
theorem G1:Me "set"=some (.type "set"):=by decide +kernel
theorem Dy:Me "abs"=some (.builtin "abs"):=by decide +kernel
theorem dO:Me "len"=some (.builtin "len"):=by decide +kernel
theorem Bv:Me "max"=some (.builtin "max"):=by decide +kernel
theorem wV:Me "min"=some (.builtin "min"):=by decide +kernel
theorem yf:Me "sum"=some (.builtin "sum"):=by decide +kernel
theorem lW:Me "all"=some (.builtin "all"):=by decide +kernel
theorem qL:Me "sorted"=some (.builtin "sorted"):=by decide +kernel
theorem aK:Me "isinstance"=some (.builtin "isinstance"):=by decide +kernel
mutual
inductive aA (K:HD)(H:Hp):LU->V->Prop
 |non:aA K H .none .non
 |bl (b:Bool):aA K H (.bool b) (.bl b)
 |int (i:Int):aA K H (.int i) (.int i)
 |str (x:Str):aA K H (.str x) (.str x)
 |lst {a:Lg}{xs:List V}{ds:List LU}:Rd H a (.lst xs)->ay K H ds xs->aA K H (.list ds) (.ref a)
 |tup {a:Lg}{xs:List V}{ds:List LU}:H a=some (.tup xs)->ay K H ds xs->aA K H (.tuple ds) (.ref a)
 |dct {a:Lg}:H a=some (.dK [])->aA K H (.dict []) (.ref a)
inductive ay (K:HD)(H:Hp):List LU->List V->Prop
 |nil:ay K H [] []
 |cons {d:LU}{v:V}{ds:List LU}{vs:List V}:aA K H d v->ay K H ds vs->ay K H (d::ds) (v::vs)
end
section
variable {X:Cx}{pins:List (Lg×Obj)}{σ:L2.St}{H H':Hp}{s:K_}
mutual
theorem fJ (I:aD X pins σ H s):∀ {d:LU}{v:V}{u:K9},aA X.K H d v->aY v u->∃ as,Reads s.heap u d as
 |_,_,_,.non,r=>by cases r;exact⟨_,.none⟩
 |_,_,_,.bl b,r=>by cases r;exact⟨_,.bool b⟩
 |_,_,_,.int i,r=>by obtain⟨t,rfl⟩:=r;exact⟨_,.int i t⟩
 |_,_,_,.str x,r=>by obtain⟨t,rfl⟩:=r;exact⟨_,.str x t⟩
 |_,_,_,.lst h q,r=>by
  cases r;obtain⟨its,rv,⟨o,n,e,c,_,d⟩,_⟩:=I.list (.inl h);obtain⟨as,z⟩:=i7 I q rv;exact⟨_,.list e c d (by simpa using z)⟩
 |_,_,_,.tup h q,r=>by
  cases r;obtain⟨its,rv,⟨o,e,c,n,d⟩,_⟩:=I.tuple (.inl (.inl h));obtain⟨as,z⟩:=i7 I q rv;exact⟨_,.tuple e c d (by simpa using z)⟩
 |_,_,_,.dct h,r=>by
  cases r;obtain⟨_,_,vs,kv,o,es,ep,e1,e2,e3,_,e4,_⟩:=(show bv X.prog X.w H s.heap _ (.dK []) from I.hok _ _ h)
  cases kv;have ee:es.toList=[]:=by
   cases z:es.toList with
   |nil=>rfl
   |cons y l=>rw[z] at e4;cases e4
  exact⟨_,.dict (kvs:=[]) e1 e2.1 e3 (by rw[ee];exact .nil) (by rw[ee];exact .nil)⟩
theorem i7 (I:aD X pins σ H s):∀ {ds:List LU}{vs:List V}{us:List K9},ay X.K H ds vs->aF vs us->∃ as,ReadsAll s.heap us ds as
 |_,_,_,.nil,.nil=>⟨_,.nil⟩
 |_,_,_,.cons h q,.cons r rr=>by
  obtain⟨as,z⟩:=fJ I h r;obtain⟨bs,y⟩:=i7 I q rr;exact⟨_,.cons z y⟩
end
end
theorem uN {K:HD}{H H':Hp}{a:Lg}{xs:List V}(e:af H H')(h:dk K H a xs):dk K H' a xs:=by
 rcases h with (h|⟨o,h⟩)|h
 ·exact .inl (.inl (e _ _ h))
 ·exact .inl (.inr ⟨o,e _ _ h⟩)
 ·exact .inr h
theorem Rd.same (e:af H H')(h:Rd H a u):Rd H' a u:=by
 rcases h with h|⟨o,h⟩
 ·exact .inl (e _ _ h)
 ·exact .inr ⟨o,e _ _ h⟩
mutual
theorem aA.same {K:HD}{H H':Hp}(e:af H H'):∀ {d:LU}{v:V},aA K H d v->aA K H' d v
 |_,_,.non=>.non
 |_,_,.bl b=>.bl b
 |_,_,.int i=>.int i
 |_,_,.str x=>.str x
 |_,_,.lst h q=>.lst (Rd.same e h) (ay.same e q)
 |_,_,.tup h q=>.tup (e _ _ h) (ay.same e q)
 |_,_,.dct h=>.dct (e _ _ h)
theorem ay.same {K:HD}{H H':Hp}(e:af H H'):∀ {ds:List LU}{vs:List V},ay K H ds vs->ay K H' ds vs
 |_,_,.nil=>.nil
 |_,_,.cons h q=>.cons (aA.same e h) (ay.same e q)
end
theorem af.new (h:H p=none):af H (upd H p o):=λb u e=>by rw[aq (aJ e h)];exact e
def Mv (T:List Lg)(H H':Hp):Prop:=∀ b o,H b=some o->b∉T->H' b=some o
theorem Mv.of (h:af H H'):Mv T H H':=λb o e _=>h b o e
theorem Mv.refl:Mv T H H:=λ_ _ e _=>e
theorem Mv.trans (a:Mv T H H1)(b:Mv T H1 H2):Mv T H H2:=λc o e n=>b c o (a c o e n) n
mutual
def AM:LU->Bool
 |.tuple xs=>iP xs
 |.none=>true
 |.bool _=>true
 |.int _=>true
 |.str _=>true
 |_=>false
def iP:List LU->Bool
 |[]=>true
 |x::xs=>AM x&&iP xs
end
def jq (H:Hp)(T:List Lg):Prop:=∀ b∈T,∃ xs,H b=some (.lst xs)
theorem jq.not (h:jq H T)(e:H b=some o)(n:∀ xs,o≠.lst xs):b∉T:=λm=>by
 obtain⟨xs,q⟩:=h b m;rw[e] at q;exact n xs (K8 q)
mutual
theorem aA.mv {K:HD}{T:List Lg}{H H':Hp}(e:Mv T H H')(l:jq H T):∀ {d:LU}{v:V},AM d=true->aA K H d v->aA K H' d v
 |_,_,_,.non=>.non
 |_,_,_,.bl b=>.bl b
 |_,_,_,.int i=>.int i
 |_,_,_,.str x=>.str x
 |_,_,t,.lst _ _=>by simp[AM] at t
 |_,_,t,.tup h q=>.tup (e _ _ h (l.not h λ_ z=>nomatch z)) (ay.mv e l (by simpa [AM] using t) q)
 |_,_,t,.dct _=>by simp[AM] at t
theorem ay.mv {K:HD}{T:List Lg}{H H':Hp}(e:Mv T H H')(l:jq H T):∀ {ds:List LU}{vs:List V},iP ds=true->ay K H ds vs->ay K H' ds vs
 |_,_,_,.nil=>.nil
 |_,_,t,.cons h q=>by
  simp only[iP,L4] at t;exact .cons (aA.mv e l t.1 h) (ay.mv e l t.2 q)
end
section
variable {X:Cx}
def IL (K:HD):R2:=λx y H Q=>∃ d e,aA K H d x/\aA K H e y/\Rf d=true/\Rf e=true/\Q (.bl (ND d e)) H
def Ia (K:HD):R2:=λx y H Q=>∃ d e,aA K H d x/\aA K H e y/\Rf d=true/\Rf e=true/\Q (.bl (!ND d e)) H
theorem G_ (hu:X.A.units+64<cLine):jI X (Nj .Eq) (IL X.K):=by
 intro pins s σ H x y v u Q I rx ry h;obtain⟨d,e,hd,he,sd,se,q⟩:=h;obtain⟨as,r1⟩:=fJ I hd rx;obtain⟨bs,r2⟩:=fJ I he ry;exact eq_dataH r1 r2 sd se hu ⟨.bl _,H,I,rfl,q⟩
theorem GN (hu:X.A.units+64<cLine):jI X (Nj .NotEq) (Ia X.K):=by
 intro pins s σ H x y v u Q I rx ry h;obtain⟨d,e,hd,he,sd,se,q⟩:=h;obtain⟨as,r1⟩:=fJ I hd rx;obtain⟨bs,r2⟩:=fJ I he ry;exact ne_dataH r1 r2 sd se hu ⟨.bl _,H,I,rfl,q⟩
def CU (K:HD):R2:=λx y H Q=>∃ a b ns,x=.ref a/\y=.ref b/\bE K H a (ns.map V.int)/\H b=some (.lst [])/\Q (.bl (!decide (ns=[]))) H
theorem Bw (hu:X.A.units+64<cLine):jI X (Nj .NotEq) (CU X.K):=by
 intro pins s σ H x y v u Q I rx ry h;obtain⟨a,b,ns,rfl,rfl,ha,hb,q⟩:=h;cases rx;cases ry;obtain⟨xs,r1,pl,_⟩:=I.list ha;obtain⟨ys,r2,pl2,_⟩:=I.list (bE.of (K:=X.K) hb);cases r2;exact PySem.W.ke_ne_ints pl.isList pl2.isList (pZ r1) .nil hu ⟨.bl _,H,I,rfl,q⟩
theorem dz:jI X (Nj .Eq) (DX λi j=>.bl (decide (i=j))):=Ah λ_ _ _ _ _ _ _ q=>eq_int (by rw[OJ];exact q)
theorem mF:jI X (Nj .NotEq) (DX λi j=>.bl (!decide (i=j))):=Ah λ_ _ _ _ _ _ _ q=>ne_int (by rw[bne,OJ];exact q)
theorem Sm.bits {k:Nat}{x:Int}(h:Sm k x):Pn x<=k:=by
 unfold Pn
 split
 ·exact LY _
 ·rename_i hx
  have h0:x.natAbs≠0:=by
   intro z;apply hx;have:x=0:=by lia
   subst this;rfl
  have:x.natAbs.log2<k:=(U4 h0).mpr h;lia
def oS (i j:Int):Prop:=(Sm 8000 i/\Sm 8000 j)\/Sm 64 i
theorem aS:jI X (Qh .Mult) (rI oS λi j=>.int (i*j)):=HH λi j _ _ _ _ _ hc q=>mul_int q (by
 rcases hc with ⟨h1,h2⟩|h1
 ·exact Sd (LM h1.bits (by decide)) (LM h2.bits (by decide))
 ·exact UU h1.bits)
def HP (_ j:Int):Prop:=j≠0/\Sm 8000 j
theorem cT:jI X (Qh .FloorDiv) (rI HP λi j=>.int (i.fdiv j)):=HH λi j _ _ _ _ _ hc q=>floordiv_int hc.1 q (.inl (Rz (by
 by_cases h0:j.natAbs=0
 ·rw[h0];decide
 ·exact Ls ((U4 h0).mpr hc.2) (by decide))))
def eQ (a b:String):Option Bool:=if((Oy a==Oy b)=true) then some true else if PySem.W.kitMeta b=true then(fastBuiltinMro a).map (·.contains (.type b)) else none
theorem uq (K:HD)(a b:String):Qg K (.type a) (.type b)=eQ a b:=rfl
abbrev Ty (K:HD)(H:Hp)(x:V)(T:String):Prop:=ku K H x (.type T)
def HN (K:HD):List V->Hp->VK->Prop:=λxs H Q=>∃ x T S b,xs=[x,.ty S]/\Ty K H x T/\eQ T S=some b/\Q (.bl b) H
theorem Dk:cy X (.builtin "isinstance") (HN X.K):=by
 intro pins s σ H xs us Q I r h;obtain⟨x,T,S,b,rfl,ty,e,q⟩:=h;obtain⟨u,v,rfl,rx,rv⟩:=kW r;cases(show v=Oy S from rv);exact my I rx ty (by rw[uq];exact e) λtk=>⟨.bl b,H,I.tok tk,rfl,q⟩
def sJ (a:String):List String->Option Bool
 |[]=>some false
 |b::r=>match eQ a b with
  |some true=>some true
  |some false=>sJ a r
  |none=>none
end
def KZ:LU->String
 |.none=>"NoneType"
 |.bool _=>"bool"
 |.int _=>"int"
 |.str _=>"str"
 |.list _=>"list"
 |.tuple _=>"tuple"
 |.dict _=>"dict"
theorem aA.ty {K:HD}{H:Hp}{d:LU}{x:V}(h:aA K H d x):Ty K H x (KZ d):=by
 cases h with
 |non=>exact .non
 |bl b=>exact .bl b
 |int i=>exact .int i
 |str x=>exact .str x
 |lst h _=>
  rcases h with h|⟨o,h⟩
  ·exact .lst h
  ·exact .frz h
 |tup h _=>exact .tup h
 |dct h=>exact .dK h
def Ey (CX:jG):Prop:=∀ outer H s e s',CX outer H s E0 e s'->False
theorem qY (h:Ey CX):qg CX X E0:=λ_ _ _ _ _ _ _ z=>(h _ _ _ _ _ z).elim
structure dm (P:Lz)(w:LX)(K:HD)(mg:Str->Option K9)(base:Ng)(CX:jG)(k:Nat)(x:Str)(ps:List Str)(dvs:List V)(sp:Sp):Prop where
 ex:∃ (f:Lg) (fd:MW) (ds:List K9),iy P w K mg base CX k f fd ps sp/\mg x=some (.ref f)/\LR K (.ref f)=true/\jZ K fd ps ds/\aF dvs ds
section
variable {X:Cx}{CX:jG}{k:Nat}{x:Str}{ps:List Str}{sp:Sp}{dvs:List V}{p pos:Pos}{e:Nq}{es:List Nq}{t:TA}
theorem EG (hX:Ey CX) (C:dm X.prog X.w X.K X.mg X.base CX k x ps dvs sp) (hr:Room k X.A) (hg:Gl X x) (ha:WA X (e :: es) t) (hdb:(x == ("__debug__":Str))=false:=by decide)
  (he:LN (e::es) X.env=(false,O7 e X.env)::LN es X.env:=by rfl)(hpl:(QC pos (LN es X.env)).any (·.1)=false:=by rfl):WE X (.Call (.Name x p) (e::es) [] pos) (Bu sp dvs E0 t):=by
 have ha:=ha.go;refine⟨?_⟩;obtain⟨f,fd,ds,F,hm,hk,hb,hv⟩:=C.ex;exact Er F hr hg hm hk hb hv (qY hX) ha hdb he hpl
end
structure c6 (K:HD)(mg:Str->Option K9)(x:Str)(st:NO)(ps:List Str)(dvs:List V):Prop where
 ex:∃ (f:Lg) (fd:MW) (oc:K9) (od:Option Lg) (dV kV doc pm:K9) (an:Option Lg) (cdv ct:K9) (osl:Array (Option K9)) (ds:List K9),
  fd=LG x x (aR st) (aI st) (ag st) dV kV doc pm an cdv ct/\K.lookup f=some ⟨oc,od,.func fd,osl⟩/\L8 K cdv x=true /\
  mg x=some (.ref f)/\LR K (.ref f)=true/\jZ K fd ps ds/\aF dvs ds
section
variable {P:Lz}{w:LX}{K:HD}{mg:Str->Option K9}{base:Ng}{CX:jG}
theorem c6.cal {x:Str}{st:NO}{N ps:List Str}{dvs:List V}{k:Nat}{sp:Sp} (F:c6 K mg x st ps dvs) (S:av N ps (ag st)) (len:∀ vs H Q E,sp vs H Q E->vs.length=ps.length:=by intro _ _ _ _ h;cases h;subst_vars;rfl)
  (bb:∀ (f:Lg) (cdv:K9) (A:L9) (outer:List Env) (s:K_) (H:Hp) (vs:List V) (Q:VK) (E:XK),Room k (A.deeper (Sj x (ag st) s.heap.objs.size f cdv))->sp vs H Q E ->
   ∃ t,DT (qu CX P w K mg base N x (ag st) f cdv A outer s H E).nox (aI st) t/\t { nx:=λ_ H'=>Q .non H',rt:=Q } (iE N vs) H):dm P w K mg base CX (k+1) x ps dvs sp:=by
 obtain⟨f,fd,oc,od,dV,kV,doc,pm,an,cdv,ct,osl,ds,rfl,lk,hcd,hm,hk,hb,hv⟩:=F.ex;refine⟨f,_,ds,ux lk hcd S len λA outer s H vs Q E hr hsp=>?_,hm,hk,hb,hv⟩;obtain⟨t,h,q⟩:=bb f cdv A outer s H vs Q E hr hsp;exact⟨t,h.nox,q⟩
theorem wO {x:Str}{st:NO}{ps:List Str}{f:Lg}{oc:K9}{od an:Option Lg}{osl:Array (Option K9)}{kV doc pm cdv ct:K9} (l:K.lookup f=some ⟨oc,od,.func (LG x x (aR st) (aI st) (ag st) .none kV doc pm an cdv ct),osl⟩)
  (c:L8 K cdv x=true)(k:LR K (.ref f)=true)(m:mg x=some (.ref f))
  (h:∀ us:List K9,us.length=ps.length->MM (LG x x (aR st) (aI st) (ag st) .none kV doc pm an cdv ct) ⟨us,[]⟩=pure (ps.zip us)):c6 K mg x st ps []:=
 ⟨f,_,oc,od,.none,kV,doc,pm,an,cdv,ct,osl,[],rfl,l,c,m,k,.all h,.nil⟩
theorem yZ {x:Str}{st:NO}{ps:List Str}{f T:Lg}{oc:K9}{od an:Option Lg}{osl:Array (Option K9)}{kV doc pm cdv ct:K9}{oT:Obj}{items:Array K9}{n:Nat}{ds:List K9}{dvs:List V}
  (l:K.lookup f=some ⟨oc,od,.func (LG x x (aR st) (aI st) (ag st) (.ref T) kV doc pm an cdv ct),osl⟩)
  (c:L8 K cdv x=true)(k:LR K (.ref f)=true)(m:mg x=some (.ref f))(lT:K.lookup T=some oT)(hT:oT.data=.seq items n)(hv:aF dvs ds)
  (h:∀ us:List K9,(us++ds).length=ps.length->∃ kk:Option (Array K9)->Sem (List (Str×K9)),MM (LG x x (aR st) (aI st) (ag st) (.ref T) kV doc pm an cdv ct) ⟨us,[]⟩=SZ (.ref T)>>=kk/\kk (some items)=pure (ps.zip (us++ds))):c6 K mg x st ps dvs:=
 ⟨f,_,oc,od,.ref T,kV,doc,pm,an,cdv,ct,osl,ds,rfl,l,c,m,k,λs us X hl=>by
  obtain⟨kk,h1,h2⟩:=h us hl;exact BindsTo.of_defaults rfl (X T oT lT) hT h1 h2,hv⟩
end
end TR
namespace TR
open PySem PySem.Spec PyProof.Rows L2
abbrev ug (n d:Int):LU:=.tuple [.int n,.int d]
theorem cC {K:HD}{H:Hp}{n d:Int}{v:V}(h:aA K H (ug n d) v):∃ a,v=.ref a/\H a=some (.tup [.int n,.int d]):=by
 cases h with
 |tup h q=>
  cases q with
  |cons q1 q2=>
   cases q1;cases q2 with
   |cons q3 q4=>
    cases q3;cases q4;exact⟨_,rfl,h⟩
theorem yG {K:HD}{H:Hp}{n d:Int}{a:Lg}(h:H a=some (.tup [.int n,.int d])):aA K H (ug n d) (.ref a):=.tup h (.cons (.int _) (.cons (.int _) .nil))
theorem Cs (n d m e:Int):ND (ug n d) (ug m e)=(decide (n=m)&&decide (d=e)):=by
 simp only[ND,T2,QG,OJ]
theorem u6 {n d m e:Int}(h:n=m/\d=e):ND (ug n d) (ug m e)=true:=by
 rw[Cs,Lj h.1,Lj h.2];rfl
def Sh (K:HD)(H:Hp)(t b:Int)(Q:VK):Prop:=∀ v n d H',af H H'->aA K H' (ug n d) v->Bc t b n d->Q v H'
structure Ok (k:Nat)(n d:Int):Prop where
 pos:0<d
 co:MV n d=1
 sn:Sm k n
 sd:Sm k d
theorem Bc.ok {t b n d:Int}{k:Nat}(h:Bc t b n d)(hb:b≠0)(st:Sm k t)(sb:Sm k b):Ok k n d:=
 ⟨h.1,h.2.1,st.le (oP hb h).1,sb.le (oP hb h).2⟩
theorem Ok.mono {j k:Nat}{n d:Int}(h:Ok j n d)(l:j<=k):Ok k n d:=⟨h.pos,h.co,h.sn.mono l,h.sd.mono l⟩
theorem Ok.ne {k:Nat}{n d:Int}(h:Ok k n d):d≠0:=by have:=h.pos;lia
def shB:LU->Bool
 |.tuple [.int n,.int d]=>decide (1<=d)&&decide (MV n d=1)
 |_=>false
theorem Ok.shB {k:Nat}{n d:Int}(h:Ok k n d):TR.shB (ug n d)=true:=by
 have:=h.pos;show(decide (1<=d)&&decide (MV n d=1))=true;rw[Lj (show 1<=d by lia),Lj h.co];rfl
theorem Hz:[a].length<=Ly:=by show 1<=Ly;decide
theorem vB:[a,b].length<=Ly:=by show 2<=Ly;decide
theorem Fm:[a,b,c].length<=Ly:=by show 3<=Ly;decide
section
variable {K:HD}{H:Hp}{Q:VK}{a:Lg}{x y z:V}
theorem iD (h:H a=some (.tup [x,y]))(q:Q x H):Fv K (.ref a) (.int 0) H Q:=.inr (.inl ⟨a,_,0,x,rfl,rfl,dk.of h,rfl,q⟩)
theorem dX (h:H a=some (.tup [x,y]))(q:Q y H):Fv K (.ref a) (.int 1) H Q:=.inr (.inl ⟨a,_,1,y,rfl,rfl,dk.of h,rfl,q⟩)
theorem Go (h:H a=some (.lst [x,y]))(q:Q x H):Fv K (.ref a) (.int 0) H Q:=.inl ⟨a,_,0,x,rfl,rfl,bE.of h,rfl,q⟩
theorem wN (h:H a=some (.lst [x,y]))(q:Q y H):Fv K (.ref a) (.int 1) H Q:=.inl ⟨a,_,1,y,rfl,rfl,bE.of h,rfl,q⟩
end
def uf:V->Bool
 |.int _=>true
 |_=>false
theorem BP {K:HD}{H:Hp}{x:V}{T:String}(h:Ty K H x T):∃ b,eQ T "int"=some b/\if b=true then ∃ c,eQ T "bool"=some c/\uf x=!c else uf x=false:=by
 cases h with
 |non=>exact⟨false,by decide +kernel,bI rfl⟩
 |bl b=>exact⟨true,by decide +kernel,bj ⟨true,by decide +kernel,rfl⟩⟩
 |int i=>exact⟨true,by decide +kernel,bj ⟨false,by decide +kernel,rfl⟩⟩
 |str x=>exact⟨false,by decide +kernel,bI rfl⟩
 |flt x=>exact⟨false,by decide +kernel,bI rfl⟩
 |lst e=>exact⟨false,by decide +kernel,bI rfl⟩
 |frz e=>exact⟨false,by decide +kernel,bI rfl⟩
 |tup e=>exact⟨false,by decide +kernel,bI rfl⟩
 |dK e=>exact⟨false,by decide +kernel,bI rfl⟩
 |dT e=>exact⟨false,by decide +kernel,bI rfl⟩
theorem ay.length {K:HD}{H:Hp}:∀ {ds:List LU}{xs:List V},ay K H ds xs->ds.length=xs.length
 |_,_,.nil=>rfl
 |_,_,.cons _ q=>by rw[LK,LK,ay.length q]
theorem E9 (h:ds.length≠2):shB (.tuple ds)=false:=by
 match ds,h with
 |[],_=>rfl
 |[a],_=>cases a<;>rfl
 |[a,b],h=>exact absurd rfl h
 |a::b::c::r,_=>cases a<;>(try rfl)<;>cases b<;>rfl
theorem IB {K:HD}{H:Hp}{d e:LU}{x:V}(g:aA K H d x)(h:uf x=false):shB (.tuple [d,e])=false:=by
 cases g with
 |int i=>exact absurd h (by simp[uf])
 |_=>rfl
theorem IU {K:HD}{H:Hp}{d e:LU}{x:V}(g:aA K H e x)(h:uf x=false):shB (.tuple [d,e])=false:=by
 cases g with
 |int i=>exact absurd h (by simp[uf])
 |_=>cases d<;>rfl
theorem yq {K:HD}{H:Hp}{d:LU}{x:V}(g:aA K H d x)(h:uf x=true):∃ n,d=.int n/\x=.int n:=by
 cases g with
 |int i=>exact⟨i,rfl,rfl⟩
 |_=>exact absurd h (by simp[uf])
def c9 (H:Hp)(t r:Lg):Prop:=∃ (cells:List Int) (k:Int),H t=some (.lst [.ref r,.int k])/\H r=some (.lst (cells.map V.int))/\cells≠[]/\cells.length<=63
theorem c9.lists (h:c9 H t r):jq H [t,r]:=λb m=>by
 obtain⟨c,k,h1,h2,_⟩:=h;rcases Ln.mp m with rfl|m
 ·exact⟨_,h1⟩
 ·cases Lo.mp m;exact⟨_,h2⟩
theorem c9.same (h:c9 H t r)(e:af H H'):c9 H' t r:=by
 obtain⟨c,k,h1,h2,h3,h4⟩:=h;exact⟨c,k,e _ _ h1,e _ _ h2,h3,h4⟩
theorem c9.ne (h:c9 H t r):t≠r:=by
 obtain⟨c,k,h1,h2,h3,h4⟩:=h;refine FH h1 h2 λz=>?_
 cases c with
 |nil=>exact h3 rfl
 |cons x c=>
  injection z with z
  injection z with z _
  cases z
theorem nN [Decidable p](h:p):V.bl (decide p)=V.bl true:=by rw[Lj h]
theorem Mv.upd (m:p∈[t,r]):Mv [t,r] H (upd H p o):=λb u e n=>by
 rw[aq (show b≠p from λz=>n (z▸m))];exact e
theorem IJ.okX {P:Lz}{w:LX}{K:HD}{mg:Str->Option K9}{base:Ng}{CX:jG}{x qual:Str}{st:NO}{f:Lg}{fd:MW}{N ps:List Str}{k:Nat}{sp:Sp} (F:IJ K x qual st f fd) (S:av N ps (ag st)) (len:∀ vs H Q E,sp vs H Q E->vs.length=ps.length:=by intro _ _ _ _ h;cases h;subst_vars;rfl)
  (bb:∀ (cdv:K9) (A:L9) (outer:List Env) (s:K_) (H:Hp) (vs:List V) (Q:VK) (E:XK),Room k (A.deeper (Sj qual (ag st) s.heap.objs.size f cdv))->sp vs H Q E ->
   ∃ t,DT (qu CX P w K mg base N qual (ag st) f cdv A outer s H E).nox (aI st) t/\t { nx:=λ_ H'=>Q .non H',rt:=Q } (iE N vs) H):iy P w K mg base CX (k+1) f fd ps sp:=by
 obtain⟨oc,od,kV,doc,pm,an,cdv,ct,osl,rfl,lk,hcd⟩:=F.ex;refine ux lk hcd S len λA outer s H vs Q E hr hsp=>?_
 obtain⟨t,h,q⟩:=bb cdv A outer s H vs Q E hr hsp;exact⟨t,h.nox,q⟩
theorem aB:Ey c5:=λ_ _ _ _ _ h=>h
def bo (X:Cx)(N:List Str)(scope:Pq)(cl:List (Str×Lg))(C:Lg)(s0:K_)(H0:Hp)(fp:List Lg)(pn:List (Lg×Obj)):Cx:=
 { X with N:=N,s₀:=s0,H₀:=H0,env:=OH scope cl C X.env,outer:=X.stack,stack:=X.stack,ex:=fp,fn:=λx=>scope.names.lookup x==some .cell,pn:=X.pn++pn,xe:=λ_ _=>False }
def Ak (k:Nat)(js:List Nat)(σ:L2.St):L2.St:=LD k none++js.map λj=>(σ[j]?).join
def nE (cells:List (Str×Lg)):List (Str×OE)->List (Str×Lg)->List (Str×Lg)
 |[],acc=>acc
 |(n,k)::r,acc=>if(k==.free)=true then nE cells r ((n,(cells.lookup n).getD 0)::acc) else nE cells r acc
theorem l7 (h:∀ y∈scope.names,y.2=.free->∃ c,env.cells.lookup y.1=some c):closureFor scope env=pure (nE env.cells scope.names []):=by
 have key:∀ (names:List (Str × OE)) (acc:List (Str × Lg)),(∀ y ∈ names,y.2=.free->∃ c,env.cells.lookup y.1=some c) ->
   (forIn names acc λ(x:Str×OE) (r:List (Str×Lg))=>(match x with
    |(name,kind)=>if(kind==.free)=true then(do let c <- cellOf env name;pure (OM ((name,c)::r))) else pure (OM r):Sem (ForInStep (List (Str×Lg)))))=(pure (nE env.cells names acc):Sem (List (Str×Lg))):=by
  intro names
  induction names with
  |nil=>intro acc _;rfl
  |cons y r ih=>
   intro acc hy;obtain⟨n,k⟩:=y;have hr:=λz hz=>hy z (Le _ hz)
   rw[SD];unfold nE
   by_cases hk:(k==L_)=true
   ·obtain⟨c,hc⟩:=hy (n,k) Lr (by simpa using hk);simp only[hk,Nz];have e:cellOf env n=pure c:=by unfold cellOf;rw[hc]
    rw[e,hc];exact ih _ hr
   ·simp only[hk];exact ih _ hr
 unfold closureFor;have:=key scope.names [] h
 first
  |exact this
  |(simp only[bind_pure];exact this)
  |(rw[bind_pure];exact this)
  |(show(forIn scope.names [] _>>=λr=>pure r)=_;rw[bind_pure];exact this)
theorem dy:∀ {names:List (Str×OE)}{acc:List (Str×Lg)}{x:Str}{c:Lg},(∀ y∈names,y.2=.free->∃ c,cells.lookup y.1=some c)->(nE cells names acc).lookup x=some c->acc.lookup x=some c\/((x,L_)∈names/\cells.lookup x=some c)
 |[],_,_,_,_,e=>.inl e
 |(n,k)::r,acc,x,c,hy,e=>by
  unfold nE at e;have hr:=λz hz=>hy z (Le _ hz)
  by_cases hk:(k==L_)=true
  ·rw[LL hk] at e;have hk':k=.free:=by simpa using hk
   rcases dy hr e with e|⟨m,e⟩
   ·rw[Mj] at e;cases hx:x==n with
    |true=>
     rw[hx] at e;have hxn:x=n:=by simpa using hx
     obtain⟨c',hc'⟩:=hy (n,k) Lr hk';have hc':cells.lookup n=some c':=hc';rw[hc'] at e;have e:c'=c:=by simpa using e
     subst e hxn hk';exact .inr ⟨Lr,hc'⟩
    |false=>
     rw[hx] at e;exact .inl e
   ·exact .inr ⟨Le _ m,e⟩
  ·rw[LB hk] at e;rcases dy hr e with e|⟨m,e⟩
   ·exact .inl e
   ·exact .inr ⟨Le _ m,e⟩
theorem fG:∀ {names:List (Str×OE)}{acc:List (Str×Lg)}{x:Str},(∃ c,acc.lookup x=some c)\/(x,L_)∈names->∃ c,(nE cells names acc).lookup x=some c
 |[],_,_,h=>by
  rcases h with h|h
  ·exact h
  ·cases h
 |(n,k)::r,acc,x,h=>by
  unfold nE
  by_cases hk:(k==L_)=true
  ·rw[LL hk];refine fG ?_;rcases h with ⟨c,e⟩|h
   ·refine .inl ?_;rw[Mj];cases x==n with
    |true=>exact⟨_,rfl⟩
    |false=>exact⟨c,e⟩
   ·rcases Ln.mp h with e|h
    ·injection e with e1 e2
     subst e1;exact .inl ⟨_,by rw[Mj];simp;rfl⟩
    ·exact .inr h
  ·rw[LB hk];refine fG ?_;rcases h with h|h
   ·exact .inl h
   ·rcases Ln.mp h with e|h
    ·injection e with e1 e2
     subst e2;exact absurd rfl hk
    ·exact .inr h
theorem lY:∀ {names:List (Str×OE)}{n:Nat}{acc:List (Str×Lg)}{x:Str}{c:Lg},(PV n names acc).lookup x=some c->acc.lookup x=some c\/((x,ME)∈names/\n<=c)
 |[],_,_,_,_,e=>.inl e
 |(y,k)::r,n,acc,x,c,e=>by
  unfold PV at e
  by_cases hk:(k==ME)=true
  ·rw[LL hk] at e;rcases lY e with e|⟨m,l⟩
   ·rw[Mj] at e;cases hx:x==y with
    |true=>
     rw[hx] at e;have e:n=c:=by simpa using e
     have hxy:x=y:=by simpa using hx
     have hk':k=.cell:=by simpa using hk
     subst e hxy hk';exact .inr ⟨Lr,Lc _⟩
    |false=>
     rw[hx] at e;exact .inl e
   ·exact .inr ⟨Le _ m,P8 l⟩
  ·rw[LB hk] at e;rcases lY e with e|⟨m,l⟩
   ·exact .inl e
   ·exact .inr ⟨Le _ m,l⟩
structure uK (X:Cx)(scope:Pq):Prop where
 kind:scope.kind=.function
 once:∀ y∈scope.names,scope.names.lookup y.1=some y.2
 one:∀ y∈scope.names,∀ z∈scope.names,y.2=.cell->z.2=.cell->y.1=z.1
 kinds:∀ y∈scope.names,y.2=.local\/y.2=.globalImplicit\/y.2=.cell\/y.2=.free
 free:∀ y∈scope.names,y.2=.free->∃ c,X.env.cells.lookup y.1=some c
abbrev aV (X:Cx)(scope:Pq)(C:Lg):List (Str×Lg):=PV (C+1) scope.names (nE X.env.cells scope.names [])
section
variable {X:Cx}{scope:Pq}{C:Lg}(S:uK X scope)
include S
theorem fM (e:(aV X scope C).lookup x=some c):(X.env.cells.lookup x=some c/\scope.names.lookup x=some .free)\/(C+1<=c/\scope.names.lookup x=some .cell):=by
 rcases lY e with e|⟨m,l⟩
 ·rcases dy S.free e with e|⟨m,e⟩
  ·cases e
  ·exact .inl ⟨e,S.once _ m⟩
 ·exact .inr ⟨l,S.once _ m⟩
theorem GB (e:(aV X scope C).lookup x=some c)(e':(aV X scope C).lookup y=some c)(hi:∀ x y c,X.env.cells.lookup x=some c->X.env.cells.lookup y=some c->x=y)(hl:∀ x c,X.env.cells.lookup x=some c->c<C):x=y:=by
 rcases fM S e with ⟨a,_⟩|⟨a,k⟩
 ·rcases fM S e' with ⟨b,_⟩|⟨b,_⟩
  ·exact hi x y c a b
  ·exact absurd (hl x c a) (MZ.mpr (P8 b))
 ·rcases fM S e' with ⟨b,_⟩|⟨b,k'⟩
  ·exact absurd (hl y c b) (MZ.mpr (P8 a))
  ·exact S.one (x,.cell) (Nn k) (y,.cell) (Nn k') rfl rfl
theorem BQ (h:(OH scope (aV X scope C) C X.env).kindOf x=some .cell\/(OH scope (aV X scope C) C X.env).kindOf x=some .free):∃ c,(aV X scope C).lookup x=some c:=by
 have key:∀ (names:List (Str × OE)),((names.map fun (n,k)=>if (k == L_ && X.env.scope.kind == .function && X.env.kindOf n == some .cell) then (n,ME) else (n,k)).lookup x=some .cell \/
   (names.map λ(n,k)=>if(k==L_&&X.env.scope.kind==.function&&X.env.kindOf n==some .cell) then(n,ME) else(n,k)).lookup x=some .free)->(x,L_)∈names\/(x,ME)∈names:=by
  intro names
  induction names with
  |nil=>intro h;simp at h
  |cons y r ih=>
   intro h;obtain⟨n,k⟩:=y
   by_cases hx:(x==n)=true
   ·have hxn:x=n:=by simpa using hx
    subst hxn
    by_cases hc:(k==L_&&X.env.scope.kind==.function&&X.env.kindOf x==some .cell)=true
    ·have:k=.free:=by
      rw[L4,L4] at hc
      simpa using hc.1.1
     subst this;exact .inl Lr
    ·simp only[LA,hc,Mj,hx] at h;rcases h with h|h
     ·have:k=.cell:=by simpa using h
      subst this;exact .inr Lr
     ·have:k=.free:=by simpa using h
      subst this;exact .inl Lr
   ·have hx':(x==n)=false:=by simpa using hx
    have e:∀ (kk:OE),((((n,k) :: r).map fun (n,k)=>if (k == L_ && X.env.scope.kind == .function && X.env.kindOf n == some .cell) then (n,ME) else (n,k)).lookup x=some kk) ->
      ((r.map λ(n,k)=>if(k==L_&&X.env.scope.kind==.function&&X.env.kindOf n==some .cell) then(n,ME) else(n,k)).lookup x=some kk):=λkk h=>by
     rw[LA,Mj] at h;have:(x==((λ(y:Str×OE)=>match y with|(n,k)=>if(k==L_&&X.env.scope.kind==T5&&X.env.kindOf n==some ME) then(n,ME) else(n,k)) (n,k)).1)=false:=by
      show(x==(if(k==L_&&X.env.scope.kind==T5&&X.env.kindOf n==some ME)=true then(n,ME) else(n,k)).1)=false
      split<;>exact hx'
     rw[this] at h;exact h
    rcases h with h|h
    ·rcases ih (.inl (e _ h)) with z|z
     ·exact .inl (Le _ z)
     ·exact .inr (Le _ z)
    ·rcases ih (.inr (e _ h)) with z|z
     ·exact .inl (Le _ z)
     ·exact .inr (Le _ z)
 rcases key scope.names h with z|z
 ·obtain⟨c,e⟩:=fG (cells:=X.env.cells) (acc:=[]) (.inr z);exact M8.mp (OA _ _ _ (.inr (by rw[e];rfl)))
 ·exact M8.mp (OA _ _ _ (.inl (S.once _ z)))
end
theorem CP
  (hQ:∀ h',(∃ m,h'.Ns s.heap.objs.size m)->(∀ x c,(PV (s.heap.objs.size+1) scope.names cl).lookup x=some c->cl.lookup x=some c\/h'.IsCell c none)->(∀ b o,s.heap.get? b=some o->h'.get? b=some o) ->
   Q (newEnv scope s.heap.objs.size globals (PV (s.heap.objs.size+1) scope.names cl) qual none .none (some env) Qa) { s with heap:=h' }) :
  Lm M A (Rs scope globals cl [] qual none .none (some env)) Q E s:=by
 have lem:∀ (names:List (Str×OE)) (h:Ng) (acc:List (Str×Lg)) (x:Str) (c:Lg),(PV h.objs.size names acc).lookup x=some c->acc.lookup x=some c\/(pushCells h names).IsCell c none:=by
  intro names
  induction names with
  |nil=>intro h acc x c e;exact .inl e
  |cons y r ih=>
   intro h acc x c e;obtain⟨n,k⟩:=y;unfold PV at e;unfold pushCells
   by_cases hk:(k==ME)=true
   ·rw[LL hk] at e ⊢;have hs:h.objs.size+1=(h.push { cls:=.type "cell",data:=.cell none }).objs.size:=(Mw ..).symm;rw[hs] at e;rcases ih _ _ _ _ e with e|e
    ·rw[Mj] at e;cases hx:x==n with
     |true=>
      rw[hx] at e;have e:h.objs.size=c:=by simpa using e
      subst e;exact .inr ⟨_,SY r _ _ _ (Ld _ rfl),rfl⟩
     |false=>
      rw[hx] at e;exact .inl e
    ·exact .inr e
   ·rw[LB hk] at e ⊢;exact ih _ _ _ _ e
 simp only[Rs,TZ,Nz];refine KE (wpAny_alloc ?_);refine KE (wpAny_layCells _ (λname kind cells=>by cases hkc:kind==ME<;>simp[hkc]) _ _ _ _ ?_);rw[show({ s with heap:=s.heap.push { cls:=.type "dict",data:=.dict #[] } }:K_).heap.objs.size=s.heap.objs.size+1 from Mw ..];simp only[Tn];refine KE (K7 (K7 ?_));refine hQ _ ⟨_,(Heap.Ns.new s.heap (.type "dict")).keeps (SY _ _)⟩ (λx c e=>?_) λb o e=>SY _ _ b o (K6 _ e)
 have:=lem scope.names (s.heap.push { cls:=.type "dict",data:=.dict #[] }) cl x c;rw[Mw] at this;exact this e
section
variable {X:Cx}{pins:List (Lg×Obj)}{σ:L2.St}{H H2:Hp}{s s2:K_}
def n9 (X:Cx)(scope:Pq)(N:List Str)(σ σ0:L2.St):Prop:=
 ∀ (i:Nat) (x:Str) (v:V),N[i]?=some x->σ0[i]?=some (some v)->∃ j:Nat,X.N[j]?=some x/\σ[j]?=some (some v)/\(X.env.kindOf x=some .cell\/X.env.kindOf x=some .free)/\scope.names.lookup x=some .free /\
  ((OH scope [] 0 X.env).kindOf x=some .cell\/(OH scope [] 0 X.env).kindOf x=some .free)
theorem sX (I:aD X pins σ H s)(h1:b≠X.env.locals)(h2:b∉X.fs):b∉v5 X.stack:=λz=>(Ln.mp (I.stkSub b z)).elim h1 h2
theorem BI {tk:Nat} (I:aD X pins σ H2 s2) (S:uK X scope)
  (hcap:n9 X scope N σ σ0)(hlen:σ0.length=N.length)(f2:∀ b∈fp,mC X pins H2 b)(fo:∀ b∈fp,∃ o,s2.heap.get? b=some o)(hC:s2.heap.objs.size<=C)(hD:s2.heap.objs.size<=D)(hDC:D≠C)
  (old:∀ b o,s2.heap.get? b=some o->h1.get? b=some o)(hnC:∃ m,h1.Ns C m)(heD:h1.get? D=some oD)(hoD:∀ v,oD.data≠.cell v)(own:∀ x c,(aV X scope C).lookup x=some c->C+1<=c->h1.IsCell c none):
  aD (bo X N scope (aV X scope C) C s2 H2 fp pins) [(D,oD)] σ0 H2 { s2 with heap:=h1,toks:=tk }:=by
 have ltne:∀ b,b<s2.heap.objs.size->b≠C/\b≠D:=λb hb=>⟨λz=>absurd (z▸hb) (MZ.mpr hC),λz=>absurd (z▸hb) (MZ.mpr hD)⟩
 have cellLt:∀ x c,X.env.cells.lookup x=some c->c<s2.heap.objs.size:=λx c e=>by
  obtain⟨v,q⟩:=I.cell x c e;exact q.lt
 have big:∀ c:Lg,C+1<=c->s2.heap.objs.size<=c:=λc h=>LM hC (P8 h)
 have frLt:∀ b∈v5 X.stack,b<s2.heap.objs.size:=λb hb=>by
  obtain⟨_,o,ho,_⟩:=I.stack.mem hb;exact Lb ho
 refine⟨⟨I.ok.mod,S.kind,I.ok.glob,I.ok.blt,hC,?_,?_,?_,I.ok.hd,I.ok.frames,.inl rfl,?_,?_,?_,?_,?_,I.stack,I.stkFree⟩,rfl,I.bare,Un.kept old,?_,?_,?_,?_,?_,I.hok.kept old,hlen⟩
 ·intro x y c e1 e2;exact GB S e1 e2 I.ok.inj λx c e=>Ls (cellLt x c e) hC
 ·intro x hx;exact BQ S hx
 ·intro x c hf e;rcases fM S e with ⟨_,k⟩|⟨l,_⟩
  ·have hf:(scope.names.lookup x==some ME)=true:=hf;rw[k] at hf;cases hf
  ·exact big c l
 ·intro b hb;obtain⟨o,ho⟩:=fo b hb;refine⟨(ltne b (Lb ho)).1,λx c e=>?_⟩;rcases fM S e with ⟨e,_⟩|⟨l,_⟩
  ·exact(f2 b hb).2.2.2.2.1 x c e
  ·exact λz=>absurd (Lb ho) (MZ.mpr (z▸big c l))
 ·exact λb o e=>I.bs b o e
 ·exact LM I.ok.bsz I.sz
 ·intro b o e hb;rcases(f2 b hb).2.2.2.1 with z|z
  ·exact I.ok.noex b o e z
  ·exact absurd (Ls (Lb e) (LM I.ok.bsz z)) (L7 _)
 ·intro b hb;exact sX I (f2 b hb).2.1 (f2 b hb).2.2.1
 ·obtain⟨m1,hm1⟩:=hnC;refine⟨m1,hm1,λi x v e1 e2 _=>?_⟩;obtain⟨j,j1,j2,j3,jf,j4⟩:=hcap i x v e1 e2;obtain⟨m,hn,hl⟩:=I.loc;have vis:Ht X.env.scope x:=by
   rcases j3 with z|z
   ·exact .inr (.inl z)
   ·exact .inr (.inr z)
  obtain⟨u,r,l⟩:=hl j x v j1 j2 vis;refine⟨u,r,.inr ⟨j4,?_⟩⟩;obtain⟨c,hc⟩:=BQ S (C:=C) j4;rcases l with ⟨k,_⟩|⟨_,c',e',z'⟩
  ·exfalso;rcases j3 with z|z<;>(rw[z] at k;cases k)
  ·rcases fM S hc with ⟨e,_⟩|⟨_,k⟩
   ·rw[e'] at e;cases e;exact⟨_,hc,z'.keeps old⟩
   ·rw[jf] at k;cases k
 ·intro x c e;rcases fM S e with ⟨e,_⟩|⟨l,_⟩
  ·obtain⟨v,q⟩:=I.cell x c e;exact⟨v,q.keeps old⟩
  ·exact⟨_,own x c e l⟩
 ·exact I.hok.fresh hC
 ·intro x c e;rcases fM S e with ⟨e,_⟩|⟨l,_⟩
  ·exact I.freeC x c e
  ·exact I.hok.fresh (big c l)
 ·intro p hp;rcases Mm.mp hp with hp|hp
  ·obtain⟨q1,q2,q3,q4,q5⟩:=I.pin p hp;exact⟨old _ _ q1,q2,(ltne _ (Lb q1)).1,sX I q3 q4,q5⟩
  ·cases Lo.mp hp;exact⟨heD,I.hok.fresh hD,hDC,λz=>absurd (frLt D z) (MZ.mpr hD),hoD⟩
theorem Ct {n:Nat} (I:aD X pins σ H2 s2)
  (f2:∀ b∈fp,mC X pins H2 b)(hD:s2.heap.objs.size<=D)(J:aD (bo X N scope (aV X scope C) C s2 H2 fp pins) ((D,{ cls:=.type "list",data:=.seq its.toArray n })::pl) σ0 H' s')(r:aF ys its)(hz:ys.length<=Ly):
  aD X pins σ (upd H' D (.lst ys)) s':=by
 have pD:=J.pin (D,{ cls:=.type "list",data:=.seq its.toArray n }) (Lu _ Lr);have fD:H' D=none:=pD.2.1;have u0:Un (v5 X.stack) fp H2 H' s2.heap s'.heap:=J.base;have fr2:H2 D=none:=I.hok.fresh hD;have u:Un (v5 X.stack) fp H2 (upd H' D (.lst ys)) s2.heap s'.heap:=by
  refine⟨u0.keep,u0.slot,λb o e n' hx=>?_,u0.there,λb xs e=>?_,λb o w e=>?_,λb ps e=>?_⟩
  ·rw[aq (show b≠D from λz=>absurd (Lb e) (MZ.mpr (by rw[z];exact hD)))];exact u0.free b o e n' hx
  ·rw[aq (aJ e fr2)];exact u0.tups b xs e
  ·rw[aq (aJ e fr2)];exact u0.frzs b o w e
  ·rw[aq (aJ e fr2)];exact u0.tbls b ps e
 refine I.call' (ch:=fp) J.os u (λb o e=>?_) J.bare λb hb=>?_
 ·by_cases hb:b=D
  ·subst hb;rw[ae] at e;cases e;exact⟨hz,its,n,r,pD.1⟩
  ·rw[aq hb] at e;exact(J.hok b o e).stay (λ_ _ _ q=>q) (λc q=>by rw[aq (aJ q fD)];exact q) λc xs q=>by rw[aq (aJ q fD)];exact q
 ·obtain⟨_,g1,_,g3,g4,g5⟩:=f2 b hb;exact⟨g3,g1,g4,g5⟩
def Ku (X:Cx)(ifs:List Nq)(t:TT):Prop:=
 ∀ (pins:List (Lg×Obj)) (s:K_) (σ:L2.St) (H:Hp) (Q:Bool->Hp->Prop),aD X pins σ H s->t σ H Q ->
  Lm (LJ X.prog X.w) X.A (forIn ifs true λc r=>if r=true then do let ok <- isTrue c X.env (O7 c X.env);pure (OM ok) else pure (OM r)) (TP X pins σ Q) X.xe s
structure FA (X:Cx)(e:List Nq)(t:TT):Prop where
 go:Ku X e t
def JU:TT:=λ_ H Q=>Q true H
theorem aG:FA X [] JU:=by
 exact⟨λ_ _ _ H _ I h=>wpAny_tests_nil ⟨H,I,h⟩⟩
theorem kP (h:WT X c t):FA X [c] t:=by
 have h:=h.go;exact⟨λpins s σ H Q I hq=>wpAny_tests_one (h pins s σ H Q I hq)⟩
def gg (J:It)(g:TG)(tt:TT)(te:TE)(σ0:L2.St)(Fin:List V->Hp->Prop)(H1:Hp):Prop:=∃ W:Nat->Nat->List V->Hp->Prop,(∃ m,W 0 m [] H1)/\∀ i m ys H2,W i m ys H2 ->
 (J.stop i H2/\ys.length<=Ly/\Fin ys H2) \/
 (J.go i H2/\ys.length<Ly/\∀ x H3,J.yld i H2 x H3->g x σ0 H3 λσ' H4=>tt σ' H4 λb H5=>if b=true then te σ' H5 λy H6=>∃ m',m'<m/\W (i+1) m' (ys++[y]) H6 else ∃ m',m'<m/\W (i+1) m' ys H5)
end
def nR (sc:Pq):Bool:=sc.kind==.function&&sc.names.all (λy=>sc.names.lookup y.1==some y.2)&&sc.names.all (λy=>sc.names.all λz=>!(y.2==.cell&&z.2==.cell)||y.1==z.1) &&
 sc.names.all λy=>y.2==.local||y.2==.globalImplicit||y.2==.cell||y.2==.free
theorem lu (h:nR scope=true)(hf:(scope.names.all λy=>!(y.2==.free)||(X.env.cells.lookup y.1).isSome)=true):uK X scope:=by
 unfold nR at h;simp only[L4,MF] at h;obtain⟨⟨⟨h1,h2⟩,h3⟩,h4⟩:=h;refine⟨by simpa using h1,λy hy=>by simpa using h2 y hy,λy hy z hz a b=>?_,λy hy=>?_,λy hy e=>?_⟩
 ·have:=h3 y hy z hz;rw[a,b] at this
  simpa using this
 ·have:=h4 y hy;simp only[Sy,NP] at this;rcases this with ((q|q)|q)|q
  ·exact .inl q
  ·exact .inr (.inl q)
  ·exact .inr (.inr (.inl q))
  ·exact .inr (.inr (.inr q))
 ·rw[MF] at hf;have:=hf y hy;rw[e] at this;exact M8.mp (by simpa using this)
def lG (X:Cx)(scope:Pq)(cs:List Str)(js:List Nat):Bool:=(cs.zip js).all λp=>(X.N[p.2]?==some p.1)&&(X.env.kindOf p.1==some .cell||X.env.kindOf p.1==some .free)&&(scope.names.lookup p.1==some .free) &&
 ((OH scope [] 0 X.env).kindOf p.1==some .cell||(OH scope [] 0 X.env).kindOf p.1==some .free)
theorem pQ (h:lG X scope cs js=true) (hl:cs.length=js.length) {k:Nat} (hk:ts.length=k) (σ:L2.St) (_:σ.length=X.N.length) :
  n9 X scope (ts++cs) σ (Ak k js σ)/\(Ak k js σ).length=(ts++cs).length:=by
 subst hk;refine⟨λi x v e1 e2=>?_,by unfold Ak;simp[hl]⟩;unfold Ak at e2;have hi:ts.length<=i:=by
  rcases UM i ts.length with z|z
  ·rw[Nr (by simpa using z),PL,LL z] at e2;cases e2
  ·exact z
 rw[MT hi] at e1;rw[MT (by simpa using hi),SF,Lk] at e2;cases hj:js[i-ts.length]? with
 |none=>rw[hj] at e2;cases e2
 |some j=>
  rw[hj] at e2;have e2:(σ[j]?).join=some v:=K8 e2;have e3:σ[j]?=some (some v):=by
   cases q:σ[j]? with
   |none=>rw[q] at e2;cases e2
   |some o=>rw[q] at e2;exact NE some e2
  have m:(x,j)∈cs.zip js:=by
   have:(cs.zip js)[i-ts.length]?=some (x,j):=by rw[Ro];exact⟨e1,hj⟩
   exact Lq this
  unfold lG at h;rw[MF] at h;have c:=h _ m;simp only[L4,Sy,NP] at c;exact⟨j,c.1.1.1,e3,c.1.1.2,c.1.2,c.2⟩
def nV (b:Bool)(h:Ng)(j q:Lg)(k:Nat)(its:Array K9):Prop:=match b with
 |true=>h.IsListIter j q k/\h.IsList q its
 |false=>h.IsTupleIter j q k/\h.IsTuple q its
theorem nV.keep {k:Nat}(x:nV b h j q k its)(e1:∀ o,h.get? j=some o->g.get? j=some o)(e2:∀ o,h.get? q=some o->g.get? q=some o):nV b g j q k its:=by
 cases b with
 |true=>
  obtain⟨⟨o,a,r⟩,⟨u,c,t⟩⟩:=x;exact⟨⟨o,e1 o a,r⟩,⟨u,e2 u c,t⟩⟩
 |false=>
  obtain⟨⟨o,a,r⟩,⟨u,c,t⟩⟩:=x;exact⟨⟨o,e1 o a,r⟩,⟨u,e2 u c,t⟩⟩
theorem nV.ext {k:Nat}(x:nV b h j q k its)(e:RQ c h g)(n1:j≠c)(n2:q≠c):nV b g j q k its:=
 x.keep (λo a=>e j o n1 a) λo a=>e q o n2 a
theorem nV.there {k:Nat}(x:nV b h j q k its):∃ o vs,h.get? j=some o/\o.data=.fields vs:=by
 cases b with
 |true=>
  obtain⟨⟨o,a,_,d⟩,_⟩:=x;exact⟨o,_,a,d⟩
 |false=>
  obtain⟨⟨o,a,_,d⟩,_⟩:=x;exact⟨o,_,a,d⟩
theorem nV.src {k:Nat}(x:nV b h j q k its):∃ o n,h.get? q=some o/\o.data=.seq its n:=by
 cases b with
 |true=>
  obtain⟨_,⟨o,a,_,n,d⟩⟩:=x;exact⟨o,n,a,d⟩
 |false=>
  obtain⟨_,⟨o,a,_,n,d⟩⟩:=x;exact⟨o,n,a,d⟩
theorem nV.ne {k:Nat}(x:nV b h j q k its):q≠j:=λz=>by
 obtain⟨o,vs,a,d⟩:=x.there;obtain⟨u,n,c,t⟩:=x.src;rw[z,a] at c;cases c;rw[d] at t;cases t
section
variable {prog:Lz}{w:LX}{A:L9}{E:K9->K_->Prop}{s:K_}
theorem EE {k:Nat} (h1:s.heap.IsTupleIter j q k) (h2:s.heap.IsTuple q its) (hv:its[k]?=some v)
  (fin:∀ g,g.IsTupleIter j q (k+1)->Mz j s.heap g->Q v { s with heap:=g }):Lm (LJ prog w) A (L6 (.ref j)) Q E s:=by
 obtain⟨oj,ej,cj,dj⟩:=id h1;obtain⟨oq,eq,_,nq,dq⟩:=h2;unfold L6;refine KE (Mo (name:=MB "__next__") h1.typeIs NV (MG NV h1.typeIs QQ ?_ (QI _)));show Lm _ _ (field (.ref j) 0>>=_) _ _ s;refine KE (M7 ej dj (x:=.ref q) rfl ?_);show Lm _ _ (if(LH q==Ma)=true then _ else _) _ _ s;rw[LB (show ¬ (LH q==Ma)=true from LZ)];show Lm _ _ (field (.ref j) 1>>=_) _ _ s;refine KE (M7 ej dj (x:=.int k 0) rfl ?_);show Lm _ _ (SZ (.ref q)>>=_) _ _ s;refine KE (Mi eq dq ?_);simp only[MI,hv];refine KE (Qi ej dj (by simp) (K7 ⟨v,rfl,K7 (fin _ ?_ (Mc ..))⟩));refine⟨_,MN _ ej (SM (PM dj _)),(Obj.cls_mapFields ..).trans cj,?_⟩;rw[PM dj];simp[QD]
theorem EL {k:Nat} (hh:A.handled=none) (h1:s.heap.IsTupleIter j q k) (h2:s.heap.IsTuple q its) (hv:its[k]?=none)
  (fin:∀ g e,RQ j s.heap g->(∃ o,g.get? e=some o/\o.cls=.type "StopIteration")->E (.ref e) { s with heap:=g }):Lm (LJ prog w) A (L6 (.ref j)) Q E s:=by
 obtain⟨oj,ej,cj,dj⟩:=id h1;obtain⟨oq,eq,_,nq,dq⟩:=h2;unfold L6;refine KE (Mo (name:=MB "__next__") h1.typeIs NV (MG NV h1.typeIs QQ ?_ (QI _)));show Lm _ _ (field (.ref j) 0>>=_) _ _ s;refine KE (M7 ej dj (x:=.ref q) rfl ?_);show Lm _ _ (if(LH q==Ma)=true then _ else _) _ _ s;rw[LB (show ¬ (LH q==Ma)=true from LZ)];show Lm _ _ (field (.ref j) 1>>=_) _ _ s;refine KE (M7 ej dj (x:=.int k 0) rfl ?_);show Lm _ _ (SZ (.ref q)>>=_) _ _ s;refine KE (Mi eq dq ?_);simp only[MI,hv];refine KE (OY (KE (Qi ej dj (by simp) ?_)));show Lm _ _ (newExc (.type "StopIteration") ([]:List K9)>>=_) _ _ _;refine KE ?_;simp only[newExc,newTuple];refine KE (Ml ?_ (by size_fits));refine KE (m:=Pb _ _) (R_ (a:=Ma) (by first|rfl|(unfold Pb;rfl)) ?_);refine Ml ?_ (by size_fits);unfold raiseNew;refine KE (Uc ?_)
 first|rw[hh]|rw[show A.in1.handled=none from hh]
 refine KE (K7 (wpAny_throw (fin _ _ (((Mc ..).extBut.push _).push _) ⟨_,Ld _ rfl,rfl⟩)))
theorem nV.next {k:Nat} (x:nV b s.heap j q k its) (hv:its[k]?=some v)
  (fin:∀ g,nV b g j q (k+1) its->Mz j s.heap g->Q v { s with heap:=g }):Lm (LJ prog w) A (L6 (.ref j)) Q E s:=by
 have hn:=x.ne;cases b with
 |true=>exact wpAny_nextOf_list_item x.1 x.2 hv λg h1' sb=>fin g ⟨h1',x.2.extBut sb.extBut hn⟩ sb
 |false=>exact EE x.1 x.2 hv λg h1' sb=>fin g ⟨h1',x.2.extBut sb.extBut hn⟩ sb
theorem nV.stops {k:Nat} (hh:A.handled=none) (x:nV b s.heap j q k its) (hv:its[k]?=none)
  (fin:∀ g e,RQ j s.heap g->(∃ o,g.get? e=some o/\o.cls=.type "StopIteration")->E (.ref e) { s with heap:=g }):Lm (LJ prog w) A (L6 (.ref j)) Q E s:=by
 cases b with
 |true=>exact wpAny_nextOf_list_end hh x.1 x.2 hv fin
 |false=>exact EL hh x.1 x.2 hv fin
structure Kx (b1 b2:Bool)(h:Ng)(z ti to j1 j2 q1 q2:Lg)(f0:K9)(k:Nat)(xs ys:Array K9):Prop where
 zp:Va h z ti to f0
 pi:Se h ti (.ref j1) (.ref j2)
 po:∃ a b,Se h to a b
 s1:nV b1 h j1 q1 k xs
 s2:nV b2 h j2 q2 k ys
structure JB (z ti to j1 j2 q1 q2:Lg):Prop where
 a1:ti≠z
 a2:to≠z
 a3:j1≠z
 a4:j2≠z
 a5:ti≠to
 a6:ti≠j1
 a7:ti≠j2
 a8:to≠j1
 a9:to≠j2
 b1:j1≠j2
 c1:q1≠z
 c2:q1≠to
 c4:q1≠j2
 d1:q2≠z
 d2:q2≠to
 d3:q2≠j1
theorem IP {k:Nat} (D:JB z ti to j1 j2 q1 q2) (Z:Kx b1 b2 s.heap z ti to j1 j2 q1 q2 .none k xs ys) (hx:xs[k]?=some x) (hy:ys[k]?=some y)
  (fin:∀ g,Kx b1 b2 g z ti to j1 j2 q1 q2 (QD s.heap.objs.size) (k+1) xs ys->Se g s.heap.objs.size x y->(∀ c o,c≠z->c≠to->c≠j1->c≠j2->s.heap.get? c=some o->g.get? c=some o)->Q (some (.ref s.heap.objs.size)) { s with heap:=g }):
  Lm (LJ prog w) A (Pw (.ref z)) Q E s:=by
 obtain⟨hz,hi,⟨pa,pb,ho⟩,hs1,hs2⟩:=Z;have ht:s.TypeIs (.ref z) "zip":=⟨_,hz,rfl⟩
 unfold Pw;refine KE (OX (Mo (name:=MB "__next__") ht QR (MG QR ht F.entry_zip_next ?_ (F.args_zip_next_1 _))));show Lm _ _ (field (.ref z) 2>>=_) _ _ s;refine KE (M7 hz rfl (x:=.bool false) rfl ?_);show Lm _ _ (field (.ref z) 3>>=_) _ _ s;refine KE (M7 hz rfl (x:=.ref ti) rfl ?_);refine KE (Mi hi rfl ?_);show Lm _ _ (M5 (.ref z)>>=_) _ _ s;refine KE ?_;unfold M5;refine KE (M7 hz rfl (x:=.none) rfl (K7 ?_));simp only[Nz];refine KE (OY (KE (M7 hz rfl (x:=.ref to) rfl ?_)));refine KE (Mx hz (by simp) λg1 z1 e1=>?_);have z1:Va g1 z ti to .ellipsis:=z1;refine KE ?_;simp only[List.zipIdx_cons,List.zipIdx_nil,SD,Tn];refine KE (KE (Sa ?_));show Lm _ _ (L6 (.ref j1)>>=_) _ _ { s with heap:=g1 };refine KE ((hs1.ext e1.extBut D.a3 D.c1).next hx λg2 i2 e2=>K7 ?_);have o2:Se g2 to pa pb:=e2.extBut _ _ D.a8 (e1.extBut _ _ D.a2 ho);refine KE (Mi o2 rfl (KE (QF o2 λg3 o3 e3=>?_)));have o3:Se g3 to x pb:=o3;refine KE (Oq (K7 ?_));refine KE (KE (Sa ?_));show Lm _ _ (L6 (.ref j2)>>=_) _ _ { s with heap:=g3 };refine KE ((((hs2.ext e1.extBut D.a4 D.d1).ext e2.extBut D.b1.symm D.d3).ext e3.extBut D.a9.symm D.d2).next hy λg4 i4 e4=>K7 ?_);have o4:Se g4 to x pb:=e4.extBut _ _ D.a9 o3;refine KE (Mi o4 rfl (KE (QF o4 λg5 o5 e5=>?_)));have o5:Se g5 to x y:=o5;refine KE (Oq (K7 (K7 ?_)));refine KE (Mi o5 rfl (KE (Tr ?_)));have sz:g5.objs.size=s.heap.objs.size:=by rw[e5.1,e4.1,e3.1,e2.1,e1.1]
 have z5:Va g5 z ti to .ellipsis:=e5.extBut _ _ D.a2.symm (e4.extBut _ _ D.a4.symm (e3.extBut _ _ D.a2.symm (e2.extBut _ _ D.a3.symm z1)));have k5:∀ c o,c≠z->c≠to->c≠j1->c≠j2->s.heap.get? c=some o->g5.get? c=some o:=λc o n1 n2 n3 n4 e=>
  e5.extBut _ _ n2 (e4.extBut _ _ n4 (e3.extBut _ _ n2 (e2.extBut _ _ n3 (e1.extBut _ _ n1 e))))
 have i5:nV b1 g5 j1 q1 (k+1) xs:=((i2.ext e3.extBut D.a8.symm D.c2).ext e4.extBut D.b1 D.c4).ext e5.extBut D.a8.symm D.c2;have i6:nV b2 g5 j2 q2 (k+1) ys:=i4.ext e5.extBut D.a9.symm D.d2;have lz:z<g5.objs.size:=Lb z5;show Lm _ _ (O8 (.ref z) (.ref g5.objs.size)>>=_) _ _ _;refine KE ?_;unfold O8;have z6:Va (g5.push { cls:=.type "tuple",data:=.seq #[x,y] }) z ti to .ellipsis:=K6 _ z5;refine KE (Mx z6 (by simp) λg7 z7 e7=>?_);have z7:Va g7 z ti to (QD g5.objs.size):=z7;refine Mx z7 (by simp) λg8 z8 e8=>?_
 have z8:Va g8 z ti to (QD g5.objs.size):=z8;have up:∀ c o,c≠z->g5.get? c=some o->g8.get? c=some o:=λc o n e=>e8.extBut _ _ n (e7.extBut _ _ n (K6 _ e))
 have t8:Se g8 g5.objs.size x y:=e8.extBut _ _ (Ny lz) (e7.extBut _ _ (Ny lz) (Ld _ rfl));rw[sz] at z8 t8;refine K7 ⟨_,rfl,K7 ?_⟩;show Q (some (.ref g5.objs.size)) _;rw[sz];exact fin g8 ⟨z8,up _ _ D.a1 (k5 _ _ D.a1 D.a5 D.a6 D.a7 hi),⟨x,y,up _ _ D.a2 o5⟩,i5.keep (λo e=>up _ o D.a3 e) (λo e=>up _ o D.c1 e),i6.keep (λo e=>up _ o D.a4 e) (λo e=>up _ o D.d1 e)⟩ t8
  λc o n1 n2 n3 n4 e=>up c o n1 (k5 c o n1 n2 n3 n4 e)
theorem IT {k:Nat} (hh:A.handled=none) (D:JB z ti to j1 j2 q1 q2) (Z:Kx b1 b2 s.heap z ti to j1 j2 q1 q2 .none k xs ys) (hv:xs[k]?=none\/ys[k]?=none)
  (fin:∀ g,(∀ c o,c≠z->c≠to->c≠j1->c≠j2->s.heap.get? c=some o->g.get? c=some o)->Q none { s with heap:=g }):Lm (LJ prog w) A (Pw (.ref z)) Q E s:=by
 obtain⟨hz,hi,⟨pa,pb,ho⟩,hs1,hs2⟩:=Z;have ht:s.TypeIs (.ref z) "zip":=⟨_,hz,rfl⟩
 have stopped:∀ (g:Ng) (e:Lg),(∀ c o,c ≠ z->c ≠ to->c ≠ j1->c ≠ j2->s.heap.get? c=some o->g.get? c=some o)->(∃ o,g.get? e=some o/\o.cls=.type "StopIteration") ->
   Lm (LJ prog w) A (do if <- S_ (.ref e) (.type "StopIteration") then pure none else throw (.ref e)) Q E { s with heap:=g }:=λg e kk ⟨o,h1,h2⟩=>
  KE (NZ (T:="StopIteration") (b:=true) ⟨o,h1,h2⟩ Tq (K7 (fin g kk)))
 unfold Pw;refine KE (OX (Mo (name:=MB "__next__") ht QR (MG QR ht F.entry_zip_next ?_ (F.args_zip_next_1 _))));show Lm _ _ (field (.ref z) 2>>=_) _ _ s;refine KE (M7 hz rfl (x:=.bool false) rfl ?_);show Lm _ _ (field (.ref z) 3>>=_) _ _ s;refine KE (M7 hz rfl (x:=.ref ti) rfl ?_);refine KE (Mi hi rfl ?_);show Lm _ _ (M5 (.ref z)>>=_) _ _ s;refine KE ?_;unfold M5;refine KE (M7 hz rfl (x:=.none) rfl (K7 ?_));simp only[Nz];refine KE (OY (KE (M7 hz rfl (x:=.ref to) rfl ?_)));refine KE (Mx hz (by simp) λg1 z1 e1=>?_);have z1:Va g1 z ti to .ellipsis:=z1;refine KE ?_;simp only[List.zipIdx_cons,List.zipIdx_nil,SD,Tn];refine KE (KE (Sa ?_));show Lm _ _ (L6 (.ref j1)>>=_) _ _ { s with heap:=g1 };cases hx:xs[k]? with
 |none=>
  refine KE ((hs1.ext e1.extBut D.a3 D.c1).stops hh hx λg2 e e2 he=>?_);obtain⟨oe,q1',q2'⟩:=he;have z2:Va g2 z ti to .ellipsis:=e2 _ _ D.a3.symm z1;have ne:e≠z:=λc=>by subst c;rw[z2] at q1';cases q1';simp at q2'
  exact Mx z2 (by simp) λg3 _ e3=>stopped g3 e (λc o n1 _ n3 _ u=>e3.extBut _ _ n1 (e2 _ _ n3 (e1.extBut _ _ n1 u))) ⟨oe,e3.extBut _ _ ne q1',q2'⟩
 |some x=>
  have hy:ys[k]?=none:=hv.resolve_left (by rw[hx];exact λc=>nomatch c);refine KE ((hs1.ext e1.extBut D.a3 D.c1).next hx λg2 i2 e2=>K7 ?_);have o2:Se g2 to pa pb:=e2.extBut _ _ D.a8 (e1.extBut _ _ D.a2 ho);refine KE (Mi o2 rfl (KE (QF o2 λg3 o3 e3=>?_)));refine KE (Oq (K7 ?_));refine KE (KE (Sa ?_));show Lm _ _ (L6 (.ref j2)>>=_) _ _ { s with heap:=g3 };refine KE ((((hs2.ext e1.extBut D.a4 D.d1).ext e2.extBut D.b1.symm D.d3).ext e3.extBut D.a9.symm D.d2).stops hh hy λg4 e e4 he=>?_);obtain⟨oe,q1',q2'⟩:=he;have z4:Va g4 z ti to .ellipsis:=e4 _ _ D.a4.symm (e3.extBut _ _ D.a2.symm (e2.extBut _ _ D.a3.symm z1));have ne:e≠z:=λc=>by subst c;rw[z4] at q1';cases q1';simp at q2'
  exact Mx z4 (by simp) λg5 _ e5=>stopped g5 e (λc o n1 n2 n3 n4 u=>e5.extBut _ _ n1 (e4 _ _ n4 (e3.extBut _ _ n2 (e2.extBut _ _ n3 (e1.extBut _ _ n1 u))))) ⟨oe,e5.extBut _ _ ne q1',q2'⟩
end
def bY (K:HD)(H:Hp)(a:Lg)(xs:List V):Bool->Prop
 |true=>bE K H a xs
 |false=>dk K H a xs
def Cm (h:Ng)(j q:Lg)(k:Nat):Bool->Prop
 |true=>h.IsListIter j q k
 |false=>h.IsTupleIter j q k
theorem Cm.keep {k:Nat}:∀ {b:Bool},Cm h j q k b->(∀ o,h.get? j=some o->g.get? j=some o)->Cm g j q k b
 |true,⟨o,e,r⟩,f=>⟨o,f o e,r⟩
 |false,⟨o,e,r⟩,f=>⟨o,f o e,r⟩
theorem Cm.fields {k:Nat}:∀ {b:Bool},Cm h j q k b->∃ o vs,h.get? j=some o/\o.data=.fields vs
 |true,⟨o,e,_,d⟩=>⟨o,_,e,d⟩
 |false,⟨o,e,_,d⟩=>⟨o,_,e,d⟩
section
variable {X:Cx}{pins:List (Lg×Obj)}{σ:L2.St}{H:Hp}{s:K_}
theorem nG {k:Nat}(I:aD X pins σ H s):∀ {b:Bool},bY X.K H q xs b->Cm s.heap j q k b->∃ its:List K9,aF xs its/\nV b s.heap j q k its.toArray
 |true,h,i=>by
  obtain⟨its,rv,p,_⟩:=I.list h;exact⟨its,rv,i,p.isList⟩
 |false,h,i=>by
  obtain⟨its,rv,p,_⟩:=I.tuple h;exact⟨its,rv,i,p⟩
theorem Ei {k:Nat}(x:nV b h j q k its):Cm h j q k b:=by
 cases b with
 |true=>exact x.1
 |false=>exact x.1
theorem yH (I:aD X pins σ H s):∀ {b:Bool},bY X.K H q xs b->bY X.K H q ys b->xs=ys
 |true,h,h'=>I.list_inj h h'
 |false,h,h'=>I.tuple_inj h h'
theorem rG (I:aD X pins σ H s):∀ {b:Bool},bY X.K H q xs b->∃ o its n,s.heap.get? q=some o/\o.data=.seq its n
 |true,h=>by
  obtain⟨its,rv,⟨o,n,e,_,_,d⟩,_⟩:=I.list h;exact⟨o,_,n,e,d⟩
 |false,h=>by
  obtain⟨its,rv,⟨o,e,_,n,d⟩,_⟩:=I.tuple h;exact⟨o,_,n,e,d⟩
theorem l6 (I:aD X pins σ H s) (hn:H T=none) (h1:X.s₀.heap.objs.size <= T) (hL:T ≠ X.env.locals) (h2:∀ x c,X.env.cells.lookup x=some c->c ≠ T) (h3:∀ p ∈ X.pn ++ pins,p.1 ≠ T)
  (ok:bv X.prog X.w (upd H T o) s.heap T o):aD X pins σ (upd H T o) s:=by
 have J:=I.step (h':=s.heap) (g':=s.gens) (t':=s.toks) (d':=s.drawn) (H':=upd H T o) (ch:=[T]) (λb hb=>?_) (λb o _ _ _ e _=>e) (λb o _ _ _ e _=>⟨o.slots,e⟩) (λb o hb _ n=>by rw[aq (show b≠T from λz=>hb (by simp[z]))];exact n)
  (λb o _ e=>⟨o,e⟩) (λb xs e=>by rw[aq (aJ e hn)];exact e) (λb u w e=>by rw[aq (aJ e hn)];exact e) (λb ps e=>⟨#[],by rw[aq (aJ e hn),e];simp⟩) (λm hm=>hm) (λb u e=>?_) I.bare
 ·exact J
 ·cases Lo.mp hb;exact⟨.inr h1,hL,h2,h3⟩
 ·by_cases hb:b=T
  ·subst hb;rw[ae] at e;cases e;exact ok
  ·rw[aq hb] at e;exact(I.hok b u e).stay (λ_ _ _ q=>q) (λc q=>by rw[aq (aJ q hn)];exact q) λc xs q=>by rw[aq (aJ q hn)];exact q
end
def HV (K:HD)(b1 b2:Bool)(q1 q2:Lg):It:=
 ⟨λi H=>∃ xs ys x y,bY K H q1 xs b1/\bY K H q2 ys b2/\xs[i]?=some x/\ys[i]?=some y,
  λi H v H'=>∃ x y T,(∀ xs,bY K H q1 xs b1->xs[i]?=some x)/\(∀ ys,bY K H q2 ys b2->ys[i]?=some y)/\H T=none/\v=.ref T/\H'=upd H T (.tup [x,y]),
  λi H=>∃ xs ys,bY K H q1 xs b1/\bY K H q2 ys b2/\(xs.length<=i\/ys.length<=i)⟩
def Kc (z ti to j1 j2 q1 q2:Lg)(b1 b2:Bool)(k:Nat)(h:Ng):Prop:=Va h z ti to .none/\Se h ti (.ref j1) (.ref j2)/\(∃ a b,Se h to a b)/\Cm h j1 q1 k b1/\Cm h j2 q2 k b2
theorem BZ {P:Lz}{w:LX}{K:HD}{elts:List Nq}{tk:Nat}{pos:Pos}{z ti to j1 j2 q1 q2:Lg}{b1 b2:Bool} (D:ti ≠ z/\to ≠ z/\j1 ≠ z/\j2 ≠ z/\ti ≠ to/\ti ≠ j1/\ti ≠ j2/\to ≠ j1/\to ≠ j2/\j1 ≠ j2) :
  um P w K (.Tuple elts tk pos) (HV K b1 b2 q1 q2) [z,ti,to,j1,j2] z (Kc z ti to j1 j2 q1 q2 b1 b2) where
 mem:=by simp
 obj:=λi h st b hb=>by
  obtain⟨h1,h2,⟨a,c,h3⟩,h4,h5⟩:=st;simp only[Ln,LF,Nd] at hb;rcases hb with rfl|rfl|rfl|rfl|rfl
  ·exact⟨_,h1,λv e=>nomatch e⟩
  ·exact⟨_,h2,λv e=>nomatch e⟩
  ·exact⟨_,h3,λv e=>nomatch e⟩
  ·obtain⟨o,vs,e,d⟩:=h4.fields;exact⟨o,e,λv u=>by rw[d] at u;cases u⟩
  ·obtain⟨o,vs,e,d⟩:=h5.fields;exact⟨o,e,λv u=>by rw[d] at u;cases u⟩
 keep:=λi h h' st k=>by
  obtain⟨h1,h2,⟨a,c,h3⟩,h4,h5⟩:=st;exact⟨k z (by simp) _ h1,k ti (by simp) _ h2,⟨a,c,k to (by simp) _ h3⟩,h4.keep λo e=>k j1 (by simp) o e,h5.keep λo e=>k j2 (by simp) o e⟩
 item:=by
  intro X hP hw hK hc i pins s σ H E I hf st hg;subst hP hw hK;obtain⟨xs,ys,x,y,hq1,hq2,hx,hy⟩:=hg;obtain⟨hz,hi,⟨a,c,ho⟩,t1,t2⟩:=st;obtain⟨us,r1,s1⟩:=nG I hq1 t1;obtain⟨vs,r2,s2⟩:=nG I hq2 t2;obtain⟨u,eu,ru⟩:=r1.get hx;obtain⟨v,ev,rv⟩:=r2.get hy;obtain⟨d1,d2,d3,d4,d5,d6,d7,d8,d9,d10⟩:=D;have tr:∀ {q:Lg}{zs:List V}{b:Bool},bY X.K H q zs b->∀ b'∈[z,ti,to,j1,j2],(∃ o ws,s.heap.get? b'=some o/\o.data=.fields ws)->q≠b':=λ{q zs b} hq b' _ ⟨o,ws,e,d⟩ n=>by
   obtain⟨o',its,nn,e',d'⟩:=rG I hq;rw[n,e] at e';cases e';rw[d] at d';cases d'
  have zf:∃ o ws,s.heap.get? z=some o/\o.data=.fields ws:=⟨_,_,hz,rfl⟩
  have tof:∀ {q:Lg}{zs:List V}{b:Bool},bY X.K H q zs b->q≠to:=λ{q zs b} hq n=>by
   have fto:H to=none:=(hf to (by simp)).1;have ft:=(hf to (by simp)).2;cases b with
   |true=>
    obtain⟨its,_,⟨o',nn,e',cc,_,d'⟩,_⟩:=I.list hq;rw[n,ho] at e';cases e';simp at cc
   |false=>
    rcases hq with (hq|⟨o',hq⟩)|⟨o',its,nn,kk,_⟩
    ·rw[n,fto] at hq;cases hq
    ·rw[n,fto] at hq;cases hq
    ·have bb:=I.mod.kin q o' kk;rw[n] at bb;rcases ft.2.2.1 with e|e
     ·exact I.ok.noex to o' bb e
     ·exact absurd (Ls (Lb bb) (LM I.ok.bsz e)) (L7 _)
  have AP:JB z ti to j1 j2 q1 q2:=⟨d1,d2,d3,d4,d5,d6,d7,d8,d9,d10,tr hq1 z (by simp) zf,tof hq1,tr hq1 j2 (by simp) t2.fields,tr hq2 z (by simp) zf,tof hq2,tr hq2 j1 (by simp) t1.fields⟩
  refine IP AP ⟨hz,hi,⟨a,c,ho⟩,s1,s2⟩ (x:=u) (y:=v) (by simpa using eu) (by simpa using ev) λg Z hp kk=>⟨_,rfl,?_⟩
  refine wpAny_letOwnedTupleGo_zip Z.zp λg' z' sb=>?_
  have tz:s.heap.objs.size≠z:=Ny (Lb hz);have fp0:∀ b∈[z,ti,to,j1,j2],b≠s.heap.objs.size:=λb hb n=>by
   simp only[Ln,LF,Nd] at hb;rcases hb with rfl|rfl|rfl|rfl|rfl
   ·exact tz n.symm
   ·exact L7 _ (n▸Lb hi)
   ·exact L7 _ (n▸Lb ho)
   ·obtain⟨o,_,e,_⟩:=t1.fields;exact L7 _ (n▸Lb e)
   ·obtain⟨o,_,e,_⟩:=t2.fields;exact L7 _ (n▸Lb e)
  have k2:∀ b o,b∉[z,ti,to,j1,j2]->s.heap.get? b=some o->g'.get? b=some o:=λb o hb e=>
   sb.extBut b o (λn=>hb (by simp[n])) (kk b o (λn=>hb (by simp[n])) (λn=>hb (by simp[n])) (λn=>hb (by simp[n])) (λn=>hb (by simp[n])) e)
  have nfp:∀ b u',H b=some u'->b∉[z,ti,to,j1,j2]:=λb u' e hb=>by rw[(hf b hb).1] at e;cases e
  have I1:aD X pins σ H { s with heap:=g' }:=by
   refine I.step (g':=s.gens) (d':=s.drawn) (t':=s.toks) (ch:=[z,ti,to,j1,j2]) (λb hb=>?_) (λb o _ _ hb e _=>k2 b o hb e) (λb o _ _ hb e _=>⟨o.slots,k2 b o hb e⟩) (λ_ _ _ _ n=>n) (λb o hb e=>⟨o,k2 b o hb e⟩) (λ_ _ e=>e) (λ_ _ _ e=>e)
    (λb ps e=>⟨#[],by rw[e];simp⟩) (λm hm=>?_) (λb u' e=>?_) I.bare
   ·obtain⟨_,g1,_,g3,g4,g5⟩:=hf b hb;exact⟨g3,g1,g4,g5⟩
   ·obtain⟨o,es,ep,ho',r'⟩:=hm;exact⟨o,es,ep,k2 _ o (λn=>(hf _ n).2.1 rfl) ho',r'⟩
   ·refine(I.hok b u' e).stay (λc' v' hc' q=>k2 c' v' ?_ q) (λ_ q=>q) λ_ _ q=>q
    rcases hc' with rfl|hc'
    ·exact nfp _ _ e
    ·exact nfp _ _ hc'
  have hT:g'.get? s.heap.objs.size=some { cls:=.type "tuple",data:=.seq #[u,v] }:=sb.extBut _ _ tz hp;have fT:H s.heap.objs.size=none:=I.hok.fresh (Lc _);have F:=I.fpOk (b:=s.heap.objs.size) (H':=H) (Lc _) fT;have I2:aD X pins σ (upd H s.heap.objs.size (.tup [x,y])) { s with heap:=g' }:=l6 I1 fT I.sz F.2.1 F.2.2.2.2.1 F.2.2.2.2.2 ⟨by show 2<=Ly;decide,[u,v],.cons ru (.cons rv .nil),⟨_,hT,rfl,_,rfl⟩⟩;have cl:∀ {j q:Lg}{b:Bool}{its:Array K9},nV b g j q (i+1) its->j≠z->Cm g' j q (i+1) b:=λ{j q b its} x n=>(Ei x).keep λo e=>sb.extBut _ _ n e
  exact⟨.ref s.heap.objs.size,_,I2,rfl,⟨x,y,s.heap.objs.size,λxs' h'=>by rw[yH I h' hq1];exact hx,λys' h'=>by rw[yH I h' hq2];exact hy,fT,rfl,rfl⟩,
   ⟨z',sb.extBut _ _ d1 Z.pi,(let ⟨a',b',e'⟩:=Z.po;⟨a',b',sb.extBut _ _ d2 e'⟩),cl Z.s1 d3,cl Z.s2 d4⟩,λb hb=>by rw[aq (fp0 b hb)];exact(hf b hb).1⟩
 done:=by
  intro X hP hw hK hc i pins s σ H E I hf st hg;subst hP hw hK;obtain⟨xs,ys,hq1,hq2,hl⟩:=hg;obtain⟨hz,hi,⟨a,c,ho⟩,t1,t2⟩:=st;obtain⟨us,r1,s1⟩:=nG I hq1 t1;obtain⟨vs,r2,s2⟩:=nG I hq2 t2;have l1:=r1.length;have l2:=r2.length;obtain⟨d1,d2,d3,d4,d5,d6,d7,d8,d9,d10⟩:=D;have tr:∀ {q:Lg}{zs:List V}{b:Bool},bY X.K H q zs b->∀ b'∈[z,ti,to,j1,j2],(∃ o ws,s.heap.get? b'=some o/\o.data=.fields ws)->q≠b':=λ{q zs b} hq b' _ ⟨o,ws,e,d⟩ n=>by
   obtain⟨o',its,nn,e',d'⟩:=rG I hq;rw[n,e] at e';cases e';rw[d] at d';cases d'
  have zf:∃ o ws,s.heap.get? z=some o/\o.data=.fields ws:=⟨_,_,hz,rfl⟩
  have tof:∀ {q:Lg}{zs:List V}{b:Bool},bY X.K H q zs b->q≠to:=λ{q zs b} hq n=>by
   have fto:H to=none:=(hf to (by simp)).1;have ft:=(hf to (by simp)).2;cases b with
   |true=>
    obtain⟨its,_,⟨o',nn,e',cc,_,d'⟩,_⟩:=I.list hq;rw[n,ho] at e';cases e';simp at cc
   |false=>
    rcases hq with (hq|⟨o',hq⟩)|⟨o',its,nn,kk,_⟩
    ·rw[n,fto] at hq;cases hq
    ·rw[n,fto] at hq;cases hq
    ·have bb:=I.mod.kin q o' kk;rw[n] at bb;rcases ft.2.2.1 with e|e
     ·exact I.ok.noex to o' bb e
     ·exact absurd (Ls (Lb bb) (LM I.ok.bsz e)) (L7 _)
  have AP:JB z ti to j1 j2 q1 q2:=⟨d1,d2,d3,d4,d5,d6,d7,d8,d9,d10,tr hq1 z (by simp) zf,tof hq1,tr hq1 j2 (by simp) t2.fields,tr hq2 z (by simp) zf,tof hq2,tr hq2 j1 (by simp) t1.fields⟩
  have nfp:∀ b u',H b=some u'->b∉[z,ti,to,j1,j2]:=λb u' e hb=>by rw[(hf b hb).1] at e;cases e
  refine IT (I.ok.hd hc) AP ⟨hz,hi,⟨a,c,ho⟩,s1,s2⟩ (by simp;lia) λg kk=>⟨rfl,?_⟩
  have k2:∀ b o,b∉[z,ti,to,j1,j2]->s.heap.get? b=some o->g.get? b=some o:=λb o hb e=>
   kk b o (λn=>hb (by simp[n])) (λn=>hb (by simp[n])) (λn=>hb (by simp[n])) (λn=>hb (by simp[n])) e
  refine I.step (g':=s.gens) (d':=s.drawn) (t':=s.toks) (ch:=[z,ti,to,j1,j2]) (λb hb=>?_) (λb o _ _ hb e _=>k2 b o hb e) (λb o _ _ hb e _=>⟨o.slots,k2 b o hb e⟩) (λ_ _ _ _ n=>n) (λb o hb e=>⟨o,k2 b o hb e⟩) (λ_ _ e=>e) (λ_ _ _ e=>e)
   (λb ps e=>⟨#[],by rw[e];simp⟩) (λm hm=>?_) (λb u' e=>?_) I.bare
  ·obtain⟨_,g1,_,g3,g4,g5⟩:=hf b hb;exact⟨g3,g1,g4,g5⟩
  ·obtain⟨o,es,ep,ho',r'⟩:=hm;exact⟨o,es,ep,k2 _ o (λn=>(hf _ n).2.1 rfl) ho',r'⟩
  ·refine(I.hok b u' e).stay (λc' v' hc' q=>k2 c' v' ?_ q) (λ_ q=>q) λ_ _ q=>q
   rcases hc' with rfl|hc'
   ·exact nfp _ _ e
   ·exact nfp _ _ hc'
 self:=λ_ _ _ _ _ st h=>wpAny_pyIter_zip st.1 h
theorem Gq:Me "zip"=some (.type "zip"):=by decide +kernel
theorem DS {a b:Nat}(h:@Ne Nat a b):@Ne Lg a b:=h
def FD (q:Lg):Bool->Obj
 |true=>{ cls:=.type "list_iterator",data:=.fields #[.ref q,.int 0 0] }
 |false=>{ cls:=.type "tuple_iterator",data:=.fields #[.ref q,.int 0 0] }
def CW (h:Ng)(q:Lg)(its:Array K9):Bool->Prop
 |true=>h.IsList q its
 |false=>h.IsTuple q its
abbrev zA (h:Ng)(q1:Lg)(b1:Bool):Ng:=h.push (FD q1 b1)
abbrev zB (h:Ng)(q1 q2:Lg)(b1 b2:Bool):Ng:=(zA h q1 b1).push (FD q2 b2)
abbrev zC (h:Ng)(q1 q2:Lg)(b1 b2:Bool):Ng:=(zB h q1 q2 b1 b2).push { cls:=.type "tuple",data:=.seq #[.ref h.objs.size,.ref (zA h q1 b1).objs.size] }
abbrev zD (h:Ng)(q1 q2:Lg)(b1 b2:Bool):Ng:=(zC h q1 q2 b1 b2).push { cls:=.type "tuple",data:=.seq #[.none,.none] }
abbrev zE (h:Ng)(q1 q2:Lg)(b1 b2:Bool):Ng:=(zD h q1 q2 b1 b2).push { cls:=.type "zip",data:=.fields #[.none,.bool false,.bool false,.ref (zB h q1 q2 b1 b2).objs.size,.ref (zC h q1 q2 b1 b2).objs.size] }
theorem Jf (q1 q2:Lg) (xs ys:Array K9) (b1 b2:Bool):Meets (NU.«zip.__new__» ⟨[.type "zip",.ref q1,.ref q2],[]⟩)
  (λ_ R s=>CW s.heap q1 xs b1/\CW s.heap q2 ys b2/\R (.ok (.ret (.ref (zD s.heap q1 q2 b1 b2).objs.size))) { s with heap:=zE s.heap q1 q2 b1 b2 }):=
 .of_wp λprog w A R s h=>by
  obtain⟨hp,g,d,tk,os⟩:=s;obtain⟨h1,h2,h⟩:=h;have hsub:=sub_zip;cases b1<;>cases b2
  ·have k1:Sz (Pr ⟨hp,g,d,tk,os⟩) q1 xs:=h1;have k2:Sz (Pr ⟨hp.push { cls:=.type "tuple_iterator",data:=.fields #[.ref q1,.int 0 0] },g,d,tk,os⟩) q2 ys:=Uf h2 _
   wp_walk using N1 k1,N1 k2
   exact⟨_,rfl,h⟩
  ·have k1:Sz (Pr ⟨hp,g,d,tk,os⟩) q1 xs:=h1;have k2:Tx (Pr ⟨hp.push { cls:=.type "tuple_iterator",data:=.fields #[.ref q1,.int 0 0] },g,d,tk,os⟩) q2 ys:=UT h2 _
   wp_walk using N1 k1,Na k2
   exact⟨_,rfl,h⟩
  ·have k1:Tx (Pr ⟨hp,g,d,tk,os⟩) q1 xs:=h1;have k2:Sz (Pr ⟨hp.push { cls:=.type "list_iterator",data:=.fields #[.ref q1,.int 0 0] },g,d,tk,os⟩) q2 ys:=Uf h2 _
   wp_walk using Na k1,N1 k2
   exact⟨_,rfl,h⟩
  ·have k1:Tx (Pr ⟨hp,g,d,tk,os⟩) q1 xs:=h1;have k2:Tx (Pr ⟨hp.push { cls:=.type "list_iterator",data:=.fields #[.ref q1,.int 0 0] },g,d,tk,os⟩) q2 ys:=UT h2 _
   wp_walk using Na k1,Na k2
   exact⟨_,rfl,h⟩
section
variable {prog:Lz}{w:LX}{A:L9}{E:K9->K_->Prop}{s:K_}
theorem IH (h1:CW s.heap q1 xs b1) (h2:CW s.heap q2 ys b2)
  (fin:∀ g,Va g (s.heap.objs.size+4) (s.heap.objs.size+2) (s.heap.objs.size+3) .none->Se g (s.heap.objs.size+2) (.ref s.heap.objs.size) (.ref (s.heap.objs.size+1)) ->
   Se g (s.heap.objs.size+3) .none .none->g.get? s.heap.objs.size=some (FD q1 b1)->g.get? (s.heap.objs.size+1)=some (FD q2 b2)->(∀ c o,s.heap.get? c=some o->g.get? c=some o)->Q (.ref (s.heap.objs.size+4)) { s with heap:=g }) :
  Lm (LJ prog w) A (call (.type "zip") [.ref q1,.ref q2]) Q E s:=by
 refine callType_new F.called_zip (by decide) (F.typeCall_zip_2 _ _) (F.newCall_zip_2 _ _) (λobj=>F.args_object_init_3 obj _ _) F.entry_zip_new (Jf q1 q2 xs ys b1 b2) ⟨h1,h2,?_⟩;have n1:(zA s.heap q1 b1).objs.size=s.heap.objs.size+1:=Mw ..;have n2:(zB s.heap q1 q2 b1 b2).objs.size=s.heap.objs.size+2:=by rw[Mw,n1]
 have n3:(zC s.heap q1 q2 b1 b2).objs.size=s.heap.objs.size+3:=by rw[Mw,n2]
 have n4:(zD s.heap q1 q2 b1 b2).objs.size=s.heap.objs.size+4:=by rw[Mw,n3]
 have fr:∀ b q,(FD q b).isFreed=false:=λb q=>by cases b<;>rfl
 have m5:(zE s.heap q1 q2 b1 b2).get? (zD s.heap q1 q2 b1 b2).objs.size=some _:=Ld _ rfl;have m4:(zE s.heap q1 q2 b1 b2).get? (zC s.heap q1 q2 b1 b2).objs.size=some _:=K6 _ (Ld _ rfl);have m3:(zE s.heap q1 q2 b1 b2).get? (zB s.heap q1 q2 b1 b2).objs.size=some _:=K6 _ (K6 _ (Ld _ rfl));have m2:(zE s.heap q1 q2 b1 b2).get? (zA s.heap q1 b1).objs.size=some (FD q2 b2):=K6 _ (K6 _ (K6 _ (Ld _ (fr _ _))));have m1:(zE s.heap q1 q2 b1 b2).get? s.heap.objs.size=some (FD q1 b1):=K6 _ (K6 _ (K6 _ (K6 _ (Ld _ (fr _ _)))));show _/\_;rw[n2,n3,n4] at m5;rw[n1,n2] at m3;rw[n3] at m4;rw[n1] at m2;rw[n4];exact⟨⟨_,m5,rfl⟩,fin _ m5 m3 m4 m1 m2 λc o x=>K6 _ (K6 _ (K6 _ (K6 _ (K6 _ x))))⟩
end
section
variable {X:Cx}{tg:Nq}
theorem sY (I:aD X pins σ H s):∀ {b:Bool},bY X.K H q xs b->∃ its:List K9,aF xs its/\CW s.heap q its.toArray b
 |true,h=>by
  obtain⟨its,rv,p,_⟩:=I.list h;exact⟨its,rv,p.isList⟩
 |false,h=>by
  obtain⟨its,rv,p,_⟩:=I.tuple h;exact⟨its,rv,p⟩
def HW (K:HD)(ta:TA):TI:=λσ H R=>ta σ H λvs H1=>∃ q1 q2 b1 b2,vs=[.ref q1,.ref q2]/\(∃ xs,bY K H1 q1 xs b1)/\(∃ ys,bY K H1 q2 ys b2)/\R (HV K b1 b2 q1 q2) H1
theorem FV {tk:Nat} (hg:Gl X "zip") (hm:X.mg "zip"=none) (ha:PA X [a,b] ta) (hs:LN [a,b] X.env=[(false,O7 a X.env),(false,O7 b X.env)]:=by rfl) (hs2:LN [b] X.env=[(false,O7 b X.env)]:=by rfl) :
  PI X (.Tuple elts tk tpos) (.Call (.Name "zip" p) [a,b] [] pos) (HW X.K ta):=by
 intro pins s σ H R I h;refine Call_ (fW I hg hm Gq (Ni (bP (ha pos pins s σ H _ I h) λus s1 ⟨vs,H1,I1,r1,q1⟩=>?_) (by rw[hs,hs2]) (by rw[hs2];rfl)));obtain⟨qa,qb,b1,b2,rfl,⟨xs,hx⟩,⟨ys,hy⟩,q⟩:=q1;obtain⟨u,v,rfl,ru,rv⟩:=kW r1;cases ru;cases rv;obtain⟨its,_,sa⟩:=sY I1 hx;obtain⟨jts,_,sb⟩:=sY I1 hy;refine IH sa sb λg z5 z3 z4 z1 z2 kk=>?_
 refine wpAny_pyIter_zip z5 ?_;have io:∀ {j q:Lg}{b:Bool},g.get? j=some (FD q b)->Cm g j q 0 b:=λ{j q b} e=>by cases b<;>exact⟨_,e,rfl,rfl⟩
 refine⟨s1.heap.objs.size+4,[s1.heap.objs.size+4,s1.heap.objs.size+2,s1.heap.objs.size+3,s1.heap.objs.size,s1.heap.objs.size+1],_,_,H1,rfl,I1.kept (t':=s1.toks) kk,
  BZ (z:=s1.heap.objs.size+4) (ti:=s1.heap.objs.size+2) (to:=s1.heap.objs.size+3) (j1:=s1.heap.objs.size) (j2:=s1.heap.objs.size+1) ⟨DS (by lia),DS (by lia),DS (by lia),DS (by lia),DS (by lia),DS (by lia),DS (by lia),DS (by lia),DS (by lia),DS (by lia)⟩,⟨z5,z3,⟨_,_,z4⟩,io z1,io z2⟩,λb hb=>?_,q⟩
 have le:s1.heap.objs.size<=b:=by
  simp only[Ln,LF,Nd] at hb;rcases hb with e|e|e|e|e<;>(rw[e];lia)
 exact I1.fpOk le (I1.hok.fresh le)
def qi (K:HD)(a:Lg):Bool->It
 |true=>Io K a
 |false=>Js K a
inductive KM (K:HD)(x:V)(H:Hp)(R:It->Hp->Prop):Prop
 |mk (a:Lg) (b:Bool) (_:x=.ref a) (_:∃ xs,bY K H a xs b) (_:R (qi K a b) H)
def IV (K:HD)(tl:TE):TI:=λσ H R=>tl σ H λx H1=>KM K x H1 R
theorem GP (hl:PE X l tl):PI X tg l (IV X.K tl):=by
 intro pins s σ H R I h;refine bP (hl pins s σ H _ I h) λv s1 ⟨x,H1,I1,r1,q1⟩=>?_
 obtain⟨a,b,e,⟨xs,hq⟩,q⟩:=q1;subst e;cases r1;obtain⟨its,rv,sr⟩:=sY I1 hq;have fp:∀ c∈[s1.heap.objs.size],mC X pins H1 c:=λc hc=>by
  cases Lo.mp hc;exact I1.fpOk (Lc _) (I1.hok.fresh (Lc _))
 cases b with
 |true=>exact Na sr ⟨s1.heap.objs.size,[s1.heap.objs.size],_,_,H1,rfl,I1.kept (t':=s1.toks) λb o e=>K6 _ e,A2 a _,⟨_,Ld _ rfl,rfl,rfl⟩,fp,q⟩
 |false=>exact N1 sr ⟨s1.heap.objs.size,[s1.heap.objs.size],_,_,H1,rfl,I1.kept (t':=s1.toks) λb o e=>K6 _ e,xT a _,⟨_,Ld _ rfl,rfl,rfl⟩,fp,q⟩
end
theorem rj (K:HD)(a:String):∀ bs:List String,Tp K (.type a) (bs.map Oy)=sJ a bs
 |[]=>rfl
 |b::r=>by
  show(match Qg K (.type a) (.type b) with|some true=>some true|some false=>Tp K (.type a) (r.map Oy)|none=>none)=_;rw[uq,rj K a r];rfl
section
variable {X:Cx}
def Fp (K:HD):List V->Hp->VK->Prop:=λxs H Q=>∃ x T p S1 S2 b,xs=[x,.ref p]/\Ty K H x T/\H p=some (.tup [.ty S1,.ty S2])/\sJ T [S1,S2]=some b/\Q (.bl b) H
theorem Kr (I:aD X pins σ H s) (rx:aY x u) (ty:ku X.K H x t) {nn:Nat} (ht:s.heap.get? tp=some ⟨.type "tuple",dd,.seq its.toArray nn,sl⟩) (e':Tp X.K t its=some b) (h:∀ tk,Q (.bool b) { s with toks:=tk }) :
  Lm (LJ X.prog X.w) A (call (.builtin "isinstance") [u,.ref tp]) Q E s:=by
 obtain⟨Z,a,b,c⟩:=Dj I rx ty;exact PySem.W.kia_tup a I.kIn b ht e' c h
theorem AT:cy X (.builtin "isinstance") (Fp X.K):=by
 intro pins s σ H xs us Q I r h;obtain⟨x,T,p,S1,S2,b,rfl,ty,hp,e,q⟩:=h;obtain⟨u,v,rfl,rx,rv⟩:=kW r;cases(show v=LH p from rv);obtain⟨_,its,rr,⟨cl,dd,dt,sl⟩,h1,h2,n,h3⟩:=I.hok p _ hp;obtain⟨u1,u2,rfl,w1,w2⟩:=kW rr;cases(show u1=Oy S1 from w1);cases(show u2=Oy S2 from w2);simp only at h2 h3;subst h2 h3;exact Kr I rx ty h1 ((rj X.K T [S1,S2]).trans e) λtk=>⟨.bl b,H,I.tok tk,rfl,q⟩
end
theorem AZ (bs:List Bool):(L0 bs.length).all (λi=>(bs[i]?).getD true)=bs.all id:=by
 rw[Sx,MF,MF];constructor
 ·intro h b hb;obtain⟨i,hi,rfl⟩:=Po hb;have:=h i (M1.mpr hi)
  simpa [hi] using this
 ·intro h i hi;have hi:=M1.mp hi
  simpa [hi] using h bs[i] (Qz hi)
section
variable {X:Cx}
theorem DO (hc:X.calm=true):cy X (.builtin "all") (λxs H Q=>∃ (p:Lg) (bs:List Bool),xs=[.ref p]/\bE X.K H p (bs.map V.bl)/\Q (.bl (bs.all id)) H):=by
 intro pins s σ H xs us Q I r h;obtain⟨p,bs,rfl,hp,q⟩:=h;obtain⟨u,rfl,ru⟩:=fk r;cases ru;obtain⟨its,rv,pl,hz⟩:=I.list hp;have hl:=rv.length;rw[K'] at hl;have lt:p<s.heap.objs.size:=by
  obtain⟨o,e,_⟩:=pl.isList;exact Lb e
 refine call_all_walk (Na pl.isList ?_);refine⟨s.heap.objs.size,_,_,_,_,_,λi=>(bs[i]?).getD true,rfl,Uy (A:=X.A.in1) (show X.A.in1.handled=none from I.ok.hd hc) _ p (Lp lt) its.toArray,⟨⟨_,Ld _ rfl,rfl,rfl⟩,pl.isList.push _⟩,λi v s' Q' E' hv hq=>?_,λh' tk kk=>?_⟩
 ·have hi:i<bs.length:=by
   have:=(O0.mp hv).1;rw[Lh] at this;lia
  obtain⟨w,ew,rw'⟩:=rv.get (i:=i) (x:=.bl bs[i]) (by simp[hi]);have:its[i]?=some v:=by simpa using hv
  rw[ew] at this;have e2:v=Ox bs[i]:=(K8 this).symm.trans rw';rw[e2];refine MS ?_;have e:(bs[i]?).getD true=bs[i]:=by simp[hi]
  exact e▸hq
 ·have I1:aD X pins σ H { s with heap:=h',toks:=tk }:=I.kept λb o e=>kk b o (by simp;exact Lp (Lb e)) (K6 _ e)
  refine⟨.bl _,H,I1,?_,q⟩;show Ox _=Ox _;rw[<- AZ,Lh,<- hl]
theorem AB (hc:X.calm=true):cy X (.builtin "sum") (λxs H Q=>∃ (p:Lg) (a b c:Int),xs=[.ref p]/\bE X.K H p [.int a,.int b,.int c]/\Sm 60 a/\Sm 60 b/\Sm 60 c/\Q (.int (a+b+c)) H):=by
 intro pins s σ H xs us Q I r h;obtain⟨p,a,b,c,rfl,hp,sa,sb,sc,q⟩:=h;obtain⟨u,rfl,ru⟩:=fk r;cases ru;obtain⟨its,rv,pl,hz⟩:=I.list hp;obtain⟨u1,u2,u3,rfl,⟨t1,rfl⟩,⟨t2,rfl⟩,⟨t3,rfl⟩⟩:∃ u1 u2 u3,its=[u1,u2,u3]/\aY (.int a) u1/\aY (.int b) u2/\aY (.int c) u3:=by
  cases rv with
  |cons r1 rv=>
   cases rv with
   |cons r2 rv=>
    cases rv with
    |cons r3 rv=>
     cases rv;exact⟨_,_,_,rfl,r1,r2,r3⟩
 have lt:p<s.heap.objs.size:=by
  obtain⟨o,e,_⟩:=pl.isList;exact Lb e
 have b60:(2:Nat)^60=1152921504606846976:=by decide
 unfold Sm at sa sb sc;rw[b60] at sa sb sc;refine call_sum_walk (Na pl.isList ?_);refine⟨s.heap.objs.size,_,_,_,_,_,λi=>if i=0 then a else if i=1 then b else c,rfl,Uy (A:=X.A.in1) (show X.A.in1.handled=none from I.ok.hd hc) _ p (Lp lt) [.int a t1,.int b t2,.int c t3].toArray,
  ⟨⟨_,Ld _ rfl,rfl,rfl⟩,pl.isList.push _⟩,λb hb=>?_,λi v hv=>?_,λj hj=>?_,λh' tk t' kk=>?_⟩
 ·show b<(s.heap.push _).objs.size;rw[Mw];simp only[Ln,LF,Nd] at hb;rcases hb with rfl|rfl
  ·exact Ou _
  ·exact Mr lt
 ·match i,hv with
  |0,hv=>exact⟨t1,(K8 hv).symm⟩
  |1,hv=>exact⟨t2,(K8 hv).symm⟩
  |2,hv=>exact⟨t3,(K8 hv).symm⟩
  |n+3,hv=>simp at hv
 ·match j,hj with
  |0,_=>simp only[preSum,InLong];simp;lia
  |1,_=>simp only[preSum,InLong];simp;lia
  |2,_=>simp only[preSum,InLong];simp;lia
  |n+3,hj=>simp at hj;lia
 ·have I1:aD X pins σ H { s with heap:=h',toks:=tk }:=I.kept λb o e=>kk b o (by simp;exact Lp (Lb e)) (K6 _ e)
  refine⟨.int (a+b+c),H,I1,⟨t',?_⟩,q⟩
  congr 1
  show preSum _ 3=_;simp[preSum]
end
section
variable {X:Cx}{pos:Pos}
def Ic (K:HD)(n:Nat)(t:F_):TG:=λv σ H Q=>∃ a xs,v=.ref a/\(bE K H a xs\/dk K H a xs)/\xs.length=n/\t xs σ H Q
theorem Gc {k:Nat}{n:Nat} (hc:X.calm=true) (h:Kv X es t)
  (hn:(NY es X.env).length=n:=by rfl)(hst:(NY es X.env).findIdx? (·.1)=none:=by rfl):PG X (.Tuple es k pos) (Ic X.K n t):=by
 intro pins s σ H v u Q I r hw;obtain⟨a,xs,e1,hq,hl,hw⟩:=hw;subst e1;cases r;rcases hq with hq|hq
 ·obtain⟨its,rv,pl,hz⟩:=I.list hq;rw[assign_Tuple];refine KE (Os ?_);unfold unpack;have hs:(NY es X.env).length=its.toArray.size:=by rw[hn,<- hl,rv.length,Lh]
  rw[hs,hst];refine KE (Mp (PySem.W.kun_itemsOf (I.ok.hd hc) pl.isList λh' hx=>?_));have I1:aD X pins σ H { s with heap:=h' }:=I.kept (t':=s.toks) λb o e=>hx b o (Lp (Lb e)) e
  exact h pins _ σ H xs _ Q I1 (by simpa using rv) hw
 ·obtain⟨its,rv,ht,hz⟩:=I.tuple hq;refine Rg (I.ok.hd hc) ht (by simp[hn,<- hl,rv.length]) hst λh' hx=>?_
  have I1:aD X pins σ H { s with heap:=h' }:=I.kept (t':=s.toks) λb o e=>hx b o (Lp (Lb e)) e
  exact h pins _ σ H xs _ Q I1 (by simpa using rv) hw
end
abbrev rD (q:Rat):LU:=ug q.num (q.den:Int)
theorem gE (q:Rat):q=(q.num:Rat)/((q.den:Int):Rat):=by rw[<- Rat.divInt_eq_div,Rat.num_divInt_den]
theorem yn {t b:Int}(hb:b≠0):Bc t b ((t:Rat)/(b:Rat)).num (((t:Rat)/(b:Rat)).den:Int):=by
 have hq:=gE ((t:Rat)/(b:Rat));have hd:0<((t:Rat)/(b:Rat)).den:=((t:Rat)/(b:Rat)).den_pos;have hr:=((t:Rat)/(b:Rat)).reduced;generalize hz:(t:Rat)/(b:Rat)=q at *;refine⟨by lia,hr,?_⟩;have hb':(b:Rat)≠0:=by
  intro z;exact hb (by exact_mod_cast z)
 have hd':((q.den:Int):Rat)≠0:=by
  intro z;have:q.den=0:=by exact_mod_cast z
  lia
 have:(q.num:Rat)*(b:Rat)=(t:Rat)*((q.den:Int):Rat):=by
  generalize (q.num:Rat)=x at *;generalize ((q.den:Int):Rat)=y at *;generalize (b:Rat)=b' at *;generalize (t:Rat)=t' at *;have e:t'/b'=x/y:=hz.trans hq;grind
 exact_mod_cast this
theorem Fb {t b n d:Int}(hb:b≠0)(h:Bc t b n d):n=((t:Rat)/(b:Rat)).num/\d=(((t:Rat)/(b:Rat)).den:Int):=pM hb h (yn hb)
abbrev Bq (k:Nat)(q:Rat):Prop:=Ok k q.num (q.den:Int)
theorem eV {k:Nat}{t b:Int}(hb:b≠0)(ht:Sm k t)(sb:Sm k b):Bq k ((t:Rat)/(b:Rat)):=(yn hb).ok hb ht sb
theorem je (q:Rat):((q.den:Int):Rat)≠0:=by
 intro z;have:q.den=0:=by exact_mod_cast z
 have:=q.den_pos;lia
theorem zi (p q:Rat):p+q=((p.num*(q.den:Int)+q.num*(p.den:Int):Int):Rat)/(((p.den:Int)*(q.den:Int):Int):Rat):=by
 have h1:=je p;have h2:=je q;have e1:=gE p;have e2:=gE q;rw[MO,Lw,Lw,Lw];grind
theorem yJ (p q:Rat):p*q=((p.num*q.num:Int):Rat)/(((p.den:Int)*(q.den:Int):Int):Rat):=by
 have h1:=je p;have h2:=je q;have e1:=gE p;have e2:=gE q;rw[Lw,Lw];grind
theorem uV (p q:Rat):(p.den:Int)*(q.den:Int)≠0:=by
 have:=p.den_pos;have:=q.den_pos;exact Mf (by lia) (by lia)
theorem Bq.add {j k:Nat}{p q:Rat}(hp:Bq j p)(hq:Bq k q):Bq (j+k+1) (p+q):=by
 rw[Bq,zi];refine eV (uV p q) (Sm.add (hp.sn.mul hq.sd) ((hq.sn.mul hp.sd).mono (by lia))) ((hp.sd.mul hq.sd).mono (by lia))
theorem Bq.mul {j k:Nat}{p q:Rat}(hp:Bq j p)(hq:Bq k q):Bq (j+k) (p*q):=by
 rw[Bq,yJ];exact eV (uV p q) (hp.sn.mul hq.sn) (hp.sd.mul hq.sd)
theorem Kg:Bq 1 0:=⟨by decide,by decide,by unfold Sm;decide,by unfold Sm;decide⟩
def xN (K:HD)(H:Hp)(q:Rat)(Q:VK):Prop:=∀ v H',af H H'->aA K H' (rD q) v->Q v H'
theorem xN.sh {K:HD}{H:Hp}{t b:Int}{Q:VK}(hb:b≠0)(h:xN K H ((t:Rat)/(b:Rat)) Q):Sh K H t b Q:=λv n d H' s hv lw=>by
 obtain⟨e1,e2⟩:=Fb hb lw;subst e1 e2;exact h v H' s hv
theorem xS (p q:Rat):ND (rD p) (rD q)=decide (p=q):=by
 rw[Cs]
 by_cases h:p=q
 ·subst h;simp
 ·rw[LW h]
  by_cases h1:p.num=q.num
  ·by_cases h2:(p.den:Int)=(q.den:Int)
   ·exact absurd (Rat.ext h1 (by lia)) h
   ·rw[LW h2,Tl]
  ·rw[LW h1,Rj]
theorem fK {i:Int}(hg:Gl X x)(hm:∃ t,X.mg x=some (.int i t))(hd:(x==("__debug__":Str))=false:=by decide):WE X (.Name x pos) (tC (.int i)):=by
 refine⟨?_⟩;obtain⟨t,e⟩:=hm;exact EM hg e ⟨t,rfl⟩ hd
theorem ay.get {K:HD}{H:Hp}:∀ {ds:List LU}{xs:List V}{i:Nat}{x:V},ay K H ds xs->xs[i]?=some x->∃ d,ds[i]?=some d/\aA K H d x
 |_,_,_,_,.nil,e=>by simp at e
 |_,_,0,_,.cons h _,e=>by simp at e;subst e;exact⟨_,rfl,h⟩
 |_,_,i+1,x,.cons _ q,e=>by
  obtain⟨d,h1,h2⟩:=ay.get (i:=i) (x:=x) q (by simpa using e);exact⟨d,by simpa using h1,h2⟩
theorem ay.snoc {K:HD}{H:Hp}{d:LU}{x:V}:∀ {ds:List LU}{xs:List V},ay K H ds xs->aA K H d x->ay K H (ds++[d]) (xs++[x])
 |_,_,.nil,h=>.cons h .nil
 |_,_,.cons a q,h=>.cons a (ay.snoc q h)
theorem bY.same {K:HD}{H H':Hp}{a:Lg}{xs:List V}(e:af H H'):∀ {b:Bool},bY K H a xs b->bY K H' a xs b
 |true,h=>e.seq h
 |false,h=>uN e h
theorem bO {n:Nat}(h:n<=1000):n<=Ly:=Nx (bH h)
theorem bC {α:Type}{l:List α}{i:Nat}{x:α}(h:l[i]?=some x):l.take (i+1)=l.take i++[x]:=by
 rw[List.take_succ,h];rfl
section
variable {K:HD}{g:TG}{tt:TT}{te:TE}{σ0:L2.St}{Fin:List V->Hp->Prop}{H1:Hp}
def mN (g:TG)(tt:TT)(te:TE)(σ0:L2.St)(x:V)(H:Hp)(post:V->Hp->Prop):Prop:=∀ R:VK,(∀ y H',post y H'->R y H')->∀ S:Hp->Prop,g x σ0 H λσ' H4=>tt σ' H4 λb H5=>if b=true then te σ' H5 R else S H5
theorem lE {a:Lg}{b:Bool}{xs:List V}{ds:List LU}{f:LU->LU} (hsrc:bY K H1 a xs b) (hds:ay K H1 ds xs) (hl:ds.length <= 1000)
  (he:∀ (i:Nat) (d:LU) (x:V) (H:Hp),ds[i]?=some d->af H1 H->aA K H d x->mN g tt te σ0 x H λy H'=>af H H'/\aA K H' (f d) y)
  (hd:∀ ys H,af H1 H->ay K H (ds.map f) ys->Fin ys H):gg (qi K a b) g tt te σ0 Fin H1:=by
 have hlen:=hds.length;refine⟨λi m ys H=>m=xs.length-i/\i<=xs.length/\af H1 H/\ay K H ((ds.take i).map f) ys,⟨xs.length,by lia,LY _,af.refl _,.nil⟩,?_⟩;rintro i m ys H ⟨rfl,hi,s,hys⟩;have hyl:=hys.length;rw[K',L5] at hyl
 by_cases hlt:i<xs.length
 ·have go:(qi K a b).go i H:=by
   have q:=bY.same s hsrc;cases b with
   |true=>exact⟨xs,xs[i],q,by simp[hlt]⟩
   |false=>exact⟨xs,xs[i],q,by simp[hlt]⟩
  refine .inr ⟨go,bH (by lia),λx H3 y3=>?_⟩;have e3:H3=H/\xs[i]?=some x:=by
   have q:=bY.same s hsrc;cases b with
   |true=>exact⟨y3.1,y3.2 xs q⟩
   |false=>exact⟨y3.1,y3.2 xs q⟩
  obtain⟨rfl,hx⟩:=e3;obtain⟨d,hdd,hdx⟩:=hds.get hx;refine he i d x _ hdd s (aA.same s hdx) _ (λy H' ⟨s',hy⟩=>⟨xs.length-(i+1),by lia,rfl,hlt,s.trans s',?_⟩) λH5=>∃ m',m'<xs.length-i/\(m'=xs.length-(i+1)/\i+1<=xs.length/\af H1 H5/\ay K H5 ((ds.take (i+1)).map f) ys)
  rw[bC hdd,Mg];exact(ay.same s' hys).snoc hy
 ·have e:i=xs.length:=by lia
  subst e;have stop:(qi K a b).stop xs.length H:=by
   have q:=bY.same s hsrc;cases b with
   |true=>exact⟨xs,q,Lc _⟩
   |false=>exact⟨xs,q,Lc _⟩
  rw[LI (by lia)] at hys;exact .inl ⟨stop,bO (by lia),hd ys H s hys⟩
theorem p_ {lo:Int}{n:Nat} (Pv:Nat->List V->Hp->Prop) (h0:Pv 0 [] H1) (hl:n <= 1000) (hy:∀ i ys H,i <= n->Pv i ys H->ys.length <= i)
  (he:∀ i ys H,i<n->Pv i ys H->mN g tt te σ0 (.int (lo+i)) H λy H'=>Pv (i+1) (ys++[y]) H')(hd:∀ ys H,Pv n ys H->Fin ys H):gg (DU lo n) g tt te σ0 Fin H1:=by
 refine⟨λi m ys H=>m=n-i/\i<=n/\Pv i ys H,⟨n,by lia,LY _,h0⟩,?_⟩;rintro i m ys H ⟨rfl,hi,p⟩;have hyl:=hy i ys H hi p
 by_cases hlt:i<n
 ·refine .inr ⟨hlt,bH (by lia),λx H3 y3=>?_⟩;obtain⟨rfl,rfl⟩:=y3;exact he i ys _ hlt p _ (λy H' p'=>⟨n-(i+1),by lia,rfl,hlt,p'⟩) λH5=>∃ m',m'<n-i/\(m'=n-(i+1)/\i+1<=n/\Pv (i+1) ys H5)
 ·have e:i=n:=by lia
  subst e;exact .inl ⟨Lc _,bO (by lia),hd ys H p⟩
theorem fZ:∀ {bs:List Bool}{ys:List V},ay K H (bs.map TJ) ys->ys=bs.map V.bl
 |[],_,.nil=>rfl
 |b::bs,_,.cons (.bl _) q=>by rw[fZ q];rfl
end
def BV (b:Bool)(ds:List LU):LU:=if b=true then .list ds else .tuple ds
structure R3 where
 a:Int
 b:Int
 c:Int
def R3.ds (r:R3):List LU:=[.int r.a,.int r.b,.int r.c]
def R3.vs (r:R3):List V:=[.int r.a,.int r.b,.int r.c]
def h_ (k:Bool)(r:R3):LU:=BV k r.ds
structure R3.In (r:R3)(m:Int):Prop where
 a1:-m<=r.a
 a2:r.a<=m
 b1:-m<=r.b
 b2:r.b<=m
 c1:-m<=r.c
 c2:r.c<=m
structure S9 where
 k:Bool
 k1:Bool
 k2:Bool
 k3:Bool
 x:R3
 y:R3
 z:R3
def S9.rows (s:S9):List LU:=[h_ s.k1 s.x,h_ s.k2 s.y,h_ s.k3 s.z]
def S9.d (s:S9):LU:=BV s.k s.rows
structure S9.In (s:S9):Prop where
 x:s.x.In 4000
 y:s.y.In 4000
 z:s.z.In 4000
theorem aZ {K:HD}{H:Hp}{b:Bool}{ds:List LU}{v:V}(h:aA K H (BV b ds) v):∃ a xs,v=.ref a/\bY K H a xs b/\ay K H ds xs:=by
 cases b with
 |true=>
  cases h with
  |lst h q=>exact⟨_,_,rfl,.inl h,q⟩
 |false=>
  cases h with
  |tup h q=>exact⟨_,_,rfl,dk.of h,q⟩
theorem fI {K:HD}{H:Hp}{r:R3}{xs:List V}(h:ay K H r.ds xs):xs=r.vs:=by
 cases h with
 |cons h1 h=>
  cases h1;cases h with
  |cons h2 h=>
   cases h2;cases h with
   |cons h3 h=>
    cases h3;cases h;rfl
theorem gB {K:HD}{H:Hp}{b:Bool}{r:R3}{v:V}(h:aA K H (h_ b r) v):∃ a,v=.ref a/\bY K H a r.vs b:=by
 obtain⟨a,xs,rfl,hq,hd⟩:=aZ h;cases fI hd;exact⟨a,rfl,hq⟩
theorem cW {K:HD}{H:Hp}{d1 d2 d3:LU}{xs:List V}(h:ay K H [d1,d2,d3] xs):∃ x y z,xs=[x,y,z]/\aA K H d1 x/\aA K H d2 y/\aA K H d3 z:=by
 cases h with
 |cons h1 h=>
  cases h with
  |cons h2 h=>
   cases h with
   |cons h3 h=>
    cases h;exact⟨_,_,_,rfl,h1,h2,h3⟩
theorem lK {K:HD}{H:Hp}{Q:VK}{a:Lg}{xs:List V}{b:Bool}{i:Nat}{v:V}(h:bY K H a xs b)(e:xs[i]?=some v)(q:Q v H):Fv K (.ref a) (.int (i:Int)) H Q:=by
 cases b with
 |true=>exact .inl ⟨a,xs,_,v,rfl,rfl,h,nF e,q⟩
 |false=>exact .inr (.inl ⟨a,xs,_,v,rfl,rfl,h,nF e,q⟩)
theorem mj {K:HD}{H:Hp}{a:Lg}{xs:List V}{b:Bool}(h:bY K H a xs b):bE K H a xs\/dk K H a xs:=by
 cases b with
 |true=>exact .inl h
 |false=>exact .inr h
theorem CL {K:HD}{H:Hp}{b:Bool}{ds:List LU}{v:V}(h:aA K H (BV b ds) v):∃ T,Ty K H v T/\sJ T ["list","tuple"]=some true:=by
 cases b with
 |true=>exact⟨"list",h.ty,by decide +kernel⟩
 |false=>exact⟨"tuple",h.ty,by decide +kernel⟩
def Ii (p q r:Rat):LU:=.tuple [rD p,rD q,rD r]
theorem iO {x:Int}(h1:-4000<=x)(h2:x<=4000):Sm 13 x:=by unfold Sm;lia
def S9.det (s:S9):Int:=s.x.a*(s.y.b*s.z.c-s.y.c*s.z.b)-s.x.b*(s.y.a*s.z.c-s.y.c*s.z.a)+s.x.c*(s.y.a*s.z.b-s.y.b*s.z.a)
def cut (T:List Lg)(H:Hp):Hp:=λb=>if b∈T then none else H b
theorem DH:af (cut T H) H:=λb o e=>by
 unfold cut at e
 split at e
 ·cases e
 ·exact e
theorem Gw (h:b∉T):cut T H b=H b:=LB h
theorem Mv.cut (h:Mv T H H'):af (cut T H) (cut T H'):=λb o e=>by
 unfold TR.cut at e ⊢
 split at e
 ·cases e
 ·rename_i n
  rw[LB n];exact h b o e n
theorem af.cut (h:af H H'):af (TR.cut T H) (TR.cut T H'):=(Mv.of h).cut
theorem c9.not (h:c9 H t r)(hp:H p=none):p∉[t,r]:=λm=>by
 obtain⟨xs,e⟩:=h.lists p m;rw[hp] at e;cases e
theorem aA.uncut {K:HD}{T:List Lg}{H:Hp}{d:LU}{v:V}(h:aA K (cut T H) d v):aA K H d v:=aA.same DH h
theorem u_ {K:HD}{t r D:Lg}{H:Hp}{ds:List LU}{ys:List V}(tw:c9 H t r)(hD:H D=none)(h:ay K (cut [t,r] H) ds ys):aA K (cut [t,r] (upd H D (.lst ys))) (.list ds) (.ref D):=by
 refine .lst (.inl ?_) (ay.same (af.cut (af.new hD)) h);rw[Gw (tw.not hD)];exact ae
theorem aA.listN {K:HD}{D:Lg}{H:Hp}{ds:List LU}{ys:List V}(hD:H D=none)(h:ay K H ds ys):aA K (upd H D (.lst ys)) (.list ds) (.ref D):=.lst (.inl ae) (ay.same (af.new hD) h)
theorem aA.tupN {K:HD}{D:Lg}{H:Hp}{ds:List LU}{ys:List V}(hD:H D=none)(h:ay K H ds ys):aA K (upd H D (.tup ys)) (.tuple ds) (.ref D):=.tup ae (ay.same (af.new hD) h)
abbrev IF (J:It)(g:TG)(tb:TS)(D:qE)(σ:L2.St)(H:Hp):Prop:=∃ W:Nat->Nat->L2.St->Hp->Prop,(∃ m,W 0 m σ H)/\∀ i m σ H,W i m σ H ->
 (J.stop i H/\D.nx σ H)\/(J.go i H/\∃ N:L2.St->Hp->Prop,(∀ σ' H',N σ' H'->∃ m',m'<m/\W (i+1) m' σ' H')/\∀ x H',J.yld i H x H'->g x σ H' λσ2 H2=>tb { D with nx:=N,ct:=N,bk:=D.nx } σ2 H2)
theorem ll {K:HD}{a:Lg}{b:Bool}{xs:List V}{g:TG}{tb:TS}{D:qE}{σ:L2.St}{H:Hp} (Pv:Nat->L2.St->Hp->Prop) (h0:Pv 0 σ H) (hl:∀ i σ H,i <= xs.length->Pv i σ H->bY K H a xs b)
  (hs:∀ i x σ H,xs[i]?=some x->Pv i σ H->g x σ H λσ2 H2=>tb { D with nx:=Pv (i+1),ct:=Pv (i+1),bk:=D.nx } σ2 H2)(hd:∀ σ H,Pv xs.length σ H->D.nx σ H):IF (qi K a b) g tb D σ H:=by
 cases b with
 |true=>exact Cy Pv h0 hl hs hd
 |false=>exact ER Pv h0 hl hs hd
theorem yo {K:HD}{a1 a2:Lg}{b1 b2:Bool}{xs ys:List V}{g:TG}{tb:TS}{D:qE}{σ:L2.St}{H:Hp} (Pv:Nat->L2.St->Hp->Prop) (h0:Pv 0 σ H) (hle:xs.length=ys.length) (hl:∀ i σ H,i <= xs.length->Pv i σ H->bY K H a1 xs b1/\bY K H a2 ys b2)
  (hs:∀ i x y T σ H,xs[i]?=some x->ys[i]?=some y->Pv i σ H->H T=none->g (.ref T) σ (upd H T (.tup [x,y])) λσ2 H2=>tb { D with nx:=Pv (i+1),ct:=Pv (i+1),bk:=D.nx } σ2 H2)(hd:∀ σ H,Pv xs.length σ H->D.nx σ H):IF (HV K b1 b2 a1 a2) g tb D σ H:=by
 refine⟨λi m σ H=>m=xs.length-i/\i<=xs.length/\Pv i σ H,⟨xs.length,by simp,LY _,h0⟩,?_⟩;rintro i m σ H ⟨rfl,hi,p⟩;obtain⟨q1,q2⟩:=hl i σ H hi p
 by_cases hlt:i<xs.length
 ·have hlt2:i<ys.length:=by lia
  refine .inr ⟨⟨xs,ys,xs[i],ys[i],q1,q2,by simp[hlt],by simp[hlt2]⟩,Pv (i+1),λσ' H' p'=>⟨xs.length-(i+1),by lia,rfl,hlt,p'⟩,λv H' y=>?_⟩;obtain⟨x,y,T,k1,k2,kT,rfl,rfl⟩:=y;exact hs i x y T σ _ (k1 xs q1) (k2 ys q2) p kT
 ·have e:i=xs.length:=by lia
  subst e;exact .inl ⟨⟨xs,ys,q1,q2,.inl (Lc _)⟩,hd σ H p⟩
section
variable {K:HD}{g:TG}{tt:TT}{te:TE}{σ0:L2.St}{Fin:List V->Hp->Prop}{H1:Hp}
theorem uP {lo:Int}{n:Nat} (hn:ds.length=n) (hl:n <= 1000)
  (he:∀ (i:Nat) (d:LU) (H:Hp),ds[i]?=some d->af H1 H->mN g tt te σ0 (.int (lo+i)) H λy H'=>af H H'/\aA K H' d y)(hd:∀ ys H,af H1 H->ay K H ds ys->Fin ys H):gg (DU lo n) g tt te σ0 Fin H1:=by
 refine p_ (λi ys H=>af H1 H/\ay K H (ds.take i) ys) ⟨af.refl _,.nil⟩ hl (λi ys H hi p=>?_) (λi ys H hi p=>?_) (λys H p=>?_)
 ·rw[<- p.2.length,L5];lia
 ·obtain⟨s,q⟩:=p;have e:ds[i]?=some ds[i]:=by simp[show i<ds.length by lia]
  intro R kk S;refine he i ds[i] H e s R (λy H' ⟨s',hy⟩=>kk _ _ ⟨s.trans s',?_⟩) S;rw[bC e];exact(ay.same s' q).snoc hy
 ·obtain⟨s,q⟩:=p;rw[LI (by lia)] at q;exact hd ys H s q
theorem mS {lo:Int}{t r:Lg}{n:Nat}{Pd:LU->Prop} (tw:c9 H1 t r) (hl:n <= 1000)
  (he:∀ (i:Nat) (H:Hp),i<n->c9 H t r->Mv [t,r] H1 H->mN g tt te σ0 (.int (lo+i)) H λy H'=>c9 H' t r/\Mv [t,r] H H'/\∃ d,Pd d/\aA K (cut [t,r] H') d y)
  (hd:∀ ds ys H,ds.length=n->(∀ d∈ds,Pd d)->c9 H t r->Mv [t,r] H1 H->ay K (cut [t,r] H) ds ys->Fin ys H):gg (DU lo n) g tt te σ0 Fin H1:=by
 refine p_ (λi ys H=>c9 H t r/\Mv [t,r] H1 H/\∃ ds:List LU,ds.length=i/\(∀ d∈ds,Pd d)/\ay K (cut [t,r] H) ds ys) ⟨tw,Mv.refl,[],rfl,λ_ h=>(LF h).elim,.nil⟩ hl (λi ys H hi p=>?_) (λi ys H hi p=>?_) (λys H p=>?_)
 ·obtain⟨_,_,ds,e,_,q⟩:=p;rw[<- q.length];lia
 ·obtain⟨tw',mv,ds,e,hP,q⟩:=p;intro R kk S;refine he i H hi tw' mv R (λy H' ⟨tw2,mv2,d,hd,hy⟩=>kk _ _ ⟨tw2,mv.trans mv2,ds++[d],by rw[LC,e];rfl,λd' m=>?_,(ay.same mv2.cut q).snoc hy⟩) S;rcases Mm.mp m with m|m
  ·exact hP d' m
  ·cases Lo.mp m;exact hd
 ·obtain⟨tw',mv,ds,e,hP,q⟩:=p;exact hd ds ys H e hP tw' mv q
theorem me (hsrc:bY K H1 a xs b) (hds:ay K H1 ds xs) (hl:ds.length <= 1000)
  (he:∀ (i:Nat) (d:LU) (x:V) (H:Hp),ds[i]?=some d->af H1 H->aA K H d x->∀ (Y:VK) (S:Hp->Prop),(∀ H',af H H'->S H')->g x σ0 H λσ' H4=>tt σ' H4 λb H5=>if b=true then te σ' H5 Y else S H5)
  (hd:∀ H,af H1 H->Fin [] H):gg (qi K a b) g tt te σ0 Fin H1:=by
 have hlen:=hds.length;refine⟨λi m ys H=>m=xs.length-i/\i<=xs.length/\af H1 H/\ys=[],⟨xs.length,by lia,LY _,af.refl _,rfl⟩,?_⟩;rintro i m ys H ⟨rfl,hi,s,rfl⟩
 by_cases hlt:i<xs.length
 ·have go:(qi K a b).go i H:=by
   have q:=bY.same s hsrc;cases b with
   |true=>exact⟨xs,xs[i],q,by simp[hlt]⟩
   |false=>exact⟨xs,xs[i],q,by simp[hlt]⟩
  refine .inr ⟨go,bH (by show 0<=1000;decide),λx H3 y3=>?_⟩;have e3:H3=H/\xs[i]?=some x:=by
   have q:=bY.same s hsrc;cases b with
   |true=>exact⟨y3.1,y3.2 xs q⟩
   |false=>exact⟨y3.1,y3.2 xs q⟩
  obtain⟨rfl,hx⟩:=e3;obtain⟨d,hdd,hdx⟩:=hds.get hx;exact he i d x _ hdd s (aA.same s hdx) _ (λH5=>∃ m',m'<xs.length-i/\(m'=xs.length-(i+1)/\i+1<=xs.length/\af H1 H5/\([]:List V)=[])) λH' s'=>⟨xs.length-(i+1),by lia,rfl,hlt,s.trans s',rfl⟩
 ·have e:i=xs.length:=by lia
  subst e;have stop:(qi K a b).stop xs.length H:=by
   have q:=bY.same s hsrc;cases b with
   |true=>exact⟨xs,q,Lc _⟩
   |false=>exact⟨xs,q,Lc _⟩
  exact .inl ⟨stop,bO (by show 0<=1000;decide),hd H s⟩
end
structure Q3 where
 a:Rat
 b:Rat
 c:Rat
def Q3.ds (q:Q3):List LU:=[rD q.a,rD q.b,rD q.c]
def Q3.col (q:Q3):LU:=.tuple q.ds
structure Q3.Bd (k:Nat)(q:Q3):Prop where
 a:Bq k q.a
 b:Bq k q.b
 c:Bq k q.c
theorem Q3.Bd.mono {j k:Nat}{q:Q3}(h:q.Bd j)(l:j<=k):q.Bd k:=⟨h.a.mono l,h.b.mono l,h.c.mono l⟩
def GW (p q:Q3):Rat:=0+p.a*q.a+p.b*q.b+p.c*q.c
structure M9 where
 x:Q3
 y:Q3
 z:Q3
def M9.d (m:M9):LU:=.list [.list m.x.ds,.list m.y.ds,.list m.z.ds]
def M9.led (m:M9)(c:Q3):Q3:=⟨GW m.x c,GW m.y c,GW m.z c⟩
structure M9.Bd (k:Nat)(m:M9):Prop where
 x:m.x.Bd k
 y:m.y.Bd k
 z:m.z.Bd k
theorem Q3.ext {p q:Q3}(h1:p.a=q.a)(h2:p.b=q.b)(h3:p.c=q.c):p=q:=by
 cases p;cases q;simp_all
def R3.q (r:R3):Q3:=⟨(r.a:Rat)/((1000:Int):Rat),(r.b:Rat)/((1000:Int):Rat),(r.c:Rat)/((1000:Int):Rat)⟩
def S9.m (s:S9):M9:=⟨s.x.q,s.y.q,s.z.q⟩
def R3.cross (r s:R3):R3:=⟨r.b*s.c-r.c*s.b,r.c*s.a-r.a*s.c,r.a*s.b-r.b*s.a⟩
def R3.dot (r s:R3):Int:=r.a*s.a+r.b*s.b+r.c*s.c
def S9.ca (s:S9):R3:=⟨s.x.a,s.y.a,s.z.a⟩
def S9.cb (s:S9):R3:=⟨s.x.b,s.y.b,s.z.b⟩
def S9.cc (s:S9):R3:=⟨s.x.c,s.y.c,s.z.c⟩
def R3.by (r:R3)(s:S9):Q3:=⟨(r.dot s.ca:Rat)/((1000*1000:Int):Rat),(r.dot s.cb:Rat)/((1000*1000:Int):Rat),(r.dot s.cc:Rat)/((1000*1000:Int):Rat)⟩
section
variable {K:HD}{g:TG}{tt:TT}{te:TE}{σ0:L2.St}{Fin:List V->Hp->Prop}{H1:Hp}
theorem cA (hsrc:bY K H1 a xs b) (hds:ay K H1 ds xs) (hle:es.length=ds.length) (hl:ds.length <= 1000)
  (he:∀ (i:Nat) (d e:LU) (x:V) (H:Hp),ds[i]?=some d->es[i]?=some e->af H1 H->aA K H d x->mN g tt te σ0 x H λy H'=>af H H'/\aA K H' e y)
  (hd:∀ ys H,af H1 H->ay K H es ys->Fin ys H):gg (qi K a b) g tt te σ0 Fin H1:=by
 have hlen:=hds.length;refine⟨λi m ys H=>m=xs.length-i/\i<=xs.length/\af H1 H/\ay K H (es.take i) ys,⟨xs.length,by lia,LY _,af.refl _,.nil⟩,?_⟩;rintro i m ys H ⟨rfl,hi,s,hys⟩;have hyl:=hys.length;rw[L5] at hyl
 by_cases hlt:i<xs.length
 ·have go:(qi K a b).go i H:=by
   have q:=bY.same s hsrc;cases b with
   |true=>exact⟨xs,xs[i],q,by simp[hlt]⟩
   |false=>exact⟨xs,xs[i],q,by simp[hlt]⟩
  refine .inr ⟨go,bH (by lia),λx H3 y3=>?_⟩;have e3:H3=H/\xs[i]?=some x:=by
   have q:=bY.same s hsrc;cases b with
   |true=>exact⟨y3.1,y3.2 xs q⟩
   |false=>exact⟨y3.1,y3.2 xs q⟩
  obtain⟨rfl,hx⟩:=e3;obtain⟨d,hdd,hdx⟩:=hds.get hx;have hee:es[i]?=some es[i]:=by simp[show i<es.length by lia]
  refine he i d es[i] x _ hdd hee s (aA.same s hdx) _ (λy H' ⟨s',hy⟩=>⟨xs.length-(i+1),by lia,rfl,hlt,s.trans s',?_⟩) λH5=>∃ m',m'<xs.length-i/\(m'=xs.length-(i+1)/\i+1<=xs.length/\af H1 H5/\ay K H5 (es.take (i+1)) ys)
  rw[bC hee];exact(ay.same s' hys).snoc hy
 ·have e:i=xs.length:=by lia
  subst e;have stop:(qi K a b).stop xs.length H:=by
   have q:=bY.same s hsrc;cases b with
   |true=>exact⟨xs,q,Lc _⟩
   |false=>exact⟨xs,q,Lc _⟩
  rw[LI (by lia)] at hys;exact .inl ⟨stop,bO (by lia),hd ys H s hys⟩
theorem fH (h1:bY K H1 a1 xs b1) (h2:bY K H1 a2 ys b2) (hds:ay K H1 ds xs) (hes:ay K H1 es ys) (hle:ds.length=es.length) (hlf:fs.length=ds.length) (hl:ds.length <= 1000)
  (he:∀ (i:Nat) (d e f:LU) (x y:V) (T:Lg) (H:Hp),ds[i]?=some d->es[i]?=some e->fs[i]?=some f->af H1 H->aA K H d x->aA K H e y->H T=some (.tup [x,y])->mN g tt te σ0 (.ref T) H λz H'=>af H H'/\aA K H' f z)
  (hd:∀ zs H,af H1 H->ay K H fs zs->Fin zs H):gg (HV K b1 b2 a1 a2) g tt te σ0 Fin H1:=by
 have hlen:=hds.length;have hlen2:=hes.length;refine⟨λi m zs H=>m=xs.length-i/\i<=xs.length/\af H1 H/\ay K H (fs.take i) zs,⟨xs.length,by lia,LY _,af.refl _,.nil⟩,?_⟩;rintro i m zs H ⟨rfl,hi,s,hzs⟩;have hyl:=hzs.length;rw[L5] at hyl
 by_cases hlt:i<xs.length
 ·have hlt2:i<ys.length:=by lia
  refine .inr ⟨⟨xs,ys,xs[i],ys[i],bY.same s h1,bY.same s h2,by simp[hlt],by simp[hlt2]⟩,bH (by lia),λv H3 y3=>?_⟩;obtain⟨x,y,T,k1,k2,kT,rfl,rfl⟩:=y3;have hx:=k1 xs (bY.same s h1);have hy:=k2 ys (bY.same s h2);obtain⟨d,hdd,hdx⟩:=hds.get hx;obtain⟨e,hee,hey⟩:=hes.get hy;have hff:fs[i]?=some fs[i]:=by simp[show i<fs.length by lia]
  have sT:af H (upd H T (.tup [x,y])):=af.new kT;have sA:=s.trans sT;refine he i d e fs[i] x y T _ hdd hee hff sA (aA.same sA hdx) (aA.same sA hey) ae _ (λz H' ⟨s',hz⟩=>⟨xs.length-(i+1),by lia,rfl,hlt,sA.trans s',?_⟩) λH5=>∃ m',m'<xs.length-i/\(m'=xs.length-(i+1)/\i+1<=xs.length/\af H1 H5/\ay K H5 (fs.take (i+1)) zs)
  rw[bC hff];exact(ay.same s' (ay.same sT hzs)).snoc hz
 ·have e:i=xs.length:=by lia
  subst e;rw[LI (by lia)] at hzs;exact .inl ⟨⟨xs,ys,bY.same s h1,bY.same s h2,.inl (Lc _)⟩,bO (by lia),hd zs H s hzs⟩
end
theorem uU {i:Nat}(h:[a,b,c][i]?=some x):(i=0/\x=a)\/(i=1/\x=b)\/(i=2/\x=c):=by
 match i,h with
 |0,h=>exact .inl ⟨rfl,(K8 h).symm⟩
 |1,h=>exact .inr (.inl ⟨rfl,(K8 h).symm⟩)
 |2,h=>exact .inr (.inr ⟨rfl,(K8 h).symm⟩)
 |n+3,h=>simp at h
end TR
namespace TR
theorem f9 {r s:R3}(h:r.In 4000)(g:s.In 4000):(r.cross s).In 200000000:=by
 have m:∀ {u v:Int},-4000<=u->u<=4000->-4000<=v->v<=4000->Sm 26 (u*v):=λh1 h2 h3 h4=>(iO h1 h2).mul (iO h3 h4)
 have f:∀ {x y:Int},Sm 26 x->Sm 26 y->-200000000<=x-y/\x-y<=200000000:=λa b=>by
  unfold Sm at a b;lia
 obtain⟨a1,a2,b1,b2,c1,c2⟩:=h;obtain⟨d1,d2,e1,e2,f1,f2⟩:=g;have k1:=f (m b1 b2 f1 f2) (m c1 c2 e1 e2);have k2:=f (m c1 c2 d1 d2) (m a1 a2 f1 f2);have k3:=f (m a1 a2 e1 e2) (m b1 b2 d1 d2);exact⟨k1.1,k1.2,k2.1,k2.2,k3.1,k3.2⟩
open PySem PySem.Spec PyProof.Rows L2
section
variable {X:Cx}{K:HD}{pos:Pos}{tg:Nq}
def Jd (K:HD):List V->Hp->VK->Prop:=λxs H Q=>∃ p ys,xs=[.ref p]/\(bE K H p ys\/dk K H p ys)/\Q (.int ys.length) H
def E6 (K:HD):List V->Hp->VK->Prop:=λxs H Q=>∃ p ys,xs=[.ref p]/\(bE K H p ys\/dk K H p ys)/\∀ l,H l=none->Q (.ref l) (upd H l (.lst ys))
def Hi (K:HD):List V->Hp->VK->Prop:=λxs H Q=>∃ p ys,xs=[.ref p]/\((bE K H p ys/\∀ l,H l=none->Q (.ref l) (upd H l (.tup ys)))\/(dk K H p ys/\Q (.ref p) H))
def Kj (K:HD):List V->Hp->VK->Prop:=λxs H Q=>∃ (p:Lg) (bs:List Bool),xs=[.ref p]/\bE K H p (bs.map V.bl)/\Q (.bl (bs.all id)) H
def ID (K:HD):List V->Hp->VK->Prop:=λxs H Q=>∃ (p:Lg) (a b c:Int),xs=[.ref p]/\bE K H p [.int a,.int b,.int c]/\Sm 60 a/\Sm 60 b/\Sm 60 c/\Q (.int (a+b+c)) H
theorem iK (e:X.K=K):cy X (.builtin "len") (Jd K):=by subst e;exact sO
theorem vA (e:X.K=K):cy X (.type "list") (E6 K):=by subst e;exact sR
theorem jE (e:X.K=K):cy X (.type "tuple") (Hi K):=by subst e;exact qr
theorem re (e:X.K=K)(hc:X.calm=true):cy X (.builtin "all") (Kj K):=by subst e;exact DO hc
theorem Gh (e:X.K=K)(hc:X.calm=true):cy X (.builtin "sum") (ID K):=by subst e;exact AB hc
theorem gt (e:X.K=K):cy X (.builtin "isinstance") (HN K):=by subst e;exact Dk
theorem BK (e:X.K=K):cy X (.builtin "isinstance") (Fp K):=by subst e;exact AT
theorem yA (e:X.K=K)(hu:X.A.units+64<cLine):jI X (Nj .Eq) (IL K):=by subst e;exact G_ hu
theorem vy (e:X.K=K)(hu:X.A.units+64<cLine):jI X (Nj .NotEq) (Ia K):=by subst e;exact GN hu
theorem D3 (e:X.K=K)(hu:X.A.units+64<cLine):jI X (Nj .NotEq) (CU K):=by subst e;exact Bw hu
theorem JZ (e:X.K=K):Cp X (Fv K):=by subst e;exact Gk
theorem Jg (e:X.K=K):JH X (HY K):=by subst e;exact Fa
theorem bB (e:X.K=K)(hl:WE X l tl):WI X tg l (IV K tl):=by
 have hl:=hl.go;refine⟨?_⟩;subst e;exact GP hl
theorem gM (e:X.K=K) {tk:Nat} (hg:Gl X "zip") (hm:X.mg "zip"=none) (ha:WA X [a,b] ta) (hs:LN [a,b] X.env=[(false,O7 a X.env),(false,O7 b X.env)]:=by rfl) (hs2:LN [b] X.env=[(false,O7 b X.env)]:=by rfl) :
  WI X (.Tuple elts tk tpos) (.Call (.Name "zip" p) [a,b] [] pos) (HW K ta):=by
 have ha:=ha.go;refine⟨?_⟩;subst e;exact FV hg hm ha hs hs2
theorem bZ (e:X.K=K){k:Nat}{n:Nat}(hc:X.calm=true)(h:HI X es t)(hn:(NY es X.env).length=n:=by rfl)(hst:(NY es X.env).findIdx? (·.1)=none:=by rfl):WG X (.Tuple es k pos) (I_ K n t):=by
 have h:=h.go;refine⟨?_⟩;subst e;exact Hg hc h hn hst
theorem xA (e:X.K=K){k:Nat}{n:Nat}(hc:X.calm=true)(h:HI X es t)(hn:(NY es X.env).length=n:=by rfl)(hst:(NY es X.env).findIdx? (·.1)=none:=by rfl):WG X (.Tuple es k pos) (Ic K n t):=by
 have h:=h.go;refine⟨?_⟩;subst e;exact Gc hc h hn hst
end
def S9.one:S9:=⟨false,false,false,false,⟨1000,0,0⟩,⟨0,1000,0⟩,⟨0,0,1000⟩⟩
theorem Et (p q:Rat):p-q=((p.num*(q.den:Int)-q.num*(p.den:Int):Int):Rat)/(((p.den:Int)*(q.den:Int):Int):Rat):=by
 have h1:=je p;have h2:=je q;have e1:=gE p;have e2:=gE q;rw[Mn,Lw,Lw,Lw];grind
theorem Bq.sub {j k:Nat}{p q:Rat}(hp:Bq j p)(hq:Bq k q):Bq (j+k+1) (p-q):=by
 rw[Bq,Et];refine eV (uV p q) (Sm.sub (hp.sn.mul hq.sd) ((hq.sn.mul hp.sd).mono (by lia))) ((hp.sd.mul hq.sd).mono (by lia))
def S9.c0 (s:S9):R3:=s.y.cross s.z
def S9.c1 (s:S9):R3:=s.z.cross s.x
def S9.c2 (s:S9):R3:=s.x.cross s.y
def S9.f (s:S9)(n:Int):Rat:=((1000*n:Int):Rat)/((s.det:Int):Rat)
theorem wU {s:S9}(h:s.In):Sm 60 s.det:=by
 have m:∀ {u v:Int},-4000<=u->u<=4000->-4000<=v->v<=4000->Sm 26 (u*v):=λh1 h2 h3 h4=>(iO h1 h2).mul (iO h3 h4)
 obtain⟨⟨x1,x2,x3,x4,x5,x6⟩,⟨y1,y2,y3,y4,y5,y6⟩,⟨z1,z2,z3,z4,z5,z6⟩⟩:=h;have k1:=(iO x1 x2).mul ((m y3 y4 z5 z6).sub (m y5 y6 z3 z4));have k2:=(iO x3 x4).mul ((m y1 y2 z5 z6).sub (m y5 y6 z1 z2));have k3:=(iO x5 x6).mul ((m y1 y2 z3 z4).sub (m y3 y4 z1 z2));exact((k1.sub k2).add (k3.mono (by decide))).mono (by decide)
abbrev WX:=L2.St->Lg->Hp->Prop
abbrev KC:List K9:=[.type "ValueError",.type "Exception",.type "BaseException",.type "object"]
abbrev Ie:String:="ValueError.__new__"
def eR (K:HD)(x:Str)(C:Lg):Prop:=Lv K Lf x=some (some (.ref C))
def vJ:List Str:=["BadNumber","BadShare","BadCurve","BadSquare","NoBack","BadGrid","BadColour","BadIntent","BadProfile","BadInk","BadText"]
def kO (K:HD)(x:Str):Option Lg:=match Lv K Lf x with
 |some (some (.ref C))=>some C
 |_=>none
theorem C4 {K:HD}{x:Str}{C:Lg}(h:kO K x=some C):eR K x C:=by
 unfold kO at h
 split at h
 ·rename_i D e
  cases h;exact e
 ·cases h
theorem pR {K:HD}{x:Str}{C:Lg}(h:eR K x C):kO K x=some C:=by
 unfold kO;rw[show Lv K Lf x=some (some (.ref C)) from h]
def K5 (K:HD)(C:Lg):Bool:=
 PySem.W.excIn K C KC Ie&&SO K C&&Rr K (.ref C)==some (.type "type")&&PQ K C (.type "object")==some true&&PQ K C (.type "BaseException")==some true &&
  LP K (.ref C) "__getattribute__"==some (some (.builtin "BaseException.__getattribute__"))&&LP K (.ref C) "__getattr__"==some none&&LP K (.ref C) "__class__"==some (some (.builtin "object.__class__")) &&
  P_ K (.builtin "object.__class__") "__get__"==some (some (.builtin "getset_descriptor.__get__"))&&QZ K (.builtin "object.__class__")==some true&&OV K (.ref C) (.ref C)==some true
structure Ex (K:HD)(C:Lg):Prop where
 exc:PySem.W.excIn K C KC Ie=true
 cls:SO K C=true
 typ:Rr K (.ref C)=some (.type "type")
 slf:OV K (.ref C) (.ref C)=some true
 obj:PQ K C (.type "object")=some true
 bex:PQ K C (.type "BaseException")=some true
 ga:LP K (.ref C) "__getattribute__"=some (some (.builtin "BaseException.__getattribute__"))
 gn:LP K (.ref C) "__getattr__"=some none
 gc:LP K (.ref C) "__class__"=some (some (.builtin "object.__class__"))
 get:P_ K (.builtin "object.__class__") "__get__"=some (some (.builtin "getset_descriptor.__get__"))
 tks:QZ K (.builtin "object.__class__")=some true
def JG (K:HD):Bool:=(kO K "TintError").any λT=>SO K T&&Rr K (.ref T)==some (.type "type")&&OV K (.ref T) (.type "BaseException")==some true &&
 (L0 11).all λi=>(kO K (vJ.getD i "")).any λC=>K5 K C&&OV K (.ref C) (.ref T)==some true&&OV K (.ref C) (.type "ValueError")==some true &&
  (L0 11).all λj=>(kO K (vJ.getD j "")).any λD=>OV K (.ref C) (.ref D)==some (i==j)
theorem rE (h:o.any p=true):∃ a,o=some a/\p a=true:=by
 cases o with
 |none=>cases h
 |some a=>exact⟨a,rfl,h⟩
section
variable {K:HD}(R:JG K=true)
include R
end
section
variable {X:Cx}{K:HD}
def JQ (K:HD)(x:Str):TE:=λ_ H Q=>∀ D,eR K x D->Q (.ref D) H
theorem Eo (hK:X.K=K)(hg:Gl X x)(hx:∃ D,eR K x D)(hd:(x==("__debug__":Str))=false:=by decide):WE X (.Name x pos) (JQ K x):=by
 refine⟨?_⟩;subst hK;intro pins s σ H Q I h;obtain⟨D,hD⟩:=hx;exact jC I hg (Mh I.ok.mod.kin I.ok.mod.glob hD) ⟨.ref D,H,I,rfl,h D hD⟩ hd
end
def DW (l m:Int):LU->Bool
 |.int i=>decide (l<=i)&&decide (i<=m)
 |_=>false
section
variable {K:HD}{t r p:Lg}{H0 H:Hp}{xs ys:List V}{ds es:List LU}
theorem Hl {k:Int}{n:Nat}(hk:k=n)(hn:n<=1000)(h:H p=some (.lst [v]))(q:∀ l,H l=none->Q (.ref l) (upd H l (.lst (LD n v)))):FR (.ref p) (.int k) H Q:=by
 subst hk;refine⟨p,_,_,rfl,rfl,h,by lia,by lia,?_,λl hl=>?_⟩
 ·show 1*((n:Int)).toNat<=Ly;have:(1000:Nat)<=Ly:=by decide
  lia
 ·have e:(LD ((n:Int)).toNat [v]).flatten=LD n v:=by
   rw[MI];clear hn q
   induction n with
   |zero=>rfl
   |succ n ih=>rw[NR,OT,ih];rfl
  rw[e];exact q l hl
theorem Em {k:Int}{n:Nat}(hk:k=n)(hn:n<=1000)(h:H p=some (.lst [v]))(q:∀ l,H l=none->Q (.ref l) (upd H l (.lst (LD n v)))):tC (.int k) σ H λy H2=>FR (.ref p) y H2 Q:=Hl hk hn h q
end
def j8 (K:HD)(x:Str)(fs:List Str):Bool:=(kO K x).any λC=>Pj K C Str.empty&&P9 K C&&RF K C&&LP K (.ref C) "__setattr__"==some (some (.builtin "object.__setattr__")) &&
 QX K C&&LR K (.ref C)&&fs.all λf=>LP K (.ref C) f==some none
structure Jn (K:HD)(x:Str)(fs:List Str)(C:Lg):Prop where
 at_:eR K x C
 cls:FO K C
 makes:QX K C=true
 kp:LR K (.ref C)=true
 no:∀ f∈fs,oY K C f
theorem kH {K:HD}{x:Str}{fs:List Str}(h:j8 K x fs=true):∃ C,Jn K x fs C:=by
 unfold j8 at h;obtain⟨C,e,q⟩:=rE h;simp only[L4,NP,MF] at q;obtain⟨⟨⟨⟨⟨⟨a,b⟩,c⟩,d⟩,m⟩,k⟩,n⟩:=q;exact⟨C,C4 e,⟨a,b,c,d⟩,m,k,λf hf=>NP.mp (by simpa using n f hf)⟩
theorem cu {K:HD}{x:Str}{C D:Lg}(h:eR K x C)(g:eR K x D):C=D:=K8 ((pR h).symm.trans (pR g))
section
variable {X:Cx}{K:HD}{o e value:Nq}{f x:Str}{fs0:List Str}{pos pos':Pos}{ta tv:TE}
inductive KI (K:HD)(x f:Str)(v:V)(H:Hp)(Q:VK):Prop
 |mk (a C dx:Lg) (fs:List (Str×V)) (w:V) (_:v=.ref a) (_:eR K x C) (_:H a=some (.ins C dx fs)) (_:fs.lookup f=some w) (_:Q w H)
def IS (K:HD)(x:Str)(ta:TE)(f:Str):TE:=λσ H Q=>ta σ H λv H1=>KI K x f v H1 Q
theorem iU (hK:X.K=K)(hc:j8 K x fs0=true)(hf:f∈fs0)(he:WE X e ta)(hb:R1 e f X.env (O7 e X.env)=O7 e X.env:=by rfl):WE X (.Attribute e f pos) (IS K x ta f):=by
 have he:=he.go;refine⟨?_⟩;subst hK;obtain⟨D,cf⟩:=kH hc;intro pins s σ H Q I h;refine Eg hb (bP (he pins s σ H _ I h) λu s1 ⟨v,H1,I1,rv,a,C,dx,fs,w,ev,ec,ea,l,q⟩=>?_);subst ev;cases cu ec cf.at_;obtain rfl:u=LH a:=rv;exact xI I1 ea cf.cls (cf.no f hf) l λu' s2 I2 ru=>⟨w,H1,I2,ru,q⟩
def IW (K:HD)(x:Str)(ta tv:TE)(f:Str):TS:=λD σ H=>tv σ H λy H1=>ta σ H1 λv H2=>∃ a C dx fs,v=.ref a/\eR K x C/\H2 a=some (.ins C dx fs)/\fs.length<1000 /\
 D.nx σ (upd H2 a (.ins C dx (gW f y fs)))
theorem u7 (hK:X.K=K) (hc:j8 K x fs0=true) (hf:f ∈ fs0) (ha:WE X o ta) (hv:WE X value tv) (hs:Q2 value (some (.Attribute o f pos')) pos.line X.env=pure false:=by rfl) :
  WS X (.Assign [.Attribute o f pos'] value pos) (IW K x ta tv f):=by
 have ha:=ha.go;have hv:=hv.go;refine⟨?_⟩;subst hK;obtain⟨E,cf⟩:=kH hc;intro pins s σ H D I h;refine plainObj_wpAny_Assign_Attribute (bP (hv pins s σ H _ I h) λu s1 ⟨y,H1,I1,ry,q⟩=>bP (ha pins s1 σ H1 _ I1 q) λov s2 ⟨v,H2,I2,rv,a,C,dx,fs,ev,ec,ea,l,q2⟩=>?_) hs;subst ev;cases cu ec cf.at_;obtain rfl:ov=LH a:=rv;exact xE I2 ea cf.cls (cf.no f hf) l ry λs3 I3=>⟨σ,_,I3,q2⟩
end
abbrev FM (X:Cx)(o:Nq)(m:Str)(args:List Nq)(pl:Sem Bool)(apos pos:Pos):Prop:=
 O7 (.Call (.Attribute o m apos) args [] pos) X.env=(do let ov <- O7 o X.env;TL apos.atName;let (f,first) <- holding [ov] (getMethod ov m pl);callWith pos f first (QC pos (LN args X.env)) (S7 pos (Qb [] X.env)))
structure vq (P:Lz)(w:LX)(K:HD)(mg:Str->Option K9)(base:Ng)(CX:jG)(k:Nat)(x m:Str)(ps:List Str)(dvs:List V)(sp:Sp):Prop where
 ex:∃ (C f:Lg) (fd:MW) (ds:List K9) (fs:List Str),iy P w K mg base CX k f fd ps sp/\Jn K x fs C/\DM K C m f/\mg x=some (.ref C)/\jZ K fd ps ds/\aF dvs ds
def Fu (K:HD)(x m:Str)(sp:Sp)(dvs:List V)(E:XK)(ta:TE)(t:TA):TE:=λσ H Q=>ta σ H λv H1=>∃ a C dx fs,v=.ref a/\eR K x C/\H1 a=some (.ins C dx fs)/\fs.lookup m=none /\
 t σ H1 λvs H2=>sp (v::(vs++dvs)) H2 Q E
def Iz (K:HD)(x:Str)(sp:Sp)(dvs:List V)(E:XK)(t:TA):TE:=λσ H Q=>t σ H λvs H1=>∀ C a dx,eR K x C->H1 a=none->H1 dx=none->dx≠a ->
 sp (.ref a::(vs++dvs)) (upd (upd H1 dx (.own a)) a (.ins C dx [])) (λv H2=>v=.non/\Q (.ref a) H2) E
section
variable {X:Cx}{CX:jG}{K:HD}{k:Nat}{x m:Str}{ps:List Str}{sp:Sp}{dvs:List V}{p pos apos:Pos}{o e:Nq}{es:List Nq}{ta:TE}{t:TA}{W:WX}
theorem nU {pl:Sem Bool} (hK:X.K=K) (hX:Ey CX) (C:vq X.prog X.w X.K X.mg X.base CX k x m ps dvs sp) (hr:Room k X.A) (he:WE X o ta) (ha:WA X (e :: es) t)
  (hst:LN (e::es) X.env=(false,O7 e X.env)::LN es X.env:=by rfl)(hpl:(QC pos (LN es X.env)).any (·.1)=false:=by rfl)
  (ht:FM X o m (e::es) pl apos pos:=by rfl):WE X (.Call (.Attribute o m apos) (e::es) [] pos) (Fu K x m sp dvs E0 ta t):=by
 have he:=he.go;have ha:=ha.go;refine⟨?_⟩;subst hK;obtain⟨D,f,fd,ds,fs0,F,cf,hm,_,hb,hd⟩:=C.ex;intro pins s σ H Q I h;refine Qq (pl:=pl) (bP (he pins s σ H _ I h) λu s1 ⟨v,H1,I1,rv,a,E,dx,fs,ev,ec,ea,l,q⟩=>?_) ht;subst ev;cases cu ec cf.at_;obtain rfl:u=LH a:=rv;refine j_ I1 ea cf.cls hm l ?_;refine PP (first:=[.ref a]) (h₀:=X.base) I.ok.mod.kin hm.kp (bP (ha pos pins s1 σ H1 _ I1 q) λus s2 ⟨vs,H2,I2,r,q2⟩=>⟨I2.kIn,?_⟩) hst hpl;exact rO (us:=.ref a::us) (vs:=.ref a::vs) F hr hb hd (qY hX) I2 (.cons rfl r) q2
theorem pC {pl:Sem Bool} (hK:X.K=K) (hX:Ey CX) (C:vq X.prog X.w X.K X.mg X.base CX k x m ps dvs sp) (hr:Room k X.A) (he:WE X o ta)
  (ht:FM X o m [] pl apos pos:=by rfl):WE X (.Call (.Attribute o m apos) [] [] pos) (Fu K x m sp dvs E0 ta Ax):=by
 have he:=he.go;refine⟨?_⟩;subst hK;obtain⟨D,f,fd,ds,fs0,F,cf,hm,_,hb,hd⟩:=C.ex;intro pins s σ H Q I h;refine Qq (pl:=pl) (bP (he pins s σ H _ I h) λu s1 ⟨v,H1,I1,rv,a,E,dx,fs,ev,ec,ea,l,q⟩=>?_) ht;subst ev;cases cu ec cf.at_;obtain rfl:u=LH a:=rv;refine j_ I1 ea cf.cls hm l ?_;exact PySem.W.callWith_K0 (first:=[.ref a]) I1.kIn hm.kp (rO (us:=[.ref a]) (vs:=[.ref a]) F hr hb hd (qY hX) I1 (.cons rfl .nil) q)
theorem Fd (hK:X.K=K) (hX:Ey CX) (C:vq X.prog X.w X.K X.mg X.base CX k x "__init__" ps dvs sp) (hr:Room (k + 1) X.A) (hg:Gl X x) (ha:WA X (e :: es) t) (hdb:(x == ("__debug__":Str))=false:=by decide)
  (he:LN (e::es) X.env=(false,O7 e X.env)::LN es X.env:=by rfl)(hpl:(QC pos (LN es X.env)).any (·.1)=false:=by rfl):WE X (.Call (.Name x p) (e::es) [] pos) (Iz K x sp dvs E0 t):=by
 have ha:=ha.go;refine⟨?_⟩;subst hK;obtain⟨D,f,fd,ds,fs0,F,cf,hm,hmg,hb,hd⟩:=C.ex;intro pins s σ H Q I h;refine MX (jC I hg hmg ?_ hdb);refine PP (h₀:=X.base) I.ok.mod.kin cf.kp (bP (ha pos pins s σ H _ I h) λus s1 ⟨vs,H1,I1,r,q⟩=>⟨I1.kIn,?_⟩) he hpl;exact Dt ⟨cf.makes,hm.at_,hm.fn,cf.kp⟩ F hr hb hd (qY hX) I1 r λa dx h1 h2 h3=>q D a dx cf.at_ h1 h2 h3
end
structure p7 (K:HD)(mg:Str->Option K9)(x m qual:Str)(st:NO)(ps:List Str)(dvs:List V):Prop where
 ex:∃ (C f:Lg) (fd:MW) (oc:K9) (od:Option Lg) (dV kV doc pm:K9) (an:Option Lg) (cdv ct:K9) (osl:Array (Option K9)) (ds:List K9) (fs:List Str),
  fd=LG m qual (aR st) (aI st) (ag st) dV kV doc pm an cdv ct/\K.lookup f=some ⟨oc,od,.func fd,osl⟩/\L8 K cdv qual=true /\
  Jn K x fs C/\DM K C m f/\mg x=some (.ref C)/\jZ K fd ps ds/\aF dvs ds
section
variable {P:Lz}{w:LX}{K:HD}{mg:Str->Option K9}{base:Ng}{CX:jG}{x m qual:Str}{st:NO}{N ps:List Str}{dvs:List V}{k:Nat}{sp:Sp}
theorem p7.cal (F:p7 K mg x m qual st ps dvs) (S:av N ps (ag st)) (len:∀ vs H Q E,sp vs H Q E->vs.length=ps.length:=by intro _ _ _ _ h;cases h;subst_vars;rfl)
  (bb:∀ (f:Lg) (cdv:K9) (A:L9) (outer:List Env) (s:K_) (H:Hp) (vs:List V) (Q:VK) (E:XK),Room k (A.deeper (Sj qual (ag st) s.heap.objs.size f cdv))->sp vs H Q E ->
   ∃ t,DT (qu CX P w K mg base N qual (ag st) f cdv A outer s H E).nox (aI st) t/\t { nx:=λ_ H'=>Q .non H',rt:=Q } (iE N vs) H):vq P w K mg base CX (k+1) x m ps dvs sp:=by
 obtain⟨C,f,fd,oc,od,dV,kV,doc,pm,an,cdv,ct,osl,ds,fs,rfl,lk,hcd,cf,hm,hmg,hb,hv⟩:=F.ex;refine⟨C,f,_,ds,fs,ux lk hcd S len λA outer s H vs Q E hr hsp=>?_,cf,hm,hmg,hb,hv⟩;obtain⟨t,h,q⟩:=bb f cdv A outer s H vs Q E hr hsp;exact⟨t,h.nox,q⟩
theorem ES {fs:List Str}{C f:Lg}{oc:K9}{od an:Option Lg}{osl:Array (Option K9)}{kV doc pm cdv ct:K9} (l:K.lookup f=some ⟨oc,od,.func (LG m qual (aR st) (aI st) (ag st) .none kV doc pm an cdv ct),osl⟩)
  (c:L8 K cdv qual=true)(kp:LR K (.ref f)=true)(fn:Oh K (.ref f)=true)(a:Lv K Lf x=some (some (.ref C)))(b:LP K (.ref C) m=some (some (.ref f)))(hc:j8 K x fs=true)(g:mg x=some (.ref C))
  (h:∀ us:List K9,us.length=ps.length->MM (LG m qual (aR st) (aI st) (ag st) .none kV doc pm an cdv ct) ⟨us,[]⟩=pure (ps.zip us)):p7 K mg x m qual st ps []:=by
 obtain⟨D,cf⟩:=kH hc;cases cu cf.at_ a;exact⟨_,f,_,oc,od,.none,kV,doc,pm,an,cdv,ct,osl,[],fs,rfl,l,c,cf,⟨b,fn,kp⟩,g,.all h,.nil⟩
end
abbrev Pt:=Int×Int
structure Pt.In (p:Pt):Prop where
 a1:0<=p.1
 a2:p.1<=1000
 b1:0<=p.2
 b2:p.2<=1000
structure KR (ps:List Pt):Prop where
 two:2<=ps.length
 few:ps.length<=12
 zero:∀ p,ps[0]?=some p->p.1=0
 inn:∀ p∈ps,p.In
 up:∀ (i:Nat) (p q:Pt),ps[i]?=some p->ps[i+1]?=some q->p.1<q.1/\p.2<=q.2
section
variable {K:HD}{g:TG}{tt:TT}{te:TE}{σ0:L2.St}{Fin:List V->Hp->Prop}{H1:Hp}
theorem rn (h1:bY K H1 a1 xs b1) (h2:bY K H1 a2 ys b2) (hds:ay K H1 ds xs) (hes:ay K H1 es ys) (hle:es.length <= ds.length) (hlf:fs.length=es.length) (hl:ds.length <= 1000)
  (he:∀ (i:Nat) (d e f:LU) (x y:V) (T:Lg) (H:Hp),ds[i]?=some d->es[i]?=some e->fs[i]?=some f->af H1 H->aA K H d x->aA K H e y->H T=some (.tup [x,y])->mN g tt te σ0 (.ref T) H λz H'=>af H H'/\aA K H' f z)
  (hd:∀ zs H,af H1 H->ay K H fs zs->Fin zs H):gg (HV K b1 b2 a1 a2) g tt te σ0 Fin H1:=by
 have hlen:=hds.length;have hlen2:=hes.length;refine⟨λi m zs H=>m=ys.length-i/\i<=ys.length/\af H1 H/\ay K H (fs.take i) zs,⟨ys.length,by lia,LY _,af.refl _,.nil⟩,?_⟩;rintro i m zs H ⟨rfl,hi,s,hzs⟩;have hyl:=hzs.length;rw[L5] at hyl
 by_cases hlt2:i<ys.length
 ·have hlt:i<xs.length:=by lia
  refine .inr ⟨⟨xs,ys,xs[i],ys[i],bY.same s h1,bY.same s h2,by simp[hlt],by simp[hlt2]⟩,bH (by lia),λv H3 y3=>?_⟩;obtain⟨x,y,T,k1,k2,kT,rfl,rfl⟩:=y3;have hx:=k1 xs (bY.same s h1);have hy:=k2 ys (bY.same s h2);obtain⟨d,hdd,hdx⟩:=hds.get hx;obtain⟨e,hee,hey⟩:=hes.get hy;have hff:fs[i]?=some fs[i]:=by simp[show i<fs.length by lia]
  have sT:af H (upd H T (.tup [x,y])):=af.new kT;have sA:=s.trans sT;refine he i d e fs[i] x y T _ hdd hee hff sA (aA.same sA hdx) (aA.same sA hey) ae _ (λz H' ⟨s',hz⟩=>⟨ys.length-(i+1),by lia,rfl,hlt2,sA.trans s',?_⟩) λH5=>∃ m',m'<ys.length-i/\(m'=ys.length-(i+1)/\i+1<=ys.length/\af H1 H5/\ay K H5 (fs.take (i+1)) zs)
  rw[bC hff];exact(ay.same s' (ay.same sT hzs)).snoc hz
 ·have e:i=ys.length:=by lia
  subst e;rw[LI (by lia)] at hzs;exact .inl ⟨⟨xs,ys,bY.same s h1,bY.same s h2,.inr (Lc _)⟩,bO (by lia),hd zs H s hzs⟩
end
theorem ve (xs:List V)(h:1<=xs.length):Ag xs (some 1) none=xs.drop 1:=by
 unfold Ag;have e1:HT.sIx xs.length 0 (some 1)=1:=by
  simp[HT.sIx]
  try lia
 have e2:HT.sIx xs.length xs.length none=xs.length:=by simp[HT.sIx]
 rw[e1,e2];exact LI (by rw[List.length_drop];exact Lc _)
def ki {α:Type}(n m:Nat)(ds us ws:List α):List α:=cond (U3 us.length n&&U3 ws.length m) (us++(ws++ds)) []
theorem vd {n m:Nat}(hd:aF dvs ds)(a:aF vs us)(b:aF zs ws):aF (ki n m dvs vs zs) (ki n m ds us ws):=by
 unfold ki;rw[a.length,b.length];cases U3 us.length n&&U3 ws.length m
 ·exact .nil
 ·exact a.append (b.append hd)
theorem vh {n m k:Nat}(h:(ki n m ds us ws).length=k+1):us.length=n/\ws.length=m/\ki n m ds us ws=us++(ws++ds):=by
 unfold ki at h ⊢;cases z:U3 us.length n&&U3 ws.length m with
 |false=>rw[z] at h;cases h
 |true=>
  rw[L4] at z;exact⟨SJ z.1,SJ z.2,rfl⟩
theorem Ij {K:HD}{fd:MW}{p:Str}{ps ks:List Str}{n m:Nat} (h:∀ us ws:List K9,us.length=n->ws.length=m->MM fd ⟨us,ks.zip ws⟩=pure ((p :: ps).zip (us ++ ws))) :
  pG K fd (p::ps) ks (ki n m []) (ki n m []):=
 ⟨λs us ws _ hl=>by
  obtain⟨a,b,c⟩:=vh hl;rw[c,PJ];exact .of_eq (h us ws a b),λa b=>vd .nil a b⟩
structure DL (P:Lz)(w:LX)(K:HD)(mg:Str->Option K9)(base:Ng)(CX:jG)(k:Nat)(x m:Str)(ps ks:List Str)(n j:Nat)(dvs:List V)(sp:Sp):Prop where
 ex:∃ (C f:Lg) (fd:MW) (ds:List K9) (fs:List Str),iy P w K mg base CX k f fd ps sp/\Jn K x fs C/\DM K C m f/\mg x=some (.ref C)/\pG K fd ps ks (ki n j ds) (ki n j dvs)
structure pE (K:HD)(mg:Str->Option K9)(x m qual:Str)(st:NO)(ps ks:List Str)(n j:Nat)(dvs:List V):Prop where
 ex:∃ (C f:Lg) (fd:MW) (oc:K9) (od:Option Lg) (dV kV doc pm:K9) (an:Option Lg) (cdv ct:K9) (osl:Array (Option K9)) (ds:List K9) (fs:List Str),
  fd=LG m qual (aR st) (aI st) (ag st) dV kV doc pm an cdv ct/\K.lookup f=some ⟨oc,od,.func fd,osl⟩/\L8 K cdv qual=true /\
  Jn K x fs C/\DM K C m f/\mg x=some (.ref C)/\pG K fd ps ks (ki n j ds) (ki n j dvs)
section
variable {P:Lz}{w:LX}{K:HD}{mg:Str->Option K9}{base:Ng}{CX:jG}{x m qual:Str}{st:NO}{N ps ks:List Str}{n j:Nat}{dvs:List V}{k:Nat}{sp:Sp}
theorem pE.cal (F:pE K mg x m qual st ps ks n j dvs) (S:av N ps (ag st)) (len:∀ vs H Q E,sp vs H Q E->vs.length=ps.length:=by intro _ _ _ _ h;cases h;subst_vars;rfl)
  (bb:∀ (f:Lg) (cdv:K9) (A:L9) (outer:List Env) (s:K_) (H:Hp) (vs:List V) (Q:VK) (E:XK),Room k (A.deeper (Sj qual (ag st) s.heap.objs.size f cdv))->sp vs H Q E ->
   ∃ t,DT (qu CX P w K mg base N qual (ag st) f cdv A outer s H E).nox (aI st) t/\t { nx:=λ_ H'=>Q .non H',rt:=Q } (iE N vs) H):DL P w K mg base CX (k+1) x m ps ks n j dvs sp:=by
 obtain⟨C,f,fd,oc,od,dV,kV,doc,pm,an,cdv,ct,osl,ds,fs,rfl,lk,hcd,cf,hm,hmg,hb⟩:=F.ex;refine⟨C,f,_,ds,fs,ux lk hcd S len λA outer s H vs Q E hr hsp=>?_,cf,hm,hmg,hb⟩;obtain⟨t,h,q⟩:=bb f cdv A outer s H vs Q E hr hsp;exact⟨t,h.nox,q⟩
theorem Co {p:Str}{ps fs:List Str}{C f:Lg}{oc:K9}{od an:Option Lg}{osl:Array (Option K9)}{kV doc pm cdv ct:K9} (l:K.lookup f=some ⟨oc,od,.func (LG m qual (aR st) (aI st) (ag st) .none kV doc pm an cdv ct),osl⟩)
  (c:L8 K cdv qual=true)(kp:LR K (.ref f)=true)(fn:Oh K (.ref f)=true)(a:Lv K Lf x=some (some (.ref C)))(b:LP K (.ref C) m=some (some (.ref f)))(hc:j8 K x fs=true)(g:mg x=some (.ref C))
  (h:∀ us ws:List K9,us.length=n->ws.length=j->MM (LG m qual (aR st) (aI st) (ag st) .none kV doc pm an cdv ct) ⟨us,ks.zip ws⟩=pure ((p::ps).zip (us++ws))):pE K mg x m qual st (p::ps) ks n j []:=by
 obtain⟨D,cf⟩:=kH hc;cases cu cf.at_ a;exact⟨_,f,_,oc,od,.none,kV,doc,pm,an,cdv,ct,osl,[],fs,rfl,l,c,cf,⟨b,fn,kp⟩,g,Ij h⟩
end
structure KA (P:Lz)(w:LX)(K:HD)(mg:Str->Option K9)(base:Ng)(CX:jG)(k:Nat)(v:V)(sp:Sp):Prop where
 ex:∃ (f:Lg) (fd:MW) (ps:List Str),v=.ref f/\iy P w K mg base CX k f fd ps sp/\LR K (.ref f)=true/\jZ K fd ps []
theorem dm.fnV {P:Lz}{w:LX}{K:HD}{mg:Str->Option K9}{base:Ng}{CX:jG}{j k:Nat}{x:Str}{ps:List Str}{sp:Sp}{f:Lg}(C:dm P w K mg base CX j x ps [] sp)(h:mg x=some (.ref f))(l:j<=k):KA P w K mg base CX k (.ref f) sp:=by
 obtain⟨f',fd,ds,F,hm,hk,hb,hv⟩:=C.ex;rw[h] at hm;cases hm;cases hv;exact⟨f,fd,ps,rfl,F.mono l,hk,hb⟩
def Is (P:Lz)(w:LX)(K:HD)(mg:Str->Option K9)(base:Ng)(CX:jG)(k i:Nat)(t:TA):TE:=λσ H Q=>∃ v,σ[i]?=some (some v)/\∃ sp,KA P w K mg base CX k v sp/\t σ H λvs H1=>sp vs H1 Q E0
theorem CD {X:Cx}{P:Lz}{w:LX}{K:HD}{mg:Str->Option K9}{base:Ng}{CX:jG}{k i:Nat}{x:Str}{e:Nq}{es:List Nq}{t:TA}{p pos:Pos} (hP:X.prog=P) (hw:X.w=w) (hK:X.K=K) (hmg:X.mg=mg) (hba:X.base=base) (hX:Ey CX) (hr:Room k X.A)
  (hv:WE X (.Name x p) (E4 i))(ha:WA X (e::es) t)
  (he:LN (e::es) X.env=(false,O7 e X.env)::LN es X.env:=by rfl)(hpl:(QC pos (LN es X.env)).any (·.1)=false:=by rfl):WE X (.Call (.Name x p) (e::es) [] pos) (Is P w K mg base CX k i t):=by
 have hv:=hv.go;have ha:=ha.go;refine⟨?_⟩;subst hP hw hK hmg hba;intro pins s σ H Q I h;obtain⟨v,hi,sp,F,h⟩:=h;obtain⟨f,fd,ps,rfl,F,hk,hb⟩:=F.ex;refine MX (bP (hv pins s σ H (λv' H'=>v'=V.ref f/\H'=H) I ⟨_,hi,rfl,rfl⟩) λu s1 ⟨v1,H1,I1,rv,e1,e2⟩=>?_);subst e1 e2;cases rv;refine PP (h₀:=X.base) I.ok.mod.kin hk (bP (ha pos pins s1 σ H1 _ I1 h) λus s2 ⟨vs,H2,I2,r,q⟩=>⟨I2.kIn,?_⟩) he hpl;exact rO (dvs:=[]) F hr hb .nil (qY hX) I2 r (by rw[PJ];exact q)
structure qQ (K:HD)(w:LX)(mg:Str->Option K9)(D:Lg)(kvs:List (Str×Str)):Prop where
 ex:∃ (es:Array M0) (n:Nat),K.lookup D=some ⟨.type "dict",none,.dict es n,#[]⟩/\U6 w.params es.toList/\Ra (λ(e:M0) (p:Str×Str)=>∃ t f,e.key=.str p.1 t/\e.val=.ref f/\mg p.2=some (.ref f)) es.toList kvs
 lo:(D==MJ)=false
theorem uw {mg:Str->Option K9}:∀ {l:List M0}{kfs:List (Str × Lg)}{kvs:List (Str × Str)},Ra (fun (e:M0) (p:Str × Lg)=>∃ t,e.key=.str p.1 t/\e.val=.ref p.2) l kfs ->
  Ra (λ(p:Str×Lg) (q:Str×Str)=>p.1=q.1/\mg q.2=some (.ref p.2)) kfs kvs->Ra (λ(e:M0) (p:Str×Str)=>∃ t f,e.key=.str p.1 t/\e.val=.ref f/\mg p.2=some (.ref f)) l kvs
 |_,_,_,.nil,.nil=>.nil
 |_,_,_,.cons ⟨t,h1,h2⟩ r,.cons ⟨q1,q2⟩ s=>.cons ⟨t,_,by rw[h1,q1],h2,q2⟩ (uw r s)
theorem vZ {mg:Str->Option K9}{x:Str}:∀ {l:List M0}{kvs:List (Str × Str)},Ra (fun (e:M0) (p:Str × Str)=>∃ t f,e.key=.str p.1 t/\e.val=.ref f/\mg p.2=some (.ref f)) l kvs ->
  (match kvs.lookup x with|some n=>∃ f e,l.find? (λd=>N0 x d.key)=some e/\e.val=.ref f/\mg n=some (.ref f)|none=>l.find? (λd=>N0 x d.key)=none)
 |_,_,.nil=>rfl
 |e::l,p::kvs,.cons ⟨t,f,h1,h2,h3⟩ r=>by
  obtain⟨a,b⟩:=p;rw[Mj,Nv,h1];have q:N0 x (.str a t)=(x==a):=by
   show decide _=_;rw[OJ];exact Si.mpr ⟨Eq.symm,Eq.symm⟩
  rw[q];cases z:x==a with
  |true=>exact⟨f,e,rfl,h2,h3⟩
  |false=>exact vZ r
section
variable {X:Cx}{K:HD}{w:LX}{mg:Str->Option K9}{kvs:List (Str×Str)}
def Kb (K:HD)(w:LX)(mg:Str->Option K9)(kvs:List (Str×Str)):TE:=λ_ H Q=>∀ D,qQ K w mg D kvs->Q (.ref D) H
theorem zg (hg:Gl X x)(hx:∃ D,X.mg x=some (.ref D)/\qQ K w mg D kvs)(hd:(x==("__debug__":Str))=false:=by decide):WE X (.Name x pos) (Kb K w mg kvs):=by
 refine⟨?_⟩;intro pins s σ H Q I h;obtain⟨D,hm,hD⟩:=hx;exact jC I hg hm ⟨.ref D,H,I,rfl,h D hD⟩ hd
def GU (K:HD)(w:LX)(mg:Str->Option K9)(kvs:List (Str×Str)):R2:=λx y H Q=>∃ a D,x=.str a/\y=.ref D/\qQ K w mg D kvs/\Q (.bl (kvs.lookup a).isSome) H
theorem zm {h:Ng}{prog:Lz}{D:Lg} (X:K.In h) (T:qQ K w mg D kvs):∃ es:Array M0,h.MapOf (strKind prog w) D (fun k=>findBy N0 es k)/\∀ x,match kvs.lookup x with
  |some n=>∃ f,findBy N0 es x=some (.ref f)/\mg n=some (.ref f)
  |none=>findBy N0 es x=none:=by
 obtain⟨es,n,l,hk,hp⟩:=T.ex;refine⟨es,PySem.W.mapOf_K X l hk,λx=>?_⟩;have q:=vZ (x:=x) hp;obtain⟨es⟩:=es;unfold findBy;cases z:kvs.lookup x with
 |none=>
  rw[z] at q;simp only[TY];rw[q];rfl
 |some n=>
  rw[z] at q;obtain⟨f,e,q1,q2,q3⟩:=q;refine⟨f,?_,q3⟩;simp only[TY];rw[q1];show some e.val=_;rw[q2]
theorem C8 (hK:X.K=K)(hw:X.w=w):jI X (Nj .In) (GU K w mg kvs):=by
 subst hK hw;intro pins s σ H x y v u Q I rx ry h;obtain⟨a,D,rfl,rfl,T,q⟩:=h;obtain⟨t,rfl⟩:=rx;cases ry;obtain⟨es,hm,hf⟩:=zm (prog:=X.prog) I.kIn T;refine wpAny_in_of (strKind_is X.prog X.w a t) T.lo hm ?_;have e:(findBy N0 es a).isSome=(kvs.lookup a).isSome:=by
  have z:=hf a;cases y:kvs.lookup a with
  |none=>rw[y] at z;rw[z];rfl
  |some n=>rw[y] at z;obtain⟨f,z,_⟩:=z;rw[z];rfl
 exact Dm (I.tok _) q e.symm
def GY (K:HD)(w:LX)(mg:Str->Option K9)(kvs:List (Str×Str)):R2:=λx y H Q=>∃ a n D,x=.ref D/\y=.str a/\qQ K w mg D kvs/\kvs.lookup a=some n/\∀ f,mg n=some (.ref f)->Q (.ref f) H
theorem Hf (hK:X.K=K)(hw:X.w=w):Cp X (GY K w mg kvs):=by
 subst hK hw;intro value slice pins s σ H x y v u Q I rx ry h hs;obtain⟨a,n,D,rfl,rfl,T,hl,q⟩:=h;obtain⟨t,rfl⟩:=ry;cases rx;obtain⟨es,hm,hf⟩:=zm (prog:=X.prog) I.kIn T;have z:=hf a;rw[hl] at z;obtain⟨f,z,g⟩:=z;exact tail_any hm.typeIs slot_dict_getitem.lookup (wpAny_getItem_of (strKind_is X.prog X.w a t) hm z ⟨.ref f,H,I.tok _,rfl,q f g⟩) hs
end
def yB:List String:=["NoneType","bool","int","str","list","tuple","dict"]
def JY (K:HD)(x:Str):Bool:=(kO K x).any λC=>LP K (.ref C) "__class__"==some (some (.builtin "object.__class__"))&&P_ K (.builtin "object.__class__") "__get__"==some (some (.builtin "getset_descriptor.__get__")) &&
 QZ K (.builtin "object.__class__")==some true&&PQ K C (.type "object")==some true&&yB.all λT=>Qg K (.type T) (.ref C)==some false
def Ka (K:HD)(x:Str):List V->Hp->VK->Prop:=λxs H Q=>∃ v C,xs=[v,.ref C]/\eR K x C/\((∃ a dx fs,v=.ref a/\H a=some (.ins C dx fs)/\Q (.bl true) H)\/∃ T,Ty K H v T/\T∈yB/\Q (.bl false) H)
theorem HZ {X:Cx}{K:HD}{x:Str}{fs0:List Str}(hK:X.K=K)(hc:j8 K x fs0=true)(hi:JY K x=true):cy X (.builtin "isinstance") (Ka K x):=by
 subst hK;intro pins s σ H xs us Q I r h;obtain⟨v,C,rfl,hC,h⟩:=h;obtain⟨u,w,rfl,rx,rw'⟩:=kW r;cases(show w=LH C from rw');obtain⟨D,cf⟩:=kH hc;cases cu hC cf.at_;obtain⟨E,e,q⟩:=rE hi;rw[pR hC] at e;cases e;simp only[L4,NP,MF] at q;obtain⟨⟨⟨⟨q1,q2⟩,q3⟩,q4⟩,q5⟩:=q;rcases h with ⟨a,dx,fs,rfl,ha,h⟩|⟨T,ty,ht,h⟩
 ·exact my I rx (.ins ha cf.cls q1 q2 q3 q4) (by unfold Qg;rw[LL (Pk _)]) λtk=>⟨.bl true,H,I.tok tk,rfl,h⟩
 ·exact my I rx ty (q5 T ht) λtk=>⟨.bl false,H,I.tok tk,rfl,h⟩
theorem AR {K:HD}{x:Str}{fs:List Str}(h:j8 K x fs=true):∃ C,eR K x C:=by
 obtain⟨C,cf⟩:=kH h;exact⟨C,cf.at_⟩
section
variable {X:Cx}{K:HD}
theorem Fo (r:aF [x,y,z] us):∃ u v w,us=[u,v,w]/\aY x u/\aY y v/\aY z w:=by
 cases r with
 |cons a r=>
  obtain⟨u,v,rfl,b,c⟩:=kW r;exact⟨_,u,v,rfl,a,b,c⟩
end
namespace ZF
theorem noFillT:fillsNumberSlot (.type "tuple") "mul"=pure false:=PySem.fillsNumberSlot_seq (id:="tuple.__mul__") (r:=some (.builtin "tuple.__rmul__")) P1.lookup (by decide +kernel) RY.lookup (by decide +kernel)
theorem repT:seqRepeat? (.type "tuple")=pure (some (.builtin "tuple.__mul__")):=by
 unfold seqRepeat?;rw[UX (T:="tuple") (name:="__mul__") (id:="tuple.__mul__") P1.lookup (by decide +kernel)];rw[UX (T:="tuple") (name:="__rmul__") (id:="tuple.__rmul__") RY.lookup (by decide +kernel)];rfl
theorem rmulT (a:Int) (t:Tok) (l:Lg) (items:Array K9) (n:Nat) (dd:Option Lg) (sl:Array (Option K9)) :
  Meets (NU.«int.__rmul__» ⟨[.int a t,.ref l],[]⟩) (λ_ R s=>s.heap.get? l=some ⟨.type "tuple",dd,.seq items n,sl⟩/\R (.ok (.ret Value.notImplemented)) s):=.of_wp λprog w A R s h=>by
 obtain⟨hp,g,d,tk,os⟩:=s;obtain⟨hl,h⟩:=h
 wp_walk
 exact⟨_,rfl,h⟩
theorem mulT3 (t:Tok) (l:Lg) (x:K9) (n:Nat) (dd:Option Lg) (sl:Array (Option K9)) :
  Meets (NU.«tuple.__mul__» ⟨[.ref l,.int 3 t],[]⟩) (λ_ R s=>s.heap.get? l=some ⟨.type "tuple",dd,.seq #[x] n,sl⟩/\R (.ok (.ret (.ref s.heap.objs.size))) { s with heap:=s.heap.push { cls:=.type "tuple",data:=.seq #[x,x,x] } }):=.of_wp λprog w A R s h=>by
 obtain⟨hp,g,d,tk,os⟩:=s;obtain⟨hl,h⟩:=h;have f1:=PySem.AutoSeq1.idx_int;have f2:=PySem.AutoSeq1.sub_tuple_tuple
 wp_walk using wpAny_loadPart' hl
 exact⟨_,rfl,h⟩
end ZF
section
variable {X:Cx}
def H_:R2:=λx y H Q=>∃ a z,x=.ref a/\y=.int 3/\H a=some (.tup [z])/\∀ p,H p=none->Q (.ref p) (upd H p (.tup [z,z,z]))
theorem Ep:jI X (Qh .Mult) H_:=by
 intro pins s σ H x y v u Q I rx ry h;obtain⟨a,z,rfl,rfl,ha,q⟩:=h;cases rx;obtain⟨t,rfl⟩:=ry;obtain⟨its,r,p1,_⟩:=I.tuple (dk.of (K:=X.K) ha);obtain⟨v,rfl,rv⟩:=fk r;obtain⟨o,e,c,n,d⟩:=p1;obtain⟨oc,dd,od,sl⟩:=o;simp only at c d;subst c d;refine Rt (T:="tuple") (U:="int") (by decide) ⟨_,e,rfl⟩ (λs'=>Ta s' 3 t) ZF.noFillT TU PC ZF.repT Tw.lookup
  (RK PC (Ta s 3 t) Tv (Td _ _) (ZF.rmulT 3 t a #[v] n dd sl)
   ⟨e,rfl,⟨_,e,rfl⟩,RK P1 ⟨_,e,rfl⟩ PySem.F.entry_tuple_mul (PySem.F.args_tuple_mul_2 _ _) (ZF.mulT3 t a v n dd sl) ⟨e,?_⟩⟩)
 have hf:H s.heap.objs.size=none:=I.hok.fresh (Lc _);refine⟨.ref s.heap.objs.size,upd H s.heap.objs.size (.tup [z,z,z]),I.laid (t':=s.toks) (λb u e=>K6 _ e) (Lc _) ?_,rfl,q _ hf⟩;exact⟨by show 3<=Ly;decide,[v,v,v],.cons rv (.cons rv (.cons rv .nil)),⟨_,Ld _ rfl,rfl,_,rfl⟩⟩
end
structure En where
 w:R3
 b:R3
structure En.In (e:En):Prop where
 a0:0<=e.b.a
 a1:e.b.a<e.w.a
 a2:e.w.a<=1000
 b0:0<=e.b.b
 b1:e.b.b<e.w.b
 b2:e.w.b<=1000
 c0:0<=e.b.c
 c1:e.b.c<e.w.c
 c2:e.w.c<=1000
theorem F6 (n:Int):rD (n:Rat)=ug n 1:=by
 show ug (n:Rat).num ((n:Rat).den:Int)=_;rw[Rat.num_intCast,Rat.den_intCast];rfl
theorem hO (n:Int):((n:Int):Rat)/((1:Int):Rat)=(n:Rat):=by
 have:((1:Int):Rat)=1:=rfl;rw[this];grind
theorem oF {k:Nat}{n:Int}(h:Sm k n)(hk:0<k):Bq k (n:Rat):=by
 have e:=hO n;rw[<- e];refine eV (by decide) h ?_;unfold Sm;have:=Nat.one_lt_two_pow (n:=k) (by lia)
 simpa using this
theorem Jk {n:Int}(h0:-1000<=n)(h:n<=1000):Sm 10 n:=by unfold Sm;lia
def J5 (b w:Int)(q:Rat):Bool:=decide (b*(q.den:Int)<=q.num)&&decide (q.num<=w*(q.den:Int))
def En.has (e:En)(c:Q3):Bool:=J5 e.b.a e.w.a c.a&&(J5 e.b.b e.w.b c.b&&(J5 e.b.c e.w.c c.c&&true))
theorem gK {n:Int}(h:n≠0):(n:Rat)≠0:=λz=>h (Rat.intCast_eq_zero_iff.mp z)
def R3.col (r:R3):Q3:=⟨(r.a:Rat),(r.b:Rat),(r.c:Rat)⟩
section
variable {K:HD}{g:TG}{tt:TT}{te:TE}{σ0:L2.St}{Fin:List V->Hp->Prop}{H1:Hp}
theorem ut {lo:Int}{n:Nat} (Pv:Nat->List V->Hp->Prop) (h0:Pv 0 [] H1) (hl:n <= 1000) (hy:∀ i ys H,i <= n->Pv i ys H->ys.length <= i)
  (he:∀ i ys H,i<n->Pv i ys H->∀ (R:V->Hp->Prop) (S:Hp->Prop),(∀ y H',Pv (i+1) (ys++[y]) H'->R y H')->(∀ H',Pv (i+1) ys H'->S H')->g (.int (lo+i)) σ0 H λσ' H4=>tt σ' H4 λc H5=>if c=true then te σ' H5 R else S H5)
  (hd:∀ ys H,Pv n ys H->Fin ys H):gg (DU lo n) g tt te σ0 Fin H1:=by
 refine⟨λi m ys H=>m=n-i/\i<=n/\Pv i ys H,⟨n,by lia,LY _,h0⟩,?_⟩;rintro i m ys H ⟨rfl,hi,p⟩;have hyl:=hy i ys H hi p
 by_cases hlt:i<n
 ·refine .inr ⟨hlt,bH (by lia),λx H3 y3=>?_⟩;obtain⟨e1,e2⟩:=y3;subst e1 e2;exact he i ys _ hlt p _ _ (λy H' z=>⟨n-(i+1),by lia,rfl,hlt,z⟩) (λH' z=>⟨n-(i+1),by lia,rfl,hlt,z⟩)
 ·have e:i=n:=by lia
  subst e;exact .inl ⟨Lc _,bO (by lia),hd ys H p⟩
end
section
variable {K:HD}{g:TG}{tt:TT}{te:TE}{σ0:L2.St}{Fin:List V->Hp->Prop}{H1:Hp}
theorem zH (Pv:Nat->List V->Hp->Prop) (h0:Pv 0 [] H1) (hl:xs.length <= 1000) (hsrc:∀ i ys H,i <= xs.length->Pv i ys H->bY K H a xs b/\ys.length <= i)
  (he:∀ i x ys H,xs[i]?=some x->Pv i ys H->∀ (R:V->Hp->Prop) (S:Hp->Prop),(∀ y H',Pv (i+1) (ys++[y]) H'->R y H')->(∀ H',Pv (i+1) ys H'->S H')->g x σ0 H λσ' H4=>tt σ' H4 λc H5=>if c=true then te σ' H5 R else S H5)
  (hd:∀ ys H,Pv xs.length ys H->Fin ys H):gg (qi K a b) g tt te σ0 Fin H1:=by
 refine⟨λi m ys H=>m=xs.length-i/\i<=xs.length/\Pv i ys H,⟨xs.length,by lia,LY _,h0⟩,?_⟩;rintro i m ys H ⟨rfl,hi,p⟩;obtain⟨hq,hyl⟩:=hsrc i ys H hi p
 by_cases hlt:i<xs.length
 ·have go:(qi K a b).go i H:=by cases b<;>exact⟨xs,xs[i],hq,by simp[hlt]⟩
  refine .inr ⟨go,bH (by lia),λx H3 y3=>?_⟩;have e3:H3=H/\xs[i]?=some x:=by cases b<;>exact⟨y3.1,y3.2 xs hq⟩
  obtain⟨rfl,hx⟩:=e3;exact he i x ys _ hx p _ _ (λy H' z=>⟨xs.length-(i+1),by lia,rfl,hlt,z⟩) (λH' z=>⟨xs.length-(i+1),by lia,rfl,hlt,z⟩)
 ·have e:i=xs.length:=by lia
  subst e;have stop:(qi K a b).stop xs.length H:=by cases b<;>exact⟨xs,hq,Lc _⟩
  exact .inl ⟨stop,bO (by lia),hd ys H p⟩
end
def KT (K:HD)(a:Lg)(xs:List V):Prop:=∃ (o:Obj) (its:Array K9) (n:Nat),K.lookup a=some o/\o.cls=.type "tuple"/\o.data=.seq its n/\its.size<=Ly/\aF xs its.toList
theorem KT.sq {K:HD}{H:Hp}{a:Lg}{xs:List V}(h:KT K a xs):dk K H a xs:=.inr h
theorem B8 {s:K_}{K:HD}{fd:MW}{args:Args}{binds:List (Str × K9)}{D:Lg}{o:Obj}{part:Option K9}{kk:Obj->Sem (List (Str × K9))} (X:K.In s.heap) (e:K.lookup D=some o)
  (h1:MM fd args=Sem.load D part kk)(h2:kk o=pure binds):Tu s fd args binds:=λM A E Q hq=>by
 refine(PySem.W.Looks.of_peek X ?_).here hq;rw[h1];have h2':kk o=Sem.pure binds:=h2;simp only[PySem.W.peek,e,h2']
def KS (n l m:Int):LU->Bool
 |.tuple ds=>decide ((ds.length:Int)=n)&&(ds.map (DW l m)).all id
 |_=>false
end TR
namespace TR
open PySem PySem.Spec PyProof.Rows
def Up (xs:List Nat):Prop:=xs.Pairwise (·<·)
theorem u8 (xs:Array α)(p:Nat)(x:α):(M_ xs p x).toList=xs.toList.take p++x::xs.toList.drop p:=by
 unfold M_;simp;exact LI (by simp)
def Tb (led:Bool)(t:RZ):Prop:=Up t.place.toList/\t.led=led
section
variable {pr:Lz}{wo:LX}{Ar:L9}{Ex:K9->K_->Prop}{st:K_}
def FY (wo:LX):Bool:=wo.params.followText "set-order"
end
def met (ns:List Int):List Int:=ns.foldl (λks k=>if k∈ks then ks else ks++[k]) []
section
variable {pr:Lz}{wo:LX}{Ar:L9}{Ex:K9->K_->Prop}{st:K_}
theorem zy (a:K9)
  (h:Q₁ (.ref st.heap.objs.size) { st with heap:=st.heap.push { cls:=.type "set",dict:=none,data:=.set #[] 0 (.fresh 0 0 (!FY wo)) } }):
  Oo (LJ pr wo) Ar (.call (.builtin "set.__new__") ⟨[.type "set",a],[]⟩) (wants Q₁ Ex) st:=by
 refine SW ?_;show Lm _ Ar.in1 (do checkBuiltinCall "set.__new__" ⟨[.type "set",a],[]⟩;again (.builtin "set.__new__" ⟨[.type "set",a],[]⟩)) _ _ st;refine KE (R_ (F.newCall_set_1 a) (K7 ⟨Op F.plain_set_new _,M2 F.entry_set_new ?_⟩));rw[MK F.plain_set_new _];unfold NU.«set.__new__» Builtin.Frozenset.newClass;have hsub:=sub_set_self;dsimp only
 wp_walk
 refine wpAny_askSetting (K7 ?_);dsimp only;simp only[newObj];refine KE (wpAny_alloc (K7 ?_));exact K7 h
end
open L2
theorem mE:∀ {ns:List Int}{us:List K9},Nu us ns->aF (ns.map V.int) us:=by
 intro ns us h
 induction h with
 |nil=>exact .nil
 |cons n t _ ih=>exact .cons ⟨t,rfl⟩ ih
def Fc (K:HD):R2:=λx y H Q=>∃ (d:LU) (es:List LU),aA K H d x/\aA K H (.list es) y/\OU es=true/\d.canLay0=true/\d.depth<=60/\Q (.bl (!es.any λy=>ND y d)) H
theorem BJ {X:Cx}{K:HD}(hK:X.K=K)(hu:X.A.units+64<cLine):jI X (Nj .NotIn) (Fc K):=by
 subst hK;intro pins s σ H x y v u Q I rx ry h;obtain⟨d,es,hd,he,c1,c2,dp,q⟩:=h;obtain⟨as,r1⟩:=fJ I hd rx;obtain⟨bs,r2⟩:=fJ I he ry;exact SeqAt.notIn_list_reads r2 r1 c1 c2 (by have:=Nat.min_le_right (PN es) d.depth;lia) ⟨.bl _,H,I,rfl,q⟩
theorem nZ:∀ {ns:List Int}{us:List K9},aF (ns.map V.int) us->∃ ps:List (Int×Tok),us=ps.map (λp=>PU p.1 p.2)/\ps.map (·.1)=ns:=by
 intro ns
 induction ns with
 |nil=>intro us r;cases r;exact⟨[],rfl,rfl⟩
 |cons a ns ih=>
  intro us r;cases r with
  |cons h t=>
   obtain⟨k,rfl⟩:=h;obtain⟨ps,rfl,rfl⟩:=ih t;exact⟨(a,k)::ps,rfl,rfl⟩
theorem vi (f:Nat->Int):∀ n,Q1 (λi j=>decide (f i>f j)) n<=n/\∀ i,i<=n->f i<=f (Q1 (λi j=>decide (f i>f j)) n)
 |0=>⟨Lc _,λi hi=>by cases Nat.le_zero.mp hi;exact U1 _⟩
 |n+1=>by
  obtain⟨h1,h2⟩:=vi f n;simp only[Q1]
  by_cases c:f (n+1)>f (Q1 (λi j=>decide (f i>f j)) n)
  ·rw[LL (Lj c)];refine⟨Lc _,λi hi=>?_⟩;rcases UM n i with h|h
   ·have:i=n+1:=by lia
    subst this;exact U1 _
   ·have:=h2 i h;lia
  ·rw[LB (λz=>c (Mu z))];refine⟨by lia,λi hi=>?_⟩;rcases UM n i with h|h
   ·have:i=n+1:=by lia
    subst this;lia
   ·exact h2 i h
theorem mI {ps:List (Int×Tok)}{i:Nat}{p:Int×Tok}(h:ps[i]?=some p):UA ps.toArray i=p.1:=by
 unfold UA;rw[SE,h];rfl
theorem vG (ps:List (Int×Tok)):(ps.map λp=>PU p.1 p.2).toArray=Rh ps.toArray:=by
 unfold Rh;simp
theorem Gb {ps:List (Int×Tok)}{x:Int}(h:x∈ps.map (·.1)):∃ i,i<=ps.toArray.size-1/\UA ps.toArray i=x:=by
 obtain⟨p,hp,rfl⟩:=Md.mp h;obtain⟨i,hi,rfl⟩:=Po hp;exact⟨i,by simp;lia,mI (by simp[hi])⟩
theorem G' {ps:List (Int×Tok)}{i:Nat}{v:K9}(h:(Rh ps.toArray)[i]?=some v):∃ t,v=.int (UA ps.toArray i) t/\UA ps.toArray i∈ps.map (·.1):=by
 obtain⟨t,rfl⟩:=intItems_at h;refine⟨t,rfl,?_⟩;simp only[Rh,Array.getElem?_map,Lx] at h;obtain⟨p,hp,e⟩:=h;rw[SE] at hp;rw[mI hp];exact Md.mpr ⟨p,Lq hp,rfl⟩
section
variable {X:Cx}{K:HD}
def K3:Ja:=λx y H Q=>∃ i j,x=.int i/\y=.int j/\oS i j/\Q (.int (i*j)) H
theorem DC:Jy X .Mult K3:=by
 intro pins s σ H x y v u Q I r1 r2 h;obtain⟨i,j,e1,e2,hc,q⟩:=h;subst e1;subst e2;obtain⟨t,rfl⟩:=r1;obtain⟨t',rfl⟩:=r2;refine imul_int ⟨.int _,H,I.tok _,⟨_,rfl⟩,q⟩ ?_;rcases hc with ⟨h1,h2⟩|h1
 ·exact Sd (LM h1.bits (by decide)) (LM h2.bits (by decide))
 ·exact UU h1.bits
end
theorem yp {rs:List Rat}{i:Nat}{d:LU}(h:(rs.map rD)[i]?=some d):∃ q,rs[i]?=some q/\d=rD q:=by
 rw[Lk,Lx] at h;obtain⟨q,e,rfl⟩:=h;exact⟨q,e,rfl⟩
def cP (rs:List Rat):Int:=rs.foldl (λn r=>n*(r.den:Int)) 1
theorem oU (rs:List Rat)(q:Rat):cP (rs++[q])=cP rs*(q.den:Int):=by unfold cP;rw[Ul];rfl
theorem g9 {b:Nat}{rs:List Rat}(h:∀ r∈rs,Bq b r):∀ n,n<=rs.length->0<cP (rs.take n)/\Sm (n*b+1) (cP (rs.take n))
 |0,_=>by
  show 0<(1:Int)/\Sm _ (1:Int);exact⟨by decide,by unfold Sm;simp⟩
 |n+1,hn=>by
  have hg:rs[n]?=some rs[n]:=by simp[show n<rs.length by lia]
  rw[bC hg,oU];obtain⟨h1,h2⟩:=g9 h n (by lia);have k:=h _ (Qz (show n<rs.length by lia));refine⟨Int.mul_pos h1 k.pos,(h2.mul k.sd).mono (by rw[Q_];lia)⟩
theorem qO {r:Rat}(h:r∈rs):(r.den:Int)∣cP rs:=by
 have go:∀ (rs:List Rat) (n:Int),n∣rs.foldl (λn r=>n*(r.den:Int)) n:=by
  intro rs
  induction rs with
  |nil=>intro n;exact Int.dvd_refl _
  |cons a rs ih=>intro n;exact Int.dvd_trans ⟨_,rfl⟩ (ih _)
 have go2:∀ (rs:List Rat) (n:Int),r∈rs->(r.den:Int)∣rs.foldl (λn r=>n*(r.den:Int)) n:=by
  intro rs
  induction rs with
  |nil=>intro n h;cases h
  |cons a rs ih=>
   intro n h;rcases Ln.mp h with rfl|h
   ·exact Int.dvd_trans (Int.dvd_mul_left _ _) (go _ _)
   ·exact ih _ h
 exact go2 _ _ h
def ov (B:Int)(r:Rat):Int:=r.num*(B/(r.den:Int))
theorem yW {B:Int}{r:Rat}(h:(r.den:Int)∣B):((ov B r:Int):Rat)=r*(B:Rat):=by
 obtain⟨k,rfl⟩:=h;have hd:(r.den:Int)≠0:=by have:=r.den_nz;lia
 unfold ov;rw[Int.mul_ediv_cancel_left _ hd,Lw,Lw];have h1:=je r;have e1:=gE r;grind
theorem Fq {b:Nat}{rs:List Rat}{r:Rat}(h:∀ r∈rs,Bq b r)(hr:r∈rs):Sm (rs.length*b+b+1) (ov (cP rs) r):=by
 obtain⟨h1,h2⟩:=g9 h rs.length (Lc _);rw[Pf] at h1 h2;have k:=h r hr;refine(k.sn.mul (j:=rs.length*b+1) ?_).mono (by lia);have hd:0<(r.den:Int):=k.pos;have e1:cP rs/(r.den:Int)<=cP rs:=Int.ediv_le_self _ (by lia);have e2:0<=cP rs/(r.den:Int):=SA (by lia) (by lia);unfold Sm at h2 ⊢;lia
def sw (p:Pt):Pt:=(p.2,p.1)
def HB (k:Nat)(d:LU):Prop:=∀ ds,d=.tuple ds->ds.length<=1000/\∀ q,rD q∈ds->Bq k q
theorem mK (ps:List (Int×Tok)):∀ n,n<=ps.length->preSum (UA ps.toArray) n=((ps.take n).map (·.1)).sum
 |0,_=>rfl
 |n+1,h=>by
  have e:ps[n]?=some ps[n]:=LS (by lia);rw[bC e,Mg,List.sum_append];show preSum (UA ps.toArray) n+UA ps.toArray n=_;rw[mK ps n (by lia),mI e];simp
section
variable {X:Cx}{K:HD}
def FI (K:HD):List V->Hp->VK->Prop:=λxs H Q=>∃ (p:Lg) (ns:List Int),xs=[.ref p]/\bE K H p (ns.map V.int)/\Q (.int ns.sum) H
theorem AD (hc:X.calm=true):cy X (.builtin "sum") (FI X.K):=by
 intro pins s σ H xs us Q I r h;obtain⟨p,ns,rfl,hp,q⟩:=h;obtain⟨u,rfl,ru⟩:=fk r;cases ru;obtain⟨its,rv,pl,hz⟩:=I.list hp;obtain⟨ps,rfl,rfl⟩:=nZ rv;have hl:=pl.isList;rw[vG] at hl;refine sum_intListG (I.ok.hd hc) hl λh' tk t' kk=>?_
 have I1:aD X pins σ H { s with heap:=h',toks:=tk }:=I.kept kk;refine⟨.int _,H,I1,⟨t',rfl⟩,?_⟩;rw[Lh,mK ps _ (Lc _),Pf];exact q
theorem C5 (e:X.K=K)(hc:X.calm=true):cy X (.builtin "sum") (FI K):=by subst e;exact AD hc
end
abbrev FZ (X:Cx)(o:Nq)(m:Str)(args:List Nq)(kws:List Rm)(pl:Sem Bool)(apos pos:Pos):Prop:=
 O7 (.Call (.Attribute o m apos) args kws pos) X.env=(do let ov <- O7 o X.env;TL apos.atName;let (f,first) <- holding [ov] (getMethod ov m pl);callWith pos f first (QC pos (LN args X.env)) (S7 pos (Qb kws X.env)))
def IZ (K:HD)(x m:Str)(sp:Sp)(gV:List V->List V->List V)(E:XK)(ta:TE)(t tk:TA):TE:=λσ H Q=>ta σ H λv H1=>∃ a C dx fs,v=.ref a/\eR K x C/\H1 a=some (.ins C dx fs)/\fs.lookup m=none /\
 t σ H1 λvs H2=>tk σ H2 λzs H3=>sp (gV (v::vs) zs) H3 Q E
section
variable {X:Cx}{CX:jG}{K:HD}{k n j:Nat}{x m:Str}{ps ks:List Str}{sp:Sp}{dvs:List V}{pos apos:Pos}{o e:Nq}{es:List Nq}{kws:List Rm}{ta:TE}{t tk:TA}
theorem pV (hK:X.K=K) (hX:Ey CX) (C:DL X.prog X.w X.K X.mg X.base CX k x m ps ks n j dvs sp) (hr:Room k X.A) (he:WE X o ta) (ha:WA X (e :: es) t) (hkw:WK X kws tk)
  (hall:(S7 pos (Qb kws X.env)).all (·.1.isSome)=true:=by rfl)(hks:(S7 pos (Qb kws X.env)).filterMap (·.1)=ks:=by rfl)
  (hst:LN (e::es) X.env=(false,O7 e X.env)::LN es X.env:=by rfl)
  (hpl:((QC pos (LN (e::es) X.env)).any (·.1)||(S7 pos (Qb kws X.env)).any (·.1.isNone))=false:=by rfl)
  (ht:FZ X o m (e::es) kws pl apos pos:=by rfl):WE X (.Call (.Attribute o m apos) (e::es) kws pos) (IZ K x m sp (ki n j dvs) E0 ta t tk):=by
 have he:=he.go;have ha:=ha.go;have hkw:=hkw.go;refine⟨?_⟩;subst hK;obtain⟨D,f,fd,ds,fs0,F,cf,hm,_,hb⟩:=C.ex;intro pins s σ H Q I h;refine Qq (pl:=pl) (bP (he pins s σ H _ I h) λu s1 ⟨v,H1,I1,rv,a,E,dx,fs,ev,ec,ea,l,q⟩=>?_) ht;subst ev;cases cu ec cf.at_;obtain rfl:u=LH a:=rv;refine j_ I1 ea cf.cls hm l ?_;refine PySem.W.callWith_KW (first:=[.ref a]) (h₀:=X.base) I.ok.mod.kin hm.kp hall (bP (ha pos pins s1 σ H1 _ I1 q) λus s2 ⟨vs,H2,I2,r,q2⟩=>?_) hpl hst;refine bP (hkw pos pins s2 σ H2 _ I2 q2) λws s3 ⟨zs,H3,I3,rz,q3⟩=>⟨I3.kIn,?_⟩
 rw[hks];exact Ev (us:=.ref a::us) (vs:=.ref a::vs) F hr hb (qY hX) I3 (.cons rfl r) rz q3
end
theorem GK {K:HD}{fd:MW}{p:Str}{ps ks:List Str}{n m:Nat}{D:Lg}{o:Obj}{z:Str}{t:Tok} (e:K.lookup D=some o)
  (h:∀ us ws:List K9,us.length=n->ws.length=m->∃ (part:Option K9) (kk:Obj->Sem (List (Str×K9))),MM fd ⟨us,ks.zip ws⟩=Sem.load D part kk/\kk o=pure ((p::ps).zip (us++(ws++[.str z t])))):
  pG K fd (p::ps) ks (ki n m [.str z t]) (ki n m [.str z]):=
 ⟨λs us ws X hl=>by
  obtain⟨a,b,c⟩:=vh hl;rw[c];obtain⟨part,kk,h1,h2⟩:=h us ws a b;exact B8 X e h1 h2,λa b=>vd (show aF [V.str z] [RI z t] from .cons ⟨t,rfl⟩ .nil) a b⟩
theorem Az {K:HD}{mg:Str->Option K9}{x m qual p:Str}{st:NO}{ps ks fs:List Str}{n j:Nat}{C f D:Lg}{o:Obj}{oc:K9}{od an:Option Lg}{osl:Array (Option K9)}{doc pm cdv ct:K9}{z:Str}{t:Tok}
  (l:K.lookup f=some ⟨oc,od,.func (LG m qual (aR st) (aI st) (ag st) .none (.ref D) doc pm an cdv ct),osl⟩)
  (c:L8 K cdv qual=true)(kp:LR K (.ref f)=true)(fn:Oh K (.ref f)=true)(a:Lv K Lf x=some (some (.ref C)))(b:LP K (.ref C) m=some (some (.ref f)))(hc:j8 K x fs=true)(g:mg x=some (.ref C))
  (e:K.lookup D=some o)
  (h:∀ us ws:List K9,us.length=n->ws.length=j->∃ (part:Option K9) (kk:Obj->Sem (List (Str×K9))),MM (LG m qual (aR st) (aI st) (ag st) .none (.ref D) doc pm an cdv ct) ⟨us,ks.zip ws⟩=Sem.load D part kk/\kk o=pure ((p::ps).zip (us++(ws++[.str z t])))):
  pE K mg x m qual st (p::ps) ks n j [.str z]:=by
 obtain⟨D',cf⟩:=kH hc;cases cu cf.at_ a;exact⟨_,f,_,oc,od,.none,.ref D,doc,pm,an,cdv,ct,osl,[.str z t],fs,rfl,l,c,cf,⟨b,fn,kp⟩,g,GK e h⟩
def kD (elt:Nq)(gens:List Py)(scope:Pq)(pos:Pos)(acc:K9)(env:Env)(d:Nat):Sem Unit:=match gens[d+1]? with
 |some g'=>do
  let x <- O7 g'.iter env
  TL g'.iter.pos
  let x <- if g'.is_async != 0 then foldedIterable g'.iter x else MQ g'.iter env x
  let _ <- runOwn (.compStart (.ListComp elt gens scope pos) (d+1) (<- holding [x] (if g'.is_async != 0 then asyncIter x else UR x)) acc env) env
 |none=>do let _ <- call (.builtin "list.append") [acc,<- O7 elt env]
theorem uM {d:Nat} (h:gens[d]?=some ⟨target,iter,ifs,0⟩) :
  compTurn (.ListComp elt gens scope pos) d it acc env=(do
   TL iter.pos
   match <- Pw it with
   |none=>pure (.done .next)
   |some v=>
    PX target it v
    assign target env v
    let mut ok:=true
    for c in ifs do
     if ok then ok <- isTrue c env (O7 c env)
    if ok then
     kD elt gens scope pos acc env d
    again (.compLoop (.ListComp elt gens scope pos) d it acc env)):=by
 unfold compTurn kD;dsimp only;rw[h];cases hg:gens[d+1]? with
 |none=>rfl
 |some g'=>
  dsimp only;have z0:((0:Nat) != 0)=false:=rfl
  by_cases hz:(g'.is_async != 0)=true
  ·simp only[hz,z0,bind_assoc,Nz,Li,Mb];rfl
  ·have hz:(g'.is_async != 0)=false:=by simpa using hz
   simp only[hz,z0,bind_assoc,Nz,Li,Mb];rfl
theorem jg {d:Nat} (hd:gens[d]?=some ⟨target,iter,ifs,0⟩) (I:Nat->K_->Prop)
  (gR:∀ n s,I n s->Lm (LJ prog w) A (Pw it) (λr s₁=>match r with
   |none=>R (.ok .next) s₁
   | some v=>Lm (LJ prog w) A (PX target it v) (fun _ s₁'=>Lm (LJ prog w) A (assign target env v) (fun _ s₂=>
     Lm (LJ prog w) A (forIn ifs true λc r=>if r=true then do let ok <- isTrue c env (O7 c env);pure (OM ok) else pure (OM r)) (λok s₃=>
      if ok=true then Lm (LJ prog w) A (kD elt gens scope pos acc env d) (λ_ s₅=>∃ m,m<n/\I m s₅) (λ_ _=>False) s₃
      else ∃ m,m<n/\I m s₃) (λ_ _=>False) s₂) (λ_ _=>False) s₁') (λ_ _=>False) s₁) (λ_ _=>False) s)
  (n:Nat)(h:I n s):Oo (LJ prog w) A (.compLoop (.ListComp elt gens scope pos) d it acc env) R s:=by
 refine codeAny_loop rfl I (λn s hI=>?_) n h;show Lm _ A ((compTurn (.ListComp elt gens scope pos) d it acc env).onRaise (λx=>do noteFrame x env;theTreesLotGoes x)) _ _ s;refine wpAny_noted ?_;rw[uM hd];refine KE (Os (KE (Mq (gR n s hI) (λr s₁ h₁=>?_) λ_ _ z=>z.elim)));cases r with
 |none=>exact K7 h₁
 |some v=>
  refine KE (Mq h₁ (λ_ s₁' h₁'=>?_) λ_ _ z=>z.elim);refine KE (Mq h₁' (λ_ s₂ h₂=>KE (Mq h₂ (λok s₃ h₃=>?_) λ_ _ z=>z.elim)) λ_ _ z=>z.elim);cases ok with
  |false=>exact K7 ⟨rfl,h₃⟩
  |true=>exact KE (Mq h₃ (λ_ s₅ h₅=>K7 ⟨rfl,h₅⟩) λ_ _ z=>z.elim)
theorem sk {d:Nat} (hd:gens[d]?=some ⟨target,iter,ifs,0⟩)
  (h0:Oo (LJ prog w) A (.compLoop (.ListComp elt gens scope pos) d it acc env) R s)
  (h:Lm (LJ prog w) A (UR it) (λit' s'=>Oo (LJ prog w) A (.compLoop (.ListComp elt gens scope pos) d it' acc env) R s')
   (notedBy (LJ prog w) A env λx s'=>R (.error x) s') s) :
  Oo (LJ prog w) A (.compStart (.ListComp elt gens scope pos) d it acc env) R s:=by
 refine SW ?_;show Lm _ _ ((compStart (.ListComp elt gens scope pos) d it acc env).onRaise (λx=>do noteFrame x env;TL theWindowsPlace)) _ _ s;refine wpAny_notedAt ?_;have hd':(clausesOf (.ListComp elt gens scope pos))[d]?=some ⟨target,iter,ifs,0⟩:=hd;unfold compStart;rw[hd'];show Lm _ _ (ask>>=_) _ _ s;refine KE (wpAny_askSetting (wpAny_ite ?_))
 split
 ·first
   |exact KE (K7 (K7 (U0 rfl h0)))
   |exact K7 (U0 rfl h0)
 ·first
   |exact KE (OY (KE (Os (KE (Mq h (λit' s' h'=>K7 (U0 rfl h')) λ_ _ x=>x)))))
   |(refine KE (OY ?_);show Lm _ _ (TL iter.pos>>=_) _ _ s;exact KE (Os (KE (Mq h (λit' s' h'=>K7 (U0 rfl h')) λ_ _ x=>x))))
abbrev TB:=L2.St->Hp->List V->(L2.St->Hp->List V->Prop)->Prop
def B1 (its:List K9)(n:Nat):Obj:={ cls:=.type "list",data:=.seq its.toArray n }
def JN (X:Cx)(pins:List (Lg×Obj))(D:Lg):Prop:=
 D≠X.env.locals/\(D∈X.ex\/X.s₀.heap.objs.size<=D)/\(∀ x c,X.env.cells.lookup x=some c->c≠D)/\∀ p∈X.pn++pins,p.1≠D
def PB (X:Cx)(elt:Nq)(gens:List Py)(scope:Pq)(pos:Pos)(d:Nat)(t:TB):Prop:=
 ∀ (D:Lg) (pins:List (Lg×Obj)) (s:K_) (σ:L2.St) (H:Hp) (ys:List V) (its:List K9) (n:Nat) (Q:L2.St->Hp->List V->Prop),aD X ((D,B1 its n)::pins) σ H s->JN X pins D->aF ys its->t σ H ys Q ->
  Lm (LJ X.prog X.w) X.A (kD elt gens scope pos (.ref D) X.env d) (λ_ s'=>∃ σ' H' ys' its' n',aD X ((D,B1 its' n')::pins) σ' H' s'/\aF ys' its'/\Q σ' H' ys') (λ_ _=>False) s
structure WB (X:Cx)(elt:Nq)(gens:List Py)(scope:Pq)(pos:Pos)(d:Nat)(t:TB):Prop where
 go:PB X elt gens scope pos d t
section
variable {X:Cx}{elt:Nq}{gens:List Py}{scope:Pq}{pos:Pos}{d:Nat}
def yu (te:TE):TB:=λσ H ys Q=>ys.length<Ly/\te σ H λy H'=>Q σ H' (ys++[y])
theorem yD (hx:X.xe=λ_ _=>False)(hd:gens[d+1]?=none)(he:PE X elt te):PB X elt gens scope pos d (yu te):=by
 intro D pins s σ H ys its n Q I hD rv h;obtain⟨hz,h⟩:=h;unfold kD;rw[hd];dsimp only;have he':=he _ s σ H _ I h;rw[hx] at he';refine KE (bP he' λy s8 h8=>?_);obtain⟨yv,H8,I8,r8,q8⟩:=h8;have pD:=I8.pin (D,B1 its n) (Lu _ Lr);have hsz:its.toArray.size<=Ly:=by
  have:=rv.length;rw[Lh,<- this];exact Nx hz
 refine KE (append_at (hsz:=hsz) pD.1 λh9 hs9 hD9=>K7 ?_);have J8:aD X pins σ H8 s8:=I8.pins_of λp hp=>I8.pin p (Lu _ (Le _ hp))
 have J9:aD X pins σ H8 { s8 with heap:=h9 }:=J8.turned (it:=D) (t':=s8.toks) (λb o hb e=>hs9.extBut b o hb e) pD.2.1 hD.1 hD.2.1 hD.2.2.1 hD.2.2.2;refine⟨σ,H8,ys++[yv],its++[y],n+1,J9.pins_of λp hp=>?_,rv.append (.cons r8 .nil),q8⟩;rcases Ln.mp hp with rfl|hp
 ·have e9:({ cls:=.type "list",data:=.seq (its.toArray.push y) (n+1) }:Obj)=B1 (its++[y]) (n+1):=by unfold B1;rw[Uo]
  exact⟨by rw[<- e9];exact hD9,pD.2.1,pD.2.2.1,pD.2.2.2.1,λv z=>nomatch z⟩
 ·exact J9.pin p (Lu _ hp)
def Jo (wi:TI)(g:TG)(tt:TT)(tb:TB):TB:=λσ H ys Q=>wi σ H λJ H1=>∃ W:Nat->Nat->L2.St->Hp->List V->Prop,(∃ m,W 0 m σ H1 ys)/\∀ i m σ2 H2 ys2,W i m σ2 H2 ys2 ->
 (J.stop i H2/\Q σ2 H2 ys2) \/
 (J.go i H2/\∀ x H3,J.yld i H2 x H3->g x σ2 H3 λσ3 H4=>tt σ3 H4 λb H5=>if b=true then tb σ3 H5 ys2 λσ' H' ys'=>∃ m',m'<m/\W (i+1) m' σ' H' ys' else ∃ m',m'<m/\W (i+1) m' σ3 H5 ys2)
theorem lA (hx:X.xe=fun _ _=>False) (hc:X.calm=true) (hd:gens[d + 1]?=some ⟨tg,iter,ifs,0⟩) (hi:WI X tg iter wi) (hg:WG X tg g) (ht:FA X ifs tt) (hb:WB X elt gens scope pos (d + 1) tb)
  (hs:∀ x,MQ iter X.env x=pure x:=by intro _;rfl):WB X elt gens scope pos d (Jo wi g tt tb):=by
 have hi:=hi.go;have hg:=hg.go;have ht:=ht.go;have hb:=hb.go;refine ⟨?_⟩;intro D pins s σ H ys its n Q I hD rv h;unfold kD;rw [hd];dsimp only;have hi':=hi _ s σ H _ I h;rw [hx] at hi';refine KE (bP hi' fun v s1 h1=>?_);refine KE (Os ?_);show Lm _ _ (MQ iter X.env v >>= fun x=>holding [x] (UR x) >>= fun it=>runOwn (.compStart (.ListComp elt gens scope pos) (d + 1) it (.ref D) X.env) X.env >>= fun _=>pure ()) _ _ s1;rw [hs];refine KE (K7 (KE (Mp (bP h1 fun itv s2 h2=>?_))));obtain ⟨it,fp,tn,J,H2,rfl,I2,T,st2,f2,W,⟨m0,w0⟩,gR⟩:=h2;refine KE (wpAny_runOwn ?_);have loop:Oo (LJ X.prog X.w) X.A (.compLoop (.ListComp elt gens scope pos) (d + 1) (.ref it) (.ref D) X.env) (fun r s'=>match r with
   |.ok _=>Lm (LJ X.prog X.w) X.A (pure ()) (λ_ s'=>∃ σ' H' ys' its' n',aD X ((D,B1 its' n')::pins) σ' H' s'/\aF ys' its'/\Q σ' H' ys') (λ_ _=>False) s'
   |.error e=>cameBackBy (LJ X.prog X.w) X.A X.env (λ_ _=>False) e s') s2:=by
  refine jg hd (λk s'=>∃ i σ' H' ys' its' n',aD X ((D,B1 its' n')::pins) σ' H' s'/\tn i s'.heap/\(∀ b∈fp,H' b=none)/\aF ys' its'/\W i k σ' H' ys') ?_ m0
   ⟨0,σ,H2,ys,its,n,I2,st2,λb hb=>(f2 b hb).1,rv,w0⟩
  rintro k s' ⟨i,σ',H',ys',its',n',I',tn',fr',rv',w'⟩;have fpOk:∀ {H':Hp}{o:Obj},(∀ b∈fp,H' b=none)->∀ b∈fp,mC X ((D,o)::pins) H' b:=λ{H' o} hn b hb=>by
   obtain⟨_,g1,g2,g3,g4,g5⟩:=f2 b hb;refine⟨hn b hb,g1,g2,g3,g4,λp hp=>?_⟩;rcases Mm.mp hp with hp|hp
   ·exact g5 p (Nl _ hp)
   ·rcases Ln.mp hp with rfl|hp
    ·exact g5 (D,B1 its n) (Lu _ Lr)
    ·exact g5 p (Lu _ (Le _ hp))
  rcases gR i k σ' H' ys' w' with ⟨stop,fin⟩|⟨go,step⟩
  ·refine Mq (T.done X rfl rfl rfl hc i _ s' σ' H' (λ_ _=>False) I' (fpOk fr') tn' stop) (λr s1 hr=>?_) λ_ _ z=>z
   obtain⟨rfl,I1⟩:=hr;exact K7 ⟨σ',H',ys',its',n',I1,rv',fin⟩
  ·refine Mq (T.item X rfl rfl rfl hc i _ s' σ' H' (λ_ _=>False) I' (fpOk fr') tn' go) (λr s4 hr=>?_) λ_ _ z=>z
   obtain⟨u,rfl,h4⟩:=hr;refine Mq h4 (λ_ s5 h5=>?_) λ_ _ z=>z
   obtain⟨x,H5,I5,r5,y5,tn5,fr5⟩:=h5;have I5':=I5.pinned (fpOk fr5) (T.obj _ _ tn5);have hg':=hg _ s5 σ' H5 x u _ I5' r5 (step x H5 y5);rw[hx] at hg';refine bP hg' λ_ s6 h6=>?_
   obtain⟨σ6,H6,I6,q6⟩:=h6;have ht':=ht _ s6 σ6 H6 _ I6 q6;rw[hx] at ht';refine bP ht' λok s7 h7=>?_
   obtain⟨H7,I7,q7⟩:=h7;have weak:∀ {s8:K_}{σ8:L2.St}{H8:Hp}{its8:List K9}{n8:Nat},aD X ((D,B1 its8 n8)::(pins++ic fp s5.heap)) σ8 H8 s8->aD X ((D,B1 its8 n8)::pins) σ8 H8 s8/\tn (i+1) s8.heap/\∀ b∈fp,H8 b=none:=λ{s8 σ8 H8 its8 n8} I8=>by
    refine⟨I8.pins_of λp hp=>I8.pin p (Lu _ ?_),T.keep _ _ _ tn5 λb hb o e=>(I8.pin (b,o) (Lu _ (Le _ (Lu _ (eF hb e))))).1,λb hb=>?_⟩
    ·rcases Ln.mp hp with rfl|hp
     ·exact Lr
     ·exact Le _ (Nl _ hp)
    ·obtain⟨o,e,_⟩:=T.obj _ _ tn5 b hb;exact(I8.pin (b,o) (Lu _ (Le _ (Lu _ (eF hb e))))).2.1
   cases ok with
   |false=>
    obtain⟨m',hm,w8⟩:=q7;obtain⟨a,b,c⟩:=weak I7;exact⟨m',hm,i+1,σ6,H7,ys',its',n',a,b,c,rv',w8⟩
   |true=>
    have D7:JN X (pins++ic fp s5.heap) D:=⟨hD.1,hD.2.1,hD.2.2.1,λp hp=>by
     rcases Mm.mp hp with hp|hp
     ·exact hD.2.2.2 p (Nl _ hp)
     ·rcases Mm.mp hp with hp|hp
      ·exact hD.2.2.2 p (Lu _ hp)
      ·exact λz=>(f2 _ (mz hp).1).2.2.2.2.2 (D,B1 its n) (Lu _ Lr) z.symm⟩
    refine Mq (hb D _ s7 σ6 H7 ys' its' n' _ I7 D7 rv' q7) (λ_ s8 h8=>?_) λ_ _ z=>z
    obtain⟨σ8,H8,ys8,its8,n8,I8,rv8,m',hm,w8⟩:=h8;obtain⟨a,b,c⟩:=weak I8;exact⟨m',hm,i+1,σ8,H8,ys8,its8,n8,a,b,c,rv8,w8⟩
 exact sk hd loop (T.self _ 0 _ _ _ st2 loop)
end
def wc (J:It)(g:TG)(tt:TT)(tb:TB)(σ0:L2.St)(Fin:List V->Hp->Prop)(H1:Hp):Prop:=∃ W:Nat->Nat->List V->Hp->Prop,(∃ m,W 0 m [] H1)/\∀ i m ys H2,W i m ys H2 ->
 (J.stop i H2/\ys.length<=Ly/\Fin ys H2) \/
 (J.go i H2/\∀ x H3,J.yld i H2 x H3->g x σ0 H3 λσ' H4=>tt σ' H4 λb H5=>if b=true then tb σ' H5 ys λ_ H6 ys'=>∃ m',m'<m/\W (i+1) m' ys' H6 else ∃ m',m'<m/\W (i+1) m' ys H5)
section
variable {X:Cx}{pins:List (Lg×Obj)}{σ:L2.St}{H H2:Hp}{s s2:K_}
theorem mX {N:List Str}{scope:Pq}{elt tg iter:Nq}{ifs:List Nq}{bA:List Py}{pos:Pos}{it:Lg}{fp:List Lg}{tn:Nat->Ng->Prop}{J:It}{g:TG}{tt:TT}{tb:TB}{σ0:L2.St}{Fin:List V->Hp->Prop}
  {E:K9->K_->Prop}{RR:K9->Lg->U7->K_->Prop}(hc:X.calm=true)(I:aD X pins σ H2 s2)(S:uK X scope)
  (hcap:n9 X scope N σ σ0)(hlen:σ0.length=N.length)(f2:∀ b∈fp,mC X pins H2 b)(T:um X.prog X.w X.K tg J fp it tn)(st2:tn 0 s2.heap)
  (hg:∀ C,PG (bo X N scope (aV X scope C) C s2 H2 fp pins) tg g)(ht:∀ C,Ku (bo X N scope (aV X scope C) C s2 H2 fp pins) ifs tt)(he:∀ C,PB (bo X N scope (aV X scope C) C s2 H2 fp pins) elt (⟨tg,iter,ifs,0⟩::bA) scope pos 0 tb)(hw:wc J g tt tb σ0 Fin H2)
  (hRR:∀ (D C:Lg) (s':K_) (H':Hp) (ys:List V),aD X pins σ (upd H' D (.lst ys)) s'->H' D=none->Fin ys H'->(∃ m,s'.heap.Ns C m)->H' C=none->D≠C->s2.heap.objs.size<=C->RR (.ref D) C (.ok .next) s'):
  Lm (LJ X.prog X.w) X.A (newList []) (λacc s₃=>Lm (LJ X.prog X.w) X.A (Rs scope X.env.globals (nE X.env.cells scope.names []) [] X.env.qual none .none (some X.env)) (λcenv s₄=>
   Oo (LJ X.prog X.w) X.A (.compStart (.ListComp elt (⟨tg,iter,ifs,0⟩::bA) scope pos) 0 (.ref it) acc { cenv with scope:=relabel scope X.env }) (RR acc cenv.locals) s₄) E s₃) E s2:=by
 obtain⟨W,⟨m0,w0⟩,gR⟩:=hw;refine Ml (CP λh1 hns1 own1 kk1=>?_);dsimp only at hns1 own1 kk1 ⊢;generalize hG:s2.heap.push { cls:=.type "list",dict:=none,data:=.seq ([]:List K9).toArray }=G at hns1 own1 kk1 ⊢;have hC:G.objs.size=s2.heap.objs.size+1:=by rw[<- hG,Mw]
 have hDC:s2.heap.objs.size≠G.objs.size:=by rw[hC];exact Lp (Ou _)
 have below:∀ b,b<s2.heap.objs.size->b≠G.objs.size:=λb hb=>by rw[hC];exact Lp (Mr hb)
 have old:∀ b o,s2.heap.get? b=some o->h1.get? b=some o:=λb o e=>kk1 b o (hG▸K6 _ e)
 have hacc:h1.get? s2.heap.objs.size=some { cls:=.type "list",data:=.seq ([]:List K9).toArray 0 }:=kk1 _ _ (hG▸Ld _ rfl);have cellLt:∀ x c,X.env.cells.lookup x=some c->c<s2.heap.objs.size:=λx c e=>by
  obtain⟨v,q⟩:=I.cell x c e;exact q.lt
 have big:∀ c:Lg,G.objs.size+1<=c->s2.heap.objs.size+2<=c:=λc h=>by rw[hC] at h;exact h
 have fo:∀ b∈fp,∃ o,s2.heap.get? b=some o:=λb hb=>let ⟨o,e,_⟩:=T.obj 0 _ st2 b hb;⟨o,e⟩
 have fpLt:∀ b∈fp,b<s2.heap.objs.size:=λb hb=>let ⟨o,e⟩:=fo b hb;Lb e
 have st1:tn 0 h1:=T.keep 0 _ _ st2 λb _ o e=>old b o e
 have hCle:s2.heap.objs.size<=G.objs.size:=by rw[hC];exact TF _
 have I0:∀ tk,aD (bo X N scope (aV X scope G.objs.size) G.objs.size s2 H2 fp pins) [(s2.heap.objs.size,{ cls:=.type "list",data:=.seq ([]:List K9).toArray 0 })] σ0 H2 { s2 with heap:=h1,toks:=tk }:=λtk=>
  BI I S hcap hlen f2 fo hCle (Lc _) hDC old hns1 hacc (λv z=>nomatch z) λx c e l=>(own1 x c e).resolve_left λz=>by
   rcases dy S.free z with z|⟨_,z⟩
   ·cases z
   ·exact absurd (cellLt x c z) (MZ.mpr (LM (Pg _ 2) (big c l)))
 have fpOk:∀ {H':Hp}{o:Obj},(∀ b∈fp,H' b=none)->∀ b∈fp,mC (bo X N scope (aV X scope G.objs.size) G.objs.size s2 H2 fp pins) [(s2.heap.objs.size,o)] H' b:=λ{H' o} hn b hb=>by
  obtain⟨_,g1,g2,g3,g4,g5⟩:=f2 b hb;refine⟨hn b hb,below b (fpLt b hb),sX I g1 g2,.inl hb,λx c e=>?_,λp hp=>?_⟩;rcases fM S e with ⟨e,_⟩|⟨l,_⟩
  ·exact g4 x c e
  ·exact λz=>absurd (fpLt b hb) (MZ.mpr (z▸LM (Pg _ 2) (big c l)))
  rcases Mm.mp hp with hp|hp
  ·exact g5 p hp
  ·cases Lo.mp hp;exact λz=>absurd (z▸fpLt b hb) (L7 _)
 have loop:∀ s3:K_,s3.heap=h1->s3.gens=s2.gens->s3.os=s2.os->aD (bo X N scope (aV X scope G.objs.size) G.objs.size s2 H2 fp pins) [(s2.heap.objs.size,{ cls:=.type "list",data:=.seq ([]:List K9).toArray 0 })] σ0 H2 s3 ->
   Oo (LJ X.prog X.w) X.A (.compLoop (.ListComp elt (⟨tg,iter,ifs,0⟩::bA) scope pos) 0 (.ref it) (.ref s2.heap.objs.size) (OH scope (aV X scope G.objs.size) G.objs.size X.env)) (RR (.ref s2.heap.objs.size) G.objs.size) s3:=by
  intro s3 e3 _ _ I3;refine jg (d:=0) rfl (λk s'=>∃ i ys its n H',aD (bo X N scope (aV X scope G.objs.size) G.objs.size s2 H2 fp pins) [(s2.heap.objs.size,{ cls:=.type "list",data:=.seq (its:List K9).toArray n })] σ0 H' s'/\tn i s'.heap/\(∀ b∈fp,H' b=none)/\aF ys its/\W i k ys H') ?_ m0
   ⟨0,[],[],0,H2,I3,by rw[e3];exact st1,λb hb=>(f2 b hb).1,.nil,w0⟩
  rintro k s' ⟨i,ys,its,n,H',I',tn',fr',rv,w'⟩;rcases gR i k ys H' w' with ⟨stop,hz,fin⟩|⟨go,step⟩
  ·refine Mq (T.done (bo X N scope (aV X scope G.objs.size) G.objs.size s2 H2 fp pins) rfl rfl rfl hc i _ s' σ0 H' (λ_ _=>False) I' (fpOk fr') tn' stop) (λr s1 hr=>?_) λ_ _ z=>z
   obtain⟨rfl,I1⟩:=hr;obtain⟨m,hn,_⟩:=id I1.loc;exact hRR _ _ s1 H' ys (Ct I f2 (Lc _) I1 rv hz) (I1.pin _ (Lu _ Lr)).2.1 fin ⟨m,hn⟩ I1.free hDC hCle
  ·refine Mq (T.item (bo X N scope (aV X scope G.objs.size) G.objs.size s2 H2 fp pins) rfl rfl rfl hc i _ s' σ0 H' (λ_ _=>False) I' (fpOk fr') tn' go) (λr s4 hr=>?_) λ_ _ z=>z
   obtain⟨u,rfl,h4⟩:=hr;refine Mq h4 (λ_ s5 h5=>?_) λ_ _ z=>z
   obtain⟨x,H5,I5,r5,y5,tn5,fr5⟩:=h5;have I5':=I5.pinned (fpOk fr5) (T.obj _ _ tn5);refine bP (hg G.objs.size _ s5 σ0 H5 x u _ I5' r5 (step x H5 y5)) λ_ s6 h6=>?_
   obtain⟨σ6,H6,I6,q6⟩:=h6;refine bP (ht G.objs.size _ s6 σ6 H6 _ I6 q6) λok s7 h7=>?_
   obtain ⟨H7,I7,q7⟩:=h7;have weak:∀ {s8:K_}{σ8:L2.St}{H8:Hp}{its':List K9}{n':Nat},aD (bo X N scope (aV X scope G.objs.size) G.objs.size s2 H2 fp pins) ([(s2.heap.objs.size,{ cls:=.type "list",data:=.seq its'.toArray n' })] ++ ic fp s5.heap) σ8 H8 s8 ->
     aD (bo X N scope (aV X scope G.objs.size) G.objs.size s2 H2 fp pins) [(s2.heap.objs.size,{ cls:=.type "list",data:=.seq its'.toArray n' })] σ0 H8 s8/\tn (i+1) s8.heap/\∀ b∈fp,H8 b=none:=λ{s8 σ8 H8 its' n'} I8=>by
    have st8:tn (i+1) s8.heap:=T.keep _ _ _ tn5 λb hb o e=>(I8.pin (b,o) (Lu _ (Lu _ (eF hb e)))).1
    have fr8:∀ b∈fp,H8 b=none:=λb hb=>by
     obtain⟨o,e,d⟩:=T.obj _ _ tn5 b hb;exact(I8.pin (b,o) (Lu _ (Lu _ (eF hb e)))).2.1
    refine⟨?_,st8,fr8⟩;obtain⟨m8,hn8,_⟩:=id I8.loc;have J:=I8.unpinned;exact⟨J.ok,J.os,J.bare,J.base,⟨m8,hn8,λj y v e1 e2 _=>by
     obtain⟨m00,_,hm00⟩:=(I0 0).loc;obtain⟨u',r',l'⟩:=hm00 j y v e1 e2 (by
      obtain⟨_,_,_,_,_,z⟩:=hcap j y v e1 e2;exact .inr z)
     obtain⟨j',j1,j2,j3,jf,j4⟩:=hcap j y v e1 e2;rcases l' with ⟨k',_⟩|⟨k',c,ec,z⟩
     ·exfalso;have k'':(OH scope [] 0 X.env).kindOf y=some .local:=k';rcases j4 with q|q<;>(rw[q] at k'';cases k'')
     ·have eo:X.env.cells.lookup y=some c:=by
       rcases fM S ec with ⟨e,_⟩|⟨_,k2⟩
       ·exact e
       ·rw[jf] at k2;cases k2
      refine⟨u',r',.inr ⟨k',c,ec,?_⟩⟩;obtain⟨oc,hoc,hd⟩:=z;have hlt:c<s2.heap.objs.size:=by
       obtain⟨v',q⟩:=I.cell y c eo;exact q.lt
      have hoc2:s2.heap.get? c=some oc:=by
       obtain⟨v',o',q',d'⟩:=I.cell y c eo;have e':=old c o' q';have hoc':h1.get? c=some oc:=hoc;rw[e'] at hoc';cases hoc';exact q'
      have nfp:c∉fp:=λz=>(f2 c z).2.2.2.2.1 y c eo rfl
      by_cases hfs:c∈v5 X.stack
      ·obtain⟨sl,q⟩:=J.base.slot c oc hoc2 (I.freeC y c eo) hfs nfp;exact⟨_,q,hd⟩
      ·exact⟨oc,J.base.keep c oc hoc2 (I.freeC y c eo) hfs nfp,hd⟩⟩,J.cell,J.free,J.freeC,J.pin,J.hok,hlen⟩
   cases ok with
   |false=>
    obtain⟨m',hm,w8⟩:=q7;obtain⟨I8,st8,fr8⟩:=weak I7;exact⟨m',hm,i+1,ys,its,n,H7,I8,st8,fr8,rv,w8⟩
   |true=>
    have D7:JN (bo X N scope (aV X scope G.objs.size) G.objs.size s2 H2 fp pins) (ic fp s5.heap) s2.heap.objs.size:=by
     refine⟨hDC,.inr (Lc _),λx c e z=>?_,λp hp z=>?_⟩
     ·rcases fM S e with ⟨e,_⟩|⟨l,_⟩
      ·exact absurd (z▸cellLt x c e) (L7 _)
      ·exact absurd (LM (Pg _ 1) (big c l)) (by rw[z];exact Nat.not_succ_le_self _)
     ·rcases Mm.mp hp with hp|hp
      ·exact absurd (z▸Lb (I.pin p hp).1) (L7 _)
      ·exact absurd (z▸fpLt _ (mz hp).1) (L7 _)
    refine Mq (he G.objs.size _ (ic fp s5.heap) s7 σ6 H7 ys its n _ I7 D7 rv q7) (λ_ s8 h8=>?_) λ_ _ z=>z
    obtain⟨σ8,H8,ys8,its8,n8,I8,rv8,m',hm,w8⟩:=h8;obtain⟨L1,L2',L3⟩:=weak I8;exact⟨m',hm,i+1,ys8,its8,n8,H8,L1,L2',L3,rv8,w8⟩
 exact Ss (loop _ rfl rfl rfl (I0 _)) (T.self _ 0 _ _ _ st1 (loop _ rfl rfl rfl (I0 _)))
end
section
variable {X:Cx}{pos:Pos}
def GJ (wi:TI)(g:TG)(tt:TT)(tb:TB)(mk:L2.St->L2.St):TE:=λσ H Q=>wi σ H λJ H1=>wc J g tt tb (mk σ) (λys H2=>∀ D,H2 D=none->Q (.ref D) (upd H2 D (.lst ys))) H1
theorem lZ {N:List Str}{bA:List Py}{scope:Pq}{elt tg iter:Nq}{ifs:List Nq}{wi:TI}{g:TG}{tt:TT}{tb:TB}{mk:L2.St->L2.St} (hc:X.calm=true) (hi:WI X tg iter wi) (S:uK X scope) (hcap:∀ σ,σ.length=X.N.length->n9 X scope N σ (mk σ)/\(mk σ).length=N.length)
  (hg:∀ C s0 H0 fp pn,WG (bo X N scope (aV X scope C) C s0 H0 fp pn) tg g)(ht:∀ C s0 H0 fp pn,FA (bo X N scope (aV X scope C) C s0 H0 fp pn) ifs tt)(he:∀ C s0 H0 fp pn,WB (bo X N scope (aV X scope C) C s0 H0 fp pn) elt (⟨tg,iter,ifs,0⟩::bA) scope pos 0 tb)
  (hs:∀ x,MQ iter X.env x=pure x:=by intro _;rfl):WE X (.ListComp elt (⟨tg,iter,ifs,0⟩::bA) scope pos) (GJ wi g tt tb mk):=by
 have hi:=hi.go;have hg:=λC s0 H0 fp pn=>(hg C s0 H0 fp pn).go
 have ht:=λC s0 H0 fp pn=>(ht C s0 H0 fp pn).go
 have he:=λC s0 H0 fp pn=>(he C s0 H0 fp pn).go
 refine⟨?_⟩;intro pins s σ H Q I h;rw[T_];refine Oc (use:=none) rfl hs (l7 S.free) S.kind (λy hy e=>by rw[S.once y hy,e]) ?_;refine bP (hi pins s σ H _ I h) λv s1 h1=>bP h1 λitv s2 h2=>?_
 obtain⟨it,fp,tn,J,H2,rfl,I2,T,st2,f2,hw⟩:=h2;have hcp:=hcap σ I2.len;refine mX hc I2 S hcp.1 hcp.2 f2 T st2 (λC=>hg C _ _ _ _) (λC=>ht C _ _ _ _) (λC=>he C _ _ _ _) hw ?_;intro D C s' H' ys I' hD fin hm hC hDC hle;obtain⟨m,hn⟩:=hm;refine⟨m,hn,λh' hs'=>⟨.ref D,_,?_,rfl,fin D hD⟩⟩;exact I'.turned (it:=C) (t':=s'.toks) (λb o hb e=>hs'.extBut b o hb e) (by rw[aq (NF hDC)];exact hC) (λz=>absurd (z▸I2.lt) (MZ.mpr hle)) (.inr (LM I2.sz hle))
  (λx c e z=>by
   obtain⟨v',q⟩:=I2.cell x c e;exact absurd (z▸q.lt) (MZ.mpr hle))
  (λp hp z=>absurd (z▸Lb (I2.pin p hp).1) (MZ.mpr hle))
end
section
variable {X:Cx}{pins:List (Lg×Obj)}{σ:L2.St}{H H2:Hp}{s s2:K_}
theorem o_ {N:List Str}{scope:Pq}{elt tg iter:Nq}{ifs:List Nq}{pos:Pos}{it:Lg}{fp:List Lg}{tn:Nat->Ng->Prop}{J:It}{g:TG}{tt:TT}{te:TE}{σ0:L2.St}{Fin:List V->Hp->Prop}
  {E:K9->K_->Prop}{RR:K9->Lg->U7->K_->Prop}(hc:X.calm=true)(I:aD X pins σ H2 s2)(S:uK X scope)
  (hcap:n9 X scope N σ σ0)(hlen:σ0.length=N.length)(f2:∀ b∈fp,mC X pins H2 b)(T:um X.prog X.w X.K tg J fp it tn)(st2:tn 0 s2.heap)
  (hg:∀ C,PG (bo X N scope (aV X scope C) C s2 H2 fp pins) tg g)(ht:∀ C,Ku (bo X N scope (aV X scope C) C s2 H2 fp pins) ifs tt)(he:∀ C,PE (bo X N scope (aV X scope C) C s2 H2 fp pins) elt te)(hw:gg J g tt te σ0 Fin H2)
  (hRR:∀ (D C:Lg) (s':K_) (H':Hp) (ys:List V),aD X pins σ (upd H' D (.lst ys)) s'->H' D=none->Fin ys H'->(∃ m,s'.heap.Ns C m)->H' C=none->D≠C->s2.heap.objs.size<=C->RR (.ref D) C (.ok .next) s'):
  Lm (LJ X.prog X.w) X.A (newList []) (λacc s₃=>Lm (LJ X.prog X.w) X.A (Rs scope X.env.globals (nE X.env.cells scope.names []) [] X.env.qual none .none (some X.env)) (λcenv s₄=>
   Oo (LJ X.prog X.w) X.A (.compStart (.ListComp elt [⟨tg,iter,ifs,0⟩] scope pos) 0 (.ref it) acc { cenv with scope:=relabel scope X.env }) (RR acc cenv.locals) s₄) E s₃) E s2:=by
 obtain⟨W,h0,gR⟩:=hw;refine mX (bA:=[]) (tb:=yu te) hc I S hcap hlen f2 T st2 hg ht (λC=>yD rfl rfl (he C)) ⟨W,h0,λi m ys H w=>?_⟩ hRR;rcases gR i m ys H w with h|⟨h1,h2,h3⟩
 ·exact .inl h
 ·refine .inr ⟨h1,λx H3 y=>?_⟩;have:=h3 x H3 y
  simpa only [yu,h2,true_and] using this
end
section
variable {X:Cx}{pos:Pos}
def FB (wi:TI)(g:TG)(tt:TT)(te:TE)(mk:L2.St->L2.St):TE:=λσ H Q=>wi σ H λJ H1=>gg J g tt te (mk σ) (λys H2=>∀ D,H2 D=none->Q (.ref D) (upd H2 D (.lst ys))) H1
theorem B4 (hc:X.calm=true) (hi:WI X tg iter wi) (S:uK X scope) (hcap:∀ σ,σ.length=X.N.length->n9 X scope N σ (mk σ)/\(mk σ).length=N.length)
  (hg:∀ C s0 H0 fp pn,WG (bo X N scope (aV X scope C) C s0 H0 fp pn) tg g)(ht:∀ C s0 H0 fp pn,FA (bo X N scope (aV X scope C) C s0 H0 fp pn) ifs tt)(he:∀ C s0 H0 fp pn,WE (bo X N scope (aV X scope C) C s0 H0 fp pn) elt te)
  (hs:∀ x,MQ iter X.env x=pure x:=by intro _;rfl):WE X (.ListComp elt [⟨tg,iter,ifs,0⟩] scope pos) (FB wi g tt te mk):=by
 have hi:=hi.go;have hg:=λC s0 H0 fp pn=>(hg C s0 H0 fp pn).go
 have ht:=λC s0 H0 fp pn=>(ht C s0 H0 fp pn).go
 have he:=λC s0 H0 fp pn=>(he C s0 H0 fp pn).go
 refine⟨?_⟩;intro pins s σ H Q I h;rw[T_];refine Oc (use:=none) rfl hs (l7 S.free) S.kind (λy hy e=>by rw[S.once y hy,e]) ?_;refine bP (hi pins s σ H _ I h) λv s1 h1=>bP h1 λitv s2 h2=>?_
 obtain⟨it,fp,tn,J,H2,rfl,I2,T,st2,f2,hw⟩:=h2;have hcp:=hcap σ I2.len;refine o_ hc I2 S hcp.1 hcp.2 f2 T st2 (λC=>hg C _ _ _ _) (λC=>ht C _ _ _ _) (λC=>he C _ _ _ _) hw ?_;intro D C s' H' ys I' hD fin hm hC hDC hle;obtain⟨m,hn⟩:=hm;refine⟨m,hn,λh' hs'=>⟨.ref D,_,?_,rfl,fin D hD⟩⟩;exact I'.turned (it:=C) (t':=s'.toks) (λb o hb e=>hs'.extBut b o hb e) (by rw[aq (NF hDC)];exact hC) (λz=>absurd (z▸I2.lt) (MZ.mpr hle)) (.inr (LM I2.sz hle))
  (λx c e z=>by
   obtain⟨v',q⟩:=I2.cell x c e;exact absurd (z▸q.lt) (MZ.mpr hle))
  (λp hp z=>absurd (z▸Lb (I2.pin p hp).1) (MZ.mpr hle))
end
section
variable {X:Cx}{pos:Pos}
def DF (i:Nat)(wi:TI)(g:TG)(tt:TT)(te:TE)(mk:L2.St->L2.St):TS:=λE σ H=>wi σ H λJ H1=>gg J g tt te (mk σ) (λys H2=>∀ D,H2 D=none->E.nx (σ.set i (some (.ref D))) (upd H2 D (.lst ys))) H1
theorem uv {i:Nat} (hc:X.calm=true) (hN:X.N.Nodup) (hi':X.N[i]?=some y) (hy:X.env.scope.names.lookup y=some .local)
  (hi:WI X tg iter wi)(S:uK X scope)(hcap:∀ σ,σ.length=X.N.length->n9 X scope N σ (mk σ)/\(mk σ).length=N.length)
  (hg:∀ C s0 H0 fp pn,WG (bo X N scope (aV X scope C) C s0 H0 fp pn) tg g)(ht:∀ C s0 H0 fp pn,FA (bo X N scope (aV X scope C) C s0 H0 fp pn) ifs tt)(he:∀ C s0 H0 fp pn,WE (bo X N scope (aV X scope C) C s0 H0 fp pn) elt te)
  (hsw:Q2 (.ListComp elt [⟨tg,iter,ifs,0⟩] scope pos) (some (.Name y py)) spos.line X.env=pure true:=by rfl)
  (hs:∀ x,MQ iter X.env x=pure x:=by intro _;rfl):WS X (.Assign [.Name y py] (.ListComp elt [⟨tg,iter,ifs,0⟩] scope pos) spos) (DF i wi g tt te mk):=by
 have hi:=hi.go;have hg:=λC s0 H0 fp pn=>(hg C s0 H0 fp pn).go
 have ht:=λC s0 H0 fp pn=>(ht C s0 H0 fp pn).go
 have he:=λC s0 H0 fp pn=>(he C s0 H0 fp pn).go
 refine⟨?_⟩;intro pins s σ H E I h;rw[exec_Assign_Name_used _ _ _ _ hsw];refine KE (Os (KE ?_));show Lm _ X.A (do let _ <- comprehension (.ListComp elt [⟨tg,iter,ifs,0⟩] scope pos) scope X.env _ (newList []) false (O7 iter X.env) (some (assign (.Name y py) X.env))) _ _ s;refine KE (Mq (Oc (use:=some (assign (.Name y py) X.env)) (Q:=λ_ s'=>SP X pins E .next s') rfl hs (l7 S.free) S.kind (λy hy e=>by rw[S.once y hy,e]) ?_) (λ_ s' hq=>K7 (K7 hq)) λ_ _ e=>e);refine bP (hi pins s σ H _ I h) λv s1 h1=>bP h1 λitv s2 h2=>?_
 obtain⟨it,fp,tn,J,H2,rfl,I2,T,st2,f2,hw⟩:=h2;have hcp:=hcap σ I2.len;refine o_ hc I2 S hcp.1 hcp.2 f2 T st2 (λC=>hg C _ _ _ _) (λC=>ht C _ _ _ _) (λC=>he C _ _ _ _) hw ?_;intro D C s' H' ys I' hD fin hm hC hDC hle;obtain⟨m,hn⟩:=hm;have neC:X.env.locals≠C:=λz=>absurd (z▸I2.lt) (MZ.mpr hle)
 have upC:(upd H' D (.lst ys)) C=none:=by rw[aq (NF hDC)];exact hC
 show Lm _ X.A (assign (.Name y py) X.env (.ref D)) _ _ s';refine Qd (qN I' hN hi' (.inl hy) (v:=.ref D) (u:=.ref D) rfl (λs3 I3 ⟨a,sb,ha⟩=>?_) (.inr hy));have aC:C≠a:=by
  rcases ha with e|e
  ·rw[e];exact NF neC
  ·intro z;obtain⟨v',q⟩:=I2.cell y a e;exact absurd (z▸q.lt) (MZ.mpr hle)
 refine⟨m,hn.sameBut sb aC,λh' hs'=>⟨_,_,?_,fin D hD⟩⟩;exact I3.turned (it:=C) (t':=s3.toks) (λb o hb e=>hs'.extBut b o hb e) upC (NF neC) (.inr (LM I2.sz hle))
  (λx c e z=>by
   obtain⟨v',q⟩:=I2.cell x c e;exact absurd (z▸q.lt) (MZ.mpr hle))
  (λp hp z=>absurd (z▸Lb (I2.pin p hp).1) (MZ.mpr hle))
end
end TR
namespace L2
open PySem PySem.Spec PyProof.Rows
section
variable {κ:Type}[DecidableEq κ]
def kN (kvs:List (κ×V))(k:κ):Option V:=(kvs.find? λkv=>decide (kv.1=k)).map (·.2)
def kX (kvs:List (κ×V))(k:κ)(v:V):List (κ×V):=
 if(kvs.any λkv=>decide (kv.1=k))=true then kvs.map (λkv=>if kv.1=k then(kv.1,v) else kv) else kvs++[(k,v)]
theorem lf {p:κ×V}{r:List (κ×V)}{k:κ}(e:p.1=k):kN (p::r) k=some p.2:=by simp[kN,Nv,e]
theorem jj {p:κ×V}{r:List (κ×V)}{k:κ}(e:¬ p.1=k):kN (p::r) k=kN r k:=by simp[kN,Nv,e]
theorem oV (k:κ):∀ kvs:List (κ×V),(kvs.any λkv=>decide (kv.1=k))=(kN kvs k).isSome
 |[]=>rfl
 |p::r=>by
  rw[QJ]
  by_cases e:p.1=k
  ·simp only[lf e,Lj e,Bool.true_or,TZ]
  ·rw[jj e,LW e,Bool.false_or];exact oV k r
theorem mP (kvs:List (κ×V))(k:κ)(v:V):(kX kvs k v).length<=kvs.length+1:=by
 unfold kX
 split
 ·rw[K'];lia
 ·rw[LC,LK,QU];lia
theorem C0 {kvs:List (κ×V)}{k:κ}(v:V)(h:kN kvs k=none):kX kvs k v=kvs++[(k,v)]:=by
 unfold kX;rw[oV,h];exact LB (by decide)
theorem jL.isSome_eq (r:jL o u):o.isSome=u.isSome:=by
 cases o with
 |none=>cases u with
  |none=>rfl
  |some _=>exact(show False from r).elim
 |some _=>cases u with
  |none=>exact(show False from r).elim
  |some _=>rfl
theorem KV.val {kvs:List (κ×V)}{vs:List (κ×K9)}(r:KV kvs vs)(k:κ):jL (kN kvs k) (UB vs k):=by
 unfold KV at r
 induction r with
 |nil=>exact True.intro
 |@cons p q ps qs h t ih=>
  obtain⟨h1,h2⟩:=h
  by_cases e:p.1=k
  ·have e':q.1=k:=h1.symm.trans e;have b:UB (q::qs) k=some q.2:=by simp[UB,Nv,e']
   rw[lf e,b];exact h2
  ·have e':¬ q.1=k:=λz=>e (h1.trans z)
   have b:UB (q::qs) k=UB qs k:=by simp[UB,Nv,e']
   rw[jj e,b];exact ih
theorem KV.any (r:KV kvs vs)(k:κ):(kvs.any λkv=>decide (kv.1=k))=vs.any λkv=>decide (kv.1=k):=by
 unfold KV at r
 induction r with
 |nil=>rfl
 |cons h t ih=>rw[QJ,QJ,ih,h.1]
theorem KV.repl (r:KV kvs vs) (k:κ) (ry:aY y u) :
  KV (kvs.map λkv=>if kv.1=k then(kv.1,y) else kv) (vs.map λkv=>if kv.1=k then(kv.1,u) else kv):=by
 unfold KV at r ⊢
 induction r with
 |nil=>exact .nil
 |@cons p q ps qs h t ih=>
  rw[LA,LA];refine .cons ?_ ih;obtain⟨h1,h2⟩:=h
  by_cases e:p.1=k
  ·rw[LL e,LL (h1.symm.trans e)];exact⟨h1,ry⟩
  ·rw[LB e,LB (λz=>e (h1.trans z))];exact⟨h1,h2⟩
theorem KV.put (r:KV kvs vs)(k:κ)(ry:aY y u):KV (kX kvs k y) (stored vs k u):=by
 unfold kX stored;rw[r.any k]
 by_cases e:(vs.any λkv=>decide (kv.1=k))=true
 ·rw[LL e,LL e];exact r.repl k ry
 ·rw[LB e,LB e];exact Paired.snoc r ⟨rfl,ry⟩
theorem KV.length (r:KV kvs vs):kvs.length=vs.length:=RW r
end
theorem Do (r:aY (kV k) u):(bh P w).is k u=true:=by
 cases k with
 |inl i=>obtain⟨t,e⟩:=(show ∃ t,u=PU i t from r);subst e;exact vm P w i t
 |inr x=>obtain⟨t,e⟩:=(show ∃ t,u=RI x t from r);subst e;exact vS P w x t
theorem qV:∀ {ks:List eK}{us:List K9},aF (ks.map kV) us->ItemsAre (bh P w) ks us
 |[],_,r=>by rw[NL] at r;cases r;exact .nil
 |k::ks,_,r=>by
  rw[LA] at r;cases r with
  |cons h t=>exact .cons (Do h) (qV t)
abbrev KT (H:Hp):List (List eK×V)->List (List eK×Lg×K9)->Prop:=Ra λp q=>p.1=q.1/\H q.2.1=some (.tup (p.1.map kV))/\aY p.2 q.2.2
theorem KT.val {H:Hp}{kvs:List (List eK×V)}{xs:List (List eK×Lg×K9)}(r:KT H kvs xs)(k:List eK):jL (kN kvs k) ((Vf xs k).map (·.2)):=by
 induction r with
 |nil=>exact True.intro
 |@cons p q ps qs h t ih=>
  obtain⟨h1,_,h2⟩:=h
  by_cases e:p.1=k
  ·have e':q.1=k:=h1.symm.trans e;have b:Vf (q::qs) k=some q.2:=by simp[Vf,Nv,e']
   rw[lf e,b];exact h2
  ·have e':¬ q.1=k:=λz=>e (h1.trans z)
   have b:Vf (q::qs) k=Vf qs k:=by simp[Vf,Nv,e']
   rw[jj e,b];exact ih
theorem KT.repl (r:KT H kvs xs) (k:List eK) (ry:aY y u) :
  KT H (kvs.map λkv=>if kv.1=k then(kv.1,y) else kv) (xs.map (putAt k u)):=by
 induction r with
 |nil=>exact .nil
 |@cons p q ps qs h t ih=>
  rw[LA,LA];refine .cons ?_ ih;obtain⟨h1,h2,h3⟩:=h;unfold putAt
  by_cases e:p.1=k
  ·rw[LL e,LL (h1.symm.trans e)];exact⟨h1,h2,ry⟩
  ·rw[LB e,LB (λz=>e (h1.trans z))];exact⟨h1,h2,h3⟩
theorem KT.put (r:KT H kvs xs) (k:List eK) (hb:H b=some (.tup (k.map kV))) (ry:aY y u) :
  KT H (kX kvs k y) (storedH xs k b u):=by
 have e:(kvs.any λkv=>decide (kv.1=k))=(Vf xs k).isSome:=by
  rw[oV,(r.val k).isSome_eq,Ur]
 unfold kX storedH;rw[e]
 by_cases q:(Vf xs k).isSome=true
 ·rw[LL q,LL q];exact r.repl k ry
 ·rw[LB q,LB q];exact Paired.snoc r ⟨rfl,hb,ry⟩
theorem KT.keeps (r:KT H kvs xs)(ht:∀ b ys,H b=some (.tup ys)->H' b=some (.tup ys)):KT H' kvs xs:=
 Paired.mapP r λ_ _ z=>⟨z.1,ht _ _ z.2.1,z.2.2⟩
section
variable {P:Lz}{w:LX}{H:Hp}{h:Ng}{a:Lg}
theorem FK (ok:jd P w H h)(e:Rd H a u):bv P w H h a u:=e.ok ok
theorem DG (ok:jd P w H h)(e:Rd H a (.dK kvs)):kvs.length<=Ly/\(a==MJ)=false/\∃ vs,KV kvs vs/\h.DictOf (bh P w) a vs:=
 show bv P w H h a (.dK kvs) from FK ok e
theorem IM (ok:jd P w H h)(e:H a=some (.dK kvs)):kvs.length<=Ly/\(a==MJ)=false/\∃ vs,KV kvs vs/\h.DictOf (bh P w) a vs:=DG ok (.inl e)
theorem p9 (ok:jd P w H h)(e:H a=some (.tup (ks.map kV))):(OR (bh P w)).is h ks a:=by
 obtain⟨_,its,r,o,h1,h2,n,h3⟩:=(show bv P w H h a (.tup (ks.map kV)) from ok a _ e)
 exact⟨o,its.toArray,n,h1,h2,h3,by simpa using qV r⟩
theorem rB (ok:jd P w H h) (e:Rd H a (.dT kvs)):kvs.length <= Ly/\(a == MJ)=false /\
  ∃ xs,KT H kvs xs/\h.DictOfH (OR (bh P w)) a xs:=by
 obtain⟨z,y,xs,r,o,es,ep,h1,h2,h3,h4,h5⟩:=(show bv P w H h a (.dT kvs) from FK ok e)
 refine⟨z,y,xs,r,o,es,ep,h1,h2,h3,h4,λx hx=>?_,h5⟩;have all:∀ {l:List (List eK×V)}{m:List (List eK×Lg×K9)},KT H l m->∀ x∈m,(OR (bh P w)).is h x.1 x.2.1:=by
  intro l m q
  induction q with
  |nil=>intro x hx;exact nomatch hx
  |@cons p q ps qs hq t ih=>
   intro x hx;rcases Ln.mp hx with e|hx
   ·subst e;exact p9 ok (by rw[<- hq.1];exact hq.2.1)
   ·exact ih x hx
 exact all r x hx
theorem Je (ok:jd P w H h) (e:H a=some (.dT kvs)):kvs.length <= Ly/\(a == MJ)=false /\
  ∃ xs,KT H kvs xs/\h.DictOfH (OR (bh P w)) a xs:=rB ok (.inl e)
end
def xO (H:Hp)(a:Lg)(y:V)(r:Option V):Prop:=
 (∃ kvs k,Rd H a (.dK kvs)/\y=kV k/\r=kN kvs k)\/∃ kvs k b,Rd H a (.dT kvs)/\y=.ref b/\H b=some (.tup (k.map kV))/\r=kN kvs k
def DD (H:Hp)(a:Lg)(y v:V)(H':Hp):Prop:=
 (∃ kvs k,H a=some (.dK kvs)/\y=kV k/\kvs.length<Ly/\H'=upd H a (.dK (kX kvs k v))) \/
 ∃ kvs k b,H a=some (.dT kvs)/\y=.ref b/\H b=some (.tup (k.map kV))/\kvs.length<Ly/\H'=upd H a (.dT (kX kvs k v))
theorem xO.t {H:Hp}{a b:Lg}{kvs:List (List eK×V)}{k:List eK}(e:H a=some (.dT kvs))(eb:H b=some (.tup (k.map kV))):xO H a (.ref b) (kN kvs k):=.inr ⟨kvs,k,b,.inl e,rfl,eb,rfl⟩
theorem DD.t {H:Hp}{a b:Lg}{kvs:List (List eK × V)}{k:List eK}{v:V} (e:H a=some (.dT kvs)) (eb:H b=some (.tup (k.map kV))) (hl:kvs.length < Ly) :
  DD H a (.ref b) v (upd H a (.dT (kX kvs k v))):=.inr ⟨kvs,k,b,e,rfl,eb,hl,rfl⟩
section
variable {X:Cx}{pins:List (Lg×Obj)}{σ:St}{H:Hp}{s:K_}{a:Lg}{y v:V}{u r:K9}{o:Option V}{A:L9}{E:K9->K_->Prop}
theorem aD.big (I:aD X pins σ H s):MJ<s.heap.objs.size:=by
 have h:Lf<s.heap.objs.size:=(I.mod.glob.keeps I.bk).lt;exact Nat.lt_trans (by decide) h
theorem Al (hu:A.units + 1 < cLine) (I:aD X pins σ H s) (g:xO H a y (some v)) (ry:aY y u) (h:∀ w' s',aD X pins σ H s'->aY v w'->Q w' s') :
  Lm (LJ X.prog X.w) A (Uz (.ref a) u) Q E s:=by
 rcases g with ⟨kvs,k,e,ey,l⟩|⟨kvs,k,b,e,ey,eb,l⟩
 ·subst ey;obtain⟨z,hd,vs,rel,dd⟩:=DG I.hok e;obtain⟨w',hw,rw'⟩:=jL.some_of (v:=v) (o:=UB vs k) (by rw[l];exact rel.val k);exact wpAny_getItem_of (Do ry) dd.mapOf hw (h w' _ (I.tok _) rw')
 ·subst ey;cases(show u=LH b from ry);obtain⟨z,hd,xs,rel,dd⟩:=rB I.hok e;obtain⟨w',hw,rw'⟩:=jL.some_of (v:=v) (o:=(Vf xs k).map (·.2)) (by rw[l];exact rel.val k);obtain⟨p,hp,hp2⟩:=Lx.mp hw;refine wpAny_getItem_heap (tupleKind_room_in1 hu) (p9 I.hok eb) dd hp ?_;rw[hp2];exact h w' _ (I.tok _) rw'
theorem tX {t':Nat} (I:aD X pins σ H s) (mu:Im (H a)) (hs:Mz a s.heap h') (he:∃ q,h'.get? a=some q) (new:bv X.prog X.w (upd H a ob) h' a ob) :
  aD X pins σ (upd H a ob) { s with heap:=h',toks:=t' }:=
 I.write (x:=a) (e:=a) mu (.inl rfl) (λb q hb z=>(hs.2 b hb).trans z) he new
theorem GH (z:kvs.length <= Ly) (hd:(a == MJ)=false) (rel:KV kvs vs) (dd:h'.DictOf (bh P w) a vs) :
  bv P w H' h' a (.dK kvs):=⟨z,hd,vs,rel,dd⟩
theorem AL (hu:A.units + 1 < cLine) (I:aD X pins σ H s) (g:DD H a y v H') (ry:aY y u) (rv:aY v r) (h:∀ s',aD X pins σ H' s'->Q () s') :
  Lm (LJ X.prog X.w) A (setItem (.ref a) u r) Q E s:=by
 rcases g with ⟨kvs,k,e,ey,l,eH⟩|⟨kvs,k,b,e,ey,eb,l,eH⟩
 ·subst ey eH;obtain⟨z,hd,vs,rel,dd⟩:=IM I.hok e;have hz:vs.length<=Ly:=by rw[<- rel.length];exact z
  have hl:(kX kvs k v).length<=Ly:=by have:=mP kvs k v;lia
  refine wpAny_setItem_pairs (hsz:=hz) (Do ry) dd λh' dd' hs=>h _ ?_
  have he:∃ q,h'.get? a=some q:=let ⟨q,_,_,hq,_⟩:=dd';⟨q,hq⟩
  exact tX I (by rw[e];exact True.intro) hs he (GH hl hd (rel.put k rv) dd')
 ·subst ey eH;cases(show u=LH b from ry);obtain⟨z,hd,xs,rel,dd⟩:=Je I.hok e;have hz:xs.length<=Ly:=by rw[<- RW rel];exact z
  have hl:(kX kvs k v).length<=Ly:=by have:=mP kvs k v;lia
  refine wpAny_setItem_heap (hsz:=hz) (tupleKind_room_in1 hu) (p9 I.hok eb) dd λh' dd' hs=>h _ ?_
  obtain⟨q,es,ep,hq,h2,h3,h4,_,h5⟩:=dd';refine tX I (by rw[e];exact True.intro) hs ⟨q,hq⟩ ⟨hl,hd,_,(rel.put k eb rv).keeps λc ys ec=>?_,q,es,ep,hq,h2,h3,h4,h5⟩;rw[aq (FH ec e (λz=>nomatch z))];exact ec
end
def IG (i:Nq):Prop:=∀ ov iv,subscripted i false ov iv=operate [ov,iv] (Uz ov iv)
theorem Fk {prog:Lz}{w:LX}{A:L9}{E:K9->K_->Prop}{s:K_}{env:Env}{value slice:Nq}{pos:Pos}{T id:String}{Q:K9->K_->Prop}
  (hl:typeLookup (.type T) "__getitem__"=pure (some (.builtin id)))(hs:IG slice)
  (h:Lm (LJ prog w) A (O7 value env) (λo s₁=>Lm (LJ prog w) A (O7 slice env) (λi s₂=>s₂.TypeIs o T/\Lm (LJ prog w) A (Uz o i) Q E s₂) E s₁) E s):
  Lm (LJ prog w) A (O7 (.Subscript value slice pos) env) Q E s:=by
 refine Uw (Mq h (λo s₁ h₁=>Mq h₁ (λi s₂ h₂=>?_) λ_ _ x=>x) λ_ _ x=>x);obtain⟨hT,h₂⟩:=h₂;unfold Ub;refine KE ?_;rw[getitemInPython_of_ne hT.not_modules];refine KE (NA hT hl ?_);have fin:Lm (LJ prog w) A (subscripted slice false o i) (λr s₃=>Lm (LJ prog w) A (letTemporaryGo value o r>>=λ_=>pure r) Q E s₃) E s₂:=by
  rw[hs o i];exact wpAny_operating (Mq h₂ (λr s₃ h₃=>KE (wpAny_letTemporaryGo (K7 h₃))) λ_ _ x=>x)
 first
  |exact K7 (KE fin)
  |exact KE (K7 (KE fin))
  |exact KE fin
theorem uo (I:aD X pins σ H s)(g:xO H a y o):s.TypeIs (.ref a) "dict":=by
 rcases g with ⟨kvs,k,e,_,_⟩|⟨kvs,k,b,e,_,_,_⟩
 ·obtain⟨_,_,vs,_,dd⟩:=DG I.hok e;exact dd.typeIs
 ·obtain⟨_,_,xs,_,dd⟩:=rB I.hok e;exact dd.typeIs
def IA (td ty:TE):TE:=λσ H Q=>td σ H λx H1=>ty σ H1 λy H2=>∃ a v,x=.ref a/\xO H2 a y (some v)/\Q v H2
def Ik (td ty tv:TE):TS:=λD σ H=>tv σ H λv H1=>td σ H1 λx H2=>ty σ H2 λy H3=>∃ a H4,x=.ref a/\DD H3 a y v H4/\D.nx σ H4
section
variable {X:Cx}{o i e value:Nq}{pos pos' tpos:Pos}{td ty tv:TE}
theorem B' (hu:X.A.units+1<cLine)(ho:WE X o td)(hi:WE X i ty)(hs:IG i):WE X (.Subscript o i pos) (IA td ty):=by
 have ho:=ho.go;have hi:=hi.go;refine⟨?_⟩;intro pins s σ H Q I h;refine Fk PySem.F.slot_dict_getitem.lookup hs (bP (ho pins s σ H _ I h) λu s1 ⟨x,H1,I1,rx,q1⟩=>bP (hi pins s1 σ H1 _ I1 q1) λiv s2 ⟨y,H2,I2,ry,a,v,ex,g,q2⟩=>?_);subst ex;obtain rfl:u=LH a:=rx;exact⟨uo I2 g,Al hu I2 g ry λw' s3 I3 rw'=>⟨v,H2,I3,rw',q2⟩⟩
theorem DR (hu:X.A.units + 1 < cLine) (ho:WE X o td) (hi:WE X i ty) (hv:WE X value tv) (hs:Q2 value (some (.Subscript o i pos')) pos.line X.env=pure false) :
  WS X (.Assign [.Subscript o i pos'] value pos) (Ik td ty tv):=by
 have ho:=ho.go;have hi:=hi.go;have hv:=hv.go;refine⟨?_⟩;intro pins s σ H D I h;refine Sv (bP (hv pins s σ H _ I h) λr s1 ⟨v,H1,I1,rv,q1⟩=>bP (ho pins s1 σ H1 _ I1 q1) λu s2 ⟨x,H2,I2,rx,q2⟩=>bP (hi pins s2 σ H2 _ I2 q2) λiv s3 ⟨y,H3,I3,ry,a,H4,ex,g,q3⟩=>?_) hs;subst ex;obtain rfl:u=LH a:=rx;exact AL hu I3 g ry rv λs4 I4=>⟨σ,H4,I4,q3⟩
end
theorem Dc (h:Ng)(hb:MJ<h.objs.size):bv P w H (h.push { cls:=.type "dict",data:=.dict #[] }) h.objs.size (.dT []):=
 ⟨LY _,M6.mpr (NF (Lp hb)),[],.nil,_,#[],0,Ld _ rfl,⟨rfl,rfl,rfl⟩,rfl,rfl,List.nodup_nil⟩
def Hn:TE:=λ_ H Q=>∀ p,H p=none->Q (.ref p) (upd H p (.dT []))
section
variable {X:Cx}{pos:Pos}
theorem AV:WE X (.Dict [] [] pos) Hn:=by
 exact⟨λpins s σ H Q I h=>
 wpAny_Dict_empty ⟨.ref s.heap.objs.size,_,I.laid (a:=s.heap.objs.size) (o:=.dT []) (t':=s.toks) (λ_ _ q=>K6 _ q) (Lc _) (Dc s.heap I.big),rfl,h _ (I.hok.fresh (Lc _))⟩⟩
end
def aA (H:Hp)(a:Lg):Prop:=(∃ kvs,Rd H a (.dK kvs))\/∃ kvs,Rd H a (.dT kvs)
end L2
namespace PySem
section
variable {prog:Lz}{w:LX}{K:Type}[DecidableEq K]{knd:UZ prog w K}{A:L9}{E:K9->K_->Prop}{s:K_}
theorem nh (knd:UZ prog w K) (d:Lg) (hd:(d == MJ)=false) :
  MeetsIn prog w (NU.«dict.__len__» ⟨[.ref d],[]⟩) (λ_ R s=>∃ xs,s.heap.DictOfH knd d xs/\R (.ok (.ret (.int xs.length s.toks))) { s with toks:=s.toks+1 }):=
 .of_wp λA R s ⟨xs,hm,h⟩=>by
  obtain⟨o,es,ep,ho,hc,hdat,he,hi,hn⟩:=hm;show Lm _ _ (dictSize d>>=_) _ _ s;unfold dictSize;refine KE (KE (MR ho hdat (K7 ?_)));show Lm _ _ (Builtin.Dict.pendingCount d>>=_) _ _ s;refine KE (wpAny_pendingCount_other hd ?_);refine wpAny_ret_mkInt ?_;rw[NM,S0 he];exact h
theorem AC {d:Lg}{xs:List (K × Lg × K9)}{Q:K9->K_->Prop} (hd:(d == MJ)=false) (hm:s.heap.DictOfH knd d xs) (hfit:(xs.length:Int) < 2 ^ 63)
  (h:Q (.int xs.length (s.toks+1)) { s with toks:=s.toks+1+1 }):Lm (LJ prog w) A (NU.«len» ⟨[.ref d],[]⟩) (λfin s'=>∃ r,fin=.done (.ret r)/\Q r s') E s:=by
 unfold NU.«len»;refine KE (m:=oneArg "len" _) (K7 ?_);refine KE (m:=callSpecial? (.ref d) (MB "__len__")) (Mo (name:=MB "__len__") hm.typeIs F.slot_dict_len
  (call_meetsIn F.slot_dict_len hm.typeIs F.entry_dict_len (F.args_dict_len_1 _) (nh knd d hd) ⟨xs,hm,?_⟩))
 show Lm _ _ _ _ _ { s with toks:=s.toks+1 };refine KE (Mp (K7 ?_));refine KE (Oq ?_);show Lm _ _ (if((xs.length:Nat):Int)<0 then _ else _) _ _ _;rw[LB (by lia)];show Lm _ _ (if((xs.length:Nat):Int)>=2^63 then _ else _) _ _ _;rw[LB (by lia)];exact KE (wpAny_mkInt (K7 ⟨_,rfl,h⟩))
theorem zZ (hd:(d == MJ)=false) (hm:s.heap.DictOfH knd d xs) (hfit:(xs.length:Int) < 2 ^ 63)
  (h:Q (.int xs.length (s.toks+1)) { s with toks:=s.toks+1+1 }):Lm (LJ prog w) A (call (.builtin "len") [.ref d]) Q E s:=
 Calls.call_function_entry kind_len plain_len entry_len (args_len1 _) (AC hd hm hfit h)
theorem mJ:∀ (l:List M0) (h:Int),(l.map (·.hash)).Nodup->(l.filter (·.hash==h)).length<=1
 |[],_,_=>LY _
 |e::r,h,hn=>by
  rw[LA,Nw] at hn;rw[List.filter_cons]
  by_cases q:(e.hash==h)=true
  ·rw[LL q];have q':e.hash=h:=by simpa using q
   have z:r.filter (·.hash==h)=[]:=List.filter_eq_nil_iff.mpr λa ha y=>hn.1 (by
    have y':a.hash=h:=by simpa using y
    rw[q',<- y'];exact Md.mpr ⟨a,ha,rfl⟩)
   rw[z];exact Lc _
  ·rw[LB q];exact mJ r h hn.2
theorem wy {id:String}{d:Lg}{o:Obj}{es:Array M0}{ep:Nat}{Q:Array M0->K_->Prop} (ho:s.heap.get? d=some o) (hd:o.data=.dict es ep)
  (hk:∀ e∈es.toList,∃ a,e.key=.ref a/\s.TypeIs (.ref a) "tuple")(hn:(es.toList.map (·.hash)).Nodup)(h:Q es s):Lm (LJ prog w) A (QH id d) Q E s:=by
 unfold QH;refine KE (MR ho hd ?_);refine KE ?_;rw[<- ML];refine M4 _ (λbA _ s'=>s'=s/\∀ e∈bA,e∈es.toList) _ ?_ ?_ _ _ ⟨rfl,λe q=>q⟩
 ·rintro e bA b s' ⟨rfl,hr⟩;obtain⟨a,ha,hT⟩:=hk e (hr e Lr);have hf:¬ (es.filter (·.hash==e.hash)).size>1:=by
   have z:=mJ es.toList e.hash hn;have z2:(es.filter (·.hash==e.hash)).size=(es.toList.filter (·.hash==e.hash)).length:=by
    rw[<- LO,Array.toList_filter]
   lia
  have q:Lm (LJ prog w) A (Tc e.key) (λr s''=>r=false/\s''=s') E s':=by
   rw[ha];unfold Tc;exact KE (NA hT PD.lookup (K7 ⟨by decide,rfl⟩))
  refine KE (Mq q (λr s'' hq=>?_) λ_ _ z=>z);obtain⟨rfl,rfl⟩:=hq;rw[LL (by decide),LB hf];exact K7 ⟨rfl,λe q=>hr e (Le _ q)⟩
 ·rintro b s' ⟨rfl,_⟩;exact K7 h
theorem Bn (hdo:d ≠ o) (hoS:(o == MJ)=false) (hd:s.heap.DictOfH knd d []) (ho:s.heap.DictOfH knd o xs)
  (hT:∀ x∈xs,s.TypeIs (.ref x.2.1) "tuple")(hh:(xs.map λx=>knd.hash x.1).Nodup)(hsz:xs.length<=Ly)(hne0:xs≠[])
  (hQ:∀ h',h'.DictOfH knd d xs->Mz d s.heap h'->Q () { s with heap:=h' }):Lm (LJ prog w) A (Sk nm d o) Q E s:=by
 obtain⟨od,esd,epd,hod,hcd,hdd,hed,hid,hnd⟩:=id hd;obtain⟨oo,eso,epo,hoo,hco,hdo',heo,hio,hno⟩:=id ho;have e0:esd=#[]:=by
  have z:=S0 hed;exact Array.eq_empty_of_size_eq_zero z
 subst e0;have hzo:eso.size=xs.length:=S0 heo;unfold Sk;rw[LB (by simpa using hdo)];unfold OK;rw[LB (by rw[hoS];exact LZ)];refine KE (K7 ?_);refine KE (MR hoo hdo' ?_);dsimp only;cases xs with
 |nil=>exact absurd rfl hne0
 |cons x r=>
  have hfew:(decide (eso.size<=8)&&eso.all λe=>(keyPart e.key).isSome)=false:=by
   have z:(eso.all λe=>(keyPart e.key).isSome)=false:=by
    rw[<- Array.all_toList,heo,LA,RS];rfl
   rw[z,Tl]
  rw[hfew,LL (by decide)];refine KE (MR hod hdd ?_);rw[LL (by decide)];refine KE (wy hoo hdo' (λe q=>?_) ?_ ?_)
  ·rw[heo] at q;obtain⟨y,hy,rfl⟩:=Md.mp q;exact⟨_,rfl,hT y hy⟩
  ·rw[heo,NK];exact hh
  ·have hne:¬ eso.isEmpty=true:=λz=>by
    rw[Array.isEmpty_iff.mp z] at hzo;cases hzo
   rw[LL (by simpa using hne)];have hto:eso.size<=Ly+1:=by lia
   refine KE (wpAny_updateDictKeysTo hod hdd (K7 (hQ _ ⟨_,_,epd+1,MN _ hod (Obj.isFreed_of_dict (Th hdd _)),hcd.mapDictKeys _,
    Th hdd _,heo,λy hy=>knd.keeps (hio y hy) hod hdd (Mc ..),hno⟩ (Mc ..))) hto)
theorem ET (hoS:(o == MJ)=false) (ho:s.heap.DictOfH knd o xs) (hsz:xs.length <= Ly) (hne0:xs ≠ [])
  (hT:∀ x∈xs,s.TypeIs (.ref x.2.1) "tuple")(hh:(xs.map λx=>knd.hash x.1).Nodup)(hpush:∀ x∈xs,knd.is (s.heap.push { cls:=.type "dict",data:=.dict #[] }) x.1 x.2.1)
  (h:∀ h',h'.DictOfH knd s.heap.objs.size xs->Mz s.heap.objs.size (s.heap.push { cls:=.type "dict",data:=.dict #[] }) h'->Q (.ref s.heap.objs.size) { s with heap:=h' }):
  Lm (LJ prog w) A (call (.type "dict") [.ref o]) Q E s:=by
 refine callType_codes (Q₁:=λobj s₁=>obj=.ref s.heap.objs.size/\s₁={ s with heap:=s.heap.push { cls:=.type "dict",data:=.dict #[] } }) F.kt_called_dict (F.kt_typeCall_dict_1 _) F.entry_dict_init (kt_code_dict_new _ ⟨rfl,rfl⟩) ?_;rintro obj s₁ ⟨rfl,rfl⟩;have hnew:(s.heap.push { cls:=.type "dict",data:=.dict #[] }).DictOfH knd s.heap.objs.size []:=Heap.DictOfH.new s.heap;have hdo:s.heap.objs.size≠o:=by
  obtain⟨_,_,_,hg,_⟩:=ho;exact λe=>absurd (Lb hg) (by rw[e];exact L7 _)
 have ho':(s.heap.push { cls:=.type "dict",data:=.dict #[] }).DictOfH knd o xs:=by
  obtain⟨oo,es,ep,h1,h2,h3,h4,h5,h6⟩:=ho;exact⟨oo,es,ep,K6 _ h1,h2,h3,h4,hpush,h6⟩
 refine⟨hnew.typeIs,F.args_dict_init_2 _ _,?_⟩;unfold NU.«dict.__init__»;refine KE ?_;unfold Builtin.Dict.selfAndRest;refine KE (Qu hnew.typeIs ?_);show Lm _ _ (pure (s.heap.objs.size,[LH o])) _ _ _;refine K7 ?_;show Lm _ _ (RO "dict.__init__" s.heap.objs.size (.ref o) [] .none) _ _ _;unfold RO;refine KE (wpAny_typeOf ho'.typeIs ?_);rw[LB (by decide)];refine KE ?_;unfold Builtin.Dict.merge;refine KE ?_;unfold Builtin.Dict.readDirectly;refine KE (NZ ho'.typeIs isSubtype_dict_dict ?_);simp only[MP,Li,Mb];refine KE (NA ho'.typeIs Sc.lookup (K7 ?_));simp only[Pk,Nz];refine KE (K7 ?_);refine Bn hdo hoS hnew ho' (λx hx=>?_) hh hsz hne0 λh' hd' hs'=>?_
 ·obtain⟨oo,e,c⟩:=hT x hx;exact⟨oo,K6 _ e,c⟩
 show Lm _ _ (Builtin.Dict.addKeywords s.heap.objs.size []>>=_) _ _ _;exact KE (K7 (K7 ⟨rfl,h h' hd' hs'⟩))
end
end PySem
namespace TR
open PySem PySem.Spec PyProof.Rows L2
section
variable {X:Cx}
theorem AW:cy X (.builtin "len") (λxs H Q=>∃ p kvs,xs=[.ref p]/\Rd H p (.dT kvs)/\Q (.int kvs.length) H):=by
 intro pins s σ H xs us Q I r h;obtain⟨p,kvs,rfl,e,q⟩:=h;obtain⟨u,rfl,rx⟩:=fk r;cases rx;obtain⟨z,hd,vs,rel,dd⟩:=rB I.hok e;have hn:=kg;have hl:kvs.length=vs.length:=rel.length;exact zZ hd dd (by lia) ⟨.int kvs.length,H,I.tok _,⟨_,by rw[hl]⟩,q⟩
end
def C9 (kvs:List (List eK×V)):Prop:=∀ (P:Lz) (w:LX),(kvs.map λkv=>(OR (bh P w)).hash kv.1).Nodup
section
variable {X:Cx}
theorem E3 (r:L2.KT H kvs xs) :
  (kvs.map λkv=>(OR (bh P w)).hash kv.1)=xs.map λx=>(OR (bh P w)).hash x.1:=by
 induction r with
 |nil=>rfl
 |cons h t ih=>rw[LA,LA,ih,h.1]
theorem E7 (r:L2.KT H kvs xs):∀ x∈xs,H x.2.1=some (.tup (x.1.map kV)):=by
 induction r with
 |nil=>intro x hx;exact nomatch hx
 |@cons p q ps qs h t ih=>
  intro x hx;rcases Ln.mp hx with rfl|hx
  ·rw[<- h.1];exact h.2.1
  ·exact ih x hx
theorem xJ:cy X (.type "dict") (λxs H Q=>∃ p kvs,xs=[.ref p]/\Rd H p (.dT kvs)/\kvs≠[]/\C9 kvs/\∀ a,H a=none->Q (.ref a) (upd H a (.dT kvs))):=by
 intro pins s σ H xs us Q I r h;obtain⟨p,kvs,rfl,e,hne,hh,q⟩:=h;obtain⟨u,rfl,rx⟩:=fk r;cases rx;obtain⟨z,hd,vs,rel,dd⟩:=rB I.hok e;have hl:kvs.length=vs.length:=rel.length;have hk:=E7 rel;have is0:∀ x∈vs,(OR (bh X.prog X.w)).is s.heap x.1 x.2.1:=λx hx=>p9 I.hok (hk x hx)
 refine ET hd dd (by lia) (λz0=>?_) (λx hx=>(is0 x hx).typeIs) (by rw[<- E3 rel];exact hh _ _) (λx hx=>?_) λh' hm hs=>?_
 ·rw[z0] at hl;exact hne (RT.mp hl)
 ·obtain⟨o,its,n,h1,h2,h3,h4⟩:=is0 x hx;exact⟨o,its,n,K6 _ h1,h2,h3,h4⟩
 ·have kk:∀ b u,s.heap.get? b=some u->h'.get? b=some u:=λb u e=>(hs.2 b (Lp (Lb e))).trans (K6 _ e)
  obtain⟨oo,es,ep,g1,g2,g3,g4,g5,g6⟩:=hm;have fr:=I.hok.fresh (Lc s.heap.objs.size);refine⟨.ref s.heap.objs.size,_,I.laid (a:=s.heap.objs.size) (o:=.dT kvs) (t':=s.toks) kk (Lc _) ⟨z,M6.mpr (NF (Lp I.big)),vs,?_,oo,es,ep,g1,g2,g3,g4,g6⟩,rfl,q _ fr⟩;exact Paired.mapP rel λa b c=>⟨c.1,by rw[aq (aJ c.2.1 fr)];exact c.2.1,c.2.2⟩
end
def cE (t:Nat×Nat×Nat):List eK:=[.inl (t.1:Int),.inl (t.2.1:Int),.inl (t.2.2:Int)]
def aW (k:Nat):List (Nat×Nat×Nat):=(L0 k).flatMap λa=>(L0 k).flatMap λb=>(L0 k).map λc=>(a,b,c)
def oQ (t:Nat×Nat×Nat):Int:=reduceHash (MH [hashInt (t.1:Int),hashInt (t.2.1:Int),hashInt (t.2.2:Int)])
theorem BF (P:Lz)(w:LX)(t:Nat×Nat×Nat):(OR (bh P w)).hash (cE t)=oQ t:=by
 show OQ (bh P w) (cE t)=oQ t;unfold OQ cE oQ;simp only[LA,NL];rfl
set_option maxRecDepth 1000000 in
theorem Ed:((aW 7).map oQ).Nodup:=by decide +kernel
theorem Ft:∀ {l:List α},(l.map f).Nodup->∀ {a b:α},a∈l->b∈l->f a=f b->a=b
 |[],_,_,_,h,_,_=>nomatch h
 |x::r,hn,a,b,ha,hb,e=>by
  rw[LA,Nw] at hn;rcases Ln.mp ha with za|ha
  ·rcases Ln.mp hb with zb|hb
   ·rw[za,zb]
   ·exact absurd (Md.mpr ⟨b,hb,by rw[<- e,za]⟩) hn.1
  ·rcases Ln.mp hb with zb|hb
   ·exact absurd (Md.mpr ⟨a,ha,by rw[e,zb]⟩) hn.1
   ·exact Ft hn.2 ha hb e
theorem bV {k:Nat}:t∈aW k↔t.1<k/\t.2.1<k/\t.2.2<k:=by
 obtain⟨a,b,c⟩:=t;unfold aW;simp only[Ot,Md,M1,T1];constructor
 ·rintro⟨x,hx,y,hy,z,hz,rfl,rfl,rfl⟩;exact⟨hx,hy,hz⟩
 ·rintro⟨hx,hy,hz⟩;exact⟨a,hx,b,hy,c,hz,rfl,rfl,rfl⟩
theorem Ab (ht:t∈aW 7)(hu:u∈aW 7)(e:oQ t=oQ u):t=u:=Ft Ed ht hu e
theorem C6 {h:List eK->Int}{g:Nat×Nat×Nat->Int}(hg:∀ t,h (cE t)=g t):∀ {kvs:List (List eK×V)}{ts:List (Nat×Nat×Nat)},kvs.map (·.1)=ts.map cE->(kvs.map λkv=>h kv.1)=ts.map g
 |[],[],_=>rfl
 |[],_::_,e=>nomatch e
 |_::_,[],e=>nomatch e
 |p::r,t::q,e=>by
  rw[LA,LA] at e;injection e with e1 e2
  rw[LA,LA,C6 hg e2,e1,hg]
theorem vO {g:Nat×Nat×Nat->Int}{l:List (Nat×Nat×Nat)}(hg:∀ {t u},t∈l->u∈l->g t=g u->t=u):∀ {ts:List (Nat×Nat×Nat)},ts.Nodup->(∀ t∈ts,t∈l)->(ts.map g).Nodup
 |[],_,_=>List.nodup_nil
 |t::r,hn,hb=>by
  rw[Nw] at hn;rw[LA,Nw];refine⟨λz=>?_,vO hg hn.2 λu hu=>hb u (Le _ hu)⟩;obtain⟨u,hu,e⟩:=Md.mp z;have:=hg (hb u (Le _ hu)) (hb t Lr) e;exact hn.1 (this▸hu)
theorem Ej {h:List eK->Int}{g:Nat × Nat × Nat->Int}{l:List (Nat × Nat × Nat)} (h1:∀ t,h (cE t)=g t) (h2:∀ {t u},t ∈ l->u ∈ l->g t=g u->t=u) {kvs:List (List eK × V)}{ts:List (Nat × Nat × Nat)}
  (hk:kvs.map (·.1)=ts.map cE)(hn:ts.Nodup)(hb:∀ t∈ts,t∈l):(kvs.map λkv=>h kv.1).Nodup:=by
 rw[C6 h1 hk];exact vO h2 hn hb
theorem vv {kvs:List (List eK×V)}{ts:List (Nat×Nat×Nat)}(hk:kvs.map (·.1)=ts.map cE)(hn:ts.Nodup)(hb:∀ t∈ts,t∈aW 7):C9 kvs:=
 λP w=>Ej (h:=(OR (bh P w)).hash) (g:=oQ) (l:=aW 7) (BF P w) Ab hk hn hb
end TR
namespace PySem
def Heap.RawD (h:Ng)(d:Lg)(es:Array M0)(ep:Nat):Prop:=∃ o,h.get? d=some o/\o.ExactDict/\o.data=.dict es ep
section
variable {prog:Lz}{w:LX}{A:L9}{E:K9->K_->Prop}{s:K_}{d v:Lg}{es:Array M0}{ep:Nat}
theorem Heap.RawD.typeIs (hm:s.heap.RawD d es ep):s.TypeIs (.ref d) "dict":=by obtain⟨o,ho,hc,_⟩:=hm;exact⟨o,ho,hc.1⟩
theorem Heap.RawD.of {K:Type}[DecidableEq K]{knd:UZ prog w K}{xs:List (K×Lg×K9)}(hm:s.heap.DictOfH knd d xs):∃ es ep,s.heap.RawD d es ep/\es.toList=xs.map (S8 knd):=by
 obtain⟨o,es,ep,h1,h2,h3,h4,_⟩:=hm;exact⟨es,ep,⟨o,h1,h2,h3⟩,h4⟩
theorem zr (d:Lg) (hd:(d == MJ)=false) :
  MeetsIn prog w (NU.«dict.items» ⟨[.ref d],[]⟩) (λ_ R s=>(∃ es ep,s.heap.RawD d es ep) /\
   R (.ok (.ret (.ref s.heap.objs.size))) { s with heap:=s.heap.push { cls:=.type "dict_items",data:=.fields #[.ref d] } }):=
 .of_wp λA R s ⟨⟨es,ep,hm⟩,h⟩=>by
  unfold NU.«dict.items» Builtin.Dict.noArgs;refine KE (KE (Qu hm.typeIs (K7 ?_)));unfold OK;rw[LB (by rw[hd];exact LZ)];exact KE (K7 (KE (Ml (K7 ⟨_,rfl,h⟩))))
theorem Db (hv:s.heap.IsItemsView v d) (hm:s.heap.RawD d es ep)
  (hQ:Q (.ref s.heap.objs.size) { s with heap:=s.heap.push { cls:=.type "dict_itemiterator",data:=.fields #[.none,.bool false,.ref d,.int 0 0,.int es.size 0,.int ep 0,.none,.none] } }):
  Lm (LJ prog w) A (UR (.ref v)) Q E s:=by
 obtain⟨ov,hov,hcv,hdv⟩:=id hv;obtain⟨o,ho,hc,hdat⟩:=id hm;refine wpAny_pyIter_slot hv.typeIs Sn (MG Sn hv.typeIs F.entry_dict_items_iter ?_ (F.args_dict_items_iter_1 _));unfold NU.«dict_items.__iter__» U_ UD;refine KE (K7 (KE (KE (M7 hov hdv (x:=.ref d) rfl (K7 ?_)))));refine KE (KE (MR ho hdat (KE (OS ho hdat ?_))));have hown:Nb "dict_itemiterator"=true:=by decide
 simp only[hown,Nz];refine Ml (K7 ⟨_,rfl,"dict_itemiterator",_,⟨_,Ld _ rfl,rfl⟩,M3.lookup,?_⟩)
  (by simp only[sizeOk,Pl,Lh,LC,LK,QU,Nk];lia)
 simpa [QD,Pl] using hQ
end
section
variable {prog:Lz}{w:LX}{A:L9}{E:K9->K_->Prop}{s:K_}{d it:Lg}{es:Array M0}{i ep:Nat}{ok ov:K9}
theorem EX (hh:A.handled=none) (hit:P4 s.heap it d i es.size ep ok ov) (hm:s.heap.RawD d es ep) (hx:es.size <= i)
  (hQ:∀ h',RQ it s.heap h'->Q none { s with heap:=h' }):Lm (LJ prog w) A (Pw (.ref it)) Q E s:=by
 obtain⟨od,hod,hcd,hdd⟩:=id hm;have hT:s.TypeIs (.ref it) "dict_itemiterator":=⟨_,hit,rfl⟩
 have hown:Nb "dict_itemiterator"=true:=by decide
 unfold Pw;refine KE (OX (Mo (name:=MB "__next__") hT M3
  (MG M3 hT Ql ?_ (P3 _))))
 refine KE (K7 (KE (KE ?_)))
 first|refine KE (NB hT (K7 ?_))|refine KE (N3 hT (K7 ?_))
 refine KE (Ru hit rfl ?_);simp only[hown,Nz];show Lm _ _ (if(LH d==Ma)=true then _ else _) _ _ s;rw[LB (show ¬ ((LH d==Ma)=true) from LZ)];refine KE (K7 (KE (MR hod hdd ?_)));rw[LB (by simp)];refine KE (K7 (KE (OS hod hdd ?_)));rw[LB (by simp)];refine K7 ?_;simp only[show ¬ ((i:Int)<0) from by lia,Mb,MI,PZ hx];refine KE ?_
 first|refine KE (NB hT (K7 ?_))|refine KE (N3 hT (K7 ?_))
 show Lm _ _ (setField (.ref it) 2 .none>>=_) _ _ s;refine KE (Qi hit rfl (by simp) ?_);show Lm _ _ (newExc (.type "StopIteration") []>>=_) _ _ _;refine KE ?_;simp only[newExc,newTuple];refine KE (Ml ?_ (by size_fits));refine KE (m:=Pb _ _) (R_ (a:=Ma) (by first|rfl|(simp only[Pb];rfl)) ?_);refine Ml ?_ (by size_fits);simp only[raiseNew];refine KE (Uc ?_);rw[show A.in1.handled=none from hh];refine KE (K7 (wpAny_throw ?_));refine KE (NZ (T:="StopIteration") (b:=true) ⟨_,Ld _ rfl,rfl⟩ Tq ?_);exact K7 (hQ _ (((Mc ..).extBut.push _).push _))
theorem CT (hit:P4 s.heap it d i es.size ep ok ov) (hm:s.heap.RawD d es ep) (hx:es[i]?=some e)
  (hQ:∀ h',TW h' it d (i+1) es.size ep e.key e.val s.heap.objs.size->h'.get? s.heap.objs.size=some { cls:=.type "tuple",data:=.seq #[e.key,e.val] }->h'.objs.size=s.heap.objs.size+1 ->
   (∀ b o,b≠it->s.heap.get? b=some o->h'.get? b=some o)->Q (some (.ref s.heap.objs.size)) { s with heap:=h' }):Lm (LJ prog w) A (Pw (.ref it)) Q E s:=by
 obtain⟨hp,g,dr,tk,os⟩:=s;obtain⟨od,hod,hcd,hdd⟩:=id hm;have hT:T7 ⟨hp,g,dr,tk,os⟩ (.ref it) "dict_itemiterator":=⟨_,hit,rfl⟩
 have hown:Nb "dict_itemiterator"=true:=by decide
 unfold Pw;refine KE (OX (Mo (name:=MB "__next__") hT M3
  (MG M3 hT Ql ?_ (P3 _))))
 refine KE (K7 (KE (KE ?_)))
 first|refine KE (NB hT (K7 ?_))|refine KE (N3 hT (K7 ?_))
 refine KE (Ru hit rfl ?_);simp only[hown,Nz];show Lm _ _ (if(LH d==Ma)=true then _ else _) _ _ _;rw[LB (show ¬ ((LH d==Ma)=true) from LZ)];refine KE (K7 (KE (MR hod hdd ?_)));rw[LB (by simp)];refine KE (K7 (KE (OS hod hdd ?_)));rw[LB (by simp)];refine K7 ?_;simp only[show ¬ ((i:Int)<0) from by lia,Mb,MI,hx];refine KE ?_
 first|refine KE (NB hT (K7 ?_))|refine KE (N3 hT (K7 ?_))
 refine KE (P2 hT ?_);show Lm _ _ (setField (.ref it) 3 (QD ((i:Int)+1))>>=_) _ _ ⟨hp,g,dr,tk,os⟩;refine KE (Mx hit (by simp) λh₁ he₁ hs₁=>?_);replace hs₁:Mz it hp h₁:=hs₁;replace he₁:P4 h₁ it d (i+1) es.size ep ok ov:=by
  have e:((i+1:Nat):Int)=(i:Int)+1:=by lia
  unfold P4;rw[e];simpa [QD] using he₁
 have hT₁:T7 ⟨h₁,g,dr,tk,os⟩ (.ref it) "dict_itemiterator":=⟨_,he₁,rfl⟩
 refine KE (Mp (KE (P2 hT₁ (KE (P2 hT₁ ?_)))));show Lm _ _ (PY (.ref it) 6 e.key e.val) _ _ ⟨h₁,g,dr,tk,os⟩;unfold PY;refine KE (Tr ?_);have hz₁:h₁.objs.size=hp.objs.size:=hs₁.1;have hil:it<hp.objs.size:=Lb hit;have up:∀ b o,b≠it->hp.get? b=some o->(h₁.push { cls:=.type "tuple",data:=.seq #[e.key,e.val] }).get? b=some o:=λb o hb q=>K6 _ (hs₁.extBut b o hb q)
 have he₂:P4 (h₁.push { cls:=.type "tuple",data:=.seq #[e.key,e.val] }) it d (i+1) es.size ep ok ov:=K6 _ he₁;have ht₂:(h₁.push { cls:=.type "tuple",data:=.seq #[e.key,e.val] }).get? hp.objs.size=some { cls:=.type "tuple",data:=.seq #[e.key,e.val] }:=by rw[<- hz₁];exact Ld _ rfl
 have hz₂:(h₁.push { cls:=.type "tuple",data:=.seq #[e.key,e.val] }).objs.size=hp.objs.size+1:=by rw[Mw,hz₁]
 rw[hz₁];generalize h₁.push { cls:=.type "tuple",data:=.seq #[e.key,e.val] }=h₂ at up he₂ ht₂ hz₂ ⊢;show Lm _ _ (Pm (.ref it)>>=_) _ _ ⟨h₂,g,dr,tk,os⟩;clear he₁ hs₁ hT₁ hz₁ h₁;refine KE ?_;unfold Pm;refine KE (M7 he₂ rfl (x:=.none) rfl (K7 ?_));simp only[Nz];refine KE (M7 he₂ rfl (x:=ok) rfl (KE (M7 he₂ rfl (x:=ov) rfl ?_)));refine KE (Mx he₂ (by simp) λh₃ he₃ hs₃=>?_);replace hs₃:Mz it h₂ h₃:=hs₃;replace he₃:P4 h₃ it d (i+1) es.size ep e.key ov:=he₃;refine KE (Mx he₃ (by simp) λh₄ he₄ hs₄=>?_);replace hs₄:Mz it h₃ h₄:=hs₄;replace he₄:P4 h₄ it d (i+1) es.size ep e.key e.val:=he₄;refine KE (Mx he₄ (by simp) λh₅ he₅ hs₅=>?_);replace hs₅:Mz it h₄ h₅:=hs₅;replace he₅:TW h₅ it d (i+1) es.size ep e.key e.val hp.objs.size:=he₅;refine KE (Mx he₅ (by simp) λh₆ he₆ hs₆=>?_);replace hs₆:Mz it h₅ h₆:=hs₆;replace he₆:TW h₆ it d (i+1) es.size ep e.key e.val hp.objs.size:=he₆;have all:∀ b o,b≠it->h₂.get? b=some o->h₆.get? b=some o:=λb o hb q=>hs₆.extBut b o hb (hs₅.extBut b o hb (hs₄.extBut b o hb (hs₃.extBut b o hb q)))
 refine KE (Oq (K7 (K7 ⟨_,rfl,K7 (hQ h₆ he₆ (all _ _ (Ny hil) ht₂) ?_ λb o hb q=>all b o hb (up b o hb q))⟩)));show h₆.objs.size=hp.objs.size+1;rw[hs₆.1,hs₅.1,hs₄.1,hs₃.1,hz₂]
end
end PySem
namespace TR
open PySem PySem.Spec PyProof.Rows L2
section
variable {X:Cx}{pins:List (Lg×Obj)}{σ:L2.St}{H:Hp}{s:K_}{d:Lg}{u u':HO}
theorem vE (I:aD X pins σ H s)(e:H d=some u)(nt:∀ xs,u≠.tup xs)(no:∀ x,u≠.own x)(ntb:∀ ps,u≠.tbl ps)(nf:∀ o w,X.H₀ d≠some (.frz o w))(new:bv X.prog X.w (upd H d u') s.heap d u'):aD X pins σ (upd H d u') s:=by
 have ne:∀ b,H b=none->b≠d:=λb z q=>by rw[q,e] at z;cases z
 have fr:∀ b,H b=none->upd H d u' b=none:=λb z=>by rw[aq (ne b z)];exact z
 refine⟨I.ok,I.os,I.bare,⟨I.base.keep,I.base.slot,λb o q n hx=>fr b (I.base.free b o q n hx),I.base.there,λb xs q=>?_,λb o w q=>?_,λb ps q=>?_⟩,I.loc,I.cell,fr _ I.free,λx c q=>fr _ (I.freeC x c q),λp hp=>?_,λb o q=>?_,I.len⟩
 ·have z:=I.base.tups b xs q;rw[aq (λk=>nt xs (by rw[k,e] at z;exact K8 z))];exact z
 ·have z:=I.base.frzs b o w q;rw[aq (λk=>nf o w (by rw[<- k];exact q))];exact z
 ·obtain⟨more,z⟩:=I.base.tbls b ps q;exact⟨more,by rw[aq (λk=>ntb _ (by rw[k,e] at z;exact K8 z))];exact z⟩
 ·obtain⟨a1,a2,a3⟩:=I.pin p hp;exact⟨a1,fr _ a2,a3⟩
 ·by_cases hb:b=d
  ·subst hb;rw[ae] at q;cases q;exact new
  ·rw[aq hb] at q;refine(I.hok b o q).stay (λ_ _ _ z=>z) (λc z=>?_) λc xs z=>?_
   ·rw[aq (λk=>no b (by rw[k,e] at z;exact K8 z))];exact z
   ·rw[aq (λk=>nt xs (by rw[k,e] at z;exact K8 z))];exact z
theorem xL (I:aD X pins σ H s)(e:H d=some (.dT kvs)):∃ o,s.heap.get? d=some o/\aD X pins σ (upd H d (.frz o (.dT kvs))) s:=by
 have ok:=I.hok d _ e;obtain⟨_,_,_,_,o,es,ep,g1,_⟩:=id ok;refine⟨o,g1,vE I e (λ_ z=>nomatch z) (λ_ z=>nomatch z) (λ_ z=>nomatch z) (λob w z=>?_) ⟨g1,?_⟩⟩
 ·have:=I.base.frzs d ob w z;rw[e] at this;cases this
 ·exact(show bv X.prog X.w H s.heap d (.dT kvs) from ok).stay (λ_ _ _ z=>z) (λc z=>by
   by_cases k:c=d
   ·rw[k,e] at z;cases z
   ·rw[aq k];exact z) λc xs z=>by
   by_cases k:c=d
   ·rw[k,e] at z;cases z
   ·rw[aq k];exact z
theorem Ca (I:aD X pins σ H s)(e:H d=some (.frz o (.dT kvs)))(nf:∀ o w,X.H₀ d≠some (.frz o w)):aD X pins σ (upd H d (.dT kvs)) s:=by
 have ok:=I.hok d _ e;obtain⟨_,ok⟩:=(show s.heap.get? d=some o/\bv X.prog X.w H s.heap d (.dT kvs) from ok)
 refine vE I e (λ_ z=>nomatch z) (λ_ z=>nomatch z) (λ_ z=>nomatch z) nf (ok.stay (λ_ _ _ z=>z) (λc z=>?_) λc xs z=>?_)
 ·by_cases k:c=d
  ·rw[k,e] at z;cases z
  ·rw[aq k];exact z
 ·by_cases k:c=d
  ·rw[k,e] at z;cases z
  ·rw[aq k];exact z
end
section
variable {X:Cx}
def I9 (t:TE):TE:=λσ H Q=>t σ H λv H'=>∃ d o kvs,H d=some (.dT kvs)/\H' d=some (.frz o (.dT kvs))/\Q v (upd H' d (.dT kvs))
theorem Dz (h:WE X e t):WE X e (I9 t):=by
 have h:=h.go;refine⟨?_⟩;intro pins s σ H Q I q;refine bP (h pins s σ H _ I q) λu s1 h1=>?_
 obtain⟨v,H1,I1,r1,d,o,kvs,e0,e1,q1⟩:=h1;exact⟨v,_,Ca I1 e1 λo w z=>(by
  have:=I.base.frzs d o w z;rw[e0] at this;cases this),r1,q1⟩
end
def JM (d:Lg)(o:Obj)(kvs:List (List eK×V)):It:=
 ⟨λi H=>H d=some (.frz o (.dT kvs))/\i<kvs.length,
  λi H v H'=>∃ (k:List eK) (x:V) (ka T:Lg),kvs[i]?=some (k,x)/\H ka=some (.tup (k.map kV))/\H T=none/\v=.ref T/\H'=upd H T (.tup [.ref ka,x]),
  λi H=>H d=some (.frz o (.dT kvs))/\kvs.length<=i⟩
theorem lU:∀ {l₁:List α}{l₂:List β}{i:Nat}{a:α},Ra F l₁ l₂->l₁[i]?=some a->∃ b,l₂[i]?=some b/\F a b
 |_,_,_,_,.nil,e=>by simp at e
 |_,_,0,_,.cons r _,e=>by simp at e;subst e;exact⟨_,rfl,r⟩
 |_,_,i+1,x,.cons _ t,e=>by
  obtain⟨u,h1,h2⟩:=lU (i:=i) (a:=x) t (by simpa using e);exact⟨u,by simpa using h1,h2⟩
theorem zl {ep:Nat} (hd:o.data=.dict es ep) (ok:bv P w H h d (.frz o (.dT kvs))) :
  h.RawD d es ep/\es.size=kvs.length/\∀ (i:Nat) (k:List eK) (x:V),kvs[i]?=some (k,x)->∃ (e:M0) (ka:Lg) (u:K9),es[i]?=some e/\e.key=.ref ka/\e.val=u/\H ka=some (.tup (k.map kV))/\aY x u:=by
 obtain⟨g1,_,_,xs,pr,o',es',ep',g2,ex,dd,ee,_⟩:=ok;rw[g1] at g2;cases g2;rw[hd] at dd;cases dd;refine⟨⟨_,g1,ex,hd⟩,?_,λi k x hx=>?_⟩
 ·have z:=NE P7 ee;rw[K',LO] at z;rw[z];exact pr.length.symm
 ·obtain⟨⟨k',ka,u⟩,h1,h2,h3,h4⟩:=lU pr hx;refine⟨S8 (OR (bh P w)) (k',ka,u),ka,u,?_,rfl,rfl,h3,h4⟩;rw[<- Nt,ee,Lk,h1];rfl
theorem w_ {P:Lz}{w:LX}{K:HD}{elts:List Nq}{tk:Nat}{pos:Pos}{it d:Lg}{o:Obj}{kvs:List (List eK × V)}{es:Array M0}{ep:Nat} (hd:o.data=.dict es ep) :
  um P w K (.Tuple elts tk pos) (JM d o kvs) [it] it (λi h=>∃ ok ov,P4 h it d i es.size ep ok ov) where
 mem:=by simp
 obj:=λi h st b hb=>by
  obtain⟨ok,ov,e⟩:=st;cases Lo.mp hb;exact⟨_,e,λv z=>nomatch z⟩
 keep:=λi h h' st k=>by
  obtain⟨ok,ov,e⟩:=st;exact⟨ok,ov,k it (by simp) _ e⟩
 item:=by
  intro X hP hw hK hc i pins s σ H E I hf st hg;subst hP hw hK;obtain⟨ok,ov,hit⟩:=st;obtain⟨hH,hi⟩:=hg;obtain⟨raw,hsz,at_⟩:=zl hd (I.hok d _ hH);obtain⟨e,ka,u,e1,e2,e3,e4,e5⟩:=at_ i _ _ (LS hi);refine CT hit raw e1 λh' hit' hT hz kk=>⟨_,rfl,?_⟩
  refine wpAny_letOwnedTupleGo_items hit' λg' z' sb=>?_
  have nit:it<s.heap.objs.size:=Lb hit;have tz:s.heap.objs.size≠it:=Ny nit;have k2:∀ b o,b≠it->s.heap.get? b=some o->g'.get? b=some o:=λb o hb e=>sb.extBut b o hb (kk b o hb e)
  have fit:=hf it (by simp);have I1:aD X pins σ H { s with heap:=g' }:=I.turned (it:=it) (t':=s.toks) k2 fit.1 fit.2.1 fit.2.2.2.1 fit.2.2.2.2.1 fit.2.2.2.2.2;have hT':g'.get? s.heap.objs.size=some { cls:=.type "tuple",data:=.seq #[e.key,e.val] }:=sb.extBut _ _ tz hT;have fT:H s.heap.objs.size=none:=I.hok.fresh (Lc _);have F:=I.fpOk (b:=s.heap.objs.size) (H':=H) (Lc _) fT;have I2:aD X pins σ (upd H s.heap.objs.size (.tup [.ref ka,kvs[i].2])) { s with heap:=g' }:=l6 I1 fT I.sz F.2.1 F.2.2.2.2.1 F.2.2.2.2.2
   ⟨by show 2<=Ly;decide,[e.key,e.val],.cons (by rw[e2];rfl) (.cons (by rw[e3];exact e5) .nil),⟨_,hT',rfl,_,rfl⟩⟩
  exact⟨.ref s.heap.objs.size,_,I2,rfl,⟨kvs[i].1,kvs[i].2,ka,s.heap.objs.size,LS hi,e4,fT,rfl,rfl⟩,⟨_,_,z'⟩,λb hb=>by
   cases Lo.mp hb;rw[aq (NF tz)];exact fit.1⟩
 done:=by
  intro X hP hw hK hc i pins s σ H E I hf st hg;subst hP hw hK;obtain⟨ok,ov,hit⟩:=st;obtain⟨hH,hi⟩:=hg;obtain⟨raw,hsz,_⟩:=zl hd (I.hok d _ hH);have fit:=hf it (by simp);exact EX (I.ok.hd hc) hit raw (by lia) λh' ex=>⟨rfl,I.turned (it:=it) (t':=s.toks) (λb o hb e=>ex b o hb e) fit.1 fit.2.1 fit.2.2.2.1 fit.2.2.2.2.1 fit.2.2.2.2.2⟩
 self:=λ_ _ _ _ _ st h=>by
  obtain⟨ok,ov,hit⟩:=st;exact PySem.W.kcp_self hit h
section
variable {X:Cx}
def Gj (to:TE):TI:=λσ H R=>to σ H λx H1=>∃ d kvs,x=.ref d/\H1 d=some (.dT kvs)/\∀ o,R (JM d o kvs) (upd H1 d (.frz o (.dT kvs)))
theorem zu {o:Nq}{to:TE}{apos cpos tpos:Pos}{elts:List Nq}{tk:Nat} (ho:WE X o to)
  (hbase:R1 o "items" X.env (O7 o X.env)=O7 o X.env:=by rfl)(hline:(apos.endLine==cpos.line)=true:=by rfl):WI X (.Tuple elts tk tpos) (.Call (.Attribute o "items" apos) [] [] cpos) (Gj to):=by
 have ho:=ho.go;refine⟨?_⟩;intro pins s σ H R I h;refine wpAny_Call_method0_late hbase hline (bP (ho pins s σ H _ I h) λv s1 ⟨x,H1,I1,r1,q1⟩=>?_);obtain⟨d,kvs,rfl,hH,q⟩:=q1;obtain⟨h1,h2⟩:=CV (T:="dict") I1 r1 (.inr (.inr (.inl ⟨rfl,.inr ⟨kvs,hH⟩⟩)));cases r1;refine⟨"dict","dict.items",PySem.F.plainAttrs_dict,RX,PySem.F.type_dict_items,h1,h2,Sl rfl (PySem.evalArgs_none ?_)⟩;obtain⟨z,hd,vs,rel,dd⟩:=rB I1.hok (.inl hH);obtain⟨es,ep,raw,hes⟩:=Heap.RawD.of dd;refine call_meetsIn RX h1 PySem.F.entry_dict_items (PySem.F.args_dict_items_1 _) (zr d hd) ⟨⟨es,ep,raw⟩,?_⟩;obtain⟨ob,g1,I2⟩:=xL I1 hH;obtain⟨o',g1',_,gd⟩:=id raw;rw[g1] at g1';cases g1';have k1:∀ b u,s1.heap.get? b=some u->(s1.heap.push { cls:=.type "dict_items",data:=.fields #[.ref d] }).get? b=some u:=λb u e=>K6 _ e
 have I3:=I2.kept (t':=s1.toks) k1;have raw3:(s1.heap.push { cls:=.type "dict_items",data:=.fields #[.ref d] }).RawD d es ep:=by
  obtain⟨o',a1,a2,a3⟩:=raw;exact⟨o',k1 _ _ a1,a2,a3⟩
 have hv:(s1.heap.push { cls:=.type "dict_items",data:=.fields #[.ref d] }).IsItemsView s1.heap.objs.size d:=⟨_,Ld _ rfl,rfl,rfl⟩
 refine Db (s:={ s1 with heap:=s1.heap.push { cls:=.type "dict_items",data:=.fields #[.ref d] } }) hv raw3 ?_;generalize s1.heap.push { cls:=.type "dict_items",data:=.fields #[.ref d] }=g at I3 raw3 hv ⊢;refine⟨g.objs.size,[g.objs.size],_,_,_,rfl,I3.kept (t':=s1.toks) λb u e=>K6 _ e,w_ gd,⟨_,_,Ld _ rfl⟩,λb hb=>?_,q ob⟩;cases Lo.mp hb;exact I3.fpOk (Lc _) (I3.hok.fresh (Lc _))
end
end TR
namespace TR
open PySem PySem.Spec PyProof.Rows
def on (n:Nat):List Int:=(L0 n).map λ(i:Nat)=>(i:Int)
theorem yg {n i:Nat}(h:i<n):(on n)[i]?=some (i:Int):=by unfold on;simp[h]
theorem gh (n:Nat):(on n).length=n:=by unfold on;simp
theorem BL {n:Nat}(hl:vs.length=n)(h:∀ (i:Nat) (v:K9),vs[i]?=some v->∃ t,v=PU (i:Int) t):Nu vs (on n):=by
 have go:∀ (vs:List K9) (k:Nat),(∀ (i:Nat) (v:K9),vs[i]?=some v->∃ t,v=PU ((k+i:Nat):Int) t)->Nu vs ((List.range' k vs.length).map λ(i:Nat)=>(i:Int)):=by
  intro vs
  induction vs with
  |nil=>intro k _;exact .nil
  |cons v vs ih=>
   intro k h;obtain⟨t,e⟩:=h 0 v rfl;subst e;rw[LK,List.range'_succ,LA];refine .cons _ t (ih (k+1) λi v hv=>?_);obtain⟨t',e⟩:=h (i+1) v (by simpa using hv);exact⟨t',by rw[e];congr 1;lia⟩
 have:=go vs 0 λi v hv=>by simpa using h i v hv
 rw[<- List.range_eq_range',hl] at this;exact this
section
variable {prog:Lz}{w:LX}{A:L9}{E:K9->K_->Prop}{s:K_}
theorem uk {n:Nat} (hh:A.handled=none) (hr:IsRange s.heap r 0 n 1 t u v) (hl:n <= 1000)
  (h:∀ vs h' tk,Nu vs (on n)->(∀ b o,s.heap.get? b=some o->h'.get? b=some o)->s.heap.objs.size<h'.objs.size->Q vs { s with heap:=h',toks:=tk }):
  Lm (LJ prog w) A (collect (.ref r)) Q E s:=by
 have key:∀ R:U7->K_->Prop,(∀ h' tk acc' c',(∀ b o,b ≠ s.heap.objs.size->(s.heap.push (MU "list" #[] 0)).get? b=some o->h'.get? b=some o)->h'.get? s.heap.objs.size=some { cls:=.type "list",dict:=none,data:=.seq acc' c',slots:=#[] } ->
   ItemsOf (λi v=>∃ t,v=.int (0+i*1) t) acc' n->R (.ok (.ret (.ref s.heap.objs.size))) { s with heap:=h',toks:=tk }) ->
   Oo (LJ prog w) A (.builtin "list.__iadd__" ⟨[.ref s.heap.objs.size,.ref r],[]⟩) R { s with heap:=s.heap.push (MU "list" #[] 0) }:=λR hR=>by
  refine M2 entry_list_iadd' ?_;rw[MK F.plain_list_iadd _];show Lm _ _ (Builtin.List.listExtendWith (.ref s.heap.objs.size) (.ref r) (.ref s.heap.objs.size)) _ _ { s with heap:=s.heap.push (MU "list" #[] 0) };refine wpAny_extend_range (R:=R) (s:={ s with heap:=s.heap.push (MU "list" #[] 0) }) hh (K6 _ hr) (small_one (a:=0) (b:=n) (by lia) (by lia) (by lia) (by lia)) (n:=n) ?_ (by lia) s.heap.objs.size _ 0 (Ld _ rfl) λh' tk acc' c' hk hS' hacc=>hR h' tk acc' c' hk hS' hacc
  rw[Ua]
  split<;>lia
 unfold collect;refine KE (wpAny_runValue (M2 entry_proto_collect' ?_));show Lm _ _ (do again (.builtin "list.__iadd__" ⟨[<- newList [],.ref r],[]⟩)) _ _ s;refine KE (R9 (K7 ⟨TQ _ (by decide +kernel),key _ fun h' tk acc' c' hk hS' hacc=>?_⟩));show Lm (LJ prog w) A (do
   let o <- load s.heap.objs.size
   match o.data with
   |.seq xs _=>pure xs.toList
   |_=>unsupported "internal:collect") Q E { s with heap:=h',toks:=tk }
 refine KE (wpAny_load hS' (K7 (h _ _ _ (BL (by rw[LO];exact hacc.1) λi v hv=>?_) (λb o e=>hk b o (Lp (Lb e)) (K6 _ e)) (Lb hS'))));obtain⟨t',e⟩:=hacc.2 i v (by rw[<- Nt];exact hv);exact⟨t',by rw[e];congr 1;lia⟩
theorem wL {n:Nat}
  (hh:A.handled=none)(F:Fr h₀ L s.heap m)(N:News h₀ L s.heap news)(hr:IsRange s.heap r 0 n 1 t u v)(hl:n<64)(hlen:kz.length=n)
  (ha1:U9 "sorted" ⟨[.ref r],kw⟩)(ha2:∀ x,U9 "list.sort" ⟨[.ref x],kw⟩)(ht:∀ x,NU.«list.sort» ⟨[.ref x],kw⟩=ksk_tree x f b)
  (gR:∀ (i:Nat) (k:Int) (t:Tok),i<n->kz[i]?=some k->∀ (h:Ng) (tk:Nat) (own:List (Lg×Obj)),Fr h₀ L h m->News h₀ L h (news++own) ->
   Lm (LJ prog w) A.in1.in1 (call f [.int i t]) (KskEnd h₀ L m (news++own) k { s with heap:=h,toks:=tk }) (λ_ _=>False) { s with heap:=h,toks:=tk })
  (h:∀ D h' tk out c vs,Nu vs (on n)->Fr h₀ L h' m->News h₀ L h' ((D,MU "list" out c)::news)->s.heap.objs.size<=D->KskOut b kz vs out.toList->Q (.ref D) { s with heap:=h',toks:=tk }):
  Lm (LJ prog w) A (call (.builtin "sorted") [.ref r] kw) Q E s:=by
 refine Sr kind_sorted plain_sorted entry_sorted ha1 ?_;unfold NU.«sorted»;refine KE (m:=checkCount "sorted" 1 1 _) (K7 ?_);refine KE (uk (show A.in1.handled=none from hh) hr (by lia) λvs g tk hi kk hlt=>?_);have hvs:vs.length=n:=by rw[hi.length,gh]
 refine KE (R9 ?_ (by rw[Nk];lia));have hL:L<s.heap.objs.size:=F.ns.lt;have hsz:s.heap.objs.size<=g.objs.size:=Nx hlt;have hoL:(g.push (MU "list" vs.toArray 0)).get? g.objs.size=some (MU "list" vs.toArray 0):=Ld _ rfl;have keep:∀ b o,s.heap.get? b=some o->(g.push (MU "list" vs.toArray 0)).get? b=some o:=λb o q=>K6 _ (kk b o q)
 have hLg:L<g.objs.size:=(F.kept kk).ns.lt;show Lm _ _ _ _ _ { s with heap:=g.push (MU "list" vs.toArray 0),toks:=tk };refine KE (Mp (wpAny_call_entry_kw slot_list_sort ⟨_,hoL,rfl⟩ entry_list_sort ?body (ha2 _)))
 case body=>
  have ht':=ht g.objs.size;show Lm (LJ prog w) A.in1.in1 (NU.«list.sort» ⟨[.ref g.objs.size],kw⟩) _ _ _;rw[ht'];refine ksk_sort (s:={ s with heap:=g.push (MU "list" vs.toArray 0),toks:=tk }) (kz:=kz)
   (F.kept keep) (N.grown keep) hoL (Ny hLg) (Te (LM F.above (Nx hLg)))
   (λp hp=>Lp (Ls (Lb (N p hp).1) hsz)) (by lia) (by lia) (λi v k hv hk h tk own F' N'=>?_) λh' tk out c F' N' k'=>⟨_,rfl,?_⟩
  ·have hin:i<n:=by rw[<- hvs];exact(Ll.mp hv).1
   obtain⟨t',e⟩:=hi.get i _ (yg hin);rw[e] at hv;cases hv;exact gR i k t' hin hk h tk own F' N'
  ·exact K7 ⟨_,rfl,h _ h' tk out c vs hi F' N' hsz k'⟩
abbrev Br (qual far kn:Str)(params:TM)(pf pk pp:Pos)(scope:Pq)(cl:List (Str×Lg))(pm cd ctv:K9):MW:=
 O9 "<lambda>" qual params (.Subscript (.Name far pf) (.Name kn pk) pp) scope cl pm cd ctv
theorem B3 {i:Nat}{k:Int}
  (hlim:s.heap.NoLimit)(hroom:A.depth<recursionLimit)(ho:s.heap.get? f=some { cls:=.type "function",data:=.func (Br qual far kn params pf pk pp scope cl pm (.ref c') ctv) })(hcd:s.heap.CodeRec (.ref c') qual)
  (hbind:∀ u,MM (Br qual far kn params pf pk pp scope cl pm (.ref c') ctv) ⟨[u],[]⟩=pure [(kn,u)])
  (hco:scope.isCoroutine=false)(hgen:scope.isGenerator=false)(hk:scope.kind=.function)(hnc:∀ x∈scope.names,x.2≠.cell)(hkl:scope.names.lookup kn=some .local)(hff:scope.names.lookup far=some .free)
  (hd1:(far==("__debug__":Str))=false)(hd2:(kn==("__debug__":Str))=false)(hd3:(far==("__classdict__":Str))=false)
  (hcl:cl.lookup far=some cf)(hcell:s.heap.IsCell cf (some (.ref l)))(hl:s.heap.IsList l vs.toArray)(hi:Nu vs ns)(hx:ns[i]?=some k)(hsm:ns.length<=1000)
  (h:∀ h' tk t',(∀ b o,s.heap.get? b=some o->h'.get? b=some o)->Q (.int k t') { s with heap:=h',toks:=tk }):
  Lm (LJ prog w) A (call (.ref f) [.int i t]) Q E s:=by
 refine QO (Tj hroom ho rfl hco hgen rfl hcd ?_);rw[hbind];refine K7 (QE hnc (λx hx=>?_) (λh₁ hns hsb=>⟨hlim.fresh _ hsb,Tk ?_⟩) hk)
 ·cases Lo.mp hx;exact hkl
 have hk₁:∀ b o,s.heap.get? b=some o->h₁.get? b=some o:=λb o e=>hsb.extBut b o (Lp (Lb e)) (K6 _ e)
 have hin:i<ns.length:=(Ll.mp hx).1;refine Uw ?_;refine Px (Q5 hk ?_ hcl (hcell.keeps hk₁) ?_ hd3) hd1
 ·exact hff
 refine Px (NH hk ?_ hns (v:=.int i t) ?_ ?_) hd2
 ·exact hkl
 ·simp
 refine item_list_intsR (let ⟨o,e,q⟩:=hl;⟨o,hk₁ _ _ e,q⟩) hi (by lia) (by lia) (by lia) (λt'=>?_) rfl;have e:ns.getD (i:Int).toNat 0=k:=by
  rw[MI,NW,hx];rfl
 rw[e];exact h _ _ _ hk₁
end
open L2
theorem ib:∀ {vs:List K9}{ns:List Int},Nu vs ns->aF (ns.map V.int) vs
 |_,_,.nil=>.nil
 |_,_,.cons n t h=>.cons ⟨t,rfl⟩ (ib h)
section
variable {X:Cx}
def JJ (ta:TA):TE:=λσ H Q=>ta σ H λvs H1=>∃ n:Nat,vs=[.int n]/\n<=1000/\∀ p,H1 p=none->Q (.ref p) (upd H1 p (.rng 0 n))
theorem y9 (hg:Gl X "range")(hm:X.mg "range"=none)(ha:WA X [a] ta)(hs:LN [a] X.env=[(false,O7 a X.env)]:=by rfl):WE X (.Call (.Name "range" p) [a] [] pos) (JJ ta):=by
 have ha:=ha.go;refine⟨?_⟩;intro pins s σ H Q I h;refine Call_ (fW I hg hm boot_range (Ni (bP (ha pos pins s σ H _ I h) λus s1 ⟨vs,H1,I1,r1,q1⟩=>?_) hs rfl));obtain⟨n,rfl,hn,q⟩:=q1;cases r1 with
 |cons r rr=>
  cases rr;obtain⟨t,rfl⟩:=r;exact call_range_1 ⟨.ref s1.heap.objs.size,_,I1.laid (a:=s1.heap.objs.size) (o:=.rng 0 n) (t':=_) (λb o e=>K6 _ e) (Lc _) ⟨_,_,_,Ld _ rfl⟩,rfl,q _ (I1.hok.fresh (Lc _))⟩
def Dq:List V->Hp->VK->Prop:=λxs H Q=>∃ (p:Lg) (n:Nat),xs=[.ref p]/\H p=some (.rng 0 n)/\n<=1000/\∀ l,H l=none->Q (.ref l) (upd H l (.lst ((on n).map V.int)))
theorem tF (hc:X.calm=true):cy X (.type "list") Dq:=by
 intro pins s σ H xs us Q I r h;obtain⟨p,n,rfl,hp,hn,q⟩:=h;obtain⟨u,rfl,ru⟩:=fk r;cases ru;obtain⟨t,u,v,e⟩:=(show bv X.prog X.w H s.heap p (.rng 0 n) from I.hok _ _ hp)
 refine call_list_range (n:=n) (I.ok.hd hc) e (small_one (a:=0) (b:=n) (by lia) (by lia) (by lia) (by lia)) (by rw[Ua];split<;>lia) (by lia) λh' tk acc c hk hD hI=>?_
 have hv:Nu acc.toList (on n):=BL (by rw[LO];exact hI.1) λi v hv=>by
  obtain⟨t',e⟩:=hI.2 i v (by rw[<- Nt];exact hv);exact⟨t',by rw[e];congr 1;lia⟩
 refine⟨.ref s.heap.objs.size,_,I.laid (a:=s.heap.objs.size) (o:=.lst ((on n).map V.int)) (t':=tk) hk (Lc _) ⟨?_,acc.toList,c,ib hv,by rw[O4];exact hD⟩,rfl,q _ (I.hok.fresh (Lc _))⟩;rw[K',gh];exact bO hn
end
theorem jU {l c:Int}{t u:Nat}:∀ (ps:List K9),T8 ps->Qs pos (ps++[.int l t,.int c u,cd])=((Qs pos ps).or (if(l==pos.line&&c==pos.col)=true then some cd else none))
 |[],_=>by
  show(if(l==pos.line&&c==pos.col)=true then some cd else Qs pos [])=_;rfl
 |.int a t::.int b u::e::r,h=>by
  show(if(a==pos.line&&b==pos.col)=true then some e else Qs pos (r++[.int l _,.int c _,cd]))=Option.or (if(a==pos.line&&b==pos.col)=true then some e else Qs pos r) _
  by_cases q:(a==pos.line&&b==pos.col)=true
  ·rw[LL q,LL q];rfl
  ·rw[LB q,LB q];exact jU r h
theorem mV {l c:Int}{t u:Nat}:∀ (ps:List K9),T8 ps->T8 (ps++[.int l t,.int c u,cd])
 |[],_=>trivial
 |.int a t::.int b u::e::r,h=>mV r h
abbrev yI (q:Str):HO:=.tbl #[.str q 0]
section
variable {X:Cx}{pins:List (Lg×Obj)}{σ:L2.St}{H:Hp}{s:K_}
theorem uL (I:aD X pins σ H s) (hcode:X.env.code=.ref c) (hcd:∀ h,X.K.In h->Qf h c P) (hP:H P=some (yI (X.env.qual ++ "<lambda>")))
  (hfree:∀ y∈scope.names,y.2=.free->∃ c,X.env.cells.lookup y.1=some c)(hdef:defaultsOf params X.env=([],[]))
  (h:∀ fa c' pm ctv H2 s2,aD X pins σ H2 s2->af H H2->s2.heap.get? fa=some { cls:=.type "function",data:=.func (O9 "<lambda>" (X.env.qual++"<lambda>") params body scope (nE X.env.cells scope.names []) pm (.ref c') ctv) } ->
   s2.heap.CodeRec (.ref c') (X.env.qual++"<lambda>")->Q (.ref fa) s2) :
  Lm (LJ X.prog X.w) X.A (O7 (.Lambda params body scope lp) X.env) Q E s:=by
 have okP:∃ ps:Array K9,s.heap.get? P=some (Ve ps)/\T8 ps.toList/\∀ pos cv,Qs pos ps.toList=some cv->∃ c' o vs t',cv=.ref c'/\H c'=some (.own P)/\s.heap.get? c'=some o/\o.data=.fields vs/\vs[1]?=some (.str (X.env.qual++"<lambda>") t'):=by
  obtain⟨ps,e,tr,q,t,e0,f⟩:=(show bv X.prog X.w H s.heap P (yI (X.env.qual++"<lambda>")) from I.hok _ _ hP)
  have e0':some (RI (X.env.qual++"<lambda>") 0)=some (.str q t):=e0;cases e0';exact⟨ps,e,tr,f⟩
 obtain⟨ps,eP,tr,fP⟩:=okP;obtain⟨bm,ob,b1,b2,b3,b4,b5,b6⟩:=I.mod.bm;have hgs:s.heap.Ns Lf X.mg:=I.mod.glob.keeps I.bk;have hgP:Lf≠P:=λq=>by
  obtain⟨o,es,ep,e,hd,_⟩:=hgs;rw[q,eP] at e;cases e;cases hd
 have hbP:bm≠P:=λq=>by
  have e:=I.bk _ _ b3;rw[q,eP] at e;cases e;cases b4
 have hbG:bm≠Lf:=λq=>by
  obtain⟨o,es,ep,e,hd,_⟩:=hgs;have e':=I.bk _ _ b3;rw[q,e] at e';cases e';rw[hd] at b6;cases b6
 have B:s.heap.BuiltinsAt X.mg P:=⟨bm,ob,b1,b2,hbG,hbP,I.bk _ _ b3,b4,b5,b6⟩
 refine PySem.W.kla_eval hdef ?_;cases hcm:Qs lp ps.toList with
 |some cv=>
  obtain⟨c',o,vs,t',rfl,w2,w3,w4,w5⟩:=fP lp cv hcm;refine PySem.W.kla_makeFunctionHit (mg:=X.mg) (l7 hfree) I.ok.glob hgs hcode (hcd _ I.kIn) eP tr hcm B λctv h' tk hk hsz=>?_
  have kk:∀ b u,s.heap.get? b=some u->(h'.push { cls:=.type "function",data:=.func (O9 "<lambda>" (X.env.qual++"<lambda>") params body scope (nE X.env.cells scope.names []) ((X.mg "__name__").getD .none) (.ref c') ctv) }).get? b=some u:=λb u e=>K6 _ (hk b u e)
  exact h h'.objs.size c' _ ctv H _ (I.kept (t':=tk) kk) (af.refl _) (Ld _ rfl) ⟨c',o,vs,t',rfl,kk _ _ w3,w4,w5⟩
 |none=>
  refine PySem.W.kla_makeFunction (mg:=X.mg) (l7 hfree) I.ok.glob hgs hcode (hcd _ I.kIn) eP tr hcm hgP B λc' ctv h' tk hx hge hlt hrec htb=>?_
  have fc:H c'=none:=I.hok.fresh hge;obtain⟨c2,oc,vs,t,ec,g1,g2,g3⟩:=hrec;cases ec;have nP:∀ b u,b≠P->s.heap.get? b=some u->(h'.push (OP "<lambda>" (X.env.qual++"<lambda>") params body scope (nE X.env.cells scope.names []) ((X.mg "__name__").getD .none) c' ctv)).get? b=some u:=λb u nb e=>K6 _ (hx b u nb e)
  have gc:(h'.push (OP "<lambda>" (X.env.qual++"<lambda>") params body scope (nE X.env.cells scope.names []) ((X.mg "__name__").getD .none) c' ctv)).get? c'=some oc:=K6 _ g1;have gP:(h'.push (OP "<lambda>" (X.env.qual++"<lambda>") params body scope (nE X.env.cells scope.names []) ((X.mg "__name__").getD .none) c' ctv)).get? P=some (Ve (ps++#[QD lp.line,QD lp.col,.ref c'])):=K6 _ htb;have gF:(h'.push (OP "<lambda>" (X.env.qual++"<lambda>") params body scope (nE X.env.cells scope.names []) ((X.mg "__name__").getD .none) c' ctv)).get? h'.objs.size=some (OP "<lambda>" (X.env.qual++"<lambda>") params body scope (nE X.env.cells scope.names []) ((X.mg "__name__").getD .none) c' ctv):=Ld _ rfl;generalize h'.push (OP "<lambda>" (X.env.qual++"<lambda>") params body scope (nE X.env.cells scope.names []) ((X.mg "__name__").getD .none) c' ctv)=g at nP gc gP gF ⊢;have sm:af H (upd H c' (.own P)):=λb o e=>by rw[aq (aJ e fc)];exact e
  have ne:∀ b,H b=none->b≠P:=λb n z=>by rw[z,hP] at n;cases n
  have lc:∀ b u,s.heap.get? b=some u->b≠c':=λb u e=>Lp (Ls (Lb e) hge)
  refine h h'.objs.size c' _ ctv (upd H c' (.own P)) _ (I.un (t':=tk) ⟨λb u q n _ _=>nP b u (ne b n) q,λb u q n _ _=>⟨u.slots,nP b u (ne b n) q⟩,λb u q n _=>by rw[aq (lc b u q)];exact n,λb u q _=>?_,λb xs q=>sm _ _ q,λb u w q=>sm _ _ q,λb qs q=>⟨#[],by rw[sm _ _ q];simp⟩⟩ λb u q=>?_) sm gF ⟨c',oc,vs,t,rfl,gc,g2,g3⟩
  ·by_cases hb:b=P
   ·exact⟨_,by rw[hb];exact gP⟩
   ·exact⟨u,nP b u hb q⟩
  ·by_cases hb:b=c'
   ·subst hb;rw[ae] at q;cases q;exact⟨oc,gc⟩
   ·rw[aq hb] at q
    by_cases hbP':b=P
    ·subst hbP';rw[hP] at q;cases q;refine⟨_,gP,?_,_,_,rfl,λpos cv z=>?_⟩
     ·rw[Tt];exact mV _ tr
     ·rw[Tt] at z;have z':=(jU (pos:=pos) (l:=(lp.line:Int)) (c:=(lp.col:Int)) (t:=0) (u:=0) (cd:=.ref c') ps.toList tr).symm.trans z;cases zz:Qs pos ps.toList with
      |some cv'=>
       rw[zz] at z';have z2:cv'=cv:=K8 z';subst z2;obtain⟨c2,o2,vs2,t2,w1,w2,w3,w4,w5⟩:=fP pos cv' zz;exact⟨c2,o2,vs2,t2,w1,sm _ _ w2,nP c2 o2 (λz=>by rw[z,hP] at w2;cases w2) w3,w4,w5⟩
      |none=>
       rw[zz] at z';have z2:(if((lp.line:Int)==pos.line&&(lp.col:Int)==pos.col)=true then some (LH c') else none)=some cv:=z'
       split at z2
       ·cases z2;exact⟨c',oc,vs,t,rfl,ae,gc,g2,g3⟩
       ·cases z2
    ·refine(I.hok b u q).stay (λd v hd r=>nP d v ?_ r) (λd r=>sm _ _ r) λd xs r=>sm _ _ r
     rcases hd with rfl|hd
     ·exact hbP'
     ·exact λz=>by rw[z,hP] at hd;cases hd
end
theorem iA [BEq α][LawfulBEq α]:∀ {l:List (α×β)},l.lookup x=some y->(x,y)∈l
 |[],h=>nomatch h
 |(a,b)::r,h=>by
  rw[Mj] at h;cases q:x==a with
  |true=>
   rw[q] at h;have e:x=a:=eq_of_beq q;cases h;rw[e];exact Lr
  |false=>
   rw[q] at h;exact Le _ (iA h)
def ur (sc:Pq)(far kn:Str):Bool:=sc.kind==.function&&!sc.isCoroutine&&!sc.isGenerator&&sc.names.all (λy=>!(y.2==.cell))&&sc.names.lookup kn==some .local&&sc.names.lookup far==some .free
def Bx (K:HD)(i:Nat)(P:Lg)(q:Str)(tr:TE):TE:=λσ H Q=>tr σ H λx H1=>∃ (r:Lg) (n:Nat) (l:Lg) (ns:List Int),x=.ref r/\H1 r=some (.rng 0 n)/\n<64/\σ[i]?=some (some (.ref l))/\bE K H1 l (ns.map V.int)/\ns.length=n/\H1 P=some (yI q) /\
 ∀ (H2:Hp) (D:Lg) (order:List Int),af H1 H2->H2 D=none->order.Perm (on n)->order.Pairwise (λa b=>ns.getD b.toNat 0<=ns.getD a.toNat 0)->Q (.ref D) (upd H2 D (.lst (order.map V.int)))
section
variable {X:Cx}{K:HD}
theorem vU {i k:Nat}{cj:Nat} (hK:X.K=K) (hc:X.calm=true) (hr:Room k X.A) (hg:Gl X "sorted") (hm:X.mg "sorted"=none)
  (hcode:X.env.code=.ref c)(hcd:∀ h,K.In h->Qf h c P)(hN:X.N[i]?=some far)(hv:X.env.kindOf far=some .cell)(he:WE X er tr)
  (hst:LN [er] X.env=[(false,O7 er X.env)]:=by rfl)
  (hsc:ur scope far kn=true:=by decide +kernel)(hfr:(scope.names.all λy=>!(y.2==.free)||(X.env.cells.lookup y.1).isSome)=true:=by rfl)(hdef:defaultsOf params X.env=([],[]):=by rfl)
  (hbind:∀ qual cl pm cd ctv u,MM (Br qual far kn params pf pk pp scope cl pm cd ctv) ⟨[u],[]⟩=pure [(kn,u)]:=by intros;rfl)
  (hd1:(far==("__debug__":Str))=false:=by decide)(hd2:(kn==("__debug__":Str))=false:=by decide)(hd3:(far==("__classdict__":Str))=false:=by decide):
  WE X (.Call (.Name "sorted" p) [er] [⟨some "key",.Lambda params (.Subscript (.Name far pf) (.Name kn pk) pp) scope lp,kp1⟩,⟨some "reverse",.Constant (.bool true) cj cp,kp2⟩] pos) (Bx K i P (X.env.qual++"<lambda>") tr):=by
 have he:=he.go;refine⟨?_⟩;subst hK;unfold ur at hsc;simp only[L4,MF,NP] at hsc;obtain⟨⟨⟨⟨⟨k1,k2⟩,k3⟩,k4⟩,k5⟩,k6⟩:=hsc;have hfree:∀ y∈scope.names,y.2=.free->∃ c,X.env.cells.lookup y.1=some c:=λy hy e=>by
  rw[MF] at hfr;have:=hfr y hy;rw[e] at this;exact M8.mp (by simpa using this)
 intro pins s σ H Q I h;refine MX (fW I hg hm qL ?_);refine callWith_kw (env:=X.env) (he:=by rw[hst];rfl) (hplain:=by rw[hst];rfl) (bP ((nO he tD hst) pos pins s σ H (λvs H1=>match vs with
  |[x]=>∃ (r:Lg) (n:Nat) (l:Lg) (ns:List Int),x=.ref r/\H1 r=some (.rng 0 n)/\n<64/\σ[i]?=some (some (.ref l))/\bE X.K H1 l (ns.map V.int)/\ns.length=n/\H1 P=some (yI (X.env.qual++"<lambda>")) /\
   ∀ (H2:Hp) (D:Lg) (order:List Int),af H1 H2->H2 D=none->order.Perm (on n)->order.Pairwise (λa b=>ns.getD b.toNat 0<=ns.getD a.toNat 0)->Q (.ref D) (upd H2 D (.lst (order.map V.int)))
  |_=>False) I h) λus s1 ⟨vs,H1,I1,r1,q1⟩=>?_)
 match vs,r1,q1 with
 |[x],r1,q1=>
  obtain⟨r,n,l,ns,rfl,hr1,hn,hσ,hl,hlen,hP,q⟩:=q1;obtain⟨u,rfl,ru⟩:=fk r1;cases ru;refine kws_cons (uL I1 hcode hcd hP hfree hdef λfa c' pm ctv H2 s2 I2 sm ho hrec=>?_);refine kws_cons (Constant_bool (kws_nil ?_));show Lm _ _ (call (.builtin "sorted") [.ref r] [(MB "key",.ref fa),(MB "reverse",.bool true)]) _ _ s2;obtain⟨t,u,v,hrng⟩:=(show bv X.prog X.w H2 s2.heap r (.rng 0 n) from I2.hok _ _ (sm _ _ hr1))
  obtain⟨m,hnm,hloc⟩:=id I2.loc;obtain⟨w,rw',lk⟩:=hloc i far (.ref l) hN hσ (.inr (.inl hv));cases rw';obtain⟨cf,ecf,hcell⟩:∃ cf,X.env.cells.lookup far=some cf/\s2.heap.IsCell cf (some (.ref l)):=by
   rcases lk with ⟨z,_⟩|⟨_,cf,e,z⟩
   ·rw[hv] at z;cases z
   ·exact⟨cf,e,z⟩
  have hcl:(nE X.env.cells scope.names []).lookup far=some cf:=by
   have mem:(far,L_)∈scope.names:=iA k6;obtain⟨c2,e2⟩:=fG (cells:=X.env.cells) (names:=scope.names) (acc:=[]) (x:=far) (.inr mem);rcases dy hfree e2 with z|⟨_,z⟩
   ·cases z
   ·rw[ecf] at z;cases z;exact e2
  obtain⟨its,rv,pl,_⟩:=I2.list (sm.seq hl);have hints:=pZ rv;obtain⟨oL,esL,epL,eL,dL,_⟩:=id hnm;have F:Fr X.base X.env.locals s2.heap m:=⟨hnm,I2.bk,LM I2.ok.bsz I2.ok.above⟩
  have all:∀ {h:Ng},Fr X.base X.env.locals h m->News X.base X.env.locals h (jB X.base s2.heap X.env.locals)->∀ b o,b≠X.env.locals->s2.heap.get? b=some o->h.get? b=some o:=λ{h} F' N' b o nb e=>by
   cases z:X.base.get? b with
   |some o'=>
    have:=I2.bk b o' z;rw[e] at this;cases this;exact F'.keep b o z
   |none=>exact(N' (b,o) (uT nb z e)).1
  have nL:∀ b o,s2.heap.get? b=some o->(∀ es ep,o.data≠.dict es ep)->b≠X.env.locals:=λb o e hd z=>by
   rw[z,eL] at e;cases e;exact hd _ _ dL
  have rm:=hr.dp;refine wL (h₀:=X.base) (L:=X.env.locals) (m:=m) (news:=jB X.base s2.heap X.env.locals) (b:=true) (kz:=ns) (I2.ok.hd hc) F BY hrng hn hlen (ksk_s2 _ _ _) (λx=>ksk_l2 _ _ _) (λx=>ksk_t2 _ _ _) (λj k t hj hk h tk own F' N'=>?_) λD h' tk out cc vs hi F' N' hD ko=>?_
  ·have al:=all F' (λp hp=>N' p (Nl _ hp));obtain⟨oc,hoc,hdc⟩:=hcell;obtain⟨ol,nl,el,cl,dl,xl⟩:=id pl;obtain⟨c2,o2,vs2,t2,ec,g1,g2,g3⟩:=id hrec;cases ec;refine B3 (s:={ s2 with heap:=h,toks:=tk }) (ns:=ns) (I2.ok.mod.nolimit.keeps F'.keep) (by show X.A.depth<recursionLimit;lia) (al _ _ (nL _ _ ho λ_ _ z=>nomatch z) ho) ⟨_,o2,vs2,t2,rfl,al _ _ (nL _ _ g1 λ_ _ z=>by rw[g2] at z;cases z) g1,g2,g3⟩ (λu=>hbind _ _ _ _ _ u)
    (by simpa using k2) (by simpa using k3) k1 (λx hx z=>by have:=k4 x hx;rw[z] at this;cases this) k5 k6 hd1 hd2 hd3 hcl ⟨oc,al _ _ (nL _ _ hoc λ_ _ z=>by rw[hdc] at z;cases z) hoc,hdc⟩ ⟨ol,al _ _ (nL _ _ el λ_ _ z=>by rw[xl] at z;cases z) el,cl,nl,xl⟩ hints hk (by lia) λh'' tk' t' kk=>?_
   exact KskEnd.intro (F'.kept kk) (N'.grown kk) λp hp=>hp
  ·have al:=all F' (λp hp=>N' p (Le _ hp));have gD:=(N' _ Lr).1;have fD:H2 D=none:=I2.hok.fresh hD;obtain⟨pz,pp1,po,pw⟩:=ko;have hvl:vs.length=n:=by rw[hi.length,gh]
   have hint:∀ q∈pz,∃ (j:Nat) (t:Tok),j<n/\q.2=.int j t/\q.1=ns.getD j 0:=λq hq=>by
    have hq':=pp1.mem_iff.mp hq;obtain⟨j,hj⟩:=Tf hq';rw[Ro] at hj;have jn:j<n:=by rw[<- hlen];exact(Ll.mp hj.1).1
    obtain⟨t',e⟩:=hi.get j _ (yg jn);rw[e] at hj;refine⟨j,t',jn,(K8 hj.2).symm,?_⟩;rw[NW,hj.1];rfl
   have hout:Nu out.toList (pz.map λq=>numOf q.2):=by
    rw[po];have go:∀ (l:List (Int×K9)),(∀ q∈l,∃ (j:Nat) (t:Tok),j<n/\q.2=.int j t/\q.1=ns.getD j 0)->Nu (l.map Prod.snd) (l.map λq=>numOf q.2):=by
     intro l
     induction l with
     |nil=>intro _;exact .nil
     |cons q l ih=>
      intro hl;obtain⟨j,t,_,e,_⟩:=hl q Lr;rw[LA,LA,e];exact .cons _ _ (ih λq hq=>hl q (Le _ hq))
    exact go pz hint
   have hperm:(pz.map λq=>numOf q.2).Perm (on n):=by
    have h1:=(pp1.map Prod.snd).map numOf;rw[List.map_snd_zip (by lia),hi.nums,NK] at h1;exact h1
   have hpw:(pz.map λq=>numOf q.2).Pairwise (λa b=>ns.getD b.toNat 0<=ns.getD a.toNat 0):=by
    rw[List.pairwise_map];refine pw.imp_of_mem λ{a b} ha hb hab=>?_
    obtain⟨ja,ta,_,ea,va⟩:=hint a ha;obtain⟨jb,tb,_,eb,vb⟩:=hint b hb;have hab':b.1<=a.1:=hab;rw[ea,eb];show ns.getD (jb:Int).toNat 0<=ns.getD (ja:Int).toNat 0;rw[MI,MI,<- va,<- vb];exact hab'
   refine⟨.ref D,_,?_,rfl,q H2 D _ sm fD hperm hpw⟩;have keepT:∀ b u,H2 b=some u->b≠X.env.locals:=λb u e z=>by rw[z,I2.free] at e;cases e
   have I3:aD X pins σ H2 { s2 with heap:=h',toks:=tk }:=by
    refine I2.step (g':=s2.gens) (d':=s2.drawn) (ch:=[]) (λ_ z=>nomatch z) (λb o nb _ _ e _=>al b o nb e) (λb o nb _ _ e _=>⟨o.slots,al b o nb e⟩) (λ_ _ _ _ n=>n) (λb o _ e=>?_) (λ_ _ e=>e) (λ_ _ _ e=>e) (λb ps e=>⟨#[],by rw[e];simp⟩) (λm' hm'=>?_) (λb u e=>?_) I2.bare
    ·by_cases nb:b=X.env.locals
     ·obtain⟨o',_,_,e',_⟩:=F'.ns;exact⟨o',by rw[nb];exact e'⟩
     ·exact⟨o,al b o nb e⟩
    ·rw[hm'.eq_nsMap,<- hnm.eq_nsMap];exact F'.ns
    ·refine(I2.hok b u e).stay (λd v hd r=>al d v ?_ r) (λ_ r=>r) λ_ _ r=>r
     rcases hd with rfl|hd
     ·exact keepT _ _ e
     ·exact keepT _ _ hd
   have F3:=I2.fpOk (b:=D) (H':=H2) hD fD;exact l6 I3 fD (LM I2.sz hD) F3.2.1 F3.2.2.2.2.1 F3.2.2.2.2.2 ⟨by
    rw[K'];have:=hperm.length_eq;rw[gh] at this;rw[this];exact bO (by lia),out.toList,cc,ib hout,by rw[O4];exact gD⟩
end
def D1 (Tb:Lg->Option Str)(own:Bool)(a:Lg)(o:Obj)(ns:List Int):Hp:=λb=>match Tb b with
 |some q=>some (yI q)
 |none=>if own=true/\b=a then some (.frz o (.lst (ns.map V.int))) else none
theorem Ap {P:Lz}{w:LX}{K:HD}{mg mb:Str->Option K9}{CX:jG}{k:Nat}{fa a:Lg}{fd:MW}{x:Str}{sp:Sp}{s₁:K_}{vs:List K9}{ns:List Int} (Tb:Lg->Option Str)
  (KX:K.In s₁.heap)(hns:s₁.heap.Ns Lf mg)(hb:s₁.heap.Ns Qa mb)(hbb:∀ x:Str,x≠"__name__"->mb x=Me x)(hlim:s₁.heap.NoLimit)(hg:s₁.gens=#[])
  (hbm:∃ bm o,mg "__builtins__"=some (.ref bm)/\bm≠Qa/\s₁.heap.get? bm=some o/\o.cls=.type "module"/\o.dict=some Qa/\o.data=.plain)
  (hT:∀ b q,Tb b=some q->s₁.heap.get? b=some { cls:=.none,data:=.fields #[] }/\isCodeTable s₁.heap b/\K.lookup b=none)
  (ha:s₁.heap.get? a=some { cls:=.type "list",data:=.seq vs.toArray })(hi:Nu vs ns)(hl:ns.length<=Ly)(hr:Room k U')
  (F:∀ base:Ng,K.In base->base.Ns Lf mg->iy P w K mg base CX k fa fd [x] sp)(hbind:∀ (s:K_) (u:K9),Tu s fd ⟨[u],[]⟩ [(x,u)])
  (hsp:∀ H:Hp,(∀ b q,Tb b=some q->H b=some (yI q))->bE K H a (ns.map V.int)->sp [.ref a] H (λv _=>v=.bl true) λ_ _ _=>False)
  (hCX:∀ H e s',CX [] H s₁ (λ_ _ _=>False) e s'->False):
  Oo (LJ P w) U' (.call (.ref fa) ⟨[.ref a],[]⟩) (λr s'=>r=.ok (.ret (.bool true))/\OldK s₁.heap s'.heap/\s'.os=s₁.os/\Ts s'.gens) s₁:=by
 have rv:=mE hi;have nTa:Tb a=none:=by
  cases q:Tb a with
  |none=>rfl
  |some z=>
   have:=(hT a z q).1;rw[ha] at this;cases this
 obtain⟨own,hown⟩:∃ own:Bool,own=(K.lookup a).isNone:=⟨_,rfl⟩
 let H:Hp:=D1 Tb own a { cls:=.type "list",data:=.seq vs.toArray } ns
 have HT:∀ b q,Tb b=some q->H b=some (yI q):=λb q e=>by
  show(match Tb b with|some q=>some (yI q)|none=>_)=_;rw[e]
 have cases_:∀ b u,H b=some u->(∃ q,Tb b=some q/\u=yI q)\/(own=true/\b=a/\u=.frz { cls:=.type "list",data:=.seq vs.toArray } (.lst (ns.map V.int))):=λb u e=>by
  have e':(match Tb b with|some q=>some (yI q)|none=>if own=true/\b=a then some (HO.frz { cls:=.type "list",data:=.seq vs.toArray } (.lst (ns.map V.int))) else none)=some u:=e;cases q:Tb b with
  |some z=>
   rw[q] at e';exact .inl ⟨z,rfl,(K8 e').symm⟩
  |none=>
   rw[q] at e';dsimp only at e'
   split at e'
   ·rename_i hc
    exact .inr ⟨hc.1,hc.2,(K8 e').symm⟩
   ·cases e'
 have ok:jd P w H s₁.heap:=λb u e=>by
  rcases cases_ b u e with ⟨q,hq,rfl⟩|⟨_,rfl,rfl⟩
  ·exact⟨#[],(hT b q hq).1,trivial,q,0,rfl,λpos cv z=>nomatch z⟩
  ·exact⟨ha,by rw[K'];exact hl,vs,_,rv,ha⟩
 have hS:bE K H a (ns.map V.int):=by
  cases hk:K.lookup a with
  |some o=>
   have e:=KX a o hk;rw[ha] at e;cases e;exact .inr ⟨_,vs.toArray,_,hk,rfl,rfl,rfl,by rw[Lh,hi.length];exact hl,by simpa using rv⟩
  |none=>
   refine .inl (.inr ⟨{ cls:=.type "list",data:=.seq vs.toArray },?_⟩);show(match Tb a with|some q=>some (yI q)|none=>if own=true/\a=a then some (HO.frz { cls:=.type "list",data:=.seq vs.toArray } (.lst (ns.map V.int))) else none)=_;rw[nTa];dsimp only;rw[LL ⟨by rw[hown,hk];rfl,rfl⟩]
 have un:∀ {b:Lg}{o:Obj},s₁.heap.get? b=some o->(∀ its n,o.data≠.seq its n)->(∀ ws,o.data≠.fields ws)->H b=none:=λ{b o} e h1 h2=>by
  cases q:H b with
  |none=>rfl
  |some u=>
   rcases cases_ b u q with ⟨z,hz,_⟩|⟨_,rfl,_⟩
   ·have:=(hT b z hz).1;rw[e] at this;cases this;exact absurd rfl (h2 _)
   ·rw[ha] at e;cases e;exact absurd rfl (h1 _ _)
 have nsK:∀ {b:Lg}{m:Str->Option K9},s₁.heap.Ns b m->(vx s₁.heap H).Ns b m:=λ{b m} ⟨o,es,ep,e,d,r⟩=>⟨o,es,ep,qh e (un e (λ_ _ z=>by rw[d] at z;cases z) λ_ z=>by rw[d] at z;cases z),d,r⟩
 have hKb:K.In (vx s₁.heap H):=λb o e=>qh (KX b o e) (by
  cases q:H b with
  |none=>rfl
  |some u=>
   rcases cases_ b u q with ⟨z,hz,_⟩|⟨ho,rfl,_⟩
   ·rw[(hT b z hz).2.2] at e;cases e
   ·rw[hown,e] at ho;cases ho)
 have hM:Mod K mg (vx s₁.heap H):=⟨hKb,nsK hns,⟨mb,nsK hb,hbb⟩,let ⟨mc,h1,h2⟩:=hlim;⟨mc,nsK h1,h2⟩,by
  obtain⟨bm,o,b1,b2,b3,b4,b5,b6⟩:=hbm;exact⟨bm,o,b1,b2,qh b3 (un b3 (λ_ _ z=>by rw[b6] at z;cases z) λ_ z=>by rw[b6] at z;cases z),b4,b5,b6⟩⟩
 have e0:xW P w K mg (vx s₁.heap H) U' [] s₁ H:=⟨rfl,hM,λb o e=>Fj e,UL (A3 _ _),trivial,λb hb=>absurd (show b∈([]:List Lg) from hb) (by simp),ok,.of_eq hg⟩
 refine Pu ((F _ hKb (nsK hns)).run U' [] s₁ H ⟨[.ref a],[]⟩ [.ref a] [.ref a] _ _ hr e0 (hbind s₁ (.ref a)) (.cons rfl .nil) (hsp H HT hS)) λr s' h=>?_
 cases r with
 |error e=>exact(hCX H e s' h).elim
 |ok fl=>
  cases fl with
  |next=>exact Nm h
  |brk=>exact Nm h
  |cont=>exact Nm h
  |ret u=>
   obtain⟨v,H',os,bare,un',hok',r',q⟩:=h;have q':v=.bl true:=q;subst q';obtain rfl:u=Ox true:=r';have old:∀ b o,s₁.heap.get? b=some o->asItWas s₁.heap s'.heap b o:=λb o e=>by
    cases z:H b with
    |none=>exact .inl (un'.keep b o e z (by intro z;exact absurd (show b∈([]:List Lg) from z) (by simp)) (by simp))
    |some u=>
     rcases cases_ b u z with ⟨n,hn,rfl⟩|⟨_,rfl,rfl⟩
     ·obtain⟨more,z2⟩:=un'.tbls b _ z;obtain⟨ps,e2,_⟩:=(show bv P w H' s'.heap b (.tbl _) from hok' b _ z2)
      obtain⟨e1,ct,_⟩:=hT b n hn;rw[e] at e1;cases e1;exact .inr (.inl ⟨ct,rfl,#[],ps,rfl,by simpa using e2⟩)
     ·have z2:=un'.frzs _ _ _ z;obtain⟨e2,_⟩:=(show s'.heap.get? _=some _/\_ from hok' _ _ z2)
      rw[ha] at e;cases e;exact .inl e2
   refine⟨rfl,⟨old,λb o e=>?_⟩,os,bare⟩;rcases old b o e with x|⟨_,_,_,_,_,x⟩|⟨_,_,⟨o',_,_,x,_⟩,_⟩
   ·exact⟨_,x⟩
   ·exact⟨_,x⟩
   ·exact⟨_,x⟩
def yl (K:HD)(x:Str)(P:Lg):Prop:=∃ (f:Lg) (oc:K9) (od:Option Lg) (fd:MW) (sl:Array (Option K9)) (c:Lg),Lv K Lf x=some (some (.ref f))/\K.lookup f=some ⟨oc,od,.func fd,sl⟩/\fd.code=.ref c /\
 (∀ h:Ng,K.In h->Qf h c P)/\fd.qualname=x
def v7 (K:HD)(x:Str)(H:Hp):Prop:=∃ P,yl K x P/\H P=some (yI (x++".<locals>."++"<lambda>"))
theorem v7.same {K:HD}{x:Str}{H H':Hp}(h:v7 K x H)(s:af H H'):v7 K x H':=by obtain⟨P,a,b⟩:=h;exact⟨P,a,s _ _ b⟩
theorem v7.mv {K:HD}{x:Str}{T:List Lg}{H H':Hp}(h:v7 K x H)(m:Mv T H H')(l:jq H T):v7 K x H':=by obtain⟨P,a,b⟩:=h;exact⟨P,a,m _ _ b (l.not b λ_ z=>nomatch z)⟩
structure AG (K:HD)(mg:Str->Option K9)(x:Str)(st:NO)(ps:List Str):Prop where
 dfn:c6 K mg x st ps []
 at_:∃ f,Lv K Lf x=some (some (.ref f))/\mg x=some (.ref f)
section
variable {P:Lz}{w:LX}{K:HD}{mg:Str->Option K9}{base:Ng}{CX:jG}
theorem AG.cal {x:Str}{st:NO}{N ps:List Str}{k:Nat}{sp:Sp} (F:AG K mg x st ps) (S:av N ps (ag st)) (len:∀ vs H Q E,sp vs H Q E->vs.length=ps.length:=by intro _ _ _ _ h;cases h;subst_vars;rfl)
  (bb:∀ (f:Lg) (cdv:K9) (A:L9) (outer:List Env) (s:K_) (H:Hp) (vs:List V) (Q:VK) (E:XK),(∀ Pt,yl K x Pt->∃ c,cdv=.ref c/\∀ h:Ng,K.In h->Qf h c Pt)->Room k (A.deeper (Sj x (ag st) s.heap.objs.size f cdv))->sp vs H Q E ->
   ∃ t,DT (qu CX P w K mg base N x (ag st) f cdv A outer s H E).nox (aI st) t/\t { nx:=λ_ H'=>Q .non H',rt:=Q } (iE N vs) H):dm P w K mg base CX (k+1) x ps [] sp:=by
 obtain⟨f,fd,oc,od,dV,kV,doc,pm,an,cdv,ct,osl,ds,rfl,lk,hcd,hm,hk,hb,hv⟩:=F.dfn.ex;refine⟨f,_,ds,ux lk hcd S len λA outer s H vs Q E hr hsp=>?_,hm,hk,hb,hv⟩;obtain⟨t,h,q⟩:=bb f cdv A outer s H vs Q E (λPt ⟨f',oc',od',fd',sl',c,e1,e2,e3,e4,_⟩=>by
  obtain⟨f2,z1,z2⟩:=F.at_;rw[e1] at z1;cases z1;rw[hm] at z2;cases z2;rw[lk] at e2;cases e2;exact⟨c,e3,e4⟩) hr hsp
 exact⟨t,h.nox,q⟩
end
def oH (xs:List Str)(K:HD):Sp:=λvs H Q _=>∃ (a:Lg) (ns:List Int),vs=[.ref a]/\bE K H a (ns.map V.int)/\ns.length<=63/\(∀ x∈xs,v7 K x H)/\∀ H',Q (.bl true) H'
def Dg (ts:List (Str×Lg))(b:Lg):Option Str:=(ts.find? λp=>p.2==b).map λp=>p.1++".<locals>."++"<lambda>"
def yy (vs:Array K9)(c P:Lg):Prop:=∃ file tf flags tg inF text tt,vs[11]?=some (.ref P)/\vs.getD 11 .none=.ref P/\vs.getD 18 .none=.str file tf/\vs.getD 7 .none=.int flags tg/\vs.getD 9 .none=.bool inF/\vs.getD 10 .none=.int text tt/\c≠P
theorem Cf {K:HD}{x:Str}{f c P:Lg}{oc:K9}{od odc:Option Lg}{fd:MW}{sl slc:Array (Option K9)}{vs:Array K9} (a:Lv K Lf x=some (some (.ref f))) (l:K.lookup f=some ⟨oc,od,.func fd,sl⟩) (e:fd.code=.ref c) (qn:fd.qualname=x)
  (cc:K.lookup c=some ⟨.type "code",odc,.fields vs,slc⟩)(h:yy vs c P):yl K x P:=by
 obtain⟨file,tf,flags,tg,inF,text,tt,h1,h2,h3,h4,h5,h6,h7⟩:=h;exact⟨f,oc,od,fd,sl,c,a,l,e,λhp X=>⟨_,vs,file,tf,flags,tg,inF,text,tt,X _ _ cc,rfl,rfl,h1,h2,h3,h4,h5,h6,h7⟩,qn⟩
theorem BE {K:HD}{c P:Lg}{odc:Option Lg}{slc:Array (Option K9)}{vs:Array K9}(cc:K.lookup c=some ⟨.type "code",odc,.fields vs,slc⟩)(h:yy vs c P)(hp:Ng)(X:K.In hp):isCodeTable hp P:=by
 obtain⟨_,_,_,_,_,_,_,h1,_⟩:=h;exact⟨c,_,vs,X _ _ cc,rfl,rfl,h1⟩
structure tH (K:HD)(tA:List Lg)(ts:List (Str×Lg)):Prop where
 nodup:(ts.map (·.2)).Nodup
 tab:∀ p∈ts,p.2∈tA/\K.lookup p.2=none/\(∀ h:Ng,K.In h->isCodeTable h p.2)/\yl K p.1 p.2
theorem Dh (h:Dg ts b=some q):∃ p∈ts,p.2=b/\q=p.1++".<locals>."++"<lambda>":=by
 unfold Dg at h;obtain⟨p,e,rfl⟩:=Lx.mp h;exact⟨p,List.mem_of_find?_eq_some e,eq_of_beq (List.find?_some (p:=λr:Str×Lg=>r.2==b) e),rfl⟩
theorem Ea {ts:List (Str×Lg)}{p:Str×Lg}(hn:(ts.map (·.2)).Nodup)(hp:p∈ts):Dg ts p.2=some (p.1++".<locals>."++"<lambda>"):=by
 unfold Dg;have e:ts.find? (λr=>r.2==p.2)=some p:=by
  induction ts with
  |nil=>nomatch hp
  |cons r ts ih=>
   rw[LA,Nw] at hn;rw[Nv];rcases Ln.mp hp with rfl|hp
   ·rw[Pk]
   ·have:(r.2==p.2)=false:=M6.mpr λz=>hn.1 (z▸Md.mpr ⟨p,hp,rfl⟩)
    rw[this];exact ih hn.2 hp
 rw[e];rfl
theorem CI {l:SN}{k:Nat}{q:Lz}{loose:List Str}{XP:(Str->Option K9)->Ng->Prop}{YP:LX->Ng->Prop}{d:DefRec}{K:Params->HD}{CX:LX->jG}{x:Str}{sp:List Str->HD->Sp}{tA:List Lg}
  (hn:l.most=some 63)(hdf:d.params.defaults=[])(hr:Room k U')
  (hY:∀ (w:LX) (h:Ng),YP w h->(K w.params).In h)(hY2:∀ (w:LX) (h:Ng),YP w h->∀ P∈tA,h.get? P=some { cls:=.none,data:=.fields #[] })
  (F:∀ (w:LX) (mg:Str->Option K9) (fa:Lg) (h:Ng),(K w.params).In h->h.Ns Lf mg->mg d.name=some (.ref fa) ->
   ∃ (ts:List (Str×Lg)) (fd:MW),tH (K w.params) tA ts/\(∀ (s:K_) (u:K9),Tu s fd ⟨[u],[]⟩ [(x,u)]) /\
    ∀ base:Ng,(K w.params).In base->base.Ns Lf mg->iy l.prog w (K w.params) mg base (CX w) k fa fd [x] (sp (ts.map (·.1)) (K w.params)))
  (hsp:∀ (xs:List Str) (K:HD) (H:Hp) (a:Lg) (ns:List Int),ns.length<=63->bE K H a (ns.map V.int)->(∀ x∈xs,v7 K x H)->sp xs K [.ref a] H (λv _=>v=.bl true) λ_ _ _=>False)
  (hCX:∀ (w:LX) (H:Hp) (s:K_) (e:K9) (s':K_),CX w [] H s (λ_ _ _=>False) e s'->False):
  PySem.W.WalkO q loose XP YP l.row.toRowW d [] (λf vs=>Vh f vs):=by
 refine Att.attach_call hn hdf λw s₀ s₁ mg mb fa o pm cd doc a vs ns G Y ho hd hcd hmg hobj hints hlen hg=>?_
 have KX:=hY w _ Y;obtain⟨ts,fd,tk,hb,hF⟩:=F w mg fa _ KX G.T.g hmg;refine Ap (K:=K w.params) (Dg ts) KX G.T.g G.T.b G.T.builtins G.T.nolimit hg G.T.bmain (λb z e=>?_) hobj hints (LM hlen (by decide)) hr hF hb (λH hH hS=>hsp _ _ H a ns hlen hS λy hy=>?_) λH e s'=>hCX w H s₁ e s'
 ·obtain⟨p,m,rfl,rfl⟩:=Dh e;obtain⟨t1,t2,t3,_⟩:=tk.tab p m;exact⟨hY2 w _ Y _ t1,t3 _ KX,t2⟩
 ·obtain⟨p,m,rfl⟩:=Md.mp hy;exact⟨p.2,(tk.tab p m).2.2.2,hH _ _ (Ea tk.nodup m)⟩
theorem jp {K:HD}{a:Lg}{o:Obj}{its:Array K9}{n:Nat}{xs:List V}(l:K.lookup a=some o)(h:o.cls=.type "tuple"/\o.data=.seq its n/\its.size<=Ly/\aF xs its.toList):KT K a xs:=⟨o,its,n,l,h.1,h.2.1,h.2.2.1,h.2.2.2⟩
theorem _root_.L2.Room.u1 {k:Nat}(r:Room k A):A.units+1<cLine:=Nh (by lia) r.units
abbrev Kn:=Nat×Nat×Nat
def Fn (t:Kn):LU:=.tuple [.int t.1,.int t.2.1,.int t.2.2]
def fF (t:Kn):List V:=[.int t.1,.int t.2.1,.int t.2.2]
theorem Ge (t:Kn):(cE t).map kV=fF t:=rfl
theorem lJ {K:HD}{H:Hp}{t:Kn}{v:V}(h:aA K H (Fn t) v):∃ a,v=.ref a/\H a=some (.tup (fF t)):=by
 cases h with
 |tup h q=>
  cases q with
  |cons q1 q=>
   cases q1;cases q with
   |cons q2 q=>
    cases q2;cases q with
    |cons q3 q=>
     cases q3;cases q;exact⟨_,rfl,h⟩
theorem gC {K:HD}{H:Hp}{t:Kn}{a:Lg}(h:H a=some (.tup (fF t))):aA K H (Fn t) (.ref a):=.tup h (.cons (.int _) (.cons (.int _) (.cons (.int _) .nil)))
theorem rf (h:cE t=cE u):t=u:=by
 obtain⟨a,b,c⟩:=t;obtain⟨x,y,z⟩:=u;have h:[QA (a:Int),QA (b:Int),QA (c:Int)]=([QA (x:Int),QA (y:Int),QA (z:Int)]:List eK):=h;injection h with h1 h
 injection h with h2 h
 injection h with h3 h
 injection h1 with h1
 injection h2 with h2
 injection h3 with h3
 have e1:a=x:=by lia
 have e2:b=y:=by lia
 have e3:c=z:=by lia
 rw[e1,e2,e3]
def kM:List Kn->List V->List (List eK×V)
 |t::ts,v::vs=>(cE t,v)::kM ts vs
 |_,_=>[]
theorem tO:∀ {ts:List Kn}{vs:List V},ts.length=vs.length->(kM ts vs).length=ts.length
 |[],[],_=>rfl
 |[],_::_,h=>by simp at h
 |_::_,[],h=>by simp at h
 |t::ts,v::vs,h=>by
  rw[kM,LK,tO (by simpa using h),LK]
theorem yk:∀ {ts:List Kn}{vs:List V},ts.length=vs.length->(kM ts vs).map (·.1)=ts.map cE
 |[],[],_=>rfl
 |[],_::_,h=>by simp at h
 |_::_,[],h=>by simp at h
 |t::ts,v::vs,h=>by
  rw[kM,LA,yk (by simpa using h),LA]
theorem FE:∀ {ts:List Kn}{vs:List V}{i:Nat}{k:List eK}{v:V},(kM ts vs)[i]?=some (k,v)->∃ t,ts[i]?=some t/\k=cE t/\vs[i]?=some v
 |[],_,_,_,_,h=>by simp[kM] at h
 |_::_,[],_,_,_,h=>by simp[kM] at h
 |t::ts,w::vs,0,k,v,h=>by
  have h:some (cE t,w)=some (k,v):=h;cases h;exact⟨t,rfl,rfl,rfl⟩
 |t::ts,w::vs,i+1,k,v,h=>by
  obtain⟨u,a,b,c⟩:=FE (ts:=ts) (vs:=vs) (i:=i) (by simpa [kM] using h);exact⟨u,by simpa using a,b,by simpa using c⟩
theorem BG {K:HD}{H:Hp}{f:Kn->LU}{t:Kn}:∀ {ts:List Kn}{vs:List V},ay K H (ts.map f) vs->t∈ts->∃ v,kN (kM ts vs) (cE t)=some v/\aA K H (f t) v
 |[],_,_,m=>nomatch m
 |u::ts,vs,h,m=>by
  cases h with
  |@cons d v ds vs h1 h2=>
   by_cases e:u=t
   ·subst e;exact⟨v,lf (p:=(cE u,v)) rfl,h1⟩
   ·rcases Ln.mp m with z|m
    ·exact absurd z.symm e
    ·obtain⟨w,a,b⟩:=BG h2 m;exact⟨w,by rw[kM,jj (p:=(cE u,v)) (λz=>e (rf z))];exact a,b⟩
theorem yN:∀ {ts:List Kn}{vs:List V},t∉ts->kN (kM ts vs) (cE t)=none
 |[],_,_=>rfl
 |_::_,[],_=>rfl
 |u::ts,v::vs,m=>by
  rw[kM,jj (p:=(cE u,v)) (λz=>m (by rw[rf z];exact Lr))];exact yN λz=>m (Le _ z)
theorem Cq:∀ {ts:List Kn}{vs:List V}{t:Kn}{v:V},ts.length=vs.length->kM (ts++[t]) (vs++[v])=kM ts vs++[(cE t,v)]
 |[],[],_,_,_=>rfl
 |[],_::_,_,_,h=>by simp at h
 |_::_,[],_,_,h=>by simp at h
 |u::ts,w::vs,t,v,h=>by
  rw[Sf,Sf,kM,kM,Cq (by simpa using h),Sf]
theorem Gi (hl:ts.length=vs.length)(h:t∉ts):kX (kM ts vs) (cE t) v=kM (ts++[t]) (vs++[v]):=by
 rw[C0 v (yN h),Cq hl]
def wD (r:R3):LU:=h_ false r
structure R3.Wt (r:R3):Prop where
 a0:0<=r.a
 a1:r.a<=1000
 b0:0<=r.b
 b1:r.b<=1000
 c0:0<=r.c
 c1:r.c<=1000
def An (K:HD)(H:Hp)(ts:List Kn)(f:Kn->R3)(d:Lg):Prop:=∃ vs,H d=some (.dT (kM ts vs))/\ay K H (ts.map λt=>wD (f t)) vs
def Gr (K:HD)(H:Hp)(n:Nat)(f:Kn->R3)(d:Lg):Prop:=∃ ts,ts.Perm (aW n)/\An K H ts f d
def Be (n:Nat)(f:Kn->R3):Prop:=∀ t∈aW n,(f t).Wt
theorem nC {f:Kn->R3}:∀ ts:List Kn,iP (ts.map λt=>wD (f t))=true
 |[]=>rfl
 |t::ts=>by
  rw[LA,iP,nC ts];rfl
theorem An.len {K:HD}{ts:List Kn}{f:Kn->R3}{H:Hp}{vs:List V}(h:ay K H (ts.map λt=>wD (f t)) vs):ts.length=vs.length:=by
 have:=h.length
 rwa [K'] at this
theorem An.same {K:HD}{H H':Hp}{ts:List Kn}{f:Kn->R3}{d:Lg}(h:An K H ts f d)(s:af H H'):An K H' ts f d:=by obtain⟨vs,a,b⟩:=h;exact⟨vs,s _ _ a,ay.same s b⟩
theorem Gr.same {K:HD}{H H':Hp}{n:Nat}{f:Kn->R3}{d:Lg}(h:Gr K H n f d)(s:af H H'):Gr K H' n f d:=by obtain⟨ts,p,g⟩:=h;exact⟨ts,p,g.same s⟩
theorem An.mv {K:HD}{T:List Lg}{H H':Hp}{ts:List Kn}{f:Kn->R3}{d:Lg}(h:An K H ts f d)(m:Mv T H H')(l:jq H T):An K H' ts f d:=by
 obtain⟨vs,a,b⟩:=h;exact⟨vs,m _ _ a (l.not a λ_ z=>nomatch z),ay.mv m l (nC ts) b⟩
theorem Gr.mv {K:HD}{T:List Lg}{H H':Hp}{n:Nat}{f:Kn->R3}{d:Lg}(h:Gr K H n f d)(m:Mv T H H')(l:jq H T):Gr K H' n f d:=by obtain⟨ts,p,g⟩:=h;exact⟨ts,p,g.mv m l⟩
theorem FU {K:HD}{H:Hp}{n:Nat}{f:Kn->R3}{d b:Lg}{t:Kn}(h:Gr K H n f d)(ht:t∈aW n)(hb:H b=some (.tup (fF t))):∃ v,xO H d (.ref b) (some v)/\aA K H (wD (f t)) v:=by
 obtain⟨ts,p,vs,a,q⟩:=h;obtain⟨v,e,hv⟩:=BG (f:=λt=>wD (f t)) q (p.mem_iff.mpr ht);refine⟨v,?_,hv⟩;have:=xO.t (k:=cE t) a (by rw[Ge];exact hb)
 rwa [e] at this
theorem CO {n:Nat}(h:n<=7):(aW n).Nodup:=by
 match n,h with
 |0,_=>decide +kernel
 |1,_=>decide +kernel
 |2,_=>decide +kernel
 |3,_=>decide +kernel
 |4,_=>decide +kernel
 |5,_=>decide +kernel
 |6,_=>decide +kernel
 |7,_=>decide +kernel
theorem fB {n:Nat}:(aW n).length=n^3:=by
 unfold aW;have h1:∀ (m:Nat) {α:Type} (g:Nat->List α) (k:Nat),(∀ i,(g i).length=k)->((L0 m).flatMap g).length=m*k:=λm α g k hg=>by
  induction m with
  |zero=>simp
  |succ m ih=>rw[N8,Oi,LC,ih];simp[hg,Q_]
 rw[h1 n _ (n*n) λi=>by rw[h1 n _ n λj=>by simp]];rw[SL,Nat.pow_two,SK n (n*n)]
theorem Kt {n:Nat}(h:n<=7)(m:t∈aW n):t∈aW 7:=by
 rw[bV] at m ⊢;lia
theorem EI {n:Nat}(h:n<=7)(p:ts.Perm (aW n))(hl:ts.length=vs.length):C9 (kM ts vs):=
 vv (yk hl) (p.nodup_iff.mpr (CO h)) λt ht=>Kt h (p.mem_iff.mp ht)
def kF (K:HD)(H:Hp)(n:Nat)(f:Kn->R3)(v:V):Prop:=∃ a C dx d,v=.ref a/\eR K "Grid" C/\H a=some (.ins C dx [("knots",.int n),("table",.ref d)])/\Gr K H n f d
theorem kF.same {K:HD}{H H':Hp}{n:Nat}{f:Kn->R3}{v:V}(h:kF K H n f v)(s:af H H'):kF K H' n f v:=by obtain⟨a,C,dx,d,h1,h2,h3,h4⟩:=h;exact⟨a,C,dx,d,h1,h2,s _ _ h3,h4.same s⟩
section
variable {K:HD}{g:TG}{tt:TT}{te:TE}{σ0:L2.St}{Fin:List V->Hp->Prop}{H1:Hp}
theorem wj {d:Lg}{o:Obj}{kvs:List (List eK × V)}{bs:List Bool} (hH:H1 d=some (.frz o (.dT kvs))) (hlb:bs.length=kvs.length) (hl:kvs.length <= 1000)
  (he:∀ (i:Nat) (k:List eK) (x:V) (ka T:Lg) (b:Bool) (H:Hp),kvs[i]?=some (k,x)->bs[i]?=some b->af H1 H->H ka=some (.tup (k.map kV))->H T=some (.tup [.ref ka,x])->mN g tt te σ0 (.ref T) H λy H'=>af H H'/\y=.bl b)
  (hd:∀ H,af H1 H->Fin (bs.map V.bl) H):gg (JM d o kvs) g tt te σ0 Fin H1:=by
 refine⟨λi m ys H=>m=kvs.length-i/\i<=kvs.length/\af H1 H/\ys=(bs.take i).map V.bl,⟨kvs.length,by lia,LY _,af.refl _,rfl⟩,?_⟩;rintro i m ys H ⟨rfl,hi,s,rfl⟩;have hyl:((bs.take i).map V.bl).length<=1000:=by rw[K',L5];lia
 by_cases hlt:i<kvs.length
 ·refine .inr ⟨⟨s _ _ hH,hlt⟩,bH hyl,λv H3 y3=>?_⟩;obtain⟨k,x,ka,T,e1,e2,e3,rfl,rfl⟩:=y3;have sT:af H (upd H T (.tup [.ref ka,x])):=af.new e3;have hb:bs[i]?=some bs[i]:=by simp[show i<bs.length by lia]
  refine he i k x ka T bs[i] _ e1 hb (s.trans sT) (sT _ _ e2) ae _ (λy H' ⟨s',hy⟩=>⟨kvs.length-(i+1),by lia,rfl,hlt,(s.trans sT).trans s',?_⟩) λH5=>∃ m',m'<kvs.length-i/\(m'=kvs.length-(i+1)/\i+1<=kvs.length/\af H1 H5/\(bs.take i).map V.bl=(bs.take (i+1)).map V.bl)
  rw[bC hb,Mg,hy];rfl
 ·have e:i=kvs.length:=by lia
  subst e;refine .inl ⟨⟨s _ _ hH,Lc _⟩,bO hyl,?_⟩;rw[LI (by lia)];exact hd H s
end
section
variable {K:HD}{g:TG}{tt:TT}{tb:TB}{σ0:L2.St}
theorem mD {a:Lg}{b:Bool}{xs:List V}{Fin:List V->Hp->Prop}{H1:Hp} (Pv:Nat->List V->Hp->Prop) (h0:Pv 0 [] H1) (hsrc:∀ i ys H,i <= xs.length->Pv i ys H->bY K H a xs b)
  (he:∀ i x ys H,xs[i]?=some x->Pv i ys H->∀ R:L2.St->Hp->List V->Prop,(∀ σ' H' ys',Pv (i+1) ys' H'->R σ' H' ys')->∀ S:Hp->Prop,g x σ0 H λσ' H4=>tt σ' H4 λc H5=>if c=true then tb σ' H5 ys R else S H5)
  (hd:∀ ys H,Pv xs.length ys H->ys.length<=1000/\Fin ys H):wc (qi K a b) g tt tb σ0 Fin H1:=by
 refine⟨λi m ys H=>m=xs.length-i/\i<=xs.length/\Pv i ys H,⟨xs.length,by lia,LY _,h0⟩,?_⟩;rintro i m ys H ⟨rfl,hi,p⟩;have q:=hsrc i ys H hi p
 by_cases hlt:i<xs.length
 ·have go:(qi K a b).go i H:=by
   cases b with
   |true=>exact⟨xs,xs[i],q,by simp[hlt]⟩
   |false=>exact⟨xs,xs[i],q,by simp[hlt]⟩
  refine .inr ⟨go,λx H3 y3=>?_⟩;have e3:H3=H/\xs[i]?=some x:=by
   cases b with
   |true=>exact⟨y3.1,y3.2 xs q⟩
   |false=>exact⟨y3.1,y3.2 xs q⟩
  obtain⟨rfl,hx⟩:=e3;exact he i x ys _ hx p _ (λσ' H' ys' p'=>⟨xs.length-(i+1),by lia,rfl,hlt,p'⟩) λH5=>∃ m',m'<xs.length-i/\(m'=xs.length-(i+1)/\i+1<=xs.length/\Pv (i+1) ys H5)
 ·have e:i=xs.length:=by lia
  subst e;have stop:(qi K a b).stop xs.length H:=by
   cases b with
   |true=>exact⟨xs,q,Lc _⟩
   |false=>exact⟨xs,q,Lc _⟩
  exact .inl ⟨stop,bO (hd ys H p).1,(hd ys H p).2⟩
theorem lm {a:Lg}{b:Bool}{xs:List V}{σ:L2.St}{H:Hp}{ys:List V}{Q:L2.St->Hp->List V->Prop} (Pv:Nat->L2.St->List V->Hp->Prop) (h0:Pv 0 σ ys H) (hsrc:∀ i σ ys H,i <= xs.length->Pv i σ ys H->bY K H a xs b)
  (he:∀ i x σ ys H,xs[i]?=some x->Pv i σ ys H->∀ R:L2.St->Hp->List V->Prop,(∀ σ' H' ys',Pv (i+1) σ' ys' H'->R σ' H' ys')->∀ S:L2.St->Hp->Prop,g x σ H λσ' H4=>tt σ' H4 λc H5=>if c=true then tb σ' H5 ys R else S σ' H5)
  (hd:∀ σ ys H,Pv xs.length σ ys H->Q σ H ys):∃ W:Nat->Nat->L2.St->Hp->List V->Prop,(∃ m,W 0 m σ H ys)/\∀ i m σ2 H2 ys2,W i m σ2 H2 ys2 ->
   ((qi K a b).stop i H2/\Q σ2 H2 ys2) \/
   ((qi K a b).go i H2/\∀ x H3,(qi K a b).yld i H2 x H3->g x σ2 H3 λσ3 H4=>tt σ3 H4 λb H5=>if b=true then tb σ3 H5 ys2 λσ' H' ys'=>∃ m',m'<m/\W (i+1) m' σ' H' ys' else ∃ m',m'<m/\W (i+1) m' σ3 H5 ys2):=by
 refine⟨λi m σ H ys=>m=xs.length-i/\i<=xs.length/\Pv i σ ys H,⟨xs.length,by lia,LY _,h0⟩,?_⟩;rintro i m σ H ys ⟨rfl,hi,p⟩;have q:=hsrc i σ ys H hi p
 by_cases hlt:i<xs.length
 ·have go:(qi K a b).go i H:=by
   cases b with
   |true=>exact⟨xs,xs[i],q,by simp[hlt]⟩
   |false=>exact⟨xs,xs[i],q,by simp[hlt]⟩
  refine .inr ⟨go,λx H3 y3=>?_⟩;have e3:H3=H/\xs[i]?=some x:=by
   cases b with
   |true=>exact⟨y3.1,y3.2 xs q⟩
   |false=>exact⟨y3.1,y3.2 xs q⟩
  obtain⟨rfl,hx⟩:=e3;exact he i x σ ys _ hx p _ (λσ' H' ys' p'=>⟨xs.length-(i+1),by lia,rfl,hlt,p'⟩) λσ5 H5=>∃ m',m'<xs.length-i/\(m'=xs.length-(i+1)/\i+1<=xs.length/\Pv (i+1) σ5 ys H5)
 ·have e:i=xs.length:=by lia
  subst e;have stop:(qi K a b).stop xs.length H:=by
   cases b with
   |true=>exact⟨xs,q,Lc _⟩
   |false=>exact⟨xs,q,Lc _⟩
  exact .inl ⟨stop,hd σ ys H p⟩
end
def zP (K:HD)(a:Lg)(rows:List (List Int)):Prop:=∃ bs:List Lg,KT K a (bs.map V.ref)/\Ra (λb r=>KT K b (r.map V.int)) bs rows
def KQ (K:HD)(rows:List (List Int)):TE:=λ_ H Q=>∀ a,zP K a rows->Q (.ref a) H
theorem yM {X:Cx}{K:HD}{x:Str}{rows:List (List Int)}{pos:Pos}(hg:Gl X x)(hm:∃ a,X.mg x=some (.ref a)/\zP K a rows)(hd:(x==("__debug__":Str))=false:=by decide):WE X (.Name x pos) (KQ K rows):=by
 refine⟨?_⟩;obtain⟨a,e,z⟩:=hm;intro pins s σ H Q I h;exact jC I hg e ⟨.ref a,H,I,rfl,h a z⟩ hd
theorem fQ {K:HD}{H:Hp}:∀ ns:List Int,ay K H (ns.map N9) (ns.map V.int)
 |[]=>.nil
 |n::ns=>.cons (.int n) (fQ ns)
theorem cn {K:HD}{H:Hp}:∀ {ns:List Int}{ys:List V},ay K H (ns.map N9) ys->ys=ns.map V.int
 |[],_,h=>by cases h;rfl
 |n::ns,_,h=>by
  cases h with
  |cons h1 h2=>
   cases h1;rw[cn h2];rfl
def rh (a b k:Nat):List Kn:=(L0 k).map λc=>(a,b,c)
def qj (n a j:Nat):List Kn:=(L0 j).flatMap λb=>rh a b n
def qw (n i:Nat):List Kn:=(L0 i).flatMap λa=>qj n a n
theorem Ek (n:Nat):qw n n=aW n:=rfl
theorem vH (a b k:Nat):rh a b (k+1)=rh a b k++[(a,b,k)]:=by unfold rh;rw[N8,Mg];rfl
theorem oJ (n a j:Nat):qj n a (j+1)=qj n a j++rh a j n:=by unfold qj;rw[N8,Oi];simp
theorem oZ (n i:Nat):qw n (i+1)=qw n i++qj n i n:=by unfold qw;rw[N8,Oi];simp
theorem yr (a b k:Nat):(rh a b k).length=k:=by unfold rh;simp
theorem tJ (n a:Nat):∀ j,(qj n a j).length=j*n
 |0=>by simp[qj]
 |j+1=>by rw[oJ,LC,tJ n a j,yr,Q_]
theorem yO (n:Nat):∀ i,(qw n i).length=i*(n*n)
 |0=>by simp[qw]
 |i+1=>by rw[oZ,LC,yO n i,tJ,Q_]
theorem zk {a b k:Nat}:t∈rh a b k↔t.1=a/\t.2.1=b/\t.2.2<k:=by
 obtain⟨x,y,z⟩:=t;unfold rh;simp only[Md,M1,T1];constructor
 ·rintro⟨c,hc,rfl,rfl,rfl⟩;exact⟨rfl,rfl,hc⟩
 ·rintro⟨h1,h2,h3⟩;exact⟨z,h3,h1.symm,h2.symm,rfl⟩
theorem ym {n a j:Nat}:t∈qj n a j↔t.1=a/\t.2.1<j/\t.2.2<n:=by
 unfold qj;simp only[Ot,M1,zk];constructor
 ·rintro⟨b,hb,h1,h2,h3⟩;exact⟨h1,by lia,h3⟩
 ·rintro⟨h1,h2,h3⟩;exact⟨t.2.1,h2,h1,rfl,h3⟩
theorem D4 {n i:Nat}:t∈qw n i↔t.1<i/\t.2.1<n/\t.2.2<n:=by
 unfold qw;simp only[Ot,M1,ym];constructor
 ·rintro⟨b,hb,h1,h2,h3⟩;exact⟨by lia,h2,h3⟩
 ·rintro⟨h1,h2,h3⟩;exact⟨t.1,h1,rfl,h2,h3⟩
theorem DN {n i j k:Nat}(h:n<=7)(hi:i<n)(hj:j<n)(hk:k<=n):(qw n i++qj n i j++rh i j k).length<=343:=by
 rw[LC,LC,yO,tJ,yr];have h1:n*n<=49:=To h h;have h2:i*(n*n)<=6*49:=To (by lia) h1;have h3:j*n<=6*7:=To (by lia) h;lia
theorem rM {n i:Nat}{x:V}(h:((on n).map V.int)[i]?=some x):i<n/\x=.int (i:Int):=by
 rw[Lk] at h;obtain⟨z,e,rfl⟩:=Lx.mp h;have hi:i<(on n).length:=(Ll.mp e).1;rw[gh] at hi;rw[yg hi] at e;cases e;exact⟨hi,rfl⟩
theorem KY:[a,b,c,d].length<=Ly:=by show 4<=Ly;decide
structure Q3.Wi (c:Q3)(m:Rat):Prop where
 a0:0<=c.a
 a1:c.a<=m
 b0:0<=c.b
 b1:c.b<=m
 c0:0<=c.c
 c1:c.c<=m
def iM (H H':Hp):Prop:=∀ b o,H b=some o->(∀ kvs,o≠.dT kvs)->H' b=some o
theorem iM.put (h:H d=some (.dT kvs)):iM H (upd H d (.dT kvs')):=λb o e n=>by
 rw[aq (λz=>by rw[z,h] at e;cases e;exact n _ rfl)];exact e
theorem iM.cut (h:iM H H'):iM (TR.cut T H) (TR.cut T H'):=λb o e n=>by
 unfold TR.cut at e ⊢
 split at e
 ·cases e
 ·rename_i nb
  rw[LB nb];exact h b o e n
theorem Rd.sameD (e:iM H H')(h:Rd H a (.lst xs)):Rd H' a (.lst xs):=by
 rcases h with h|⟨o,h⟩
 ·exact .inl (e _ _ h λ_ z=>nomatch z)
 ·exact .inr ⟨o,e _ _ h λ_ z=>nomatch z⟩
mutual
theorem aA.sameD {K:HD}{H H':Hp}(e:iM H H'):∀ {d:LU}{v:V},aA K H d v->aA K H' d v
 |_,_,.non=>.non
 |_,_,.bl b=>.bl b
 |_,_,.int i=>.int i
 |_,_,.str x=>.str x
 |_,_,.lst h q=>.lst (Rd.sameD e h) (ay.sameD e q)
 |_,_,.tup h q=>.tup (e _ _ h λ_ z=>nomatch z) (ay.sameD e q)
 |_,_,.dct h=>.dct (e _ _ h λ_ z=>nomatch z)
theorem ay.sameD {K:HD}{H H':Hp}(e:iM H H'):∀ {ds:List LU}{vs:List V},ay K H ds vs->ay K H' ds vs
 |_,_,.nil=>.nil
 |_,_,.cons h q=>.cons (aA.sameD e h) (ay.sameD e q)
end
theorem c9.sameD (h:c9 H t r)(e:iM H H'):c9 H' t r:=by
 obtain⟨c,k,h1,h2,h3,h4⟩:=h;exact⟨c,k,e _ _ h1 (λ_ z=>nomatch z),e _ _ h2 (λ_ z=>nomatch z),h3,h4⟩
theorem Mv.wide (m:Mv [t,r] H H'):Mv [t,r,d] H H':=λb o e n=>m b o e λz=>n (by
 simp only[Ln,LF,Nd] at z ⊢;rcases z with z|z
 ·exact .inl z
 ·exact .inr (.inl z))
theorem B2 (i j:Int):(if j<i then j else i)=min i j:=by
 by_cases h:j<i
 ·rw[LL h];lia
 ·rw[LB h];lia
end TR
namespace TR
open PySem PySem.Spec PyProof.Rows L2
def un:Nat->Kn
 |0=>(1,0,0)
 |1=>(0,1,0)
 |_=>(0,0,1)
def am (s t:Kn):Kn:=(s.1+t.1,s.2.1+t.2.1,s.2.2+t.2.2)
def aL (x y z:Int):Nat->Int
 |0=>x
 |1=>y
 |_=>z
abbrev Pc:=Kn×Int
def CK (p:Pc):LU:=.tuple [Fn p.1,.int p.2]
def fX (g:Nat->Int)(whole:Int)(u v w:Nat):List Pc:=[((0,0,0),whole-g u),(un u,g u-g v),(am (un u) (un v),g v-g w),(am (am (un u) (un v)) (un w),g w)]
def dG:List (Nat×Nat×Nat):=[(0,1,2),(0,2,1),(1,0,2),(1,2,0),(2,0,1),(2,1,0)]
theorem rS (h:o∈dG):o.1<3/\o.2.1<3/\o.2.2<3:=by
 simp only[dG,Ln,LF,Nd] at h;rcases h with rfl|rfl|rfl|rfl|rfl|rfl<;>decide
theorem GC (h:l.Perm (on 3)):∃ o∈dG,l=[(o.1:Int),(o.2.1:Int),(o.2.2:Int)]:=by
 have h':l.Perm [0,1,2]:=h;rcases ksk_perm3 h' with e|e|e|e|e|e
 ·exact⟨(0,1,2),by decide,e⟩
 ·exact⟨(0,2,1),by decide,e⟩
 ·exact⟨(1,0,2),by decide,e⟩
 ·exact⟨(1,2,0),by decide,e⟩
 ·exact⟨(2,0,1),by decide,e⟩
 ·exact⟨(2,1,0),by decide,e⟩
theorem yj {x y z:Int}{u:Nat}(h:u<3):DV [V.int x,V.int y,V.int z] (u:Int)=some (.int (aL x y z u)):=by
 match u,h with
 |0,_=>rfl
 |1,_=>rfl
 |2,_=>rfl
theorem jA {x y z:Int}{u:Nat}(h:u<3):[x,y,z].getD (u:Int).toNat 0=aL x y z u:=by
 match u,h with
 |0,_=>rfl
 |1,_=>rfl
 |2,_=>rfl
theorem BD {K:HD}{a:Lg}{u:Nat}(h:zP K a [[1,0,0],[0,1,0],[0,0,1]])(hu:u<3):∃ (bs:List V) (b:Lg),KT K a bs/\DV bs (u:Int)=some (.ref b)/\KT K b (fF (un u)):=by
 obtain⟨bs,h1,h2⟩:=h;cases h2 with
 |cons k1 h2=>
  cases h2 with
  |cons k2 h2=>
   cases h2 with
   |cons k3 h2=>
    cases h2
    match u,hu with
    |0,_=>exact⟨_,_,h1,rfl,k1⟩
    |1,_=>exact⟨_,_,h1,rfl,k2⟩
    |2,_=>exact⟨_,_,h1,rfl,k3⟩
theorem Cr (s t:Kn):(OO (·+·) [(s.1:Int),(s.2.1:Int),(s.2.2:Int)] [(t.1:Int),(t.2.1:Int),(t.2.2:Int)]).map V.int=fF (am s t):=by
 simp only[P0,Qo,LA,NL,fF,am,Int.natCast_add]
theorem nH:∀ ps:List Pc,iP (ps.map CK)=true
 |[]=>rfl
 |p::ps=>by
  rw[LA,iP,nH ps];rfl
theorem Bj {K:HD}{H:Hp}{p:Pc}{v:V}(h:aA K H (CK p) v):∃ a c,v=.ref a/\H a=some (.tup [.ref c,.int p.2])/\H c=some (.tup (fF p.1)):=by
 cases h with
 |tup h q=>
  cases q with
  |cons q1 q=>
   cases q with
   |cons q2 q=>
    cases q2;cases q;obtain⟨c,rfl,hc⟩:=lJ q1;exact⟨_,c,rfl,h,hc⟩
def kL (g:Nat->Int)(whole:Int)(k b:Nat):Int:=if b=1 then g k else whole-g k
def cF (g:Nat->Int)(whole:Int)(t:Kn):Nat->Int
 |0=>1
 |1=>1*kL g whole 0 t.1
 |2=>1*kL g whole 0 t.1*kL g whole 1 t.2.1
 |_=>1*kL g whole 0 t.1*kL g whole 1 t.2.1*kL g whole 2 t.2.2
def cr (g:Nat->Int)(whole:Int):List Pc:=(aW 2).map λt=>(t,cF g whole t 3)
theorem Bk {x y z whole:Int}{b:Nat}(hx:Sm b x)(hy:Sm b y)(hz:Sm b z)(hw:Sm b whole)(k c:Nat):Sm (b+1) (kL (aL x y z) whole k c):=by
 have hg:Sm b (aL x y z k):=by
  match k with
  |0=>exact hx
  |1=>exact hy
  |_+2=>exact hz
 unfold kL
 split
 ·exact hg.mono (by lia)
 ·exact hw.sub hg
theorem uA {whole:Int}{b:Nat}(h:∀ k c,Sm (b+1) (kL g whole k c))(t:Kn):∀ j,Sm (1+3*(b+1)) (cF g whole t j)
 |0=>Sm.mono (k:=1) (show Sm 1 (1:Int) by unfold Sm;decide) (by lia)
 |1=>((show Sm 1 (1:Int) by unfold Sm;decide).mul (h _ _)).mono (by lia)
 |2=>(((show Sm 1 (1:Int) by unfold Sm;decide).mul (h _ _)).mul (h _ _)).mono (by lia)
 |_+3=>((((show Sm 1 (1:Int) by unfold Sm;decide).mul (h _ _)).mul (h _ _)).mul (h _ _)).mono (by lia)
def EQ (f:Kn->R3)(base:Kn)(h:R3->Int)(ps:List Pc):Int:=(OO (·*·) (ps.map λp=>h (f (am base p.1))) (ps.map (·.2))).sum
def pJ (f:Kn->R3)(base:Kn)(h:R3->Int)(ps:List Pc):Rat:=((EQ f base h ps:Int):Rat)/(((ps.map (·.2)).sum:Int):Rat)
def Ai (f:Kn->R3)(base:Kn)(ps:List Pc):Q3:=⟨pJ f base R3.a ps,pJ f base R3.b ps,pJ f base R3.c ps⟩
theorem JV {i:Nat}(h:(Ai f base ps).ds[i]?=some d):∃ g:R3->Int,d=rD (pJ f base g ps)/\i<3/\∀ r:R3,r.vs[i]?=some (.int (g r)):=by
 rcases uU h with ⟨rfl,rfl⟩|⟨rfl,rfl⟩|⟨rfl,rfl⟩
 ·exact⟨R3.a,rfl,by decide,λr=>rfl⟩
 ·exact⟨R3.b,rfl,by decide,λr=>rfl⟩
 ·exact⟨R3.c,rfl,by decide,λr=>rfl⟩
def dW (n:Nat):Int:=60/((n:Int)-1)
theorem ik {n:Nat}(h2:2<=n)(h7:n<=7):0<dW n/\dW n*((n:Int)-1)=60/\dW n<=60:=by
 match n,h2,h7 with
 |2,_,_=>decide
 |3,_,_=>decide
 |4,_,_=>decide
 |5,_,_=>decide
 |6,_,_=>decide
 |7,_,_=>decide
def cH (n:Nat)(x:Rat):Rat:=((x.num:Int):Rat)/(((x.den:Int)*dW n:Int):Rat)
def Ba (s:Rat):Int:=s.num.fdiv (s.den:Int)
def cM (n:Nat)(x:Rat):Nat:=(min (Ba (cH n x)) ((n:Int)-2)).toNat
def fC (n:Nat)(x:Rat):Rat:=cH n x-((cM n x:Int):Rat)
theorem vk {n:Nat}(h2:2<=n)(h7:n<=7):((dW n:Int):Rat)≠0:=by
 intro z;have:dW n=0:=by exact_mod_cast z
 have:=(ik h2 h7).1;lia
theorem tT {n:Nat}(h2:2<=n)(h7:n<=7)(x:Rat):cH n x=x/((dW n:Int):Rat):=by
 have h1:=je x;have h2:=vk h2 h7;have e:=gE x;unfold cH;rw[Lw];generalize ((x.num:Int):Rat)=a at *;generalize ((x.den:Int):Rat)=b at *;generalize ((dW n:Int):Rat)=c at *;grind
theorem sH (s:Rat):Ba s=s.floor:=by
 unfold Ba;rw[MC _ (by have:=s.den_pos;lia),Rat.floor_def]
theorem CB (s:Rat):((Ba s:Int):Rat)<=s:=by rw[sH];exact Rat.floor_le s
theorem BC (s:Rat):s<((Ba s+1:Int):Rat):=by rw[sH];exact Rat.lt_floor_add_one s
structure Dv (n:Nat)(x:Rat):Prop where
 n2:2<=n
 n7:n<=7
 lo:0<=x
 hi:x<=((60:Int):Rat)
section
variable {n:Nat}{x:Rat}(h:Dv n x)
include h
theorem F8:0<=cH n x:=by
 rw[tT h.n2 h.n7];have hp:(0:Rat)<((dW n:Int):Rat):=by exact_mod_cast (ik h.n2 h.n7).1
 refine O2 (c:=((dW n:Int):Rat)) ?_ hp;rw[Rc (vk h.n2 h.n7),Rat.zero_mul];exact h.lo
theorem GV:cH n x<=(((n:Int)-1:Int):Rat):=by
 rw[tT h.n2 h.n7];have hp:(0:Rat)<((dW n:Int):Rat):=by exact_mod_cast (ik h.n2 h.n7).1
 have e:((dW n:Int):Rat)*(((n:Int)-1:Int):Rat)=((60:Int):Rat):=by
  rw[<- Lw,(ik h.n2 h.n7).2.1]
 refine O2 (c:=((dW n:Int):Rat)) ?_ hp;rw[Rc (vk h.n2 h.n7),Rat.mul_comm,e];exact h.hi
theorem GG:0<=Ba (cH n x):=by
 rw[sH];exact Rat.le_floor_iff.mpr (by simpa using F8 h)
theorem nA:((cM n x:Nat):Int)=min (Ba (cH n x)) ((n:Int)-2):=by
 unfold cM;have h1:=GG h;have h2:=h.n2;lia
theorem cR:cM n x+2<=n:=by
 have h1:=nA h;have h2:=h.n2;lia
theorem wM:0<=fC n x:=by
 unfold fC;have h1:=CB (cH n x);have h2:(((cM n x:Nat):Int):Rat)<=((Ba (cH n x):Int):Rat):=by
  rw[nA h]
  exact_mod_cast Int.min_le_left _ _
 grind
theorem wd:fC n x<=1:=by
 unfold fC;have h1:=BC (cH n x);have h2:=GV h;rw[nA h]
 by_cases hc:Ba (cH n x)<=(n:Int)-2
 ·rw[Int.min_eq_left hc];rw[MO] at h1;have e:((1:Int):Rat)=1:=rfl;grind
 ·rw[Int.min_eq_right (by lia)];have e:((((n:Int)-1:Int)):Rat)=(((n:Int)-2:Int):Rat)+1:=by
   rw[show((n:Int)-1)=((n:Int)-2)+1 by lia,MO];rfl
  grind
end
def bL (x y z:Rat):Nat->Rat
 |0=>x
 |1=>y
 |_=>z
def de (h:Kn->Rat)(p:Nat->Rat)(u v w:Nat):Rat:=h (0,0,0)*(1-p u)+h (un u)*(p u-p v)+h (am (un u) (un v))*(p v-p w)+h (am (am (un u) (un v)) (un w))*p w
def sI (h:Kn->Rat)(x y z:Rat):Rat:=h (0,0,0)*((1-x)*(1-y)*(1-z))+h (0,0,1)*((1-x)*(1-y)*z)+h (0,1,0)*((1-x)*y*(1-z))+h (0,1,1)*((1-x)*y*z) +
 h (1,0,0)*(x*(1-y)*(1-z))+h (1,0,1)*(x*(1-y)*z)+h (1,1,0)*(x*y*(1-z))+h (1,1,1)*(x*y*z)
def tV (p:Nat->Rat)(o:Nat×Nat×Nat):Prop:=o∈dG/\p o.2.1<=p o.1/\p o.2.2<=p o.2.1
def iZ (x y z:Rat):Nat×Nat×Nat:=if y<=x then(if z<=y then(0,1,2) else if z<=x then(0,2,1) else(2,0,1)) else(if z<=x then(1,0,2) else if z<=y then(1,2,0) else(2,1,0))
theorem im (x y z:Rat):tV (bL x y z) (iZ x y z):=by
 unfold iZ
 split
 ·rename_i h1
  split
  ·rename_i h2
   exact⟨by decide,h1,h2⟩
  ·rename_i h2
   split
   ·rename_i h3
    exact⟨by decide,h3,by show y<=z;grind⟩
   ·rename_i h3
    exact⟨by decide,by show x<=z;grind,h1⟩
 ·rename_i h1
  split
  ·rename_i h2
   exact⟨by decide,by show x<=y;grind,h2⟩
  ·rename_i h2
   split
   ·rename_i h3
    exact⟨by decide,h3,by show x<=z;grind⟩
   ·rename_i h3
    exact⟨by decide,by show y<=z;grind,by show x<=y;grind⟩
theorem rd {x y z:Rat}(a:tV (bL x y z) o)(b:tV (bL x y z) o'):de h (bL x y z) o.1 o.2.1 o.2.2=de h (bL x y z) o'.1 o'.2.1 o'.2.2:=by
 obtain⟨m,a1,a2⟩:=a;obtain⟨m',b1,b2⟩:=b;simp only[dG,Ln,LF,Nd] at m m';rcases m with rfl|rfl|rfl|rfl|rfl|rfl<;>rcases m' with rfl|rfl|rfl|rfl|rfl|rfl <;>
  first|rfl|(simp only[bL,de,un,am,NM,MA] at *;generalize h (0,0,0)=h0 at *;generalize h (1,0,0)=h1 at *;generalize h (0,1,0)=h2 at *;generalize h (0,0,1)=h3 at *;generalize h (1,1,0)=h4 at *;generalize h (1,0,1)=h5 at *;generalize h (0,1,1)=h6 at *;generalize h (1,1,1)=h7 at *;first|(have e:x=y:=(by grind);subst e;first|grind|(have e:x=z:=(by grind);subst e;grind))|(have e:y=z:=(by grind);subst e;grind)|(have e:x=z:=(by grind);subst e;grind))
theorem Bo {f:Kn->R3}{base:Kn}{g:R3->Int}{x y z B:Int}{X Y Z:Rat}{u v w:Nat} (hB:(B:Rat) ≠ 0) (hx:(x:Rat)=X * (B:Rat)) (hy:(y:Rat)=Y * (B:Rat)) (hz:(z:Rat)=Z * (B:Rat)) :
  pJ f base g (fX (aL x y z) B u v w)=de (λt=>((g (f (am base t)):Int):Rat)) (bL X Y Z) u v w:=by
 have hp:∀ k,((aL x y z k:Int):Rat)=bL X Y Z k*(B:Rat):=λk=>by
  match k with
  |0=>exact hx
  |1=>exact hy
  |_+2=>exact hz
 have hu:=hp u;have hv:=hp v;have hw:=hp w;unfold pJ EQ fX de;simp only[LA,NL,P0,Qo,QK,SH,MO,Lw,Mn];rw[hu,hv,hw];have e0:((0:Int):Rat)=0:=rfl;rw[e0];generalize ((g (f (am base (0,0,0))):Int):Rat)=a0;generalize ((g (f (am base (un u))):Int):Rat)=a1;generalize ((g (f (am base (am (un u) (un v)))):Int):Rat)=a2;generalize ((g (f (am base (am (am (un u) (un v)) (un w)))):Int):Rat)=a3;generalize bL X Y Z u=p;generalize bL X Y Z v=q;generalize bL X Y Z w=r;generalize (B:Rat)=b at *;grind
theorem u5:aW 2=[(0,0,0),(0,0,1),(0,1,0),(0,1,1),(1,0,0),(1,0,1),(1,1,0),(1,1,1)]:=by decide
theorem pH {B:Int}{u v w:Nat}:((fX g B u v w).map (·.2)).sum=B:=by
 unfold fX;simp only[LA,NL,QK,SH];lia
theorem lR {x y z B:Int}:((cr (aL x y z) B).map (·.2)).sum=B*B*B:=by
 unfold cr;rw[u5];have n01:¬ (0:Nat)=1:=by decide
 simp only[LA,NL,QK,SH,cF,kL,LB n01,Nz,aL];grind
theorem As {f:Kn->R3}{base:Kn}{g:R3->Int}{x y z B:Int}{X Y Z:Rat} (hB:(B:Rat) ≠ 0) (hx:(x:Rat)=X * (B:Rat)) (hy:(y:Rat)=Y * (B:Rat)) (hz:(z:Rat)=Z * (B:Rat)) :
  pJ f base g (cr (aL x y z) B)=sI (λt=>((g (f (am base t)):Int):Rat)) X Y Z:=by
 have hN:((EQ f base g (cr (aL x y z) B):Int):Rat)=sI (λt=>((g (f (am base t)):Int):Rat)) X Y Z*((B:Rat)*(B:Rat)*(B:Rat)):=by
  unfold EQ cr sI;rw[u5];have n01:¬ (0:Nat)=1:=by decide
  simp only[LA,NL,P0,Qo,QK,SH,cF,kL,LB n01,Nz,aL,MO,Lw,Mn];rw[hx,hy,hz];have e0:((0:Int):Rat)=0:=rfl;have e1:((1:Int):Rat)=1:=rfl;rw[e0,e1];clear hx hy hz hB;generalize ((g (f (am base (0,0,0))):Int):Rat)=a0;generalize ((g (f (am base (0,0,1))):Int):Rat)=a1;generalize ((g (f (am base (0,1,0))):Int):Rat)=a2;generalize ((g (f (am base (0,1,1))):Int):Rat)=a3;generalize ((g (f (am base (1,0,0))):Int):Rat)=a4;generalize ((g (f (am base (1,0,1))):Int):Rat)=a5;generalize ((g (f (am base (1,1,0))):Int):Rat)=a6;generalize ((g (f (am base (1,1,1))):Int):Rat)=a7;generalize (B:Rat)=b;grind
 unfold pJ;rw[hN,lR,Lw,Lw];refine T4 λz=>?_
 generalize (B:Rat)=b at *;grind
def ui (n:Nat)(c:Q3):Kn:=(cM n c.a,cM n c.b,cM n c.c)
def rA (n:Nat)(f:Kn->R3)(c:Q3)(g:R3->Int)(t:Kn):Rat:=((g (f (am (ui n c) t)):Int):Rat)
def jT (n:Nat)(c:Q3):Nat->Rat:=bL (fC n c.a) (fC n c.b) (fC n c.c)
def mQ (n:Nat)(f:Kn->R3)(c:Q3)(g:R3->Int):Rat:=de (rA n f c g) (jT n c) (iZ (fC n c.a) (fC n c.b) (fC n c.c)).1 (iZ (fC n c.a) (fC n c.b) (fC n c.c)).2.1 (iZ (fC n c.a) (fC n c.b) (fC n c.c)).2.2
def xF (n:Nat)(f:Kn->R3)(c:Q3)(g:R3->Int):Rat:=sI (rA n f c g) (fC n c.a) (fC n c.b) (fC n c.c)
def W4 (n:Nat)(f:Kn->R3)(c:Q3):Q3:=⟨mQ n f c R3.a,mQ n f c R3.b,mQ n f c R3.c⟩
def W8 (n:Nat)(f:Kn->R3)(c:Q3):Q3:=⟨xF n f c R3.a,xF n f c R3.b,xF n f c R3.c⟩
theorem Du {n:Nat}(h:tV (jT n c) o):de (rA n f c g) (jT n c) o.1 o.2.1 o.2.2=mQ n f c g:=rd h (im _ _ _)
theorem wQ {m:Nat}:∀ {l:List Int},(∀ x∈l,Sm m x)->Sm (m+l.length) l.sum
 |[],_=>Sm.mono (k:=0) (show Sm 0 (0:Int) by unfold Sm;decide) (LY _)
 |x::l,h=>by
  rw[QK,LK];exact(Sm.add ((h x Lr).mono (Pg m l.length)) (wQ λy hy=>h y (Le _ hy))).mono (by lia)
theorem kU {r:R3}(h:r.Wt):Sm 10 r.a/\Sm 10 r.b/\Sm 10 r.c:=by
 obtain⟨a0,a1,b0,b1,c0,c1⟩:=h;refine⟨?_,?_,?_⟩<;>(unfold Sm;lia)
theorem Cu {n:Nat}{m:Nat}(hw:∀ p∈ps,Sm 10 (g (f (am base p.1))))(hp:∀ p∈ps,Sm m p.2)(h0:(ps.map (·.2)).sum≠0):Bq (10+m+ps.length) (pJ f base g ps):=by
 refine eV h0 ?_ ?_
 ·have h1:∀ x∈OO (·*·) (ps.map λp=>g (f (am base p.1))) (ps.map (·.2)),Sm (10+m) x:=λx hx=>by
   rw[List.zipWith_map_left,List.zipWith_map_right,List.zipWith_self] at hx;obtain⟨p,hp',rfl⟩:=Md.mp hx;exact(hw p hp').mul (hp p hp')
  have:=wQ h1;rw[List.length_zipWith,K',K',Nat.min_self] at this;exact this
 ·have h1:∀ x∈ps.map (·.2),Sm m x:=λx hx=>by
   obtain⟨p,hp',rfl⟩:=Md.mp hx;exact hp p hp'
  have:=wQ h1;rw[K'] at this;exact this.mono (by lia)
def Q3.lst (q:Q3):LU:=.list q.ds
theorem GL {n k:Nat}{y:Rat}(h2:2<=n)(h7:n<=7)(h:Bq k y):Bq (k+6) (cH n y):=by
 obtain⟨ap0,ap1,ap2⟩:=ik h2 h7;exact eV (Mf h.ne (by lia)) (h.sn.mono (by lia)) (h.sd.mul (show Sm 6 (dW n) by unfold Sm;lia))
theorem xB {n k:Nat}{y:Rat}(dv:Dv n y)(h:Bq k y):Bq (k+10) (fC n y):=by
 have h1:=GL dv.n2 dv.n7 h;have h2:Bq 3 (((cM n y:Nat):Int):Rat):=oF (by have:=cR dv;have:=dv.n7;unfold Sm;lia) (by decide);exact Ok.mono (Bq.sub h1 h2) (by lia)
theorem lj (s:af H0 H)(h:H0 F=none):af H0 (upd H F o):=λb o' e=>by
 rw[aq (λz=>by rw[z,h] at e;cases e)];exact s _ _ e
theorem EU {K:HD}{H:Hp}{d1 d2:LU}{xs:List V}(h:ay K H [d1,d2] xs):∃ x y,xs=[x,y]/\aA K H d1 x/\aA K H d2 y:=by
 cases h with
 |cons h1 h=>
  cases h with
  |cons h2 h=>
   cases h;exact⟨_,_,rfl,h1,h2⟩
def kf (o:Nat×Nat×Nat):Nat->Nat
 |0=>o.1
 |1=>o.2.1
 |_=>o.2.2
def dC (o:Nat×Nat×Nat):Nat->Kn
 |0=>(0,0,0)
 |i+1=>am (dC o i) (un (kf o i))
theorem n0 {i:Nat}(h:o∈dG)(hi:i<=3):(dC o i).1<=1/\(dC o i).2.1<=1/\(dC o i).2.2<=1:=by
 simp only[dG,Ln,LF,Nd] at h
 match i,hi with
 |0,_=>rcases h with rfl|rfl|rfl|rfl|rfl|rfl<;>decide
 |1,_=>rcases h with rfl|rfl|rfl|rfl|rfl|rfl<;>decide
 |2,_=>rcases h with rfl|rfl|rfl|rfl|rfl|rfl<;>decide
 |3,_=>rcases h with rfl|rfl|rfl|rfl|rfl|rfl<;>decide
theorem CF {i:Nat}(h:o∈dG):kf o i<3:=by
 obtain⟨a,b,c⟩:=rS h
 match i with
 |0=>exact a
 |1=>exact b
 |_+2=>exact c
theorem KH (t:Kn):am (0,0,0) t=t:=by
 simp only[am,MA]
theorem Ke (t:Kn):am t (0,0,0)=t:=by
 simp only[am,NM]
theorem CG (r s t:Kn):am (am r s) t=am r (am s t):=by
 simp only[am,Ol]
theorem Gy {r:Nat}(hr:r<3):∃ m:Int,(fF t)[r]?=some (.int m)/\(fF t).set r (.int (m+1))=fF (am t (un r)):=by
 match r,hr with
 |0,_=>exact⟨_,rfl,by simp[fF,am,un]⟩
 |1,_=>exact⟨_,rfl,by simp[fF,am,un]⟩
 |2,_=>exact⟨_,rfl,by simp[fF,am,un]⟩
theorem zj {n k:Nat}(h:k<n):DZ n (k:Int)=some k:=by
 unfold DZ;simp[h]
theorem oh {K:HD}{H:Hp}(r:R3):ay K H r.ds r.vs:=.cons (.int _) (.cons (.int _) (.cons (.int _) .nil))
theorem JW (h:u.1<=1/\u.2.1<=1/\u.2.2<=1):u∈aW 2:=bV.mpr (by lia)
def s_ (h:Kn->Rat)(x y z:Rat):Rat:=de h (bL x y z) (iZ x y z).1 (iZ x y z).2.1 (iZ x y z).2.2
theorem cV {x y z:Rat}(a:tV (bL x y z) o):s_ h x y z=de h (bL x y z) o.1 o.2.1 o.2.2:=(rd (h:=h) a (im x y z)).symm
theorem Ju {y z:Rat}(y0:0<=y)(y1:y<=1)(z0:0<=z)(z1:z<=1):s_ h 1 y z=s_ (λt=>h (am t (1,0,0))) 0 y z:=by
 by_cases c:z<=y
 ·rw[cV (o:=(0,1,2)) ⟨by decide,y1,c⟩,cV (o:=(1,2,0)) ⟨by decide,c,z0⟩];simp only[de,bL,un,am,NM,MA];grind
 ·rw[cV (o:=(0,2,1)) ⟨by decide,z1,by show y<=z;grind⟩,cV (o:=(2,1,0)) ⟨by decide,by show y<=z;grind,y0⟩];simp only[de,bL,un,am,NM,MA];grind
theorem Jz {x z:Rat}(x0:0<=x)(x1:x<=1)(z0:0<=z)(z1:z<=1):s_ h x 1 z=s_ (λt=>h (am t (0,1,0))) x 0 z:=by
 by_cases c:z<=x
 ·rw[cV (o:=(1,0,2)) ⟨by decide,x1,c⟩,cV (o:=(0,2,1)) ⟨by decide,c,z0⟩];simp only[de,bL,un,am,NM,MA];grind
 ·rw[cV (o:=(1,2,0)) ⟨by decide,z1,by show x<=z;grind⟩,cV (o:=(2,0,1)) ⟨by decide,by show x<=z;grind,x0⟩];simp only[de,bL,un,am,NM,MA];grind
theorem Jw {x y:Rat}(x0:0<=x)(x1:x<=1)(y0:0<=y)(y1:y<=1):s_ h x y 1=s_ (λt=>h (am t (0,0,1))) x y 0:=by
 by_cases c:y<=x
 ·rw[cV (o:=(2,0,1)) ⟨by decide,x1,c⟩,cV (o:=(0,1,2)) ⟨by decide,c,y0⟩];simp only[de,bL,un,am,NM,MA];grind
 ·rw[cV (o:=(2,1,0)) ⟨by decide,y1,by show x<=y;grind⟩,cV (o:=(1,0,2)) ⟨by decide,by show x<=y;grind,x0⟩];simp only[de,bL,un,am,NM,MA];grind
theorem Gz {n b:Nat}{x p:Rat}(h2:2<=n)(h7:n<=7)(hb:b+2<=n)(p0:0<=p)(p1:p<=1)(hx:x=(((b:Nat):Int)+p)*((dW n:Int):Rat)):(cM n x=b/\fC n x=p)\/(p=1/\cM n x=b+1/\fC n x=0):=by
 have e:cH n x=((b:Nat):Int)+p:=by
  rw[tT h2 h7,hx];exact T4 (vk h2 h7)
 by_cases h:p=1
 ·subst h;have ef:Ba (((b:Nat):Int)+(1:Rat))=(b:Int)+1:=by
   rw[sH,show(((b:Nat):Int):Rat)+1=(((b:Int)+1:Int):Rat) by rw[MO];rfl,Rat.floor_intCast]
  unfold fC cM;rw[e,ef]
  by_cases hc:b+3<=n
  ·refine .inr ⟨rfl,by lia,?_⟩;rw[show(((min ((b:Int)+1) ((n:Int)-2)).toNat:Nat):Int)=(b:Int)+1 by lia,MO];have:((1:Int):Rat)=1:=rfl;grind
  ·refine .inl ⟨by lia,?_⟩;rw[show(((min ((b:Int)+1) ((n:Int)-2)).toNat:Nat):Int)=(b:Int) by lia];grind
 ·have ef:Ba (((b:Nat):Int)+p)=(b:Int):=by
   have l1:=CB (((b:Nat):Int)+p);have l2:=BC (((b:Nat):Int)+p);generalize Ba (((b:Nat):Int)+p)=z at *;have h1:(((z:Int)):Rat)<(((b:Int)+1:Int):Rat):=by
    rw[MO];have:((1:Int):Rat)=1:=rfl;grind
   have h2:(((b:Int)):Rat)<((z+1:Int):Rat):=by grind
   have h1:z<(b:Int)+1:=by exact_mod_cast h1
   have h2:(b:Int)<z+1:=by exact_mod_cast h2
   lia
  unfold fC cM;rw[e,ef];refine .inl ⟨by lia,?_⟩;rw[show(((min (b:Int) ((n:Int)-2)).toNat:Nat):Int)=(b:Int) by lia];grind
theorem Cg {n:Nat}{x y z:Rat} (h2:2 <= n) (h7:n <= 7) (ba:b.1 + 2 <= n) (bb:b.2.1 + 2 <= n) (bc:b.2.2 + 2 <= n) (x0:0 <= x) (x1:x <= 1) (y0:0 <= y) (y1:y <= 1) (z0:0 <= z) (z1:z <= 1)
  (ha:c.a=(((b.1:Nat):Int)+x)*((dW n:Int):Rat))(hb:c.b=(((b.2.1:Nat):Int)+y)*((dW n:Int):Rat))(hc:c.c=(((b.2.2:Nat):Int)+z)*((dW n:Int):Rat)):
  mQ n f c g=s_ (λt=>((g (f (am b t)):Int):Rat)) x y z:=by
 have o0:(0:Rat)<=0:=by grind
 have o1:(0:Rat)<=1:=by grind
 show s_ (rA n f c g) (fC n c.a) (fC n c.b) (fC n c.c)=_;obtain⟨b1,b2,b3⟩:=b;have ce:∀ {s1 s2 s3:Nat},cM n c.a=b1+s1->cM n c.b=b2+s2->cM n c.c=b3+s3->rA n f c g=λt=>((g (f (am (b1,b2,b3) (am t (s1,s2,s3)))):Int):Rat):=λ{s1 s2 s3} e1 e2 e3=>by
  funext t
  show((g (f (cM n c.a+t.1,cM n c.b+t.2.1,cM n c.c+t.2.2)):Int):Rat)=((g (f (b1+(t.1+s1),b2+(t.2.1+s2),b3+(t.2.2+s3))):Int):Rat)
  rw[e1,e2,e3,Ol,Ol,Ol,SI s1,SI s2,SI s3]
 rcases Gz h2 h7 ba x0 x1 ha with ⟨a1,a2⟩|⟨rfl,a1,a2⟩<;>rcases Gz h2 h7 bb y0 y1 hb with ⟨d1,d2⟩|⟨rfl,d1,d2⟩<;>rcases Gz h2 h7 bc z0 z1 hc with ⟨e1,e2⟩|⟨rfl,e1,e2⟩<;>rw[a2,d2,e2]
 ·rw[ce (s1:=0) (s2:=0) (s3:=0) a1 d1 e1];rfl
 ·rw[ce (s1:=0) (s2:=0) (s3:=1) a1 d1 e1,Jw x0 x1 y0 y1]
 ·rw[ce (s1:=0) (s2:=1) (s3:=0) a1 d1 e1,Jz x0 x1 z0 z1]
 ·rw[ce (s1:=0) (s2:=1) (s3:=1) a1 d1 e1,Jz x0 x1 z0 z1,Jw x0 x1 o0 o1];rfl
 ·rw[ce (s1:=1) (s2:=0) (s3:=0) a1 d1 e1,Ju y0 y1 z0 z1]
 ·rw[ce (s1:=1) (s2:=0) (s3:=1) a1 d1 e1,Ju y0 y1 z0 z1,Jw o0 o1 y0 y1];rfl
 ·rw[ce (s1:=1) (s2:=1) (s3:=0) a1 d1 e1,Ju y0 y1 z0 z1,Jz o0 o1 z0 z1];rfl
 ·rw[ce (s1:=1) (s2:=1) (s3:=1) a1 d1 e1,Ju y0 y1 z0 z1,Jz o0 o1 z0 z1,Jw o0 o1 o0 o1];rfl
def FW (o:Nat×Nat×Nat)(k:Nat):Nat:=if o.1=k then 0 else if o.2.1=k then 1 else 2
structure Fy (n:Nat)(b:Kn)(o:Nat×Nat×Nat)(p:Nat->Rat)(c:Q3):Prop where
 fall:tV p o
 lo:∀ k,k<3->0<=p k
 hi:∀ k,k<3->p k<=1
 ca:c.a=(((b.1:Nat):Int)+p 0)*((dW n:Int):Rat)
 cb:c.b=(((b.2.1:Nat):Int)+p 1)*((dW n:Int):Rat)
 cc:c.c=(((b.2.2:Nat):Int)+p 2)*((dW n:Int):Rat)
theorem zG (h:tV p o):tV (bL (p 0) (p 1) (p 2)) o:=by
 obtain⟨m,a,b⟩:=h;refine⟨m,?_,?_⟩<;>(simp only[dG,Ln,LF,Nd] at m;rcases m with rfl|rfl|rfl|rfl|rfl|rfl<;>first|exact a|exact b)
theorem zT (m:o∈dG):de h (bL (p 0) (p 1) (p 2)) o.1 o.2.1 o.2.2=de h p o.1 o.2.1 o.2.2:=by
 simp only[dG,Ln,LF,Nd] at m;rcases m with rfl|rfl|rfl|rfl|rfl|rfl<;>rfl
def ph (n:Nat)(b:Kn):Prop:=b.1+2<=n/\b.2.1+2<=n/\b.2.2+2<=n
theorem Fy.four {n:Nat}(h:Fy n b o p c)(h2:2<=n)(h7:n<=7)(hb:ph n b)(f:Kn->R3)(g:R3->Int):mQ n f c g=de (λt=>((g (f (am b t)):Int):Rat)) p o.1 o.2.1 o.2.2:=by
 rw[Cg h2 h7 hb.1 hb.2.1 hb.2.2 (h.lo 0 (by decide)) (h.hi 0 (by decide)) (h.lo 1 (by decide)) (h.hi 1 (by decide)) (h.lo 2 (by decide)) (h.hi 2 (by decide)) h.ca h.cb h.cc,cV (zG h.fall),zT h.fall.1]
theorem Fy.wi {n:Nat}(h:Fy n b o p c)(h2:2<=n)(h7:n<=7)(hb:ph n b):c.Wi ((60:Int):Rat):=by
 obtain⟨a1,a2,a3⟩:=ik h2 h7;have hp:(0:Rat)<((dW n:Int):Rat):=by exact_mod_cast a1
 have e60:((dW n:Int):Rat)*(((n:Int)-1:Int):Rat)=((60:Int):Rat):=by rw[<- Lw,a2]
 have one:∀ {m:Nat}{q x:Rat},m+2<=n->0<=q->q<=1->x=(((m:Nat):Int)+q)*((dW n:Int):Rat)->0<=x/\x<=((60:Int):Rat):=λ{m q x} hm q0 q1 e=>by
  have m0:(0:Rat)<=(((m:Nat):Int):Rat):=by exact_mod_cast (show(0:Int)<=(m:Int) by lia)
  have m1:(((m:Nat):Int):Rat)+1<=(((n:Int)-1:Int):Rat):=by
   have:(((m:Int)+1:Int):Rat)<=(((n:Int)-1:Int):Rat):=by exact_mod_cast (show(m:Int)+1<=(n:Int)-1 by lia)
   rw[MO] at this;exact this
  rw[e];refine⟨Rat.mul_nonneg (by grind) (Rat.le_of_lt hp),?_⟩;rw[<- e60,Rat.mul_comm ((dW n:Int):Rat)];exact Qr (by grind) (Rat.le_of_lt hp)
 obtain⟨x0,x1⟩:=one hb.1 (h.lo 0 (by decide)) (h.hi 0 (by decide)) h.ca;obtain⟨y0,y1⟩:=one hb.2.1 (h.lo 1 (by decide)) (h.hi 1 (by decide)) h.cb;obtain⟨z0,z1⟩:=one hb.2.2 (h.lo 2 (by decide)) (h.hi 2 (by decide)) h.cc;exact⟨x0,x1,y0,y1,z0,z1⟩
def HQ (i j:Int):Prop:=0<=j/\j<=1000/\Sm 8000 i
theorem E1:jI X (Qh .Pow) (rI HQ λi j=>.int (i^j.toNat)):=HH λi j _ _ _ _ _ hc q=>pow_int hc.1 (by
 have h1:=hc.2.2.bits;have h2:=hc.2.1;have h3:=hc.1;have h4:(Pn i:Int)<=8000:=by exact_mod_cast h1
 have h5:(Pn i:Int)*j<=8000*1000:=Int.mul_le_mul h4 h2 h3 (by decide);exact UH h5 (by decide)) q
end TR
namespace PySem
section
variable {prog:Lz}{w:LX}{A:L9}{E:K9->K_->Prop}{s:K_}{d it:Lg}{es:Array M0}{i ep:Nat}
theorem BH (hh:A.handled=none) (hit:s.heap.IsKeyIter it d i es.size ep) (hm:s.heap.RawD d es ep) (hx:es.size <= i)
  (hQ:∀ h',RQ it s.heap h'->Q none { s with heap:=h' }):Lm (LJ prog w) A (Pw (.ref it)) Q E s:=by
 obtain⟨o,ho,hc,hd⟩:=id hit;obtain⟨od,hod,hcd,hdd⟩:=id hm;have hown:Nb "dict_keyiterator"=false:=by decide
 unfold Pw;refine KE (OX (Mo (name:=MB "__next__") hit.typeIs Nc
  (MG Nc hit.typeIs Qw ?_ (Qk _))))
 refine KE (K7 (KE (KE ?_)))
 first|refine KE (NG hit.typeIs (K7 ?_))|refine KE (Oe hit.typeIs (K7 ?_))
 refine KE (Ru ho hd ?_);simp only[hown,Li,Mb];show Lm _ _ (if(LH d==Ma)=true then _ else _) _ _ s;rw[LB (show ¬ ((LH d==Ma)=true) from LZ)];refine KE (K7 (KE (MR hod hdd ?_)));rw[LB (by simp)];refine KE (K7 (KE (OS hod hdd ?_)));rw[LB (by simp)];refine K7 ?_;simp only[show ¬ ((i:Int)<0) from by lia,Mb,MI,PZ hx];refine KE ?_
 first|refine KE (NG hit.typeIs (K7 ?_))|refine KE (Oe hit.typeIs (K7 ?_))
 show Lm _ _ (setField (.ref it) 0 .none>>=_) _ _ s;refine KE (Qi ho hd (by simp) ?_);show Lm _ _ (newExc (.type "StopIteration") []>>=_) _ _ _;refine KE ?_;simp only[newExc,newTuple];refine KE (Ml ?_ (by size_fits));refine KE (m:=Pb _ _) (R_ (a:=Ma) (by first|rfl|(simp only[Pb];rfl)) ?_);refine Ml ?_ (by size_fits);simp only[raiseNew];refine KE (Uc ?_);rw[show A.in1.handled=none from hh];refine KE (K7 (wpAny_throw ?_));refine KE (NZ (T:="StopIteration") (b:=true) ⟨_,Ld _ rfl,rfl⟩ Tq ?_);exact K7 (hQ _ (((Mc ..).extBut.push _).push _))
theorem EZ (hit:s.heap.IsKeyIter it d i es.size ep) (hm:s.heap.RawD d es ep) (hx:es[i]?=some e)
  (hQ:∀ h',h'.IsKeyIter it d (i+1) es.size ep->Mz it s.heap h'->Q (some e.key) { s with heap:=h' }):Lm (LJ prog w) A (Pw (.ref it)) Q E s:=by
 obtain⟨o,ho,hc,hd⟩:=id hit;obtain⟨od,hod,hcd,hdd⟩:=id hm;have hown:Nb "dict_keyiterator"=false:=by decide
 unfold Pw;refine KE (OX (Mo (name:=MB "__next__") hit.typeIs Nc
  (MG Nc hit.typeIs Qw ?_ (Qk _))))
 refine KE (K7 (KE (KE ?_)))
 first|refine KE (NG hit.typeIs (K7 ?_))|refine KE (Oe hit.typeIs (K7 ?_))
 refine KE (Ru ho hd ?_);simp only[hown,Li,Mb];show Lm _ _ (if(LH d==Ma)=true then _ else _) _ _ s;rw[LB (show ¬ ((LH d==Ma)=true) from LZ)];refine KE (K7 (KE (MR hod hdd ?_)));rw[LB (by simp)];refine KE (K7 (KE (OS hod hdd ?_)));rw[LB (by simp)];refine K7 ?_;simp only[show ¬ ((i:Int)<0) from by lia,Mb,MI,hx];refine KE ?_
 first|refine KE (NG hit.typeIs (K7 ?_))|refine KE (Oe hit.typeIs (K7 ?_))
 refine KE (wpAny_isOneOf_keyiter hit.typeIs ?_);show Lm _ _ (setField (.ref it) 1 (QD ((i:Int)+1))>>=_) _ _ s;refine KE (Qi ho hd (by simp) ?_);have hit':(s.heap.update it (Obj.mapFields (·.setIfInBounds 1 (QD ((i:Int)+1))))).IsKeyIter it d (i+1) es.size ep:=
  ⟨_,MN _ ho (SM (PM hd _)),(Obj.cls_mapFields ..).trans hc,by rw[PM hd];simp[QD]⟩
 refine KE (Mp ?_);refine KE (wpAny_isOneOf_keyiter (s:={ s with heap:=s.heap.update it (Obj.mapFields (·.setIfInBounds 1 (QD ((i:Int)+1)))) }) hit'.typeIs ?_);show Lm _ _ (pure e.key) _ _ _;exact K7 (K7 ⟨_,rfl,K7 (hQ _ hit' (Mc ..))⟩)
end
section
variable {prog:Lz}{w:LX}{A:L9}{E:K9->K_->Prop}{s:K_}{d:Lg}{es:Array M0}{ep:Nat}
theorem A1 (hd:(d == MJ)=false) (hm:s.heap.RawD d es ep)
  (hQ:Q (.ref s.heap.objs.size) { s with heap:=s.heap.push { cls:=.type "dict_keyiterator",data:=.fields #[.ref d,.int 0 0,.int es.size 0,.int ep 0] } }):Lm (LJ prog w) A (UR (.ref d)) Q E s:=by
 obtain⟨o,ho,hc,hdat⟩:=id hm;have hT:s.TypeIs (.ref d) "dict":=hm.typeIs;refine wpAny_pyIter_slot hT Sc (MG Sc hT F.entry_dict_iter ?_ (F.args_dict_iter_1 _));unfold NU.«dict.__iter__»;refine KE ?_;unfold Builtin.Dict.dictSlotNone;refine KE (Qu hT ?_);show Lm _ _ (pure (LH d)) _ _ s;refine K7 ?_;show Lm _ _ (OK d>>=_) _ _ s;unfold OK;rw[LB (by rw[hd];exact LZ)];refine KE (K7 (KE (MR ho hdat (KE (OS ho hdat ?_)))));refine KE (Ml (K7 ⟨_,rfl,"dict_keyiterator",_,⟨_,Ld _ rfl,rfl⟩,Nc.lookup,?_⟩))
 simpa [QD] using hQ
end
end PySem
namespace TR
open PySem PySem.Spec PyProof.Rows L2
theorem IR {n:Nat}{k:Nat}(n2:2<=n)(n7:n<=7)(wt:Be n f)(wi:c.Wi ((60:Int):Rat))(bd:c.Bd k):(W4 n f c).Bd (6*k+120):=by
 have dva:Dv n c.a:=⟨n2,n7,wi.a0,wi.a1⟩
 have dvb:Dv n c.b:=⟨n2,n7,wi.b0,wi.b1⟩
 have dvc:Dv n c.c:=⟨n2,n7,wi.c0,wi.c1⟩
 have ba:=xB dva bd.a;have bb:=xB dvb bd.b;have bc:=xB dvc bd.c;have lta:=cR dva;have ltb:=cR dvb;have ltc:=cR dvc;have pk:∀ j,Bq (k+10) (jT n c j):=λj=>by
  match j with
  |0=>exact ba
  |1=>exact bb
  |_+2=>exact bc
 have one:Bq 1 (1:Rat):=by
  rw[show(1:Rat)=((1:Int):Rat) from rfl];exact oF (by unfold Sm;decide) (by decide)
 have fo:=im (fC n c.a) (fC n c.b) (fC n c.c);have h:∀ {g:R3->Int},(∀ r:R3,r.Wt->Sm 10 (g r))->Bq (6*k+120) (mQ n f c g):=λ{g} gs=>by
  have hh:∀ i,i<=3->Bq 10 (rA n f c g (dC (iZ (fC n c.a) (fC n c.b) (fC n c.c)) i)):=λi hi=>by
   refine oF (gs _ (wt _ (bV.mpr ?_))) (by decide);have:=n0 fo.1 hi;show cM n c.a+_<n/\cM n c.b+_<n/\cM n c.c+_<n;refine⟨?_,?_,?_⟩<;>lia
  have h0:=hh 0 (by decide);have h1:=hh 1 (by decide);have h2:=hh 2 (by decide);have h3:=hh 3 (by decide);simp only[dC,kf,KH] at h0 h1 h2 h3;unfold mQ de;refine Ok.mono (Bq.add (Bq.add (Bq.add (Bq.mul h0 (Bq.sub one (pk _))) (Bq.mul h1 (Bq.sub (pk _) (pk _)))) (Bq.mul h2 (Bq.sub (pk _) (pk _)))) (Bq.mul h3 (pk _))) (by lia)
 exact⟨h λr hr=>(kU hr).1,h λr hr=>(kU hr).2.1,h λr hr=>(kU hr).2.2⟩
def FQ (t:Kn):Nat->Nat
 |0=>t.1
 |1=>t.2.1
 |_=>t.2.2
def gR (o:Nat×Nat×Nat)(t:Kn):Kn:=(FQ t o.1,FQ t o.2.1,FQ t o.2.2)
def Kk (o:Nat×Nat×Nat):Nat×Nat×Nat:=(FW o 0,FW o 1,FW o 2)
theorem jw {P:Nat×Nat×Nat->Prop}{o:Nat×Nat×Nat}(h:o∈dG)(h1:P (0,1,2))(h2:P (0,2,1))(h3:P (1,0,2))(h4:P (1,2,0))(h5:P (2,0,1))(h6:P (2,1,0)):P o:=by
 simp only[dG,Ln,LF,Nd] at h;rcases h with rfl|rfl|rfl|rfl|rfl|rfl<;>assumption
def fT (o:Nat×Nat×Nat)(f:Kn->R3)(t:Kn):R3:=f (gR (Kk o) t)
theorem yx {K:HD}{H:Hp}{c:Q3}{xs:List V}(h:ay K H c.ds xs){k:Nat}(hk:k<3):∃ v,xs[k]?=some v/\aA K H (rD (bL c.a c.b c.c k)) v:=by
 obtain⟨x,y,z,rfl,h0,h1,h2⟩:=cW h
 match k,hk with
 |0,_=>exact⟨x,rfl,h0⟩
 |1,_=>exact⟨y,rfl,h1⟩
 |2,_=>exact⟨z,rfl,h2⟩
theorem JE {M:V->Hp->Prop}{I:V->Hp->Prop}{G:Prop}(bA:∀ v H,I v H->M v H)(main:(∀ v H,I v H->M v H)->G):G:=main bA
theorem BO:Me "any"=some (.builtin "any"):=by decide +kernel
theorem zF (bs:List Bool):(L0 bs.length).any (λi=>(bs[i]?).getD true)=bs.any id:=by
 rw[Sx,Pe,Pe];constructor
 ·rintro⟨i,hi,h⟩;have hi:=M1.mp hi;exact⟨bs[i],Qz hi,by simpa [hi] using h⟩
 ·rintro⟨b,hb,h⟩;obtain⟨i,hi,rfl⟩:=Po hb;exact⟨i,M1.mpr hi,by simpa [hi] using h⟩
section
variable {X:Cx}{K:HD}
def HL (K:HD):List V->Hp->VK->Prop:=λxs H Q=>∃ (p:Lg) (bs:List Bool),xs=[.ref p]/\bE K H p (bs.map V.bl)/\Q (.bl (bs.any id)) H
theorem BM (hc:X.calm=true):cy X (.builtin "any") (HL X.K):=by
 intro pins s σ H xs us Q I r h;obtain⟨p,bs,rfl,hp,q⟩:=h;obtain⟨u,rfl,ru⟩:=fk r;cases ru;obtain⟨its,rv,pl,hz⟩:=I.list hp;have hl:=rv.length;rw[K'] at hl;have lt:p<s.heap.objs.size:=by
  obtain⟨o,e,_⟩:=pl.isList;exact Lb e
 refine call_any_walk (Na pl.isList ?_);refine⟨s.heap.objs.size,_,_,_,_,_,λi=>(bs[i]?).getD true,rfl,Uy (A:=X.A.in1) (show X.A.in1.handled=none from I.ok.hd hc) _ p (Lp lt) its.toArray,⟨⟨_,Ld _ rfl,rfl,rfl⟩,pl.isList.push _⟩,λi v s' Q' E' hv hq=>?_,λh' tk kk=>?_⟩
 ·have hi:i<bs.length:=by
   have:=(O0.mp hv).1;rw[Lh] at this;lia
  obtain⟨w,ew,rw'⟩:=rv.get (i:=i) (x:=.bl bs[i]) (by simp[hi]);have:its[i]?=some v:=by simpa using hv
  rw[ew] at this;have e2:v=Ox bs[i]:=(K8 this).symm.trans rw';rw[e2];refine MS ?_;have e:(bs[i]?).getD true=bs[i]:=by simp[hi]
  exact e▸hq
 ·have I1:aD X pins σ H { s with heap:=h',toks:=tk }:=I.kept λb o e=>kk b o (by simp;exact Lp (Lb e)) (K6 _ e)
  refine⟨.bl _,H,I1,?_,q⟩;show Ox _=Ox _;rw[<- zF,Lh,<- hl]
theorem FF (e:X.K=K)(hc:X.calm=true):cy X (.builtin "any") (HL K):=by subst e;exact BM hc
def Ih:V->V->Hp->VK->Prop:=λo i H Q=>∃ p xs k v,o=.ref p/\i=.int k/\0<=k/\H p=some (.lst xs)/\xs[k.toNat]?=some v/\Q v H
theorem DK:Iw X Ih:=by
 intro pins s σ H o i ov iv Q I ro ri h;obtain⟨p,xs,k,v,rfl,rfl,h0,hp,hv,q⟩:=h;cases ro;obtain⟨t,rfl⟩:=ri;obtain⟨its,n,r,ho,hz⟩:=I.lst hp;obtain⟨w,ew,rw'⟩:=r.get hv;have hl:=r.length;have hn:=kg;have lt:=(Ll.mp hv).1;exact wpAny_getItem_list (x:=w) ⟨_,ho,rfl,n,rfl⟩ h0 (by lia) (by simpa using ew) ⟨v,H,I,rw',q⟩
end
structure Rw where
 w:Int
 x:Int
 y:Int
 z:Int
def Rw.ns (r:Rw):List Int:=[r.w,r.x,r.y,r.z]
def Rw.d (r:Rw):LU:=.tuple (r.ns.map N9)
structure Rw.In (r:Rw)(m:Int):Prop where
 w0:-m<=r.w
 w1:r.w<=m
 x0:-m<=r.x
 x1:r.x<=m
 y0:-m<=r.y
 y1:r.y<=m
 z0:-m<=r.z
 z1:r.z<=m
def JA (i:Int):Int:=min (max i 0) 1000
def Rw.at (r:Rw)(t:Kn):Int:=JA (r.w+(r.x*(t.1:Int)+(r.y*(t.2.1:Int)+r.z*(t.2.2:Int))))
def He (r1 r2 r3:Rw)(t:Kn):R3:=⟨r1.at t,r2.at t,r3.at t⟩
def mL (K:HD)(H:Hp)(p:Kn×(Nat×Nat×Nat))(v:V):Prop:=∃ q a b,v=.ref q/\H q=some (.tup [.ref a,.ref b])/\H a=some (.tup (fF p.1))/\KT K b (fF p.2)
theorem mL.same {K:HD}{H H':Hp}{p:Kn×(Nat×Nat×Nat)}{v:V}(h:mL K H p v)(s:af H H'):mL K H' p v:=by obtain⟨q,a,b,h1,h2,h3,h4⟩:=h;exact⟨q,a,b,h1,s _ _ h2,s _ _ h3,h4⟩
inductive eD (K:HD)(H:Hp):List (Kn×(Nat×Nat×Nat))->List V->Prop
 |nil:eD K H [] []
 |snoc {ps ys p v}:eD K H ps ys->mL K H p v->eD K H (ps++[p]) (ys++[v])
theorem eD.same {K:HD}{H H':Hp}{ps:List (Kn×(Nat×Nat×Nat))}{ys:List V}(h:eD K H ps ys)(s:af H H'):eD K H' ps ys:=by
 induction h with
 |nil=>exact .nil
 |snoc _ b ih=>exact .snoc ih (b.same s)
theorem eD.length {K:HD}{H:Hp}{ps:List (Kn×(Nat×Nat×Nat))}{ys:List V}(h:eD K H ps ys):ps.length=ys.length:=by
 induction h with
 |nil=>rfl
 |snoc _ _ ih=>rw[LC,LC,ih];rfl
theorem eD.get {K:HD}{H:Hp}{ps:List (Kn×(Nat×Nat×Nat))}{ys:List V}{i:Nat}{v:V}(h:eD K H ps ys)(e:ys[i]?=some v):∃ p,ps[i]?=some p/\mL K H p v:=by
 induction h with
 |nil=>cases e
 |@snoc ps ys p u a b ih=>
  have hl:=a.length;rcases Nat.lt_trichotomy i ys.length with z|z|z
  ·rw[Nr z] at e;rw[Nr (by lia)];exact ih e
  ·subst z;rw[MT (Lc _),UN] at e;cases e;exact⟨p,by rw[MT (by lia),hl,UN];rfl,b⟩
  ·rw[List.getElem?_eq_none (by rw[LC,Qn];lia)] at e;cases e
def fg (t:Kn)(j:Nat):List (Kn×(Nat×Nat×Nat)):=(dG.take j).map λo=>(t,o)
def ge (ts:List Kn):List (Kn×(Nat×Nat×Nat)):=ts.flatMap λt=>fg t 6
def bD (n:Nat):List (Kn×(Nat×Nat×Nat)):=ge (aW (n-1))
theorem uI (ts:List Kn)(t:Kn):ge (ts++[t])=ge ts++fg t 6:=by unfold ge;rw[Oi];simp
theorem ij (ts:List Kn):(ge ts).length=6*ts.length:=by
 induction ts with
 |nil=>rfl
 |cons t ts ih=>
  have:ge (t::ts)=fg t 6++ge ts:=by unfold ge;rw[Uk]
  rw[this,LC,ih,LK];have:(fg t 6).length=6:=rfl;lia
theorem vz {j:Nat}(e:dG[j]?=some o):fg t (j+1)=fg t j++[(t,o)]:=by
 unfold fg;rw[bC e,Mg];rfl
theorem fY {n:Nat}:p∈bD n↔p.1∈aW (n-1)/\p.2∈dG:=by
 unfold bD ge fg;rw[Ot];constructor
 ·rintro⟨t,ht,h⟩;rw[LI (by decide)] at h;obtain⟨o,ho,rfl⟩:=Md.mp h;exact⟨ht,ho⟩
 ·rintro⟨h1,h2⟩;refine⟨p.1,h1,?_⟩;rw[LI (by decide)];exact Md.mpr ⟨p.2,h2,rfl⟩
def R3.sub (r s:R3):R3:=⟨r.a-s.a,r.b-s.b,r.c-s.c⟩
def EY (r0 r1 r2 r3:R3):S9:=⟨true,true,true,true,r1.sub r0,r2.sub r1,r3.sub r2⟩
def Fx (t:Kn)(o:Nat×Nat×Nat)(i:Nat):List Kn:=(L0 i).map λj=>am t (dC o j)
theorem Di (t:Kn)(o:Nat×Nat×Nat)(i:Nat):Fx t o (i+1)=Fx t o i++[am t (dC o i)]:=by unfold Fx;rw[N8,Mg];rfl
theorem vL (s:af H H')(h:H' a=none):H a=none:=by
 cases e:H a with
 |none=>rfl
 |some o=>
  rw[s _ _ e] at h;cases h
theorem ay.lput {K:HD}{H:Hp}{F:Lg}{ys zs:List V}{ds:List LU}{vs:List V}(hF:H F=some (.lst ys))(t:iP ds=true)(h:ay K H ds vs):ay K (upd H F (.lst zs)) ds vs:=
 ay.mv (T:=[F]) (λb o e n=>by rw[aq (λz=>n (by simp[z]))];exact e) (λb m=>⟨ys,by rw[Lo.mp m];exact hF⟩) t h
def aO (f:Kn->R3)(p:Kn×(Nat×Nat×Nat)):S9:=EY (f (am p.1 (dC p.2 0))) (f (am p.1 (dC p.2 1))) (f (am p.1 (dC p.2 2))) (f (am p.1 (dC p.2 3)))
theorem xR {r s:R3}(hr:r.Wt)(hs:s.Wt):(r.sub s).In 4000:=by
 obtain⟨a0,a1,b0,b1,c0,c1⟩:=hr;obtain⟨d0,d1,e0,e1,f0,f1⟩:=hs;refine⟨?_,?_,?_,?_,?_,?_⟩<;>(simp only[R3.sub];lia)
theorem yi {r0 r1 r2 r3:R3}(h0:r0.Wt)(h1:r1.Wt)(h2:r2.Wt)(h3:r3.Wt):(EY r0 r1 r2 r3).In:=⟨xR h1 h0,xR h2 h1,xR h3 h2⟩
theorem sU {n:Nat}(h:ph n t)(hu:u.1<=1/\u.2.1<=1/\u.2.2<=1):am t u∈aW n:=by
 obtain⟨h1,h2,h3⟩:=h;exact bV.mpr ⟨by show t.1+u.1<n;lia,by show t.2.1+u.2.1<n;lia,by show t.2.2+u.2.2<n;lia⟩
theorem jH {n:Nat}(h2:2<=n)(h:t∈aW (n-1)):ph n t:=by
 obtain⟨h1,h2',h3⟩:=bV.mp h;exact⟨by lia,by lia,by lia⟩
def HG (t:Kn):List Int:=[(t.1:Int),(t.2.1:Int),(t.2.2:Int)]
theorem DY {l m a b c:Int}(ha:l<=a/\a<=m)(hb:l<=b/\b<=m)(hc:l<=c/\c<=m):KS 3 l m (.tuple [.int a,.int b,.int c])=true:=by
 show((decide (l<=a)&&decide (a<=m))&&((decide (l<=b)&&decide (b<=m))&&((decide (l<=c)&&decide (c<=m))&&true)))=true;rw[Lj ha.1,Lj ha.2,Lj hb.1,Lj hb.2,Lj hc.1,Lj hc.2];rfl
open PySem.W PySem.Calls
section
variable {prog:Lz}{w:LX}{d:Lg}{es:Array M0}{ep:Nat}
theorem RawD.kept {h h':Ng}(hm:h.RawD d es ep)(k:∀ o,h.get? d=some o->h'.get? d=some o):h'.RawD d es ep:=by
 obtain⟨o,ho,r⟩:=hm;exact⟨o,k o ho,r⟩
theorem RawD.lt {h:Ng}(hm:h.RawD d es ep):d<h.objs.size:=by
 obtain⟨o,ho,r⟩:=hm;exact Lb ho
theorem zw {A:L9} (hh:A.handled=none) (I:Lg) (hne:d ≠ I) :
  Walks prog w A I [I,d] [I] es.size (λi v=>∃ e,es[i]?=some e/\v=e.key) (λi h=>h.IsKeyIter I d i es.size ep/\h.RawD d es ep) where
 sub:=λb hb=>by simp at hb;simp[hb]
 frame:=λ_ _ _ st hk=>⟨st.1.at λo e=>hk I (by simp) o e,RawD.kept st.2 λo e=>hk d (by simp) o e⟩
 item:=λi s Q E hi st hQ=>EZ st.1 st.2 (Np hi) λh' hit' hs'=>hQ _ h' s.toks ⟨_,Np hi,rfl⟩ ⟨hit',RawD.kept st.2 λo e=>hs'.extBut d o hne e⟩ λb o hb e=>hs'.extBut b o (λh=>hb (by simp[h])) e
 done:=λs Q E st hQ=>BH hh st.1 st.2 (Lc _) λh' he'=>hQ h' s.toks λb o hb e=>he' b o (λh=>hb (by simp[h])) e
 self:=λ_ _ _ _ st hQ=>wpAny_pyIter_keyiter st.1 hQ
theorem Ew (lo:(d==MJ)=false):KdlSrc prog w "dict" d d es.size (λi v=>∃ e,es[i]?=some e/\v=e.key) (λh=>h.RawD d es ep) where
 type:=λ_ hm=>hm.typeIs
 there:=λ_ hm=>⟨RawD.lt hm,RawD.lt hm⟩
 keep:=λ_ _ hm hk=>RawD.kept hm λo e=>hk d (.inl rfl) o e
 notList:=by decide
 notTuple:=by decide
 hint:=λ_ _ _ _ hm hq=>kdl_hint_dict hm.typeIs hq
 iter:=λ_ _ hh hm=>⟨_,_,(λ_ _ hq=>A1 lo hm hq),zw hh _ (Lp (RawD.lt hm)),⟨⟨_,Ld _ rfl,rfl,rfl⟩,RawD.kept hm λo e=>K6 _ e⟩⟩
end
def Jb (t u:Kn):Prop:=¬ (t.1<u.1\/(t.1=u.1/\(t.2.1<u.2.1\/(t.2.1=u.2.1/\t.2.2<u.2.2))))
theorem q_:∀ {l:List α}{m:List β},l.length=m.length->(∀ (i:Nat) a b,l[i]?=some a->m[i]?=some b->F a b)->Ra F l m
 |[],[],_,_=>.nil
 |a::l,b::m,h,f=>.cons (f 0 a b rfl rfl) (q_ (by simpa using h) λi x y h1 h2=>f (i+1) x y (by simpa using h1) (by simpa using h2))
 |[],_::_,h,_=>by simp at h
 |_::_,[],h,_=>by simp at h
theorem yP {q:Q3}{j k:Nat}(h:q.Bd j)(hk:k<3):Bq j (bL q.a q.b q.c k):=by
 match k,hk with
 |0,_=>exact h.a
 |1,_=>exact h.b
 |2,_=>exact h.c
instance {t u:Kn}:Decidable (Jb t u):=by unfold Jb;infer_instance
def Rw.co (r:Rw):Nat->Int
 |0=>r.x
 |1=>r.y
 |_=>r.z
structure C3 where
 p:List Pt
 q:List Pt
 r:List Pt
def C3.at (P:C3):Nat->List Pt
 |0=>P.p
 |1=>P.q
 |_=>P.r
def C3.In (P:C3)(cap:Int):Prop:=∀ i,i<3->KR (P.at i)/\∃ y z,(P.at i)[0]?=some y/\(P.at i).getLast?=some z/\z.1=60/\z.2<=cap
def S9.cp (s:S9):S9:=⟨true,true,true,true,s.x,s.y,s.z⟩
def S9.row (s:S9):Nat->R3
 |0=>s.x
 |1=>s.y
 |_=>s.z
def AtD (K:HD)(x:Str)(st:NO):Prop:=∃ f oc od osl kV doc pm an cdv ct,Lv K Lf x=some (some (.ref f))/\K.lookup f=some ⟨oc,od,.func (LG x x (aR st) (aI st) (ag st) .none kV doc pm an cdv ct),osl⟩/\L8 K cdv x=true/\LR K (.ref f)=true
def AtM (K:HD)(x m qual:Str)(st:NO):Prop:=∃ C f oc od osl kV doc pm an cdv ct,Lv K Lf x=some (some (.ref C))/\LP K (.ref C) m=some (some (.ref f))/\K.lookup f=some ⟨oc,od,.func (LG m qual (aR st) (aI st) (ag st) .none kV doc pm an cdv ct),osl⟩/\L8 K cdv qual=true/\LR K (.ref f)=true/\Oh K (.ref f)=true
theorem AtD.of {K:HD}{x:Str}{st:NO}{f:Lg}{oc kV doc pm cdv ct:K9}{od an:Option Lg}{osl:Array (Option K9)}(h1:Lv K Lf x=some (some (.ref f)))(h2:K.lookup f=some ⟨oc,od,.func (LG x x (aR st) (aI st) (ag st) .none kV doc pm an cdv ct),osl⟩)(h3:L8 K cdv x=true)(h4:LR K (.ref f)=true):AtD K x st:=⟨_,_,_,_,_,_,_,_,_,_,h1,h2,h3,h4⟩
theorem AtM.of {K:HD}{x m qual:Str}{st:NO}{C f:Lg}{oc kV doc pm cdv ct:K9}{od an:Option Lg}{osl:Array (Option K9)}(h1:Lv K Lf x=some (some (.ref C)))(h2:LP K (.ref C) m=some (some (.ref f)))(h3:K.lookup f=some ⟨oc,od,.func (LG m qual (aR st) (aI st) (ag st) .none kV doc pm an cdv ct),osl⟩)(h4:L8 K cdv qual=true)(h5:LR K (.ref f)=true)(h6:Oh K (.ref f)=true):AtM K x m qual st:=⟨_,_,_,_,_,_,_,_,_,_,_,h1,h2,h3,h4,h5,h6⟩
theorem gOf {K:HD}{x:Str}{i:Int}{t:Tok}(h:Lv K Lf x=some (some (.int i t))):∃ t,Lv K Lf x=some (some (.int i t)):=⟨t,h⟩
section
variable {K:HD}{mg:Str->Option K9}{x m qual:Str}{st:NO}{ps fs:List Str}{h:Ng}
theorem AtD.dfn (a:AtD K x st)(X:K.In h)(G:h.Ns Lf mg)(hb:∀ kV doc pm an cdv ct us,us.length=ps.length->MM (LG x x (aR st) (aI st) (ag st) .none kV doc pm an cdv ct) ⟨us,[]⟩=pure (ps.zip us)):c6 K mg x st ps []:=by
 obtain⟨_,_,_,_,_,_,_,_,_,_,h1,h2,h3,h4⟩:=a;exact wO h2 h3 h4 (Mh X G h1) (hb _ _ _ _ _ _)
theorem AtM.dfn (a:AtM K x m qual st)(X:K.In h)(G:h.Ns Lf mg)(hc:j8 K x fs=true)(hb:∀ kV doc pm an cdv ct us,us.length=ps.length->MM (LG m qual (aR st) (aI st) (ag st) .none kV doc pm an cdv ct) ⟨us,[]⟩=pure (ps.zip us)):p7 K mg x m qual st ps []:=by
 obtain⟨_,_,_,_,_,_,_,_,_,_,_,h1,h2,h3,h4,h5,h6⟩:=a;exact ES h3 h4 h5 h6 h1 h2 hc (Mh X G h1) (hb _ _ _ _ _ _)
theorem Jt {P:List K9->Prop}{us:List K9}{n:Nat}(h:us.length=n+1)(k:∀ a vs,vs.length=n->P (a::vs)):P us:=by
 cases us with
 |nil=>cases h
 |cons a vs=>exact k a vs (Nat.succ.inj h)
theorem KN {P:List K9->Prop}{us:List K9}(h:us.length=0)(k:P []):P us:=by
 cases us with
 |nil=>exact k
 |cons a vs=>cases h
theorem J0 {P:List K9->Prop}{us:List K9}(h:us.length=1)(k:∀ a,P [a]):P us:=Jt h λa _ h=>KN (P:=λv=>P (a::v)) h (k a)
theorem J2 {P:List K9->Prop}{us:List K9}(h:us.length=2)(k:∀ a b,P [a,b]):P us:=Jt h λa _ h=>J0 (P:=λv=>P (a::v)) h (k a)
theorem Kl {P:List K9->Prop}{us:List K9}(h:us.length=3)(k:∀ a b c,P [a,b,c]):P us:=Jt h λa _ h=>J2 (P:=λv=>P (a::v)) h (k a)
theorem KL {P:List K9->Prop}{us:List K9}(h:us.length=4)(k:∀ a b c d,P [a,b,c,d]):P us:=Jt h λa _ h=>Kl (P:=λv=>P (a::v)) h (k a)
theorem AtD.d1 {p:Str}(a:AtD K x st)(X:K.In h)(G:h.Ns Lf mg)(hb:∀ kV doc pm an cdv ct a,MM (LG x x (aR st) (aI st) (ag st) .none kV doc pm an cdv ct) ⟨[a],[]⟩=pure (([p]:List Str).zip [a])):c6 K mg x st [p] []:=a.dfn X G λ_ _ _ _ _ _ us hl=>J0 (P:=λus=>MM _ ⟨us,[]⟩=pure ([p].zip us)) hl (hb _ _ _ _ _ _)
theorem AtM.d1 {p:Str}(a:AtM K x m qual st)(X:K.In h)(G:h.Ns Lf mg)(hc:j8 K x fs=true)(hb:∀ kV doc pm an cdv ct a,MM (LG m qual (aR st) (aI st) (ag st) .none kV doc pm an cdv ct) ⟨[a],[]⟩=pure (([p]:List Str).zip [a])):p7 K mg x m qual st [p] []:=a.dfn X G hc λ_ _ _ _ _ _ us hl=>J0 (P:=λus=>MM _ ⟨us,[]⟩=pure ([p].zip us)) hl (hb _ _ _ _ _ _)
theorem AtD.d2 {p q:Str}(a:AtD K x st)(X:K.In h)(G:h.Ns Lf mg)(hb:∀ kV doc pm an cdv ct a b,MM (LG x x (aR st) (aI st) (ag st) .none kV doc pm an cdv ct) ⟨[a,b],[]⟩=pure (([p,q]:List Str).zip [a,b])):c6 K mg x st [p,q] []:=a.dfn X G λ_ _ _ _ _ _ us hl=>J2 (P:=λus=>MM _ ⟨us,[]⟩=pure ([p,q].zip us)) hl (hb _ _ _ _ _ _)
theorem AtM.d2 {p q:Str}(a:AtM K x m qual st)(X:K.In h)(G:h.Ns Lf mg)(hc:j8 K x fs=true)(hb:∀ kV doc pm an cdv ct a b,MM (LG m qual (aR st) (aI st) (ag st) .none kV doc pm an cdv ct) ⟨[a,b],[]⟩=pure (([p,q]:List Str).zip [a,b])):p7 K mg x m qual st [p,q] []:=a.dfn X G hc λ_ _ _ _ _ _ us hl=>J2 (P:=λus=>MM _ ⟨us,[]⟩=pure ([p,q].zip us)) hl (hb _ _ _ _ _ _)
theorem AtD.d3 {p q r:Str}(a:AtD K x st)(X:K.In h)(G:h.Ns Lf mg)(hb:∀ kV doc pm an cdv ct a b c,MM (LG x x (aR st) (aI st) (ag st) .none kV doc pm an cdv ct) ⟨[a,b,c],[]⟩=pure (([p,q,r]:List Str).zip [a,b,c])):c6 K mg x st [p,q,r] []:=a.dfn X G λ_ _ _ _ _ _ us hl=>Kl (P:=λus=>MM _ ⟨us,[]⟩=pure ([p,q,r].zip us)) hl (hb _ _ _ _ _ _)
theorem AtM.d3 {p q r:Str}(a:AtM K x m qual st)(X:K.In h)(G:h.Ns Lf mg)(hc:j8 K x fs=true)(hb:∀ kV doc pm an cdv ct a b c,MM (LG m qual (aR st) (aI st) (ag st) .none kV doc pm an cdv ct) ⟨[a,b,c],[]⟩=pure (([p,q,r]:List Str).zip [a,b,c])):p7 K mg x m qual st [p,q,r] []:=a.dfn X G hc λ_ _ _ _ _ _ us hl=>Kl (P:=λus=>MM _ ⟨us,[]⟩=pure ([p,q,r].zip us)) hl (hb _ _ _ _ _ _)
theorem AtD.d4 {p q r u:Str}(a:AtD K x st)(X:K.In h)(G:h.Ns Lf mg)(hb:∀ kV doc pm an cdv ct a b c d,MM (LG x x (aR st) (aI st) (ag st) .none kV doc pm an cdv ct) ⟨[a,b,c,d],[]⟩=pure (([p,q,r,u]:List Str).zip [a,b,c,d])):c6 K mg x st [p,q,r,u] []:=a.dfn X G λ_ _ _ _ _ _ us hl=>KL (P:=λus=>MM _ ⟨us,[]⟩=pure ([p,q,r,u].zip us)) hl (hb _ _ _ _ _ _)
theorem Ib {i:Int}(X:K.In h)(G:h.Ns Lf mg)(a:∃ t,Lv K Lf x=some (some (.int i t))):∃ t,mg x=some (.int i t):=by obtain⟨t,e⟩:=a;exact⟨t,Mh X G e⟩
end
theorem dD (a:sc.kind=.function:=by rfl)(b:sc.isCoroutine=false:=by rfl)(c:sc.isGenerator=false:=by rfl)(d:N.Nodup:=by decide +kernel)(e:N.take P.length=P:=by rfl)(f:∀ x∈P,sc.names.lookup x=some .local\/sc.names.lookup x=some .cell:=by decide +kernel)(g:∀ y∈sc.names,y.2≠.free:=by decide +kernel):av N P sc:=⟨a,b,c,d,e,f,g⟩
theorem uW (hp:H p=none)(e:upd H p o=H1):af H H1:=e▸af.new hp
theorem rT (e:upd H p o=H1):H1 p=some o:=e▸ae
theorem Kq (ha:H a=none)(hd:H dx=none)(hn:dx≠a)(e:upd (upd H dx o1) a o=H1):af H H1:=e▸(af.new hd).trans (af.new (by rw[aq hn.symm];exact ha))
def Q3.at (q:Q3):Nat->Rat:=bL q.a q.b q.c
def nw (q:Rat):Int:=(2*q.num+(q.den:Int)).fdiv (2*(q.den:Int))
def hq (q:Q3):R3:=⟨JA (nw q.a),JA (nw q.b),JA (nw q.c)⟩
section
variable {prog:Lz}{w:LX}{A:L9}{E:K9->K_->Prop}{s:K_}{K:HD}{x C:Lg}{ox:Obj}{od:Option Obj}
theorem instObj {M:Model}(X:K.In s.heap)(I:Vd s.heap x ox C od)(ho:OV K (.ref C) (.type "object")=some true):T3 M s.heap (S_ (.ref x) (.type "object")) true:=I.type.andThen (PySem.W.looks_subIn X ho)
end
end TR
namespace PySem
section
variable {prog:Lz}{w:LX}{K:Type}[DecidableEq K]{kd:KeyKind prog w K}{A:L9}{E:K9->K_->Prop}{s:K_}{h h':Ng}
inductive bQ (kd:KeyKind prog w K)(h:Ng):List (List K)->List K9->Prop
 |nil:bQ kd h [] []
 |cons {k:List K}{a:Lg}{ks:List (List K)}{vs:List K9}:QN kd h k a->bQ kd h ks vs->bQ kd h (k::ks) (.ref a::vs)
def c8 (kd:KeyKind prog w K)(h:Ng)(ks:List (List K))(a:Lg):Prop:=∃ o items n,h.get? a=some o/\o.cls=.type "tuple"/\o.data=.seq items n/\bQ kd h ks items.toList
theorem bQ.inj:∀ {x y:List (List K)}{vs:List K9},bQ kd h x vs->bQ kd h y vs->x=y
 |_,_,_,.nil,.nil=>rfl
 |_,_,_,.cons a b,.cons c d=>by rw[a.inj c,bQ.inj b d]
theorem bQ.length:∀ {x:List (List K)}{vs:List K9},bQ kd h x vs->x.length=vs.length
 |_,_,.nil=>rfl
 |_,_,.cons _ b=>by rw[LK,LK,b.length]
theorem bQ.map (f:∀ k a,QN kd h k a->QN kd h' k a):∀ {x:List (List K)}{vs:List K9},bQ kd h x vs->bQ kd h' x vs
 |_,_,.nil=>.nil
 |_,_,.cons a b=>.cons (f _ _ a) (bQ.map f b)
theorem c8.typeIs {ks:List (List K)}{a:Lg}(x:c8 kd s.heap ks a):s.TypeIs (.ref a) "tuple":=let ⟨o,_,_,ho,hc,_⟩:=x;⟨o,ho,hc⟩
theorem c8.inj {a:Lg}{x y:List (List K)}(hx:c8 kd h x a)(hy:c8 kd h y a):x=y:=by
 obtain⟨o,items,n,ho,_,hd,hi⟩:=hx;obtain⟨o',items',n',ho',_,hd',hi'⟩:=hy;obtain rfl:o=o':=K8 (ho.symm.trans ho');rw[hd] at hd';injection hd' with h1 _
 subst h1;exact hi.inj hi'
theorem c8.keeps {ks:List (List K)}{a d:Lg}{o:Obj}{es:Array M0}{ep:Nat}(x:c8 kd h ks a)(ho:h.get? d=some o)(hd:o.data=.dict es ep)(hs:Mz d h h'):c8 kd h' ks a:=by
 obtain⟨o',items,n,ho',hc,hd',hi⟩:=x;have hne:a≠d:=by
  rintro rfl;obtain rfl:o'=o:=K8 (ho'.symm.trans ho);rw[hd] at hd';exact nomatch hd'
 exact⟨o',items,n,(hs.2 a hne).trans ho',hc,hd',hi.map λk b q=>q.keeps ho hd hs⟩
def wS (kd:KeyKind prog w K)(ks:List (List K)):Int:=reduceHash (MH (ks.map (OQ kd)))
def lh (ks:List (List K)):Nat:=(ks.map λk=>k.length+1).sum+1
theorem yS {ks:List (List K)}{a:Lg}{Q:Int->K_->Prop}(hu:A.units+1<cLine)(hk:c8 kd s.heap ks a)(h:Q (wS kd ks) { s with toks:=s.toks+lh ks }):Lm (LJ prog w) A (pyHash (.ref a)) Q E s:=by
 have hT:=hk.typeIs;obtain⟨o,items,n,ho,_,hd,hi⟩:=hk;unfold pyHash
 first|unfold pyHashByItsType|skip
 first|refine KE (wpAny_cRoomFor_or (.inr (Nat.lt_of_succ_lt hu)) ?_)|skip
 refine KE (NA hT N4.lookup ?_);show Lm _ _ (if(some (Value.builtin "tuple.__hash__")==some Ma)=true then _ else _) Q E s;rw[LB (by rw[beq_builtin_none];exact LZ)];refine KE (NA hT N4.lookup ?_);show Lm _ _ (callSpecialIfBoundUnlessNone? (.ref a) "__hash__" _>>=_) Q E s;refine KE (wpAny_callSpecialIfBoundUnlessNone?_slot hT N4 (MG N4 hT F.entry_tuple_hash ?_ (F.args_tuple_hash_1 _)));show Lm _ _ (Builtin.Tuple.tupleItemsOf (.ref a)>>=_) _ _ s;refine KE (Ri ho hd ?_);refine KE ?_;rw[<- ML];refine M4 _ (λbA (b:Array Int) s'=>∃ done left,ks=done++left/\bQ kd s.heap left bA/\b.toList=done.map (OQ kd)/\s'={ s with toks:=s.toks+(done.map λk=>k.length+1).sum })
  _ ?_ ?_ _ _ ⟨[],ks,rfl,hi,rfl,rfl⟩
 ·rintro x bA b s' ⟨done,left,rfl,hl,hb,rfl⟩;cases hl with
  |@cons k c ks' _ h1 hl'=>
   refine KE (wpAny_pyHash_tuple (knd:=kd) (A:=A.in1) hu h1 ?_)
   first
    |exact K7 ⟨done++[k],ks',by simp,hl',by simp[hb],by simp[Ol]⟩
    |exact KE (K7 (K7 ⟨done++[k],ks',by simp,hl',by simp[hb],by simp[Ol]⟩))
 ·rintro b s' ⟨done,left,rfl,hl,hb,rfl⟩;cases hl;rw[PJ] at h;show Lm _ _ (retInt (MH b.toList)) _ _ _;rw[hb];refine wpAny_ret_mkInt ?_;show Lm _ _ (if(decide (-(2:Int)^63<=MH (done.map (OQ kd)))&&decide (MH (done.map (OQ kd))<2^63))=true then _ else _) Q E _;unfold wS reduceHash at h;unfold lh at h
  by_cases hr:(decide (-(2:Int)^63<=MH (done.map (OQ kd)))&&decide (MH (done.map (OQ kd))<2^63))=true
  ·rw[LL hr];rw[LL hr] at h;exact K7 (by simpa [Ol] using h)
  ·rw[LB hr];rw[LB hr] at h;exact KE (OY (K7 (by simpa [Ol] using h)))
theorem AY {x y:List (List K)}{a b:Lg}{P:Fin->K_->Prop} (hu:A.units < cLine) (hx:c8 kd s.heap x a) (hy:c8 kd s.heap y b) (h:P (.done (.ret (.bool (decide (x=y))))) s) :
  Lm (LJ prog w) A (NU.«tuple.__eq__» ⟨[.ref a,.ref b],[]⟩) P E s:=by
 have hTb:=hy.typeIs;obtain⟨oa,xs,na,hoa,_,hda,hia⟩:=hx;obtain⟨ob,ys,nb,hob,_,hdb,hib⟩:=hy;show Lm _ _ (S_ (.ref b) (.type "tuple")>>=_) _ _ s;refine KE (NZ hTb Qt ?_);simp only[MP,Li,Mb];refine KE (Ri hoa hda ?_);refine KE (Ri hob hdb ?_);refine KE ?_;refine M4 _
  (λbA r s'=>r.1=none/\s'=s/\∃ x' y' xs' ys',bA=List.zip xs' ys'/\bQ kd s.heap x' xs'/\bQ kd s.heap y' ys'/\decide (x'=y')=decide (x=y)/\(xs'.length==ys'.length)=(xs.size==ys.size))
  _ ?_ ?_ _ _ ⟨rfl,rfl,x,y,xs.toList,ys.toList,rfl,hia,hib,rfl,by simp⟩
 ·rintro⟨u,v⟩ bA r s' ⟨hr,rfl,x',y',xs',ys',hz,hx',hy',hdec,hlen⟩;cases hx' with
  |nil=>simp at hz
  |@cons k1 c1 x'' xs'' h1 hx''=>
   cases hy' with
   |nil=>simp at hz
   |@cons k2 c2 y'' ys'' h2 hy''=>
    simp only[List.zip_cons_cons,List.cons.injEq,T1] at hz;obtain⟨⟨rfl,rfl⟩,rfl⟩:=hz;refine KE (wpAny_eqBool_tuple (knd:=kd) hu h1 h2 ?_)
    by_cases hk:k1=k2
    ·subst hk;rw[Lj rfl];simp only[MP,Li,Mb];refine K7 ⟨rfl,rfl,x'',y'',xs'',ys'',rfl,hx'',hy'',?_,by simpa using hlen⟩;rw[<- hdec]
     by_cases hxy:x''=y''
     ·simp[hxy]
     ·simp[hxy]
    ·rw[LW hk];simp only[Qe,Nz];have hf:decide (x=y)=false:=by rw[<- hdec];simp[hk]
     rw[hf] at h;exact KE (K7 (K7 (K7 h)))
 ·rintro⟨r1,r2⟩ s' ⟨hr,rfl,x',y',xs',ys',hz,hx',hy',hdec,hlen⟩;simp only at hr;subst hr;refine K7 ?_;have hfin:(xs.size==ys.size)=decide (x=y):=by
   rw[<- hdec,<- hlen];cases hx' with
   |nil=>
    cases hy' with
    |nil=>simp
    |cons _ _=>simp
   |cons _ _=>
    cases hy' with
    |nil=>simp
    |cons _ _=>simp at hz
  show P (.done (.ret (.bool (xs.size==ys.size)))) s';rw[hfin];exact h
theorem Fs {x y:List (List K)}{a b:Lg}{Q:Bool->K_->Prop}(hu:A.units+1<cLine)(hx:c8 kd s.heap x a)(hy:c8 kd s.heap y b)(h:Q (decide (x=y)) s):Lm (LJ prog w) A (eqBool (.ref a) (.ref b)) Q E s:=by
 unfold eqBool
 try with_reducible refine Mp ?_
 show Lm _ _ (if(LH a==LH b)=true then _ else _) Q E s
 by_cases hab:(LH a==LH b)=true
 ·rw[LL hab];have e:a=b:=by have:=eq_of_beq hab;injection this
  subst e;obtain rfl:=hx.inj hy;exact KE (OY (K7 (by simpa using h)))
 ·rw[LB hab];exact KE (wpAny_richCompare_same_room (op:=.Eq) hx.typeIs hy.typeIs PD
   (MG PD hx.typeIs F.entry_tuple_eq (AY (A:=A.in1) hu hx hy ⟨_,rfl,(λe=>nomatch e),MS h⟩) (F.args_tuple_eq_2 _ _)) (Nat.lt_of_succ_lt hu))
theorem AO {n:Nat}{ks:List K}{a:Lg}{Q:Bool->K_->Prop}(hk:QN kd s.heap ks a)(h:Q true s):Lm (LJ prog w) A (eqIsQuiet (n+1) (.ref a)) Q E s:=by
 have hT:=hk.typeIs;obtain⟨o,items,m,ho,_,hd,hi⟩:=hk;unfold eqIsQuiet;refine KE (NA hT PD.lookup ?_);show Lm _ _ (S_ (.ref a) (.type "tuple")>>=_) _ _ s;refine KE (NZ hT Qt ?_);simp only[MP,Li,Mb];refine KE (Mi ho hd ?_);refine KE ?_;show Lm _ _ (forIn items _ _) _ _ s;rw[<- ML];refine M4 _ (λbA r s'=>r.1=none/\s'=s/\∀ v∈bA,Oz v=true) _ ?_ ?_ _ _ ⟨rfl,rfl,hi.byValue⟩
 ·rintro v bA r s' ⟨hr,rfl,hall⟩;rw[eqIsQuiet_byValue _ (hall v Lr)];refine KE (K7 ?_);simp only[MP,Li,Mb];exact K7 ⟨rfl,rfl,λu hu'=>hall u (Le _ hu')⟩
 ·rintro⟨r1,r2⟩ s' ⟨hr,rfl,_⟩;simp only at hr;subst hr;exact K7 h
theorem oE {ks:List (List K)}{a:Lg}{Q:Bool->K_->Prop}(hk:c8 kd s.heap ks a)(h:Q true s):Lm (LJ prog w) A (eqIsQuiet 8 (.ref a)) Q E s:=by
 have hT:=hk.typeIs;obtain⟨o,items,m,ho,_,hd,hi⟩:=hk;unfold eqIsQuiet;refine KE (NA hT PD.lookup ?_);show Lm _ _ (S_ (.ref a) (.type "tuple")>>=_) _ _ s;refine KE (NZ hT Qt ?_);simp only[MP,Li,Mb];refine KE (Mi ho hd ?_);refine KE ?_;show Lm _ _ (forIn items _ _) _ _ s;rw[<- ML];refine M4 _ (λbA r s'=>r.1=none/\s'=s/\∃ left,bQ kd s.heap left bA) _ ?_ ?_ _ _ ⟨rfl,rfl,ks,hi⟩
 ·rintro v bA r s' ⟨hr,rfl,left,hl⟩;cases hl with
  |@cons k c ks' _ h1 hl'=>
   refine KE (AO (n:=6) h1 ?_);simp only[MP,Li,Mb];exact K7 ⟨rfl,rfl,ks',hl'⟩
 ·rintro⟨r1,r2⟩ s' ⟨hr,rfl,_⟩;simp only at hr;subst hr;exact K7 h
end
def tL {prog:Lz}{w:LX}{K:Type}[DecidableEq K](kd:KeyKind prog w K):UZ prog w (List (List K)) where
 is:=c8 kd
 hash:=wS kd
 draws:=lh
 room:=λA=>A.units+1<cLine
 inj:=λhx hy=>hx.inj hy
 keeps:=λx ho hd hs=>x.keeps ho hd hs
 pyHash:=λhu hk h=>yS hu hk h
 eqBool:=λhu hx hy h=>Fs hu hx hy h
 quiet:=λhk h=>oE hk h
end PySem
namespace TR
open PySem PySem.Spec PyProof.Rows L2
def rK (q:Rat):List eK:=[.inl q.num,.inl (q.den:Int)]
def cK (c:Q3):List (List eK):=[rK c.a,rK c.b,rK c.c]
theorem xM {p q:Rat}(h:rK p=rK q):p=q:=by
 injection h with h1 h2
 injection h1 with h1
 injection h2 with h2 _
 injection h2 with h2
 exact Rat.ext h1 (by lia)
theorem wn {c e:Q3}(h:cK c=cK e):c=e:=by
 injection h with h1 h
 injection h with h2 h
 injection h with h3 _
 have e1:=xM h1;have e2:=xM h2;have e3:=xM h3;cases c;cases e;cases e1;cases e2;cases e3;rfl
section
variable {P:Lz}{w:LX}{H H':Hp}{h:Ng}{K:HD}
theorem rH {q:Rat}{v:V}{u:K9}(ok:jd P w H h)(hq:aA K H (rD q) v)(ru:aY v u):∃ a,u=.ref a/\QN (bh P w) h (rK q) a:=by
 obtain⟨a,rfl,ha⟩:=cC hq;cases ru;exact⟨a,rfl,p9 (ks:=rK q) ok ha⟩
theorem Ck {c:Q3}{ka:Lg}(ok:jd P w H h)(hc:aA K H c.col (.ref ka)):c8 (bh P w) h (cK c) ka:=by
 cases hc with
 |tup e q=>
  obtain⟨x,y,z,rfl,h1,h2,h3⟩:=cW q;obtain⟨_,its,r,o,g1,g2,n,g3⟩:=(show bv P w H h ka (.tup [x,y,z]) from ok ka _ e)
  obtain⟨u1,u2,u3,rfl,r1,r2,r3⟩:=Fo r;obtain⟨a1,rfl,k1⟩:=rH ok h1 r1;obtain⟨a2,rfl,k2⟩:=rH ok h2 r2;obtain⟨a3,rfl,k3⟩:=rH ok h3 r3;exact⟨o,_,n,g1,g2,g3,.cons k1 (.cons k2 (.cons k3 .nil))⟩
def j5 (xs:List (Q3×Lg)):List (List (List eK)×Lg×K9):=xs.map λp=>(cK p.1,p.2,.bool true)
def AE (P:Lz)(w:LX)(a:Lg)(xs:List (Q3×Lg)):HO:=.ext λh=>(a==MJ)=false/\∃ o es ep,h.get? a=some o/\o.ExactDict/\o.data=.dict es ep/\es.toList=(j5 xs).map (S8 (tL (bh P w)))
theorem Fw {a:Lg}{xs:List (Q3×Lg)}(hs:(a==MJ)=false){o:Obj}{es:Array M0}{ep:Nat}(h1:h.get? a=some o)(h2:o.ExactDict)(h3:o.data=.dict es ep)(h4:es.toList=(j5 xs).map (S8 (tL (bh P w)))):bv P w H h a (AE P w a xs):=
 ⟨⟨hs,o,es,ep,h1,h2,h3,h4⟩,⟨o,h1⟩,λ_ _ ⟨q1,o,es,ep,g1,g2⟩ k=>⟨q1,o,es,ep,k o g1,g2⟩⟩
def wq (K:HD)(H:Hp)(xs:List (Q3×Lg)):Prop:=(∀ p∈xs,aA K H p.1.col (.ref p.2))/\(xs.map (·.1)).Nodup
theorem wq.same {xs:List (Q3×Lg)}(k:wq K H xs)(s:af H H'):wq K H' xs:=⟨λp hp=>aA.same s (k.1 p hp),k.2⟩
theorem GQ {xs:List (Q3×Lg)}(h:(xs.map (·.1)).Nodup):((j5 xs).map (·.1)).Nodup:=by
 have e:(j5 xs).map (·.1)=(xs.map (·.1)).map cK:=by unfold j5;rw[NK,NK];rfl
 rw[e];exact Uh cK (λa b n z=>n (wn z)) h
theorem FC {a:Lg}{xs:List (Q3×Lg)}(ok:jd P w H h)(e:H a=some (AE P w a xs))(k:wq K H xs):(a==MJ)=false/\h.DictOfH (tL (bh P w)) a (j5 xs):=by
 obtain⟨⟨q1,o,es,ep,g1,g2,g3,g4⟩,_,_⟩:=(show bv P w H h a (AE P w a xs) from ok a _ e)
 refine⟨q1,o,es,ep,g1,g2,g3,g4,λx hx=>?_,GQ k.2⟩;obtain⟨p,hp,rfl⟩:=Md.mp hx;exact Ck ok (k.1 p hp)
def oK (xs:List (Q3×Lg))(c:Q3)(b:Lg):List (Q3×Lg):=if xs.any (λp=>decide (cK p.1=cK c))=true then xs else xs++[(c,b)]
theorem wx (xs:List (Q3×Lg))(c:Q3)(b:Lg):storedH (j5 xs) (cK c) b (.bool true)=j5 (oK xs c b):=by
 have hk:(Vf (j5 xs) (cK c)).isSome=xs.any (λp=>decide (cK p.1=cK c)):=by
  unfold Vf j5;rw[Ur]
  induction xs with
  |nil=>rfl
  |cons p xs ih=>
   rw[LA,Nv,QJ]
   by_cases z:cK p.1=cK c
   ·rw[Lj z];rfl
   ·rw[LW z,Bool.false_or];exact ih
 unfold storedH oK;rw[hk]
 by_cases z:xs.any (λp=>decide (cK p.1=cK c))=true
 ·rw[LL z,LL z];unfold j5;rw[NK];refine TD λp _=>?_
  show putAt (cK c) (.bool true) (cK p.1,p.2,.bool true)=_;unfold putAt
  split<;>rfl
 ·rw[LB z,LB z];unfold j5;rw[Mg];rfl
end
section
variable {X:Cx}{pos pos':Pos}
def Hm (P:Lz)(w:LX):TE:=λ_ H Q=>∀ p,H p=none->Q (.ref p) (upd H p (AE P w p []))
theorem AA {P:Lz}{w:LX}(hP:X.prog=P)(hw:X.w=w):WE X (.Dict [] [] pos) (Hm P w):=by
 refine⟨?_⟩;subst hP hw;intro pins s σ H Q I h;exact wpAny_Dict_empty ⟨.ref s.heap.objs.size,_,I.laid (a:=s.heap.objs.size) (o:=AE X.prog X.w s.heap.objs.size []) (t':=s.toks) (λ_ _ q=>K6 _ q) (Lc _)
  (Fw (xs:=[]) (M6.mpr (NF (Lp I.big))) (Ld _ rfl) ⟨rfl,rfl,rfl⟩ rfl rfl),rfl,h _ (I.hok.fresh (Lc _))⟩
def Gp (P:Lz)(w:LX)(K:HD)(td ty tv:TE):TS:=λD σ H=>tv σ H λv H1=>td σ H1 λx H2=>ty σ H2 λy H3=>∃ (a b:Lg) (xs:List (Q3×Lg)) (c:Q3),v=.bl true/\x=.ref a/\y=.ref b/\H3 a=some (AE P w a xs)/\aA K H3 c.col (.ref b)/\wq K H3 xs/\xs.length<1000/\D.nx σ (upd H3 a (AE P w a (oK xs c b)))
theorem zK {P:Lz}{w:LX}{K:HD}{o i value:Nq}{td ty tv:TE} (hP:X.prog=P) (hw:X.w=w) (hu:X.A.units + 2 < cLine) (ho:WE X o td) (hi:WE X i ty) (hv:WE X value tv) (hs:Q2 value (some (.Subscript o i pos')) pos.line X.env=pure false) :
  WS X (.Assign [.Subscript o i pos'] value pos) (Gp P w K td ty tv):=by
 have ho:=ho.go;have hi:=hi.go;have hv:=hv.go;refine⟨?_⟩;subst hP hw;intro pins s σ H D I h;refine Sv (bP (hv pins s σ H _ I h) λr s1 ⟨v,H1,I1,rv,q1⟩=>bP (ho pins s1 σ H1 _ I1 q1) λu s2 ⟨x,H2,I2,rx,q2⟩=>bP (hi pins s2 σ H2 _ I2 q2) λiv s3 ⟨y,H3,I3,ry,a,b,xs,c,ev,ex,ey,e,hc,ks,hl,q3⟩=>?_) hs;subst ev ex ey;cases(show u=LH a from rx);cases(show iv=LH b from ry);cases(show r=Ox true from rv);obtain⟨hd,dd⟩:=FC I3.hok e ks;refine wpAny_setItem_heap (knd:=tL (bh X.prog X.w)) (hsz:=by unfold j5;rw[K'];exact bO (by lia)) hu (Ck I3.hok hc) dd λh' dd' hs=>?_
 rw[wx] at dd';obtain⟨q,es,ep,hq,h2,h3,h4,_,_⟩:=dd';exact⟨σ,_,tX I3 (by rw[e];exact True.intro) hs ⟨q,hq⟩ (Fw hd hq h2 h3 h4),q3⟩
def F4 (P:Lz)(w:LX)(K:HD):List V->Hp->VK->Prop:=λvs H Q=>∃ (a:Lg) (xs:List (Q3×Lg)),vs=[.ref a]/\H a=some (AE P w a xs)/\wq K H xs/\xs.length<=1000/\∀ D,H D=none->Q (.ref D) (upd H D (.lst (xs.map λp=>.ref p.2)))
theorem we {P:Lz}{w:LX}{K:HD}(hP:X.prog=P)(hw:X.w=w)(hc:X.calm=true):cy X (.type "list") (F4 P w K):=by
 subst hP hw;intro pins s σ H vs us Q I r h;obtain⟨a,xs,rfl,e,ks,hl,q⟩:=h;obtain⟨u,rfl,rx⟩:=fk r;cases rx;obtain⟨hd,dd⟩:=FC I.hok e ks;obtain⟨es,ep,raw,hes⟩:=Heap.RawD.of dd;have hz:es.size=xs.length:=by
  have y:=NE P7 hes
  simpa [j5] using y
 refine PySem.W.kdl_call (Ew hd) (I.ok.hd hc) raw (by rw[hz];exact bO hl) λh' tk acc c hk hD hacc=>?_
 have ha:acc.toList.length=xs.length:=by rw[LO];exact hacc.1.trans hz
 have hv:aF (xs.map λp=>V.ref p.2) acc.toList:=by
  refine q_ (by rw[K',ha]) λi v u h1 h2=>?_
  rw[Lk] at h1;obtain⟨p,hp,rfl⟩:=Lx.mp h1;obtain⟨en,y1,rfl⟩:=hacc.2 i u (by rw[<- Nt];exact h2);have y2:es.toList[i]?=some en:=by rw[Nt];exact y1
  rw[hes,Lk] at y2;unfold j5 at y2;rw[Lk,hp] at y2;cases y2;rfl
 exact⟨.ref s.heap.objs.size,_,I.laid (a:=s.heap.objs.size) (o:=.lst (xs.map λp=>.ref p.2)) (t':=tk) hk (Lc _) ⟨by rw[K'];exact bO hl,acc.toList,c,hv,by rw[O4];exact hD⟩,rfl,q _ (I.hok.fresh (Lc _))⟩
end
end TR
namespace PySem
open Sem (wp)
section
variable {prog:Lz}{w:LX}{A:L9}{R:U7->K_->Prop}{I:Lg}{fp wr:List Lg}{n:Nat}{P:Nat->K9->Prop}{St:Nat->Ng->Prop}
theorem z9 {kw:List (Str × K9)} (W:Walks prog w A.in1 I fp wr n P St) (bt:Nat->Nat->Bool) (hcmp:CmpOf prog w A.in1 .Gt P bt) (S:Lg) (hSf:S ∉ fp) :
  ∀ (k j:Nat) (s:K_) (vb:K9) (c:Nat),n-(j+1)=k->j+1<=n->St (j+1) s.heap->P (Q1 bt j) vb ->
  s.heap.get? S=some { cls:=.type "list",dict:=none,data:=.seq #[vb,vb] c,slots:=#[] } ->
  (∀ v h' tk,P (Q1 bt (n-1)) v->(∀ b o,b∉wr->b≠S->s.heap.get? b=some o->h'.get? b=some o)->R (.ok (.ret v)) { s with heap:=h',toks:=tk }) ->
  Oo (LJ prog w) A (.builtin "max.loop" ⟨[.ref I,.none,.ref S],kw⟩) R s:=by
 have hSw:S∉wr:=λh=>hSf (W.sub _ h)
 have hname:(toString "max"++toString ".loop":String)="max.loop":=by decide
 intro k
 induction k with
 |zero=>
  intro j s vb c hk hj hst hPb hS hR;have hin:j+1=n:=by lia
  refine M2 Sb ?_;rw[MK NX _];show Lm _ A.in1 (SZ (.ref S)>>=_) _ _ s;refine KE (Mi hS rfl ?_);show Lm _ A.in1 (tryCatch (Pw (.ref I)) _>>=_) _ _ s;refine KE (Qj (W.done s _ _ (hin▸hst) λh' tk hk'=>?_));have hS':=hk' S _ hSw hS;show Lm _ A.in1 (updateSeq S (λ_=>#[])>>=_) _ _ _;refine KE ?_;refine S4 hS' rfl (KE (Oq (K7 ?_)));exact hR vb _ tk (by rw[<- hin];exact hPb) λb o hbw hbS e=>(MY _ _ (NF hbS)).trans (hk' b o hbw e)
 |succ k ih=>
  intro j s vb c hk hj hst hPb hS hR;have hlt:j+1<n:=by lia
  refine M2 Sb ?_;rw[MK NX _];show Lm _ A.in1 (SZ (.ref S)>>=_) _ _ s;refine KE (Mi hS rfl ?_);show Lm _ A.in1 (tryCatch (Pw (.ref I)) _>>=_) _ _ s;refine KE (Qj (W.item (j+1) s _ _ hlt hst λv h' tk hP hst' hk'=>?_));have hS':=hk' S _ hSw hS;show Lm _ A.in1 (tryCatch (holding [v,v] (richCompare .Gt v vb>>=_)) _>>=_) _ _ _;refine KE (Qj (Mp (KE (hcmp (j+1) (Q1 bt j) v vb _ _ _ hP hPb ?_))));refine KE (Mp (MS ?_));refine KE (Oq (K7 ?_));cases hb:bt (j+1) (Q1 bt j) with
  |true=>
   simp only[Nz];refine KE ?_;refine S4 hS' rfl (KE (Oq ?_));rw[hname];refine K7 ⟨Op NX _,ih (j+1) _ v _ (by lia) hlt (W.frame _ _ _ hst' λb hbf o e=>?_) (by simp only[Q1,hb,Nz];exact hP) (MN _ hS' rfl) λv' h'' tk'' hP' hk''=>?_⟩
   ·exact(MY _ _ (λh:S=b=>hSf (by rw[h];exact hbf))).trans e
   ·exact hR v' h'' tk'' hP' λb o hbw hbS e=>hk'' b o hbw hbS ((MY _ _ (NF hbS)).trans (hk' b o hbw e))
  |false=>
   simp only[Li,Mb];refine KE (Oq ?_);rw[hname];refine K7 ⟨Op NX _,ih (j+1) _ vb c (by lia) hlt hst' (by simp only[Q1,hb,Li,Mb];exact hPb) hS' λv' h'' tk'' hP' hk''=>?_⟩;exact hR v' h'' tk'' hP' λb o hbw hbS e=>hk'' b o hbw hbS (hk' b o hbw e)
theorem xU {nm:Str}{d:K9} (W:Walks prog w A.in1 I fp wr n P St) (bt:Nat->Nat->Bool) (hcmp:CmpOf prog w A.in1 .Gt P bt) (S:Lg) (hSf:S ∉ fp) {s:K_}{c:Nat} (hst:St 0 s.heap)
  (hS:s.heap.get? S=some { cls:=.type "list",dict:=none,data:=.seq #[] c,slots:=#[] })
  (hR:∀ v h' tk,(n=0/\v=d)\/(0<n/\P (Q1 bt (n-1)) v)->(∀ b o,b∉wr->b≠S->s.heap.get? b=some o->h'.get? b=some o)->R (.ok (.ret v)) { s with heap:=h',toks:=tk }):
  Oo (LJ prog w) A (.builtin "max.loop" ⟨[.ref I,.none,.ref S],[(nm,d)]⟩) R s:=by
 have hSw:S∉wr:=λh=>hSf (W.sub _ h)
 have hname:(toString "max"++toString ".loop":String)="max.loop":=by decide
 refine M2 Sb ?_;rw[MK NX _];show Lm _ A.in1 (SZ (.ref S)>>=_) _ _ s;refine KE (Mi hS rfl ?_);show Lm _ A.in1 (tryCatch (Pw (.ref I)) _>>=_) _ _ s
 by_cases hn:0<n
 ·refine KE (Qj (W.item 0 s _ _ hn hst λv h' tk hP hst' hk'=>?_));have hS':=hk' S _ hSw hS;show Lm _ A.in1 (updateSeq S (λ_=>#[v,v])>>=_) _ _ _;refine KE ?_;refine S4 hS' rfl ?_;rw[hname];refine K7 ⟨Op NX _,z9 W bt hcmp S hSf _ 0 _ v _ rfl hn (W.frame _ _ _ hst' λb hbf o e=>?_) hP (MN _ hS' rfl) λv' h'' tk'' hP' hk''=>?_⟩
  ·exact(MY _ _ (λh:S=b=>hSf (by rw[h];exact hbf))).trans e
  ·exact hR v' h'' tk'' (.inr ⟨hn,hP'⟩) λb o hbw hbS e=>hk'' b o hbw hbS ((MY _ _ (NF hbS)).trans (hk' b o hbw e))
 ·have h0:n=0:=by lia
  subst h0;refine KE (Qj (W.done s _ _ hst λh' tk hk'=>?_));refine KE (OY (K7 ?_));exact hR d h' tk (.inl ⟨rfl,rfl⟩) λb o hbw _ e=>hk' b o hbw e
end
section
variable {prog:Lz}{w:LX}{A:L9}{E:K9->K_->Prop}{s:K_}
theorem Ac (a v:K9):U9 "max" ⟨[a],[(MB "default",v)]⟩:=by unfold U9;kernel_rfl
theorem z_ (d:K9):QP "max" ["key","default"] 0 ⟨[],[(MB "default",d)]⟩=pure [none,some d]:=rfl
theorem rX {id:String}{b:NU}{args:List K9}{kw:List (Str × K9)}{Q:K9->K_->Prop} (hk:builtinKind id=none) (hp:plainId id=true) (hb:entryFor table id=some b) (ha:U9 id ⟨args,kw⟩)
  (hc:Lm (LJ prog w) A.in1 (b ⟨args,kw⟩) (λfin s'=>match fin with
   |.done f=>(match (Except.ok f:U7) with|.ok (.ret v)=>Q v s'|.ok _=>False|.error e=>E e s')
   |.again c'=>c'.quiet=true/\Oo (LJ prog w) A c' (λr s'=>match r with|.ok (.ret v)=>Q v s'|.ok _=>False|.error e=>E e s') s') E s) :
  Lm (LJ prog w) A (call (.builtin id) args kw) Q E s:=by
 refine QO (codeAny_call_builtin hp hb ?_);simp only[checkBuiltinCall,hk];cases hsig:Manifest.signature? id with
 |none=>exact K7 hc
 |some sig=>
  simp only[U9,hsig] at ha;have h2:Bind.checkArgs id sig ⟨args,kw⟩=pure ():=ha;show Lm _ _ (Bind.checkArgs id sig ⟨args,kw⟩) _ _ _;rw[h2];exact K7 hc
theorem zq {l:Lg}{xs:Array (Int × Tok)}{d:K9}{Q:K9->K_->Prop} (hh:A.handled=none) (hl:s.heap.IsList l (Rh xs))
  (h:∀ v h' tk,(xs.size=0/\v=d)\/(0<xs.size/\(Rh xs)[Q1 (λi j=>decide (UA xs i>UA xs j)) (xs.size-1)]?=some v)->(∀ b o,s.heap.get? b=some o->h'.get? b=some o)->Q v { s with heap:=h',toks:=tk }):
  Lm (LJ prog w) A (call (.builtin "max") [.ref l] [(MB "default",d)]) Q E s:=by
 have hname:(toString "max"++toString ".loop":String)="max.loop":=by decide
 refine rX F.kind_max F.plain_max F.entry_max (Ac _ _) ?_;show Lm _ A.in1 (QP "max" ["key","default"] 0 ⟨[],[(MB "default",d)]⟩>>=_) _ _ s;refine KE (R_ (z_ d) ?_);refine KE (K7 ?_);refine KE (iter_intList hl λs₂ e st hfp hlI=>?_);subst e;refine KE (Ml ?_);have hz:(Rh xs).size=xs.size:=by simp[Rh]
 have W:=Uy (prog:=prog) (w:=w) (A:=A.in1) hh s.heap.objs.size l hlI (Rh xs);have hlt:l<s.heap.objs.size:=by obtain⟨_,e,_⟩:=hl;exact Lb e
 rw[hname];refine K7 ⟨Op NX _,xU W (λi j=>decide (UA xs i>UA xs j)) (CmpOf.ints_gt (UA xs) (λ_ _=>intItems_at)) (s.heap.push { cls:=.type "list_iterator",data:=.fields #[.ref l,.int 0 0] }).objs.size (λhm=>L7 _ (hfp _ hm)) (W.frame _ _ _ st λb _ o e=>K6 _ e) (Ld _ rfl) λv h' tk hP hk=>?_⟩;refine h v h' tk (by rw[hz] at hP;exact hP) λb o e=>?_
 have lb:=Lb e;have e1:=K6 (h:=s.heap) { cls:=.type "list_iterator",data:=.fields #[.ref l,.int 0 0] } e;exact hk b o (λhm=>by cases Lo.mp hm;exact L7 _ lb) (Lp (Lb e1)) (K6 _ e1)
end
end PySem
namespace TR
open PySem PySem.Spec PyProof.Rows L2
section
variable {X:Cx}{K:HD}
def IQ (K:HD)(d:Int)(te:TE):TE:=λσ H Q=>te σ H λx H1=>∃ (p:Lg) (ns:List Int),x=.ref p/\bE K H1 p (ns.map V.int)/\∀ m,(ns=[]/\m=d)\/(m∈ns/\∀ x∈ns,x<=m)->Q (.int m) H1
theorem DJ {er:Nq}{te:TE}{d:Int}{j:Nat}{p pos kp cp:Pos} (hK:X.K=K) (hc:X.calm=true) (hg:Gl X "max") (hm:X.mg "max"=none) (he:WE X er te)
  (hst:LN [er] X.env=[(false,O7 er X.env)]:=by rfl):WE X (.Call (.Name "max" p) [er] [⟨some "default",.Constant (.int d) j cp,kp⟩] pos) (IQ K d te):=by
 have he:=he.go;refine⟨?_⟩;subst hK;intro pins s σ H Q I h;refine MX (fW I hg hm Bv ?_);refine callWith_kw (env:=X.env) (he:=by rw[hst];rfl) (hplain:=by rw[hst];rfl) (bP ((nO he tD hst) pos pins s σ H (λvs H1=>match vs with
  |[x]=>∃ (p:Lg) (ns:List Int),x=.ref p/\bE X.K H1 p (ns.map V.int)/\∀ m,(ns=[]/\m=d)\/(m∈ns/\∀ x∈ns,x<=m)->Q (.int m) H1
  |_=>False) I h) λus s1 ⟨vs,H1,I1,r1,q1⟩=>?_)
 match vs,r1,q1 with
 |[x],r1,q1=>
  obtain⟨p,ns,rfl,hp,q⟩:=q1;obtain⟨u,rfl,ru⟩:=fk r1;cases ru;refine kws_cons (wpAny_Constant_int (kws_nil ?_));show Lm _ _ (call (.builtin "max") [.ref p] [(MB "default",.int d s1.toks)]) _ _ _;have I2:aD X pins σ H1 { s1 with toks:=s1.toks+1 }:=I1.tok _;obtain⟨its,rv,pl,hz⟩:=I2.list hp;obtain⟨ps,rfl,rfl⟩:=nZ rv;have hl:=pl.isList;rw[vG] at hl;refine zq (I2.ok.hd hc) hl λv h' tk hv kk=>?_
  have I3:aD X pins σ H1 { s1 with heap:=h',toks:=tk }:=I2.kept (t':=tk) kk;rcases hv with ⟨h0,rfl⟩|⟨_,hv⟩
  ·refine⟨.int d,H1,I3,⟨_,rfl⟩,q d (.inl ⟨?_,rfl⟩)⟩;rw[Lh] at h0;rw[RT.mp h0];rfl
  ·obtain⟨t,rfl,hm⟩:=G' hv;refine⟨.int _,H1,I3,⟨t,rfl⟩,q _ (.inr ⟨hm,λx hx=>?_⟩)⟩;obtain⟨i,hi,rfl⟩:=Gb hx;exact(vi (UA ps.toArray) _).2 i hi
end
def xZ (h:Ng)(v:K9)(p:Int×Int):Prop:=∃ a t u,v=.ref a/\IsTup h a #[.int p.1 t,.int p.2 u]
theorem xZ.keeps {h h':Ng}{v:K9}{p:Int×Int}(x:xZ h v p)(k:∀ b o,h.get? b=some o->h'.get? b=some o):xZ h' v p:=by
 obtain⟨a,t,u,e,o,ho,r⟩:=x;exact⟨a,t,u,e,o,k _ _ ho,r⟩
def uD (z:Int)(ps:List (Int×Int)):List Int:=ps.map λp=>(p.1*z).fdiv p.2
section
variable {prog:Lz}{w:LX}{A:L9}{E:K9->K_->Prop}{s:K_}
theorem D5 {env:Env}{iter:Nq}{cx bl sc:Str}{p1 p2 p3 q1 q2 px px2 tp pos:Pos}{tk:Nat}{scope:Pq}{cl:List (Str × Lg)}{cf ka:Lg}{z:Int}{tz:Tok}{vs:List K9}{ps:List (Int × Int)}{Q:K9->K_->Prop}
  (hh:A.handled=none)(hclos:closureFor scope env=pure cl)(hcell:∀ y∈scope.names,y.2≠.cell)(hkind:scope.kind=.function)(hnames:∀ y∈scope.names,y.2=.local->scope.names.lookup y.1=some .local)
  (ht:scope.names.lookup cx=some .local)(hb:scope.names.lookup bl=some .local)(htb:cx≠bl)(hkf:∀ C,(OH scope cl C env).kindOf sc=some .free)(hcl:cl.lookup sc=some cf)(hcv:s.heap.IsCell cf (some (.int z tz)))
  (hit:∀ Q':K9->K_->Prop,Q' (.ref ka) s->Lm (LJ prog w) A (O7 iter env) Q' E s)(hka:IsTup s.heap ka vs.toArray)(hlen:ps.length=vs.length)(hrow:∀ (i:Nat) (v:K9) (p:Int×Int),vs[i]?=some v->ps[i]?=some p->xZ s.heap v p)
  (hok:∀ p∈ps,Sm 8000 p.1/\Sm 8000 z/\Sm 8000 (p.1*z)/\Sm 8000 p.2/\p.2≠0)(hsz:vs.length<=1000)
  (hs:∀ x,MQ iter env x=pure x)(hd1:(cx==("__debug__":Str))=false)(hd2:(bl==("__debug__":Str))=false)(hd3:(sc==("__debug__":Str))=false)(hd4:(sc==("__classdict__":Str))=false)
  (h:∀ D h' tk' c ys,(∀ b o,s.heap.get? b=some o->h'.get? b=some o)->s.heap.objs.size<=D->Nu ys (uD z ps)->h'.get? D=some { cls:=.type "list",data:=.seq ys.toArray c }->Q (.ref D) { s with heap:=h',toks:=tk' }):
  Lm (LJ prog w) A (O7 (.ListComp (.BinOp (.BinOp (.Name cx p1) .Mult (.Name sc p2) q1) .FloorDiv (.Name bl p3) q2) [⟨.Tuple [.Name cx px,.Name bl px2] tk tp,iter,[],0⟩] scope pos) env) Q E s:=by
 rw[T_];refine Oc (use:=none) rfl hs hclos hkind hnames (hit _ ?_);have hkl:ka<s.heap.objs.size:=hka.lt;have hkT:s.heap.IsTuple ka vs.toArray:=let ⟨o,a,b,n,d⟩:=hka;⟨o,a,b,n,d⟩
 refine N1 hkT ?_;refine Ml (QE hcell (by intro y hy;simp at hy) (λh₁ hns₁ hsb₁=>?_) hkind);dsimp only at hns₁ hsb₁ ⊢;generalize hG:s.heap.push { cls:=.type "tuple_iterator",data:=.fields #[.ref ka,.int 0 0] }=G at hns₁ hsb₁ ⊢;have gs:G.objs.size=s.heap.objs.size+1:=by rw[<- hG,Mw]
 have gI:G.get? s.heap.objs.size=some { cls:=.type "tuple_iterator",data:=.fields #[.ref ka,.int 0 0] }:=hG▸Ld _ rfl;have gk:∀ b o,s.heap.get? b=some o->G.get? b=some o:=λb o e=>hG▸K6 _ e
 generalize hH:G.push { cls:=.type "list",dict:=none,data:=.seq ([]:List K9).toArray }=H2 at hns₁ hsb₁ ⊢;have hs2:H2.objs.size=s.heap.objs.size+2:=by rw[<- hH,Mw,gs]
 have hD2:H2.get? G.objs.size=some { cls:=.type "list",dict:=none,data:=.seq ([]:List K9).toArray }:=hH▸Ld _ rfl;have hk2:∀ b o,G.get? b=some o->H2.get? b=some o:=λb o e=>hH▸K6 _ e
 have old:∀ b o,H2.get? b=some o->h₁.get? b=some o:=λb o e=>hsb₁.extBut b o (Lp (Lb e)) (K6 _ e)
 have W:=Walks.tuple (prog:=prog) (w:=w) (A:=A) hh s.heap.objs.size ka (Lp hkl) vs.toArray;have hzv:vs.toArray.size=vs.length:=by simp
 have ne1:∀ b,b<s.heap.objs.size->b≠s.heap.objs.size/\b≠G.objs.size/\b≠H2.objs.size:=λb hb=>⟨Lp hb,by rw[gs];exact Lp (Mr hb),by rw[hs2];exact Lp (Mr (Mr hb))⟩
 have nDI:G.objs.size≠s.heap.objs.size:=by rw[gs];exact Nat.succ_ne_self _
 have nCI:H2.objs.size≠s.heap.objs.size:=by rw[hs2];exact Ny (Mr (Ou _))
 have nCD:H2.objs.size≠G.objs.size:=by rw[hs2,gs];exact Nat.succ_ne_self _
 have kd:∀ C,(OH scope cl C env).scope.kind=.function:=λC=>hkind
 have loop:∀ s3:K_,s3={ s with heap:=h₁,toks:=s.toks + ([]:List (Str × K9)).length } ->
   Oo (LJ prog w) A (.compLoop (.ListComp (.BinOp (.BinOp (.Name cx p1) .Mult (.Name sc p2) q1) .FloorDiv (.Name bl p3) q2) [⟨.Tuple [.Name cx px,.Name bl px2] tk tp,iter,[],0⟩] scope pos) 0 (.ref s.heap.objs.size) (.ref G.objs.size) (OH scope cl H2.objs.size env))
    (compPost (LJ prog w) A E none Q (.ref G.objs.size) H2.objs.size) s3:=by
  rintro s3 rfl;refine jg (d:=0) rfl (λn s'=>∃ h' tk' i ys m' c,s'={ s with heap:=h',toks:=tk' }/\i<=vs.length/\n=vs.length-i/\(∀ b o,s.heap.get? b=some o->h'.get? b=some o)/\(h'.IsTupleIter s.heap.objs.size ka i/\h'.IsTuple ka vs.toArray)/\h'.Ns H2.objs.size m' /\
   Nu ys (uD z (ps.take i))/\h'.get? G.objs.size=some { cls:=.type "list",data:=.seq ys.toArray c }) ?_ vs.length
   ⟨h₁,_,0,[],_,0,rfl,LY _,rfl,λb o e=>old b o (hk2 b o (gk b o e)),⟨⟨_,old _ _ (hk2 _ _ gI),rfl,rfl⟩,hkT.at λo e=>old _ _ (hk2 _ _ (gk _ o e))⟩,hns₁,.nil,old _ _ hD2⟩
  rintro n s' ⟨h',tk',i,ys,m',c,rfl,hi,rfl,kp,st,hns,hys,hD⟩
  by_cases hlt:i<vs.length
  ·refine W.item i _ _ _ (by rw[hzv];exact hlt) st λv h2 tk2 hv st2 hk=>?_
   have hv':vs[i]?=some v:=by simpa using hv
   obtain⟨p,hp⟩:∃ p,ps[i]?=some p:=⟨_,LS (by lia)⟩
   have kp2:∀ b o,s.heap.get? b=some o->h2.get? b=some o:=λb o e=>hk b o (by simpa using (ne1 b (Lb e)).1) (kp b o e)
   obtain⟨a,ta,ub,rfl,hT⟩:=(hrow i v p hv' hp).keeps kp2;obtain⟨oI,eI,cI,dI⟩:=id st2.1;refine y_ (s:={ s with heap:=h2,toks:=tk2 }) eI cI dI (by decide) ?_;have hns2:h2.Ns H2.objs.size m':=hns.at' λo e=>hk _ o (by simpa using nCI) e
   have hD2':=hk _ _ (by simpa using nDI) hD;refine Rg (s:={ s with heap:=h2,toks:=tk2 }) hh hT rfl rfl λh5 he=>?_
   have he':∀ b o,h2.get? b=some o->h5.get? b=some o:=λb o e=>he b o (Lp (Lb e)) e
   refine OG (Qd (Qv (O6 ht) (hns2.at' λo e=>he' _ o e) (λh6 hn6 hs6=>?_) (by simp[OH,relabel,hkind])));refine OG (Qd (Qv (O6 hb) hn6 (λh3 hn3 hs3=>?_) (by simp[OH,relabel,hkind])));refine RJ ?_;have old3:∀ b o,b≠H2.objs.size->h2.get? b=some o->h3.get? b=some o:=λb o hb e=>hs3.extBut b o hb (hs6.extBut b o hb (he' b o e))
   have kp3:∀ b o,s.heap.get? b=some o->h3.get? b=some o:=λb o e=>old3 b o (ne1 b (Lb e)).2.2 (kp2 b o e)
   have hD3:=old3 _ _ nCD.symm hD2';refine K7 ?_;rw[LL rfl];unfold kD;show Lm _ _ (do let _ <- call (.builtin "list.append") [.ref G.objs.size,<- O7 (.BinOp (.BinOp (.Name cx p1) .Mult (.Name sc p2) q1) .FloorDiv (.Name bl p3) q2) (OH scope cl H2.objs.size env)]) _ _ _;obtain⟨k1,k2,k3,k4,k5⟩:=hok p (Lq hp);refine KE (wpAny_BinOp (wpAny_BinOp ?_));refine Px (NH (kd _) (O6 ht) hn3 (v:=.int p.1 ta) (by simp[htb]) ?_) hd1;refine Px (Q5 (kd _) (hkf _) hcl (hcv.keeps kp3) ?_ hd4) hd3;refine mul_int ?_ (Sd (LM k1.bits (by decide)) (LM k2.bits (by decide)));refine Px (NH (kd _) (O6 hb) hn3 (v:=.int p.2 ub) (by simp) ?_) hd2;refine floordiv_int k5 ?_ (.inl (Rz (by
    by_cases h0:p.2.natAbs=0
    ·rw[h0];decide
    ·exact Ls ((U4 h0).mpr k4) (by decide))))
   have hyl:ys.length=i:=by
    have:=hys.length;unfold uD at this;rw[K',L5] at this;lia
   refine KE (append_at (hsz:=by rw[Lh,hyl];exact bO (by lia)) hD3 λh9 hs9 hD9=>K7 ?_);obtain⟨tt,hD9'⟩:∃ tt,h9.get? G.objs.size=some { cls:=.type "list",data:=.seq (ys++[PU ((p.1*z).fdiv p.2) tt]).toArray (c+1) }:=⟨_,by rw[hD9,Uo]⟩
   refine⟨vs.length-(i+1),by lia,h9,_,i+1,ys++[.int ((p.1*z).fdiv p.2) tt],_,c+1,rfl,hlt,rfl,λb o e=>hs9.extBut b o (ne1 b (Lb e)).2.1 (kp3 b o e),?_,hn3.sameBut hs9 nCD,?_,?_⟩
   ·refine⟨st2.1.at λo e=>hs9.extBut _ o nDI.symm (old3 _ o nCI.symm e),st2.2.at λo e=>hs9.extBut _ o (ne1 _ hkl).2.1 (old3 _ o (ne1 _ hkl).2.2 e)⟩
   ·have e2:uD z (ps.take (i+1))=uD z (ps.take i)++[(p.1*z).fdiv p.2]:=by unfold uD;rw[bC hp,Mg];rfl
    rw[e2];exact hys.append (.cons _ _ .nil)
   ·exact hD9'
  ·have ei:i=vs.length:=by lia
   subst ei;refine W.done _ _ _ (by rw[hzv];exact st) λh2 tk2 hk=>?_
   refine⟨m',hns.at' λo e=>hk _ o (by simpa using nCI) e,λh9 hs9=>?_⟩;rw[LI (by lia)] at hys;exact h _ h9 tk2 c ys (λb o e=>hs9.extBut b o (ne1 b (Lb e)).2.2 (hk b o (by simpa using (ne1 b (Lb e)).1) (kp b o e))) (by rw[gs];exact TF _) hys (hs9.extBut _ _ nCD.symm (hk _ _ (by simpa using nDI) hD))
 exact Ss (loop _ rfl) (W.self 0 _ _ _ ⟨⟨_,old _ _ (hk2 _ _ gI),rfl,rfl⟩,hkT.at λo e=>old _ _ (hk2 _ _ (gk _ o e))⟩ (loop _ rfl))
end
def Da:List Int->List Int->Bool
 |a::as,b::bs=>if a=b then Da as bs else decide (a<b)
 |_,_=>false
theorem EN (l b:Lg) (xs ys:Array K9) (n n2:Nat) (hsz:xs.size=ys.size) (as bs:List Int) (hx:Nu xs.toList as) (hy:Nu ys.toList bs) (k:Nat) :
  ∀ i:Nat,xs.size-i=k->Meets (NU.«list.__eq__.loop» ⟨[.ref l,.ref b,QD i,QD 0],[]⟩)
   (λ_ R s=>s.heap.get? l=some { cls:=.type "list",dict:=none,data:=.seq xs n,slots:=#[] }/\s.heap.get? b=some { cls:=.type "list",dict:=none,data:=.seq ys n2,slots:=#[] } /\
    R (.ok (.ret (.bool (Da (as.drop i) (bs.drop i))))) s):=by
 have hla:as.length=xs.size:=by rw[<- hx.length,LO]
 have hlb:bs.length=ys.size:=by rw[<- hy.length,LO]
 induction k with
 |zero=>
  intro i hk prog w A R s h;obtain⟨hp,g,d,tk,os⟩:=s;obtain⟨hl,hb,h⟩:=h
  wp_walk using L' hl,L' hb
  have hi1:xs[((i:Nat):Int).toNat]?=none:=by simp;lia
  have hi2:ys[((i:Nat):Int).toNat]?=none:=by simp;lia
  rw[So (by lia),So (by lia)] at h;rw[hi1,hi2]
  wp_walk using L' hl,L' hb
  show R (.ok (.ret (.bool (decide (xs.size<ys.size))))) _;rw[hsz]
  simpa [Da] using h
 |succ k ih=>
  intro i hk prog w A R s h;obtain⟨hp,g,d,tk,os⟩:=s;obtain⟨hl,hb,h⟩:=h
  wp_walk using L' hl,L' hb
  have hlt:i<xs.size:=by lia
  have hlt2:i<ys.size:=by lia
  have hia:i<as.length:=by lia
  have hib:i<bs.length:=by lia
  obtain⟨t1,e1⟩:=hx.get i as[i] (by simp[hia]);obtain⟨t2,e2⟩:=hy.get i bs[i] (by simp[hib]);have hi1:xs[((i:Nat):Int).toNat]?=some (.int as[i] t1):=by simpa using e1
  have hi2:ys[((i:Nat):Int).toNat]?=some (.int bs[i] t2):=by simpa using e2
  have hc:((i:Int)+1)=((i+1:Nat):Int):=by push_cast;rfl
  rw[Rn hia,Rn hib,Da] at h;rw[hi1,hi2];refine KE (wpAny_eqBool_int ?_)
  by_cases hab:as[i]=bs[i]
  ·rw[LL hab] at h;rw[hab,Pk]
   wp_walk
   rw[hc];exact⟨Op Oj _,M2 RU (by
    rw[MK Oj _];exact ih (i+1) (by lia) prog w A R _ ⟨hl,hb,h⟩)⟩
  ·rw[LB hab] at h;rw[show(as[i]==bs[i])=false from by simpa using hab]
   wp_walk using L' hl,L' hb
   rw[hi1,hi2];refine KE (show Lm _ _ (Nj .Lt _ _) _ _ _ from lt_int ?_)
   wp_walk
   exact h
theorem Ff (l b:Lg) (xs ys:Array K9) (n n2:Nat) (hsz:xs.size=ys.size) (as bs:List Int) (hx:Nu xs.toList as) (hy:Nu ys.toList bs) :
  Meets (NU.«list.__lt__» ⟨[.ref l,.ref b],[]⟩)
   (λ_ R s=>s.heap.get? l=some { cls:=.type "list",dict:=none,data:=.seq xs n,slots:=#[] }/\s.heap.get? b=some { cls:=.type "list",dict:=none,data:=.seq ys n2,slots:=#[] } /\
    R (.ok (.ret (.bool (Da as bs)))) s):=by
 intro prog w A R s h;obtain⟨hp,g,d,tk,os⟩:=s;obtain⟨hl,hb,h⟩:=h;have f3:=AutoSeq1.sub_list_list
 wp_walk using L' hl,L' hb
 exact⟨Op Oj _,M2 RU (by
  rw[MK Oj _];exact EN l b xs ys n n2 hsz as bs hx hy _ 0 rfl prog w A R _ ⟨hl,hb,h⟩)⟩
section
variable {prog:Lz}{w:LX}{A:L9}{E:K9->K_->Prop}{s:K_}
theorem xD {l b:Lg}{xs ys:Array K9}{n n2:Nat}{as bs:List Int}{Q:Bool->K_->Prop} (hu:A.units < cLine) (hl:s.heap.get? l=some (MU "list" xs n)) (hb:s.heap.get? b=some (MU "list" ys n2)) (hsz:xs.size=ys.size)
  (hx:Nu xs.toList as)(hy:Nu ys.toList bs)(h:Q (Da as bs) s):Lm (LJ prog w) A (keyLt' oneType' (.ref l) (.ref b)) Q E s:=by
 rw[keyLt'_oneType,oneLt'_eq];simp only[Nz];refine KE (wpAny_cRoomFor hu ?_);refine KE (wpAny_callSpecialIfBound?_slot ⟨_,hl,rfl⟩ Ti (RK Ti ⟨_,hl,rfl⟩ PySem.F.entry_list_lt (PySem.F.args_list_lt_2 _ _) (Ff l b xs ys n n2 hsz as bs hx hy) ⟨hl,hb,?_⟩));exact MS h
end
def fi {α:Type}(lt:Nat->Nat->Bool):Og α->α
 |.ret a=>a
 |.ask i j k=>fi lt (k (lt i j))
def gX {α:Type}(n:Nat)(P:α->Prop):Og α->Prop
 |.ret a=>P a
 |.ask i j k=>i<n/\j<n/\∀ b,gX n P (k b)
theorem gX.bind {α β:Type}{n:Nat}{P:α->Prop}{P':β->Prop}{f:α->Og β}:∀ {t:Og α},gX n P t->(∀ a,P a->gX n P' (f a))->gX n P' (t.bind f)
 |.ret a,h,hf=>hf a h
 |.ask i j k,h,hf=>⟨h.1,h.2.1,λb=>(h.2.2 b).bind hf⟩
theorem gX.run {α:Type}{n:Nat}{P:α->Prop}{lt:Nat->Nat->Bool}:∀ {t:Og α},gX n P t->P (fi lt t)
 |.ret a,h=>h
 |.ask i j k,h=>(h.2.2 (lt i j)).run
theorem gX.wp {α:Type}{n:Nat}{P:α->Prop}{lt:Nat->Nat->Bool}{I:K_->Prop}{cmp:Nat->Nat->(Bool->K_->Prop)->K_->Prop}{G:α->K_->Prop}
  (hc:∀ i j s C,i<n->j<n->I s->(∀ s',I s'->C (lt i j) s')->cmp i j C s):∀ {t:Og α}{s:K_},gX n P t->I s->(∀ s',I s'->G (fi lt t) s')->t.kasWp cmp G s
 |.ret a,s,h,hi,hG=>hG s hi
 |.ask i j k,s,h,hi,hG=>hc i j s _ h.1 h.2.1 hi λs' hi'=>(h.2.2 (lt i j)).wp hc hi' hG
def qB (n:Nat)(p:Array Nat):Prop:=p.Perm (L0 n).toArray
theorem qB.lt {n:Nat}{p:Array Nat}(h:qB n p)(hn:0<n)(i:Nat):p.getD i 0<n:=by
 by_cases hi:i<p.size
 ·have e:p.getD i 0=p[i]:=by simp[S5,hi]
  have hm:p[i]∈p.toList:=by simp
  have:=(O1.mp h).mem_iff.mp hm;rw[e]
  simpa using this
 ·have e:p.getD i 0=0:=by simp[S5,hi]
  rw[e];exact hn
theorem qB.rev {n:Nat}{p:Array Nat}(h:qB n p)(i j:Nat):qB n (Mt p i j):=(mirror_perm p i j _).trans h
theorem qB.bub {n:Nat}{p:Array Nat}(h:qB n p)(i j:Nat):qB n (bubble p i j):=(bubble_perm p i j).trans h
theorem pj {n:Nat}(hn:0<n){p:Array Nat}(h:qB n p):∀ f m,gX n (λ_=>True) (SQ p f m)
 |0,m=>trivial
 |f+1,m=>⟨h.lt hn _,h.lt hn _,λb=>by cases b<;>first|exact pj hn h f (m+1)|exact trivial⟩
theorem jv {n:Nat}(hn:0<n):∀ f {p:Array Nat} m q,qB n p->gX n (λr=>qB n r.1) (Ov f p m q)
 |0,p,m,q,h=>h
 |f+1,p,m,q,h=>⟨h.lt hn _,h.lt hn _,λb=>by
  cases b
  ·exact⟨h.lt hn _,h.lt hn _,λd=>by
    cases d
    ·exact jv hn f _ _ h
    ·exact h⟩
  ·show gX n _ (if q>0 then _ else _)
   split
   ·exact jv hn f _ _ (h.rev _ _)
   ·exact jv hn f _ _ h⟩
theorem qf {n:Nat}(hn:0<n){p:Array Nat}(h:qB n p)(m k:Nat):gX n (λr=>qB n r.2) (RC m k p):=
 (pj hn (h.rev 0 m) _ _).bind λ_ _=>h.rev 0 m
theorem jX {n:Nat}(hn:0<n){p:Array Nat}(h:qB n p)(m k:Nat):gX n (λr=>qB n r.2) (O5 m k p):=by
 refine(jv hn _ _ _ h).bind λr hr=>?_
 split
 ·exact qf hn (hr.rev _ _) _ _
 ·exact qf hn hr _ _
theorem wW {n:Nat}(hn:0<n){p:Array Nat}(h:qB n p)(k:Nat):gX n (λr=>qB n r.2) (RA k p):=by
 refine(pj hn h _ _).bind λm _=>?_
 split
 ·exact h
 ·split
  ·exact⟨h.lt hn _,h.lt hn _,λb=>by
    cases b
    ·exact jX hn (h.rev _ _) _ _
    ·exact h⟩
  ·exact jX hn h _ _
theorem pX {n:Nat}(hn:0<n){p:Array Nat}(h:qB n p)(k:Nat):∀ f l r,gX n (λ_=>True) (Oa p k f l r)
 |0,l,r=>trivial
 |f+1,l,r=>by
  unfold Oa
  split
  ·trivial
  ·exact⟨h.lt hn _,h.lt hn _,λb=>by cases b<;>exact pX hn h k f _ _⟩
theorem vM {n:Nat}(hn:0<n):∀ f {p:Array Nat} k,qB n p->gX n (qB n) (SR f p k)
 |0,p,k,h=>h
 |f+1,p,k,h=>(pX hn h k _ _ _).bind λl _=>vM hn f _ (h.bub _ _)
theorem jD {n:Nat}(hn:0<n):gX n (qB n) (Ph n):=by
 refine(wW hn (Array.Perm.refl _) _).bind λr hr=>?_
 split
 ·exact vM hn _ _ hr
 ·exact hr
def B_ (h:Ng)(kS a:Lg)(v:K9)(k:List Int):Prop:=∃ b ys c,v=.ref b/\b≠kS/\b≠a/\h.get? b=some (MU "list" ys c)/\Nu ys.toList k
def kj (kz:List (List Int)):List Nat:=if kz.length<2 then L0 kz.length else(fi (λi j=>Da (kz.getD i []) (kz.getD j [])) (Ph kz.length)).toList
theorem gY (kz:List (List Int)):(kj kz).Perm (L0 kz.length):=by
 unfold kj
 split
 ·exact .refl _
 ·have h:=(jD (n:=kz.length) (by lia)).run (lt:=λi j=>Da (kz.getD i []) (kz.getD j []));exact O1.mp h
def CM (k:List Int)(s₁:K_)(v:K9)(s₂:K_):Prop:=
 ∃ h' tk D ys c,s₂={ s₁ with heap:=h',toks:=tk }/\v=.ref D/\(∀ b o,s₁.heap.get? b=some o->h'.get? b=some o)/\s₁.heap.objs.size<=D/\Nu ys.toList k/\h'.get? D=some (MU "list" ys c)
section
variable {prog:Lz}{w:LX}{A:L9}{E:K9->K_->Prop}{s:K_}{a kS:Lg}{vs:List K9}{kz:List (List Int)}{P:PySem.Fin->K_->Prop}
theorem vF {st:SortSt}{keys out:Array K9}{e e1:Nat} (hka:kS ≠ a) (hk:s.heap.get? kS=some (MU "list" keys e)) (ha:s.heap.get? a=some (MU "list" #[] e1)) (hkz:keys.size < 64) (hoz:out.size < 64)
  (hout:(arrOf st).map (·.2)=out)(hfl:failedOf st=none)
  (h:∀ h' tk c,(∀ b o,b≠a->b≠kS->s.heap.get? b=some o->h'.get? b=some o)->h'.get? a=some (MU "list" out c)->P (.done (.ret .none)) { s with heap:=h',toks:=tk }):
  Lm (LJ prog w) A (ksk_tail a false e1 (.ref kS) st) P E s:=by
 have s1:=Mc s.heap kS (MD λ_=>(#[]:Array K9));have na1:(s.heap.update kS (MD λ_=>(#[]:Array K9))).get? a=some (MU "list" #[] e1):=(s1.2 a hka.symm).trans ha;have s2:=Mc (s.heap.update kS (MD λ_=>(#[]:Array K9))) a (MD λ_=>out);obtain⟨c2,hc2⟩:∃ c2,((s.heap.update kS (MD λ_=>(#[]:Array K9))).update a (MD λ_=>out)).get? a=some (MU "list" out c2):=⟨_,SX na1 λ_=>out⟩
 unfold ksk_tail
 try dsimp only
 rw[hout];refine KE (R7 hk rfl ?_ (by rw[Nk];lia) (LY _));refine KE (Oq ?_);refine KE (seqEpoch_at na1 rfl ?_);simp only[Li,Mb];refine KE (R7 na1 rfl ?_ (LY _) (by rw[Nk];lia));rw[hfl];simp only[bne_self_eq_false,Li,Mb];exact K7 (h _ _ c2 (λb o n1 n2 q=>(s2.2 b n1).trans ((s1.2 b n2).trans q)) hc2)
theorem EB {keys:List K9}{e e1:Nat} (hu:A.units < cLine) (hka:kS ≠ a) (hk:s.heap.get? kS=some (MU "list" keys.toArray e)) (ha:s.heap.get? a=some (MU "list" #[] e1)) (hl:keys.length=vs.length) (hlen:kz.length=vs.length) (h64:vs.length < 64) (h3:∀ k ∈ kz,k.length=3)
  (hkey:∀ (i:Nat) (v:K9) (k:List Int),keys[i]?=some v->kz[i]?=some k->B_ s.heap kS a v k)
  (h:∀ h' tk c,(∀ b o,b≠a->b≠kS->s.heap.get? b=some o->h'.get? b=some o)->h'.get? a=some (MU "list" ((kj kz).map λi=>vs.getD i Ma).toArray c)->P (.done (.ret .none)) { s with heap:=h',toks:=tk }):
  Lm (LJ prog w) A (ksk_end a false vs.toArray e1 (.ref kS) keys.toArray) P E s:=by
 unfold ksk_end
 try dsimp only
 simp only[Li,Mb]
 by_cases h2:vs.toArray.size<2
 ·rw[LL h2,LL h2];rw[Lh] at h2;refine KE (K7 ?_);rw[StateT.run_pure];refine KE (K7 ?_)
  try dsimp only
  refine vF (st:=SortSt.mk' general' (keys.toArray.zip vs.toArray) #[] 7 none) hka hk ha (by rw[Lh];lia) (out:=((kj kz).map λi=>vs.getD i Ma).toArray) (by rw[Lh,K',(gY kz).length_eq,N7];lia) ?_ rfl h;apply Array.toList_inj.mp;show((keys.toArray.zip vs.toArray).map (·.2)).toList=_;rw[US,ksk_zip];unfold kj;rw[LL (by lia),hlen];show List.map Prod.snd (keys.zip vs)=_;rw[List.map_snd_zip (by lia)];refine List.ext_getElem? λi=>?_
  by_cases hi:i<vs.length
  ·simp[hi]
  ·simp[Nat.le_of_not_lt hi]
 ·rw[LB h2,LB h2];rw[Lh] at h2;have kat:∀ i,i<vs.length->B_ s.heap kS a (keys.getD i Ma) (kz.getD i []):=λi hi=>by
   have e1:keys[i]?=some (keys.getD i Ma):=by simp[hl,hi]
   have e2:kz[i]?=some (kz.getD i []):=by simp[hlen,hi]
   exact hkey i _ _ e1 e2
  refine KE (PySem.W.kas_kind (T:=.type "list") (by lia) (λv hv=>?_) rfl rfl ?_)
  ·obtain⟨i,hi⟩:=Tf hv;have hi':i<vs.length:=by rw[<- hl];exact(Ll.mp hi).1
   obtain⟨b,ys,c,e,_,_,hb,_⟩:=hkey i v (kz.getD i []) hi (by simp[hlen,hi']);rw[e];exact(Sg hb).andThen .now
  refine KE (Mq (PySem.W.kat_run (G:=λp s'=>s'=s/\p.toList=kj kz) (Q:=λst' s'=>s'=s/\∃ p:Array Nat,p.toList=kj kz/\arrOf st'=p.map (PySem.W.kas_item (keys.toArray.zip vs.toArray))/\failedOf st'=none) hl (by lia) h64
   (λp st' s' a1 a2 a3 a4=>⟨a4.1,p,a4.2,a2,a3⟩) ?_) ?_ λ_ _ x=>x)
  ·refine(jD (n:=vs.length) (by lia)).wp (lt:=λi j=>Da (kz.getD i []) (kz.getD j [])) (I:=λs'=>s'=s) (λi j s' C hi hj e hC=>?_) rfl λs' e=>⟨e,?_⟩
   ·subst e;obtain⟨b,ys,c,e,_,_,hb,hys⟩:=kat i hi;obtain⟨b2,ys2,c2,e2,_,_,hb2,hys2⟩:=kat j hj;unfold PySem.W.kas_ask;rw[e,e2];refine xD hu hb hb2 ?_ hys hys2 (hC _ rfl);have l1:=hys.length;have l2:=hys2.length;rw[LO] at l1 l2;rw[l1,l2,h3 _ (Lq (show kz[i]?=some (kz.getD i []) by simp[hlen,hi])),h3 _ (Lq (show kz[j]?=some (kz.getD j []) by simp[hlen,hj]))]
   ·unfold kj;rw[LB (by lia),hlen]
  ·rintro⟨⟨⟩,st'⟩ s' ⟨rfl,p,hp,har,hf⟩
   try dsimp only
   refine vF hka hk ha (by rw[Lh];lia) (out:=((kj kz).map λi=>vs.getD i Ma).toArray) (by rw[Lh,K',(gY kz).length_eq,N7];lia) ?_ hf h;rw[PySem.W.kat_snds hl har,hp]
theorem Ci {f:K9}{n:Nat} (hu:A.units < cLine) (ho:s.heap.get? a=some (MU "list" vs.toArray n)) (hlen:kz.length=vs.length) (h64:vs.length < 64) (h3:∀ k ∈ kz,k.length=3)
  (gR:∀ (i:Nat) (v:K9) (k:List Int),vs[i]?=some v->kz[i]?=some k->∀ (h:Ng) (tk:Nat),(∀ b o,b≠a->s.heap.get? b=some o->h.get? b=some o) ->
   Lm (LJ prog w) A (call f [v]) (CM k { s with heap:=h,toks:=tk }) (λ_ _=>False) { s with heap:=h,toks:=tk })
  (h:∀ h' tk c,(∀ b o,b≠a->s.heap.get? b=some o->h'.get? b=some o)->h'.get? a=some (MU "list" ((kj kz).map λi=>vs.getD i Ma).toArray c)->P (.done (.ret .none)) { s with heap:=h',toks:=tk }):
  Lm (LJ prog w) A (ksk_tree a f false) P E s:=by
 have ha:a<s.heap.objs.size:=Lb ho;have s1:=Mc s.heap a (MD λ_=>(#[]:Array K9));obtain⟨e1,ho1⟩:∃ e1,(s.heap.update a (MD λ_=>(#[]:Array K9))).get? a=some (MU "list" #[] e1):=⟨_,SX ho λ_=>#[]⟩
 have hkS:((s.heap.update a (MD λ_=>(#[]:Array K9))).push (MU "tuple" vs.toArray 0)).objs.size=s.heap.objs.size+1:=by rw[size_push',Heap.size_update]
 unfold ksk_tree;refine KE (listItems_at ho rfl ?_);refine KE (R7 ho rfl ?_ (by rw[Lh,Nk];lia) (LY _));refine KE (seqEpoch_at ho1 rfl ?_);refine KE (Tr ?_ (by show vs.length<=_;rw[Nk];lia));refine KE (R9 ?_ (LY _));refine Mp ?_;show Lm (LJ prog w) A _ P E { s with heap:=((s.heap.update a (MD λ_=>(#[]:Array K9))).push (MU "tuple" vs.toArray 0)).push (MU "list" #[] 0) };generalize hg:((s.heap.update a (MD λ_=>(#[]:Array K9))).push (MU "tuple" vs.toArray 0)).push (MU "list" #[] 0)=g at *;have gk:∀ b o,b≠a->s.heap.get? b=some o->g.get? b=some o:=λb o nb e=>hg▸K6 _ (K6 _ ((s1.2 b nb).trans e))
 have ga:g.get? a=some (MU "list" #[] e1):=hg▸K6 _ (K6 _ ho1);have gS:g.get? (s.heap.objs.size+1)=some (MU "list" (#[]:Array K9) 0):=by rw[<- hg,<- hkS];exact Ld _ rfl
 rw[hkS];have hka:s.heap.objs.size+1≠a:=Ny (Mr ha);unfold ksk_rest;refine KE (OY ?_)
 first
  |rw[List.forIn_toArray]
  |(rw[<- ML];simp only[QW])
  |rw[<- ML]
 refine KE (ksk_fold (fun i s'=>∃ h' tk ks e,s'={ s with heap:=h',toks:=tk }/\(∀ b o,b ≠ a->s.heap.get? b=some o->h'.get? b=some o)/\h'.get? a=some (MU "list" #[] e1)/\h'.get? (s.heap.objs.size + 1)=some (MU "list" (Q9 ks) e)/\ks.length=i /\
   ∀ (j:Nat) (v:K9) (k:List Int),ks[j]?=some v->kz[j]?=some k->B_ h' (s.heap.objs.size+1) a v k) vs 0 _
  ⟨g,s.toks,[],0,rfl,gk,ga,gS,rfl,λj v k e _=>by simp at e⟩ ?step ?done)
 case step=>
  rintro j x s' hx ⟨h',tk,ks,e,rfl,kp,ha',hS',hkl,hkey⟩;simp only[MA] at hkl ⊢;have hj:j<vs.length:=(Ll.mp hx).1;obtain⟨k,hkj⟩:∃ k,kz[j]?=some k:=⟨_,LS (by lia)⟩
  refine KE (OX (Mq (gR j x k hx hkj h' tk kp) (λv s'' he=>?_) λ_ _ hF=>hF.elim));obtain⟨g2,tk2,D,ys,c,rfl,rfl,kk,hD,hys,hgD⟩:=he
  try dsimp only
  have nS:=kk _ _ hS';have s1:=Mc g2 (s.heap.objs.size+1) (MD (·.push (.ref D)));have ea:(Q9 ks).push (LH D)=Q9 (ks++[LH D]):=by simp
  obtain⟨c2,hc2⟩:∃ c2,(g2.update (s.heap.objs.size+1) (MD (·.push (.ref D)))).get? (s.heap.objs.size+1)=some (MU "list" (Q9 (ks++[LH D])) c2):=⟨_,by rw[<- ea];exact SX nS (·.push (.ref D))⟩
  have nD:D≠s.heap.objs.size+1:=Ny (Ls (Lb hS') hD);have nDa:D≠a:=Ny (Ls (Lb ha') hD);refine KE (R7 nS rfl ?_ (by rw[Lh,Nk];lia) (LM (UL (Array.size_push ..)) (by rw[Lh,Nk];lia)));refine K7 ⟨rfl,_,_,ks++[.ref D],c2,rfl,λb o nb q=>(s1.2 b ?_).trans (kk _ _ (kp b o nb q)),(s1.2 a hka.symm).trans (kk _ _ ha'),hc2,by rw[LC,hkl];rfl,λi v k' hv hk'=>?_⟩
  ·exact Lp (Mr (Lb q))
  ·by_cases hi:i<ks.length
   ·rw[Nr hi] at hv;obtain⟨b,ys',c',e,n1,n2,hb,hy⟩:=hkey i v k' hv hk';exact⟨b,ys',c',e,n1,n2,(s1.2 b n1).trans (kk _ _ hb),hy⟩
   ·have hie:i=ks.length:=by
     have:=(Ll.mp hv).1;rw[LC,Qn] at this;lia
    subst hie;rw[MT (Lc _),UN] at hv;cases hv;rw[hkl,hkj] at hk';cases hk';exact⟨D,ys,c,rfl,nD,nDa,(s1.2 D nD).trans hgD,hys⟩
 case done=>
  rintro s' ⟨h',tk,ks,e,rfl,kp,ha',hS',hkl,hkey⟩;rw[MA] at hkl
  try dsimp only
  refine KE (listItems_at hS' rfl ?_);exact EB hu hka hS' ha' hkl hlen h64 h3 hkey λh3 tk3 c k3 hc=>h h3 tk3 c (λb o nb q=>k3 b o nb (Lp (Mr (Lb q))) (kp b o nb q)) hc
end
theorem fq {env:Env}:∀ {names:List (Str × OE)}{x:Str},names.lookup x=some .free->env.kindOf x ≠ some .cell ->
  (names.map λ(n,k)=>if(k==L_&&env.scope.kind==.function&&env.kindOf n==some .cell) then(n,ME) else(n,k)).lookup x=some .free
 |[],_,h,_=>by simp at h
 |(n,k)::r,x,h,hx=>by
  have ih:=@fq env r x;show Pp x ((if(k==L_&&env.scope.kind==.function&&env.kindOf n==some .cell)=true then(n,ME) else(n,k))::_)=_;cases hn:x==n with
  |true=>
   have e:x=n:=eq_of_beq hn;simp only[Mj,hn] at h;cases h;have hc:¬ (L_==L_&&env.scope.kind==.function&&env.kindOf n==some .cell)=true:=by
    rw[<- e];simp only[L4,NP,not_and];exact λ_=>hx
   rw[LB hc];simp[Mj,hn]
  |false=>
   simp only[Mj,hn] at h
   by_cases hc:(k==L_&&env.scope.kind==.function&&env.kindOf n==some .cell)=true
   ·rw[LL hc];simp only[Mj,hn];exact ih h hx
   ·rw[LB hc];simp only[Mj,hn];exact ih h hx
abbrev EK (cx bl sc col:Str)(p1 p2 p3 q1 q2 px px2 tp ci pos:Pos)(tk:Nat)(scope2:Pq):Nq:=
 .ListComp (.BinOp (.BinOp (.Name cx p1) .Mult (.Name sc p2) q1) .FloorDiv (.Name bl p3) q2) [⟨.Tuple [.Name cx px,.Name bl px2] tk tp,.Name col ci,[],0⟩] scope2 pos
def zn (scope scope2:Pq)(cx bl sc col:Str):Bool:=scope.kind==.function&&!scope.isCoroutine&&!scope.isGenerator&&scope.names.all (λy=>!(y.2==.cell))&&scope.names.lookup col==some .local&&scope.names.lookup sc==some .free &&
 scope2.kind==.function&&scope2.names.all (λy=>!(y.2==.cell))&&scope2.names.all (λy=>!(y.2==.local)||scope2.names.lookup y.1==some .local)&&scope2.names.lookup cx==some .local&&scope2.names.lookup bl==some .local&&scope2.names.lookup sc==some .free&&scope2.names.all (λy=>!(y.2==.free)||y.1==sc)&&!(cx==bl) &&
 !(cx==("__debug__":Str))&&!(bl==("__debug__":Str))&&!(sc==("__debug__":Str))&&!(sc==("__classdict__":Str))&&!(col==("__debug__":Str))
section
variable {prog:Lz}{w:LX}{A:L9}{E:K9->K_->Prop}{s:K_}
theorem At {f c' ka cf:Lg}{qual cx bl sc col:Str}{params:TM}{p1 p2 p3 q1 q2 px px2 tp ci pos:Pos}{tk:Nat}{scope scope2:Pq}{cl:List (Str × Lg)}{pm ctv:K9}{z:Int}{tz:Tok}{vs:List K9}{ps:List (Int × Int)}{Q:K9->K_->Prop}
  (hh:A.handled=none)(hlim:s.heap.NoLimit)(hroom:A.depth<recursionLimit)(ho:s.heap.get? f=some { cls:=.type "function",data:=.func (O9 "<lambda>" qual params (EK cx bl sc col p1 p2 p3 q1 q2 px px2 tp ci pos tk scope2) scope cl pm (.ref c') ctv) })(hcd:s.heap.CodeRec (.ref c') qual)
  (hbind:∀ u,MM (O9 "<lambda>" qual params (EK cx bl sc col p1 p2 p3 q1 q2 px px2 tp ci pos tk scope2) scope cl pm (.ref c') ctv) ⟨[u],[]⟩=pure [(col,u)])
  (hck:zn scope scope2 cx bl sc col=true)(hcl:cl.lookup sc=some cf)(hcv:s.heap.IsCell cf (some (.int z tz)))
  (hka:IsTup s.heap ka vs.toArray)(hlen:ps.length=vs.length)(hrow:∀ (i:Nat) (v:K9) (p:Int×Int),vs[i]?=some v->ps[i]?=some p->xZ s.heap v p)
  (hok:∀ p∈ps,Sm 8000 p.1/\Sm 8000 z/\Sm 8000 (p.1*z)/\Sm 8000 p.2/\p.2≠0)(hsz:vs.length<=1000)
  (h:∀ D h' tk' c ys,(∀ b o,s.heap.get? b=some o->h'.get? b=some o)->s.heap.objs.size<=D->Nu ys (uD z ps)->h'.get? D=some { cls:=.type "list",data:=.seq ys.toArray c }->Q (.ref D) { s with heap:=h',toks:=tk' }):
  Lm (LJ prog w) A (call (.ref f) [.ref ka]) Q E s:=by
 unfold zn at hck;simp only[L4,MF,NP,Ud,Sy] at hck;obtain⟨⟨⟨⟨⟨⟨⟨⟨⟨⟨⟨⟨⟨⟨⟨⟨⟨⟨k1,k2⟩,k3⟩,k4⟩,k5⟩,k6⟩,k7⟩,k8⟩,k9⟩,k10⟩,k11⟩,k12⟩,k13⟩,k14⟩,k15⟩,k16⟩,k17⟩,k18⟩,k19⟩:=hck;refine QO (Tj hroom ho rfl k2 k3 rfl hcd ?_);rw[hbind];refine K7 (QE (λx hx e=>by have:=k4 x hx;rw[e] at this;cases this) (λx hx=>?_) (λh₁ hns hsb=>⟨hlim.fresh _ hsb,Tk ?_⟩) k1)
 ·cases Lo.mp hx;exact k5
 have hk₁:∀ b o,s.heap.get? b=some o->h₁.get? b=some o:=λb o e=>hsb.extBut b o (Lp (Lb e)) (K6 _ e)
 have hz₁:s.heap.objs.size<=h₁.objs.size:=Nx hns.lt;have hfree2:∀ y∈scope2.names,y.2=.free->∃ c,cl.lookup y.1=some c:=λy hy e=>by
  rcases k13 y hy with q|q
  ·rw[e] at q;cases q
  ·rw[q];exact⟨cf,hcl⟩
 have hcl2:(nE cl scope2.names []).lookup sc=some cf:=by
  have mem:(sc,L_)∈scope2.names:=iA k12;obtain⟨c2,e2⟩:=fG (cells:=cl) (names:=scope2.names) (acc:=[]) (x:=sc) (.inr mem);rcases dy hfree2 e2 with z|⟨_,z⟩
  ·cases z
  ·rw[hcl] at z;cases z;exact e2
 refine D5 (s:={ s with heap:=h₁,toks:=_ }) (ka:=ka) (z:=z) (tz:=tz) (vs:=vs) (ps:=ps) (cl:=nE cl scope2.names []) (cf:=cf) hh (l7 hfree2) (λy hy e=>by have:=k8 y hy;rw[e] at this;cases this) k7
  (λy hy e=>by rcases k9 y hy with q|q;(rw[e] at q;cases q);exact q) k10 k11 (by simpa using k14) (λC=>fq k12 ?_) hcl2 (hcv.keeps hk₁) (λQ' hq=>?_) ?_ hlen (λi v p h1 h2=>(hrow i v p h1 h2).keeps hk₁) hok hsz (by intro _;rfl) k15 k16 k17 k18 λD h' tk' c ys kk hD hy hg=>?_
 ·show scope.names.lookup sc≠_;rw[k6];exact λe=>nomatch e
 ·refine Px (NH k1 ?_ hns (v:=.ref ka) ?_ hq) k19
  ·exact k5
  ·simp
 ·obtain⟨o,e,q⟩:=hka;exact⟨o,hk₁ _ _ e,q⟩
 ·exact h D h' tk' c ys (λb o e=>kk b o (hk₁ b o e)) (LM hz₁ hD) hy hg
theorem EJ {l:Lg}{vs:List K9}{kz:List (List Int)}{f:K9}{kw:List (Str × K9)}{Q:K9->K_->Prop}
  (hu:A.units+2<cLine)(hl:s.heap.IsList l vs.toArray)(hlen:kz.length=vs.length)(h64:vs.length<64)(h3:∀ k∈kz,k.length=3)
  (ha1:U9 "sorted" ⟨[.ref l],kw⟩)(ha2:∀ x,U9 "list.sort" ⟨[.ref x],kw⟩)(ht:∀ x,NU.«list.sort» ⟨[.ref x],kw⟩=ksk_tree x f false)
  (gR:∀ (i:Nat) (v:K9) (k:List Int),vs[i]?=some v->kz[i]?=some k->∀ (h:Ng) (tk:Nat),(∀ b o,s.heap.get? b=some o->h.get? b=some o) ->
   Lm (LJ prog w) A.in1.in1 (call f [v]) (CM k { s with heap:=h,toks:=tk }) (λ_ _=>False) { s with heap:=h,toks:=tk })
  (h:∀ D h' tk c,(∀ b o,s.heap.get? b=some o->h'.get? b=some o)->s.heap.objs.size<=D->h'.get? D=some (MU "list" ((kj kz).map λi=>vs.getD i Ma).toArray c)->Q (.ref D) { s with heap:=h',toks:=tk }):
  Lm (LJ prog w) A (call (.builtin "sorted") [.ref l] kw) Q E s:=by
 refine Sr kind_sorted plain_sorted entry_sorted ha1 ?_;unfold NU.«sorted»;refine KE (m:=checkCount "sorted" 1 1 _) (K7 ?_);refine KE (collect_list hl ?_ (by rw[Nk];lia));refine KE (R9 ?_ (by rw[Nk];lia));have hsz:((s.heap.push (MU "list" #[] 0)).update s.heap.objs.size (MD (·++vs.toArray))).objs.size=s.heap.objs.size+1:=by
  rw[Heap.size_update,size_push']
 have hoL:(((s.heap.push (MU "list" #[] 0)).update s.heap.objs.size (MD (·++vs.toArray))).push (MU "list" vs.toArray 0)).get? (s.heap.objs.size+1)=some (MU "list" vs.toArray 0):=by
  rw[<- hsz];exact Ld _ rfl
 have keep:∀ b o,s.heap.get? b=some o->(((s.heap.push (MU "list" #[] 0)).update s.heap.objs.size (MD (·++vs.toArray))).push (MU "list" vs.toArray 0)).get? b=some o:=λb o q=>by
  have hlt:b<s.heap.objs.size:=Lb q;rw[Ug _ _ _ (by rw[hsz];exact Lp (Mr hlt)),Heap.get?_update_ne _ _ _ _ (Lp hlt),Ug _ _ _ (Lp hlt)];exact q
 have nD:∀ b o,s.heap.get? b=some o->b≠s.heap.objs.size+1:=λb o q=>Lp (Mr (Lb q))
 show Lm _ _ _ _ _ { s with heap:=((s.heap.push (MU "list" #[] 0)).update s.heap.objs.size (MD (·++vs.toArray))).push (MU "list" vs.toArray 0) };rw[hsz];refine KE (Mp (wpAny_call_entry_kw slot_list_sort ⟨_,hoL,rfl⟩ entry_list_sort ?body (ha2 _)))
 case body=>
  have ht':=ht (s.heap.objs.size+1);show Lm (LJ prog w) A.in1.in1 (NU.«list.sort» ⟨[.ref (s.heap.objs.size+1)],kw⟩) _ _ _;rw[ht'];refine Ci (s:={ s with heap:=((s.heap.push (MU "list" #[] 0)).update s.heap.objs.size (MD (·++vs.toArray))).push (MU "list" vs.toArray 0) }) (kz:=kz) hu hoL hlen h64 h3
   (λi v k hv hk g tk kp=>gR i v k hv hk g tk λb o e=>kp b o (nD b o e) (keep b o e)) λh' tk c kp hD=>⟨_,rfl,K7 ⟨_,rfl,h _ h' tk c (λb o e=>kp b o (nD b o e) (keep b o e)) (TF _) hD⟩⟩
end
def f8 (c:Q3):List (Int×Int):=[(c.a.num,(c.a.den:Int)),(c.b.num,(c.b.den:Int)),(c.c.num,(c.c.den:Int))]
def mo (z:Int)(c:Q3):List Int:=uD z (f8 c)
def mw (z:Int)(xs:List (Q3×Lg)):List (Q3×Lg):=(kj (xs.map λp=>mo z p.1)).filterMap (xs[·]?)
theorem iJ {α:Type}(xs:List α):(L0 xs.length).filterMap (xs[·]?)=xs:=by
 induction xs with
 |nil=>rfl
 |cons x xs ih=>
  rw[LK,List.range_succ_eq_map,Ry (by rfl:(x::xs)[0]?=some x),TX]
  congr 1
theorem mq (z:Int)(xs:List (Q3×Lg)):(mw z xs).Perm xs:=by
 have h:=((gY (xs.map λp=>mo z p.1)).filterMap (xs[·]?))
 rw[K',iJ] at h;exact h
theorem wR {xs:List V}{us:List K9}{i:Nat}{x:V}{u:K9}(r:aF xs us)(h1:xs[i]?=some x)(h2:us[i]?=some u):aY x u:=by
 obtain⟨u',e,q⟩:=r.get h1;rw[h2] at e;cases e;exact q
theorem qP {vs:List K9}{xs:List (Q3×Lg)}(h:aF (xs.map λp=>V.ref p.2) vs):∀ (l:List Nat),(∀ i∈l,i<xs.length)->aF ((l.filterMap (xs[·]?)).map λp=>V.ref p.2) (l.map λi=>vs.getD i Ma)
 |[],_=>.nil
 |i::l,hl=>by
  have hi:=hl i Lr;have hv:vs.length=xs.length:=by rw[<- h.length,K']
  have e:xs[i]?=some xs[i]:=by simp[hi]
  rw[Ry e,LA,LA];refine .cons ?_ (qP h l λj hj=>hl j (Le _ hj));have e2:vs[i]?=some (vs.getD i Ma):=by simp[hv,hi]
  exact wR h (by rw[Lk,e];rfl) e2
section
variable {P:Lz}{w:LX}{H:Hp}{h:Ng}{K:HD}
theorem wK {q:Rat}{v:V}{u:K9}(ok:jd P w H h)(hq:aA K H (rD q) v)(ru:aY v u):xZ h u (q.num,(q.den:Int)):=by
 obtain⟨a,rfl,ha⟩:=cC hq;cases ru;obtain⟨_,its,r,o,g1,g2,n,g3⟩:=(show bv P w H h a (.tup [.int q.num,.int q.den]) from ok a _ ha)
 obtain⟨u1,u2,rfl,⟨t1,r1⟩,⟨t2,r2⟩⟩:=kW r;subst r1 r2;exact⟨a,t1,t2,rfl,o,g1,g2,n,g3⟩
theorem Gf {c:Q3}{ka:Lg}(ok:jd P w H h)(hc:aA K H c.col (.ref ka)):∃ vs:List K9,IsTup h ka vs.toArray/\vs.length=3/\∀ (i:Nat) (v:K9) (p:Int×Int),vs[i]?=some v->(f8 c)[i]?=some p->xZ h v p:=by
 cases hc with
 |tup e q=>
  obtain⟨x,y,z,rfl,h1,h2,h3⟩:=cW q;obtain⟨_,its,r,o,g1,g2,n,g3⟩:=(show bv P w H h ka (.tup [x,y,z]) from ok ka _ e)
  obtain⟨u1,u2,u3,rfl,r1,r2,r3⟩:=Fo r;refine⟨[u1,u2,u3],⟨o,g1,g2,n,g3⟩,rfl,λi v p hv hp=>?_⟩
  match i,hv,hp with
  |0,hv,hp=>cases hv;cases hp;exact wK ok h1 r1
  |1,hv,hp=>cases hv;cases hp;exact wK ok h2 r2
  |2,hv,hp=>cases hv;cases hp;exact wK ok h3 r3
  |n+3,hv,_=>simp at hv
end
def Gx (K:HD)(i:Nat)(P:Lg)(q:Str)(tr:TE):TE:=λσ H Q=>tr σ H λx H1=>∃ (l:Lg) (xs:List (Q3×Lg)) (z:Int),x=.ref l/\bE K H1 l (xs.map λp=>.ref p.2)/\(∀ p∈xs,aA K H1 p.1.col (.ref p.2))/\xs.length<64/\σ[i]?=some (some (.int z)) /\
 (∀ p∈xs,∀ r∈f8 p.1,Sm 8000 r.1/\Sm 8000 z/\Sm 8000 (r.1*z)/\Sm 8000 r.2)/\H1 P=some (yI q)/\∀ (H2:Hp) (D:Lg),af H1 H2->H2 D=none->Q (.ref D) (upd H2 D (.lst ((mw z xs).map λp=>.ref p.2)))
section
variable {X:Cx}{K:HD}
theorem Ao {c P:Lg}{i k:Nat}{cx bl sc col:Str}{er:Nq}{tr:TE}{params:TM}{scope scope2:Pq}{p1 p2 p3 q1 q2 px px2 tp ci lpos lp p pos kp1:Pos}{tk:Nat} (hK:X.K=K) (hc:X.calm=true) (hu:X.A.units + 2 < cLine) (hr:Room k X.A) (hg:Gl X "sorted") (hm:X.mg "sorted"=none)
  (hcode:X.env.code=.ref c)(hcd:∀ h,K.In h->Qf h c P)(hN:X.N[i]?=some sc)(hv:X.env.kindOf sc=some .cell)(he:WE X er tr)
  (hst:LN [er] X.env=[(false,O7 er X.env)]:=by rfl)
  (hck:zn scope scope2 cx bl sc col=true:=by decide +kernel)(hfr:(scope.names.all λy=>!(y.2==.free)||(X.env.cells.lookup y.1).isSome)=true:=by rfl)(hdef:defaultsOf params X.env=([],[]):=by rfl)
  (hbind:∀ qual cl pm cd ctv u,MM (O9 "<lambda>" qual params (EK cx bl sc col p1 p2 p3 q1 q2 px px2 tp ci lpos tk scope2) scope cl pm cd ctv) ⟨[u],[]⟩=pure [(col,u)]:=by intros;rfl):
  WE X (.Call (.Name "sorted" p) [er] [⟨some "key",.Lambda params (EK cx bl sc col p1 p2 p3 q1 q2 px px2 tp ci lpos tk scope2) scope lp,kp1⟩] pos) (Gx K i P (X.env.qual++"<lambda>") tr):=by
 have he:=he.go;refine⟨?_⟩;subst hK;have hfree:∀ y∈scope.names,y.2=.free->∃ c,X.env.cells.lookup y.1=some c:=λy hy e=>by
  rw[MF] at hfr;have:=hfr y hy;rw[e] at this;exact M8.mp (by simpa using this)
 have k6:scope.names.lookup sc=some .free:=by
  unfold zn at hck;simp only[L4,NP] at hck;exact hck.1.1.1.1.1.1.1.1.1.1.1.1.1.2
 intro pins s σ H Q I h;refine MX (fW I hg hm qL ?_);refine callWith_kw (env:=X.env) (he:=by rw[hst];rfl) (hplain:=by rw[hst];rfl) (bP ((nO he tD hst) pos pins s σ H (λvs H1=>match vs with
  |[x]=>∃ (l:Lg) (xs:List (Q3×Lg)) (z:Int),x=.ref l/\bE X.K H1 l (xs.map λp=>.ref p.2)/\(∀ p∈xs,aA X.K H1 p.1.col (.ref p.2))/\xs.length<64/\σ[i]?=some (some (.int z)) /\
   (∀ p∈xs,∀ r∈f8 p.1,Sm 8000 r.1/\Sm 8000 z/\Sm 8000 (r.1*z)/\Sm 8000 r.2)/\H1 P=some (yI (X.env.qual++"<lambda>"))/\∀ (H2:Hp) (D:Lg),af H1 H2->H2 D=none->Q (.ref D) (upd H2 D (.lst ((mw z xs).map λp=>.ref p.2)))
  |_=>False) I h) λus s1 ⟨vs,H1,I1,r1,q1⟩=>?_)
 match vs,r1,q1 with
 |[x],r1,q1=>
  obtain⟨l,xs,z,rfl,hl,hxs,hn,hσ,hb,hP,q⟩:=q1;obtain⟨u,rfl,ru⟩:=fk r1;cases ru;refine kws_cons (uL I1 hcode hcd hP hfree hdef λfa c' pm ctv H2 s2 I2 sm ho hrec=>?_);refine kws_nil ?_;show Lm _ _ (call (.builtin "sorted") [.ref l] [(MB "key",.ref fa)]) _ _ s2;obtain⟨m,hnm,hloc⟩:=id I2.loc;obtain⟨w,rw',lk⟩:=hloc i sc (.int z) hN hσ (.inr (.inl hv));obtain⟨tz,rfl⟩:=rw';obtain⟨cf,ecf,hcell⟩:∃ cf,X.env.cells.lookup sc=some cf/\s2.heap.IsCell cf (some (.int z tz)):=by
   rcases lk with ⟨z,_⟩|⟨_,cf,e,z⟩
   ·rw[hv] at z;cases z
   ·exact⟨cf,e,z⟩
  have hcl:(nE X.env.cells scope.names []).lookup sc=some cf:=by
   have mem:(sc,L_)∈scope.names:=iA k6;obtain⟨c2,e2⟩:=fG (cells:=X.env.cells) (names:=scope.names) (acc:=[]) (x:=sc) (.inr mem);rcases dy hfree e2 with z|⟨_,z⟩
   ·cases z
   ·rw[ecf] at z;cases z;exact e2
  obtain⟨its,rv,pl,_⟩:=I2.list (sm.seq hl);have hil:its.length=xs.length:=by rw[<- rv.length,K']
  have rm:=hr.dp;refine EJ (vs:=its) (kz:=xs.map λp=>mo z p.1) hu pl.isList (by rw[K',hil]) (by lia) (λk hk=>?_) (ksk_s1 _ _) (λx=>ksk_l1 _ _) (λx=>ksk_t1 _ _) (λj v k hv hk g tk kp=>?_) λD h' tk cc kp hD hgD=>?_
  ·obtain⟨p,_,rfl⟩:=Md.mp hk;rfl
  ·rw[Lk] at hk;obtain⟨p,hp,rfl⟩:=Lx.mp hk;have e1:=wR rv (by rw[Lk,hp];rfl) hv;cases e1;have hpm:=Lq hp;have I3:aD X pins σ H2 { s2 with heap:=g,toks:=tk }:=I2.kept (t':=tk) kp;obtain⟨cs,ht,hcs,hrw⟩:=Gf I3.hok (aA.same sm (hxs p hpm));obtain⟨c2,o2,vs2,t2,ec,g1,g2,g3⟩:=id hrec;cases ec;refine At (s:={ s2 with heap:=g,toks:=tk }) (vs:=cs) (ps:=f8 p.1) (z:=z) (tz:=tz) (I2.ok.hd hc) (I3.ok.mod.nolimit.keeps λb o e=>kp b o (I2.bk b o e)) (by show X.A.depth<recursionLimit;lia) (kp _ _ ho) ⟨_,o2,vs2,t2,rfl,kp _ _ g1,g2,g3⟩ (λu=>hbind _ _ _ _ _ u)
    hck hcl (hcell.keeps kp) ht (by rw[hcs];rfl) hrw (λr hr'=>?_) (by lia) λD h' tk' c ys kk hD hy hg=>?_
   ·obtain⟨b1,b2,b3,b4⟩:=hb p hpm r hr';refine⟨b1,b2,b3,b4,?_⟩;unfold f8 at hr';simp only[Ln,LF,Nd] at hr';rcases hr' with rfl|rfl|rfl
    ·exact Rx.mpr (Rat.den_nz _)
    ·exact Rx.mpr (Rat.den_nz _)
    ·exact Rx.mpr (Rat.den_nz _)
   ·exact⟨h',tk',D,ys.toArray,c,rfl,rfl,kk,hD,by rw[QW];exact hy,hg⟩
  ·refine⟨.ref D,_,I2.laid (a:=D) (o:=.lst ((mw z xs).map λp=>.ref p.2)) (t':=tk) kp hD ⟨?_,_,cc,qP rv _ (λj hj=>?_),hgD⟩,rfl,q H2 D sm (I2.hok.fresh hD)⟩
   ·rw[K',(mq z xs).length_eq];exact bO (by lia)
   ·have:=(gY _).mem_iff.mp hj;rw[K'] at this
    simpa using this
end
theorem _root_.L2.Room.u2 {k:Nat}(r:Room k A):A.units+2<cLine:=Nh (by lia) r.units
def dB (e:Q3):Int:=cP [e.a,e.b,e.c]
def cN (e:Q3)(r:R3):R3:=⟨ov (dB e) e.a-r.a*dB e,ov (dB e) e.b-r.b*dB e,ov (dB e) e.c-r.c*dB e⟩
def iN (e:Q3)(r:R3)(s:S9):Q3:=⟨((cN e r).dot s.c0:Rat)/((s.det*dB e:Int):Rat),((cN e r).dot s.c1:Rat)/((s.det*dB e:Int):Rat),((cN e r).dot s.c2:Rat)/((s.det*dB e:Int):Rat)⟩
def BN (q:Q3):Bool:=!([decide (1<q.a),decide (q.a<q.b),decide (q.b<q.c),decide (q.c<0)].any id)
theorem wm {k:Nat}{e:Q3}(h:e.Bd k):∀ p∈[e.a,e.b,e.c],Bq k p:=λp hp=>by
 simp only[Ln,LF,Nd] at hp;rcases hp with rfl|rfl|rfl
 ·exact h.a
 ·exact h.b
 ·exact h.c
theorem yL {e:Q3}(h:e.Bd 250):0<dB e/\Sm 751 (dB e):=by
 obtain⟨B0,BS⟩:=g9 (wm h) 3 (Lc _);exact⟨B0,BS⟩
theorem yE {e:Q3}{r:R3}(h:e.Bd 250)(hr:r.In 4000):Sm 1002 (cN e r).a/\Sm 1002 (cN e r).b/\Sm 1002 (cN e r).c:=by
 have hB:=(yL h).2;have ho:∀ p∈[e.a,e.b,e.c],Sm 1001 (ov (dB e) p):=λp hp=>Fq (wm h) hp
 refine⟨((ho e.a (by simp)).sub (((iO hr.a1 hr.a2).mul hB).mono (by decide))).mono (by decide),((ho e.b (by simp)).sub (((iO hr.b1 hr.b2).mul hB).mono (by decide))).mono (by decide),((ho e.c (by simp)).sub (((iO hr.c1 hr.c2).mul hB).mono (by decide))).mono (by decide)⟩
theorem Am {x:Int}(h1:-200000000<=x)(h2:x<=200000000):Sm 30 x:=by unfold Sm;lia
theorem v6 {e:Q3}{r c:R3}(h:e.Bd 250)(hr:r.In 4000)(hc:c.In 200000000):Sm 1035 ((cN e r).dot c):=by
 obtain⟨a1,a2,a3⟩:=yE h hr;unfold R3.dot;exact(Sm.add (Sm.add (a1.mul (Am hc.a1 hc.a2)) (a2.mul (Am hc.b1 hc.b2))) ((a3.mul (Am hc.c1 hc.c2)).mono (by decide))).mono (by decide)
theorem FL {e:Q3}{s:S9}(h:e.Bd 250)(hs:s.In)(hd:s.det≠0):s.det*dB e≠0/\Sm 811 (s.det*dB e):=by
 obtain⟨b1,b2⟩:=yL h;exact⟨Mf hd (by lia),((wU hs).mul b2).mono (by decide)⟩
theorem F9 {e:Q3}{r:R3}{s:S9}(h:e.Bd 250)(hr:r.In 4000)(hs:s.In)(hd:s.det≠0):(iN e r s).Bd 1035:=by
 obtain⟨z0,z1⟩:=FL h hs hd;exact⟨eV z0 (v6 h hr (f9 hs.y hs.z)) (z1.mono (by decide)),eV z0 (v6 h hr (f9 hs.z hs.x)) (z1.mono (by decide)),eV z0 (v6 h hr (f9 hs.x hs.y)) (z1.mono (by decide))⟩
theorem D8 (r c:R3):(OO (·*·) [r.a,r.b,r.c] [c.a,c.b,c.c]).sum=r.dot c:=by
 show r.a*c.a+(r.b*c.b+(r.c*c.c+0))=r.a*c.a+r.b*c.b+r.c*c.c;lia
def jK (t:Kn)(o:Nat×Nat×Nat)(q:Q3)(ap:Int):Nat->List Rat
 |0=>[0,0,0]
 |i+1=>(jK t o q ap i).set (kf o i) (((((HG t).getD (kf o i) 0:Int):Rat)/((1:Int):Rat)+[q.a,q.b,q.c].getD i 0)*((ap:Rat)/((1:Int):Rat)))
theorem lr (t:Kn)(o:Nat×Nat×Nat)(q:Q3)(ap:Int):∀ i,(jK t o q ap i).length=3
 |0=>rfl
 |i+1=>by rw[jK,QV];exact lr t o q ap i
theorem tZ:∀ rs:List Rat,iP (rs.map rD)=true
 |[]=>rfl
 |r::rs=>by
  show(AM (rD r)&&iP (rs.map rD))=true;rw[tZ rs];rfl
theorem uG {K:HD}{H:Hp}{d:LU}{v:V}(h:aA K H d v):∀ {ds:List LU}{vs:List V} (i:Nat),ay K H ds vs->ay K H (ds.set i d) (vs.set i v)
 |_,_,_,.nil=>.nil
 |_,_,0,.cons _ r=>.cons h r
 |_,_,i+1,.cons x r=>.cons x (uG h i r)
theorem F5 {t:Kn}{r:Nat}(hr:r<3):(fF t)[r]?=some (.int ((HG t).getD r 0)):=by
 match r,hr with
 |0,_=>rfl
 |1,_=>rfl
 |2,_=>rfl
theorem Df {t:Kn}{r:Nat}(t1:t.1<64)(t2:t.2.1<64)(t3:t.2.2<64):Sm 7 ((HG t).getD r 0):=by
 match r with
 |0=>show Sm 7 (t.1:Int);unfold Sm;lia
 |1=>show Sm 7 (t.2.1:Int);unfold Sm;lia
 |2=>show Sm 7 (t.2.2:Int);unfold Sm;lia
 |n+3=>show Sm 7 (0:Int);unfold Sm;decide
theorem yC {t:Kn}{o:Nat×Nat×Nat}{q:Q3}{ap:Int}(t1:t.1<64)(t2:t.2.1<64)(t3:t.2.2<64)(bq:q.Bd 1035)(a0:0<=ap)(a1:ap<=60):∀ i,∀ r∈jK t o q ap i,Bq 1060 r
 |0,r,h=>by
  unfold jK at h;simp only[Ln,LF,Nd,or_self] at h;rw[h];exact Ok.mono Kg (by decide)
 |i+1,r,h=>by
  unfold jK at h;rcases List.mem_or_eq_of_mem_set h with h|h
  ·exact yC t1 t2 t3 bq a0 a1 i r h
  ·rw[h];have o7:Sm 7 (1:Int):=by unfold Sm;decide
   have bi:Bq 1035 ([q.a,q.b,q.c].getD i 0):=by
    match i with
    |0=>exact bq.a
    |1=>exact bq.b
    |2=>exact bq.c
    |n+3=>exact Ok.mono Kg (by decide)
   exact Ok.mono (Bq.mul (Bq.add (eV (by decide) (Df t1 t2 t3) o7) bi) (eV (by decide) (show Sm 7 ap by unfold Sm;lia) o7)) (by decide)
def KB (l:List Rat):Q3:=⟨l.getD 0 0,l.getD 1 0,l.getD 2 0⟩
def uh (t:Kn)(o:Nat×Nat×Nat)(q:Q3)(ap:Int):Q3:=KB (jK t o q ap 3)
theorem GD (t:Kn)(o:Nat×Nat×Nat)(q:Q3)(ap:Int):(jK t o q ap 3).map rD=(uh t o q ap).ds:=by
 unfold uh;have h:=lr t o q ap 3;generalize jK t o q ap 3=l at h
 match l,h with
 |[x,y,z],_=>rfl
theorem G3 {t:Kn}{o:Nat×Nat×Nat}{q:Q3}{ap:Int}(t1:t.1<64)(t2:t.2.1<64)(t3:t.2.2<64)(bq:q.Bd 1035)(a0:0<=ap)(a1:ap<=60):(uh t o q ap).Bd 1060:=by
 unfold uh;have h:=lr t o q ap 3;have b:=yC (o:=o) t1 t2 t3 bq a0 a1 3;generalize jK t o q ap 3=l at h b
 match l,h,b with
 |[x,y,z],_,b=>exact⟨b x (by simp),b y (by simp),b z (by simp)⟩
def i8 (n:Nat)(f:Kn->R3)(e:Q3)(p:Kn×(Nat×Nat×Nat)):Option Q3:=
 if(aO f p).det=0 then none else if BN (iN e (f (am p.1 (dC p.2 0))) (aO f p))=true then some (uh p.1 p.2 (iN e (f (am p.1 (dC p.2 0))) (aO f p)) (dW n)) else none
theorem IY {r:R3}(h:r.Wt):r.In 4000:=by
 obtain⟨a0,a1,b0,b1,c0,c1⟩:=h;refine⟨?_,?_,?_,?_,?_,?_⟩<;>lia
theorem IN {n:Nat}(h2:2<=n)(h7:n<=7):0<=dW n/\dW n<=60:=by
 unfold dW
 match n,h2,h7 with
 |2,_,_=>decide
 |3,_,_=>decide
 |4,_,_=>decide
 |5,_,_=>decide
 |6,_,_=>decide
 |7,_,_=>decide
def oN (xs:List (Q3×Lg)):List Int:=xs.flatMap λp=>(f8 p.1).map (·.2)
theorem zY (xs:List (Q3×Lg))(p:Q3×Lg):oN (xs++[p])=oN xs++(f8 p.1).map (·.2):=by unfold oN;rw[Oi];simp
def JI (xs:List (Q3×Lg))(z:Int):Prop:=∃ m:Int,z=m^2/\1<=m/\∀ r∈oN xs,r<=m
theorem E5 {k:Nat}{xs:List (Q3×Lg)}(h:∀ p∈xs,p.1.Bd k):∀ r∈oN xs,1<=r/\Sm k r:=λr hr=>by
 unfold oN at hr;obtain⟨p,hp,hr⟩:=Ot.mp hr;have b:=h p hp;have pos:∀ q:Rat,1<=(q.den:Int):=λq=>by have:=q.den_pos;lia
 simp only[f8,LA,NL,Ln,LF,Nd] at hr;rcases hr with rfl|rfl|rfl
 ·exact⟨pos _,b.a.sd⟩
 ·exact⟨pos _,b.b.sd⟩
 ·exact⟨pos _,b.c.sd⟩
theorem uJ (xs:List (Q3×Lg)):(oN xs).length=3*xs.length:=by
 unfold oN
 induction xs with
 |nil=>rfl
 |cons p xs ih=>rw[Uk,LC,ih,LK];show 3+_=_;lia
theorem EC {k:Nat}{ns:List Int}{m:Int}(h1:Sm k 1)(hp:∀ n∈ns,1<=n/\Sm k n)(h:(ns=[]/\m=1)\/(m∈ns/\∀ x∈ns,x<=m)):1<=m/\Sm k m/\∀ r∈ns,r<=m:=by
 rcases h with ⟨e,rfl⟩|⟨hm,hx⟩
 ·exact⟨U1 _,h1,λr hr=>(by rw[e] at hr;cases hr)⟩
 ·exact⟨(hp m hm).1,(hp m hm).2,hx⟩
theorem Bp {K:HD}{H:Hp}{c:Q3}{a:Lg}(h:aA K H c.col (.ref a)):∃ x y z:Lg,H a=some (.tup [.ref x,.ref y,.ref z])/\∀ (j:Nat) (v:V) (r:Int×Int),([.ref x,.ref y,.ref z]:List V)[j]?=some v->(f8 c)[j]?=some r->∃ b,v=.ref b/\H b=some (.tup [.int r.1,.int r.2]):=by
 cases h with
 |tup e q=>
  obtain⟨x,y,z,rfl,h1,h2,h3⟩:=cW q;obtain⟨a1,rfl,k1⟩:=cC h1;obtain⟨a2,rfl,k2⟩:=cC h2;obtain⟨a3,rfl,k3⟩:=cC h3;refine⟨a1,a2,a3,e,λj v r hv hr=>?_⟩
  match j,hv,hr with
  |0,hv,hr=>cases hv;cases hr;exact⟨_,rfl,k1⟩
  |1,hv,hr=>cases hv;cases hr;exact⟨_,rfl,k2⟩
  |2,hv,hr=>cases hv;cases hr;exact⟨_,rfl,k3⟩
  |n+3,hv,_=>simp at hv
def dY (H H':Hp):Prop:=∀ b o,H b=some o->(∀ f,o≠.ext f)->H' b=some o
theorem dY.put {H:Hp}{d:Lg}{f:Ng->Prop}{o':HO}(h:H d=some (.ext f)):dY H (upd H d o'):=λb o e n=>by
 rw[aq (λz=>by rw[z,h] at e;cases e;exact n _ rfl)];exact e
theorem dY.refl (H:Hp):dY H H:=λ_ _ e _=>e
theorem dY.trans {H H' H'':Hp}(a:dY H H')(b:dY H' H''):dY H H'':=λc o e n=>b c o (a c o e n) n
theorem sE {H H':Hp}(s:af H H'):dY H H':=λb o e _=>s b o e
theorem Rd.sameE {H H':Hp}{a:Lg}{xs:List V}(e:dY H H')(h:Rd H a (.lst xs)):Rd H' a (.lst xs):=by
 rcases h with h|⟨o,h⟩
 ·exact .inl (e _ _ h λ_ z=>nomatch z)
 ·exact .inr ⟨o,e _ _ h λ_ z=>nomatch z⟩
mutual
theorem aA.sameE {K:HD}{H H':Hp}(e:dY H H'):∀ {d:LU}{v:V},aA K H d v->aA K H' d v
 |_,_,.non=>.non
 |_,_,.bl b=>.bl b
 |_,_,.int i=>.int i
 |_,_,.str x=>.str x
 |_,_,.lst h q=>.lst (Rd.sameE e h) (ay.sameE e q)
 |_,_,.tup h q=>.tup (e _ _ h λ_ z=>nomatch z) (ay.sameE e q)
 |_,_,.dct h=>.dct (e _ _ h λ_ z=>nomatch z)
theorem ay.sameE {K:HD}{H H':Hp}(e:dY H H'):∀ {ds:List LU}{vs:List V},ay K H ds vs->ay K H' ds vs
 |_,_,.nil=>.nil
 |_,_,.cons h q=>.cons (aA.sameE e h) (ay.sameE e q)
end
theorem mL.sameE {K:HD}{H H':Hp}{p:Kn×(Nat×Nat×Nat)}{v:V}(h:mL K H p v)(s:dY H H'):mL K H' p v:=by
 obtain⟨q,a,b,h1,h2,h3,h4⟩:=h;exact⟨q,a,b,h1,s _ _ h2 (λ_ z=>nomatch z),s _ _ h3 (λ_ z=>nomatch z),h4⟩
def uR (cs:List Q3)(c:Q3):List Q3:=if cs.any (λd=>decide (cK d=cK c))=true then cs else cs++[c]
theorem yX (xs:List (Q3×Lg))(c:Q3)(b:Lg):(oK xs c b).map (·.1)=uR (xs.map (·.1)) c:=by
 unfold oK uR;rw[UK]
 by_cases h:xs.any (λp=>decide (cK p.1=cK c))=true
 ·rw[LL h,LL (by exact h)]
 ·rw[LB h,LB (by exact h),Mg];rfl
theorem Fl (xs:List (Q3×Lg))(c:Q3)(b:Lg):(oK xs c b).length<=xs.length+1:=by
 unfold oK
 split
 ·lia
 ·rw[LC];exact Lc _
theorem yt {xs:List (Q3×Lg)}{c:Q3}{b:Lg}{p:Q3×Lg}(h:p∈oK xs c b):p∈xs\/p=(c,b):=by
 unfold oK at h
 split at h
 ·exact .inl h
 ·rcases Mm.mp h with h|h
  ·exact .inl h
  ·exact .inr (Lo.mp h)
theorem Gg {cs:List Q3}{c:Q3}(h:cs.Nodup):(uR cs c).Nodup:=by
 unfold uR
 split
 ·exact h
 ·rename_i hn
  refine Um.mpr ⟨h,by simp,λa ha b hb z=>hn ?_⟩;rw[Lo.mp hb] at z;exact Pe.mpr ⟨a,ha,Lj (by rw[z])⟩
theorem EA {K:HD}{H:Hp}:wq K H []:=⟨λ_ h=>(by cases h),Ui⟩
theorem wq.put {K:HD}{H H':Hp}{xs:List (Q3×Lg)}{c:Q3}{b:Lg}(k:wq K H xs)(hc:aA K H c.col (.ref b))(s:dY H H'):wq K H' (oK xs c b):=by
 refine⟨λp hp=>?_,by rw[yX];exact Gg k.2⟩;rcases yt hp with hp|rfl
 ·exact aA.sameE s (k.1 p hp)
 ·exact aA.sameE s hc
def iG (n:Nat)(f:Kn->R3)(e:Q3)(cs:List Q3)(p:Kn×(Nat×Nat×Nat)):List Q3:=match i8 n f e p with
 |none=>cs
 |some c=>uR cs c
def gf (n:Nat)(f:Kn->R3)(e:Q3)(ps:List (Kn×(Nat×Nat×Nat))):List Q3:=ps.foldl (iG n f e) []
theorem AX {n:Nat}{f:Kn->R3}{e:Q3}{ps:List (Kn×(Nat×Nat×Nat))}{p:Kn×(Nat×Nat×Nat)}:gf n f e (ps++[p])=iG n f e (gf n f e ps) p:=by unfold gf;rw[Ul];rfl
theorem qZ {n:Nat}(h3:n<=3):(bD n).length<=48:=by
 have:(aW (n-1)).length<=8:=by
  rw[fB];exact Om (show n-1<=2 by lia) 3
 unfold bD;rw[ij];lia
theorem fA {α β:Type}{lt:Nat->Nat->Bool}{f:α->Og β}:∀ {t:Og α},fi lt (t.bind f)=fi lt (f (fi lt t))
 |.ret _=>rfl
 |.ask i j c=>fA (t:=c (lt i j))
section
variable {O:KeyOrd}{k:Nat->O.α}{p:Array Nat}
def kA (k:Nat->O.α)(p:Array Nat)(i:Nat):O.α:=k (p.getD i 0)
def mR (k:Nat->O.α)(i j:Nat):Bool:=O.blt (k i) (k j)
def tU (k:Nat->O.α)(p:Array Nat)(n:Nat):Prop:=∀ i j,i<=j->j<n->O.kle (kA k p i) (kA k p j)
def Cj (k:Nat->O.α)(p:Array Nat)(n:Nat):Prop:=∀ i j,i<=j->j<n->O.kle (kA k p j) (kA k p i)
theorem jm {q:Array Nat}{i j:Nat}(h:p[i]?=q[j]?):kA k p i=kA k q j:=by
 unfold kA;rw[Nf,Nf,h]
theorem x_ {i j:Nat}(hj:j<=p.size)(x:Nat):kA k (Mt p i j) x=if i<=x/\x<j then kA k p (i+j-1-x) else kA k p x:=by
 have e:=getElem?_mirror_all (i:=i) hj x;unfold Mt
 by_cases h1:i<=x/\x<j
 ·rw[LL h1] at e ⊢;exact jm e
 ·rw[LB h1] at e ⊢;exact jm e
theorem CC {src d:Nat}(hs:src<p.size)(hd:d<=src)(x:Nat):kA k (bubble p src d) x=if x=src-d then kA k p src else if src-d<x/\x<=src then kA k p (x-1) else kA k p x:=by
 have e:=getElem?_bubble hs d hd x
 by_cases h1:x=src-d
 ·rw[LL h1] at e ⊢;exact jm e
 ·rw[LB h1] at e ⊢
  by_cases h2:src-d<x/\x<=src
  ·rw[LL h2] at e ⊢;exact jm e
  ·rw[LB h2] at e ⊢;exact jm e
theorem iW {i j:Nat}(hj:j<=p.size)(heq:∀ x,i<=x->x<j->kA k p x=kA k p (j-1))(x:Nat):kA k (Mt p i j) x=kA k p x:=by
 rw[x_ hj]
 split
 ·rename_i h
  rw[heq _ (by lia) (by lia),heq x h.1 h.2]
 ·rfl
theorem wT:∀ f n,1<=n->tU k p n->∃ m,fi (mR k) (SQ p f n)=m/\n<=m/\m<=n+f/\tU k p m/\(m=n+f\/O.klt (kA k p m) (kA k p (m-1)))
 |0,n,_,h=>⟨n,rfl,Lc _,Lc _,h,.inl rfl⟩
 |f+1,n,h1,h=>by
  show ∃ m,fi (mR k) (if mR k (p.getD n 0) (p.getD (n-1) 0)=true then .ret n else SQ p f (n+1))=m/\_;cases hc:mR k (p.getD n 0) (p.getD (n-1) 0) with
  |true=>exact⟨n,rfl,Lc _,by lia,h,.inr hc⟩
  |false=>
   obtain⟨m,e,a,b,c,d⟩:=wT f (n+1) (by lia) (λi j hij hj=>by
    by_cases hjx:j<n
    ·exact h i j hij hjx
    ·have hj':j=n:=by lia
     subst hj'
     by_cases hi':i=j
     ·subst hi';exact NQ _
     ·exact Qx (h i (j-1) (by lia) (by lia)) hc)
   exact⟨m,e,by lia,by lia,c,by rcases d with d|d;exact .inl (by lia);exact .inr d⟩
theorem nQ:∀ f (p:Array Nat) n q,n + f <= p.size->1 <= n->Cj k p n->q + 1 <= n->(∀ i,n - (q + 1) <= i->i < n->kA k p i=kA k p (n - 1)) ->
  ∃ p' m q',fi (mR k) (Ov f p n q)=(p',m,q')/\p'.size=p.size/\n<=m/\m<=n+f/\Cj k p' m/\q'+1<=m/\(∀ i,m-(q'+1)<=i->i<m->kA k p' i=kA k p' (m-1))
 |0,p,n,q,_,_,h,hq,he=>⟨p,n,q,rfl,rfl,Lc _,Lc _,h,hq,he⟩
 |f+1,p,n,q,hz,h1,h,hq,he=>by
  show ∃ p' m q',fi (mR k) (if mR k (p.getD n 0) (p.getD (n-1) 0)=true then(if q>0 then Ov f (Mt p (n-(q+1)) n) (n+1) 0 else Ov f p (n+1) 0)
   else .ask (p.getD (n-1) 0) (p.getD n 0) λd=>if d=true then .ret (p,n,q) else Ov f p (n+1) (q+1))=(p',m,q')/\_
  cases hc:mR k (p.getD n 0) (p.getD (n-1) 0) with
  |true=>
   have hc':O.klt (kA k p n) (kA k p (n-1)):=hc;have step:∀ xs:Array Nat,(∀ x,kA k xs x=kA k p x)->Cj k xs (n+1):=λxs hk i j hij hj=>by
    rw[hk,hk]
    by_cases hjx:j<n
    ·exact h i j hij hjx
    ·have hj':j=n:=by lia
     subst hj'
     by_cases hi':i=j
     ·subst hi';exact NQ _
     ·exact Qx (P5 hc') (h i (j-1) (by lia) (by lia))
   simp only[Nz]
   by_cases hq0:q>0
   ·rw[LL hq0];have hs:(Mt p (n-(q+1)) n).size=p.size:=TK _ _ _ _;obtain⟨p',m,q',e,z,a,b,c,d,g⟩:=nQ f (Mt p (n-(q+1)) n) (n+1) 0 (by lia) (by lia) (step _ (iW (by lia) he)) (by lia) (λi h1 h2=>by congr 1;lia);exact⟨p',m,q',e,by lia,by lia,by lia,c,d,g⟩
   ·rw[LB hq0];obtain⟨p',m,q',e,z,a,b,c,d,g⟩:=nQ f p (n+1) 0 (by lia) (by lia) (step _ (λ_=>rfl)) (by lia) (λi h1 h2=>by congr 1;lia);exact⟨p',m,q',e,by lia,by lia,by lia,c,d,g⟩
  |false=>
   simp only[Li,Mb];show ∃ p' m q',fi (mR k) (if mR k (p.getD (n-1) 0) (p.getD n 0)=true then .ret (p,n,q) else Ov f p (n+1) (q+1))=(p',m,q')/\_;cases hl:mR k (p.getD (n-1) 0) (p.getD n 0) with
   |true=>exact⟨p,n,q,rfl,rfl,Lc _,by lia,h,hq,he⟩
   |false=>
    have heq:kA k p n=kA k p (n-1):=Tz hl hc;simp only[Li,Mb];obtain⟨p',m,q',e,z,a,b,c,d,g⟩:=nQ f p (n+1) (q+1) (by lia) (by lia) (λi j hij hj=>by
     by_cases hjx:j<n
     ·exact h i j hij hjx
     ·have hj':j=n:=by lia
      subst hj'
      by_cases hi':i=j
      ·subst hi';exact NQ _
      ·rw[heq];exact h i (j-1) (by lia) (by lia)) (by lia) (λi h1 h2=>by
     rw[show n+1-1=n by lia]
     by_cases hix:i=n
     ·subst hix;rfl
     ·rw[heq];exact he i (by lia) (by lia))
    exact⟨p',m,q',e,z,by lia,by lia,c,d,g⟩
theorem vK {p:Array Nat}{n nrem:Nat}(h1:1<=n)(hn:n<=nrem)(hz:nrem<=p.size)(h:Cj k p n):∃ m p',fi (mR k) (RC n nrem p)=(m,p')/\p'.size=p.size/\1<=m/\m<=nrem/\tU k p' m:=by
 obtain⟨m,e,a,b,c,_⟩:=wT (k:=k) (p:=Mt p 0 n) (nrem-n) n h1 (λi j hij hj=>by
  rw[x_ (by lia),x_ (by lia),LL (by lia),LL (by lia)];exact h _ _ (by lia) (by lia))
 refine⟨m,Mt p 0 n,?_,TK _ _ _ _,by lia,by lia,c⟩;unfold RC;rw[fA,e];rfl
theorem mW {p:Array Nat}{n nrem:Nat}(hn:n+1<=nrem)(hz:nrem<=p.size)(h:Cj k p (n+1)):∃ m p',fi (mR k) (O5 n nrem p)=(m,p')/\p'.size=p.size/\1<=m/\m<=nrem/\tU k p' m:=by
 obtain⟨p1,m1,q1,e,z,a,b,c,d,g⟩:=nQ (k:=k) (nrem-(n+1)) p (n+1) 0 (by lia) (by lia) h (by lia) (λi h1 h2=>by congr 1;lia);unfold O5;rw[fA,e];dsimp only
 by_cases hq:q1>0
 ·rw[LL hq];have hs:(Mt p1 (m1-(q1+1)) m1).size=p1.size:=TK _ _ _ _;obtain⟨m,p',e',z',a',b',c'⟩:=vK (k:=k) (p:=Mt p1 (m1-(q1+1)) m1) (n:=m1) (nrem:=nrem) (by lia) (by lia) (by lia) (λi j hij hj=>by
   rw[iW (by lia) g,iW (by lia) g];exact c i j hij hj)
  exact⟨m,p',e',by lia,a',b',c'⟩
 ·rw[LB hq];obtain⟨m,p',e',z',a',b',c'⟩:=vK (k:=k) (p:=p1) (n:=m1) (nrem:=nrem) (by lia) (by lia) (by lia) c;exact⟨m,p',e',by lia,a',b',c'⟩
theorem CJ {p:Array Nat}{nrem:Nat}(h1:1<=nrem)(hz:nrem<=p.size):∃ m p',fi (mR k) (RA nrem p)=(m,p')/\p'.size=p.size/\1<=m/\m<=nrem/\tU k p' m:=by
 obtain⟨n,e,a,b,c,d⟩:=wT (k:=k) (p:=p) (nrem-1) 1 (Lc _) (λi j hij hj=>by have:i=j:=(by lia);subst this;exact NQ _);unfold RA;rw[fA,e]
 by_cases hn:n=nrem
 ·rw[LL (by simpa using hn)];exact⟨n,p,rfl,rfl,by lia,by lia,c⟩
 ·rw[LB (by simpa using hn)];have hlt:O.klt (kA k p n) (kA k p (n-1)):=d.resolve_left (by lia)
  by_cases hg:n>1
  ·rw[LL hg];show ∃ m p',fi (mR k) (if mR k (p.getD 0 0) (p.getD (n-1) 0)=true then .ret (n,p) else O5 n nrem (Mt p 0 n))=(m,p')/\_;cases hr:mR k (p.getD 0 0) (p.getD (n-1) 0) with
   |true=>exact⟨n,p,rfl,rfl,by lia,by lia,c⟩
   |false=>
    simp only[Li,Mb];have hall:∀ x,0<=x->x<n->kA k p x=kA k p (n-1):=λx _ hx=>by
     have a1:=c 0 x (by lia) hx;have a2:=c x (n-1) (by lia) (by lia);exact Tz a2 (Qx (show O.kle (kA k p (n-1)) (kA k p 0) from hr) a1)
    have hs:(Mt p 0 n).size=p.size:=TK _ _ _ _;obtain⟨m,p',e',z',a',b',c'⟩:=mW (k:=k) (p:=Mt p 0 n) (n:=n) (nrem:=nrem) (by lia) (by lia) (λi j hij hj=>by
     rw[iW (by lia) hall,iW (by lia) hall]
     by_cases hjn:j<n
     ·rw[hall i (by lia) (by lia),hall j (by lia) hjn];exact NQ _
     ·have hj':j=n:=by lia
      subst hj'
      by_cases hi':i=j
      ·subst hi';exact NQ _
      ·rw[hall i (by lia) (by lia)];exact P5 hlt)
    exact⟨m,p',e',by lia,a',b',c'⟩
  ·rw[LB hg];exact mW (by lia) hz (λi j hij hj=>by
    by_cases hi':i=j
    ·subst hi';exact NQ _
    ·have h0:i=n-1:=by lia
     have h1':j=n:=by lia
     subst h0 h1';exact P5 hlt)
theorem qc {p:Array Nat}{x:Nat} (h:tU k p x):∀ f l r,l <= r->r <= x->r - l <= f->(∀ i,i < l->O.kle (kA k p i) (kA k p x))->(∀ i,r <= i->i < x->O.klt (kA k p x) (kA k p i)) ->
  ∃ l',fi (mR k) (Oa p x f l r)=l'/\l'<=x/\(∀ i,i<l'->O.kle (kA k p i) (kA k p x))/\(∀ i,l'<=i->i<x->O.klt (kA k p x) (kA k p i))
 |0,l,r,hlr,hrx,hf,lo,hi=>⟨l,rfl,by lia,lo,λi h1 h2=>hi i (by lia) h2⟩
 |f+1,l,r,hlr,hrx,hf,lo,hi=>by
  unfold Oa
  by_cases hg:l>=r
  ·rw[LL hg];exact⟨l,rfl,by lia,lo,λi h1 h2=>hi i (by lia) h2⟩
  ·rw[LB hg];show ∃ l',fi (mR k) (if mR k (p.getD x 0) (p.getD ((l+r)/2) 0)=true then Oa p x f l ((l+r)/2) else Oa p x f ((l+r)/2+1) r)=l'/\_;cases hc:mR k (p.getD x 0) (p.getD ((l+r)/2) 0) with
   |true=>
    simp only[Nz];exact qc h f l ((l+r)/2) (by lia) (by lia) (by lia) lo λi h1 h2=>KeyOrd.klt_of_klt_of_kle (show O.klt (kA k p x) (kA k p ((l+r)/2)) from hc) (h _ _ h1 h2)
   |false=>
    simp only[Li,Mb];exact qc h f ((l+r)/2+1) r (by lia) (by lia) (by lia) (λi h1=>Qx (h i ((l+r)/2) (by lia) (by lia)) (show O.kle (kA k p ((l+r)/2)) (kA k p x) from hc)) hi
theorem BB:∀ f (p:Array Nat) x,x+f<=p.size->tU k p x->∃ p',fi (mR k) (SR f p x)=p'/\tU k p' (x+f)
 |0,p,x,_,h=>⟨p,rfl,h⟩
 |f+1,p,x,hz,h=>by
  obtain⟨l,e,hl,lo,hi⟩:=qc (k:=k) h x 0 x (LY _) (Lc _) (by lia) (λi hi=>by lia) (λi h1 h2=>by lia);unfold SR;rw[fA,e];have hs:(bubble p x (x-l)).size=p.size:=bubble_size _ _ _;obtain⟨p',e',c⟩:=BB f (bubble p x (x-l)) (x+1) (by lia) (λi j hij hj=>by
   rw[CC (by lia) (by lia),CC (by lia) (by lia),show x-(x-l)=l by lia]
   repeat' split
   all_goals first
    |(exfalso;lia)
    |exact NQ _
    |exact h _ _ (by lia) (by lia)
    |exact lo _ (by lia)
    |exact P5 (hi _ (by lia) (by lia)))
  exact⟨p',e',by rw[show x+(f+1)=x+1+f by lia];exact c⟩
theorem EH {n:Nat}(h1:1<=n):tU k (fi (mR k) (Ph n)) n:=by
 obtain⟨m,p',e,z,a,b,c⟩:=CJ (k:=k) (p:=Q9 (L0 n)) (nrem:=n) h1 (by simp);have hz:p'.size=n:=by rw[z];simp
 unfold Ph;rw[fA,e];dsimp only
 by_cases hm:m<n
 ·rw[LL hm];obtain⟨p2,e2,c2⟩:=BB (k:=k) (n-max m 1) p' (max m 1) (by lia) (by rw[show max m 1=m by lia];exact c);rw[e2];rw[show max m 1+(n-max m 1)=n by lia] at c2;exact c2
 ·rw[LB hm];have:m=n:=by lia
  subst this;exact c
end
theorem gX.congr {α:Type}{n:Nat}{P:α->Prop}{lt lt':Nat->Nat->Bool}(h:∀ i j,i<n->j<n->lt i j=lt' i j):∀ {t:Og α},gX n P t->fi lt t=fi lt' t
 |.ret _,_=>rfl
 |.ask i j c,a=>by
  show fi lt (c (lt i j))=fi lt' (c (lt' i j));rw[h i j a.1 a.2.1];exact(a.2.2 _).congr h
def Gs (a b:Int×Int×Int):Bool:=if a.1=b.1 then(if a.2.1=b.2.1 then decide (a.2.2<b.2.2) else decide (a.2.1<b.2.1)) else decide (a.1<b.1)
theorem nY (a b:Int×Int×Int):Gs a b=true↔a.1<b.1\/(a.1=b.1/\(a.2.1<b.2.1\/(a.2.1=b.2.1/\a.2.2<b.2.2))):=by
 unfold Gs
 by_cases h1:a.1=b.1
 ·rw[LL h1]
  by_cases h2:a.2.1=b.2.1
  ·rw[LL h2,No];lia
  ·rw[LB h2,No];lia
 ·rw[LB h1,No];lia
theorem wu (a b:Int×Int×Int):Gs a b=false↔¬ (a.1<b.1\/(a.1=b.1/\(a.2.1<b.2.1\/(a.2.1=b.2.1/\a.2.2<b.2.2)))):=by
 rw[<- nY];simp
def o3:KeyOrd where
 α:=Int×Int×Int
 blt:=Gs
 irrefl a:=by rw[wu];lia
 trans a b c h1 h2:=by rw[nY] at *;lia
 negTrans a b c h:=by rw[nY] at *;rw[nY];lia
 total a b h1 h2:=by
  rw[wu] at *;obtain⟨x,y,z⟩:=a;obtain⟨u,v,w⟩:=b;dsimp only at h1 h2;have e1:x=u:=by lia
  have e2:y=v:=by lia
  have e3:z=w:=by lia
  rw[e1,e2,e3]
def C' (l:List Int):Int×Int×Int:=(l.getD 0 0,l.getD 1 0,l.getD 2 0)
theorem Eb {a b:List Int}(ha:a.length=3)(hb:b.length=3):Da a b=Gs (C' a) (C' b):=by
 match a,ha,b,hb with
 |[x,y,z],_,[u,v,w],_=>
  show(if x=u then if y=v then if z=w then false else decide (z<w) else decide (y<v) else decide (x<u))=if x=u then(if y=v then decide (z<w) else decide (y<v)) else decide (x<u)
  by_cases h1:x=u
  ·rw[LL h1,LL h1]
   by_cases h2:y=v
   ·rw[LL h2,LL h2]
    by_cases h3:z=w
    ·rw[LL h3];simp[h3]
    ·rw[LB h3]
   ·rw[LB h2,LB h2]
  ·rw[LB h1,LB h1]
theorem uS {kz:List (List Int)}(h3:∀ k∈kz,k.length=3):(kj kz).Pairwise λi j=>Gs (C' (kz.getD j [])) (C' (kz.getD i []))=false:=by
 unfold kj
 by_cases h:kz.length<2
 ·rw[LL h]
  match kz.length,h with
  |0,_=>exact .nil
  |1,_=>exact List.pairwise_singleton _ _
 ·rw[LB h];have e:=(jD (n:=kz.length) (by lia)).congr (lt:=λi j=>Da (kz.getD i []) (kz.getD j [])) (lt':=mR (O:=o3) λi=>C' (kz.getD i [])) (λi j hi hj=>Eb (h3 _ (Lq (show kz[i]?=some (kz.getD i []) by simp[hi]))) (h3 _ (Lq (show kz[j]?=some (kz.getD j []) by simp[hj]))));rw[e];have so:=EH (O:=o3) (k:=λi=>C' (kz.getD i [])) (n:=kz.length) (by lia);have pe:=O1.mp ((jD (n:=kz.length) (by lia)).run (lt:=mR (O:=o3) λi=>C' (kz.getD i [])));generalize fi (mR (O:=o3) λi=>C' (kz.getD i [])) (Ph kz.length)=p at so pe;have hz:p.size=kz.length:=by
   have:=pe.length_eq;rw[LO] at this
   simpa using this
  rw[Rp];intro i j hi hj hij;rw[LO] at hi hj;have q:=so i j (Nx hij) (by lia);unfold kA at q;rw[show p.getD i 0=p.toList[i] by simp[S5,hi],show p.getD j 0=p.toList[j] by simp[S5,hj]] at q;exact q
theorem FJ {p q:Rat}{m:Int}(m1:1<=m)(hp:(p.den:Int)<=m)(hq:(q.den:Int)<=m)(h:p<q):(p.num*m^2).fdiv p.den<(q.num*m^2).fdiv q.den:=by
 have dp:0<(p.den:Int):=by have:=p.den_pos;lia
 have dq:0<(q.den:Int):=by have:=q.den_pos;lia
 have hc:p.num*(q.den:Int)+1<=q.num*(p.den:Int):=Rat.lt_iff p q |>.mp h
 generalize hm:m^2=z;have hz:(p.den:Int)*(q.den:Int)<=z:=by
  rw[<- hm,SC,SC,Int.pow_zero,Int.one_mul];exact Int.mul_le_mul hp hq (by lia) (by lia)
 have z0:0<=z:=UH (NJ (by lia) (by lia)) hz;rw[MC _ (by lia),MC _ (by lia)];have h1:(p.num*z/p.den)*p.den<=p.num*z:=Int.ediv_mul_le _ (by lia);generalize p.num*z/p.den=A at h1
 suffices A+1<=q.num*z/q.den by lia
 rw[Int.le_ediv_iff_mul_le dq];refine Int.le_of_mul_le_mul_right ?_ dp;have e1:(A+1)*(q.den:Int)*(p.den:Int)=A*p.den*q.den+p.den*q.den:=by grind
 have e2:A*p.den*q.den<=p.num*z*q.den:=Of h1 (by lia);have e3:(p.num*(q.den:Int)+1)*z<=q.num*p.den*z:=Of hc z0;have e4:(p.num*(q.den:Int)+1)*z=p.num*z*q.den+z:=by grind
 have e5:q.num*z*p.den=q.num*p.den*z:=by grind
 lia
def Il (c d:Q3):Prop:=c.a<d.a\/(c.a=d.a/\(c.b<d.b\/(c.b=d.b/\c.c<d.c)))
theorem B9 {p q:Rat}{m:Int}(m1:1<=m)(hp:(p.den:Int)<=m)(hq:(q.den:Int)<=m):(p<q/\(p.num*m^2).fdiv p.den<(q.num*m^2).fdiv q.den)\/p=q\/(q<p/\(q.num*m^2).fdiv q.den<(p.num*m^2).fdiv p.den):=by
 rcases(show p<q\/p=q\/q<p by grind) with h|h|h
 ·exact .inl ⟨h,FJ m1 hp hq h⟩
 ·exact .inr (.inl h)
 ·exact .inr (.inr ⟨h,FJ m1 hq hp h⟩)
theorem Ga {c d:Q3}{m:Int}(m1:1<=m)(hc:∀ r∈(f8 c).map (·.2),r<=m)(hd:∀ r∈(f8 d).map (·.2),r<=m)(h:Gs (C' (mo (m^2) d)) (C' (mo (m^2) c))=false)(ne:c≠d):Il c d:=by
 have c1:=hc _ (show(c.a.den:Int)∈_ by simp[f8]);have c2:=hc _ (show(c.b.den:Int)∈_ by simp[f8]);have c3:=hc _ (show(c.c.den:Int)∈_ by simp[f8]);have d1:=hd _ (show(d.a.den:Int)∈_ by simp[f8]);have d2:=hd _ (show(d.b.den:Int)∈_ by simp[f8]);have d3:=hd _ (show(d.c.den:Int)∈_ by simp[f8]);rw[wu] at h;have e:∀ c:Q3,C' (mo (m^2) c)=((c.a.num*m^2).fdiv c.a.den,(c.b.num*m^2).fdiv c.b.den,(c.c.num*m^2).fdiv c.c.den):=λ_=>rfl
 rw[e,e] at h;dsimp only at h;unfold Il;rcases B9 m1 c1 d1 with ⟨h1,_⟩|h1|⟨_,k1⟩
 ·exact .inl h1
 ·refine .inr ⟨h1,?_⟩;rcases B9 m1 c2 d2 with ⟨h2,_⟩|h2|⟨_,k2⟩
  ·exact .inl h2
  ·refine .inr ⟨h2,?_⟩;rcases B9 m1 c3 d3 with ⟨h3,_⟩|h3|⟨_,k3⟩
   ·exact h3
   ·exact absurd (Q3.ext h1 h2 h3) ne
   ·rw[h1,h2] at h;lia
  ·rw[h1] at h;lia
 ·lia
theorem v4 {z:Int}{xs:List (Q3×Lg)}(hz:JI xs z)(nd:(xs.map (·.1)).Nodup):(mw z xs).Pairwise λp q=>Il p.1 q.1:=by
 obtain⟨m,rfl,m1,hm⟩:=hz;have so:=uS (kz:=xs.map λp=>mo (m^2) p.1) (λk hk=>by obtain⟨p,_,rfl⟩:=Md.mp hk;rfl);have pe:=gY (xs.map λp=>mo (m^2) p.1);have nd2:(kj (xs.map λp=>mo (m^2) p.1)).Nodup:=pe.nodup_iff.mpr List.nodup_range;unfold mw;rw[List.pairwise_filterMap];refine(so.and nd2).imp λ{i j} hij p hp q hq=>?_
 obtain⟨h,ne⟩:=hij;have ei:(xs.map λp=>mo (m^2) p.1).getD i []=mo (m^2) p.1:=by
  rw[NW,Lk,hp];rfl
 have ej:(xs.map λp=>mo (m^2) p.1).getD j []=mo (m^2) q.1:=by
  rw[NW,Lk,hq];rfl
 rw[ei,ej] at h;have den:∀ {x:Q3×Lg}{l:Nat},xs[l]?=some x->∀ r∈(f8 x.1).map (·.2),r<=m:=λ{x l} hx r hr=>hm r (Ot.mpr ⟨x,Lq hx,hr⟩)
 refine Ga m1 (den hp) (den hq) h λz=>ne ?_
 have hi:i<xs.length:=(Ll.mp hp).1;have hj:j<xs.length:=(Ll.mp hq).1;exact(List.getElem?_inj (by rw[K'];exact hi) nd).mp (by rw[Lk,Lk,hp,hq];exact NE some z)
def pO (o:Nat×Nat×Nat)(q:Q3)(k:Nat):Rat:=if k=o.1 then q.a else if k=o.2.1 then q.b else q.c
theorem Fz {o:Nat×Nat×Nat}(q:Q3)(h:o∈dG):pO o q o.1=q.a/\pO o q o.2.1=q.b/\pO o q o.2.2=q.c:=
 jw (P:=λo=>pO o q o.1=q.a/\pO o q o.2.1=q.b/\pO o q o.2.2=q.c) h ⟨rfl,rfl,rfl⟩ ⟨rfl,rfl,rfl⟩ ⟨rfl,rfl,rfl⟩ ⟨rfl,rfl,rfl⟩ ⟨rfl,rfl,rfl⟩ ⟨rfl,rfl,rfl⟩
theorem wE {t:Kn}{o:Nat×Nat×Nat}{q:Q3}{ap:Int}(h:o∈dG):(uh t o q ap).a=(((t.1:Nat):Int)+pO o q 0)*((ap:Int):Rat)/\(uh t o q ap).b=(((t.2.1:Nat):Int)+pO o q 1)*((ap:Int):Rat)/\(uh t o q ap).c=(((t.2.2:Nat):Int)+pO o q 2)*((ap:Int):Rat):=by
 refine jw (P:=λo=>(uh t o q ap).a=(((t.1:Nat):Int)+pO o q 0)*((ap:Int):Rat)/\(uh t o q ap).b=(((t.2.1:Nat):Int)+pO o q 1)*((ap:Int):Rat)/\(uh t o q ap).c=(((t.2.2:Nat):Int)+pO o q 2)*((ap:Int):Rat)) h ?_ ?_ ?_ ?_ ?_ ?_ <;>
  refine⟨?_,?_,?_⟩<;>(simp only[uh,KB,jK,kf,HG,pO,hO];rfl)
theorem G9 {o:Nat×Nat×Nat}(h:o∈dG):dC o 1=un o.1/\dC o 2=am (un o.1) (un o.2.1)/\dC o 3=am (am (un o.1) (un o.2.1)) (un o.2.2):=
 jw (P:=λo=>dC o 1=un o.1/\dC o 2=am (un o.1) (un o.2.1)/\dC o 3=am (am (un o.1) (un o.2.1)) (un o.2.2)) h ⟨rfl,rfl,rfl⟩ ⟨rfl,rfl,rfl⟩ ⟨rfl,rfl,rfl⟩ ⟨rfl,rfl,rfl⟩ ⟨rfl,rfl,rfl⟩ ⟨rfl,rfl,rfl⟩
theorem lQ {t:Kn}{o:Nat × Nat × Nat}{p:Nat->Rat}{f:Kn->R3}{g:R3->Int} (h:o ∈ dG) (gs:∀ r s:R3,g (r.sub s)=g r - g s):de (fun u=>((g (f (am t u)):Int):Rat)) p o.1 o.2.1 o.2.2 =
  ((g (f (am t (dC o 0))):Int):Rat)+p o.1*((g (aO f (t,o)).x:Int):Rat)+p o.2.1*((g (aO f (t,o)).y:Int):Rat)+p o.2.2*((g (aO f (t,o)).z:Int):Rat):=by
 obtain⟨e1,e2,e3⟩:=G9 h;unfold aO EY de;dsimp only;rw[gs,gs,gs,e1,e2,e3,show dC o 0=(0,0,0) from rfl,Mn,Mn,Mn];generalize ((g (f (am t (0,0,0))):Int):Rat)=h0;generalize ((g (f (am t (un o.1))):Int):Rat)=h1;generalize ((g (f (am t (am (un o.1) (un o.2.1)))):Int):Rat)=h2;generalize ((g (f (am t (am (am (un o.1) (un o.2.1)) (un o.2.2)))):Int):Rat)=h3;generalize p o.1=x;generalize p o.2.1=y;generalize p o.2.2=z;clear e1 e2 e3 gs;grind
theorem nW (s:S9):((s.det:Int):Rat)=(s.x.a:Rat)*((s.y.b:Rat)*s.z.c-(s.y.c:Rat)*s.z.b)+(s.x.b:Rat)*((s.y.c:Rat)*s.z.a-(s.y.a:Rat)*s.z.c)+(s.x.c:Rat)*((s.y.a:Rat)*s.z.b-(s.y.b:Rat)*s.z.a):=by
 have:s.det=s.x.a*(s.y.b*s.z.c-s.y.c*s.z.b)+s.x.b*(s.y.c*s.z.a-s.y.a*s.z.c)+s.x.c*(s.y.a*s.z.b-s.y.b*s.z.a):=by
  unfold S9.det;grind
 rw[this];simp only[MO,Lw,Mn]
theorem Ce {e:Q3}{r:R3}(h:e.Bd 250):((cN e r).a:Rat)=(e.a-(r.a:Rat))*(dB e:Rat)/\((cN e r).b:Rat)=(e.b-(r.b:Rat))*(dB e:Rat)/\((cN e r).c:Rat)=(e.c-(r.c:Rat))*(dB e:Rat):=by
 have o:∀ p∈[e.a,e.b,e.c],((ov (dB e) p:Int):Rat)=p*(dB e:Rat):=λp hp=>yW (qO hp)
 have oa:=o e.a (by simp);have ob:=o e.b (by simp);have oc:=o e.c (by simp);unfold cN;dsimp only;rw[Mn,Mn,Mn,Lw,Lw,Lw,oa,ob,oc];refine⟨?_,?_,?_⟩<;>grind
theorem Fh (r c:R3):((r.dot c:Int):Rat)=(r.a:Rat)*c.a+(r.b:Rat)*c.b+(r.c:Rat)*c.c:=by
 unfold R3.dot;simp only[MO,Lw]
theorem r_ {e:Q3}{r c:R3}{s:S9}(h:e.Bd 250)(hd:s.det≠0):((cN e r).dot c:Rat)/((s.det*dB e:Int):Rat)*(s.det:Rat)=(e.a-(r.a:Rat))*c.a+(e.b-(r.b:Rat))*c.b+(e.c-(r.c:Rat))*c.c:=by
 obtain⟨a1,a2,a3⟩:=Ce (r:=r) h;have B0:(dB e:Rat)≠0:=gK (by have:=(yL h).1;lia);have D0:(s.det:Rat)≠0:=gK hd;rw[Fh,a1,a2,a3,Lw];generalize (dB e:Rat)=B at *;generalize (s.det:Rat)=D at *;grind
theorem dZ {x y D:Rat}(h:D≠0)(e:x*D=y*D):x=y:=by
 have:(x-y)*D=0:=by grind
 rcases Rat.mul_eq_zero.mp this with z|z
 ·grind
 ·exact absurd z h
theorem G8 {xa xb xc ya yb yc za zb zc va vb vc D A B C:Rat} (D0:D ≠ 0) (hD:D=xa * (yb * zc - yc * zb) + xb * (yc * za - ya * zc) + xc * (ya * zb - yb * za))
  (hA:A*D=va*(yb*zc-yc*zb)+vb*(yc*za-ya*zc)+vc*(ya*zb-yb*za))(hB:B*D=va*(zb*xc-zc*xb)+vb*(zc*xa-za*xc)+vc*(za*xb-zb*xa))(hC:C*D=va*(xb*yc-xc*yb)+vb*(xc*ya-xa*yc)+vc*(xa*yb-xb*ya)):
  A*xa+B*ya+C*za=va/\A*xb+B*yb+C*zb=vb/\A*xc+B*yc+C*zc=vc:=by
 have e1:(A*xa+B*ya+C*za)*D=(A*D)*xa+(B*D)*ya+(C*D)*za:=by grind
 have e2:(A*xb+B*yb+C*zb)*D=(A*D)*xb+(B*D)*yb+(C*D)*zb:=by grind
 have e3:(A*xc+B*yc+C*zc)*D=(A*D)*xc+(B*D)*yc+(C*D)*zc:=by grind
 refine⟨dZ D0 ?_,dZ D0 ?_,dZ D0 ?_⟩
 ·rw[e1,hA,hB,hC,hD];grind
 ·rw[e2,hA,hB,hC,hD];grind
 ·rw[e3,hA,hB,hC,hD];grind
theorem wI {xa xb xc ya yb yc za zb zc va vb vc D A B C X:Rat} (D0:D ≠ 0) (hD:D=xa * (yb * zc - yc * zb) + xb * (yc * za - ya * zc) + xc * (ya * zb - yb * za))
  (h1:va=A*xa+B*ya+C*za)(h2:vb=A*xb+B*yb+C*zb)(h3:vc=A*xc+B*yc+C*zc)(hX:X*D=va*(yb*zc-yc*zb)+vb*(yc*za-ya*zc)+vc*(ya*zb-yb*za)):X=A:=by
 refine dZ D0 ?_;rw[hX,h1,h2,h3,hD];grind
theorem DB {xa xb xc ya yb yc za zb zc va vb vc D A B C X:Rat} (D0:D ≠ 0) (hD:D=xa * (yb * zc - yc * zb) + xb * (yc * za - ya * zc) + xc * (ya * zb - yb * za))
  (h1:va=A*xa+B*ya+C*za)(h2:vb=A*xb+B*yb+C*zb)(h3:vc=A*xc+B*yc+C*zc)(hX:X*D=va*(zb*xc-zc*xb)+vb*(zc*xa-za*xc)+vc*(za*xb-zb*xa)):X=B:=by
 refine dZ D0 ?_;rw[hX,h1,h2,h3,hD];grind
theorem Dw {xa xb xc ya yb yc za zb zc va vb vc D A B C X:Rat} (D0:D ≠ 0) (hD:D=xa * (yb * zc - yc * zb) + xb * (yc * za - ya * zc) + xc * (ya * zb - yb * za))
  (h1:va=A*xa+B*ya+C*za)(h2:vb=A*xb+B*yb+C*zb)(h3:vc=A*xc+B*yc+C*zc)(hX:X*D=va*(xb*yc-xc*yb)+vb*(xc*ya-xa*yc)+vc*(xa*yb-xb*ya)):X=C:=by
 refine dZ D0 ?_;rw[hX,h1,h2,h3,hD];grind
theorem fE (y z:R3):((y.cross z).a:Rat)=(y.b:Rat)*z.c-(y.c:Rat)*z.b/\((y.cross z).b:Rat)=(y.c:Rat)*z.a-(y.a:Rat)*z.c/\((y.cross z).c:Rat)=(y.a:Rat)*z.b-(y.b:Rat)*z.a:=by
 unfold R3.cross;simp only[Lw,Mn];exact⟨trivial,trivial,trivial⟩
theorem og {e:Q3}{r:R3}{s:S9} (h:e.Bd 250) (hd:s.det ≠ 0) :
  (iN e r s).a*(s.det:Rat)=(e.a-(r.a:Rat))*((s.y.b:Rat)*s.z.c-(s.y.c:Rat)*s.z.b)+(e.b-(r.b:Rat))*((s.y.c:Rat)*s.z.a-(s.y.a:Rat)*s.z.c)+(e.c-(r.c:Rat))*((s.y.a:Rat)*s.z.b-(s.y.b:Rat)*s.z.a) /\
  (iN e r s).b*(s.det:Rat)=(e.a-(r.a:Rat))*((s.z.b:Rat)*s.x.c-(s.z.c:Rat)*s.x.b)+(e.b-(r.b:Rat))*((s.z.c:Rat)*s.x.a-(s.z.a:Rat)*s.x.c)+(e.c-(r.c:Rat))*((s.z.a:Rat)*s.x.b-(s.z.b:Rat)*s.x.a) /\
  (iN e r s).c*(s.det:Rat)=(e.a-(r.a:Rat))*((s.x.b:Rat)*s.y.c-(s.x.c:Rat)*s.y.b)+(e.b-(r.b:Rat))*((s.x.c:Rat)*s.y.a-(s.x.a:Rat)*s.y.c)+(e.c-(r.c:Rat))*((s.x.a:Rat)*s.y.b-(s.x.b:Rat)*s.y.a):=by
 have f0:=r_ (r:=r) (c:=s.c0) h hd;have f1:=r_ (r:=r) (c:=s.c1) h hd;have f2:=r_ (r:=r) (c:=s.c2) h hd;obtain⟨a1,a2,a3⟩:=fE s.y s.z;obtain⟨b1,b2,b3⟩:=fE s.z s.x;obtain⟨c1,c2,c3⟩:=fE s.x s.y;rw[show s.c0=s.y.cross s.z from rfl,a1,a2,a3] at f0;rw[show s.c1=s.z.cross s.x from rfl,b1,b2,b3] at f1;rw[show s.c2=s.x.cross s.y from rfl,c1,c2,c3] at f2;exact⟨f0,f1,f2⟩
theorem tN {n:Nat}{f:Kn->R3}{t:Kn}{o:Nat × Nat × Nat}{p:Nat->Rat}{c:Q3} (h:Fy n t o p c) (h2:2 <= n) (h7:n <= 7) (hb:ph n t) :
  (W4 n f c).a=((f (am t (dC o 0))).a:Rat)+p o.1*((aO f (t,o)).x.a:Rat)+p o.2.1*((aO f (t,o)).y.a:Rat)+p o.2.2*((aO f (t,o)).z.a:Rat) /\
  (W4 n f c).b=((f (am t (dC o 0))).b:Rat)+p o.1*((aO f (t,o)).x.b:Rat)+p o.2.1*((aO f (t,o)).y.b:Rat)+p o.2.2*((aO f (t,o)).z.b:Rat) /\
  (W4 n f c).c=((f (am t (dC o 0))).c:Rat)+p o.1*((aO f (t,o)).x.c:Rat)+p o.2.1*((aO f (t,o)).y.c:Rat)+p o.2.2*((aO f (t,o)).z.c:Rat):=
 ⟨(h.four h2 h7 hb f R3.a).trans (lQ h.fall.1 λ_ _=>rfl),(h.four h2 h7 hb f R3.b).trans (lQ h.fall.1 λ_ _=>rfl),(h.four h2 h7 hb f R3.c).trans (lQ h.fall.1 λ_ _=>rfl)⟩
theorem y8 {q:Q3}:BN q=true↔q.a<=1/\q.b<=q.a/\q.c<=q.b/\0<=q.c:=by
 unfold BN;simp only[QJ,List.any_nil,id,Bool.or_false,Ud,Bool.or_eq_false_iff,decide_eq_false_iff_not,Rat.not_lt]
theorem GZ {n:Nat}{t:Kn}{o:Nat×Nat×Nat}{q:Q3}(ho:o∈dG)(h:BN q=true):Fy n t o (pO o q) (uh t o q (dW n)):=by
 obtain⟨h1,h2,h3,h4⟩:=y8.mp h;obtain⟨e1,e2,e3⟩:=Fz q ho;obtain⟨c1,c2,c3⟩:=wE (t:=t) (q:=q) (ap:=dW n) ho;have all:∀ k,pO o q k=q.a\/pO o q k=q.b\/pO o q k=q.c:=λk=>by
  unfold pO
  split
  ·exact .inl rfl
  ·split
   ·exact .inr (.inl rfl)
   ·exact .inr (.inr rfl)
 refine⟨⟨ho,by rw[e1,e2];exact h2,by rw[e2,e3];exact h3⟩,λk _=>?_,λk _=>?_,c1,c2,c3⟩
 ·rcases all k with e|e|e<;>rw[e]<;>grind
 ·rcases all k with e|e|e<;>rw[e]<;>grind
theorem Gm {n:Nat}{f:Kn->R3}{e c:Q3}{t:Kn}{o:Nat×Nat×Nat}(h2:2<=n)(h7:n<=7)(be:e.Bd 250)(hb:ph n t)(ho:o∈dG)(h:i8 n f e (t,o)=some c):c.Wi ((60:Int):Rat)/\W4 n f c=e:=by
 unfold i8 at h
 by_cases hd:(aO f (t,o)).det=0
 ·rw[LL hd] at h;cases h
 ·rw[LB hd] at h
  by_cases hp:BN (iN e (f (am t (dC o 0))) (aO f (t,o)))=true
  ·rw[LL hp] at h;cases h;have R:=GZ (n:=n) (t:=t) ho hp;obtain⟨w1,w2,w3⟩:=tN (f:=f) R h2 h7 hb;obtain⟨p1,p2,p3⟩:=Fz (iN e (f (am t (dC o 0))) (aO f (t,o))) ho;rw[p1,p2,p3] at w1 w2 w3;obtain⟨k1,k2,k3⟩:=og (r:=f (am t (dC o 0))) be hd;obtain⟨z1,z2,z3⟩:=G8 (gK hd) (nW _) k1 k2 k3;refine⟨R.wi h2 h7 hb,Q3.ext ?_ ?_ ?_⟩
   ·rw[w1];grind
   ·rw[w2];grind
   ·rw[w3];grind
  ·rw[LB hp] at h;cases h
theorem Aw {n:Nat}{f:Kn->R3}{c:Q3}{t:Kn}{o:Nat×Nat×Nat}{p:Nat->Rat}(h2:2<=n)(h7:n<=7)(R:Fy n t o p c)(hb:ph n t)(be:(W4 n f c).Bd 250)(hd:(aO f (t,o)).det≠0):i8 n f (W4 n f c) (t,o)=some c:=by
 obtain⟨w1,w2,w3⟩:=tN (f:=f) R h2 h7 hb;have ho:=R.fall.1;obtain⟨k1,k2,k3⟩:=og (r:=f (am t (dC o 0))) be hd;have v1:(W4 n f c).a-((f (am t (dC o 0))).a:Rat)=p o.1*((aO f (t,o)).x.a:Rat)+p o.2.1*((aO f (t,o)).y.a:Rat)+p o.2.2*((aO f (t,o)).z.a:Rat):=by rw[w1];grind
 have v2:(W4 n f c).b-((f (am t (dC o 0))).b:Rat)=p o.1*((aO f (t,o)).x.b:Rat)+p o.2.1*((aO f (t,o)).y.b:Rat)+p o.2.2*((aO f (t,o)).z.b:Rat):=by rw[w2];grind
 have v3:(W4 n f c).c-((f (am t (dC o 0))).c:Rat)=p o.1*((aO f (t,o)).x.c:Rat)+p o.2.1*((aO f (t,o)).y.c:Rat)+p o.2.2*((aO f (t,o)).z.c:Rat):=by rw[w3];grind
 have q1:(iN (W4 n f c) (f (am t (dC o 0))) (aO f (t,o))).a=p o.1:=wI (gK hd) (nW _) v1 v2 v3 k1;have q2:(iN (W4 n f c) (f (am t (dC o 0))) (aO f (t,o))).b=p o.2.1:=DB (gK hd) (nW _) v1 v2 v3 k2;have q3:(iN (W4 n f c) (f (am t (dC o 0))) (aO f (t,o))).c=p o.2.2:=Dw (gK hd) (nW _) v1 v2 v3 k3;have hp:BN (iN (W4 n f c) (f (am t (dC o 0))) (aO f (t,o)))=true:=by
  obtain⟨l1,l2,l3⟩:=rS ho;exact y8.mpr ⟨by rw[q1];exact R.hi _ l1,by rw[q1,q2];exact R.fall.2.1,by rw[q2,q3];exact R.fall.2.2,by rw[q3];exact R.lo _ l3⟩
 unfold i8;rw[LB hd,LL hp];generalize iN (W4 n f c) (f (am t (dC o 0))) (aO f (t,o))=q at q1 q2 q3 hp;obtain⟨c1,c2,c3⟩:=wE (t:=t) (q:=q) (ap:=dW n) ho;have pk:∀ k,k<3->pO o q k=p k:=jw (P:=λo=>q.a=p o.1->q.b=p o.2.1->q.c=p o.2.2->∀ k,k<3->pO o q k=p k) ho
  (λa b c k hk=>by match k,hk with|0,_=>exact a|1,_=>exact b|2,_=>exact c) (λa b c k hk=>by match k,hk with|0,_=>exact a|1,_=>exact c|2,_=>exact b)
  (λa b c k hk=>by match k,hk with|0,_=>exact b|1,_=>exact a|2,_=>exact c) (λa b c k hk=>by match k,hk with|0,_=>exact c|1,_=>exact a|2,_=>exact b)
  (λa b c k hk=>by match k,hk with|0,_=>exact b|1,_=>exact c|2,_=>exact a) (λa b c k hk=>by match k,hk with|0,_=>exact c|1,_=>exact b|2,_=>exact a) q1 q2 q3
 refine NE some (Q3.ext ?_ ?_ ?_)
 ·rw[c1,pk 0 (by decide),R.ca]
 ·rw[c2,pk 1 (by decide),R.cb]
 ·rw[c3,pk 2 (by decide),R.cc]
theorem Dn {cs:List Q3}{c d:Q3}:d∈uR cs c↔d∈cs\/d=c:=by
 unfold uR
 by_cases h:cs.any (λd=>decide (cK d=cK c))=true
 ·rw[LL h];refine⟨.inl,λz=>z.elim id λz=>?_⟩;obtain⟨x,hx,e⟩:=Pe.mp h;rw[z,<- wn (Mu e)];exact hx
 ·rw[LB h,Mm,Lo]
theorem pK {n:Nat}{f:Kn->R3}{e c:Q3}:∀ (ps:List (Kn×(Nat×Nat×Nat))),c∈gf n f e ps↔∃ p∈ps,i8 n f e p=some c:=by
 have go:∀ (ps:List (Kn×(Nat×Nat×Nat))) (cs:List Q3),c∈ps.foldl (iG n f e) cs↔c∈cs\/∃ p∈ps,i8 n f e p=some c:=by
  intro ps
  induction ps with
  |nil=>intro cs;simp
  |cons p ps ih=>
   intro cs;rw[QT,ih];have st:c∈iG n f e cs p↔c∈cs\/i8 n f e p=some c:=by
    unfold iG;cases hw:i8 n f e p with
    |none=>simp
    |some d=>rw[Dn];constructor<;>(rintro(h|h);exact .inl h;cases h;exact .inr rfl)
   rw[st];simp only[Ln,exists_eq_or_imp,or_assoc]
 intro ps;unfold gf;rw[go];simp
theorem CA {n:Nat}{f:Kn->R3}{e c:Q3}(h2:2<=n)(h7:n<=7)(be:e.Bd 250)(h:c∈gf n f e (bD n)):c.Wi ((60:Int):Rat)/\W4 n f c=e:=by
 obtain⟨p,hp,e1⟩:=(pK _).mp h;have pm:=fY.mp hp;exact Gm h2 h7 be (jH h2 pm.1) pm.2 e1
theorem Cv {n:Nat}{x:Rat}(h2:2<=n)(h7:n<=7):x=((((cM n x:Nat):Int):Rat)+fC n x)*((dW n:Int):Rat):=by
 have e:=tT h2 h7 x;have a0:=vk h2 h7;unfold fC;rw[e];generalize ((dW n:Int):Rat)=a at *;grind
theorem CN {n:Nat}{c:Q3}(h2:2<=n)(h7:n<=7)(wi:c.Wi ((60:Int):Rat)):Fy n (ui n c) (iZ (fC n c.a) (fC n c.b) (fC n c.c)) (jT n c) c:=by
 have da:Dv n c.a:=⟨h2,h7,wi.a0,wi.a1⟩
 have db:Dv n c.b:=⟨h2,h7,wi.b0,wi.b1⟩
 have dc:Dv n c.c:=⟨h2,h7,wi.c0,wi.c1⟩
 refine⟨im _ _ _,λk hk=>?_,λk hk=>?_,Cv h2 h7,Cv h2 h7,Cv h2 h7⟩
 ·match k,hk with
  |0,_=>exact wM da
  |1,_=>exact wM db
  |2,_=>exact wM dc
 ·match k,hk with
  |0,_=>exact wd da
  |1,_=>exact wd db
  |2,_=>exact wd dc
theorem Aq {n:Nat}{f:Kn->R3}{c:Q3}(h2:2<=n)(h7:n<=7)(wi:c.Wi ((60:Int):Rat))(be:(W4 n f c).Bd 250)(hf:(bD n).any (λp=>decide ((aO f p).det=0))=false):c∈gf n f (W4 n f c) (bD n):=by
 have R:=CN h2 h7 wi;have da:Dv n c.a:=⟨h2,h7,wi.a0,wi.a1⟩
 have db:Dv n c.b:=⟨h2,h7,wi.b0,wi.b1⟩
 have dc:Dv n c.c:=⟨h2,h7,wi.c0,wi.c1⟩
 have la:=cR da;have lb:=cR db;have lc:=cR dc;have hk:ui n c∈aW (n-1):=bV.mpr ⟨by show cM n c.a<n-1;lia,by show cM n c.b<n-1;lia,by show cM n c.c<n-1;lia⟩;have hm:(ui n c,iZ (fC n c.a) (fC n c.b) (fC n c.c))∈bD n:=fY.mpr ⟨hk,R.fall.1⟩;refine(pK _).mpr ⟨_,hm,Aw h2 h7 R (jH h2 hk) be λz=>?_⟩;rw[Uj] at hf;exact hf _ hm (Lj z)
def lp (m i:Nat):Nat:=(i*5+1)%(m+1)
def BX (m:Nat):Nat->Nat->List Nat
 |0,_=>[]
 |k+1,i=>i::BX m k (lp m i)
theorem vQ {m:Nat}:∀ {k i j:Nat},j∈BX m k i->∃ a,a<k/\Nat.repeat (lp m) a i=j
 |0,_,_,h=>by cases h
 |k+1,i,j,h=>by
  rcases Ln.mp h with rfl|h
  ·exact⟨0,by lia,rfl⟩
  ·obtain⟨a,ha,e⟩:=vQ h;refine⟨a+1,by lia,?_⟩;rw[<- e];clear e ha h
   induction a with
   |zero=>rfl
   |succ a ih=>show lp m (Nat.repeat (lp m) (a+1) i)=lp m (Nat.repeat (lp m) a (lp m i));rw[ih]
def oO (m:Nat):Bool:=(L0 (m+1)).all (λj=>(BX m (m+1) 0).contains j)&&Nat.repeat (lp m) (m+1) 0==0
theorem J3:oO 7=true:=by decide +kernel
theorem Jl:oO 31=true:=by decide +kernel
theorem F2:oO 127=true:=by decide +kernel
theorem rP {m:Nat}(x y i:Nat):Nat.repeat (lp m) (x+y) i=Nat.repeat (lp m) x (Nat.repeat (lp m) y i):=by
 induction x with
 |zero=>rw[MA];rfl
 |succ x ih=>rw[UO];show lp m (Nat.repeat (lp m) (x+y) i)=_;rw[ih];rfl
def iu (m:Nat):Prop:=m=7\/m=31\/m=127
theorem vP {m i j:Nat}(h:iu m)(hi:i<=m)(hj:j<=m):∃ a,a<=m/\Nat.repeat (lp m) a i=j:=by
 have hm:oO m=true:=by rcases h with rfl|rfl|rfl;exact J3;exact Jl;exact F2
 unfold oO at hm;rw[L4] at hm;have get:∀ x,x<=m->∃ a,a<m+1/\Nat.repeat (lp m) a 0=x:=λx hx=>vQ (List.contains_iff_mem.mp (MF.mp hm.1 x (M1.mpr (by lia))))
 obtain⟨a,ha,ea⟩:=get i hi;obtain⟨b,hb,eb⟩:=get j hj;have full:Nat.repeat (lp m) (m+1) 0=0:=eq_of_beq hm.2
 by_cases hab:a<=b
 ·refine⟨b-a,by lia,?_⟩;rw[<- ea,<- rP,show b-a+a=b by lia];exact eb
 ·refine⟨b+(m+1)-a,by lia,?_⟩;rw[<- ea,<- rP,show b+(m+1)-a+a=b+(m+1) by lia,rP,full];exact eb
section
variable {t:RZ}
def fu (t:RZ)(k:Nat)(p:N2):N2:=Nat.repeat t.advance k p
theorem pI (x y:Nat)(p:N2):fu t (x+y) p=fu t x (fu t y p):=by
 unfold fu
 induction x with
 |zero=>rw[MA];rfl
 |succ x ih=>rw[UO];show t.advance (Nat.repeat t.advance (x+y) p)=_;rw[ih];rfl
def rs (t:RZ)(ip:Nat×Nat):N2:={ j:=ip.1,more:=Ob t.mask ip.1-ip.1,i:=ip.1,perturb:=ip.2,dummy:=none }
def rp (m:Nat)(L:Nat)(ip:Nat×Nat):Nat×Nat:=Nat.repeat (λip=>PR m ip.1 ip.2) L ip
theorem Ez (c j i q:Nat):fu t c { j:=j,more:=c,i:=i,perturb:=q,dummy:=none }={ j:=j+c,more:=0,i:=i,perturb:=q,dummy:=none }:=by
 induction c generalizing j with
 |zero=>rfl
 |succ c ih=>
  rw[pI c 1];show fu t c (t.advance { j:=j,more:=c+1,i:=i,perturb:=q,dummy:=none })=_;have e:t.advance { j:=j,more:=c+1,i:=i,perturb:=q,dummy:=none }={ j:=j+1,more:=c,i:=i,perturb:=q,dummy:=none }:=by
   unfold UY;rw[LL (by show c+1>0;lia)];rfl
  rw[e,ih (j+1),show j+1+c=j+(c+1) by lia]
theorem Ch (ip:Nat×Nat):∃ k,k<=10/\fu t k (rs t ip)=rs t (PR t.mask ip.1 ip.2):=by
 have hm:Ob t.mask ip.1-ip.1<=9:=by unfold Ob;split<;>lia
 refine⟨1+(Ob t.mask ip.1-ip.1),by lia,?_⟩;rw[pI];unfold rs;rw[Ez];rfl
theorem Dx (ip:Nat×Nat):∀ L,∃ k,k<=10*L/\fu t k (rs t ip)=rs t (rp t.mask L ip)
 |0=>⟨0,Lc _,rfl⟩
 |L+1=>by
  obtain⟨k,hk,e⟩:=Dx ip L;obtain⟨k2,hk2,e2⟩:=Ch (t:=t) (rp t.mask L ip);refine⟨k2+k,by lia,?_⟩;rw[pI,e,e2];rfl
theorem om (m i q:Nat):∀ L,(rp m L (i,q)).2=q/32^L
 |0=>by show q=_;simp
 |L+1=>by
  show(rp m L (i,q)).2/32=_;rw[om m i q L,Nat.div_div_eq_div_mul,SL]
theorem qe (m i:Nat):∀ a,rp m a (i,0)=(Nat.repeat (lp m) a i,0)
 |0=>rfl
 |a+1=>by
  show PR m (rp m a (i,0)).1 (rp m a (i,0)).2=_;rw[qe m i a];show((Nat.repeat (lp m) a i*5+1+0/32)%(m+1),0/32)=(lp m (Nat.repeat (lp m) a i),0)
  rw[Nat.zero_div,NM];rfl
theorem t7 (m x y:Nat)(ip:Nat×Nat):rp m (x+y) ip=rp m x (rp m y ip):=by
 unfold rp
 induction x with
 |zero=>rw[MA];rfl
 |succ x ih=>rw[UO];show(λip=>PR m ip.1 ip.2) (Nat.repeat _ (x+y) ip)=_;rw[ih];rfl
theorem su {h:Int}{e:Nat}(hm:iu t.mask)(he:e<=t.mask):∃ k,k<=10*(t.mask+13)/\(fu t k (t.probeStart h)).j=e:=by
 have hb:LV h<2^64:=by unfold LV;lia
 have hp:(rp t.mask 13 (LV h%(t.mask+1),LV h)).2=0:=by
  rw[om];exact Nat.div_eq_of_lt (Ls hb (by decide))
 have hi:(rp t.mask 13 (LV h%(t.mask+1),LV h)).1<=t.mask:=by
  show(_%(t.mask+1))<=_;exact Nat.le_of_lt_succ (Nat.mod_lt _ (by lia))
 obtain⟨a,ha,ea⟩:=vP hm hi he;obtain⟨k,hk,ek⟩:=Dx (t:=t) (LV h%(t.mask+1),LV h) (a+13);refine⟨k,by lia,?_⟩;show(fu t k (rs t (LV h%(t.mask+1),LV h))).j=e;rw[ek,t7,<- Prod.eta (rp t.mask 13 _),hp,qe];exact ea
theorem Au (p:N2):(t.advance p).dummy=p.dummy:=by unfold UY;split<;>rfl
theorem oB (p:N2):∀ k,(fu t k p).dummy=p.dummy
 |0=>rfl
 |k+1=>(Au _).trans (oB p k)
theorem ze {j:Nat}(nd:t.dummies=#[]):t.slot j≠.dummy:=by
 unfold T6;dsimp only
 split
 ·exact λz=>nomatch z
 ·rw[nd];have:SV #[] j=false:=by unfold SV;simp
  rw[this];exact λz=>nomatch z
theorem pU {hashAt:Nat->Int}{h:Int}{p0:N2}{K:Nat} (nd:t.dummies=#[]) (d0:p0.dummy=none) (hK:t.slot (fu t K p0).j=.empty):∀ (fuel k:Nat),k <= K->K - k < fuel ->
  (∃ j,RH t hashAt h fuel (fu t k p0)=some (.empty j none)/\t.slot j=.empty) \/
  ∃ k' i,k<=k'/\k'<K/\RH t hashAt h fuel (fu t k p0)=some (.candidate (fu t k' p0).j i (fu t (k'+1) p0))/\t.slot (fu t k' p0).j=.live i/\hashAt i=h
 |0,k,_,hf=>absurd hf (by lia)
 |fuel+1,k,hk,hf=>by
  unfold RH;cases hs:t.slot (fu t k p0).j with
  |empty=>exact .inl ⟨_,by dsimp only;rw[oB,d0],hs⟩
  |dummy=>exact absurd hs (ze nd)
  |live i=>
   have hne:k≠K:=λz=>by rw[z,hK] at hs;cases hs
   dsimp only
   by_cases hh:(hashAt i==h)=true
   ·rw[LL hh];exact .inr ⟨k,i,Lc _,by lia,rfl,hs,eq_of_beq hh⟩
   ·rw[LB hh];have e:t.advance (fu t k p0)=fu t (k+1) p0:=rfl;rw[e];rcases pU nd d0 hK fuel (k+1) (by lia) (by lia) with h1|⟨k',i',a,b,c⟩
    ·exact .inl h1
    ·exact .inr ⟨k',i',by lia,b,c⟩
end
end TR
namespace PySem
section
variable {prog:Lz}{w:LX}{K:Type}[DecidableEq K]{kd:KeyKind prog w K}{A:L9}{E:K9->K_->Prop}{s:K_}
theorem DI (n:Nat){v:K9}(h:Oz v=true):OW n v=pure false:=by
 cases v<;>first|(cases h;done)|(cases n<;>rfl)
theorem Dr {n:Nat}{ks:List K}{a:Lg}{Q:Bool->K_->Prop}(hk:QN kd s.heap ks a)(h:Q false s):Lm (LJ prog w) A (OW (n+1) (.ref a)) Q E s:=by
 obtain⟨o,items,m,ho,hc,hd,hi⟩:=id hk;unfold OW;refine KE (Rb (show T3 _ s.heap (typeOf (.ref a)) o.cls from(Sg ho).andThen .now) ?_);rw[hc];dsimp only;refine KE (K7 ?_);simp only[MP,Li,Mb];refine KE (Mi ho hd ?_);dsimp only;refine KE ?_;show Lm _ _ (forIn items _ _) _ _ s;rw[<- ML];refine M4 _ (λbA r s'=>r.1=none/\s'=s/\∀ v∈bA,Oz v=true) _ ?_ ?_ _ _ ⟨rfl,rfl,hi.byValue⟩
 ·rintro v bA r s' ⟨hr,rfl,hall⟩;rw[DI _ (hall v Lr)];refine KE (K7 ?_);simp only[Li,Mb];exact K7 ⟨rfl,rfl,λu hu'=>hall u (Le _ hu')⟩
 ·rintro⟨r1,r2⟩ s' ⟨hr,rfl,_⟩;simp only at hr;subst hr;exact K7 h
theorem yz {ks:List (List K)}{a:Lg}{Q:Bool->K_->Prop}(hk:c8 kd s.heap ks a)(h:Q false s):Lm (LJ prog w) A (OW 8 (.ref a)) Q E s:=by
 obtain⟨o,items,m,ho,hc,hd,hi⟩:=id hk;unfold OW;refine KE (Rb (show T3 _ s.heap (typeOf (.ref a)) o.cls from(Sg ho).andThen .now) ?_);rw[hc];dsimp only;refine KE (K7 ?_);simp only[MP,Li,Mb];refine KE (Mi ho hd ?_);dsimp only;refine KE ?_;show Lm _ _ (forIn items _ _) _ _ s;rw[<- ML];refine M4 _ (λbA r s'=>r.1=none/\s'=s/\∃ left,bQ kd s.heap left bA) _ ?_ ?_ _ _ ⟨rfl,rfl,ks,hi⟩
 ·rintro v bA r s' ⟨hr,rfl,left,hl⟩;cases hl with
  |@cons k c ks' _ h1 hl'=>
   refine KE (Dr (n:=6) h1 ?_);simp only[Li,Mb];exact K7 ⟨rfl,rfl,ks',hl'⟩
 ·rintro⟨r1,r2⟩ s' ⟨hr,rfl,_⟩;simp only at hr;subst hr;exact K7 h
theorem Eu {x:Lg}{kx:List (List K)}(hx:c8 kd s.heap kx x){ys:List K9}{Q:Bool->K_->Prop}(hy:∀ y∈ys,∃ b ky,y=.ref b/\c8 kd s.heap ky b)(h:Q false s):Lm (LJ prog w) A (searchCouldBeSeen (.ref x) ys) Q E s:=by
 unfold searchCouldBeSeen;refine KE ?_;refine M4 _ (λbA r s'=>r.1=none/\s'=s/\∀ y∈bA,∃ b ky,y=.ref b/\c8 kd s.heap ky b) _ ?_ ?_ _ _ ⟨rfl,rfl,hy⟩
 ·rintro v bA r s' ⟨hr,rfl,hall⟩;obtain⟨b,ky,rfl,hb⟩:=hall v Lr;have tl:∀ y∈bA,∃ b ky,y=.ref b/\c8 kd s'.heap ky b:=λy hy=>hall y (Le _ hy)
  dsimp only
  by_cases hv:(x==b||(Oz (.ref x)&&Oz (.ref b)))=true
  ·rw[LL hv];exact K7 ⟨rfl,rfl,tl⟩
  ·rw[LB hv];refine KE (oE hx ?_);simp only[MP,Li,Mb];refine KE (oE hb ?_);simp only[MP,Li,Mb];refine KE (yz hx ?_);simp only[Li,Mb];refine KE (yz hb ?_);simp only[Li,Mb];exact K7 ⟨rfl,rfl,tl⟩
 ·rintro⟨r1,r2⟩ s' ⟨hr,rfl,_⟩;simp only at hr;subst hr;exact K7 h
theorem EO (n:Nat){v:K9}(h:Oz v=true):∃ b,R6 n v=pure b:=by
 cases v<;>first|(cases h;done)|(cases n<;>exact⟨_,rfl⟩)
theorem Fe {n:Nat}{ks:List K}{a:Lg}{Q:Bool->K_->Prop}(hk:QN kd s.heap ks a)(h:∀ b,Q b s):Lm (LJ prog w) A (R6 (n+1) (.ref a)) Q E s:=by
 have hT:=hk.typeIs;obtain⟨o,items,m,ho,hc,hd,hi⟩:=id hk;unfold R6;refine KE (NA hT N4.lookup ?_);dsimp only;refine KE (Mi ho hd ?_);refine KE ?_;show Lm _ _ (forIn items _ _) _ _ s;rw[<- ML];refine M4 _ (λbA r s'=>s'=s/\(r.1=none\/∃ b,r.1=some b)/\∀ v∈bA,Oz v=true) _ ?_ ?_ _ _ ⟨rfl,.inl rfl,hi.byValue⟩
 ·rintro v bA r s' ⟨rfl,hr,hall⟩;obtain⟨b,e⟩:=EO n (hall v Lr);rw[e];refine KE (K7 ?_);cases b with
  |true=>
   simp only[MP,Li,Mb];exact K7 ⟨rfl,.inl rfl,λu hu'=>hall u (Le _ hu')⟩
  |false=>
   simp only[Qe,Nz];exact K7 (K7 (h _))
 ·rintro⟨r1,r2⟩ s' ⟨rfl,hr,_⟩;rcases hr with hr|⟨b,hr⟩<;>simp only at hr<;>subst hr
  ·exact K7 (h _)
  ·exact K7 (h _)
end
end PySem
namespace TR
open PySem PySem.Spec PyProof.Rows L2
theorem Dl:∀ (n:Nat) (xs:List Nat),xs.length<n->∃ e,e<n/\e∉xs
 |0,xs,h=>absurd h (by lia)
 |n+1,xs,h=>by
  by_cases hn:n∈xs
  ·obtain⟨e,he,hx⟩:=Dl n (xs.erase n) (by rw[List.length_erase_of_mem hn];have:=List.length_pos_of_mem hn;lia);refine⟨e,by lia,λz=>hx ?_⟩;exact(List.mem_erase_of_ne (by lia)).mpr z
  ·exact⟨n,by lia,hn⟩
theorem Af {t:RZ}{j:Nat}(nd:t.dummies=#[])(h:j∉t.place.toList):t.slot j=.empty:=by
 cases hs:t.slot j with
 |empty=>rfl
 |dummy=>exact absurd hs (ze nd)
 |live i=>
  unfold T6 at hs;dsimp only at hs
  split at hs
  ·rename_i hp
   have hp':=eq_of_beq hp;exact absurd (by rw[<- Nt] at hp';exact Lq hp') h
  ·split at hs<;>cases hs
theorem zQ {t:RZ}{j i:Nat}(h:t.slot j=.live i):i<t.place.size:=by
 unfold T6 at h;dsimp only at h
 split at h
 ·rename_i hp
  cases h;exact(O0.mp (eq_of_beq hp)).1
 ·split at h<;>cases h
section
variable {prog:Lz}{w:LX}{K:Type}[DecidableEq K]{kd:KeyKind prog w K}{A:L9}{E:K9->K_->Prop}{s:K_}
theorem A4 {a x:Lg}{kx:List (List K)}{o:Obj}{es:Array (Int × K9)}{ep:Nat}{t:RZ}{hh:Int}{Q:SetFound->K_->Prop} (hu:A.units + 1 < cLine) (ho:s.heap.get? a=some o) (hd:o.data=.set es ep t) (hf:t.fits es.size=true) (nd:t.dummies=#[]) (mk:iu t.mask)
  (hx:c8 kd s.heap kx x)(hes:∀ e∈es.toList,∃ b ky,e.2=.ref b/\c8 kd s.heap ky b/\ky≠kx)(h:∀ j,t.slot j=.empty->Q (.free j false) s):Lm (LJ prog w) A (setSearch a (.ref x) hh true) Q E s:=by
 have hfz:t.place.size=es.size/\t.place.size<=t.mask:=by
  unfold R0 QM at hf;rw[nd] at hf
  simpa using hf
 obtain⟨e,he,hne⟩:=Dl (t.mask+1) t.place.toList (by rw[LO];lia);obtain⟨N,hN,eN⟩:=su (t:=t) (h:=hh) mk (show e<=t.mask by lia);have hK:t.slot (fu t N (t.probeStart hh)).j=.empty:=by rw[eN];exact Af nd hne
 have gw:t.gaveWay=false:=by
  unfold SetTable.gaveWay;rcases mk with e|e|e<;>rw[e]<;>rfl
 have m127:t.mask<=127:=by rcases mk with e|e|e<;>lia
 have main:∀ (fuel k:Nat) (stand:Option N2),k<=N->N-k<fuel->stand.getD (t.probeStart hh)=fu t k (t.probeStart hh)->Lm (LJ prog w) A (R8 a (.ref x) hh true fuel stand) Q E s:=by
  intro fuel
  induction fuel with
  |zero=>intro k stand _ hlt;lia
  |succ fuel ih=>
   intro k stand hk hlt hs;unfold R8;refine KE (OZ ho hd hf ?_);dsimp only;rw[gw];simp only[Li,Mb];rw[hs];unfold SetTable.probe;rcases pU (t:=t) (h:=hh) nd rfl hK (10*Ow t.mask) k hk (by unfold Ow;lia) with ⟨j,e1,e2⟩|⟨k',i,a1,a2,e1,e2,_⟩
   ·rw[e1];dsimp only;exact K7 (h j e2)
   ·rw[e1];dsimp only;have hi:i<es.size:=by rw[<- hfz.1];exact zQ e2
    obtain⟨b,ky,eb,hb,hne⟩:=hes es[i] (by simp);have ep2:es[i]?=some (es[i].1,.ref b):=by rw[Np hi,<- eb]
    have step:Lm (LJ prog w) A (do
      let equal <- holding [es[i].2] (eqBool es[i].2 (.ref x))
      let (es',_,t') <- setState a
      if true&&equal then return .there none
      let some same:=t'.sameMemory t.moves t.mask|unsupported "set.changed-during-lookup:is-the-new-block-at-the-old-address"
      let still <- match (if same then t'.slot (fu t k' (t.probeStart hh)).j else .empty) with
       |.live i'=>match es'[i']? with
        |some (_,y')=>do pure (if <- isSame y' es[i].2 then some i' else none)
        |none=>pure none
       |_=>pure none
      match still with
      |none=>rule "set.search.anew";R8 a (.ref x) hh true fuel none
      |some i'=>if equal then return .there (some i') else R8 a (.ref x) hh true fuel (some (fu t (k'+1) (t.probeStart hh)))) Q E s:=by
     rw[eb];refine KE (Mp (Fs hu hb hx ?_));rw[LW hne];refine KE (OZ ho hd hf ?_);simp only[Tl,Li,Mb];have sm:t.sameMemory t.moves t.mask=some true:=by unfold SetTable.sameMemory;rw[LL (Pk _)]
     rw[sm];dsimp only;rw[LL rfl,e2];dsimp only;rw[ep2];dsimp only;refine KE (wpAny_isSame_ref_self (KE (K7 ?_)));simp only[Nz];exact ih (k'+1) _ (by lia) (by lia) rfl
    cases hl:t.led with
    |true=>
     simp only[MP,Li,Mb];rw[ep2,<- eb];exact step
    |false=>
     simp only[Qe,Nz];refine KE (Eu hx (λy hy=>?_) ?_)
     ·obtain⟨p,hp,rfl⟩:=Md.mp hy;have hp':p∈es.toList:=by
       have:=(O3.mp hp)
       exact O3.mpr (Array.mem_filter.mp this).1
      obtain⟨b',ky',e',hb',_⟩:=hes p hp';exact⟨b',ky',e',hb'⟩
     ·simp only[Li,Mb];rw[ep2,<- eb];exact step
 exact main 100000 0 none (LY _) (by lia) rfl
end
theorem yT {m e:Nat}{ow:Array (Option Nat)}(he:(ow.getD e (some 0)).isNone=true)(hz:ow.size=m+1):∀ (fuel L:Nat) (ip:Nat×Nat),(rp m L ip).1=e->L<fuel->∃ j,NT m ow fuel ip.1 ip.2=some j/\(ow.getD j (some 0)).isNone=true
 |0,L,ip,_,hl=>absurd hl (by lia)
 |fuel+1,L,ip,hL,hl=>by
  unfold NT;cases hf:(L0 (Ob m ip.1+1-ip.1)).find? λk=>(ow.getD (ip.1+k) (some 0)).isNone with
  |some k=>
   have hs:=List.find?_some hf;exact⟨ip.1+k,rfl,hs⟩
  |none=>
   dsimp only
   match L,hL,hl with
   |0,hL,_=>
    have hL:ip.1=e:=hL;have hr:0<Ob m ip.1+1-ip.1:=by unfold Ob;split<;>lia
    have:=List.find?_eq_none.mp hf 0 (M1.mpr hr);rw[NM,hL] at this;exact absurd he this
   |L+1,hL,hl=>
    refine yT he hz fuel L (PR m ip.1 ip.2) ?_ (by lia);have:rp m (L+1) ip=rp m L (PR m ip.1 ip.2):=t7 m L 1 ip;rw[<- this];exact hL
theorem xG {m e:Nat}{ow:Array (Option Nat)}{h:Int}(mk:iu m)(hz:ow.size=m+1)(hm:e<=m)(he:(ow.getD e (some 0)).isNone=true):∃ j,NT m ow (Ow m) (LV h%(m+1)) (LV h)=some j/\(ow.getD j (some 0)).isNone=true:=by
 have hb:LV h<2^64:=by unfold LV;lia
 have hp:(rp m 13 (LV h%(m+1),LV h)).2=0:=by
  rw[om];exact Nat.div_eq_of_lt (Ls hb (by decide))
 have hi:(rp m 13 (LV h%(m+1),LV h)).1<=m:=by
  show(_%(m+1))<=_;exact Nat.le_of_lt_succ (Nat.mod_lt _ (by lia))
 obtain⟨a,ha,ea⟩:=vP mk hi hm;refine yT he hz (Ow m) (a+13) (LV h%(m+1),LV h) ?_ (by unfold Ow;lia);rw[t7,<- Prod.eta (rp m 13 _),hp,qe];exact ea
def A_ (ow:Array (Option Nat)):List Nat:=ow.toList.filterMap id
theorem E2 {ow:Array (Option Nat)}{j k:Nat}(h:(ow.getD j (some 0)).isNone=true):(A_ (ow.setIfInBounds j (some k))).Perm (k::A_ ow):=by
 have hj:j<ow.size:=by
  by_cases hj:j<ow.size
  ·exact hj
  ·rw[Nf,PZ (by lia)] at h;cases h
 have hn:ow.toList[j]'(by simpa using hj)=none:=by
  rw[Nf,Np hj] at h
  simpa using h
 unfold A_;rw[Array.toList_setIfInBounds];have key:∀ (l:List (Option Nat)) (i:Nat) (hi:i<l.length),l[i]=none->((l.set i (some k)).filterMap id).Perm (k::l.filterMap id):=by
  intro l
  induction l with
  |nil=>intro i hi;simp at hi
  |cons x l ih=>
   intro i hi hx
   match i,hi,hx with
   |0,_,hx=>
    have hx:x=none:=hx;subst hx;exact Vc _
   |i+1,hi,hx=>
    have:=ih i (by simpa using hi) (by simpa using hx);cases x with
    |none=>exact this
    |some y=>
     show(y::(l.set i (some k)).filterMap id).Perm (k::y::l.filterMap id);exact(Vb y this).trans (List.Perm.swap _ _ _)
 exact key _ _ (by simpa using hj) hn
theorem Ef {ow:Array (Option Nat)}:(∀ e,e<ow.size->(ow.getD e (some 0)).isNone=false)->(A_ ow).length=ow.size:=λh=>by
 unfold A_;have key:∀ l:List (Option Nat),(∀ x∈l,x.isNone=false)->(l.filterMap id).length=l.length:=by
  intro l
  induction l with
  |nil=>intro _;rfl
  |cons x l ih=>
   intro hl;cases x with
   |none=>exact absurd (hl none Lr) (by simp)
   |some y=>show(y::l.filterMap id).length=_;rw[LK,ih λz hz=>hl z (Le _ hz)];rfl
 rw[key,LO];intro x hx;obtain⟨i,hi,rfl⟩:=Po hx;have hi':i<ow.size:=by simpa using hi
 have:=h i hi';rw[Nf,Np hi'] at this
 simpa using this
theorem vY {m:Nat}(mk:iu m)(hs:List Int)(hl:hs.length<=m):∃ ow,Uv m hs.toArray=some ow/\ow.size=m+1/\(A_ ow).Perm (L0 hs.length):=by
 have go:∀ (hs:List Int) (ow:Array (Option Nat)) (k:Nat),ow.size=m + 1->(A_ ow).Perm (L0 k)->k + hs.length <= m ->
   ∃ ow',(hs.foldl (init:=some (ow,k)) λacc h=>do
    let (owner,k) <- acc
    let j <- NT m owner (Ow m) (LV h%(m+1)) (LV h)
    pure (owner.setIfInBounds j (some k),k+1))=some (ow',k+hs.length)/\ow'.size=m+1/\(A_ ow').Perm (L0 (k+hs.length)):=by
  intro hs
  induction hs with
  |nil=>intro ow k hz hp _;exact⟨ow,rfl,hz,hp⟩
  |cons h hs ih=>
   intro ow k hz hp hk;rw[LK] at hk;obtain⟨e,he,hn⟩:∃ e,e<ow.size/\(ow.getD e (some 0)).isNone=true:=by
    apply Classical.byContradiction;intro hno;have:=Ef (ow:=ow) λe he=>by
     cases hc:(ow.getD e (some 0)).isNone with
     |false=>rfl
     |true=>exact absurd ⟨e,he,hc⟩ hno
    rw[hp.length_eq,N7] at this;lia
   obtain⟨j,ej,hj⟩:=xG (h:=h) mk hz (by lia) hn;obtain⟨ow',e',z',p'⟩:=ih (ow.setIfInBounds j (some k)) (k+1) (by rw[Array.size_setIfInBounds];exact hz) ((E2 hj).trans (by
    rw[N8];exact(Vb k hp).trans (List.perm_append_singleton k _).symm)) (by lia)
   refine⟨ow',?_,z',by rw[LK,show k+(hs.length+1)=k+1+hs.length by lia];exact p'⟩;rw[QT,LK,show k+(hs.length+1)=k+1+hs.length by lia,<- e']
   congr 1
   show(do let j <- NT m ow (Ow m) (LV h%(m+1)) (LV h);pure (ow.setIfInBounds j (some k),k+1))=_;rw[ej];rfl
 obtain⟨ow,e,z,p⟩:=go hs (Array.replicate (m+1) none) 0 (by simp) (by
  have:A_ (Array.replicate (m+1) none)=[]:=by
   unfold A_;rw[Array.toList_replicate];simp
  rw[this];exact Vc _) (by lia)
 rw[MA] at e p;refine⟨ow,?_,z,p⟩;unfold Uv;rw[List.foldl_toArray']
 ·rw[e];rfl
 ·rfl
theorem wY (ow:Array (Option Nat)):(L0 ow.size).map (λj=>ow.getD j none)=ow.toList:=by
 refine List.ext_getElem (by simp) λi h1 h2=>?_
 have hi:i<ow.size:=by simpa using h2
 simp[S5,hi]
theorem Eh {m finger moves:Nat}{led plain:Bool}(mk:iu m)(hs:List Int)(hl:hs.length<=m):∃ t order,Vi m finger moves led plain hs.toArray=some (t,order)/\t.mask=m/\t.dummies=#[]/\t.place.size=hs.length/\order.toList.Perm (L0 hs.length):=by
 obtain⟨ow,e,z,p⟩:=vY mk hs hl;have ho:((L0 (m+1)).filterMap λj=>(ow.getD j none).map (j,·)).map (·.2)=A_ ow:=by
  unfold A_;rw[<- wY ow,z,TX,List.map_filterMap];have fe:(λj=>Us (·.2) (Us (λx=>(j,x)) (ow.getD j none)))=(id ∘ λj=>ow.getD j none):=by
   funext j
   show Us (·.2) (Us (λx=>(j,x)) (ow.getD j none))=ow.getD j none;cases ow.getD j none<;>rfl
  rw[<- fe]
 have hlen:((L0 (m+1)).filterMap λj=>(ow.getD j none).map (j,·)).length=hs.length:=by
  have:=NE P7 ho;rw[K',p.length_eq,N7] at this;exact this
 refine⟨_,_,by unfold Vi;rw[e];rfl,rfl,rfl,?_,?_⟩
 ·rw[Lh,K'];exact hlen
 ·rw[QW,ho];exact p
end TR
namespace PySem
section
variable {prog:Lz}{w:LX}{K:Type}[DecidableEq K]{kd:KeyKind prog w K}{A:L9}{E:K9->K_->Prop}{s:K_}
theorem Ho {n:Nat}{ks:List (List K)}{a:Lg}{Q:Bool->K_->Prop}(hk:c8 kd s.heap ks a)(h:∀ b,Q b s):Lm (LJ prog w) A (R6 (n+2) (.ref a)) Q E s:=by
 have hT:=hk.typeIs;obtain⟨o,items,m,ho,hc,hd,hi⟩:=id hk;unfold R6;refine KE (NA hT N4.lookup ?_);dsimp only;refine KE (Mi ho hd ?_);refine KE ?_;show Lm _ _ (forIn items _ _) _ _ s;rw[<- ML];refine M4 _ (λbA r s'=>s'=s/\(r.1=none\/∃ b,r.1=some b)/\∃ left,bQ kd s.heap left bA) _ ?_ ?_ _ _ ⟨rfl,.inl rfl,ks,hi⟩
 ·rintro v bA r s' ⟨rfl,hr,left,hl⟩;cases hl with
  |@cons k c ks' _ h1 hl'=>
   refine KE (Fe (n:=n) h1 λb=>?_);cases b with
   |true=>
    simp only[MP,Li,Mb];exact K7 ⟨rfl,.inl rfl,ks',hl'⟩
   |false=>
    simp only[Qe,Nz];exact K7 (K7 (h _))
 ·rintro⟨r1,r2⟩ s' ⟨rfl,hr,_⟩;rcases hr with hr|⟨b,hr⟩<;>simp only at hr<;>subst hr
  ·exact K7 (h _)
  ·exact K7 (h _)
end
end PySem
namespace TR
open PySem PySem.Spec PyProof.Rows L2
section
variable {prog:Lz}{w:LX}{K:Type}[DecidableEq K]{kd:QL prog w K}{A:L9}{E:K9->K_->Prop}{s:K_}{h h':Ng}
theorem jk {ks:List (List K)}{a:Lg}(k:∀ b o,h.get? b=some o->(∃ xs n,o.data=.seq xs n)->h'.get? b=some o)(x:c8 kd h ks a):c8 kd h' ks a:=by
 obtain⟨o,items,n,ho,hc,hd,hi⟩:=x;exact⟨o,items,n,k _ _ ho ⟨_,_,hd⟩,hc,hd,hi.map λks b ⟨o,its,m,a1,a2,a3,a4⟩=>⟨o,its,m,k _ _ a1 ⟨_,_,a3⟩,a2,a3,a4⟩⟩
def jV (kd:QL prog w K)(h:Ng)(a:Lg)(ks:List (List (List K))):Prop:=∃ o es ep t,h.get? a=some o/\o.ExactSet/\o.data=.set es ep t/\t.fits es.size=true/\t.dummies=#[]/\iu t.mask/\es.size=ks.length/\t.place.size*5<t.mask*3 /\
 ∀ e∈es.toList,∃ b ky,e.2=.ref b/\c8 kd h ky b/\ky∈ks
theorem xX {α:Type}{xs:Array α}{p:Nat}{x y:α}(h:y∈(M_ xs p x).toList):y=x\/y∈xs.toList:=by
 rw[u8] at h;rcases Mm.mp h with h|h
 ·exact .inr (List.mem_of_mem_take h)
 ·rcases Ln.mp h with h|h
  ·exact .inl h
  ·exact .inr (List.mem_of_mem_drop h)
end
section
variable {prog:Lz}{w:LX}{K:Type}[DecidableEq K]{kd:QL prog w K}{A:L9}{E:K9->K_->Prop}{s:K_}
theorem C1 (a:Lg) (wanted:Nat):setRelay a wanted=(do
  let (es,_,t) <- setState a
  if OF wanted>Ly then unsupported "set:memory"
  let (es,t) <- (do
   let some (t,order):=t.relaid (es.map (·.1)) wanted|unsupported "internal:set-table-without-room"
   let es':=order.filterMap (es[·]?)
   if es'.size != es.size then unsupported "internal:set-table-lost-an-element"
   pure (es',t))
  storeSet a es t):=rfl
theorem wZ {t:RZ}{j:Nat}(nd:t.dummies=#[]):(t.put j).1.mask=t.mask/\(t.put j).1.dummies=#[]/\(t.put j).1.place.size=t.place.size+1:=by
 unfold SetTable.put;dsimp only;refine⟨rfl,?_,?_⟩
 ·rw[nd,show SV #[] j=false by unfold SV;simp];rfl
 ·unfold M_;simp;lia
theorem wH {m n:Nat}(mk:iu m)(h1:n*5<m*3)(h2:(n+1)*5>=m*3)(h3:n<64):iu (OF (O_ (n+1))-1)/\(n+1)*5<(OF (O_ (n+1))-1)*3/\OF (O_ (n+1))<=1000:=by
 rcases mk with rfl|rfl|rfl
 ·obtain rfl:n=4:=by lia
  exact⟨.inr (.inl (by decide)),by decide,by decide⟩
 ·obtain rfl:n=18:=by lia
  exact⟨.inr (.inr (by decide)),by decide,by decide⟩
 ·lia
theorem rF {α:Type}{xs:Array α}{order:Array Nat}(h:order.toList.Perm (L0 xs.size)):(order.filterMap (xs[·]?)).size=xs.size:=by
 have e:(order.filterMap (xs[·]?)).toList=order.toList.filterMap (xs[·]?):=by simp
 have q:=(h.filterMap (xs[·]?)).length_eq;rw[<- e,LO] at q;rw[q];have:=NE P7 (iJ xs.toList);rw[LO] at this
 simpa using this
theorem B6 {α:Type}{xs:Array α}{order:Array Nat}{y:α}(h:y∈(order.filterMap (xs[·]?)).toList):y∈xs.toList:=by
 have e:(order.filterMap (xs[·]?)).toList=order.toList.filterMap (xs[·]?):=by simp
 rw[e] at h;obtain⟨i,_,hi⟩:=OD.mp h;exact O3.mpr (Array.mem_of_getElem? hi)
theorem Gv {a x:Lg}{kx:List (List K)}{ks:List (List (List K))}{hh:Int}{Q:Bool->K_->Prop} (hu:A.units + 1 < cLine) (hS:jV kd s.heap a ks) (hx:c8 kd s.heap kx x) (hn:kx ∉ ks) (hl:ks.length < 63)
  (h:∀ h',Mz a s.heap h'->jV kd h' a (ks++[kx])->Q true { s with heap:=h' }):Lm (LJ prog w) A (setAddHashed a (.ref x) hh) Q E s:=by
 obtain⟨o,es,ep,t,ho,hX,hd,hf,nd,mk,hz,hr,hes⟩:=hS;have hfz:t.place.size=es.size/\t.place.size<=t.mask:=by
  unfold R0 QM at hf;rw[nd] at hf
  simpa using hf
 have m7:7<=t.mask:=by rcases mk with e|e|e<;>lia
 unfold setAddHashed;refine Mp ?_;show Lm _ _ (setAddHashedIn a (.ref x) hh (99999+1)) _ _ s;unfold setAddHashedIn;refine KE (OZ ho hd hf ?_);dsimp only;rw[show byScan (.ref x) es=false from rfl];simp only[Li,Mb];refine KE (A4 hu ho hd hf nd mk hx (λe he=>?_) λj hj=>?_)
 ·obtain⟨b,ky,e1,e2,e3⟩:=hes e he;exact⟨b,ky,e1,e2,λz=>hn (by rw[<- z];exact e3)⟩
 dsimp only;refine KE (OZ ho hd hf ?_);dsimp only;obtain ⟨pm,pd,pz⟩:=wZ (j:=j) nd;have fin:∀ b:Bool,Lm (LJ prog w) A (do
   storeSet a (M_ es (t.put j).2 (hh,.ref x)) (if b=true then(t.put j).1 else { (t.put j).1 with plain:=false })
   if(!false&&(if b=true then(t.put j).1 else { (t.put j).1 with plain:=false }).tooFull)=true then do
    setRelay a (O_ (es.size+1))
    pure true
   else pure true) Q E s:=λb=>?_
 ·split
  ·exact KE (Ho (n:=6) hx λb=>fin b)
  ·exact KE (K7 (fin true))
 obtain⟨t2,et,m2,d2,p2⟩:∃ t2,(if b=true then(t.put j).1 else { (t.put j).1 with plain:=false })=t2/\t2.mask=t.mask/\t2.dummies=#[]/\t2.place.size=t.place.size+1:=by
  cases b
  ·exact⟨_,rfl,pm,pd,pz⟩
  ·exact⟨_,rfl,pm,pd,pz⟩
 rw[et];have esz:(M_ es (t.put j).2 (hh,LH x)).size=es.size+1:=by unfold M_;simp;lia
 have hmem:∀ e∈(M_ es (t.put j).2 (hh,LH x)).toList,∃ b ky,e.2=.ref b/\c8 kd s.heap ky b/\ky∈ks++[kx]:=λe he=>by
  rcases xX he with rfl|he
  ·exact⟨x,kx,rfl,hx,by simp⟩
  ·obtain⟨b,ky,e1,e2,e3⟩:=hes e he;exact⟨b,ky,e1,e2,Nl _ e3⟩
 generalize M_ es (t.put j).2 (hh,LH x)=es2 at esz hmem;refine KE (wpAny_storeSet_of ho hd ?_ (by rw[Nk];lia));have q1:=MN (S6 es2 t2) ho (by rw[putSet_of _ _ hd];rfl);rw[putSet_of _ _ hd] at q1;have sb:=Mc s.heap a (S6 es2 t2);have keepT:∀ {h1:Ng},Mz a s.heap h1->∀ b o',s.heap.get? b=some o'->(∃ xs n,o'.data=.seq xs n)->h1.get? b=some o':=λ{h1} sb b o' e ⟨xs,n,z⟩=>by
  refine(sb.2 b λy=>?_).trans e;rw[y,ho] at e;cases e;rw[hd] at z;cases z
 have f2:t2.fits es2.size=true:=by
  unfold R0 QM;rw[d2,p2,m2,esz,hfz.1];simp;lia
 have tf:t2.tooFull=decide ((es.size+1)*5>=t.mask*3):=by
  unfold SetTable.tooFull QM;rw[d2,p2,m2,hfz.1];rfl
 have lz:(ks++[kx]).length=es.size+1:=by rw[LC,hz];rfl
 simp only[Qe,RL]
 by_cases hc:(es.size+1)*5>=t.mask*3
 ·rw[LL (by rw[tf];exact Lj hc)];obtain⟨mk',r',sz'⟩:=wH mk (by lia) hc (by lia);obtain⟨t3,order,eL,m3,d3,p3,pe⟩:=Eh (finger:=t2.finger) (moves:=t2.movedTo (OF (O_ (es.size+1))-1)) (led:=t2.led) (plain:=t2.plain) mk' (es2.toList.map (·.1)) (by rw[K',LO,esz];lia);have er:t2.relaid (es2.map (·.1)) (O_ (es.size+1))=some (t3,order):=by
   unfold SetTable.relaid;rw[<- eL]
   congr 1
   show es2.map (·.1)=(es2.toList.map (·.1)).toArray;rw[<- US,O4]
  rw[K',LO] at p3 pe;rw[C1];refine KE (KE (OZ q1 rfl f2 ?_));dsimp only;rw[LB (by rw[Nk];lia)];rw[er];dsimp only;rw[rF pe];simp only[bne_self_eq_false,Li,Mb];refine KE (K7 ?_);dsimp only;have z3:=rF pe;have hm3:∀ e∈(order.filterMap (es2[·]?)).toList,∃ b ky,e.2=.ref b/\c8 kd s.heap ky b/\ky∈ks++[kx]:=λe he=>hmem e (B6 he)
  generalize order.filterMap (es2[·]?)=es3 at z3 hm3;refine wpAny_storeSet_of q1 rfl ?_ (by rw[z3,esz,Nk];lia);have q3:=MN (S6 es3 t3) q1 (by rw[putSet_of _ _ rfl];rfl);rw[putSet_of _ _ rfl] at q3;have sb3:Mz a s.heap ((s.heap.update a (S6 es2 t2)).update a (S6 es3 t3)):=sb.trans (Mc _ a _);have f3:t3.fits es3.size=true:=by
   unfold R0 QM;rw[d3,p3,m3,z3];simp;lia
  exact K7 (h _ sb3 ⟨_,es3,ep+1+1,t3,q3,hX,rfl,f3,d3,by rw[m3];exact mk',by rw[z3,esz,lz],by rw[p3,m3,esz];exact r',λe he=>by
   obtain⟨b,ky,e1,e2,e3⟩:=hm3 e he;exact⟨b,ky,e1,jk (keepT sb3) e2,e3⟩⟩)
 ·rw[LB (by rw[tf,No];exact hc)];exact K7 (h _ sb ⟨_,es2,ep+1,t2,q1,hX,rfl,f2,d2,by rw[m2];exact mk,by rw[esz,lz],by rw[p2,m2,hfz.1];lia,λe he=>by
   obtain⟨b,ky,e1,e2,e3⟩:=hmem e he;exact⟨b,ky,e1,jk (keepT sb) e2,e3⟩⟩)
end
section
variable {pr:Lz}{wo:LX}{K:Type}[DecidableEq K]{kd:QL pr wo K}{Ar:L9}{Ex:K9->K_->Prop}{st:K_}
theorem ot {g g':Ng}{a:Lg}{ks:List (List (List K))}(h:jV kd g a ks)(k:∀ b o,g.get? b=some o->b=a\/(∃ xs n,o.data=.seq xs n)->g'.get? b=some o):jV kd g' a ks:=by
 obtain⟨o,es,ep,t,ho,r1,r2,r3,r4,r5,r6,r7,r8⟩:=h;exact⟨o,es,ep,t,k _ _ ho (.inl rfl),r1,r2,r3,r4,r5,r6,r7,λe he=>by
  obtain⟨b,ky,e1,e2,e3⟩:=r8 e he;exact⟨b,ky,e1,jk (λb o q z=>k b o q (.inr z)) e2,e3⟩⟩
theorem vp {g:Ng}{a:Lg}{led:Bool}(h:g.get? a=some { cls:=.type "set",dict:=none,data:=.set #[] 0 (.fresh 0 0 led) }):jV kd g a []:=
 ⟨_,#[],0,.fresh 0 0 led,h,⟨rfl,rfl,rfl⟩,rfl,rfl,rfl,.inl rfl,rfl,by show 0*5<7*3;lia,λ_ h=>by cases h⟩
theorem AK {l I S:Lg}{its:Array K9}{ks:List (List (List K))}{R:U7->K_->Prop} (hh:Ar.handled=none) (hu:Ar.units + 2 < cLine) (hlI:l ≠ I) (hSI:S ≠ I) (hSl:S ≠ l)
  (hq:∀ b o,st.heap.get? b=some o->(∃ xs n,o.data=.seq xs n)->b≠S/\b≠I)(hsz:its.size=ks.length)(hi:∀ (i:Nat) (v:K9),its[i]?=some v->∃ b kx,v=LH b/\ks[i]?=some kx/\c8 kd st.heap kx b)(hnd:ks.Nodup)(hb:ks.length<63)
  (hR:∀ g tk,jV kd g S ks->(∀ b o,b≠S->b≠I->st.heap.get? b=some o->g.get? b=some o)->R (.ok (.ret .none)) { st with heap:=g,toks:=tk }):
  ∀ (k i:Nat) (g:Ng) (tk:Nat),ks.length-i=k->i<=ks.length->g.IsListIter I l i->g.IsList l its->jV kd g S (ks.take i) ->
   (∀ b o,b≠S->b≠I->st.heap.get? b=some o->g.get? b=some o) ->
   Oo (LJ pr wo) Ar (.builtin "set.update.loop" ⟨[.ref S,.ref I],[]⟩) R { st with heap:=g,toks:=tk }:=by
 intro k
 induction k with
 |zero=>
  intro i g tk hk hi' hit hl hs up;have hin:i=ks.length:=by lia
  refine M2 RP ?_;rw[MK Pz _];show Lm _ Ar.in1 (Pw (.ref I)>>=_) _ _ _;obtain⟨oI,qI,rI⟩:=id hit;refine KE (wpAny_pyNext_list_end (by simp[hh]) hit hl (by simp;lia) λg' ext=>?_);rw[hin,Pf] at hs;refine K7 (hR g' tk (ot hs λb o e z=>ext b o ?_ e) (λb o h1 h2 e=>ext b o h2 (up b o h1 h2 e)));rintro rfl;rcases z with z|⟨xs,n,z⟩
  ·exact hSI z.symm
  ·rw[qI] at e;cases e;rw[rI.2] at z;cases z
 |succ k ih=>
  intro i g tk hk hi' hit hl hs up;have hlt:i<ks.length:=by lia
  obtain⟨v,hv⟩:∃ v,its[i]?=some v:=⟨its[i]'(by lia),by simp[hsz,hlt]⟩
  obtain⟨b,kx,rfl,hkx,hx⟩:=hi i v hv;refine M2 RP ?_;rw[MK Pz _];show Lm _ Ar.in1 (Pw (.ref I)>>=_) _ _ _;obtain⟨oI,qI,rI⟩:=id hit;refine KE (Sw hit hl hv λg' hit' sb=>?_);show Lm _ Ar.in1 (holding [LH b] (setAdd S (.ref b))>>=_) _ _ _;refine KE (Mp ?_);have upI:∀ b o,g.get? b=some o->b=S\/(∃ xs n,o.data=.seq xs n)->g'.get? b=some o:=λb o e z=>by
   rw[sb.2 b ?_]
   ·exact e
   ·rintro rfl;rcases z with z|⟨xs,n,z⟩
    ·exact hSI z.symm
    ·rw[qI] at e;cases e;rw[rI.2] at z;cases z
  have hx':c8 kd g' kx b:=jk (λb o e z=>upI b o (up b o (hq b o e z).1 (hq b o e z).2 e) (.inr z)) hx;have hs':jV kd g' S (ks.take i):=ot hs upI;unfold setAdd;refine Mp (KE (yS (kd:=kd) (A:=Ar.in1) hu (s:={ st with heap:=g',toks:=tk }) hx' ?_));have et:ks.take (i+1)=ks.take i++[kx]:=by rw[List.take_succ,hkx];rfl
  have hn:kx∉ks.take i:=λz=>by
   have p:=Um.mp (et▸(Uq (i+1) ks).nodup hnd);exact p.2.2 kx z kx (by simp) rfl
  refine Gv (kd:=kd) (A:=Ar.in1) hu (s:={ st with heap:=g',toks:=tk+lh kx }) hs' hx' hn (by rw[L5];lia) λg2 sb2 hs2=>?_
  rw[<- et] at hs2;refine K7 ⟨Op Pz _,ih (i+1) g2 (tk+lh kx) (by lia) hlt ?_ ?_ hs2 (λb o h1 h2 e=>?_)⟩
  ·obtain⟨o,q,r⟩:=hit';exact⟨o,by rw[sb2.2 I (NF hSI)];exact q,r⟩
  ·obtain⟨o,q,r⟩:=hl;exact⟨o,by rw[sb2.2 l (NF hSl)];rw[show g'.get? l=g.get? l from sb.2 l hlI];exact q,r⟩
  ·rw[sb2.2 b h1];show g'.get? b=some o;rw[sb.2 b h2];exact up b o h1 h2 e
theorem AJ {l:Lg}{its:Array K9}{ks:List (List (List K))}{Q:K9->K_->Prop} (hh:Ar.handled=none) (hu:Ar.units + 9 < cLine) (hl:st.heap.IsList l its) (hsz:its.size=ks.length) (hi:∀ (i:Nat) (v:K9),its[i]?=some v->∃ b kx,v=LH b/\ks[i]?=some kx/\c8 kd st.heap kx b) (hnd:ks.Nodup) (hb:ks.length < 63)
  (h:∀ (g:Ng) (tk:Nat),jV kd g st.heap.objs.size ks->(∀ b o,st.heap.get? b=some o->g.get? b=some o)->Q (.ref st.heap.objs.size) { st with heap:=g,toks:=tk }):
  Lm (LJ pr wo) Ar (call (.type "set") [.ref l]) Q Ex st:=by
 obtain⟨c,tl,hmro⟩:=OL.mro;have hmade:=OL.made;have hsub:=OL.sub;refine QO (SW ?_);show Lm _ _ (callAny (.type "set") _) _ _ _;refine K7 ⟨TQ _ (by decide +kernel),M2 F.entry_type_call ?_⟩;rw[Around.under_plain (weight_type_call_type "set" [.ref l] []) rfl];have h1:=OL.notType;have h2:=OL.canCreate;have hct:=F.typeCall_set_1 (.ref l)
 repeat (any_goals (first|assumption|wp_step))
 refine Pu (zy (pr:=pr) (wo:=wo) (Ex:=Ex) (.ref l) (Q₁:=λobj s₁=>obj=.ref st.heap.objs.size/\s₁={ st with heap:=st.heap.push { cls:=.type "set",dict:=none,data:=.set #[] 0 (.fresh 0 0 (!FY wo)) } }) ⟨rfl,rfl⟩) λr s₁ hr=>?_
 cases r with
 |error e=>exact hr
 |ok fl=>
  cases fl with
  |ret obj=>
   obtain⟨rfl,rfl⟩:=hr;have hS:(st.heap.push { cls:=.type "set",dict:=none,data:=.set #[] 0 (.fresh 0 0 (!FY wo)) }).get? st.heap.objs.size=some { cls:=.type "set",dict:=none,data:=.set #[] 0 (.fresh 0 0 (!FY wo)) }:=Ld _ rfl;have hz:(st.heap.push { cls:=.type "set",dict:=none,data:=.set #[] 0 (.fresh 0 0 (!FY wo)) }).objs.size=st.heap.objs.size+1:=Mw _ _;have up0:∀ b o,st.heap.get? b=some o->(st.heap.push { cls:=.type "set",dict:=none,data:=.set #[] 0 (.fresh 0 0 (!FY wo)) }).get? b=some o:=λb o e=>K6 _ e
   generalize st.heap.push { cls:=.type "set",dict:=none,data:=.set #[] 0 (.fresh 0 0 (!FY wo)) }=g1 at hS hz up0 ⊢;have hT:T7 { st with heap:=g1 } (.ref st.heap.objs.size) "set":=⟨_,hS,rfl⟩
   have hli:=OL.init.lookup;have hbi:=OL.init.bind (.ref st.heap.objs.size)
   repeat (any_goals (first|assumption|wp_step))
   refine Pu (codeAny_call_builtin (R:=wants (fun r s₂=>r=.none/\∃ g tk,s₂={ st with heap:=g,toks:=tk }/\jV kd g st.heap.objs.size ks /\
     (∀ b o,st.heap.get? b=some o->g.get? b=some o)) Ex) OL.init.plain F.entry_set_init (check_set_init_1 hT ?_)) λr₂ s₂ hr₂=>?_
   ·have hl1:g1.IsList l its:=by obtain⟨o,q,r⟩:=hl;exact⟨o,up0 _ _ q,r⟩
    have hlS:l<st.heap.objs.size:=by obtain⟨o,q,r⟩:=hl;exact Lb q
    obtain⟨ol,hol,hcl,nl,hdl⟩:=id hl1;obtain⟨ocls,odict,odata,oslots⟩:=ol;simp only at hcl hdl;subst hcl;subst hdl;have hsls:=F.sub_list_set;have hslf:=F.sub_list_frozenset;have hne:(Oy "list"==Oy "dict")=false:=by decide
    unfold NU.«set.__init__» noKeywords Builtin.Frozenset.updateFrom;generalize hPI:UR=PI
    wp_walk
    subst hPI;refine Na hl1 ?_;refine KE (wpAny_runValue ?_);have up1:∀ b o,g1.get? b=some o->(g1.push { cls:=.type "list_iterator",data:=.fields #[.ref l,.int 0 0] }).get? b=some o:=λb o e=>K6 _ e
    have hl1s:l<g1.objs.size:=by rw[hz];exact Mr hlS
    have hSs:st.heap.objs.size<g1.objs.size:=by rw[hz];exact Ou _
    refine AK (kd:=kd) (st:={ st with heap:=g1 }) (l:=l) (I:=g1.objs.size) (S:=st.heap.objs.size) (by simp[hh]) (Nh (by show Ar.units+1+1+2<=Ar.units+9;lia) hu) (Lp hl1s) (Lp hSs) (Ny hlS) (λb o e ⟨xs,n,z⟩=>⟨?_,Lp (Lb e)⟩) hsz (λi v hv=>?_) hnd hb (λg tk a1 a2=>?_)
     (ks.length-0) 0 _ st.toks rfl (LY _) ⟨_,Ld _ rfl,rfl,rfl⟩ (hl1.push _) (vp (up1 _ _ hS)) (λb o _ _ e=>up1 b o e)
    ·rintro rfl;rw[show g1.get? st.heap.objs.size=_ from hS] at e;cases e;cases z
    ·obtain⟨b,kx,e1,e2,e3⟩:=hi i v hv;exact⟨b,kx,e1,e2,jk (λb o e _=>up0 b o e) e3⟩
    show Lm _ _ _ _ _ _;refine K7 ?_;show Lm _ _ (ret Ma) _ _ _;refine K7 ⟨rfl,g,tk,rfl,a1,λb o e=>?_⟩;have lb:=Lb e;exact a2 b o (Lp lb) (Lp (Nat.lt_trans lb hSs)) (up0 b o e)
   ·cases r₂ with
    |error e=>exact hr₂
    |ok fl₂=>
     cases fl₂ with
     |ret r=>
      obtain⟨rfl,g,tk,rfl,a1,a2⟩:=hr₂
      repeat (any_goals (first|assumption|wp_step))
      exact h _ _ a1 a2
     |_=>exact hr₂.elim
  |_=>exact hr.elim
end
section
variable {X:Cx}{K:HD}
theorem _root_.L2.Room.u9 {k:Nat}(r:Room k A):A.units+9<cLine:=Nh (by lia) r.units
def KW (K:HD)(ta:TA):TE:=λσ H Q=>ta σ H λvs H1=>∃ (q:Lg) (cs:List (Q3×Lg)),vs=[.ref q]/\H1 q=some (.lst (cs.map λp=>V.ref p.2))/\wq K H1 cs/\cs.length<63/\Q (.int cs.length) H1
theorem wC {e:Nq}{ta:TA}{p p2 pos pos2:Pos} (hc:X.calm=true) (hu:X.A.units + 9 < cLine) (hg:Gl X "len") (hm:X.mg "len"=none) (hg2:Gl X "set") (hm2:X.mg "set"=none) (ha:WA X [e] ta)
  (hs:LN [e] X.env=(false,O7 e X.env)::LN [] X.env:=by rfl)(hs2:(QC pos2 (LN [] X.env)).any (·.1)=false:=by rfl)
  (hs3:LN [Expr.Call (.Name "set" p2) [e] [] pos2] X.env=[(false,O7 (.Call (.Name "set" p2) [e] [] pos2) X.env)]:=by rfl):
  WE X (.Call (.Name "len" p) [.Call (.Name "set" p2) [e] [] pos2] [] pos) (KW K ta):=by
 have ha:=ha.go;refine⟨?_⟩;intro pins s σ H Q I h;refine MX (fW I hg hm dO ?_);refine Qp ?_ hs3 rfl;rw[hs3];show Lm _ _ (spliced ((false,O7 (.Call (.Name "set" p2) [e] [] pos2) X.env)::[])) _ _ s;refine TN ?_;refine Call_ (fW I hg2 hm2 G1 (Ni (bP (ha pos2 pins s σ H _ I h) λus s1 ⟨vs,H1,I1,r1,q1⟩=>?_) hs hs2));obtain⟨q,cs,rfl,hq,hk,hl,k⟩:=q1;cases r1 with
 |cons ru rt=>
 cases rt;cases ru;obtain⟨hsz,its,n,rv,po⟩:=(show bv X.prog X.w H1 s1.heap q (.lst (cs.map λp=>V.ref p.2)) from I1.hok q _ hq)
 have hln:its.length=cs.length:=by have:=aF.length rv;simpa using this.symm
 refine AJ (kd:=bh X.prog X.w) (ks:=cs.map λp=>cK p.1) (its:=its.toArray) (I1.ok.hd hc) hu ⟨_,po,rfl,n,rfl⟩ (by simp[hln]) (λi v hv=>?_) ?_ (by rw[K'];exact hl) λg tk hS up=>Ue ?_
 ·have hv':its[i]?=some v:=by simpa using hv
  have hi:i<cs.length:=by rw[<- hln];exact(Ll.mp hv').1
  have rr:=wR rv (i:=i) (x:=V.ref (cs[i]).2) (by rw[Lk,LS hi];rfl) hv';cases rr;exact⟨_,cK (cs[i]).1,rfl,by rw[Lk,LS hi];rfl,Ck I1.hok (hk.1 _ (Qz hi))⟩
 ·have e:(cs.map λp=>cK p.1)=(cs.map (·.1)).map cK:=by rw[NK];rfl
  rw[e];exact Uh cK (λa b n z=>n (wn z)) hk.2
 ·obtain⟨o,es,ep,t,ho,hX,hd,hf,_,_,hz,_⟩:=hS;rw[K'] at hz;refine call_len_set (s:={ s1 with heap:=g,toks:=tk }) ho hX hd hf (by rw[hz];lia) ?_;have J:aD X pins σ H1 { s1 with heap:=g,toks:=tk+1+1 }:=I1.kept (t':=tk+1+1) up;rw[hz];exact⟨.int cs.length,_,J,⟨_,rfl⟩,k⟩
end
def hU (q:Rat)(D:Int):Prop:=∃ x:Int,q*(D:Rat)=(x:Rat)
theorem hU.int (n D:Int):hU (n:Rat) D:=⟨n*D,by rw[Lw]⟩
theorem hU.add {p q:Rat}{D:Int}(a:hU p D)(b:hU q D):hU (p+q) D:=by
 obtain⟨x,hx⟩:=a;obtain⟨y,hy⟩:=b;exact⟨x+y,by rw[MO,<- hx,<- hy];grind⟩
theorem hU.mulI {p:Rat}{D:Int}(a:hU p D)(n:Int):hU (p*(n:Rat)) D:=by
 obtain⟨x,hx⟩:=a;exact⟨x*n,by rw[Lw,<- hx];grind⟩
theorem hU.subI {p:Rat}{D:Int}(a:hU p D)(n:Int):hU (p-(n:Rat)) D:=by
 obtain⟨x,hx⟩:=a;exact⟨x-n*D,by rw[Mn,Lw,<- hx];grind⟩
theorem hU.more {p:Rat}{D:Int}(a:hU p D)(E:Int):hU p (D*E):=by
 obtain⟨x,hx⟩:=a;exact⟨x*E,by rw[Lw,Lw,<- hx];grind⟩
theorem hU.more' {p:Rat}{D:Int}(a:hU p D)(E:Int):hU p (E*D):=by rw[ON];exact a.more E
theorem hU.den (q:Rat):hU q (q.den:Int):=⟨q.num,by
 have e:=gE q;have h:(((q.den:Int):Int):Rat)≠0:=gK (by have:=q.den_pos;lia);generalize (((q.den:Int):Int):Rat)=d at *;grind⟩
theorem v_ {n:Nat}(h2:2<=n)(h7:n<=7)(x:Rat):hU (fC n x) ((x.den:Int)*dW n):=by
 have d0:(x.den:Int)≠0:=by have:=x.den_pos;lia
 have a0:dW n≠0:=by have:=(ik h2 h7).1;lia
 have z:(((x.den:Int)*dW n:Int):Rat)≠0:=gK (Mf d0 a0);refine hU.subI ⟨x.num,?_⟩ _;unfold cH;exact Rc z
theorem hU.bq {q:Rat}{D:Int}{m:Nat}(h:hU q D)(d0:D≠0)(sd:Sm m D)(q0:0<=q)(q1:q<=((1000:Int):Rat)):Bq (m+10) q:=by
 obtain⟨x,hx⟩:=h;have D0:=gK d0;have e:q=(x:Rat)/(D:Rat):=by
  rw[<- hx];generalize (D:Rat)=d at *;grind
 have sx:Sm (m+10) x:=by
  have up:∀ {D x:Int},0<D->q*(D:Rat)=(x:Rat)->0<=x/\x<=1000*D:=λ{D x} hD hx=>by
   have hD':(0:Rat)<=(D:Rat):=Re.mpr (by lia);have l1:((0:Int):Rat)<=(x:Rat):=by rw[<- hx];exact Rat.mul_nonneg q0 hD'
   have l2:(x:Rat)<=((1000*D:Int):Rat):=by rw[<- hx,Lw];exact Qr q1 hD'
   exact⟨OB.mp l1,OB.mp l2⟩
  unfold Sm at *;have p:2^(m+10)=1024*2^m:=by rw[Nat.pow_add,SK]
  rw[p];generalize 2^m=P at *;rcases Int.lt_or_gt_of_ne d0 with hD|hD
  ·obtain⟨a,b⟩:=up (D:=-D) (x:=-x) (by lia) (by rw[Rat.intCast_neg,Rat.intCast_neg,<- hx];grind);lia
  ·obtain⟨a,b⟩:=up hD hx;lia
 rw[e];exact eV d0 sx (sd.mono (by lia))
structure Cd (D:Int)(e:Q3):Prop where
 ne:D≠0
 a:hU e.a D
 b:hU e.b D
 c:hU e.c D
theorem Cd.bd {D:Int}{c:Q3}{m:Nat}(h:Cd D c)(sd:Sm m D)(w:c.Wi ((1000:Int):Rat)):c.Bd (m+10):=⟨h.a.bq h.ne sd w.a0 w.a1,h.b.bq h.ne sd w.b0 w.b1,h.c.bq h.ne sd w.c0 w.c1⟩
theorem ED {c:Q3}(h:c.Wi ((60:Int):Rat)):c.Wi ((1000:Int):Rat):=by
 have k:((60:Int):Rat)<=((1000:Int):Rat):=OB.mpr (by decide);exact⟨h.a0,UQ h.a1 k,h.b0,UQ h.b1 k,h.c0,UQ h.c1 k⟩
theorem HS {c:Q3}{k:Nat}(h:c.Bd k):∃ D,Cd D c/\Sm (3*k) D:=by
 have pos:∀ q:Rat,(q.den:Int)≠0:=λq=>by have:=q.den_pos;lia
 refine⟨(c.a.den:Int)*c.b.den*c.c.den,⟨Mf (Mf (pos _) (pos _)) (pos _),((hU.den _).more _).more _,((hU.den _).more' _).more _,(hU.den _).more' _⟩,?_⟩;exact((h.a.sd.mul h.b.sd).mul h.c.sd).mono (by lia)
theorem Jq {n k:Nat}{f:Kn->R3}{c:Q3}(h2:2<=n)(h7:n<=7)(wi:c.Wi ((60:Int):Rat))(bd:c.Bd k):∃ D,Cd D (W4 n f c)/\Sm (3*k+21) D:=by
 have R:=CN h2 h7 wi;have hb:ph n (ui n c):=by
  have la:=cR (n:=n) (x:=c.a) ⟨h2,h7,wi.a0,wi.a1⟩;have lb:=cR (n:=n) (x:=c.b) ⟨h2,h7,wi.b0,wi.b1⟩;have lc:=cR (n:=n) (x:=c.c) ⟨h2,h7,wi.c0,wi.c1⟩;exact jH h2 (bV.mpr ⟨by show cM n c.a<n-1;lia,by show cM n c.b<n-1;lia,by show cM n c.c<n-1;lia⟩)
 obtain⟨w1,w2,w3⟩:=tN (f:=f) R h2 h7 hb;obtain⟨a0,_,a1⟩:=ik h2 h7;have sa:Sm 7 (dW n):=by unfold Sm;lia
 have pos:∀ q:Rat,(q.den:Int)*dW n≠0:=λq=>Mf (by have:=q.den_pos;lia) (by lia)
 have all:∀ j,hU (jT n c j) ((c.a.den:Int)*dW n*(c.b.den*dW n)*(c.c.den*dW n)):=λj=>by
  match j with
  |0=>exact((v_ h2 h7 _).more _).more _
  |1=>exact((v_ h2 h7 _).more' _).more _
  |_+2=>exact(v_ h2 h7 _).more' _
 refine⟨(c.a.den:Int)*dW n*(c.b.den*dW n)*(c.c.den*dW n),⟨Mf (Mf (pos _) (pos _)) (pos _),?_,?_,?_⟩,?_⟩
 ·rw[w1];exact((hU.int _ _).add ((all _).mulI _)).add ((all _).mulI _) |>.add ((all _).mulI _)
 ·rw[w2];exact((hU.int _ _).add ((all _).mulI _)).add ((all _).mulI _) |>.add ((all _).mulI _)
 ·rw[w3];exact((hU.int _ _).add ((all _).mulI _)).add ((all _).mulI _) |>.add ((all _).mulI _)
 ·exact(((bd.a.sd.mul sa).mul (bd.b.sd.mul sa)).mul (bd.c.sd.mul sa)).mono (by lia)
theorem GI {n m:Nat}{f:Kn->R3}{e c:Q3}{D:Int}(h2:2<=n)(h7:n<=7)(wt:Be n f)(be:e.Bd 250)(cd:Cd D e)(sd:Sm m D)(h:c∈gf n f e (bD n)):∃ D',Cd D' c/\Sm (m+60) D':=by
 obtain⟨⟨t,o⟩,hp,e1⟩:=(pK _).mp h;have pm:=fY.mp hp;have ho:o∈dG:=pm.2;have hb:ph n t:=jH h2 pm.1;have mem:∀ {i:Nat},i<=3->(f (am t (dC o i))).Wt:=λhi=>wt _ (sU hb (n0 ho hi))
 have hin:(aO f (t,o)).In:=yi (mem (by decide)) (mem (by decide)) (mem (by decide)) (mem (by decide));unfold i8 at e1
 by_cases hd:(aO f (t,o)).det=0
 ·rw[LL hd] at e1;cases e1
 ·rw[LB hd] at e1
  by_cases hp:BN (iN e (f (am t (dC o 0))) (aO f (t,o)))=true
  ·rw[LL hp] at e1;cases e1;obtain⟨k1,k2,k3⟩:=og (r:=f (am t (dC o 0))) be hd;obtain⟨c1,c2,c3⟩:=fE (aO f (t,o)).y (aO f (t,o)).z;obtain⟨d1,d2,d3⟩:=fE (aO f (t,o)).z (aO f (t,o)).x;obtain⟨g1,g2,g3⟩:=fE (aO f (t,o)).x (aO f (t,o)).y;rw[<- c1,<- c2,<- c3] at k1;rw[<- d1,<- d2,<- d3] at k2;rw[<- g1,<- g2,<- g3] at k3;have lift:∀ {q:Rat},hU (q*((aO f (t,o)).det:Rat)) D->hU q ((aO f (t,o)).det*D):=λ{q} ⟨x,hx⟩=>⟨x,by rw[Lw,<- hx];grind⟩
   have w1:=lift (by rw[k1];exact(((cd.a.subI _).mulI _).add ((cd.b.subI _).mulI _)).add ((cd.c.subI _).mulI _));have w2:=lift (by rw[k2];exact(((cd.a.subI _).mulI _).add ((cd.b.subI _).mulI _)).add ((cd.c.subI _).mulI _));have w3:=lift (by rw[k3];exact(((cd.a.subI _).mulI _).add ((cd.b.subI _).mulI _)).add ((cd.c.subI _).mulI _));generalize iN e (f (am t (dC o 0))) (aO f (t,o))=q at *;obtain⟨e1,e2,e3⟩:=wE (t:=t) (q:=q) (ap:=dW n) ho;have all:∀ k,hU (pO o q k) ((aO f (t,o)).det*D):=λk=>by
    unfold pO
    split
    ·exact w1
    ·split
     ·exact w2
     ·exact w3
   refine⟨(aO f (t,o)).det*D,⟨Mf hd cd.ne,?_,?_,?_⟩,((wU hin).mul sd).mono (by lia)⟩
   ·rw[e1];exact((hU.int _ _).add (all _)).mulI _
   ·rw[e2];exact((hU.int _ _).add (all _)).mulI _
   ·rw[e3];exact((hU.int _ _).add (all _)).mulI _
  ·rw[LB hp] at e1;cases e1
theorem El {n m:Nat}{f:Kn->R3}{e c:Q3}{D:Int}(h2:2<=n)(h7:n<=7)(wt:Be n f)(be:e.Bd 250)(cd:Cd D e)(sd:Sm m D)(h:c∈gf n f e (bD n)):c.Bd (m+70):=by
 obtain⟨D',c1,c2⟩:=GI h2 h7 wt be cd sd h;exact c1.bd c2 (ED (CA h2 h7 be h).1)
theorem Dp (n:Nat)(f:Kn->R3)(e:Q3)(ps:List (Kn×(Nat×Nat×Nat))):(gf n f e ps).length<=ps.length:=by
 have go:∀ (ps:List (Kn×(Nat×Nat×Nat))) (cs:List Q3),(ps.foldl (iG n f e) cs).length<=cs.length+ps.length:=by
  intro ps
  induction ps with
  |nil=>intro cs;exact Lc _
  |cons p ps ih=>
   intro cs;rw[QT,LK];have st:(iG n f e cs p).length<=cs.length+1:=by
    unfold iG
    split
    ·lia
    ·unfold uR
     split
     ·lia
     ·rw[LC];exact Lc _
   have:=ih (iG n f e cs p);lia
 have:=go ps []
 simpa [gf] using this
theorem jz {K:HD}:∀ {cs:List (Q3×Lg)},(∀ p∈cs,aA K H p.1.col (.ref p.2))->ay K H (cs.map λp=>p.1.col) (cs.map λp=>.ref p.2)
 |[],_=>.nil
 |_::_,h=>.cons (h _ (by simp)) (jz λp hp=>h p (Le _ hp))
theorem oC:∀ cs:List (Q3×Lg),OU (cs.map λp=>p.1.col)=true/\PN (cs.map λp=>p.1.col)<=5
 |[]=>⟨rfl,by decide⟩
 |p::cs=>by
  obtain⟨h1,h2⟩:=oC cs;refine⟨?_,?_⟩
  ·show(PyData.canLay0 p.1.col&&OU (cs.map λp=>p.1.col))=true;rw[h1];rfl
  ·show max (PyData.depth p.1.col) (PN (cs.map λp=>p.1.col))<=5;refine Nat.max_le.mpr ⟨?_,h2⟩;show 2<=5;decide
theorem vW (h1:OU es=true)(h2:PN es<=5):Rf (.list es)=true:=by
 show(OU es&&decide (PN es+1<=64))=true;rw[h1,Lj (by lia)];rfl
def pN (p q:Q3)(n:Nat):List Nat:=(L0 n).filter λj=>!ND (rD (bL p.a p.b p.c j)) (rD (bL q.a q.b q.c j))
theorem AN (p q:Q3)(n:Nat):pN p q (n+1)=pN p q n++(if(!ND (rD (bL p.a p.b p.c n)) (rD (bL q.a q.b q.c n)))=true then[n] else[]):=by
 unfold pN;rw[N8,List.filter_append]
 congr 1
 rw[List.filter_cons,List.filter_nil]
theorem BU (p q:Q3)(n:Nat):(pN p q n).length<=n:=by
 have:=List.length_filter_le (λj=>!ND (rD (bL p.a p.b p.c j)) (rD (bL q.a q.b q.c j))) (L0 n);rw[N7] at this;exact this
theorem JD (P:Nat->Bool):(P 0=true->∃ l,[0,1,2].filter P=0::l)/\(P 0=false->P 1=true->∃ l,[0,1,2].filter P=1::l)/\(P 0=false->P 1=false->P 2=true->∃ l,[0,1,2].filter P=2::l):=by
 simp only[List.filter];refine⟨λh=>?_,λh h1=>?_,λh h1 h2=>?_⟩
 ·rw[h];exact⟨_,rfl⟩
 ·rw[h,h1];exact⟨_,rfl⟩
 ·rw[h,h1,h2];exact⟨_,rfl⟩
theorem xP (h:Il p q):∃ j l,pN p q 3=j::l/\j<3/\bL p.a p.b p.c j<bL q.a q.b q.c j:=by
 have ne:∀ {x y:Rat},x<y->x≠y:=λh e=>by rw[e] at h;exact Rat.lt_irrefl h
 have ya:∀ {x y:Rat},x<y->(!ND (rD x) (rD y))=true:=λh=>by rw[xS,LW (ne h)];rfl
 have no:∀ {x y:Rat},x=y->(!ND (rD x) (rD y))=false:=λh=>by rw[xS,Lj h];rfl
 obtain⟨k0,k1,k2⟩:=JD λj=>!ND (rD (bL p.a p.b p.c j)) (rD (bL q.a q.b q.c j))
 rcases h with h|⟨e,h|⟨e',h⟩⟩
 ·obtain⟨l,hl⟩:=k0 (ya h);exact⟨0,l,hl,by decide,h⟩
 ·obtain⟨l,hl⟩:=k1 (no e) (ya h);exact⟨1,l,hl,by decide,h⟩
 ·obtain⟨l,hl⟩:=k2 (no e) (no e') (ya h);exact⟨2,l,hl,by decide,h⟩
theorem rZ (p q:Q3):ND p.col q.col=true↔p=q:=by
 show T2 [rD p.a,rD p.b,rD p.c] [rD q.a,rD q.b,rD q.c]=true↔_;simp only[T2,xS,QG,L4,No];constructor
 ·rintro⟨h1,h2,h3⟩;exact Q3.ext h1 h2 h3
 ·rintro rfl;exact⟨rfl,rfl,rfl⟩
theorem WW.pt {X:Cx}{e:Nq}{t:TT}(h:WW X e t):WT X e t:=⟨PW.pt h.go⟩
set_option autoImplicit true
set_option relaxedAutoImplicit true
section
variable {X:Cx}{st:NO}{K:HD}
theorem aU :WA X [] Ax:=⟨tD ⟩
theorem aj (ha:WE X e te)(hr:WA X es t)(hs:LN (e::es) X.env=(false,O7 e X.env)::LN es X.env:=by rfl):WA X (e::es) (uz te t):=⟨nO ha.go hr.go hs⟩
theorem ak (i:Nat)(hN:X.N[i]?=some x:=by rfl)(hv:Ht X.env.scope x:=by first|exact U5 rfl|exact T0 (U5 rfl)|exact T0 (T0 rfl))(hd:(x==("__debug__":Str))=false:=by decide)(hcd:(x==("__classdict__":Str))=false:=by decide):WE X (.Name x pos) (E4 i):=⟨pv i hN hv hd hcd⟩
theorem pY (hx:X.xe=λ_ _=>False)(hd:gens[d+1]?=none)(he:WE X elt te):WB X elt gens scope pos d (yu te):=⟨yD hx hd he.go⟩
end
section
variable {X:Cx}
theorem az (i:Nat){x:Str}{e:Nq}{te:TE}{pos pos':Pos}(hN:X.N.Nodup)(he:WE X e te)(hi:X.N[i]?=some x:=by rfl)(hx:Hk X.env.scope x:=by first|exact U5 rfl|exact T0 rfl)(hs:Q2 e (some (.Name x pos')) pos.line X.env=pure false:=by rfl)(hf:X.fn x=true\/X.env.scope.names.lookup x=some .local:=by first|exact .inl rfl|exact .inr rfl|assumption):WS X (.Assign [.Name x pos'] e pos) (GF te (zh i)):=EW hN hi hx he hs hf
theorem ai (i:Nat){x:Str}{pos:Pos}(hN:X.N.Nodup)(hi:X.N[i]?=some x:=by rfl)(hx:Hk X.env.scope x:=by first|exact U5 rfl|exact T0 rfl)(hf:X.fn x=true\/X.env.scope.names.lookup x=some .local:=by first|exact .inl rfl|exact .inr rfl|assumption):WG X (.Name x pos) (zh i):=CQ hN hi hx hf
theorem aw (K:HD){a b:Nq}{ta tb:TE}{pos:Pos}(ha:WE X a ta)(hb:WE X b tb)(e:X.K=K:=by rfl)(hs:yY b:=by intro _ _;rfl):WE X (.Subscript a b pos) (HU (Fv K) ta tb):=B5 (JZ e) ha hb hs
theorem ac {CX:jG}{k j:Nat}{x:Str}{ps:List Str}{sp:Sp}{dvs:List V}{p pos:Pos}{e:Nq}{es:List Nq}{t:TA}(hX:Ey CX)(C:dm X.prog X.w X.K X.mg X.base CX k x ps dvs sp)(hr:Room j X.A)(ha:WA X (e::es) t)(hj:k<=j:=by decide)(hg:Gl X x:=by rfl)(hdb:(x==("__debug__":Str))=false:=by decide)(he:LN (e::es) X.env=(false,O7 e X.env)::LN es X.env:=by rfl)(hpl:(QC pos (LN es X.env)).any (·.1)=false:=by rfl):WE X (.Call (.Name x p) (e::es) [] pos) (Bu sp dvs E0 t):=EG hX C (hr.mono hj) hg ha hdb he hpl
theorem aE {e:Nq}{te:TE}(h:WE X e te)(hs:LN [e] X.env=(false,O7 e X.env)::LN [] X.env:=by rfl):WA X [e] (uz te Ax):=aj h aU hs
theorem aH {e f:Nq}{te tf:TE}(h:WE X e te)(g:WE X f tf)(hs:LN [e,f] X.env=(false,O7 e X.env)::LN [f] X.env:=by rfl)(gs:LN [f] X.env=(false,O7 f X.env)::LN [] X.env:=by rfl):WA X [e,f] (uz te (uz tf Ax)):=aj h (aj g aU gs) hs
theorem aQ {scope:Pq}{elt tg iter:Nq}{ifs:List Nq}{wi:TI}{g:TG}{tt:TT}{te:TE}{pos:Pos}(ts cs:List Str)(js:List Nat)(k:Nat)(hi:WI X tg iter wi)(hg:(ts++cs).Nodup->∀ {C s0 H0 fp pn},WG (bo X (ts++cs) scope (aV X scope C) C s0 H0 fp pn) tg g)(ht:∀ {C s0 H0 fp pn},FA (bo X (ts++cs) scope (aV X scope C) C s0 H0 fp pn) ifs tt)(he:∀ {C s0 H0 fp pn},WE (bo X (ts++cs) scope (aV X scope C) C s0 H0 fp pn) elt te)(nd:(ts++cs).Nodup:=by decide +kernel)(hc:X.calm=true:=by rfl)(h1:nR scope=true:=by decide +kernel)(h2:(scope.names.all λy=>!(y.2==.free)||(X.env.cells.lookup y.1).isSome)=true:=by rfl)(h3:lG X scope cs js=true:=by rfl)(h4:cs.length=js.length:=by rfl)(h5:ts.length=k:=by rfl)(hs:∀ x,MQ iter X.env x=pure x:=by intro _;rfl):WE X (.ListComp elt [⟨tg,iter,ifs,0⟩] scope pos) (FB wi g tt te (Ak k js)):=B4 hc hi (lu h1 h2) (pQ (ts:=ts) h3 h4 h5) (λ_ _ _ _ _=>hg nd) (λ_ _ _ _ _=>ht) (λ_ _ _ _ _=>he) hs
theorem cG (i:Nat){y:Str}{py spos:Pos}{scope:Pq}{elt tg iter:Nq}{ifs:List Nq}{wi:TI}{g:TG}{tt:TT}{te:TE}{pos:Pos}(ts cs:List Str)(js:List Nat)(k:Nat)(hN:X.N.Nodup)(hi:WI X tg iter wi)(hg:(ts++cs).Nodup->∀ {C s0 H0 fp pn},WG (bo X (ts++cs) scope (aV X scope C) C s0 H0 fp pn) tg g)(ht:∀ {C s0 H0 fp pn},FA (bo X (ts++cs) scope (aV X scope C) C s0 H0 fp pn) ifs tt)(he:∀ {C s0 H0 fp pn},WE (bo X (ts++cs) scope (aV X scope C) C s0 H0 fp pn) elt te)(nd:(ts++cs).Nodup:=by decide +kernel)(hc:X.calm=true:=by rfl)(hi':X.N[i]?=some y:=by rfl)(hy:X.env.scope.names.lookup y=some .local:=by rfl)(h1:nR scope=true:=by decide +kernel)(h2:(scope.names.all λy=>!(y.2==.free)||(X.env.cells.lookup y.1).isSome)=true:=by rfl)(h3:lG X scope cs js=true:=by rfl)(h4:cs.length=js.length:=by rfl)(h5:ts.length=k:=by rfl)(hsw:Q2 (.ListComp elt [⟨tg,iter,ifs,0⟩] scope pos) (some (.Name y py)) spos.line X.env=pure true:=by rfl)(hs:∀ x,MQ iter X.env x=pure x:=by intro _;rfl):WS X (.Assign [.Name y py] (.ListComp elt [⟨tg,iter,ifs,0⟩] scope pos) spos) (DF i wi g tt te (Ak k js)):=uv hc hN hi' hy hi (lu h1 h2) (pQ (ts:=ts) h3 h4 h5) (λ_ _ _ _ _=>hg nd) (λ_ _ _ _ _=>ht) (λ_ _ _ _ _=>he) hsw hs
end
end TR
set_option Elab.async false
set_option linter.all false
set_option maxRecDepth 100000
set_option maxHeartbeats 8000000
namespace TR
open PySem PySem.Spec PyProof.Rows L2
set_option autoImplicit false
abbrev oR:List Str:=["thing"]
abbrev tR:List Str:=["one","other"]
abbrev uA0:List Str:=["_law_town_here","_law_cap"]
abbrev uA1:List Str:=["_law_one","_law_two"]
abbrev uA2:List Str:=["_law_thing"]
abbrev uA3:List Str:=["thing","knots"]
abbrev uA4:List Str:=["_law_script"]
abbrev uA5:List Str:=["thing","many","least","most"]
abbrev uA6:List Str:=["top","below"]
abbrev uA7:List Str:=["_law_town_here","_law_some"]
abbrev uA8:List Str:=["self","colour","way"]
abbrev uA9:List Str:=["far","whole"]
abbrev uB0:List Str:=["grid","goal"]
abbrev uB1:List Str:=["thing","least","most"]
abbrev uB2:List Str:=["self","knots","table"]
abbrev uB3:List Str:=["_law_told","_law_due"]
abbrev uB4:List Str:=["colour","top","below"]
abbrev uB5:List Str:=["least","order","far","apart"]
abbrev uB6:List Str:=["grid","least","order","goal"]
abbrev uB7:List Str:=["goal","start","rows","size"]
abbrev uB8:List Str:=["_law_town_here","_law_many"]
abbrev uB9:List Str:=["_law_town_here","_law_size"]
abbrev uC0:List Str:=["one","least","most"]
abbrev uC1:List Str:=["row","other"]
abbrev uC2:List Str:=["_law_w","_law_x","_law_y","_law_z"]
abbrev uC3:List Str:=["self","least","parts"]
abbrev uC4:List Str:=["grid"]
abbrev uC5:List Str:=["grid","least","order"]
abbrev uC6:List Str:=["a","b","c","numbers"]
abbrev uC7:List Str:=["place","steps"]
abbrev uC8:List Str:=["least","order"]
abbrev uC9:List Str:=["self","place"]
def cx (i:Nat):NO:=PySem.Challenge.pw_tintroads_k13_whole_ways_back.main.body.getD i (.Pass ⟨0,0,0,0⟩)
abbrev kG:NO:=cx 9
abbrev dU:NO:=cx 10
abbrev dF:NO:=cx 11
abbrev dw:NO:=cx 12
abbrev kc:NO:=cx 13
abbrev dM:NO:=cx 14
abbrev fv:NO:=cx 15
abbrev tY:NO:=cx 16
abbrev iC:NO:=cx 17
abbrev kJ:NO:=cx 18
abbrev lN:NO:=cx 19
abbrev iT:NO:=cx 20
abbrev eA:NO:=cx 21
abbrev iV:NO:=cx 24
abbrev pA:NO:=cx 25
abbrev jo:NO:=cx 26
abbrev dA:NO:=cx 27
abbrev dn:NO:=cx 28
abbrev mr:NO:=cx 29
abbrev jt:NO:=cx 30
abbrev oW:NO:=cx 31
abbrev j6:NO:=cx 38
abbrev mn:NO:=cx 39
abbrev kq:NO:=cx 40
abbrev tG:NO:=cx 41
abbrev kK:NO:=cx 42
abbrev b8:NO:=cx 43
abbrev f6:NO:=cx 44
abbrev tu:NO:=cx 45
abbrev b9:NO:=cx 46
abbrev eC:NO:=cx 47
abbrev pc:NO:=cx 49
abbrev dQ:NO:=k_ (cx 50) 0
abbrev gO:NO:=k_ (cx 50) 1
abbrev gH:NO:=k_ (cx 50) 2
abbrev fU:NO:=k_ (cx 50) 4
abbrev j7:NO:=cx 54
abbrev bU:NO:=k_ (cx 50) 3
abbrev eg:NO:=cx 51
abbrev fO:NO:=cx 55
abbrev gJ:NO:=cx 56
abbrev iX:NO:=cx 57
abbrev iq:NO:=cx 58
abbrev jc:NO:=cx 59
abbrev gQ:NO:=cx 60
abbrev gU:NO:=cx 61
abbrev jh:NO:=cx 62
abbrev iB:NO:=cx 63
abbrev lX:NO:=cx 64
abbrev iS:NO:=cx 66
abbrev iY:NO:=cx 67
abbrev jr:NO:=cx 68
abbrev iw:NO:=cx 69
abbrev ma:NO:=cx 70
abbrev j9:NO:=cx 71
abbrev ig:NO:=cx 72
abbrev ie:NO:=cx 73
abbrev ia:NO:=cx 74
abbrev fj:NO:=cx 75
abbrev eW:NO:=cx 76
abbrev i9:NO:=cx 77
abbrev lC:NO:=cx 78
structure df (K:HD)(mg:Str->Option K9)(w:LX):Prop where
 x1:j8 K "Grid" ["knots","table"]=true
 xm:∃ D,mg "WAYS"=some (.ref D)/\qQ K w mg D [("four","parts_by_four"),("eight","parts_by_eight")]
 xn:∃ t,mg "FEWEST_KNOTS"=some (.int 2 t)
 xo:∃ t,mg "GREATEST_grids"=some (.int 1000 t)
 xd:∃ t,mg "GREATEST_squares"=some (.int 4000 t)
 xp:∃ t,mg "MOST_KNOTS"=some (.int 7 t)
 xe:∃ t,mg "REACH"=some (.int 60 t)
 xq:JY K "Grid"=true
 x2d:∃ a,mg "ORDERS"=some (.ref a)/\zP K a [[0,1,2],[0,2,1],[1,0,2],[1,2,0],[2,0,1],[2,1,0]]
 x2e:∃ a,mg "STEPS"=some (.ref a)/\zP K a [[1,0,0],[0,1,0],[0,0,1]]
 xf:mg "abs"=none
 x7:mg "all"=none
 xg:mg "any"=none
 x9:mg "bool"=none
 xh:mg "dict"=none
 xi:mg "int"=none
 x0:mg "isinstance"=none
 x2:mg "len"=none
 x6:mg "list"=none
 xj:mg "max"=none
 xb:mg "min"=none
 x4:mg "range"=none
 xr:mg "set"=none
 xk:mg "sorted"=none
 xs:mg "str"=none
 xc:mg "sum"=none
 x3:mg "tuple"=none
 x5:mg "zip"=none
 xt:c6 K mg "is_whole" kG oR []
 xu:c6 K mg "is_whole_within" dU uB1 []
 xv:c6 K mg "is_tuple_within" dF uA5 []
 xw:c6 K mg "greatest_measure" dw tR []
 xx:c6 K mg "is_share" kc oR []
 xy:c6 K mg "refuse_no_share" dM oR []
 xa:c6 K mg "share" fv uA6 []
 x8:c6 K mg "share" fv uA6 [.int 1]
 xz:c6 K mg "added" tY tR []
 x10:c6 K mg "multiplied" iC tR []
 x11:c6 K mg "floor_of" kJ ["one"] []
 x12:c6 K mg "is_less" lN tR []
 x13:c6 K mg "is_within" iT uC0 []
 x14:c6 K mg "over_one_below" eA ["numbers"] []
 x15:c6 K mg "is_colour" iV oR []
 x16:c6 K mg "is_row" pA oR []
 x17:c6 K mg "is_square" jo oR []
 x18:c6 K mg "refuse_no_square" dA oR []
 x19:c6 K mg "refuse_no_colour" dn oR []
 x1a:c6 K mg "crossed" mr tR []
 xl:c6 K mg "whole_sum" jt uC1 []
 x1b:c6 K mg "volume" oW ["square"] []
 x1c:c6 K mg "is_knots" j6 oR []
 x1d:c6 K mg "is_knot" mn uA3 []
 x1e:c6 K mg "is_worth" kq oR []
 x1f:c6 K mg "apart" tG ["knots"] []
 x1g:c6 K mg "is_table" kK uA3 []
 x1h:c6 K mg "refuse_no_device_colour" b8 oR []
 x1i:c6 K mg "places_below" f6 ["many"] []
 x1j:c6 K mg "moved" tu uC7 []
 x2f:AG K mg "parts_by_four" b9 uA9
 x1k:c6 K mg "parts_by_eight" eC uA9 []
 x1l:c6 K mg "is_way" pc oR []
 x1m:p7 K mg "Grid" "__init__" "Grid.__init__" dQ uB2 []
 x1n:p7 K mg "Grid" "knot" "Grid.knot" gO uC9 []
 x1o:p7 K mg "Grid" "size" "Grid.size" gH ["self"] []
 x1p:p7 K mg "Grid" "mixed" "Grid.mixed" fU uC3 []
 x1q:c6 K mg "parts_of" j7 uC4 []
 x2g:pE K mg "Grid" "worth" "Grid.worth" bU uA8 [] 2 0 [.str "four"]
 x1r:c6 K mg "refuse_no_grid" eg oR []
 x1s:c6 K mg "worths_along" fO uC5 []
 x1t:c6 K mg "differences" gJ ["worths"] []
 x1u:c6 K mg "distances" iX uB7 []
 x1v:c6 K mg "is_in_part" iq ["far"] []
 x1w:c6 K mg "colour_at" jc uB5 []
 x1x:c6 K mg "way_in_part" gQ uB6 []
 x2h:AG K mg "rising" gU ["colours"]
 x1y:c6 K mg "ways_back" jh uB0 []
 x1z:c6 K mg "is_reached" iB uB0 []
 x20:c6 K mg "is_flat" lX uC4 []
 x21:c6 K mg "_law_town" iS uA4 []
 x22:c6 K mg "_law_draw" iY uB8 []
 x23:c6 K mg "_law_pick" jr uA7 []
 x24:c6 K mg "_law_whole" iw uA2 []
 x25:c6 K mg "_law_is" ma uB3 []
 x26:c6 K mg "_law_low" j9 uA1 []
 x27:c6 K mg "_law_below" ig uA1 []
 x28:c6 K mg "_law_share" ie uA0 []
 x29:c6 K mg "_law_three" ia uA0 []
 x2a:c6 K mg "_law_is_share" fj uA2 []
 x2b:c6 K mg "_law_is_three" eW uA2 []
 x2c:c6 K mg "_law_grid" i9 uB9 []
section
variable {P:Lz}{w:LX}{K:HD}{mg:Str->Option K9}{base:Ng}
theorem vT:av oR oR (ag kG):=dD
inductive vN (K:HD)(vs:List V)(H:Hp)(Q:VK)(_:XK):Prop
 |mk (x T) (_:vs=[x]) (_:Ty K H x T) (_:Q (.bl (uf x)) H)
theorem eT (T:df K mg w):dm P w K mg base c5 1 "is_whole" oR [] (vN K):=by
  refine T.xt.cal vT (bb:=λ_ _ _ _ _ H vs Q E hr h=>?_);obtain⟨x,S,rfl,ty,q⟩:=h;refine⟨_,(cQ.go (ah (au (cZ (ax (gt (K:=K) rfl) (by rfl) T.x0 aK (aH (ak 0) (bJ (v:=.ty "int") rfl T.xi B7 rfl))) (eM (tS (ax (gt (K:=K) rfl) (by rfl) T.x0 aK (aH (ak 0) (bJ (v:=.ty "bool") rfl T.x9 nI rfl))))))))),?_⟩;obtain⟨b,e1,e2⟩:=BP ty;refine⟨_,rfl,_,_,_,b,rfl,ty,e1,b,rfl,?_⟩;cases b with
  |false=>
   refine bI ?_;rw[show uf x=false from e2] at q;exact q
  |true=>
   obtain⟨c,e3,e4⟩:=(show ∃ c,eQ S "bool"=some c/\uf x=!c from e2)
   refine bj ⟨_,rfl,_,_,_,c,rfl,ty,e3,c,rfl,?_⟩;rw[e4] at q;exact q
theorem kr:av uB1 uB1 (ag dU):=dD
inductive ke (K:HD)(vs:List V)(H:Hp)(Q:VK)(_:XK):Prop
 |mk (x d l m) (_:vs=[x,.int l,.int m]) (_:aA K H d x) (_:Q (.bl (DW l m d)) H)
theorem du (T:df K mg w):dm P w K mg base c5 2 "is_whole_within" uB1 [] (ke K):=by
  refine T.xu.cal kr (bb:=λ_ _ _ _ _ H vs Q E hr h=>?_);obtain⟨x,d,l,m,rfl,hx,q⟩:=h;refine⟨_,(cQ.go (ah (au (cZ (ac aB (eT T) hr (aE (ak 0))) (eM (qM yK yK (ak 1) (ak 0) (ak 2))))))),?_⟩;refine⟨_,rfl,_,_,rfl,hx.ty,_,rfl,?_⟩;cases hx with
  |int i=>
   refine bj ⟨_,rfl,_,rfl,_,_,rfl,rfl,decide (l<=i),rfl,?_⟩;refine eU (λhc=>?_) (λhc=>?_)
   ·refine⟨_,rfl,_,_,rfl,rfl,?_⟩;have q:Q (.bl (decide (l<=i)&&decide (i<=m))) H:=q;rw[hc,RL] at q;exact q
   ·have hc:decide (l<=i)=false:=by simpa using hc
    have q:Q (.bl (decide (l<=i)&&decide (i<=m))) H:=q;rw[hc,Rj] at q;exact q
  |non=>exact bI q
  |bl b=>exact bI q
  |str z=>exact bI q
  |lst h1 h2=>exact bI q
  |tup h1 h2=>exact bI q
  |dct h1=>exact bI q
theorem kB:av uA5 uA5 (ag dF):=dD
inductive kh (K:HD)(vs:List V)(H:Hp)(Q:VK)(_:XK):Prop
 |mk (x:V) (ns:List Int) (n l m:Int) (_:vs=[x,.int n,.int l,.int m]) (_:aA K H (.tuple (ns.map N9)) x) (_:n=ns.length) (_:ns.length<=1000) (_:∀ H',af H H'->Q (.bl (ns.all λk=>decide (l<=k)&&decide (k<=m))) H')
theorem fV (T:df K mg w):dm P w K mg base c5 3 "is_tuple_within" uA5 [] (kh K):=by
  refine T.xv.cal kB (bb:=λ_ _ _ _ _ H vs Q E hr h=>?_);obtain⟨x,ns,n,l,m,rfl,hx,rfl,hl,q⟩:=h;refine⟨_,(cQ.go (ab (bn (WW.pt (eG (a_ (bg (ax (gt (K:=K) rfl) (by rfl) T.x0 aK (aH (ak 0) (bJ (v:=.ty "tuple") rfl T.x3 cB rfl))))) (eO (aN mF (ax (iK (K:=K) rfl) (by rfl) T.x2 dO (aE (ak 0))) (ak 1) (aT _))))) (ah (au eX)) aM)
   (ah (au (ax (re (K:=K) rfl rfl) (by rfl) T.x7 lW (aE (aQ ["number"] ["least","most"] [2,3] 1 (bB (K:=K) rfl (ak 0)) (λnd=>(ai 0 nd)) aG (ac aB (du T) hr (aj (ak 0) (aj (ak 1) (aj (ak 2) aU))))))))))),?_⟩
  refine⟨_,rfl,_,_,_,true,rfl,hx.ty,(show eQ "tuple" "tuple"=some true by decide +kernel),_,rfl,bI ?_⟩;obtain⟨a,xs,rfl,ha,hds⟩:=aZ (b:=false) hx;have hlen:=hds.length;rw[K'] at hlen;refine⟨_,rfl,a,_,rfl,mj ha,_,rfl,_,_,rfl,rfl,false,by show V.bl (!decide ((xs.length:Int)=ns.length))=_;rw[Lj (by lia)];rfl,bI ?_⟩;refine⟨_,rfl,a,false,rfl,⟨_,ha⟩,lE (f:=λd=>.bool (DW l m d)) ha hds (by rw[K'];exact hl) (λi d x H2 hd s2 hx2 R kk S=>?_) (λys H2 s2 hys D hD=>?_)⟩
  ·exact bj (B:=S H2) ⟨_,rfl,_,rfl,_,rfl,x,d,l,m,rfl,hx2,kk _ _ ⟨af.refl _,.bl _⟩⟩
  ·have hys:ay K H2 (((ns.map N9).map (DW l m)).map TJ) ys:=by rw[NK];exact hys
   have e:=fZ hys;subst e;refine⟨D,_,rfl,bE.of ae,?_⟩;have e:((ns.map N9).map (DW l m)).all id=ns.all λk=>decide (l<=k)&&decide (k<=m):=by
    rw[NK,List.all_map];rfl
   rw[e];exact q _ (s2.trans (af.new hD))
theorem c7:av tR tR (ag dw):=dD
inductive jP (_:HD)(vs:List V)(H:Hp)(Q:VK)(_:XK):Prop
 |mk (a b) (_:vs=[.int a,.int b]) (_:Q (.int (MV a b)) H)
theorem fm (T:df K mg w):dm P w K mg base c5 1 "greatest_measure" tR [] (jP K):=by
  refine T.xw.cal c7 (bb:=λ_ _ _ _ _ H vs Q E hr h=>?_);obtain⟨a,b,rfl,q⟩:=h;refine⟨_,(cQ.go (ab (kZ (i:=0) (j:=1) rfl c7.nd rfl rfl (by decide) rfl rfl (aH (ax uZ (by rfl) T.xf Dy (aE (ak 0))) (ax uZ (by rfl) T.xf Dy (aE (ak 1)))) rfl)
   (ab (qT Ms (aN yw (ak 1) aa (aT _)) (ah (kZ (i:=0) (j:=1) rfl c7.nd rfl rfl (by decide) rfl rfl (aH (ak 1) (ar ju (ak 0) (ak 1))) rfl)))
   (ah (au (ak 0)))))),?_⟩
  refine⟨_,rfl,_,rfl,_,rfl,_,rfl,_,_,rfl,?_⟩;refine⟨λm σ H'=>∃ x y:Int,σ=[some (.int x),some (.int y)]/\H'=H/\0<=x/\0<=y/\MV x y=MV a b/\m=y.toNat,⟨_,_,_,rfl,rfl,?_,?_,?_,rfl⟩,?_⟩
  ·split<;>lia
  ·split<;>lia
  ·rw[yF]
  ·rintro m σ H' ⟨x,y,rfl,rfl,hx,hy,hg,rfl⟩;refine⟨_,rfl,_,_,rfl,rfl,_,rfl,?_⟩;refine eU (λhc=>?_) (λhc=>?_)
   ·have hc:=Mu hc;refine⟨_,λ_ _ z=>z,?_⟩;refine⟨_,rfl,_,rfl,_,rfl,_,_,rfl,rfl,hc,_,_,rfl,?_⟩;have h1:=N5 x (show y≠0 by lia);have h2:=NC x hc;exact⟨(x%y).toNat,by lia,y,x%y,rfl,rfl,hy,h1,by rw[vf hx hc];exact hg,rfl⟩
   ·have hc:¬ (0<y):=λz=>hc (Lj z)
    have hy0:y=0:=by lia
    subst hy0;refine⟨_,rfl,?_⟩;have e:x=(MV a b:Int):=by
     rw[<- hg,TV];lia
    rw[e];exact q
theorem i_:av ["thing","top","below"] oR (ag kc):=dD
inductive vo (K:HD)(vs:List V)(H:Hp)(Q:VK)(_:XK):Prop
 |mk (x d) (_:vs=[x]) (_:aA K H d x) (_:Q (.bl (shB d)) H)
theorem mY (T:df K mg w):dm P w K mg base c5 2 "is_share" oR [] (vo K):=by
  refine T.xx.cal i_ (bb:=λ_ _ _ _ _ H vs Q E hr h=>?_);obtain⟨x,d,rfl,hd,q⟩:=h;refine⟨_,(cQ.go (ab (bn (WW.pt (eG (a_ (bg (ax (gt (K:=K) rfl) (by rfl) T.x0 aK (aH (ak 0) (bJ (v:=.ty "tuple") rfl T.x3 cB rfl))))) (eO (aN mF (ax (iK (K:=K) rfl) (by rfl) T.x2 dO (aE (ak 0))) aa (aT _))))) (ah (au eX)) aM)
   (ab (gy (ak 0) (bZ (K:=K) (n:=2) rfl rfl (ao (ai 1 i_.nd) (ao (ai 2 i_.nd) aX))))
   (ab (bn (WW.pt (eG (a_ (bg (ac aB (eT T) hr (aE (ak 1))))) (eG (a_ (bg (ac aB (eT T) hr (aE (ak 2))))) (eO (aN vV (ak 2) aa (aT _)))))) (ah (au eX)) aM)
   (ah (au (cq dz (ac aB (fm T) hr (aH (ak 1) (ak 2))) aa (aT _)))))))),?_⟩
  cases hd with
  |non=>exact⟨_,rfl,_,_,_,false,rfl,.non,by decide +kernel,_,rfl,bj (bj q)⟩
  |bl b=>exact⟨_,rfl,_,_,_,false,rfl,.bl b,by decide +kernel,_,rfl,bj (bj q)⟩
  |int i=>exact⟨_,rfl,_,_,_,false,rfl,.int i,by decide +kernel,_,rfl,bj (bj q)⟩
  |str z=>exact⟨_,rfl,_,_,_,false,rfl,.str z,by decide +kernel,_,rfl,bj (bj q)⟩
  |dct h1=>exact⟨_,rfl,_,_,_,false,rfl,.dK h1,(show eQ "dict" "tuple"=some false by decide +kernel),_,rfl,bj (bj q)⟩
  |lst h1 h2=>exact⟨_,rfl,_,_,_,false,rfl,(aA.lst h1 h2).ty,(show eQ "list" "tuple"=some false by decide +kernel),_,rfl,bj (bj q)⟩
  |@tup p xs ds h1 h2=>
   refine⟨_,rfl,_,_,_,true,rfl,.tup h1,by decide +kernel,_,rfl,bI ?_⟩;refine⟨_,rfl,p,xs,rfl,.inr (dk.of h1),_,_,rfl,rfl,_,rfl,?_⟩;have hl:=h2.length;refine eU (λhc=>?_) (λhc=>?_)
   ·have hc:¬ ((xs.length:Int)=2):=OI (by simpa using hc);have e:shB (.tuple ds)=false:=E9 (by lia);rw[e] at q;exact q
   ·have hc:(xs.length:Int)=2:=by simpa using hc
    cases h2 with
    |nil=>simp at hc
    |@cons d1 x1 _ _ g1 g2=>
     cases g2 with
     |nil=>simp at hc
     |@cons d2 x2 _ _ g3 g4=>
      cases g4 with
      |cons _ _=>simp at hc;lia
      |nil=>
       refine⟨_,rfl,p,_,rfl,dk.of h1,rfl,_,_,rfl,_,_,rfl,rfl,?_⟩;refine⟨_,rfl,_,_,rfl,g1.ty,_,rfl,?_⟩;refine eU (λhc=>?_) (λhc=>?_)
       ·refine bj ?_;have e:uf x1=false:=by simpa using hc
        rw[IB g1 e] at q;exact q
       ·have e1:uf x1=true:=by simpa using hc
        refine⟨_,rfl,_,_,rfl,g3.ty,_,rfl,?_⟩;refine eU (λhc=>?_) (λhc=>?_)
        ·refine bj ?_;have e:uf x2=false:=by simpa using hc
         rw[IU g3 e] at q;exact q
        ·have e2:uf x2=true:=by simpa using hc
         obtain⟨n,rfl,rfl⟩:=yq g1 e1;obtain⟨m,rfl,rfl⟩:=yq g3 e2;refine⟨_,rfl,_,_,rfl,rfl,_,rfl,?_⟩;have e:shB (ug n m)=(decide (1<=m)&&decide (MV n m=1)):=rfl;refine eU (λhc=>?_) (λhc=>?_)
         ·have hc:m<1:=Mu hc;rw[e,LW (show ¬ (1<=m) by lia)] at q;exact q
         ·have hc:¬ (m<1):=OI (by simpa using hc);refine⟨_,rfl,_,rfl,n,m,rfl,_,_,rfl,rfl,?_⟩;rw[e,Lj (show 1<=m by lia),RL] at q;have e3:decide ((MV n m:Int)=1)=decide (MV n m=1):=by
           by_cases z:MV n m=1
           ·rw[Lj z,Lj (by lia)]
           ·rw[LW z,LW (by lia)]
          show Q (.bl (decide ((MV n m:Int)=1))) H;rw[e3];exact q
theorem kb:av oR oR (ag dM):=dD
inductive kI (K:HD)(vs:List V)(H:Hp)(Q:VK)(_:XK):Prop
 |mk (x d) (_:vs=[x]) (_:aA K H d x) (_:shB d=true) (_:Q .non H)
theorem bX (T:df K mg w):dm P w K mg base c5 3 "refuse_no_share" oR [] (kI K):=by
  refine T.xy.cal kb (bb:=λ_ _ _ _ _ H vs Q E hr h=>?_);obtain⟨x,d,rfl,hd,hs,q⟩:=h;refine⟨_,(cQ.go (ah (bn (a_ (bg (ac aB (mY T) hr (aE (ak 0))))) (ah cz) aM))),?_⟩;refine⟨_,rfl,x,d,rfl,hd,_,rfl,?_⟩;rw[hs];exact bI q
theorem n_:av ["top","below","measure"] uA6 (ag fv):=dD
inductive CH (K:HD)(vs:List V)(H:Hp)(Q:VK)(_:XK):Prop
 |mk (t b:Int) (_:vs=[.int t,.int b]) (_:b≠0) (_:Sm 8000 b) (_:Sh K H t b Q)
theorem cL (T:df K mg w) {dvs:List V} (D:c6 K mg "share" fv uA6 dvs):dm P w K mg base c5 2 "share" uA6 dvs (CH K):=by
  refine D.cal n_ (bb:=λ_ _ _ _ _ H vs Q E hr h=>?_);obtain⟨t,b,rfl,hb,sb,q⟩:=h;refine⟨_,(cQ.go (ab (bn (WW.pt (eG (a_ (bg (ac aB (eT T) hr (aE (ak 0))))) (eO (a_ (bg (ac aB (eT T) hr (aE (ak 1)))))))) (ah cz) aM)
   (ab (bn (aN dz (ak 1) aa (aT _)) (ah cz) aM)
   (ab (az 2 n_.nd (ac aB (fm T) hr (aH (ak 0) (ak 1))))
   (ab (bn (aN vV (ak 1) aa (aT _)) (ah (az 2 n_.nd (CZ Cz (ak 2)))) aM)
   (ah (au (bT (aH (ar cT (ak 0) (ak 2)) (ar cT (ak 1) (ak 2))))))))))),?_⟩
  refine⟨_,rfl,_,_,rfl,.int t,_,rfl,bI ?_⟩;refine⟨_,rfl,_,_,rfl,.int b,_,rfl,bI ?_⟩;refine⟨_,rfl,_,_,rfl,rfl,_,rfl,?_⟩;refine eU (λhc=>absurd (Mu hc) hb) (λ_=>?_);refine⟨_,rfl,_,rfl,t,b,rfl,?_⟩;refine⟨_,rfl,_,_,rfl,rfl,_,rfl,?_⟩;have gb:Sm 8000 (MV t b:Int):=sb.le (De hb);have gn:(MV t b:Int)≠0:=by
   have:=OC t hb;lia
  refine eU (λhc=>?_) (λhc=>?_)
  ·have hc:=Mu hc;refine⟨_,rfl,_,rfl,?_⟩;refine⟨_,rfl,_,rfl,_,_,rfl,rfl,⟨by lia,gb.neg⟩,_,rfl,_,rfl,_,_,rfl,rfl,⟨by lia,gb.neg⟩,vB,λp hp=>?_⟩;exact q _ _ _ _ (af.new hp) (yG ae) (xY hb rfl (by rw[LL hc]))
  ·have hc:¬ (b<0):=λz=>hc (Lj z)
   refine⟨_,rfl,_,rfl,_,_,rfl,rfl,⟨gn,gb⟩,_,rfl,_,rfl,_,_,rfl,rfl,⟨gn,gb⟩,vB,λp hp=>?_⟩;exact q _ _ _ _ (af.new hp) (yG ae) (xY hb rfl (by rw[LB hc]))
theorem BA:av tR tR (ag tY):=dD
inductive DQ (K:HD)(vs:List V)(H:Hp)(Q:VK)(_:XK):Prop
 |mk (x y n d m e) (_:vs=[x,y]) (_:aA K H (ug n d) x) (_:aA K H (ug m e) y) (_:Ok 3900 n d) (_:Ok 3900 m e) (_:Sh K H (n*e+m*d) (d*e) Q)
theorem Bm (T:df K mg w):dm P w K mg base c5 4 "added" tR [] (DQ K):=by
  refine T.xz.cal BA (bb:=λ_ _ _ _ _ H vs Q E hr h=>?_);obtain⟨x,y,n,d,m,e,rfl,hx,hy,ox,oy,q⟩:=h;obtain⟨a,rfl,ha⟩:=cC hx;obtain⟨b,rfl,hb⟩:=cC hy;refine⟨_,(cQ.go (ab (cm (ac aB (bX T) hr (aE (ak 0))))
   (ab (cm (ac aB (bX T) hr (aE (ak 1))))
   (ah (au (ac aB (cL T T.xa) hr (aH (ar eh (ar aS (aw K (ak 0) aa) (aw K (ak 1) aa)) (ar aS (aw K (ak 1) aa) (aw K (ak 0) aa))) (ar aS (aw K (ak 0) aa) (aw K (ak 1) aa))))))))),?_⟩
  refine⟨_,rfl,_,_,rfl,hx,ox.shB,?_⟩;refine⟨_,rfl,_,_,rfl,hy,oy.shB,?_⟩;have c:∀ {i j:Int},Sm 3900 i->Sm 3900 j->oS i j:=λh1 h2=>.inl ⟨h1.mono (by decide),h2.mono (by decide)⟩
  refine⟨_,rfl,iD ha ⟨_,rfl,dX hb ⟨_,_,rfl,rfl,c ox.sn oy.sd,?_⟩⟩⟩;refine⟨_,rfl,iD hb ⟨_,rfl,dX ha ⟨_,_,rfl,rfl,c oy.sn ox.sd,_,_,rfl,rfl,?_⟩⟩⟩;refine⟨_,rfl,dX ha ⟨_,rfl,dX hb ⟨_,_,rfl,rfl,c ox.sd oy.sd,?_⟩⟩⟩;exact⟨_,_,rfl,Mf ox.ne oy.ne,(ox.sd.mul oy.sd).mono (by decide),q⟩
theorem qC:av tR tR (ag iC):=dD
inductive qF (K:HD)(vs:List V)(H:Hp)(Q:VK)(_:XK):Prop
 |mk (x y n d m e) (_:vs=[x,y]) (_:aA K H (ug n d) x) (_:aA K H (ug m e) y) (_:Ok 3900 n d) (_:Ok 3900 m e) (_:Sh K H (n*m) (d*e) Q)
theorem qk (T:df K mg w):dm P w K mg base c5 4 "multiplied" tR [] (qF K):=by
  refine T.x10.cal qC (bb:=λ_ _ _ _ _ H vs Q E hr h=>?_);obtain⟨x,y,n,d,m,e,rfl,hx,hy,ox,oy,q⟩:=h;obtain⟨a,rfl,ha⟩:=cC hx;obtain⟨b,rfl,hb⟩:=cC hy;refine⟨_,(cQ.go (ab (cm (ac aB (bX T) hr (aE (ak 0))))
   (ab (cm (ac aB (bX T) hr (aE (ak 1))))
   (ah (au (ac aB (cL T T.xa) hr (aH (ar aS (aw K (ak 0) aa) (aw K (ak 1) aa)) (ar aS (aw K (ak 0) aa) (aw K (ak 1) aa))))))))),?_⟩
  refine⟨_,rfl,_,_,rfl,hx,ox.shB,?_⟩;refine⟨_,rfl,_,_,rfl,hy,oy.shB,?_⟩;have c:∀ {i j:Int},Sm 3900 i->Sm 3900 j->oS i j:=λh1 h2=>.inl ⟨h1.mono (by decide),h2.mono (by decide)⟩
  refine⟨_,rfl,iD ha ⟨_,rfl,iD hb ⟨_,_,rfl,rfl,c ox.sn oy.sn,?_⟩⟩⟩;refine⟨_,rfl,dX ha ⟨_,rfl,dX hb ⟨_,_,rfl,rfl,c ox.sd oy.sd,?_⟩⟩⟩;exact⟨_,_,rfl,Mf ox.ne oy.ne,(ox.sd.mul oy.sd).mono (by decide),q⟩
theorem uB:av ["one"] ["one"] (ag kJ):=dD
inductive uF (K:HD)(vs:List V)(H:Hp)(Q:VK)(_:XK):Prop
 |mk (x n d) (_:vs=[x]) (_:aA K H (ug n d) x) (_:Ok 3900 n d) (_:Q (.int (n.fdiv d)) H)
theorem vR (T:df K mg w):dm P w K mg base c5 4 "floor_of" ["one"] [] (uF K):=by
  refine T.x11.cal uB (bb:=λ_ _ _ _ _ H vs Q E hr h=>?_);obtain⟨x,n,d,rfl,hx,ox,q⟩:=h;obtain⟨a,rfl,ha⟩:=cC hx;refine⟨_,(cQ.go (ab (cm (ac aB (bX T) hr (aE (ak 0))))
   (ah (au (ar cT (aw K (ak 0) aa) (aw K (ak 0) aa)))))),?_⟩
  refine⟨_,rfl,_,_,rfl,hx,ox.shB,?_⟩;exact⟨_,rfl,iD ha ⟨_,rfl,dX ha ⟨_,_,rfl,rfl,⟨ox.ne,ox.sd.mono (by decide)⟩,q⟩⟩⟩
theorem yd:av tR tR (ag lN):=dD
inductive xC (K:HD)(vs:List V)(H:Hp)(Q:VK)(_:XK):Prop
 |mk (x y:V) (p q:Rat) (_:vs=[x,y]) (_:aA K H (rD p) x) (_:aA K H (rD q) y) (_:Bq 3900 p) (_:Bq 3900 q) (_:Q (.bl (decide (p<q))) H)
theorem wk (T:df K mg w):dm P w K mg base c5 1 "is_less" tR [] (xC K):=by
  refine T.x12.cal yd (bb:=λ_ _ _ _ _ H vs Q E hr h=>?_);obtain⟨x,y,p,r,rfl,hx,hy,ox,oy,q⟩:=h;obtain⟨a,rfl,ha⟩:=cC hx;obtain⟨b,rfl,hb⟩:=cC hy;refine⟨_,(cQ.go (ah (au (cq vV (ar aS (aw K (ak 0) aa) (aw K (ak 1) aa)) (ar aS (aw K (ak 1) aa) (aw K (ak 0) aa)) (aT _))))),?_⟩;have c:∀ {i j:Int},Sm 3900 i->Sm 3900 j->oS i j:=λh1 h2=>.inl ⟨h1.mono (by decide),h2.mono (by decide)⟩
  refine⟨_,rfl,iD ha ⟨_,rfl,dX hb ⟨_,_,rfl,rfl,c ox.sn oy.sd,?_⟩⟩⟩;refine⟨_,rfl,iD hb ⟨_,rfl,dX ha ⟨_,_,rfl,rfl,c oy.sn ox.sd,_,_,rfl,rfl,?_⟩⟩⟩;rw[show decide (p<r)=decide (p.num*(r.den:Int)<r.num*(p.den:Int)) from Si.mpr (Rat.lt_iff p r)] at q;exact q
theorem tE:av uC0 uC0 (ag iT):=dD
inductive rR (K:HD)(vs:List V)(H:Hp)(Q:VK)(_:XK):Prop
 |mk (x:V) (p:Rat) (l m:Int) (_:vs=[x,.int l,.int m]) (_:aA K H (rD p) x) (_:Bq 3900 p) (_:Sm 60 l) (_:Sm 60 m) (_:Q (.bl (decide (l*(p.den:Int)<=p.num)&&decide (p.num<=m*(p.den:Int)))) H)
theorem sV (T:df K mg w):dm P w K mg base c5 1 "is_within" uC0 [] (rR K):=by
  refine T.x13.cal tE (bb:=λ_ _ _ _ _ H vs Q E hr h=>?_);obtain⟨x,p,l,m,rfl,hx,ox,sl,sm,q⟩:=h;obtain⟨a,rfl,ha⟩:=cC hx;refine⟨_,(cQ.go (ah (au (qM yK yK (ar aS (ak 1) (aw K (ak 0) aa)) (aw K (ak 0) aa) (ar aS (ak 2) (aw K (ak 0) aa)))))),?_⟩;refine⟨_,rfl,_,rfl,dX ha ⟨_,_,rfl,rfl,.inr (sl.mono (by decide)),_,rfl,iD ha ⟨_,_,rfl,rfl,_,rfl,?_⟩⟩⟩;cases hc:decide (l*(p.den:Int)<=p.num) with
  |true=>
   rw[hc,RL] at q;exact bj ⟨_,rfl,_,rfl,dX ha ⟨_,_,rfl,rfl,.inr (sm.mono (by decide)),_,_,rfl,rfl,q⟩⟩
  |false=>
   rw[hc,Rj] at q;exact bI q
theorem cO:av ["numbers","below","number"] ["numbers"] (ag eA):=dD
inductive lF (K:HD)(vs:List V)(H:Hp)(Q:VK)(_:XK):Prop
 |mk (x:V) (k:Bool) (b:Nat) (rs:List Rat) (_:vs=[x]) (_:aA K H (BV k (rs.map rD)) x) (_:(∀ r∈rs,Bq b r)) (_:rs.length<=500) (_:b<=7900) (_:rs.length*b+b+1<=7900) (_:∀ (v:V) (H':Hp),af H H'->aA K H' (.tuple [.list (rs.map λr=>.int (ov (cP rs) r)),.int (cP rs)]) v->Q v H')
theorem gz (T:df K mg w):dm P w K mg base c5 1 "over_one_below" ["numbers"] [] (lF K):=by
  refine T.x14.cal cO (bb:=λ_ _ _ _ _ H vs Q E hr h=>?_);obtain⟨x,k,b,rs,rfl,hx,br,l5,b7,lb,q⟩:=h;obtain⟨a,xs,rfl,ha,hxs⟩:=aZ hx;have lx:=hxs.length;rw[K'] at lx;refine⟨_,(cQ.go (ab (az 1 cO.nd aa)
   (ab (di Ms rfl (bB (K:=K) rfl (ak 0)) (ai 2 cO.nd) (ah (y7 (i:=1) cO.nd rfl (by first|exact U5 rfl|exact T0 rfl) (aw K (ak 2) aa) DC)))
   (ah (au (bT (aH (aQ ["top","part"] ["below"] [1] 2 (bB (K:=K) rfl (ak 0)) (λnd=>(bZ (K:=K) (n:=2) rfl rfl (ao (ai 0 nd) (ao (ai 1 nd) aX)))) aG (ar aS (ak 0) (ar cT (ak 2) (ak 1)))) (ak 1)))))))),?_⟩
  refine⟨_,rfl,a,k,rfl,⟨_,ha⟩,ll (λi σ H'=>∃ o2,σ=[some (.ref a),some (.int (cP (rs.take i))),o2]/\H'=H)
   ⟨_,rfl,rfl⟩ (λi σ H2 hi ⟨_,_,e⟩=>e▸ha) ?_ ?_⟩
  ·rintro i w σ H2 ew ⟨o2,rfl,rfl⟩;obtain⟨d,ed,hd⟩:=hxs.get ew;obtain⟨r,er,rfl⟩:=yp ed;have hi:i<rs.length:=(Ll.mp er).1;have k1:=(g9 br i (by lia)).2;have k2:=br r (Lq er);have hm:i*b<=rs.length*b:=Nat.mul_le_mul_right _ (Nx hi);obtain⟨wa,rfl,hw⟩:=cC hd;refine⟨_,rfl,_,rfl,dX hw ⟨_,_,rfl,rfl,.inl ⟨k1.mono (by lia),k2.sd.mono (by lia)⟩,some (.ref wa),?_,rfl⟩⟩;rw[bC er,oU];rfl
  ·rintro σ H2 ⟨o2,rfl,rfl⟩;rw[<- lx,Pf];obtain⟨B0,BS⟩:=g9 br rs.length (Lc _);rw[Pf] at B0 BS;refine⟨_,rfl,a,k,rfl,⟨_,ha⟩,cA (es:=rs.map λr=>.int (ov (cP rs) r)) ha hxs (by simp) (by simp;lia) (λi d e u H1 hd he s1 hu R kk S=>?_) (λzs H1 s1 hzs D hD=>?_)⟩
   ·obtain⟨r,er,rfl⟩:=yp hd;rw[Lk,er] at he;cases he;obtain⟨wa,rfl,hw⟩:=cC hu;have k2:=br r (Lq er);have dp:=k2.pos;have ed:(cP rs).fdiv (r.den:Int)=cP rs/(r.den:Int):=MC _ (by lia);refine⟨wa,_,rfl,dk.of hw,rfl,_,_,rfl,_,_,rfl,rfl,bj (B:=S H1) ?_⟩;refine⟨_,rfl,_,rfl,_,rfl,_,_,rfl,rfl,⟨by lia,k2.sd.mono (by lia)⟩,_,_,rfl,rfl,.inl ⟨k2.sn.mono (by lia),?_⟩,kk _ _ ⟨af.refl _,?_⟩⟩
    ·rw[ed];have e1:cP rs/(r.den:Int)<=cP rs:=Int.ediv_le_self _ (by lia);have e2:0<=cP rs/(r.den:Int):=SA (by lia) (by lia);exact(show Sm _ _ from by unfold Sm at BS ⊢;lia:Sm (rs.length*b+1) (cP rs/(r.den:Int))).mono (by lia)
    ·rw[ed];exact .int _
   ·refine⟨_,rfl,vB,λT hT=>?_⟩;have sD:af H1 (upd H1 D (.lst zs)):=af.new hD;exact q _ _ ((s1.trans sD).trans (af.new hT)) (aA.tupN hT (.cons (aA.listN hD hzs) (.cons (.int _) .nil)))
theorem t5:av oR oR (ag iV):=dD
inductive tW (K:HD)(vs:List V)(H:Hp)(Q:VK)(_:XK):Prop
 |mk (x:V) (p r t:Rat) (_:vs=[x]) (_:aA K H (Ii p r t) x) (_:∀ H',af H H'->Q (.bl true) H')
theorem kY (T:df K mg w):dm P w K mg base c5 3 "is_colour" oR [] (tW K):=by
  refine T.x15.cal t5 (bb:=λ_ _ _ _ _ H vs Q E hr h=>?_);obtain⟨x,p,r,t,rfl,hx,q⟩:=h;refine⟨_,(cQ.go (ah (au (cZ (ax (gt (K:=K) rfl) (by rfl) T.x0 aK (aH (ak 0) (bJ (v:=.ty "tuple") rfl T.x3 cB rfl))) (cZ (cq dz (ax (iK (K:=K) rfl) (by rfl) T.x2 dO (aE (ak 0))) aa (aT _)) (eM (ax (re (K:=K) rfl rfl) (by rfl) T.x7 lW (aE (aQ ["number"] [] [] 1 (bB (K:=K) rfl (ak 0)) (λnd=>(ai 0 nd)) aG (ac aB (mY T) hr (aE (ak 0)))))))))))),?_⟩;refine⟨_,rfl,_,_,_,true,rfl,hx.ty,(show eQ "tuple" "tuple"=some true by decide +kernel),_,rfl,bj ?_⟩;obtain⟨a,xs,rfl,ha,hds⟩:=aZ (b:=false) hx;have hl:=hds.length;refine⟨_,rfl,a,_,rfl,mj ha,_,_,rfl,rfl,true,nN (by rw[<- hl];rfl),bj ?_⟩;have sh:∀ z:Rat,shB (rD z)=true:=λz=>(show Ok (z.num.natAbs+z.den) z.num z.den from⟨by have:=z.den_pos;lia,z.reduced,by unfold Sm;exact Ls (TH) (QB (by decide) (Pg _ _)),by unfold Sm;exact Ls (TH) (QB (by decide) (Nat.le_add_left _ _))⟩).shB
  refine⟨_,rfl,a,false,rfl,⟨_,ha⟩,lE (f:=λd=>.bool (shB d)) ha hds (by show 3<=1000;decide) (λi d x H2 hd s2 hx2 R kk S=>?_) (λys H2 s2 hys D hD=>?_)⟩
  ·exact bj (B:=S H2) ⟨_,rfl,x,d,rfl,hx2,kk _ _ ⟨af.refl _,.bl _⟩⟩
  ·have hys:ay K H2 (([rD p,rD r,rD t].map shB).map TJ) ys:=by rw[NK];exact hys
   have e:=fZ hys;subst e;refine⟨D,_,rfl,bE.of ae,?_⟩;have e:([rD p,rD r,rD t].map shB).all id=true:=by
    show(shB (rD p)&&(shB (rD r)&&(shB (rD t)&&true)))=true;rw[sh p,sh r,sh t];rfl
   rw[e];exact q _ (s2.trans (af.new hD))
theorem Aj:av oR oR (ag pA):=dD
inductive AI (K:HD)(vs:List V)(H:Hp)(Q:VK)(_:XK):Prop
 |mk (x k r) (_:vs=[x]) (_:aA K H (h_ k r) x) (_:R3.In r 4000) (_:∀ H',af H H'->Q (.bl true) H')
theorem zI (T:df K mg w):dm P w K mg base c5 3 "is_row" oR [] (AI K):=by
  refine T.x16.cal Aj (bb:=λ_ _ _ _ _ H vs Q E hr h=>?_);obtain⟨x,k,r,rfl,hx,hin,q⟩:=h;refine⟨_,(cQ.go (ab (bn (WW.pt (eG (a_ (bg (ax (BK (K:=K) rfl) (by rfl) T.x0 aK (aH (ak 0) (bT (aH (bJ (v:=.ty "list") rfl T.x6 hV rfl) (bJ (v:=.ty "tuple") rfl T.x3 cB rfl))))))) (eO (aN mF (ax (iK (K:=K) rfl) (by rfl) T.x2 dO (aE (ak 0))) aa (aT _))))) (ah (au eX)) aM)
   (ah (au (ax (re (K:=K) rfl rfl) (by rfl) T.x7 lW (aE (aQ ["number"] [] [] 1 (bB (K:=K) rfl (ak 0)) (λnd=>(ai 0 nd)) aG (ac aB (du T) hr (aj (ak 0) (aj (CZ Cz (fK rfl T.xd)) (aj (fK rfl T.xd) aU))))))))))),?_⟩
  refine⟨_,rfl,vB,λp hp=>?_⟩;have s1:af H (upd H p (.tup [.ty "list",.ty "tuple"])):=af.new hp;generalize hH1:upd H p (.tup [.ty "list",.ty "tuple"])=H1 at s1 ⊢;have hp1:H1 p=some (.tup [.ty "list",.ty "tuple"]):=by rw[<- hH1];exact ae
  have hx1:=aA.same s1 hx;obtain⟨T',ty,ek⟩:=CL hx1;refine⟨_,_,p,_,_,true,rfl,ty,hp1,ek,_,rfl,bI ?_⟩;obtain⟨a,rfl,ha⟩:=gB hx1;refine⟨_,rfl,a,_,rfl,mj ha,_,_,rfl,rfl,_,rfl,bI ?_⟩;obtain⟨a',xs,e',hs',hds⟩:=aZ hx1;cases e';refine⟨_,rfl,a,k,rfl,⟨_,hs'⟩,lE (f:=λd=>.bool (DW (-4000) 4000 d)) hs' hds (by show 3<=1000;decide) (λi d x H2 hd s2 hx2 R kk S=>?_) (λys H2 s2 hys D hD=>?_)⟩
  ·exact bj (B:=S H2) ⟨_,rfl,_,rfl,x,d,-4000,4000,rfl,hx2,kk _ _ ⟨af.refl _,.bl _⟩⟩
  ·have hys:ay K H2 ((r.ds.map (DW (-4000) 4000)).map TJ) ys:=by rw[NK];exact hys
   have e:=fZ hys;subst e;refine⟨D,_,rfl,bE.of ae,?_⟩;have e:(r.ds.map (DW (-4000) 4000)).all id=true:=by
    obtain⟨a1,a2,b1,b2,c1,c2⟩:=hin;show((decide (-4000<=r.a)&&decide (r.a<=4000))&&((decide (-4000<=r.b)&&decide (r.b<=4000))&&((decide (-4000<=r.c)&&decide (r.c<=4000))&&true)))=true;rw[Lj a1,Lj a2,Lj b1,Lj b2,Lj c1,Lj c2];rfl
   rw[e];exact q _ ((s1.trans s2).trans (af.new hD))
theorem tP:av oR oR (ag jo):=dD
inductive t9 (K:HD)(vs:List V)(H:Hp)(Q:VK)(_:XK):Prop
 |mk (x:V) (s:S9) (_:vs=[x]) (_:aA K H s.d x) (_:s.In) (_:∀ H',af H H'->Q (.bl true) H')
theorem sG (T:df K mg w):dm P w K mg base c5 4 "is_square" oR [] (t9 K):=by
  refine T.x17.cal tP (bb:=λ_ _ _ _ _ H vs Q E hr h=>?_);obtain⟨x,sq,rfl,hx,hin,q⟩:=h;refine⟨_,(cQ.go (ah (au (cZ (ax (BK (K:=K) rfl) (by rfl) T.x0 aK (aH (ak 0) (bT (aH (bJ (v:=.ty "list") rfl T.x6 hV rfl) (bJ (v:=.ty "tuple") rfl T.x3 cB rfl))))) (cZ (cq dz (ax (iK (K:=K) rfl) (by rfl) T.x2 dO (aE (ak 0))) aa (aT _)) (eM (ax (re (K:=K) rfl rfl) (by rfl) T.x7 lW (aE (aQ ["row"] [] [] 1 (bB (K:=K) rfl (ak 0)) (λnd=>(ai 0 nd)) aG (ac aB (zI T) hr (aE (ak 0)))))))))))),?_⟩;refine⟨_,rfl,vB,λp hp=>?_⟩;have s1:af H (upd H p (.tup [.ty "list",.ty "tuple"])):=af.new hp;generalize hH1:upd H p (.tup [.ty "list",.ty "tuple"])=H1 at s1 ⊢;have hp1:H1 p=some (.tup [.ty "list",.ty "tuple"]):=by rw[<- hH1];exact ae
  have hx1:=aA.same s1 hx;obtain⟨T',ty,ek⟩:=CL hx1;refine⟨_,_,p,_,_,true,rfl,ty,hp1,ek,_,rfl,bj ?_⟩;obtain⟨a,xs,rfl,ha,hds⟩:=aZ hx1;have hl:=hds.length;refine⟨_,rfl,a,_,rfl,mj ha,_,_,rfl,rfl,true,nN (by rw[<- hl];rfl),bj ?_⟩;refine⟨_,rfl,a,sq.k,rfl,⟨_,ha⟩,lE (f:=λ_=>.bool true) ha hds (by show 3<=1000;decide) (λi d x H2 hd s2 hx2 R kk S=>?_) (λys H2 s2 hys D hD=>?_)⟩
  ·refine bj (B:=S H2) ⟨_,rfl,?_⟩
   match i,hd with
   |0,hd=>cases(K8 hd);exact⟨x,_,_,rfl,hx2,hin.x,λH' s'=>kk _ _ ⟨s',.bl _⟩⟩
   |1,hd=>cases(K8 hd);exact⟨x,_,_,rfl,hx2,hin.y,λH' s'=>kk _ _ ⟨s',.bl _⟩⟩
   |2,hd=>cases(K8 hd);exact⟨x,_,_,rfl,hx2,hin.z,λH' s'=>kk _ _ ⟨s',.bl _⟩⟩
   |n+3,hd=>simp[S9.rows] at hd
  ·have e:=fZ (bs:=[true,true,true]) hys;subst e;exact⟨D,[true,true,true],rfl,bE.of ae,q _ ((s1.trans s2).trans (af.new hD))⟩
theorem jM:av oR oR (ag dA):=dD
inductive jQ (K:HD)(vs:List V)(H:Hp)(Q:VK)(_:XK):Prop
 |mk (x:V) (s:S9) (_:vs=[x]) (_:aA K H s.d x) (_:s.In) (_:∀ H',af H H'->Q .non H')
theorem jR (T:df K mg w):dm P w K mg base c5 5 "refuse_no_square" oR [] (jQ K):=by
  refine T.x18.cal jM (bb:=λ_ _ _ _ _ H vs Q E hr h=>?_);obtain⟨x,sq,rfl,hx,hin,q⟩:=h;refine⟨_,(cQ.go (ah (bn (a_ (bg (ac aB (sG T) hr (aE (ak 0))))) (ah cz) aM))),?_⟩;exact⟨_,rfl,x,sq,rfl,hx,hin,λH' s'=>⟨_,rfl,bI (q _ s')⟩⟩
theorem jN:av oR oR (ag dn):=dD
inductive jO (K:HD)(vs:List V)(H:Hp)(Q:VK)(_:XK):Prop
 |mk (x:V) (p r t:Rat) (_:vs=[x]) (_:aA K H (Ii p r t) x) (_:∀ H',af H H'->Q .non H')
theorem jJ (T:df K mg w):dm P w K mg base c5 4 "refuse_no_colour" oR [] (jO K):=by
  refine T.x19.cal jN (bb:=λ_ _ _ _ _ H vs Q E hr h=>?_);obtain⟨x,p,r,t,rfl,hx,q⟩:=h;refine⟨_,(cQ.go (ah (bn (a_ (bg (ac aB (kY T) hr (aE (ak 0))))) (ah cz) aM))),?_⟩;exact⟨_,rfl,x,p,r,t,rfl,hx,λH' s'=>⟨_,rfl,bI (q _ s')⟩⟩
theorem wX:av tR tR (ag mr):=dD
inductive xH (K:HD)(vs:List V)(H:Hp)(Q:VK)(_:XK):Prop
 |mk (x y:V) (k j:Bool) (r s:R3) (_:vs=[x,y]) (_:aA K H (h_ k r) x) (_:aA K H (h_ j s) y) (_:r.In 4000) (_:s.In 4000) (_:∀ v H',af H H'->aA K H' (h_ true (r.cross s)) v->Q v H')
theorem il (T:df K mg w):dm P w K mg base c5 1 "crossed" tR [] (xH K):=by
  refine T.x1a.cal wX (bb:=λ_ _ _ _ _ H vs Q E hr h=>?_);obtain⟨x,y,k,j,r,z,rfl,hx,hy,ir,iz,q⟩:=h;obtain⟨a,rfl,ha⟩:=gB hx;obtain⟨b,rfl,hb⟩:=gB hy;refine⟨_,(cQ.go (ah (au (bN (aj (ar c_ (ar aS (aw K (ak 0) aa) (aw K (ak 1) aa)) (ar aS (aw K (ak 0) aa) (aw K (ak 1) aa))) (aj (ar c_ (ar aS (aw K (ak 0) aa) (aw K (ak 1) aa)) (ar aS (aw K (ak 0) aa) (aw K (ak 1) aa))) (aj (ar c_ (ar aS (aw K (ak 0) aa) (aw K (ak 1) aa)) (ar aS (aw K (ak 0) aa) (aw K (ak 1) aa))) aU))))))),?_⟩;have c:∀ {u v:Int},-4000<=u->u<=4000->oS u v:=λh1 h2=>.inr ((iO h1 h2).mono (by decide))
  refine⟨_,rfl,lK (i:=1) ha rfl ⟨_,rfl,lK (i:=2) hb rfl ⟨_,_,rfl,rfl,c ir.b1 ir.b2,_,rfl,lK (i:=2) ha rfl ⟨_,rfl,lK (i:=1) hb rfl ⟨_,_,rfl,rfl,c ir.c1 ir.c2,_,_,rfl,rfl,?_⟩⟩⟩⟩⟩;refine⟨_,rfl,lK (i:=2) ha rfl ⟨_,rfl,lK (i:=0) hb rfl ⟨_,_,rfl,rfl,c ir.c1 ir.c2,_,rfl,lK (i:=0) ha rfl ⟨_,rfl,lK (i:=2) hb rfl ⟨_,_,rfl,rfl,c ir.a1 ir.a2,_,_,rfl,rfl,?_⟩⟩⟩⟩⟩;refine⟨_,rfl,lK (i:=0) ha rfl ⟨_,rfl,lK (i:=1) hb rfl ⟨_,_,rfl,rfl,c ir.a1 ir.a2,_,rfl,lK (i:=1) ha rfl ⟨_,rfl,lK (i:=0) hb rfl ⟨_,_,rfl,rfl,c ir.b1 ir.b2,_,_,rfl,rfl,?_⟩⟩⟩⟩⟩;refine⟨Fm,λp hp=>?_⟩;exact q _ _ (af.new hp) (aA.listN (ds:=(r.cross z).ds) hp (.cons (.int _) (.cons (.int _) (.cons (.int _) .nil))))
theorem lI:av uC1 uC1 (ag jt):=dD
inductive tI (K:HD)(vs:List V)(H:Hp)(Q:VK)(_:XK):Prop
 |mk (x y:V) (k j:Bool) (r s:R3) (_:vs=[x,y]) (_:aA K H (h_ k r) x) (_:aA K H (h_ j s) y) (_:r.In 4000) (_:s.In 200000000) (_:∀ H',af H H'->Q (.int (r.dot s)) H')
theorem rQ (T:df K mg w):dm P w K mg base c5 1 "whole_sum" uC1 [] (tI K):=by
  refine T.xl.cal lI (bb:=λ_ _ _ _ _ H vs Q E hr h=>?_);obtain⟨x,y,k,j,r,z,rfl,hx,hy,ir,iz,q⟩:=h;obtain⟨a,xs,rfl,ha,hxs⟩:=aZ hx;obtain⟨b,ys,rfl,hb,hys⟩:=aZ hy;have s40:∀ {u v:Int},-4000<=u->u<=4000->-200000000<=v->v<=200000000->Sm 60 (u*v):=λh1 h2 h3 h4=>((iO h1 h2).mul (show Sm 28 _ by unfold Sm;lia)).mono (by decide)
  refine⟨_,(cQ.go (ah (au (ax (Gh (K:=K) rfl rfl) (by rfl) T.xc yf (aE (aQ ["part","number"] [] [] 2 (gM (K:=K) rfl rfl T.x5 (aH (ak 0) (ak 1))) (λnd=>(bZ (K:=K) (n:=2) rfl rfl (ao (ai 0 nd) (ao (ai 1 nd) aX)))) aG (ar aS (ak 0) (ak 1)))))))),?_⟩;refine⟨_,rfl,_,rfl,a,b,k,j,rfl,⟨_,ha⟩,⟨_,hb⟩,fH (fs:=(R3.mk (r.a*z.a) (r.b*z.b) (r.c*z.c)).ds) ha hb hxs hys rfl rfl (by show 3<=1000;decide) (λi d e f u v T H1 hd he hf s1 hu hv hT R kk S=>?_) (λzs H1 s1 hzs D hD=>?_)⟩
  ·refine⟨T,_,rfl,dk.of hT,rfl,_,_,rfl,_,_,rfl,rfl,bj (B:=S H1) ?_⟩;rcases uU hd with ⟨rfl,rfl⟩|⟨rfl,rfl⟩|⟨rfl,rfl⟩
   ·cases(K8 he);cases(K8 hf);cases hu;cases hv;exact⟨_,rfl,_,rfl,_,_,rfl,rfl,.inr ((iO ir.a1 ir.a2).mono (by decide)),kk _ _ ⟨af.refl _,.int _⟩⟩
   ·cases(K8 he);cases(K8 hf);cases hu;cases hv;exact⟨_,rfl,_,rfl,_,_,rfl,rfl,.inr ((iO ir.b1 ir.b2).mono (by decide)),kk _ _ ⟨af.refl _,.int _⟩⟩
   ·cases(K8 he);cases(K8 hf);cases hu;cases hv;exact⟨_,rfl,_,rfl,_,_,rfl,rfl,.inr ((iO ir.c1 ir.c2).mono (by decide)),kk _ _ ⟨af.refl _,.int _⟩⟩
  ·cases fI hzs;exact⟨D,_,_,_,rfl,bE.of ae,s40 ir.a1 ir.a2 iz.a1 iz.a2,s40 ir.b1 ir.b2 iz.b1 iz.b2,s40 ir.c1 ir.c2 iz.c1 iz.c2,q _ (s1.trans (af.new hD))⟩
inductive pF (K:HD)(vs:List V)(H:Hp)(Q:VK)(_:XK):Prop
 |mk (a b:Lg) (k j:Bool) (ns ms:List Int) (_:vs=[.ref a,.ref b]) (_:bY K H a (ns.map V.int) k) (_:bY K H b (ms.map V.int) j) (_:ns.length=ms.length) (_:ns.length<=1000) (_:(∀ n∈ns,Sm 8000 n)) (_:(∀ m∈ms,Sm 8000 m)) (_:∀ H',af H H'->Q (.int (OO (·*·) ns ms).sum) H')
theorem iQ (T:df K mg w):dm P w K mg base c5 1 "whole_sum" uC1 [] (pF K):=by
  refine T.xl.cal lI (bb:=λ_ _ _ _ _ H vs Q E hr h=>?_);obtain⟨a,b,k,j,ns,ms,rfl,ha,hb,hl,h10,sn,sm,q⟩:=h;refine⟨_,(cQ.go (ah (au (ax (C5 (K:=K) rfl rfl) (by rfl) T.xc yf (aE (aQ ["part","number"] [] [] 2 (gM (K:=K) rfl rfl T.x5 (aH (ak 0) (ak 1))) (λnd=>(bZ (K:=K) (n:=2) rfl rfl (ao (ai 0 nd) (ao (ai 1 nd) aX)))) aG (ar aS (ak 0) (ak 1)))))))),?_⟩;refine⟨_,rfl,_,rfl,a,b,k,j,rfl,⟨_,ha⟩,⟨_,hb⟩,fH (fs:=(OO (·*·) ns ms).map N9) ha hb (fQ ns) (fQ ms) (by simp[hl]) (by simp[hl]) (by simp;lia) (λi d e g x y T H1 hd he hg s1 hx hy hT R kk S=>?_) (λzs H1 s1 hzs D hD=>?_)⟩
  ·rw[Lk] at hd he hg;obtain⟨n,en,rfl⟩:=Lx.mp hd;obtain⟨m,em,rfl⟩:=Lx.mp he;obtain⟨z,ez,rfl⟩:=Lx.mp hg;rw[Qy] at ez;obtain⟨n',m',en',em',rfl⟩:=ez;rw[en] at en';rw[em] at em';cases en';cases em';cases hx;cases hy;exact⟨T,_,rfl,dk.of hT,rfl,_,_,rfl,_,_,rfl,rfl,bj (B:=S H1) ⟨_,rfl,_,rfl,_,_,rfl,rfl,.inl ⟨sn _ (Lq en),sm _ (Lq em)⟩,kk _ _ ⟨af.refl _,.int _⟩⟩⟩
  ·have e:=cn hzs;subst e;exact⟨D,_,rfl,bE.of ae,q _ (s1.trans (af.new hD))⟩
theorem Ae:av ["square"] ["square"] (ag oW):=dD
inductive zS (K:HD)(vs:List V)(H:Hp)(Q:VK)(_:XK):Prop
 |mk (x:V) (s:S9) (_:vs=[x]) (_:aA K H s.d x) (_:s.In) (_:∀ H',af H H'->Q (.int s.det) H')
theorem qS (T:df K mg w):dm P w K mg base c5 6 "volume" ["square"] [] (zS K):=by
  refine T.x1b.cal Ae (bb:=λ_ _ _ _ _ H vs Q E hr h=>?_);obtain⟨x,sq,rfl,hx,hin,q⟩:=h;refine⟨_,(cQ.go (ab (cm (ac aB (jR T) hr (aE (ak 0))))
   (ah (au (ac aB (rQ T) hr (aH (aw K (ak 0) aa) (ac aB (il T) hr (aH (aw K (ak 0) aa) (aw K (ak 0) aa))))))))),?_⟩
  refine⟨_,rfl,x,sq,rfl,hx,hin,λH1 s1=>?_⟩;have hx1:=aA.same s1 hx;obtain⟨a,xs,rfl,ha,hds⟩:=aZ hx1;obtain⟨x0,x1,x2,rfl,g0,g1,g2⟩:=cW hds;refine⟨_,rfl,lK (i:=0) ha rfl ⟨_,rfl,lK (i:=1) ha rfl ⟨_,rfl,lK (i:=2) ha rfl ⟨x1,x2,_,_,sq.y,sq.z,rfl,g1,g2,hin.y,hin.z,λv H2 s2 hv=>?_⟩⟩⟩⟩;refine⟨x0,v,_,true,sq.x,sq.y.cross sq.z,rfl,aA.same s2 g0,hv,hin.x,?_,λH3 s3=>?_⟩
  ·exact f9 hin.y hin.z
  ·have e:sq.x.dot (sq.y.cross sq.z)=sq.det:=by
    simp only[R3.dot,R3.cross,S9.det];grind
   rw[e];exact q _ ((s1.trans s2).trans s3)
theorem uy:av oR oR (ag j6):=dD
inductive uC (K:HD)(vs:List V)(H:Hp)(Q:VK)(_:XK):Prop
 |mk (x:V) (d:LU) (_:vs=[x]) (_:aA K H d x) (_:Q (.bl (DW 2 7 d)) H)
theorem uQ (T:df K mg w):dm P w K mg base c5 3 "is_knots" oR [] (uC K):=by
  refine T.x1c.cal uy (bb:=λ_ _ _ _ _ H vs Q E hr h=>?_);obtain⟨x,d,rfl,hx,q⟩:=h;refine⟨_,(cQ.go (ah (au (ac aB (du T) hr (aj (ak 0) (aj (fK rfl T.xn) (aj (fK rfl T.xp) aU))))))),?_⟩;exact⟨_,rfl,x,d,2,7,rfl,hx,q⟩
theorem wG:av uA3 uA3 (ag mn):=dD
inductive xK (K:HD)(vs:List V)(H:Hp)(Q:VK)(_:XK):Prop
 |mk (x:V) (ns:List Int) (n:Int) (_:vs=[x,.int n]) (_:aA K H (.tuple (ns.map N9)) x) (_:ns.length=3) (_:∀ H',af H H'->Q (.bl (ns.all λk=>decide (0<=k)&&decide (k<=n-1))) H')
theorem qd (T:df K mg w):dm P w K mg base c5 4 "is_knot" uA3 [] (xK K):=by
  refine T.x1d.cal wG (bb:=λ_ _ _ _ _ H vs Q E hr h=>?_);obtain⟨x,ns,n,rfl,hx,hl,q⟩:=h;refine⟨_,(cQ.go (ah (au (ac aB (fV T) hr (aj (ak 0) (aj aa (aj aa (aj (ar c_ (ak 1) aa) aU)))))))),?_⟩;exact⟨_,rfl,_,rfl,_,_,rfl,rfl,x,ns,3,0,n-1,rfl,hx,by lia,by lia,q⟩
theorem uE:av oR oR (ag kq):=dD
inductive uj (K:HD)(vs:List V)(H:Hp)(Q:VK)(_:XK):Prop
 |mk (x:V) (ns:List Int) (_:vs=[x]) (_:aA K H (.tuple (ns.map N9)) x) (_:ns.length=3) (_:∀ H',af H H'->Q (.bl (ns.all λk=>decide (0<=k)&&decide (k<=1000))) H')
theorem uH (T:df K mg w):dm P w K mg base c5 4 "is_worth" oR [] (uj K):=by
  refine T.x1e.cal uE (bb:=λ_ _ _ _ _ H vs Q E hr h=>?_);obtain⟨x,ns,rfl,hx,hl,q⟩:=h;refine⟨_,(cQ.go (ah (au (ac aB (fV T) hr (aj (ak 0) (aj aa (aj aa (aj (fK rfl T.xo) aU)))))))),?_⟩;exact⟨_,rfl,x,ns,3,0,1000,rfl,hx,by lia,by lia,q⟩
theorem Cn:av ["knots"] ["knots"] (ag tG):=dD
inductive By (K:HD)(vs:List V)(H:Hp)(Q:VK)(_:XK):Prop
 |mk (n:Nat) (_:vs=[.int n]) (_:2<=n) (_:n<=7) (_:Q (.int (dW n)) H)
theorem Bs (T:df K mg w):dm P w K mg base c5 1 "apart" ["knots"] [] (By K):=by
  refine T.x1f.cal Cn (bb:=λ_ _ _ _ _ H vs Q E hr h=>?_);obtain⟨n,rfl,h2,h7,q⟩:=h;refine⟨_,(cQ.go (ah (au (ar cT (fK rfl T.xe) (ar c_ (ak 0) aa))))),?_⟩;refine⟨_,rfl,_,_,rfl,rfl,_,_,rfl,rfl,⟨by lia,Sm.mono (k:=20) (by unfold Sm;lia) (by decide)⟩,?_⟩;dsimp only;rw[MC _ (by lia)];exact q
theorem vI:av uA3 uA3 (ag kK):=dD
inductive uu (K:HD)(vs:List V)(H:Hp)(Q:VK)(_:XK):Prop
 |mk (d:Lg) (n:Nat) (f:Kn->R3) (_:vs=[.ref d,.int n]) (_:Gr K H n f d) (_:Be n f) (_:n<=7) (_:∀ H',af H H'->Q (.bl true) H')
theorem vn (T:df K mg w):dm P w K mg base c5 5 "is_table" uA3 [] (uu K):=by
  refine T.x1g.cal vI (bb:=λ_ _ _ _ _ H vs Q E hr h=>?_);obtain⟨d,n,f,rfl,hg,hw,h7,q⟩:=h;obtain⟨ts,pm,vs,hd,hvs⟩:=hg;have hlen:=An.len hvs;have kl:(kM ts vs).length=n^3:=by rw[tO hlen,pm.length_eq,fB]
  have n3:n^3<=7^3:=Om h7 3;refine⟨_,(cQ.go (ab (bn (WW.pt (eG (a_ (bg (ax (gt (K:=K) rfl) (by rfl) T.x0 aK (aH (ak 0) (bJ (v:=.ty "dict") rfl T.xh yQ rfl))))) (eO (aN mF (ax AW (by rfl) T.x2 dO (aE (ak 0))) (ar C7 (ak 1) aa) (aT _))))) (ah (au eX)) aM)
   (ah (au (ax (re (K:=K) rfl rfl) (by rfl) T.x7 lW (aE (Dz (aQ ["place","worth"] ["knots"] [1] 2 (zu (ak 0)) (λnd=>(bZ (K:=K) (n:=2) rfl rfl (ao (ai 0 nd) (ao (ai 1 nd) aX)))) aG (cZ (ac aB (qd T) hr (aH (ak 0) (ak 2))) (eM (ac aB (uH T) hr (aE (ak 1))))))))))))),?_⟩
  refine⟨_,rfl,_,_,_,true,rfl,.dT hd,(show eQ "dict" "dict"=some true by decide +kernel),_,rfl,bI ?_⟩;refine⟨_,rfl,d,_,rfl,.inl hd,_,rfl,_,_,rfl,rfl,⟨by decide,by decide,by lia⟩,_,_,rfl,rfl,false,?_,bI ?_⟩
  ·show V.bl (!decide (((kM ts vs).length:Int)=(n:Int)^(3:Int).toNat))=_;rw[kl,Lj (by show((n^3:Nat):Int)=(n:Int)^3;simp)];rfl
  refine⟨_,rfl,d,_,rfl,hd,λo=>wj (d:=d) (bs:=LD (kM ts vs).length true) ae (by simp) (by lia) (λi k x ka T b H1 hk hb s1 hka hT R kk S=>?_) (λH1 s1 D hD=>?_)⟩
  ·obtain⟨t,e1,rfl,e2⟩:=FE hk;have hb:b=true:=by
    rw[PL] at hb
    split at hb
    ·exact(K8 hb).symm
    ·cases hb
   subst hb;have ht:t∈aW n:=pm.mem_iff.mp (Lq e1);have hm:=bV.mp ht;have wt:=hw t ht;have hx:aA K H1 (wD (f t)) x:=by
    obtain⟨dd,ed,hx⟩:=hvs.get e2;rw[Lk,e1] at ed;cases ed;have hT':aA K (upd H d (.frz o (.dT (kM ts vs)))) (wD (f t)) x:=by
     obtain⟨a,xs,rfl,ha,hxs⟩:=aZ (b:=false) (ds:=(f t).ds) hx;have hx':aA K H (.tuple (f t).ds) (.ref a):=hx;cases hx' with
     |tup h1 h2=>exact .tup (by rw[aq (λz=>by rw[z,hd] at h1;cases h1)];exact h1) (by cases fI h2;exact .cons (.int _) (.cons (.int _) (.cons (.int _) .nil)))
    exact aA.same s1 hT'
   have e3:([(t.1:Int),(t.2.1:Int),(t.2.2:Int)].all λk=>decide (0<=k)&&decide (k<=(n:Int)-1))=true:=by
    simp only[RS,UJ,QG,L4,No];lia
   have e4:([(f t).a,(f t).b,(f t).c].all λk=>decide (0<=k)&&decide (k<=1000))=true:=by
    obtain⟨a0,a1,b0,b1,c0,c1⟩:=wt;simp only[RS,UJ,QG,L4,No];lia
   refine⟨T,_,rfl,dk.of hT,rfl,_,_,rfl,_,_,rfl,rfl,bj (B:=S H1) ?_⟩;refine⟨_,rfl,_,rfl,.ref ka,[(t.1:Int),(t.2.1:Int),(t.2.2:Int)],n,rfl,gC hka,rfl,λH2 s2=>⟨true,by rw[e3],bj ?_⟩⟩;exact⟨_,rfl,x,[(f t).a,(f t).b,(f t).c],rfl,aA.same s2 hx,rfl,λH3 s3=>by rw[e4];exact kk _ _ ⟨s2.trans s3,rfl⟩⟩
  ·have nd:D≠d:=λz=>by rw[z,s1 _ _ ae] at hD;cases hD
   refine⟨d,o,kM ts vs,hd,by rw[aq (NF nd)];exact s1 _ _ ae,D,_,rfl,bE.of (by rw[aq nd];exact ae),?_⟩;rw[show(LD (kM ts vs).length true).all id=true by simp];refine q _ λb u e=>?_
   by_cases hb:b=d
   ·subst hb;rw[hd] at e;cases e;exact ae
   ·rw[aq hb];have e':=s1 b u (by rw[aq hb];exact e);rw[aq (λz=>by rw[z,hD] at e';cases e')];exact e'
theorem f7:av oR oR (ag b8):=dD
inductive fR (K:HD)(vs:List V)(H:Hp)(Q:VK)(_:XK):Prop
 |mk (x:V) (c:Q3) (_:vs=[x]) (_:aA K H c.col x) (_:c.Wi ((60:Int):Rat)) (_:c.Bd 3000) (_:∀ H',af H H'->Q .non H')
theorem p8 {p:Rat}{m:Int}(h0:0<=p)(h1:p<=(m:Rat)):(decide (0*(p.den:Int)<=p.num)&&decide (p.num<=m*(p.den:Int)))=true:=by
 have e1:decide (0*(p.den:Int)<=p.num)=true:=Lj (by rw[Int.zero_mul];exact Rat.num_nonneg.mpr h0);have e2:decide (p.num<=m*(p.den:Int))=true:=Lj (by
  have h:=(Rat.le_iff p (m:Rat)).mp h1;rw[Rat.num_intCast,Rat.den_intCast] at h
  simpa using h)
 rw[e1,e2];rfl
theorem f_ (T:df K mg w):dm P w K mg base c5 4 "refuse_no_device_colour" oR [] (fR K):=by
  refine T.x1h.cal f7 (bb:=λ_ _ _ _ _ H vs Q E hr h=>?_);obtain⟨x,c,rfl,hx,hw,hb,q⟩:=h;refine⟨_,(cQ.go (ah (bn (WW.pt (eG (a_ (bg (ac aB (kY T) hr (aE (ak 0))))) (eO (a_ (bg (ax (re (K:=K) rfl rfl) (by rfl) T.x7 lW (aE (aQ ["number"] [] [] 1 (bB (K:=K) rfl (ak 0)) (λnd=>(ai 0 nd)) aG (ac aB (sV T) hr (aj (ak 0) (aj aa (aj (fK rfl T.xe) aU)))))))))))) (ah cz) aM))),?_⟩;refine⟨_,rfl,x,c.a,c.b,c.c,rfl,hx,λH1 s1=>⟨_,rfl,bI ?_⟩⟩;obtain⟨a,xs,rfl,ha,hds⟩:=aZ (b:=false) (ds:=c.ds) (aA.same s1 hx);have s60:Sm 60 (60:Int):=by unfold Sm;decide
  have s00:Sm 60 (0:Int):=by unfold Sm;decide
  refine⟨_,rfl,a,false,rfl,⟨_,ha⟩,cA (es:=[.bool true,.bool true,.bool true]) ha hds rfl (by show 3<=1000;decide) (λi d e u H2 hd he s2 hu R kk S=>?_) (λzs H2 s2 hzs D hD=>?_)⟩
  ·refine bj (B:=S H2) ⟨_,rfl,?_⟩;rcases uU hd with ⟨rfl,rfl⟩|⟨rfl,rfl⟩|⟨rfl,rfl⟩
   ·cases(K8 he);exact⟨u,c.a,0,60,rfl,hu,hb.a.mono (by decide),s00,s60,by rw[p8 hw.a0 hw.a1];exact kk _ _ ⟨af.refl _,.bl _⟩⟩
   ·cases(K8 he);exact⟨u,c.b,0,60,rfl,hu,hb.b.mono (by decide),s00,s60,by rw[p8 hw.b0 hw.b1];exact kk _ _ ⟨af.refl _,.bl _⟩⟩
   ·cases(K8 he);exact⟨u,c.c,0,60,rfl,hu,hb.c.mono (by decide),s00,s60,by rw[p8 hw.c0 hw.c1];exact kk _ _ ⟨af.refl _,.bl _⟩⟩
  ·have e:=fZ (bs:=[true,true,true]) hzs;subst e;exact⟨D,_,rfl,bE.of ae,_,rfl,bI (q _ ((s1.trans s2).trans (af.new hD)))⟩
theorem iH:av ["many","numbers"] ["many"] (ag f6):=dD
inductive m9 (K:HD)(vs:List V)(H:Hp)(Q:VK)(_:XK):Prop
 |mk (n:Nat) (_:vs=[.int n]) (_:n<=7) (_:∀ (D:Lg) (ys:List V) (H':Hp),af H H'->H' D=some (.lst ys)->ay K H' ((aW n).map Fn) ys->Q (.ref D) H')
theorem iF (T:df K mg w):dm P w K mg base c5 1 "places_below" ["many"] [] (m9 K):=by
  refine T.x1i.cal iH (bb:=λ_ _ _ _ _ H vs Q E hr h=>?_);obtain⟨n,rfl,h7,q⟩:=h;refine⟨_,(cQ.go (ab (az 1 iH.nd (bW (tF rfl) (by rfl) T.x6 hV (aj (y9 rfl T.x4 (aE (ak 0))) aU)))
   (ah (au (lZ rfl (bB (K:=K) rfl (ak 1)) (lu (by decide +kernel) (by rfl)) (pQ (ts:=["a","b","c"]) (cs:=["numbers"]) (js:=[1]) (k:=3) (by rfl) rfl rfl) (λ_ _ _ _ _=>(ai 0 (show P6 (α:=Str) uC6 by decide +kernel))) (λ_ _ _ _ _=>aG) (λ_ _ _ _ _=>(lA rfl rfl rfl (bB (K:=K) rfl (ak 3)) (ai 1 (show P6 (α:=Str) uC6 by decide +kernel)) aG (lA rfl rfl rfl (bB (K:=K) rfl (ak 3)) (ai 2 (show P6 (α:=Str) uC6 by decide +kernel)) aG (pY rfl rfl (bT (aj (ak 0) (aj (ak 1) (aj (ak 2) aU))))))))))))),?_⟩
  refine⟨_,rfl,n,rfl,by lia,λp hp=>⟨p,n,rfl,ae,by lia,λl hl=>?_⟩⟩;have s0:af H (upd (upd H p (.rng 0 n)) l (.lst ((on n).map V.int))):=(af.new hp).trans (af.new hl);have hl0:bY K (upd (upd H p (.rng 0 n)) l (.lst ((on n).map V.int))) l ((on n).map V.int) true:=bE.of ae;generalize upd (upd H p (.rng 0 n)) l (.lst ((on n).map V.int))=H0 at s0 hl0 ⊢;refine⟨_,rfl,l,true,rfl,⟨_,hl0⟩,mD (xs:=(on n).map V.int) (λi ys H'=>af H0 H'/\ay K H' ((qw n i).map Fn) ys) ⟨af.refl _,.nil⟩ (λi ys H' _ p=>bY.same p.1 hl0) (λi x ys H1 hx p R kk S=>?_) (λys H1 p=>?_)⟩
  ·obtain⟨hi,rfl⟩:=rM hx;obtain⟨s1,d1⟩:=p;refine bj (B:=S H1) ⟨_,rfl,l,true,rfl,⟨_,bY.same s1 hl0⟩,lm (xs:=(on n).map V.int) (λj σ ys' H'=>(∃ o1 o2,σ=[some (.int i),o1,o2,some (.ref l)])/\af H0 H'/\ay K H' ((qw n i++qj n i j).map Fn) ys') ⟨⟨none,none,rfl⟩,s1,by simpa [qj] using d1⟩ (λj σ ys' H' _ p=>bY.same p.2.1 hl0) (λj x σ ys' H2 hx p R2 kk2 S2=>?_) (λσ ys' H2 p=>?_)⟩
   ·obtain⟨hj,rfl⟩:=rM hx;obtain⟨⟨o1,o2,rfl⟩,s2,d2⟩:=p;refine bj (B:=S2 [some (.int i),some (.int j),o2,some (.ref l)] H2) ⟨_,rfl,l,true,rfl,⟨_,bY.same s2 hl0⟩,lm (xs:=(on n).map V.int) (λk σ ys'' H'=>(∃ o2,σ=[some (.int i),some (.int j),o2,some (.ref l)])/\af H0 H'/\ay K H' ((qw n i++qj n i j++rh i j k).map Fn) ys'') ⟨⟨o2,rfl⟩,s2,by simpa [rh] using d2⟩ (λj σ ys' H' _ p=>bY.same p.2.1 hl0) (λk x σ ys'' H3 hx p R3 kk3 S3=>?_) (λσ ys'' H3 p=>?_)⟩
    ·obtain⟨hk,rfl⟩:=rM hx;obtain⟨⟨o3,rfl⟩,s3,d3⟩:=p;have hlen:=d3.length;rw[K'] at hlen;refine bj (B:=S3 [some (.int i),some (.int j),some (.int k),some (.ref l)] H3) ⟨bH (by rw[<- hlen];exact LM (DN h7 hi hj (Nx hk)) (by decide)),_,rfl,_,rfl,_,rfl,Fm,λp hp=>kk3 _ _ _ ⟨⟨_,rfl⟩,s3.trans (af.new hp),?_⟩⟩;rw[vH,<- NN,Mg];exact(ay.same (af.new hp) d3).snoc (gC (t:=(i,j,k)) ae)
    ·obtain⟨⟨o3,rfl⟩,s3,d3⟩:=p;rw[K',gh] at d3;exact kk2 _ _ _ ⟨⟨_,_,rfl⟩,s3,by rw[oJ,<- NN];exact d3⟩
   ·obtain⟨⟨o1,o2,rfl⟩,s2,d2⟩:=p;rw[K',gh] at d2;exact kk _ _ _ ⟨s2,by rw[oZ];exact d2⟩
  ·obtain⟨s1,d1⟩:=p;rw[K',gh,Ek] at d1;have hlen:=d1.length;rw[K',fB] at hlen;refine⟨?_,λD hD=>q D ys _ ((s0.trans s1).trans (af.new hD)) ae (ay.same (af.new hD) d1)⟩;have:n^3<=7^3:=Om h7 3;lia
theorem Cw:av uC7 uC7 (ag tu):=dD
inductive Bi (K:HD)(vs:List V)(H:Hp)(Q:VK)(_:XK):Prop
 |mk (a b:Lg) (ns ms:List Int) (_:vs=[.ref a,.ref b]) (_:dk K H a (ns.map V.int)) (_:dk K H b (ms.map V.int)) (_:ns.length=ms.length) (_:ns.length<=10) (_:∀ (p:Lg) (H':Hp),af H H'->H' p=some (.tup ((OO (·+·) ns ms).map V.int))->Q (.ref p) H')
theorem vw (T:df K mg w):dm P w K mg base c5 1 "moved" uC7 [] (Bi K):=by
  refine T.x1j.cal Cw (bb:=λ_ _ _ _ _ H vs Q E hr h=>?_);obtain⟨a,b,ns,ms,rfl,ha,hb,hl,h10,q⟩:=h;refine⟨_,(cQ.go (ah (au (bW (jE (K:=K) rfl) (by rfl) T.x3 cB (aE (aQ ["number","step"] [] [] 2 (gM (K:=K) rfl rfl T.x5 (aH (ak 0) (ak 1))) (λnd=>(bZ (K:=K) (n:=2) rfl rfl (ao (ai 0 nd) (ao (ai 1 nd) aX)))) aG (ar eh (ak 0) (ak 1)))))))),?_⟩;refine⟨_,rfl,_,rfl,a,b,false,false,rfl,⟨_,ha⟩,⟨_,hb⟩,fH (fs:=(OO (·+·) ns ms).map N9) (show bY K H a (ns.map V.int) false from ha) (show bY K H b (ms.map V.int) false from hb) (fQ ns) (fQ ms) (by simp[hl]) (by simp[hl]) (by simp;lia) (λi d e g x y T H1 hd he hg s1 hx hy hT R kk S=>?_) (λzs H1 s1 hzs D hD=>?_)⟩
  ·rw[Lk] at hd he hg;obtain⟨n,en,rfl⟩:=Lx.mp hd;obtain⟨m,em,rfl⟩:=Lx.mp he;obtain⟨z,ez,rfl⟩:=Lx.mp hg;rw[Qy] at ez;obtain⟨n',m',en',em',rfl⟩:=ez;rw[en] at en';rw[em] at em';cases en';cases em';cases hx;cases hy;exact⟨T,_,rfl,dk.of hT,rfl,_,_,rfl,_,_,rfl,rfl,bj (B:=S H1) ⟨_,rfl,_,rfl,_,_,rfl,rfl,kk _ _ ⟨af.refl _,.int _⟩⟩⟩
  ·have e:=cn hzs;subst e;exact⟨D,_,rfl,.inl ⟨bE.of ae,λl hl=>q _ _ ((s1.trans (af.new hD)).trans (af.new hl)) ae⟩⟩
theorem bK:av ["far","whole","corner","left","parts","way"] uA9 (ag b9):=dD
inductive hJ (K:HD)(vs:List V)(H:Hp)(Q:VK)(_:XK):Prop
 |mk (a:Lg) (x y z whole:Int) (_:vs=[.ref a,.int whole]) (_:bE K H a [.int x,.int y,.int z]) (_:v7 K "parts_by_four" H) (_:∀ (o:Nat×Nat×Nat) (D:Lg) (ys:List V) (H':Hp),o∈dG->aL x y z o.2.1<=aL x y z o.1->aL x y z o.2.2<=aL x y z o.2.1->af H H'->H' D=some (.lst ys)->ay K H' ((fX (aL x y z) whole o.1 o.2.1 o.2.2).map CK) ys->Q (.ref D) H')
theorem l_ (T:df K mg w):dm P w K mg base c5 2 "parts_by_four" uA9 [] (hJ K):=by
  refine T.x2f.cal bK (bb:=λ_ _ _ _ _ H vs Q E hcv hr h=>?_);obtain⟨a,x,y,z,whole,rfl,ha,⟨Pt,tb,hP⟩,q⟩:=h;obtain⟨c,rfl,hcd⟩:=hcv Pt tb;refine⟨_,(cQ.go (ab (az 2 bK.nd (bT (aj aa (aj aa (aj aa aU)))))
   (ab (az 3 bK.nd (ak 1))
   (ab (az 4 bK.nd (bN aU))
   (ab (di Ms rfl (bB (K:=K) rfl (vU (K:=K) (i:=0) rfl rfl hr rfl T.xk rfl hcd rfl rfl (y9 rfl T.x4 (aE aa)))) (ai 5 bK.nd) (ab (cm (rW On NI N_ jy (ak 4) (aE (bT (aH (ak 2) (ar c_ (ak 3) (aw K (ak 0) (ak 5))))))))
   (ab (az 2 bK.nd (ac aB (vw T) hr (aH (ak 2) (aw K (yM (K:=K) (rows:=[[1,0,0],[0,1,0],[0,0,1]]) rfl T.x2e) (ak 5)))))
   (ah (az 3 bK.nd (aw K (ak 0) (ak 5)))))))
   (ab (cm (rW On NI N_ jy (ak 4) (aE (bT (aH (ak 2) (ak 3))))))
   (ah (au (ak 4))))))))),?_⟩
  refine⟨Fm,λc0 hc0=>⟨_,rfl,by decide,λPa hPa=>⟨3,rfl,by decide,λrg hrg=>?_⟩⟩⟩;have s0:af H (upd (upd (upd H c0 (.tup [.int 0,.int 0,.int 0])) Pa (.lst [])) rg (.rng 0 3)):=((af.new hc0).trans (af.new hPa)).trans (af.new hrg);have gc:upd (upd (upd H c0 (.tup [.int 0,.int 0,.int 0])) Pa (.lst [])) rg (.rng 0 3) c0=some (.tup (fF (0,0,0))):=af.new hrg _ _ (af.new hPa _ _ ae);have gP:upd (upd (upd H c0 (.tup [.int 0,.int 0,.int 0])) Pa (.lst [])) rg (.rng 0 3) Pa=some (.lst []):=af.new hrg _ _ ae;have gr:upd (upd (upd H c0 (.tup [.int 0,.int 0,.int 0])) Pa (.lst [])) rg (.rng 0 3) rg=some (.rng 0 3):=ae;have fP:H Pa=none:=(af.new (o:=.tup [.int 0,.int 0,.int 0]) hc0).free hPa;generalize upd (upd (upd H c0 (.tup [.int 0,.int 0,.int 0])) Pa (.lst [])) rg (.rng 0 3)=H1 at s0 gc gP gr ⊢;refine⟨rg,3,a,[x,y,z],rfl,gr,by decide,rfl,s0.seq ha,rfl,s0 _ _ hP,λH2 D order s2 hD perm pw=>?_⟩;obtain⟨⟨u,v,w⟩,ho,rfl⟩:=GC perm;obtain⟨u3,v3,w3⟩:=rS ho;have p1:aL x y z v<=aL x y z u:=by
   have:=(Q8.mp pw).1 (v:Int) (by simp)
   rwa [jA u3,jA v3] at this
  have p2:aL x y z w<=aL x y z v:=by
   have:=(Q8.mp (Q8.mp pw).2).1 (w:Int) (by simp)
   rwa [jA v3,jA w3] at this
  have s3:af H (upd H2 D (.lst ([(u:Int),(v:Int),(w:Int)].map V.int))):=(s0.trans s2).trans (af.new hD);have hD3:bY K (upd H2 D (.lst ([(u:Int),(v:Int),(w:Int)].map V.int))) D [.int (u:Int),.int (v:Int),.int (w:Int)] true:=bE.of ae;have gc3:=(s2.trans (af.new (o:=.lst ([(u:Int),(v:Int),(w:Int)].map V.int)) hD)) _ _ gc;have gP3:=(s2.trans (af.new (o:=.lst ([(u:Int),(v:Int),(w:Int)].map V.int)) hD)) _ _ gP;have DP:D≠Pa:=λz=>by rw[z,s2 _ _ gP] at hD;cases hD
  generalize upd H2 D (.lst ([(u:Int),(v:Int),(w:Int)].map V.int))=H3 at s3 hD3 gc3 gP3 ⊢;have fr:∀ {H':Hp},Mv [Pa] H3 H'->∀ b o,H3 b=some o->b≠Pa->H' b=some o:=λm b o e n=>m b o e (by simp[n])
  have sq:∀ {H':Hp},Mv [Pa] H3 H'->bE K H' a [.int x,.int y,.int z]:=λ{H'} m=>by
   have aP:∀ o,H a=some o->H' a=some o:=λo e=>m _ _ (s3 _ _ e) (λz=>by rw[Lo.mp z,fP] at e;cases e)
   rcases ha with (h|⟨o,h⟩)|h
   ·exact .inl (.inl (aP _ h))
   ·exact .inl (.inr ⟨o,aP _ h⟩)
   ·exact .inr h
  have hlD:∀ {H':Hp},Mv [Pa] H3 H'->bY K H' D [.int (u:Int),.int (v:Int),.int (w:Int)] true:=λ{H'} m=>by
   rcases hD3 with (h|⟨o,h⟩)|h
   ·exact .inl (.inl (fr m _ _ h DP))
   ·exact .inl (.inr ⟨o,fr m _ _ h DP⟩)
   ·exact .inr h
  have gR:∀ (g:Nat) (cc:Kn) (left:Int) (ps:List Pc) (H4:Hp) (ca:Lg) (ys:List V),g < 3->Mv [Pa] H3 H4->H4 ca=some (.tup (fF cc))->H4 Pa=some (.lst ys)->ay K H4 (ps.map CK) ys->ps.length <= 10 ->
    ∀ R:Hp->Lg->List V->Prop,(∀ H5 cb zs,Mv [Pa] H3 H5->H5 cb=some (.tup (fF (am cc (un g))))->H5 Pa=some (.lst zs)->ay K H5 ((ps++[(cc,left-aL x y z g)]).map CK) zs->R H5 cb zs) ->
    ∀ p,H4 p=none->(∀ sa,zP K sa [[1,0,0],[0,1,0],[0,0,1]]->∃ (bs:List V) (b:Lg),KT K sa bs/\DV bs (g:Int)=some (.ref b)/\KT K b (fF (un g))) /\
     ∀ cb H5,af (upd (upd H4 p (.tup [.ref ca,.int (left-aL x y z g)])) Pa (.lst (ys++[.ref p]))) H5->H5 cb=some (.tup (fF (am cc (un g))))->R H5 cb (ys++[.ref p]):=by
   intro g cc left ps H4 ca ys g3 m4 hca hPa4 hys hpl R kk p hp;refine⟨λsa hs=>BD hs g3,λcb H5 s5 hcb=>?_⟩;have pP:p≠Pa:=λz=>by rw[z,hPa4] at hp;cases hp
   have m5:Mv [Pa] H4 (upd (upd H4 p (.tup [.ref ca,.int (left-aL x y z g)])) Pa (.lst (ys++[.ref p]))):=λb o e n=>by
    rw[aq (λz=>n (by simp[z])),aq (aJ e hp)];exact e
   have li:jq H4 [Pa]:=λb mm=>⟨ys,by rw[Lo.mp mm];exact hPa4⟩
   refine kk H5 cb _ ((m4.trans m5).trans (Mv.of s5)) hcb (s5 _ _ ae) ?_;rw[Mg];refine ay.same s5 ((ay.mv m5 li (nH ps) hys).snoc (.tup (by rw[aq pP];exact ae) (.cons ?_ (.cons (.int _) .nil))));exact gC (m5 _ _ hca (λz=>by rw[Lo.mp z,hPa4] at hca;cases hca))
  refine ⟨D,true,rfl,⟨_,hD3⟩,ll (xs:=[.int (u:Int),.int (v:Int),.int (w:Int)]) (fun i σ H'=>∃ (ca:Lg) (ys:List V) (ow:Option V) (cc:Kn) (left:Int),σ=[some (.ref a),some (.int whole),some (.ref ca),some (.int left),some (.ref Pa),ow]/\Mv [Pa] H3 H'/\H' ca=some (.tup (fF cc))/\H' Pa=some (.lst ys) /\
    ay K H' (((fX (aL x y z) whole u v w).take i).map CK) ys/\(cc=match i with|0=>(0,0,0)|1=>un u|2=>am (un u) (un v)|_=>am (am (un u) (un v)) (un w))/\left=match i with|0=>whole|1=>aL x y z u|2=>aL x y z v|_=>aL x y z w)
   ⟨c0,[],none,(0,0,0),whole,rfl,Mv.refl,gc3,gP3,.nil,rfl,rfl⟩ (λi σ H' hi ⟨_,_,_,_,_,_,m,_⟩=>hlD m) ?_ ?_⟩
  ·rintro i wv σ H4 ew ⟨ca,ys,ow,cc,left,rfl,m4,hca,hPa4,hys,ecc,eleft⟩;have hpl:((fX (aL x y z) whole u v w).take i).length<=10:=by rw[L5];show min i 4<=10;lia
   obtain⟨g,rfl,g3,hg⟩:∃ g:Nat,wv=.int (g:Int)/\g<3/\((i=0/\g=u)\/(i=1/\g=v)\/(i=2/\g=w)):=by
    rcases uU ew with ⟨rfl,rfl⟩|⟨rfl,rfl⟩|⟨rfl,rfl⟩
    ·exact⟨u,rfl,u3,.inl ⟨rfl,rfl⟩⟩
    ·exact⟨v,rfl,v3,.inr (.inl ⟨rfl,rfl⟩)⟩
    ·exact⟨w,rfl,w3,.inr (.inr ⟨rfl,rfl⟩)⟩
   have hl:=hys.length;rw[K'] at hl;refine⟨_,rfl,.inl ⟨rfl,_,bE.of hPa4⟩,_,rfl,_,rfl,_,rfl,_,rfl,.inl ⟨a,_,_,_,rfl,rfl,sq m4,yj g3,_,_,rfl,rfl,vB,λp hp=>?_⟩⟩;have pP:p≠Pa:=λz=>by rw[z,hPa4] at hp;cases hp
   obtain⟨t1,t2⟩:=gR g cc left _ H4 ca ys g3 m4 hca hPa4 hys hpl (λH5 cb zs=>∃ (ca:Lg) (ys:List V) (ow:Option V) (cc:Kn) (left:Int),[some (V.ref a),some (V.int whole),some (V.ref cb),some (V.int (aL x y z g)),some (V.ref Pa),some (V.int (g:Int))]=[some (.ref a),some (.int whole),some (.ref ca),some (.int left),some (.ref Pa),ow]/\Mv [Pa] H3 H5/\H5 ca=some (.tup (fF cc))/\H5 Pa=some (.lst ys) /\
    ay K H5 (((fX (aL x y z) whole u v w).take (i+1)).map CK) ys/\(cc=match i+1 with|0=>(0,0,0)|1=>un u|2=>am (un u) (un v)|_=>am (am (un u) (un v)) (un w))/\left=match i+1 with|0=>whole|1=>aL x y z u|2=>aL x y z v|_=>aL x y z w) (λH5 cb zs m5 hcb hP5 hzs=>by
     refine⟨cb,zs,_,_,_,rfl,m5,hcb,hP5,?_,?_,?_⟩
     ·rcases hg with ⟨rfl,rfl⟩|⟨rfl,rfl⟩|⟨rfl,rfl⟩<;>(subst ecc;subst eleft;exact hzs)
     ·rcases hg with ⟨rfl,rfl⟩|⟨rfl,rfl⟩|⟨rfl,rfl⟩
      ·subst ecc;show am (0,0,0) (un g)=un g;unfold am;simp
      ·subst ecc;rfl
      ·subst ecc;rfl
     ·rcases hg with ⟨rfl,rfl⟩|⟨rfl,rfl⟩|⟨rfl,rfl⟩<;>rfl) p hp
   have gP5:upd H4 p (.tup [.ref ca,.int (left-aL x y z g)]) Pa=some (.lst ys):=by rw[aq (NF pP)];exact hPa4
   refine⟨Pa,ys,.ref p,rfl,rfl,gP5,bH (by lia),?_⟩;have m6:Mv [Pa] H4 (upd (upd H4 p (.tup [.ref ca,.int (left-aL x y z g)])) Pa (.lst (ys++[.ref p]))):=λb o e n=>by
    rw[aq (λz=>n (by simp[z])),aq (aJ e hp)];exact e
   have ca6:upd (upd H4 p (.tup [.ref ca,.int (left-aL x y z g)])) Pa (.lst (ys++[.ref p])) ca=some (.tup (fF cc)):=m6 _ _ hca (λz=>by rw[Lo.mp z,hPa4] at hca;cases hca);have sq6:=sq (m4.trans m6);refine⟨_,rfl,λsa hsa=>?_⟩;obtain⟨bs,b,k1,k2,k3⟩:=t1 sa hsa;refine⟨_,rfl,.inr (.inl ⟨sa,bs,_,_,rfl,rfl,k1.sq,k2,ca,b,[(cc.1:Int),(cc.2.1:Int),(cc.2.2:Int)],[((un g).1:Int),((un g).2.1:Int),((un g).2.2:Int)],rfl,dk.of ca6,k3.sq,rfl,by show 3<=10;decide,λcb H5 s5 hcb=>?_⟩)⟩;rw[Cr] at hcb;exact⟨_,rfl,_,rfl,.inl ⟨a,_,_,_,rfl,rfl,s5.seq sq6,yj g3,t2 cb H5 s5 hcb⟩⟩
  ·rintro σ H4 ⟨ca,ys,ow,cc,left,rfl,m4,hca,hPa4,hys,ecc,eleft⟩;have hl:=hys.length;rw[K'] at hl;refine⟨_,rfl,.inl ⟨rfl,_,bE.of hPa4⟩,_,rfl,_,rfl,vB,λp hp=>?_⟩;have pP:p≠Pa:=λz=>by rw[z,hPa4] at hp;cases hp
   refine⟨Pa,ys,.ref p,rfl,rfl,by rw[aq (NF pP)];exact hPa4,bH (by rw[<- hl];show 3<=1000;decide),_,rfl,?_⟩;have m6:Mv [Pa] H4 (upd (upd H4 p (.tup [.ref ca,.int left])) Pa (.lst (ys++[.ref p]))):=λb o e n=>by
    rw[aq (λz=>n (by simp[z])),aq (aJ e hp)];exact e
   have li:jq H4 [Pa]:=λb mm=>⟨ys,by rw[Lo.mp mm];exact hPa4⟩
   subst ecc eleft;refine q (u,v,w) Pa _ _ ho p1 p2 (λb o e=>(m4.trans m6) b o (s3 _ _ e) (λz=>by rw[Lo.mp z,fP] at e;cases e)) ae ?_;refine(ay.mv m6 li (nH _) hys).snoc (d:=CK (am (am (un u) (un v)) (un w),aL x y z w)) (.tup (by rw[aq pP];exact ae) (.cons ?_ (.cons (.int _) .nil)));exact gC (m6 _ _ hca (λz=>by rw[Lo.mp z,hPa4] at hca;cases hca))
theorem bG:av ["far","whole","parts","corner","part","beyond","distance"] uA9 (ag eC):=dD
inductive gj (K:HD)(vs:List V)(H:Hp)(Q:VK)(_:XK):Prop
 |mk (a:Lg) (x y z whole:Int) (b:Nat) (_:vs=[.ref a,.int whole]) (_:bE K H a [.int x,.int y,.int z]) (_:Sm b x) (_:Sm b y) (_:Sm b z) (_:Sm b whole) (_:b<=2000) (_:∀ (D:Lg) (ys:List V) (H':Hp),af H H'->H' D=some (.lst ys)->ay K H' ((cr (aL x y z) whole).map CK) ys->Q (.ref D) H')
theorem lD (T:df K mg w):dm P w K mg base c5 2 "parts_by_eight" uA9 [] (gj K):=by
  refine T.x1k.cal bG (bb:=λ_ _ _ _ _ H vs Q E hr h=>?_);obtain⟨a,x,y,z,whole,b,rfl,ha,sx,sy,sz,sw,hb,q⟩:=h;refine⟨_,(cQ.go (ab (az 2 bG.nd (bN aU))
   (ab (di Ms rfl (bB (K:=K) rfl (ac aB (iF T) hr (aE aa))) (ai 3 bG.nd) (ab (az 4 bG.nd aa)
   (ab (di Ms rfl (gM (K:=K) rfl rfl T.x5 (aH (ak 3) (ak 0))) (bZ (K:=K) (n:=2) rfl rfl (ao (ai 5 bG.nd) (ao (ai 6 bG.nd) aX))) (ah (y7 (i:=4) bG.nd rfl (by first|exact U5 rfl|exact T0 rfl) (rk (aN dz (ak 5) aa (aT _)) (ak 6) (ar c_ (ak 1) (ak 6))) DC)))
   (ah (cm (rW On NI N_ jy (ak 2) (aE (bT (aH (ak 3) (ak 4))))))))))
   (ah (au (ak 2)))))),?_⟩
  have fs:=Bk sx sy sz sw;have gs:∀ k c,Sm 8000 (kL (aL x y z) whole k c):=λk c=>(fs k c).mono (by lia)
  have ps:∀ t j,Sm 8000 (cF (aL x y z) whole t j):=λt j=>(uA fs t j).mono (by lia)
  refine⟨by decide,λPa hPa=>⟨2,rfl,by decide,λD xs H1 s1 hD hxs=>?_⟩⟩;have gP:=s1 _ _ (ae (H:=H) (a:=Pa) (o:=.lst []));have s0:af H H1:=(af.new hPa).trans s1;have DP:D≠Pa:=λz=>by
   rw[z,gP] at hD;cases hD;have:=hxs.length;exact absurd this (by decide)
  have lx:=hxs.length;rw[K'] at lx;refine⟨D,true,rfl,⟨_,bE.of hD⟩,ll (xs:=xs) (λi σ H'=>∃ (ys:List V) (o1 o2 o3 o4:Option V),σ=[some (.ref a),some (.int whole),some (.ref Pa),o1,o2,o3,o4]/\Mv [Pa] H1 H'/\H' Pa=some (.lst ys)/\ay K H' (((cr (aL x y z) whole).take i).map CK) ys)
   ⟨[],_,_,_,_,rfl,Mv.refl,gP,.nil⟩ (λi σ H' hi ⟨_,_,_,_,_,_,m,_⟩=>bE.of (m _ _ hD (by simp[DP]))) ?_ ?_⟩
  ·rintro i wv σ H4 ew ⟨ys,o1,o2,o3,o4,rfl,m4,hP4,hys⟩;obtain⟨d,ed,hd⟩:=hxs.get ew;rw[Lk] at ed;obtain⟨t,et,rfl⟩:=Lx.mp ed;obtain⟨ca,rfl,hca⟩:=lJ hd;have hca4:H4 ca=some (.tup (fF t)):=m4 _ _ hca (λz=>by rw[Lo.mp z,gP] at hca;cases hca);have ha4:bE K H4 a [.int x,.int y,.int z]:=by
    have aP:∀ o,H a=some o->H4 a=some o:=λo e=>m4 _ _ (s0 _ _ e) (λz=>by rw[Lo.mp z,hPa] at e;cases e)
    rcases ha with (h|⟨o,h⟩)|h
    ·exact .inl (.inl (aP _ h))
    ·exact .inl (.inr ⟨o,aP _ h⟩)
    ·exact .inr h
   have hl:=hys.length;have e8:(cr (aL x y z) whole).length=8:=by unfold cr;rw[K'];rfl
   rw[K',L5,e8] at hl;refine⟨_,rfl,_,rfl,ca,a,false,true,rfl,⟨_,dk.of hca4⟩,⟨_,ha4⟩,yo (K:=K) (xs:=fF t) (ys:=[.int x,.int y,.int z]) (λj σ H'=>(∃ o3 o4,σ=[some (.ref a),some (.int whole),some (.ref Pa),some (.ref ca),some (.int (cF (aL x y z) whole t j)),o3,o4])/\af H4 H')
    ⟨⟨_,_,rfl⟩,af.refl _⟩ rfl (λj σ H' _ ⟨_,s⟩=>⟨uN s (dk.of hca4),s.seq ha4⟩) ?_ ?_⟩
   ·rintro j u v T σ H5 eu ev ⟨⟨o3,o4,rfl⟩,s5⟩ hT;refine⟨T,_,rfl,dk.of ae,rfl,_,_,rfl,_,_,rfl,rfl,_,rfl,?_⟩;have sT:=s5.trans (af.new (o:=.tup [u,v]) hT);rcases uU eu with ⟨rfl,rfl⟩|⟨rfl,rfl⟩|⟨rfl,rfl⟩
    ·cases(K8 ev);refine⟨_,rfl,_,_,rfl,rfl,_,rfl,eU (λhc=>?_) (λhc=>?_)⟩
     ·have e:t.1=1:=by have:=Mu hc;lia
      have hf:kL (aL x y z) whole 0 t.1=x:=by unfold kL;rw[LL e];rfl
      have g0:=gs 0 t.1;rw[hf] at g0;exact⟨_,rfl,_,_,rfl,rfl,.inl ⟨ps t 0,g0⟩,⟨_,_,by rw[show cF (aL x y z) whole t (0+1)=cF (aL x y z) whole t 0*x from(show _=cF (aL x y z) whole t 0*kL (aL x y z) whole 0 t.1 from rfl).trans (NE _ hf)];rfl⟩,sT⟩
     ·have e:¬ t.1=1:=by have:=OI (by simpa using hc);lia
      have hf:kL (aL x y z) whole 0 t.1=whole-x:=by unfold kL;rw[LB e];rfl
      have g0:=gs 0 t.1;rw[hf] at g0;exact⟨_,rfl,_,rfl,_,_,rfl,rfl,_,_,rfl,rfl,.inl ⟨ps t 0,g0⟩,⟨_,_,by rw[show cF (aL x y z) whole t (0+1)=cF (aL x y z) whole t 0*(whole-x) from(show _=cF (aL x y z) whole t 0*kL (aL x y z) whole 0 t.1 from rfl).trans (NE _ hf)];rfl⟩,sT⟩
    ·cases(K8 ev);refine⟨_,rfl,_,_,rfl,rfl,_,rfl,eU (λhc=>?_) (λhc=>?_)⟩
     ·have e:t.2.1=1:=by have:=Mu hc;lia
      have hf:kL (aL x y z) whole 1 t.2.1=y:=by unfold kL;rw[LL e];rfl
      have g0:=gs 1 t.2.1;rw[hf] at g0;exact⟨_,rfl,_,_,rfl,rfl,.inl ⟨ps t 1,g0⟩,⟨_,_,by rw[show cF (aL x y z) whole t (1+1)=cF (aL x y z) whole t 1*y from(show _=cF (aL x y z) whole t 1*kL (aL x y z) whole 1 t.2.1 from rfl).trans (NE _ hf)];rfl⟩,sT⟩
     ·have e:¬ t.2.1=1:=by have:=OI (by simpa using hc);lia
      have hf:kL (aL x y z) whole 1 t.2.1=whole-y:=by unfold kL;rw[LB e];rfl
      have g0:=gs 1 t.2.1;rw[hf] at g0;exact⟨_,rfl,_,rfl,_,_,rfl,rfl,_,_,rfl,rfl,.inl ⟨ps t 1,g0⟩,⟨_,_,by rw[show cF (aL x y z) whole t (1+1)=cF (aL x y z) whole t 1*(whole-y) from(show _=cF (aL x y z) whole t 1*kL (aL x y z) whole 1 t.2.1 from rfl).trans (NE _ hf)];rfl⟩,sT⟩
    ·cases(K8 ev);refine⟨_,rfl,_,_,rfl,rfl,_,rfl,eU (λhc=>?_) (λhc=>?_)⟩
     ·have e:t.2.2=1:=by have:=Mu hc;lia
      have hf:kL (aL x y z) whole 2 t.2.2=z:=by unfold kL;rw[LL e];rfl
      have g0:=gs 2 t.2.2;rw[hf] at g0;exact⟨_,rfl,_,_,rfl,rfl,.inl ⟨ps t 2,g0⟩,⟨_,_,by rw[show cF (aL x y z) whole t (2+1)=cF (aL x y z) whole t 2*z from(show _=cF (aL x y z) whole t 2*kL (aL x y z) whole 2 t.2.2 from rfl).trans (NE _ hf)];rfl⟩,sT⟩
     ·have e:¬ t.2.2=1:=by have:=OI (by simpa using hc);lia
      have hf:kL (aL x y z) whole 2 t.2.2=whole-z:=by unfold kL;rw[LB e];rfl
      have g0:=gs 2 t.2.2;rw[hf] at g0;exact⟨_,rfl,_,rfl,_,_,rfl,rfl,_,_,rfl,rfl,.inl ⟨ps t 2,g0⟩,⟨_,_,by rw[show cF (aL x y z) whole t (2+1)=cF (aL x y z) whole t 2*(whole-z) from(show _=cF (aL x y z) whole t 2*kL (aL x y z) whole 2 t.2.2 from rfl).trans (NE _ hf)];rfl⟩,sT⟩
   ·rintro σ H5 ⟨⟨o3,o4,rfl⟩,s5⟩;have hP5:=s5 _ _ hP4;refine⟨_,rfl,.inl ⟨rfl,_,bE.of hP5⟩,_,rfl,_,rfl,vB,λp hp=>?_⟩;have pP:p≠Pa:=λz=>by rw[z,hP5] at hp;cases hp
    refine⟨Pa,ys,.ref p,rfl,rfl,by rw[aq (NF pP)];exact hP5,bH (by lia),?_⟩;have m6:Mv [Pa] H5 (upd (upd H5 p (.tup [.ref ca,.int (cF (aL x y z) whole t (fF t).length)])) Pa (.lst (ys++[.ref p]))):=λb o e n=>by
     rw[aq (λz=>n (by simp[z])),aq (aJ e hp)];exact e
    have li:jq H5 [Pa]:=λb mm=>⟨ys,by rw[Lo.mp mm];exact hP5⟩
    refine⟨_,_,_,_,_,rfl,(m4.trans (Mv.of s5)).trans m6,ae,?_⟩;have et':(cr (aL x y z) whole)[i]?=some (t,cF (aL x y z) whole t 3):=by
     unfold cr;rw[Lk,et];rfl
    rw[bC et',Mg];refine(ay.mv m6 li (nH _) (ay.same s5 hys)).snoc (.tup (by rw[aq pP];exact ae) (.cons ?_ (.cons (.int _) .nil)));exact gC (m6 _ _ (s5 _ _ hca4) (λz=>by rw[Lo.mp z,hP4] at hca4;cases hca4))
  ·rintro σ H4 ⟨ys,o1,o2,o3,o4,rfl,m4,hP4,hys⟩;rw[LI (by rw[<- lx];show(cr (aL x y z) whole).length<=_;unfold cr;rw[K'];exact Lc _)] at hys;exact⟨_,rfl,q Pa ys H4 (λb o e=>m4 b o (s0 _ _ e) (λz=>by rw[Lo.mp z,hPa] at e;cases e)) hP4 hys⟩
theorem AF:av oR oR (ag pc):=dD
def FG:List (Str×Str):=[("four","parts_by_four"),("eight","parts_by_eight")]
inductive zM (K:HD)(vs:List V)(H:Hp)(Q:VK)(_:XK):Prop
 |mk (i:Str) (_:vs=[.str i]) (_:Q (.bl (FG.lookup i).isSome) H)
theorem AH (T:df K mg w):dm P w K mg base c5 1 "is_way" oR [] (zM K):=by
  refine T.x1l.cal AF (bb:=λ_ _ _ _ _ H vs Q E hr h=>?_);obtain⟨i,rfl,q⟩:=h;refine⟨_,(cQ.go (ah (au (cZ (ax (gt (K:=K) rfl) (by rfl) T.x0 aK (aH (ak 0) (bJ (v:=.ty "str") rfl T.xs G0 rfl))) (eM (cq (C8 (K:=K) (w:=w) (mg:=mg) (kvs:=[("four","parts_by_four"),("eight","parts_by_eight")]) rfl rfl) (ak 0) (zg (K:=K) (w:=w) (mg:=mg) (kvs:=[("four","parts_by_four"),("eight","parts_by_eight")]) rfl T.xm) rfl)))))),?_⟩;refine⟨_,rfl,_,_,_,true,rfl,.str i,(show eQ "str" "str"=some true by decide +kernel),_,rfl,bj ?_⟩;exact⟨_,rfl,λD hD=>⟨i,D,rfl,rfl,hD,q⟩⟩
theorem kE:av uB2 uB2 (ag dQ):=dD
inductive kC (K:HD)(vs:List V)(H:Hp)(Q:VK)(_:XK):Prop
 |mk (a C dx d:Lg) (n:Nat) (f:Kn->R3) (_:vs=[.ref a,.int n,.ref d]) (_:eR K "Grid" C) (_:H a=some (.ins C dx [])) (_:Gr K H n f d) (_:Be n f) (_:2<=n) (_:n<=7) (_:∀ (H':Hp) (L:Lg),Mv [a] H H'->H' a=some (.ins C dx [("knots",.int n),("table",.ref L)])->Gr K H' n f L->H L=none->Q .non H')
theorem km (T:df K mg w):vq P w K mg base c5 6 "Grid" "__init__" uB2 [] (kC K):=by
  refine T.x1m.cal kE (bb:=λ_ _ _ _ _ H vs Q E hr h=>?_);obtain⟨a,C,dx,d,n,f,rfl,hC,ha,hg,hw,h2,h7,q⟩:=h;refine⟨_,(cQ.go (ab (bn (a_ (bg (ac aB (uQ T) hr (aE (ak 1))))) (ah cz) aM)
   (ab (bn (a_ (bg (ac aB (vn T) hr (aH (ak 2) (ak 1))))) (ah cz) aM)
   (ab (u7 (K:=K) (x:="Grid") rfl T.x1 (.head _) (ak 0) (ak 1))
   (ah (u7 (K:=K) (x:="Grid") rfl T.x1 (.tail _ (.head _)) (ak 0) (bW xJ (by rfl) T.xh yQ (aE (ak 2))))))))),?_⟩
  have e1:DW 2 7 (.int (n:Int))=true:=by
   show(decide ((2:Int)<=n)&&decide ((n:Int)<=7))=true;rw[Lj (show(2:Int)<=n by lia),Lj (show(n:Int)<=7 by lia)];rfl
  refine⟨_,rfl,.int n,.int n,rfl,.int _,true,by rw[e1],bI ?_⟩;refine⟨_,rfl,_,rfl,d,n,f,rfl,hg,hw,h7,λH1 s1=>⟨_,rfl,bI ?_⟩⟩;have ha1:=s1 _ _ ha;have hg1:=hg.same s1;refine⟨_,rfl,_,rfl,a,C,dx,[],rfl,hC,ha1,by decide,?_⟩;obtain⟨ts,pm,vs,hd,hvs⟩:=id hg1;have hlen:=An.len hvs;have na:d≠a:=λz=>by rw[z,ha1] at hd;cases hd
  have mv1:Mv [a] H1 (upd H1 a (.ins C dx (gW "knots" (.int n) []))):=λb o e nb=>by rw[aq (λz=>nb (by simp[z]))];exact e
  have ne:kM ts vs≠[]:=λz=>by
   have:=NE P7 z;rw[tO hlen,pm.length_eq,fB] at this;have:0<n^3:=Nat.pow_pos (by lia);rw[QU] at *;lia
  refine⟨_,rfl,d,_,rfl,.inl (mv1 _ _ hd (by simp[na])),ne,EI h7 pm hlen,λL hL=>?_⟩;refine⟨_,rfl,a,C,dx,_,rfl,hC,by rw[aq (λz=>by rw[<- z,ae] at hL;cases hL)];exact ae,by show 1<1000;decide,?_⟩;have La:L≠a:=λz=>by rw[z,ae] at hL;cases hL
  have mv2:Mv [a] H1 (upd (upd (upd H1 a (.ins C dx (gW "knots" (.int n) []))) L (.dT (kM ts vs))) a (.ins C dx (gW "table" (.ref L) (gW "knots" (.int n) [])))):=λb o e nb=>by
   have nb:b≠a:=λz=>nb (by simp[z])
   rw[aq nb,aq (λz=>by rw[<- z,aq nb,e] at hL;cases hL),aq nb];exact e
  have wkeep:∀ {ts:List Kn}{ws:List V}{H':Hp},Mv [a] H1 H'->ay K H1 (ts.map λt=>wD (f t)) ws->ay K H' (ts.map λt=>wD (f t)) ws:=λ{ts ws H'} m h=>by
   induction ts generalizing ws with
   |nil=>cases h;exact .nil
   |cons t ts ih=>
    cases h with
    |cons h1 h2=>
     refine .cons ?_ (ih h2);have h1':aA K H1 (.tuple (f t).ds) _:=h1;cases h1' with
     |tup k1 k2=>
      cases fI k2;exact .tup (m _ _ k1 (λz=>by rw[Lo.mp z,ha1] at k1;cases k1)) (.cons (.int _) (.cons (.int _) (.cons (.int _) .nil)))
  refine q _ L (λb o e nb=>mv2 b o (s1 _ _ e) nb) ae ⟨ts,pm,vs,?_,wkeep mv2 hvs⟩ ?_
  ·rw[aq La];exact ae
  ·cases z:H L with
   |none=>rfl
   |some o=>
    rw[aq La,s1 _ _ z] at hL;cases hL
theorem n5:av uC9 uC9 (ag gO):=dD
inductive oM (K:HD)(vs:List V)(H:Hp)(Q:VK)(_:XK):Prop
 |mk (v x:V) (n:Nat) (f:Kn->R3) (t:Kn) (_:vs=[v,x]) (_:kF K H n f v) (_:aA K H (Fn t) x) (_:t∈aW n) (_:∀ (w:V) (H':Hp),af H H'->aA K H' (wD (f t)) w->Q w H')
theorem fN (T:df K mg w):vq P w K mg base c5 5 "Grid" "knot" uC9 [] (oM K):=by
  refine T.x1n.cal n5 (bb:=λ_ _ _ _ _ H vs Q E hr h=>?_);obtain⟨v,x,n,f,t,rfl,hv,hx,ht,q⟩:=h;obtain⟨a,C,dx,d,rfl,hC,ha,hg⟩:=id hv;refine⟨_,(cQ.go (ab (bn (a_ (bg (ac aB (qd T) hr (aH (ak 1) (iU (K:=K) (x:="Grid") rfl T.x1 (.head _) (ak 0)))))) (ah cz) aM)
   (ah (au (B' hr.u1 (iU (K:=K) (x:="Grid") rfl T.x1 (.tail _ (.head _)) (ak 0)) (ak 1) (λ_ _=>rfl)))))),?_⟩
  have hm:=bV.mp ht;have e:([(t.1:Int),(t.2.1:Int),(t.2.2:Int)].all λk=>decide (0<=k)&&decide (k<=(n:Int)-1))=true:=by
   simp only[RS,UJ,QG,L4,No];lia
  refine⟨_,rfl,_,rfl,a,C,dx,_,_,rfl,hC,ha,rfl,x,[(t.1:Int),(t.2.1:Int),(t.2.2:Int)],n,rfl,hx,rfl,λH1 s1=>⟨true,by rw[e],bI ?_⟩⟩;obtain⟨b,rfl,hb⟩:=lJ (aA.same s1 hx);obtain⟨w,g1,g2⟩:=FU (hg.same s1) ht hb;exact⟨_,rfl,a,C,dx,_,_,rfl,hC,s1 _ _ ha,rfl,_,rfl,d,w,rfl,g1,q _ _ s1 g2⟩
theorem pL:av ["self"] ["self"] (ag gH):=dD
inductive pT (K:HD)(vs:List V)(H:Hp)(Q:VK)(_:XK):Prop
 |mk (v:V) (n:Nat) (f:Kn->R3) (_:vs=[v]) (_:kF K H n f v) (_:2<=n) (_:n<=7) (_:∀ (w:V) (H':Hp),af H H'->aA K H' (.tuple [.int n,.int (dW n)]) w->Q w H')
theorem fS (T:df K mg w):vq P w K mg base c5 2 "Grid" "size" ["self"] [] (pT K):=by
  refine T.x1o.cal pL (bb:=λ_ _ _ _ _ H vs Q E hr h=>?_);obtain⟨v,n,f,rfl,hv,h2,h7,q⟩:=h;obtain⟨a,C,dx,d,rfl,hC,ha,hg⟩:=hv;refine⟨_,(cQ.go (ah (au (bT (aH (iU (K:=K) (x:="Grid") rfl T.x1 (.head _) (ak 0)) (ac aB (Bs T) hr (aE (iU (K:=K) (x:="Grid") rfl T.x1 (.head _) (ak 0))))))))),?_⟩;refine⟨_,rfl,a,C,dx,_,_,rfl,hC,ha,rfl,_,rfl,a,C,dx,_,_,rfl,hC,ha,rfl,n,rfl,h2,h7,vB,λp hp=>?_⟩;exact q _ _ (af.new hp) (aA.tupN hp (.cons (.int _) (.cons (.int _) .nil)))
theorem e6:av ["self","least","parts","worths","amounts"] uC3 (ag fU):=dD
inductive ni (K:HD)(vs:List V)(H:Hp)(Q:VK)(_:XK):Prop
 |mk (v x:V) (D:Lg) (ys:List V) (n:Nat) (f:Kn->R3) (base:Kn) (ps:List Pc) (_:vs=[v,x,.ref D]) (_:kF K H n f v) (_:aA K H (Fn base) x) (_:H D=some (.lst ys)) (_:ay K H (ps.map CK) ys) (_:ps.length<=10) (_:Be n f) (_:(∀ p∈ps,am base p.1∈aW n)) (_:(∀ p∈ps,Sm 7000 p.2)) (_:(ps.map (·.2)).sum≠0) (_:Sm 8000 (ps.map (·.2)).sum) (_:∀ (w:V) (H':Hp),af H H'->aA K H' (Ai f base ps).col w->Q w H')
theorem mZ (T:df K mg w):vq P w K mg base c5 6 "Grid" "mixed" uC3 [] (ni K):=by
  refine T.x1p.cal e6 (bb:=λ_ _ _ _ _ H vs Q E hr h=>?_);obtain⟨v,x,D,ys,n,f,base,ps,rfl,hv,hx,hD,hys,hl,hw,hk,hp,h0,hS,q⟩:=h;refine⟨_,(cQ.go (ab (az 3 e6.nd (aQ ["corner","part"] ["self","least"] [0,1] 2 (bB (K:=K) rfl (ak 2)) (λnd=>(bZ (K:=K) (n:=2) rfl rfl (ao (ai 0 nd) (ao (ai 1 nd) aX)))) aG (nU (K:=K) rfl aB (fN T) (hr.mono (by decide)) (ak 2) (aE (ac aB (vw T) hr (aH (ak 3) (ak 0)))))))
   (ab (az 4 e6.nd (aQ ["corner","part"] [] [] 2 (bB (K:=K) rfl (ak 2)) (λnd=>(bZ (K:=K) (n:=2) rfl rfl (ao (ai 0 nd) (ao (ai 1 nd) aX)))) aG (ak 1)))
   (ah (au (bW (jE (K:=K) rfl) (by rfl) T.x3 cB (aE (aQ ["k"] ["worths","amounts"] [3,4] 1 (cJ rfl T.x4 (aE aa)) (λnd=>(ai 0 nd)) aG (ac aB (cL T T.xa) hr (aH (ac aB (iQ T) hr (aH (aQ ["worth"] ["k"] [0] 1 (bB (K:=K) rfl (ak 1)) (λnd=>(ai 0 nd)) aG (aw K (ak 0) (ak 1))) (ak 2))) (ax (C5 (K:=K) rfl rfl) (by rfl) T.xc yf (aE (ak 2))))))))))))),?_⟩
  obtain⟨a,C,dx,d,rfl,hC,ha,hg⟩:=id hv;obtain⟨la,rfl,hla⟩:=lJ hx;have lw:∀ {r:R3},r.Wt->∀ g:R3->Int,(∀ r:R3,g r=r.a\/g r=r.b\/g r=r.c)->Sm 8000 (g r):=λ{r} h g hgr=>by
   refine Sm.mono (k:=20) ?_ (by decide);obtain⟨a0,a1,b0,b1,c0,c1⟩:=h;unfold Sm;rcases hgr r with e|e|e<;>(rw[e];lia)
  refine⟨_,rfl,D,true,rfl,⟨_,bE.of hD⟩,cA (es:=ps.map λp=>wD (f (am base p.1))) (show bY K H D ys true from bE.of hD) hys (by simp) (by simp;lia) (λi e e' u H1 hd he s1 hu R kk S=>?_) (λws H1 s1 hws W hW=>?_)⟩
  ·rw[Lk] at hd he;obtain⟨p,ep,rfl⟩:=Lx.mp hd;rw[ep] at he;cases he;obtain⟨ta,ca,rfl,hta,hca⟩:=Bj hu;refine⟨ta,_,rfl,dk.of hta,rfl,_,_,rfl,_,_,rfl,rfl,bj (B:=S H1) ?_⟩;refine⟨_,rfl,a,C,dx,_,rfl,hC,s1 _ _ ha,rfl,_,rfl,_,rfl,la,ca,[(base.1:Int),(base.2.1:Int),(base.2.2:Int)],[(p.1.1:Int),(p.1.2.1:Int),(p.1.2.2:Int)],rfl,dk.of (s1 _ _ hla),dk.of hca,rfl,by show 3<=10;decide,λpa H2 s2 hpa=>?_⟩;rw[Cr] at hpa;exact⟨.ref a,.ref pa,n,f,am base p.1,rfl,hv.same (s1.trans s2),gC hpa,hk p (Lq ep),λw H3 s3 hw3=>kk _ _ ⟨s2.trans s3,hw3⟩⟩
  have sW:af H1 (upd H1 W (.lst ws)):=af.new hW;have hW2:bY K (upd H1 W (.lst ws)) W ws true:=bE.of ae;have hws2:=ay.same sW hws;have s2:=s1.trans sW;generalize upd H1 W (.lst ws)=H2 at sW hW2 hws2 s2 ⊢;refine⟨_,rfl,D,true,rfl,⟨_,bE.of (s2 _ _ hD)⟩,cA (es:=(ps.map (·.2)).map N9) (show bY K H2 D ys true from bE.of (s2 _ _ hD)) (ay.same s2 hys) (by simp) (by simp;lia) (λi e e' u H3 hd he s3 hu R kk S=>?_) (λks H3 s3 hks L hL=>?_)⟩
  ·rw[Lk] at hd he;obtain⟨p,ep,rfl⟩:=Lx.mp hd;rw[Lk,ep] at he;cases he;obtain⟨ta,ca,rfl,hta,hca⟩:=Bj hu;exact⟨ta,_,rfl,dk.of hta,rfl,_,_,rfl,_,_,rfl,rfl,bj (B:=S H3) ⟨_,rfl,kk _ _ ⟨af.refl _,.int _⟩⟩⟩
  have eks:=cn hks;subst eks;have sL:af H3 (upd H3 L (.lst ((ps.map (·.2)).map V.int))):=af.new hL;have hL4:bY K (upd H3 L (.lst ((ps.map (·.2)).map V.int))) L ((ps.map (·.2)).map V.int) true:=bE.of ae;have s4:=s3.trans sL;generalize upd H3 L (.lst ((ps.map (·.2)).map V.int))=H4 at sL hL4 s4 ⊢;have hW4:=bY.same s4 hW2;have hws4:=ay.same s4 hws2;refine⟨3,rfl,by decide,by decide,uP (K:=K) (lo:=0) (ds:=(Ai f base ps).ds) (n:=3) rfl (by decide) (λi e H5 he s5 R kk S=>?_) (λzs H5 s5 hzs Z hZ=>?_)⟩
  ·obtain⟨g,rfl,hi,hgv⟩:=JV he;have hgr:∀ r:R3,g r=r.a\/g r=r.b\/g r=r.c:=λr=>by
    have:=hgv r;rcases uU this with ⟨_,e⟩|⟨_,e⟩|⟨_,e⟩
    ·injection e with e;exact .inl e
    ·injection e with e;exact .inr (.inl e)
    ·injection e with e;exact .inr (.inr e)
   refine bj (B:=S H5) ⟨_,rfl,W,true,rfl,⟨_,bY.same s5 hW4⟩,cA (es:=(ps.map λp=>g (f (am base p.1))).map N9) (bY.same s5 hW4) (ay.same s5 hws4) (by simp) (by simp;lia) (λj e e' u H6 hd he s6 hu R2 kk2 S2=>?_) (λns H6 s6 hns N hN=>?_)⟩
   ·rw[Lk] at hd he;obtain⟨p,ep,rfl⟩:=Lx.mp hd;rw[Lk,ep] at he;cases he;obtain⟨wa,rfl,hwa⟩:=gB (b:=false) hu;refine bj (B:=S2 H6) ⟨_,rfl,_,rfl,?_⟩;have:=lK (K:=K) (Q:=R2) hwa (hgv (f (am base p.1))) (kk2 _ _ ⟨af.refl _,.int _⟩);rw[show((0:Int)+(i:Int))=(i:Int) from Q7 _];exact this
   ·have ens:=cn hns;subst ens;have hL7:=bY.same ((s5.trans s6).trans (af.new (o:=.lst ((ps.map λp=>g (f (am base p.1))).map V.int)) hN)) hL4;refine⟨_,rfl,N,L,true,true,_,_,rfl,bE.of ae,hL7,by simp,by simp;lia,λz hz=>?_,λz hz=>?_,λH7 s7=>?_⟩
    ·obtain⟨p,hp',rfl⟩:=Md.mp hz;exact lw (hw _ (hk p hp')) g hgr
    ·obtain⟨p,hp',rfl⟩:=Md.mp hz;exact(hp p hp').mono (by decide)
    ·refine⟨_,rfl,L,_,rfl,bY.same s7 hL7,_,_,rfl,h0,hS,?_⟩;refine xN.sh h0 λw H8 s8 hw8=>kk _ _ ⟨((s6.trans (af.new hN)).trans s7).trans s8,hw8⟩
  ·exact⟨Z,zs,rfl,.inl ⟨bE.of ae,λl hl=>q _ _ ((((s2.trans s4).trans s5).trans (af.new hZ)).trans (af.new hl)) (aA.tupN (ds:=(Ai f base ps).ds) hl (ay.same (af.new hZ) hzs))⟩⟩
theorem vX:av uC4 uC4 (ag j7):=dD
inductive uY (K:HD)(vs:List V)(H:Hp)(Q:VK)(_:XK):Prop
 |mk (v:V) (n:Nat) (f:Kn->R3) (_:vs=[v]) (_:kF K H n f v) (_:2<=n) (_:n<=6) (_:∀ (D:Lg) (ys:List V) (H':Hp),af H H'->H' D=some (.lst ys)->eD K H' (bD n) ys->Q (.ref D) H')
theorem mU (T:df K mg w):dm P w K mg base c5 3 "parts_of" uC4 [] (uY K):=by
  refine T.x1q.cal vX (bb:=λ_ _ _ _ _ H vs Q E hr h=>?_);obtain⟨v,n,f,rfl,hv,n2,n6,q⟩:=h;have n7:n<=7:=by lia
  obtain⟨a,C,dx,d,rfl,hC,ha,hg⟩:=id hv;refine⟨_,(cQ.go (ah (au (lZ rfl (bB (K:=K) rfl (ac aB (iF T) hr (aE (ar c_ (aw K (pC (K:=K) rfl aB (fS T) (hr.mono (by decide)) (ak 0)) aa) aa)))) (lu (by decide +kernel) (by rfl)) (pQ (ts:=uC8) (cs:=[]) (js:=[]) (k:=2) (by rfl) rfl rfl) (λ_ _ _ _ _=>(ai 0 (show P6 (α:=Str) uC8 by decide +kernel))) (λ_ _ _ _ _=>aG) (λ_ _ _ _ _=>(lA rfl rfl rfl (bB (K:=K) rfl (yM (K:=K) (rows:=[[0,1,2],[0,2,1],[1,0,2],[1,2,0],[2,0,1],[2,1,0]]) rfl T.x2d)) (ai 1 (show P6 (α:=Str) uC8 by decide +kernel)) aG (pY rfl rfl (bT (aH (ak 0) (ak 1)))))))))),?_⟩;refine⟨_,rfl,a,C,dx,_,rfl,hC,ha,rfl,.ref a,n,f,rfl,hv,n2,n7,λw H1 s1 hw=>?_⟩;obtain⟨wa,ws,rfl,hwa,hws⟩:=aZ (b:=false) (ds:=[.int n,.int (dW n)]) hw;have ew:=cn (ns:=[(n:Int),dW n]) hws;subst ew;have e1:(n:Int)-1=((n-1:Nat):Int):=by lia
  refine lK (b:=false) (i:=0) hwa rfl ⟨_,_,rfl,rfl,?_⟩;dsimp only;rw[e1];refine⟨n-1,rfl,by lia,λP ps H2 s2 hP hps=>?_⟩;have few:(aW (n-1)).length<=125:=by
   rw[fB];exact Om (show n-1<=5 by lia) 3
  have lps:=hps.length;rw[K'] at lps;refine⟨P,true,rfl,⟨_,bE.of hP⟩,mD (xs:=ps) (λi ys H'=>af H2 H'/\eD K H' (ge ((aW (n-1)).take i)) ys) ⟨af.refl _,.nil⟩ (λi ys H' _ p=>bE.of (p.1 _ _ hP)) (λi x ys H3 ex p R kk S=>?_) (λys H3 p=>?_)⟩
  ·obtain⟨s3,hy3⟩:=p;obtain⟨dd,ed,hd⟩:=hps.get ex;rw[Lk] at ed;obtain⟨t,et,rfl⟩:=Lx.mp ed;obtain⟨ka,rfl,hka⟩:=lJ hd;refine bj (B:=S H3) (λsa hs=>?_);obtain⟨bs,hb1,hb2⟩:=hs;refine⟨sa,false,rfl,⟨_,KT.sq hb1⟩,lm (b:=false) (xs:=bs.map V.ref) (λj σ ys' H'=>(∃ o1,σ=[some (.ref ka),o1])/\af H2 H'/\eD K H' (ge ((aW (n-1)).take i)++fg t j) ys') ⟨⟨_,rfl⟩,s3,by simpa [fg] using hy3⟩ (λj σ ys' H' _ _=>KT.sq hb1) (λj x σ ys' H4 ex p R2 kk2 S2=>?_) (λσ ys' H4 p=>?_)⟩
   ·obtain⟨⟨o1,rfl⟩,s4,hy4⟩:=p;rw[Lk] at ex;obtain⟨b,eb,rfl⟩:=Lx.mp ex;obtain⟨r,er,hr⟩:=lU hb2 eb;have er:(dG.map λo=>[(o.1:Int),(o.2.1:Int),(o.2.2:Int)])[j]?=some r:=er;rw[Lk] at er;obtain⟨o,eo,rfl⟩:=Lx.mp er;have hlen:=hy4.length;have hj:j<6:=(Ll.mp eo).1;have lt:ys'.length<=6*125+6:=by
     rw[<- hlen,LC,ij,L5];have:(fg t j).length<=6:=by unfold fg;rw[K',L5];exact LM (Nat.min_le_right _ _) (by decide)
     lia
    refine bj (B:=S2 [some (.ref ka),some (.ref b)] H4) ⟨Nh lt (by decide),_,rfl,_,rfl,vB,λp hp=>kk2 _ _ _ ⟨⟨_,rfl⟩,s4.trans (af.new hp),?_⟩⟩;rw[vz eo,<- NN];exact(hy4.same (af.new hp)).snoc ⟨p,ka,b,rfl,ae,af.new hp _ _ (s4 _ _ hka),hr⟩
   ·obtain⟨⟨o1,rfl⟩,s4,hy4⟩:=p;have lb:(bs.map V.ref).length=6:=by
     rw[K',RW hb2];rfl
    rw[lb] at hy4;refine kk _ _ _ ⟨s4,?_⟩;rw[bC et,uI];exact hy4
  ·obtain⟨s3,hy3⟩:=p;rw[LI (by lia)] at hy3;have hlen:=hy3.length;rw[ij] at hlen;exact⟨by lia,λD hD=>q D ys _ (((s1.trans s2).trans s3).trans (af.new hD)) ae (hy3.same (af.new hD))⟩
theorem bS:av ["self","colour","way","parts_of","steps","least","tops","below","far"] uA8 (ag bU):=dD
inductive nc (K:HD)(vs:List V)(H:Hp)(Q:VK)(_:XK):Prop
 |mk (v x:V) (kf:Str) (n:Nat) (f:Kn->R3) (c:Q3) (k:Nat) (_:vs=[v,x,.str kf]) (_:kF K H n f v) (_:Be n f) (_:2<=n) (_:n<=7) (_:aA K H c.col x) (_:c.Wi ((60:Int):Rat)) (_:c.Bd k) (_:k<=400) (_:v7 K "parts_by_four" H) (_:(kf="four"\/kf="eight")) (_:∀ (r:Q3) (w:V) (H':Hp),af H H'->(kf="four"->r=W4 n f c)->(kf="eight"->r=W8 n f c)->r.Bd (12*k+120)->aA K H' r.col w->Q w H')
theorem e_ (T:df K mg w):DL P w K mg base c5 7 "Grid" "worth" uA8 [] 2 0 [.str "four"] (nc K):=by
  refine T.x2g.cal bS (bb:=λ_ _ _ _ _ H vs Q E hr h=>?_);obtain⟨v,x,kf,n,f,c,k,rfl,hv,hw,h2,h7,hx,wi,bd,hk,tb,hway,q⟩:=h;obtain⟨a,C,dx,d,rfl,hC,ha,hg⟩:=id hv;obtain⟨ap0,ap1,ap2⟩:=ik h2 h7;have hlk:∃ fnm,FG.lookup kf=some fnm:=by
   rcases hway with rfl|rfl
   ·exact⟨_,rfl⟩
   ·exact⟨_,rfl⟩
  obtain⟨fnm,hlk⟩:=hlk;have dva:Dv n c.a:=⟨h2,h7,wi.a0,wi.a1⟩
  have dvb:Dv n c.b:=⟨h2,h7,wi.b0,wi.b1⟩
  have dvc:Dv n c.c:=⟨h2,h7,wi.c0,wi.c1⟩
  have sap:Sm 6 (dW n):=by unfold Sm;lia
  have bqs:∀ {y:Rat},Bq k y->Bq (k+6) (cH n y):=λ{y} h=>eV (Mf h.ne (by lia)) (h.sn.mono (by lia)) ((h.sd.mul sap))
  refine⟨_,(cQ.go (ab (bn (a_ (bg (ac aB (AH T) hr (aE (ak 2))))) (ah cz) aM)
   (ab (cm (ac aB (f_ T) hr (aE (ak 1))))
   (ab (az 3 bS.nd (B5 (Hf (K:=K) (w:=w) (mg:=mg) (kvs:=[("four","parts_by_four"),("eight","parts_by_eight")]) rfl rfl) (zg (K:=K) (w:=w) (mg:=mg) (kvs:=[("four","parts_by_four"),("eight","parts_by_eight")]) rfl T.xm) (ak 2) (λ_ _=>rfl)))
   (ab (cG 4 uA6 ["self"] [0] 2 bS.nd (bB (K:=K) rfl (ak 1)) (λnd=>(bZ (K:=K) (n:=2) rfl rfl (ao (ai 0 nd) (ao (ai 1 nd) aX)))) aG (ac aB (cL T T.xa) hr (aH (ak 0) (ar aS (ak 1) (aw K (pC (K:=K) rfl aB (fS T) (hr.mono (by decide)) (ak 2)) aa)))))
   (ab (az 5 bS.nd (bW (jE (K:=K) rfl) (by rfl) T.x3 cB (aE (aQ ["step"] ["self"] [0] 1 (bB (K:=K) rfl (ak 4)) (λnd=>(ai 0 nd)) aG (ax (l4 rfl) (by rfl) T.xb wV (aH (ac aB (vR T) hr (aE (ak 0))) (ar c_ (iU (K:=K) (x:="Grid") rfl T.x1 (.head _) (ak 1)) aa)))))))
   (ab (gy (ac aB (gz T) hr (aE (ak 4))) (bZ (K:=K) (n:=2) rfl rfl (ao (ai 6 bS.nd) (ao (ai 7 bS.nd) aX))))
   (ab (cG 8 ["top","number"] ["below"] [7] 2 bS.nd (gM (K:=K) rfl rfl T.x5 (aH (ak 6) (ak 5))) (λnd=>(bZ (K:=K) (n:=2) rfl rfl (ao (ai 0 nd) (ao (ai 1 nd) aX)))) aG (ar c_ (ak 0) (ar aS (ak 1) (ak 2))))
   (ah (au (nU (K:=K) rfl aB (mZ T) (hr.mono (by decide)) (ak 0) (aH (ak 5) (CD (P:=P) (w:=w) (K:=K) (mg:=mg) (base:=base) (CX:=c5) (k:=2) rfl rfl rfl rfl rfl aB (hr.mono (by decide)) (ak 3) (aH (ak 8) (ak 7))))))))))))))),?_⟩
  refine⟨_,rfl,kf,rfl,true,by rw[hlk];rfl,bI ?_⟩;refine⟨_,rfl,x,c,rfl,hx,wi,bd.mono (by lia),λH1 s1=>?_⟩;refine λD hD=>⟨_,rfl,kf,fnm,D,rfl,rfl,hD,hlk,λfa hfa=>?_⟩
  have hx1:=aA.same s1 hx;obtain⟨ca,xs,rfl,hca,hxs⟩:=aZ (b:=false) (ds:=c.ds) hx1;have hv1:=hv.same s1;refine⟨_,rfl,ca,false,rfl,⟨_,hca⟩,cA (es:=[rD (cH n c.a),rD (cH n c.b),rD (cH n c.c)]) hca hxs rfl (by show 3<=1000;decide) (λi e e' u H2 hd he s2 hu R kk S=>?_) (λss H2 s2 hss St hSt=>?_)⟩
  ·obtain⟨y,rfl,rfl,by_⟩:∃ y:Rat,e=rD y/\e'=rD (cH n y)/\Bq k y:=by
    rcases uU hd with ⟨rfl,rfl⟩|⟨rfl,rfl⟩|⟨rfl,rfl⟩
    ·exact⟨c.a,rfl,(K8 he).symm,bd.a⟩
    ·exact⟨c.b,rfl,(K8 he).symm,bd.b⟩
    ·exact⟨c.c,rfl,(K8 he).symm,bd.c⟩
   obtain⟨wa,rfl,hwa⟩:=cC hu;refine⟨wa,_,rfl,dk.of hwa,rfl,_,_,rfl,_,_,rfl,rfl,bj (B:=S H2) ?_⟩;refine⟨_,rfl,_,rfl,_,rfl,a,C,dx,_,rfl,hC,(s1.trans s2) _ _ ha,rfl,.ref a,n,f,rfl,hv1.same s2,h2,h7,λw H3 s3 hw3=>?_⟩;obtain⟨wb,rfl,hwb⟩:=cC (n:=(n:Int)) (d:=dW n) hw3;refine dX hwb ⟨_,_,rfl,rfl,.inl ⟨by_.sd.mono (by lia),sap.mono (by decide)⟩,_,_,rfl,Mf by_.ne (by lia),(by_.sd.mul sap).mono (by lia),?_⟩;exact xN.sh (Mf by_.ne (by lia)) λw H4 s4 hw4=>kk _ _ ⟨s3.trans s4,hw4⟩
  have sS:af H2 (upd H2 St (.lst ss)):=af.new hSt;have hS3:aA K (upd H2 St (.lst ss)) (.list [rD (cH n c.a),rD (cH n c.b),rD (cH n c.c)]) (.ref St):=aA.listN hSt hss;have s3:=(s1.trans s2).trans sS;generalize upd H2 St (.lst ss)=H3 at sS hS3 s3 ⊢;obtain⟨St',ss',eS,hSq,hss3⟩:=aZ (b:=true) (ds:=[rD (cH n c.a),rD (cH n c.b),rD (cH n c.c)]) hS3;cases eS;refine⟨_,rfl,St,true,rfl,⟨_,hSq⟩,cA (es:=[.int ((cM n c.a:Nat):Int),.int ((cM n c.b:Nat):Int),.int ((cM n c.c:Nat):Int)]) hSq hss3 rfl (by show 3<=1000;decide) (λi e e' u H4 hd he s4 hu R kk S=>?_) (λls H4 s4 hls L hL=>?_)⟩
  ·obtain⟨y,rfl,rfl,by_,dv⟩:∃ y:Rat,e=rD (cH n y)/\e'=.int ((cM n y:Nat):Int)/\Bq k y/\Dv n y:=by
    rcases uU hd with ⟨rfl,rfl⟩|⟨rfl,rfl⟩|⟨rfl,rfl⟩
    ·exact⟨c.a,rfl,(K8 he).symm,bd.a,dva⟩
    ·exact⟨c.b,rfl,(K8 he).symm,bd.b,dvb⟩
    ·exact⟨c.c,rfl,(K8 he).symm,bd.c,dvc⟩
   refine bj (B:=S H4) ⟨_,rfl,u,_,_,rfl,hu,(bqs by_).mono (by lia),_,rfl,a,C,dx,_,_,rfl,hC,(s3.trans s4) _ _ ha,rfl,_,_,rfl,rfl,_,_,rfl,?_⟩;have e:(if(n:Int)-2<(cH n y).num.fdiv ((cH n y).den:Int) then(n:Int)-2 else(cH n y).num.fdiv ((cH n y).den:Int))=((cM n y:Nat):Int):=by
    rw[B2,nA dv];rfl
   rw[e];exact kk _ _ ⟨af.refl _,.int _⟩
  have els:=cn (ns:=[((cM n c.a:Nat):Int),((cM n c.b:Nat):Int),((cM n c.c:Nat):Int)]) hls;subst els;refine⟨L,_,rfl,.inl ⟨bE.of ae,λle hle=>?_⟩⟩;have s5:af H3 (upd (upd H4 L (.lst ([((cM n c.a:Nat):Int),((cM n c.b:Nat):Int),((cM n c.c:Nat):Int)].map V.int))) le (.tup ([((cM n c.a:Nat):Int),((cM n c.b:Nat):Int),((cM n c.c:Nat):Int)].map V.int))):=(s4.trans (af.new hL)).trans (af.new hle);have hle5:upd (upd H4 L (.lst ([((cM n c.a:Nat):Int),((cM n c.b:Nat):Int),((cM n c.c:Nat):Int)].map V.int))) le (.tup ([((cM n c.a:Nat):Int),((cM n c.b:Nat):Int),((cM n c.c:Nat):Int)].map V.int)) le=some (.tup (fF (ui n c))):=ae;generalize upd (upd H4 L (.lst ([((cM n c.a:Nat):Int),((cM n c.b:Nat):Int),((cM n c.c:Nat):Int)].map V.int))) le (.tup ([((cM n c.a:Nat):Int),((cM n c.b:Nat):Int),((cM n c.c:Nat):Int)].map V.int))=H5 at s5 hle5 ⊢;have brs:∀ r∈[cH n c.a,cH n c.b,cH n c.c],Bq (k+6) r:=λr hr=>by
   simp only[Ln,LF,Nd] at hr;rcases hr with rfl|rfl|rfl
   ·exact bqs bd.a
   ·exact bqs bd.b
   ·exact bqs bd.c
  refine⟨_,rfl,.ref St,true,k+6,[cH n c.a,cH n c.b,cH n c.c],rfl,aA.same s5 hS3,brs,by show 3<=500;decide,by lia,by show 3*(k+6)+(k+6)+1<=7900;lia,λtv H6 s6 htv=>?_⟩;obtain⟨B0,BS⟩:=g9 brs 3 (by show 3<=3;decide);rw[LI (by show 3<=3;decide)] at B0 BS;have dvd:∀ r∈[cH n c.a,cH n c.b,cH n c.c],(r.den:Int)∣cP [cH n c.a,cH n c.b,cH n c.c]:=λr hr=>qO hr
  have ovs:∀ r∈[cH n c.a,cH n c.b,cH n c.c],Sm (3*(k+6)+(k+6)+1) (ov (cP [cH n c.a,cH n c.b,cH n c.c]) r):=λr hr=>Fq brs hr
  generalize cP [cH n c.a,cH n c.b,cH n c.c]=B at *;obtain⟨ta,ts,rfl,hta,hts⟩:=aZ (b:=false) (ds:=[.list ([cH n c.a,cH n c.b,cH n c.c].map λr=>.int (ov B r)),.int B]) htv;obtain⟨t0,rfl,ht0⟩:∃ t0,ts=[t0,.int B]/\aA K H6 (.list ([cH n c.a,cH n c.b,cH n c.c].map λr=>.int (ov B r))) t0:=by
   cases hts with
   |cons k1 k2=>
    cases k2 with
    |cons k3 k4=>
     cases k3;cases k4;exact⟨_,rfl,k1⟩
  refine⟨ta,_,rfl,hta,rfl,_,_,rfl,_,_,rfl,rfl,?_⟩;obtain⟨tl,tls,rfl,htl,htls⟩:=aZ (b:=true) (ds:=[cH n c.a,cH n c.b,cH n c.c].map λr=>.int (ov B r)) ht0;have hle6:=s6 _ _ hle5;refine⟨_,rfl,_,rfl,tl,le,true,false,rfl,⟨_,htl⟩,⟨_,dk.of hle6⟩,fH (fs:=[.int (ov B (cH n c.a)-((cM n c.a:Nat):Int)*B),.int (ov B (cH n c.b)-((cM n c.b:Nat):Int)*B),.int (ov B (cH n c.c)-((cM n c.c:Nat):Int)*B)]) htl (show bY K H6 le (fF (ui n c)) false from dk.of hle6) htls (fQ [((cM n c.a:Nat):Int),((cM n c.b:Nat):Int),((cM n c.c:Nat):Int)]) rfl rfl (by show 3<=1000;decide) (λi e e' e'' u v T H7 hd he hf s7 hu hv' hT R kk S=>?_) (λfs H7 s7 hfs F hF=>?_)⟩
  ·have sle:∀ {m:Nat},m+2<=n->Sm 8000 (m:Int):=λh=>Sm.mono (k:=20) (by unfold Sm;lia) (by decide)
   have sB:Sm 8000 B:=BS.mono (by lia);have l1:=cR dva;have l2:=cR dvb;have l3:=cR dvc;rcases uU hd with ⟨rfl,rfl⟩|⟨rfl,rfl⟩|⟨rfl,rfl⟩
   ·cases(K8 he);cases(K8 hf);cases hu;cases hv';exact⟨T,_,rfl,dk.of hT,rfl,_,_,rfl,_,_,rfl,rfl,bj (B:=S H7) ⟨_,rfl,_,rfl,_,rfl,_,_,rfl,rfl,.inl ⟨sle l1,sB⟩,_,_,rfl,rfl,kk _ _ ⟨af.refl _,.int _⟩⟩⟩
   ·cases(K8 he);cases(K8 hf);cases hu;cases hv';exact⟨T,_,rfl,dk.of hT,rfl,_,_,rfl,_,_,rfl,rfl,bj (B:=S H7) ⟨_,rfl,_,rfl,_,rfl,_,_,rfl,rfl,.inl ⟨sle l2,sB⟩,_,_,rfl,rfl,kk _ _ ⟨af.refl _,.int _⟩⟩⟩
   ·cases(K8 he);cases(K8 hf);cases hu;cases hv';exact⟨T,_,rfl,dk.of hT,rfl,_,_,rfl,_,_,rfl,rfl,bj (B:=S H7) ⟨_,rfl,_,rfl,_,rfl,_,_,rfl,rfl,.inl ⟨sle l3,sB⟩,_,_,rfl,rfl,kk _ _ ⟨af.refl _,.int _⟩⟩⟩
  have efs:=cn (ns:=[ov B (cH n c.a)-((cM n c.a:Nat):Int)*B,ov B (cH n c.b)-((cM n c.b:Nat):Int)*B,ov B (cH n c.c)-((cM n c.c:Nat):Int)*B]) hfs;subst efs;have BR:(B:Rat)≠0:=by
   intro z;have:B=0:=by exact_mod_cast z
   lia
  have ra:((ov B (cH n c.a)-((cM n c.a:Nat):Int)*B:Int):Rat)=fC n c.a*(B:Rat):=by
   rw[Mn,Lw,yW (dvd _ (by simp))];unfold fC;grind
  have rb:((ov B (cH n c.b)-((cM n c.b:Nat):Int)*B:Int):Rat)=fC n c.b*(B:Rat):=by
   rw[Mn,Lw,yW (dvd _ (by simp))];unfold fC;grind
  have rc:((ov B (cH n c.c)-((cM n c.c:Nat):Int)*B:Int):Rat)=fC n c.c*(B:Rat):=by
   rw[Mn,Lw,yW (dvd _ (by simp))];unfold fC;grind
  have sf:∀ {y:Rat},y∈[c.a,c.b,c.c]->Dv n y->Sm (4*k+30) (ov B (cH n y)-((cM n y:Nat):Int)*B):=λ{y} hy dv=>by
   have h1:=ovs (cH n y) (by simp only[Ln,LF,Nd] at hy ⊢;rcases hy with rfl|rfl|rfl<;>simp);have h2:Sm (3+(3*(k+6)+1)) (((cM n y:Nat):Int)*B):=(show Sm 3 ((cM n y:Nat):Int) by have:=cR dv;unfold Sm;lia).mul BS;have h3:Sm (4*k+29) (ov B (cH n y)):=h1.mono (by lia);have h4:Sm (4*k+29) (((cM n y:Nat):Int)*B):=h2.mono (by lia);exact h3.sub h4
  have sfa:=sf (by simp) dva;have sfb:=sf (by simp) dvb;have sfc:=sf (by simp) dvc;generalize ov B (cH n c.a)-((cM n c.a:Nat):Int)*B=fx at *;generalize ov B (cH n c.b)-((cM n c.b:Nat):Int)*B=fy at *;generalize ov B (cH n c.c)-((cM n c.c:Nat):Int)*B=fz at *;have s8:af H7 (upd H7 F (.lst ([fx,fy,fz].map V.int))):=af.new hF;have hF8:bE K (upd H7 F (.lst ([fx,fy,fz].map V.int))) F [.int fx,.int fy,.int fz]:=bE.of ae;have sAll:af H (upd H7 F (.lst ([fx,fy,fz].map V.int))):=(((s3.trans s5).trans s6).trans s7).trans s8;have hle8:=(s7.trans s8) _ _ hle6;generalize upd H7 F (.lst ([fx,fy,fz].map V.int))=H8 at s8 hF8 sAll hle8 ⊢;have hB8:Sm (4*k+30) B:=BS.mono (by lia);have cin:∀ t:Kn,t.1<=1->t.2.1<=1->t.2.2<=1->am (ui n c) t∈aW n:=λt u1 u2 u3=>by
   rw[bV];have l1:=cR dva;have l2:=cR dvb;have l3:=cR dvc;show cM n c.a+t.1<n/\cM n c.b+t.2.1<n/\cM n c.c+t.2.2<n;lia
  have He:∀ j,Sm (4*k+30) (aL fx fy fz j):=λj=>by
   match j with
   |0=>exact sfa
   |1=>exact sfb
   |_+2=>exact sfc
  refine⟨_,rfl,a,C,dx,_,rfl,hC,sAll _ _ ha,rfl,_,rfl,?_⟩;rcases hway with rfl|rfl
  ·cases(K8 hlk);refine⟨_,rfl,hJ K,(l_ T).fnV hfa (by decide),_,rfl,_,rfl,F,fx,fy,fz,B,rfl,hF8,tb.same sAll,λo D9 ys H9 ho p1 p2 s9 hD9 hys=>?_⟩;have fall:tV (jT n c) o:=by
    have mono:∀ i j,aL fx fy fz i<=aL fx fy fz j->jT n c i<=jT n c j:=λi j h=>by
     have hp:∀ k,((aL fx fy fz k:Int):Rat)=jT n c k*(B:Rat):=λk=>by
      match k with
      |0=>exact ra
      |1=>exact rb
      |_+2=>exact rc
     have h':((aL fx fy fz i:Int):Rat)<=((aL fx fy fz j:Int):Rat):=by exact_mod_cast h
     rw[hp,hp] at h';exact O2 h' (by exact_mod_cast B0)
    exact⟨ho,mono _ _ p1,mono _ _ p2⟩
   obtain⟨o1,o2,o3⟩:=rS ho;have un1:∀ {j:Nat},j<3->(un j).1<=1/\(un j).2.1<=1/\(un j).2.2<=1:=λ{j} h=>by
    match j,h with
    |0,_=>decide
    |1,_=>decide
    |2,_=>decide
   have u2:∀ {p:Pc},p∈fX (aL fx fy fz) B o.1 o.2.1 o.2.2->(p.1.1<=1/\p.1.2.1<=1/\p.1.2.2<=1)/\Sm (4*k+31) p.2:=λ{p} hp=>by
    simp only[dG,Ln,LF,Nd] at ho;simp only[fX,Ln,LF,Nd] at hp;refine⟨?_,?_⟩
    ·rcases ho with rfl|rfl|rfl|rfl|rfl|rfl<;>rcases hp with rfl|rfl|rfl|rfl<;>(dsimp only;decide)
    ·rcases hp with rfl|rfl|rfl|rfl
     ·exact hB8.sub (He _)
     ·exact(He _).sub (He _)
     ·exact(He _).sub (He _)
     ·exact(He _).mono (by lia)
   have wtp:∀ p∈fX (aL fx fy fz) B o.1 o.2.1 o.2.2,(f (am (ui n c) p.1)).Wt:=λp hp=>hw _ (cin p.1 (u2 hp).1.1 (u2 hp).1.2.1 (u2 hp).1.2.2)
   refine⟨.ref a,.ref le,D9,ys,n,f,ui n c,_,rfl,hv.same (sAll.trans s9),gC (s9 _ _ hle8),hD9,hys,by show 4<=10;decide,hw,λp hp=>cin p.1 (u2 hp).1.1 (u2 hp).1.2.1 (u2 hp).1.2.2,λp hp=>(u2 hp).2.mono (by lia),by rw[pH];lia,by rw[pH];exact hB8.mono (by lia),λw Ha sa hwr=>?_⟩;refine q (Ai f (ui n c) (fX (aL fx fy fz) B o.1 o.2.1 o.2.2)) w Ha ((sAll.trans s9).trans sa) (λ_=>?_) (λz=>absurd z (by decide)) ?_ hwr
   ·refine Q3.ext ?_ ?_ ?_<;>exact(Bo BR ra rb rc).trans (Du fall)
   ·have h0:((fX (aL fx fy fz) B o.1 o.2.1 o.2.2).map (·.2)).sum≠0:=by rw[pH];lia
    have bb:∀ {g:R3->Int},(∀ p∈fX (aL fx fy fz) B o.1 o.2.1 o.2.2,Sm 10 (g (f (am (ui n c) p.1))))->Bq (12*k+120) (pJ f (ui n c) g (fX (aL fx fy fz) B o.1 o.2.1 o.2.2)):=λhg=>Ok.mono (Cu (n:=n) hg (λp hp=>(u2 hp).2) h0) (by show 10+(4*k+31)+4<=12*k+120;lia)
    exact⟨bb λp hp=>(kU (wtp p hp)).1,bb λp hp=>(kU (wtp p hp)).2.1,bb λp hp=>(kU (wtp p hp)).2.2⟩
  ·cases(K8 hlk);refine⟨_,rfl,gj K,(lD T).fnV hfa (by decide),_,rfl,_,rfl,F,fx,fy,fz,B,4*k+30,rfl,hF8,sfa,sfb,sfc,hB8,by lia,λD9 ys H9 s9 hD9 hys=>?_⟩;have u2:∀ {p:Pc},p∈cr (aL fx fy fz) B->(p.1.1<=1/\p.1.2.1<=1/\p.1.2.2<=1)/\Sm (12*k+94) p.2:=λ{p} hp=>by
    obtain⟨t,ht,rfl⟩:=Md.mp hp;have:=bV.mp ht;exact⟨by show t.1<=1/\t.2.1<=1/\t.2.2<=1;lia,(uA (Bk sfa sfb sfc hB8) t 3).mono (by lia)⟩
   have wtp:∀ p∈cr (aL fx fy fz) B,(f (am (ui n c) p.1)).Wt:=λp hp=>hw _ (cin p.1 (u2 hp).1.1 (u2 hp).1.2.1 (u2 hp).1.2.2)
   have l8:(cr (aL fx fy fz) B).length=8:=by unfold cr;rw[K'];rfl
   have h0:((cr (aL fx fy fz) B).map (·.2)).sum≠0:=by
    rw[lR];exact Mf (Mf (by lia) (by lia)) (by lia)
   refine⟨.ref a,.ref le,D9,ys,n,f,ui n c,_,rfl,hv.same (sAll.trans s9),gC (s9 _ _ hle8),hD9,hys,by rw[l8];decide,hw,λp hp=>cin p.1 (u2 hp).1.1 (u2 hp).1.2.1 (u2 hp).1.2.2,λp hp=>(u2 hp).2.mono (by lia),h0,by rw[lR];exact((hB8.mul hB8).mul hB8).mono (by lia),λw Ha sa hwr=>?_⟩;refine q (Ai f (ui n c) (cr (aL fx fy fz) B)) w Ha ((sAll.trans s9).trans sa) (λz=>absurd z (by decide)) (λ_=>?_) ?_ hwr
   ·refine Q3.ext ?_ ?_ ?_<;>exact As BR ra rb rc
   ·have bb:∀ {g:R3->Int},(∀ p∈cr (aL fx fy fz) B,Sm 10 (g (f (am (ui n c) p.1))))->Bq (12*k+120) (pJ f (ui n c) g (cr (aL fx fy fz) B)):=λhg=>Ok.mono (Cu (n:=n) hg (λp hp=>(u2 hp).2) h0) (by rw[l8];lia)
    exact⟨bb λp hp=>(kU (wtp p hp)).1,bb λp hp=>(kU (wtp p hp)).2.1,bb λp hp=>(kU (wtp p hp)).2.2⟩
theorem lq:av oR oR (ag eg):=dD
inductive lv (K:HD)(vs:List V)(H:Hp)(Q:VK)(_:XK):Prop
 |mk (v:V) (n:Nat) (f:Kn->R3) (_:vs=[v]) (_:kF K H n f v) (_:Q .non H)
theorem gm (T:df K mg w):dm P w K mg base c5 1 "refuse_no_grid" oR [] (lv K):=by
  refine T.x1r.cal lq (bb:=λ_ _ _ _ _ H vs Q E hr h=>?_);obtain⟨v,n,f,rfl,hv,q⟩:=h;obtain⟨a,C,dx,d,rfl,hC,ha,hg⟩:=id hv;refine⟨_,(cQ.go (ah (bn (a_ (bg (ax (HZ (K:=K) (x:="Grid") rfl T.x1 T.xq) (by rfl) T.x0 aK (aH (ak 0) (Eo (K:=K) (x:="Grid") rfl rfl (AR T.x1)))))) (ah cz) aM))),?_⟩;refine⟨_,rfl,λD hD=>?_⟩;have e:=cu hC hD;subst e;exact⟨_,_,rfl,hD,.inl ⟨a,dx,_,rfl,ha,_,rfl,bI q⟩⟩
theorem dg:av ["grid","least","order","place","worths","way"] uC5 (ag fO):=dD
inductive ng (K:HD)(vs:List V)(H:Hp)(Q:VK)(_:XK):Prop
 |mk (v:V) (a b:Lg) (n:Nat) (f:Kn->R3) (t:Kn) (o:Nat×Nat×Nat) (_:vs=[v,.ref a,.ref b]) (_:kF K H n f v) (_:H a=some (.tup (fF t))) (_:KT K b (fF o)) (_:o∈dG) (_:ph n t) (_:∀ (w:V) (H':Hp),af H H'->aA K H' (.list ((Fx t o 4).map λu=>wD (f u))) w->Q w H')
theorem iI (T:df K mg w):dm P w K mg base c5 6 "worths_along" uC5 [] (ng K):=by
  refine T.x1s.cal dg (bb:=λ_ _ _ _ _ H vs Q E hr h=>?_);obtain⟨v,a,b,n,f,t,o,rfl,hv,ha,hb,ho,hlow,q⟩:=h;obtain⟨g,C,dx,d,rfl,hC,hg,hgr⟩:=id hv;refine⟨_,(cQ.go (ab (az 3 dg.nd (bW (vA (K:=K) rfl) (by rfl) T.x6 hV (aE (ak 1))))
   (ab (az 4 dg.nd (bN (aE (nU (K:=K) rfl aB (fN T) (hr.mono (by decide)) (ak 0) (aE (ak 1))))))
   (ab (di Ms rfl (bB (K:=K) rfl (ak 2)) (ai 5 dg.nd) (ab (BW (ak 3) (ak 5) DK aa G7 lB)
   (ah (cm (rW On NI N_ jy (ak 4) (aE (nU (K:=K) rfl aB (fN T) (hr.mono (by decide)) (ak 0) (aE (bW (jE (K:=K) rfl) (by rfl) T.x3 cB (aE (ak 3)))))))))))
   (ah (au (ak 4))))))),?_⟩
  have mem:∀ {i:Nat},i<=3->am t (dC o i)∈aW n:=λhi=>sU hlow (n0 ho hi)
  have t0:am t (dC o 0)=t:=Ke t;refine⟨_,rfl,a,_,rfl,.inr (dk.of ha),λpl hpl=>?_⟩;generalize e0:upd H pl _=H1;have s1:=uW hpl e0;have gp:=rT e0;have tm:t∈aW n:=by
   have:=mem (i:=0) (by decide);rw[t0] at this;exact this
  refine⟨_,rfl,g,C,dx,_,rfl,hC,s1 _ _ hg,rfl,_,rfl,.ref g,.ref a,n,f,t,rfl,hv.same s1,gC (s1 _ _ ha),tm,λw0 H2 s2 hw0=>⟨Hz,λwl hwl=>?_⟩⟩;have gw:upd H2 wl (.lst [w0]) wl=some (.lst [w0]):=ae;have sw:af H2 (upd H2 wl (.lst [w0])):=af.new hwl;have nwp:wl≠pl:=λz=>by rw[z,s2 _ _ gp] at hwl;cases hwl
  have nwl:H wl=none:=vL (s1.trans s2) hwl;have hws0:ay K (upd H2 wl (.lst [w0])) ((Fx t o 1).map λu=>wD (f u)) [w0]:=by
   have e:(Fx t o 1).map (λu=>wD (f u))=[wD (f t)]:=by
    show[wD (f (am t (dC o 0)))]=_;rw[t0]
   rw[e];exact .cons (aA.same sw hw0) .nil
  generalize upd H2 wl (.lst [w0])=H3 at gw sw hws0 ⊢;have s3:af H H3:=(s1.trans s2).trans sw;refine⟨_,rfl,b,false,rfl,⟨_,KT.sq hb⟩,ll (K:=K) (b:=false) (xs:=fF o) (λi σ H'=>(∃ o5:Option V,σ=[some (.ref g),some (.ref a),some (.ref b),some (.ref pl),some (.ref wl),o5])/\af H H'/\H' pl=some (.lst (fF (am t (dC o i))))/\∃ ws,H' wl=some (.lst ws)/\ay K H' ((Fx t o (i+1)).map λu=>wD (f u)) ws)
   ⟨⟨_,rfl⟩,s3,by rw[t0];exact(s2.trans sw) _ _ gp,[w0],gw,hws0⟩ (λi σ H' _ _=>KT.sq hb) ?_ ?_⟩
  ·rintro i xv σ H4 ex ⟨⟨o5,rfl⟩,s4,hp4,ws,hw4,hws⟩;have hi:i<3:=(Ll.mp ex).1;have exv:xv=.int ((kf o i:Nat):Int):=by
    match i,hi,ex with
    |0,_,ex=>exact(K8 ex).symm
    |1,_,ex=>exact(K8 ex).symm
    |2,_,ex=>exact(K8 ex).symm
   subst exv;have w3:=CF (i:=i) ho;obtain⟨m,em,es⟩:=Gy (t:=am t (dC o i)) w3;rw[CG] at es;refine⟨_,rfl,_,rfl,pl,_,_,_,rfl,rfl,by lia,hp4,(show(fF (am t (dC o i)))[((kf o i:Nat):Int).toNat]?=some (.int m) by rw[MI];exact em),_,_,rfl,rfl,pl,_,_,kf o i,rfl,rfl,hp4,zj (by show kf o i<3;exact w3),?_⟩;have es:(fF (am t (dC o i))).set (kf o i) (.int (m+1))=fF (am t (dC o (i+1))):=es;rw[es];have sA:af H (upd H4 pl (.lst (fF (am t (dC o (i+1)))))):=lj s4 hpl;have gA:upd H4 pl (.lst (fF (am t (dC o (i+1))))) pl=some (.lst (fF (am t (dC o (i+1))))):=ae;have hwA:upd H4 pl (.lst (fF (am t (dC o (i+1))))) wl=some (.lst ws):=by rw[aq nwp];exact hw4
   have hwsA:=ay.lput (zs:=fF (am t (dC o (i+1)))) hp4 (nC _) hws;generalize upd H4 pl (.lst (fF (am t (dC o (i+1)))))=HA at sA gA hwA hwsA ⊢;refine⟨_,rfl,.inl ⟨rfl,_,bE.of hwA⟩,_,rfl,g,C,dx,_,rfl,hC,sA _ _ hg,rfl,_,rfl,pl,_,rfl,.inl ⟨bE.of gA,λl hl=>?_⟩⟩;generalize e0:upd HA l _=HB;have sl:=uW hl e0;have gl:=rT e0;refine⟨.ref g,.ref l,n,f,am t (dC o (i+1)),rfl,hv.same (sA.trans sl),gC gl,mem (by lia),λw1 HC sC hw1=>?_⟩;have sAC:=sl.trans sC;have hwC:=sAC _ _ hwA;have lw:=hws.length;rw[K'] at lw;have lw4:ws.length<=4:=by
    rw[<- lw];show(List.map _ _).length<=4;rw[K',N7];lia
   refine⟨wl,ws,w1,rfl,rfl,hwC,bH (by lia),⟨_,rfl⟩,lj (sA.trans sAC) nwl,by rw[aq nwp.symm];exact sAC _ _ gA,_,ae,?_⟩;rw[Di,Mg];exact(ay.lput hwC (nC _) (ay.same sAC hwsA)).snoc (by
    have:=ay.lput (zs:=ws++[w1]) hwC (ds:=[wD (f (am t (dC o (i+1))))]) rfl (.cons hw1 .nil);cases this with
    |cons h _=>exact h)
  ·rintro σ H4 ⟨⟨o5,rfl⟩,s4,hp4,ws,hw4,hws⟩;exact⟨_,rfl,q _ H4 s4 (.lst (.inl hw4) hws)⟩
theorem oz:av ["worths"] ["worths"] (ag gJ):=dD
inductive pS (K:HD)(vs:List V)(H:Hp)(Q:VK)(_:XK):Prop
 |mk (x:V) (r0 r1 r2 r3:R3) (_:vs=[x]) (_:aA K H (.list [wD r0,wD r1,wD r2,wD r3]) x) (_:∀ (w:V) (H':Hp),af H H'->aA K H' (EY r0 r1 r2 r3).d w->Q w H')
theorem ji (T:df K mg w):dm P w K mg base c5 1 "differences" ["worths"] [] (pS K):=by
  refine T.x1t.cal oz (bb:=λ_ _ _ _ _ H vs Q E hr h=>?_);obtain⟨x,r0,r1,r2,r3,rfl,hx,q⟩:=h;refine⟨_,(cQ.go (ah (au (aQ tR [] [] 2 (gM (K:=K) rfl rfl T.x5 (aH (ak 0) (qU (Jg (K:=K) rfl) (ak 0) (vt aa) ul))) (λnd=>(bZ (K:=K) (n:=2) rfl rfl (ao (ai 0 nd) (ao (ai 1 nd) aX)))) aG (aQ ["low","high"] [] [] 2 (gM (K:=K) rfl rfl T.x5 (aH (ak 0) (ak 1))) (λnd=>(bZ (K:=K) (n:=2) rfl rfl (ao (ai 0 nd) (ao (ai 1 nd) aX)))) aG (ar c_ (ak 1) (ak 0))))))),?_⟩;obtain⟨xa,xs,rfl,hxa,hxs⟩:=aZ (b:=true) (ds:=[wD r0,wD r1,wD r2,wD r3]) hx;obtain⟨y0,ys,rfl,h0,hys⟩:∃ y0 ys,xs=y0::ys/\aA K H (wD r0) y0/\ay K H [wD r1,wD r2,wD r3] ys:=by
   cases hxs with
   |cons h t=>exact⟨_,_,rfl,h,t⟩
  refine⟨_,rfl,_,rfl,1,rfl,xa,_,rfl,hxa,λp hp=>?_⟩;rw[ve (y0::ys) (by simp)];have sp:af H (upd H p (.lst ys)):=af.new hp;have gp:upd H p (.lst ys) p=some (.lst ys):=ae;dsimp only [List.drop];generalize upd H p (.lst ys)=H1 at sp gp ⊢;have hxs1:ay K H1 [wD r0,wD r1,wD r2,wD r3] (y0::ys):=ay.same sp (.cons h0 hys);refine⟨xa,p,true,true,rfl,⟨_,bY.same sp hxa⟩,⟨_,bE.of gp⟩,rn (K:=K) (fs:=[h_ true (r1.sub r0),h_ true (r2.sub r1),h_ true (r3.sub r2)]) (bY.same sp hxa) (show bY K H1 p ys true from bE.of gp) hxs1 (ay.same sp hys) (by show 3<=4;decide) rfl (by show 4<=1000;decide) (λi d e f' x y T H2 hd he hf s2 hx2 hy2 hT R kk S=>?_) (λzs H2 s2 hzs Z hZ=>?_)⟩
  ·obtain⟨u,w,rfl,rfl,rfl⟩:∃ u w:R3,d=wD u/\e=wD w/\f'=h_ true (w.sub u):=by
    rcases uU he with ⟨rfl,rfl⟩|⟨rfl,rfl⟩|⟨rfl,rfl⟩
    ·exact⟨r0,r1,(K8 hd).symm,rfl,(K8 hf).symm⟩
    ·exact⟨r1,r2,(K8 hd).symm,rfl,(K8 hf).symm⟩
    ·exact⟨r2,r3,(K8 hd).symm,rfl,(K8 hf).symm⟩
   obtain⟨ua,rfl,hua⟩:=gB (b:=false) hx2;obtain⟨wa,rfl,hwa⟩:=gB (b:=false) hy2;refine⟨T,_,rfl,dk.of hT,rfl,_,_,rfl,_,_,rfl,rfl,bj (B:=S H2) ⟨_,rfl,_,rfl,ua,wa,false,false,rfl,⟨_,hua⟩,⟨_,hwa⟩,fH (K:=K) (fs:=(w.sub u).ds) hua hwa (oh _) (oh _) rfl rfl (by show 3<=1000;decide) (λj d e g' x y T' H3 hd he hf s3 hx3 hy3 hT' R' kk' S'=>?_) (λzs H3 s3 hzs Z hZ=>?_)⟩⟩
   ·obtain⟨k,l,rfl,rfl,rfl⟩:∃ k l:Int,d=.int k/\e=.int l/\g'=.int (l-k):=by
     rcases uU hd with ⟨rfl,rfl⟩|⟨rfl,rfl⟩|⟨rfl,rfl⟩<;>(cases(K8 he);cases(K8 hf);exact⟨_,_,rfl,rfl,rfl⟩)
    cases hx3;cases hy3;exact⟨T',_,rfl,dk.of hT',rfl,_,_,rfl,_,_,rfl,rfl,bj (B:=S' H3) ⟨_,rfl,_,rfl,_,_,rfl,rfl,kk' _ _ ⟨af.refl _,.int _⟩⟩⟩
   ·exact kk _ _ ⟨s3.trans (af.new hZ),aA.listN hZ hzs⟩
  ·exact q _ _ ((sp.trans s2).trans (af.new hZ)) (aA.listN hZ hzs)
theorem ck:av ["goal","start","rows","size","tops","below","away","first","second","third","across"] uB7 (ag iX):=dD
inductive rV (K:HD)(vs:List V)(H:Hp)(Q:VK)(_:XK):Prop
 |mk (x y z:V) (e:Q3) (r:R3) (s:S9) (_:vs=[x,y,z,.int s.det]) (_:aA K H e.col x) (_:e.Bd 250) (_:aA K H (wD r) y) (_:r.In 4000) (_:aA K H s.d z) (_:s.In) (_:s.det≠0) (_:∀ (D:Lg) (ws:List V) (H':Hp),af H H'->H' D=some (.lst ws)->ay K H' (iN e r s).ds ws->Q (.ref D) H')
theorem sK (T:df K mg w):dm P w K mg base c5 3 "distances" uB7 [] (rV K):=by
  refine T.x1u.cal ck (bb:=λ_ _ _ _ _ H vs Q E hr h=>?_);obtain⟨x,y,z,e,r,sq,rfl,hx,be,hy,hr3,hz,hin,hd,q⟩:=h;refine⟨_,(cQ.go (ab (gy (ac aB (gz T) hr (aE (ak 0))) (bZ (K:=K) (n:=2) rfl rfl (ao (ai 4 ck.nd) (ao (ai 5 ck.nd) aX))))
   (ab (az 6 ck.nd (aQ ["top","number"] ["below"] [5] 2 (gM (K:=K) rfl rfl T.x5 (aH (ak 4) (ak 1))) (λnd=>(bZ (K:=K) (n:=2) rfl rfl (ao (ai 0 nd) (ao (ai 1 nd) aX)))) aG (ar c_ (ak 0) (ar aS (ak 1) (ak 2)))))
   (ab (gy (ak 2) (xA (K:=K) (n:=3) rfl rfl (ao (ai 7 ck.nd) (ao (ai 8 ck.nd) (ao (ai 9 ck.nd) aX)))))
   (ab (az 10 ck.nd (bN (aj (ac aB (il T) hr (aH (ak 8) (ak 9))) (aj (ac aB (il T) hr (aH (ak 9) (ak 7))) (aj (ac aB (il T) hr (aH (ak 7) (ak 8))) aU)))))
   (ah (au (aQ ["row"] ["away","size","below"] [6,3,5] 1 (bB (K:=K) rfl (ak 10)) (λnd=>(ai 0 nd)) aG (ac aB (cL T T.xa) hr (aH (ac aB (iQ T) hr (aH (ak 1) (ak 0))) (ar aS (ak 2) (ak 3)))))))))))),?_⟩
  refine⟨_,rfl,x,false,250,[e.a,e.b,e.c],rfl,hx,wm be,by show 3<=500;decide,by decide,by show 3*250+250+1<=7900;decide,λtv H1 s1 htv=>?_⟩;obtain⟨B0,BS⟩:=yL be;obtain⟨z0,z1⟩:=FL be hin hd;obtain⟨w1,w2,w3⟩:=yE be hr3;obtain⟨ta,ts,rfl,hta,hts⟩:=aZ (b:=false) (ds:=[.list ([e.a,e.b,e.c].map λq=>.int (ov (dB e) q)),.int (dB e)]) htv;obtain⟨t0,rfl,ht0⟩:∃ t0,ts=[t0,.int (dB e)]/\aA K H1 (.list ([e.a,e.b,e.c].map λq=>.int (ov (dB e) q))) t0:=by
   obtain⟨t0,t1,rfl,k0,k1⟩:=EU hts;cases k1;exact⟨t0,rfl,k0⟩
  obtain⟨tl,tls,rfl,htl,htls⟩:=aZ (b:=true) (ds:=[e.a,e.b,e.c].map λq=>.int (ov (dB e) q)) ht0;have etl:=cn (ns:=[ov (dB e) e.a,ov (dB e) e.b,ov (dB e) e.c]) htls;subst etl;obtain⟨ya,rfl,hya⟩:=gB (b:=false) (aA.same s1 hy);refine⟨ta,_,rfl,hta,rfl,_,_,rfl,_,_,rfl,rfl,?_⟩;refine⟨_,rfl,_,rfl,tl,ya,true,false,rfl,⟨_,htl⟩,⟨_,hya⟩,fH (K:=K) (fs:=(cN e r).ds) htl hya (fQ [ov (dB e) e.a,ov (dB e) e.b,ov (dB e) e.c]) (oh _) rfl rfl (by show 3<=1000;decide) (λj d e' g' x y T' H3 hd he hf s3 hx3 hy3 hT' R' kk' S'=>?_) (λzs H3 s3 hzs Z hZ=>?_)⟩
  ·obtain⟨k,l,rfl,rfl,rfl,hl⟩:∃ k l:Int,d=.int k/\e'=.int l/\g'=.int (k-l*dB e)/\Sm 13 l:=by
    rcases uU hd with ⟨rfl,rfl⟩|⟨rfl,rfl⟩|⟨rfl,rfl⟩<;>(cases(K8 he);cases(K8 hf))
    ·exact⟨_,_,rfl,rfl,rfl,iO hr3.a1 hr3.a2⟩
    ·exact⟨_,_,rfl,rfl,rfl,iO hr3.b1 hr3.b2⟩
    ·exact⟨_,_,rfl,rfl,rfl,iO hr3.c1 hr3.c2⟩
   cases hx3;cases hy3;exact⟨T',_,rfl,dk.of hT',rfl,_,_,rfl,_,_,rfl,rfl,bj (B:=S' H3) ⟨_,rfl,_,rfl,_,rfl,_,_,rfl,rfl,.inr (hl.mono (by decide)),_,_,rfl,rfl,kk' _ _ ⟨af.refl _,.int _⟩⟩⟩
  ·have ez:=fI hzs;subst ez;have sZ:af H3 (upd H3 Z (.lst (cN e r).vs)):=af.new hZ;have gZ:upd H3 Z (.lst (cN e r).vs) Z=some (.lst (cN e r).vs):=ae;have s04:af H (upd H3 Z (.lst (cN e r).vs)):=(s1.trans s3).trans sZ;generalize upd H3 Z (.lst (cN e r).vs)=H4 at sZ gZ s04 ⊢;obtain⟨a,xs,rfl,ha,hds⟩:=aZ (aA.same s04 hz);obtain⟨x0,x1,x2,rfl,g0,g1,g2⟩:=cW hds;refine⟨_,rfl,a,_,rfl,mj ha,rfl,_,_,rfl,_,_,rfl,_,_,rfl,rfl,?_⟩;refine⟨_,rfl,_,rfl,x1,x2,_,_,sq.y,sq.z,rfl,g1,g2,hin.y,hin.z,λv0 H5 s5 h0=>?_⟩;refine⟨_,rfl,_,rfl,x2,x0,_,_,sq.z,sq.x,rfl,aA.same s5 g2,aA.same s5 g0,hin.z,hin.x,λv1 H6 s6 h1=>?_⟩;refine⟨_,rfl,_,rfl,x0,x1,_,_,sq.x,sq.y,rfl,aA.same (s5.trans s6) g0,aA.same (s5.trans s6) g1,hin.x,hin.y,λv2 H7 s7 h2=>?_⟩;refine⟨Fm,λC hC=>?_⟩;have sC:af H7 (upd H7 C (.lst [v0,v1,v2])):=af.new hC;have hcs:ay K (upd H7 C (.lst [v0,v1,v2])) [h_ true sq.c0,h_ true sq.c1,h_ true sq.c2] [v0,v1,v2]:=.cons (aA.same ((s6.trans s7).trans sC) h0) (.cons (aA.same (s7.trans sC) h1) (.cons (aA.same sC h2) .nil));have hC1:bY K (upd H7 C (.lst [v0,v1,v2])) C [v0,v1,v2] true:=bE.of ae;have s48:af H4 (upd H7 C (.lst [v0,v1,v2])):=(s5.trans s6).trans (s7.trans sC);generalize upd H7 C (.lst [v0,v1,v2])=H8 at hcs hC1 s48 ⊢;have sms:∀ m∈[(cN e r).a,(cN e r).b,(cN e r).c],Sm 8000 m:=λm hm=>by
    simp only[Ln,LF,Nd] at hm;rcases hm with rfl|rfl|rfl
    ·exact w1.mono (by decide)
    ·exact w2.mono (by decide)
    ·exact w3.mono (by decide)
   have smc:∀ {c:R3},c.In 200000000->∀ m∈[c.a,c.b,c.c],Sm 8000 m:=λ{c} hc m hm=>by
    simp only[Ln,LF,Nd] at hm;rcases hm with rfl|rfl|rfl
    ·exact(Am hc.a1 hc.a2).mono (by decide)
    ·exact(Am hc.b1 hc.b2).mono (by decide)
    ·exact(Am hc.c1 hc.c2).mono (by decide)
   refine⟨_,rfl,C,true,rfl,⟨_,hC1⟩,cA (es:=(iN e r sq).ds) hC1 hcs rfl (by show 3<=1000;decide) (λi d e' u H9 hd9 he s9 hu R kk S=>?_) (λzs H9 s9 hzs D hD=>q D zs _ (s04.trans ((s48.trans s9).trans (af.new hD))) ae (ay.same (af.new hD) hzs))⟩;refine bj (B:=S H9) ?_;have dsm:=(wU hin).mono (show 60<=64 by decide);obtain⟨c,rfl,rfl,hc⟩:∃ c:R3,d=h_ true c/\e'=rD (((cN e r).dot c:Rat)/((sq.det*dB e:Int):Rat))/\c.In 200000000:=by
    rcases uU hd9 with ⟨rfl,rfl⟩|⟨rfl,rfl⟩|⟨rfl,rfl⟩<;>cases(K8 he)
    ·exact⟨_,rfl,rfl,f9 hin.y hin.z⟩
    ·exact⟨_,rfl,rfl,f9 hin.z hin.x⟩
    ·exact⟨_,rfl,rfl,f9 hin.x hin.y⟩
   obtain⟨g,rfl,hg⟩:=gB hu;refine⟨_,rfl,_,rfl,Z,g,true,true,[(cN e r).a,(cN e r).b,(cN e r).c],[c.a,c.b,c.c],rfl,bE.of ((s48.trans s9) _ _ gZ),hg,rfl,by show 3<=1000;decide,sms,smc hc,λH10 s10=>?_⟩;rw[D8];exact⟨_,rfl,_,rfl,_,_,rfl,rfl,.inr dsm,_,_,rfl,z0,z1.mono (by decide),xN.sh z0 λv8 H8 s8 hv8=>kk _ _ ⟨s10.trans s8,hv8⟩⟩
theorem jW:av ["far","falling"] ["far"] (ag iq):=dD
inductive qt (K:HD)(vs:List V)(H:Hp)(Q:VK)(_:XK):Prop
 |mk (a:Lg) (ws:List V) (p:Q3) (_:vs=[.ref a]) (_:H a=some (.lst ws)) (_:ay K H p.ds ws) (_:p.Bd 3900) (_:∀ (H':Hp),af H H'->Q (.bl (BN p)) H')
theorem qp (T:df K mg w):dm P w K mg base c5 3 "is_in_part" ["far"] [] (qt K):=by
  refine T.x1v.cal jW (bb:=λ_ _ _ _ _ H vs Q E hr h=>?_);obtain⟨a,ws,p,rfl,ha,hws,bp,q⟩:=h;refine⟨_,(cQ.go (ab (az 1 jW.nd (ar v9 (ar v9 (bN (aE (ac aB (cL T T.x8) hr (aE aa)))) (ak 0)) (bN (aE (ac aB (cL T T.x8) hr (aE aa))))))
   (ah (au (tS (ax (FF (K:=K) rfl rfl) (by rfl) T.xg BO (aE (aQ tR [] [] 2 (gM (K:=K) rfl rfl T.x5 (aH (ak 1) (qU (Jg (K:=K) rfl) (ak 1) (vt aa) ul))) (λnd=>(bZ (K:=K) (n:=2) rfl rfl (ao (ai 0 nd) (ao (ai 1 nd) aX)))) aG (ac aB (wk T) hr (aH (ak 0) (ak 1))))))))))),?_⟩
  obtain⟨x0,x1,x2,rfl,g0,g1,g2⟩:=cW hws;have o1:Sm 8000 (1:Int):=Sm.mono (k:=20) (by unfold Sm;decide) (by decide);refine⟨1,1,rfl,by decide,o1,xN.sh (by decide) λv1 H1 s1 hv1=>?_⟩;rw[hO] at hv1;refine⟨Hz,λp1 hp1=>?_⟩;generalize e0:upd H1 p1 _=H2;have s2:=uW hp1 e0;have gp:=rT e0;refine⟨_,rfl,p1,a,_,_,rfl,rfl,gp,(s1.trans s2) _ _ ha,by show 4<=Ly;decide,λZ hZ=>?_⟩;generalize e0:upd H2 Z _=H3;have s3:=uW hZ e0;have gZ:=rT e0;refine⟨0,1,rfl,by decide,o1,xN.sh (by decide) λv2 H4 s4 hv2=>?_⟩;rw[hO] at hv2;refine⟨Hz,λp2 hp2=>?_⟩;generalize e0:upd H4 p2 _=H5;have s5:=uW hp2 e0;have gq:=rT e0;refine⟨Z,p2,_,_,rfl,rfl,(s4.trans s5) _ _ gZ,gq,by show 5<=Ly;decide,λF hF=>?_⟩;generalize e0:upd H5 F _=H6;have s6:=uW hF e0;have gF:=rT e0;refine⟨_,rfl,_,rfl,1,rfl,F,_,rfl,bE.of gF,λG hG=>?_⟩;rw[ve _ (by simp)];generalize e0:upd H6 G _=H7;have s7:=uW hG e0;have gG:=rT e0;have s05:af H H7:=((s1.trans s2).trans (s3.trans (s4.trans s5))).trans (s6.trans s7);have h1:ay K H7 p.ds [x0,x1,x2]:=ay.same s05 (.cons g0 (.cons g1 (.cons g2 .nil)));have hd1:ay K H7 [rD p.a,rD p.b,rD p.c,rD ((0:Int):Rat)] [x0,x1,x2,v2]:=by
   obtain⟨_,_,_,e,k0,k1,k2⟩:=cW h1;cases e;exact .cons k0 (.cons k1 (.cons k2 (.cons (aA.same (s5.trans (s6.trans s7)) hv2) .nil)))
  have hd0:ay K H7 [rD ((1:Int):Rat),rD p.a,rD p.b,rD p.c,rD ((0:Int):Rat)] [v1,x0,x1,x2,v2]:=.cons (aA.same ((s2.trans (s3.trans (s4.trans s5))).trans (s6.trans s7)) hv1) hd1;have b0:Bq 3900 ((0:Int):Rat):=Ok.mono Kg (by decide);have b1:Bq 3900 ((1:Int):Rat):=by
   rw[<- hO];exact eV (by decide) (Sm.mono (k:=20) (by unfold Sm;decide) (by decide)) (Sm.mono (k:=20) (by unfold Sm;decide) (by decide))
  refine⟨F,G,true,true,rfl,⟨_,bE.of (s7 _ _ gF)⟩,⟨_,bE.of gG⟩,rn (K:=K) (fs:=[.bool (decide (1<p.a)),.bool (decide (p.a<p.b)),.bool (decide (p.b<p.c)),.bool (decide (p.c<0))]) (bE.of (s7 _ _ gF)) (show bY K H7 G [x0,x1,x2,v2] true from bE.of gG) hd0 hd1 (by show 4<=5;decide) rfl (by show 5<=1000;decide) (λi d e f' x y T H8 hd he hf s8 hx8 hy8 hT R kk S=>?_) (λzs H8 s8 hzs Z hZ=>?_)⟩
  ·obtain⟨u,w,rfl,rfl,rfl,bu,bw⟩:∃ u w:Rat,d=rD u/\e=rD w/\f'=.bool (decide (u<w))/\Bq 3900 u/\Bq 3900 w:=by
    match i,hd,he,hf with
    |0,hd,he,hf=>cases hd;cases he;cases hf;exact⟨_,_,rfl,rfl,rfl,b1,bp.a⟩
    |1,hd,he,hf=>cases hd;cases he;cases hf;exact⟨_,_,rfl,rfl,rfl,bp.a,bp.b⟩
    |2,hd,he,hf=>cases hd;cases he;cases hf;exact⟨_,_,rfl,rfl,rfl,bp.b,bp.c⟩
    |3,hd,he,hf=>cases hd;cases he;cases hf;exact⟨_,_,rfl,rfl,rfl,bp.c,b0⟩
    |n+4,_,he,_=>simp at he
   exact⟨T,_,rfl,dk.of hT,rfl,_,_,rfl,_,_,rfl,rfl,bj (B:=S H8) ⟨_,rfl,_,rfl,x,y,u,w,rfl,hx8,hy8,bu,bw,kk _ _ ⟨af.refl _,.bl _⟩⟩⟩
  ·have ez:=fZ (bs:=[decide (1<p.a),decide (p.a<p.b),decide (p.b<p.c),decide (p.c<0)]) hzs;subst ez;exact⟨Z,_,rfl,bE.of ae,_,rfl,q _ ((s05.trans s8).trans (af.new hZ))⟩
theorem fw:av ["least","order","far","apart","numbers","way","distance"] uB5 (ag jc):=dD
inductive rJ (K:HD)(vs:List V)(H:Hp)(Q:VK)(_:XK):Prop
 |mk (a b x:Lg) (ws:List V) (t:Kn) (o:Nat×Nat×Nat) (p:Q3) (ap:Int) (_:vs=[.ref a,.ref b,.ref x,.int ap]) (_:H a=some (.tup (fF t))) (_:t.1<64) (_:t.2.1<64) (_:t.2.2<64) (_:KT K b (fF o)) (_:o∈dG) (_:H x=some (.lst ws)) (_:ay K H p.ds ws) (_:p.Bd 1035) (_:0<=ap) (_:ap<=60) (_:∀ (w:V) (H':Hp),af H H'->(uh t o p ap).Bd 1060->aA K H' (uh t o p ap).col w->Q w H')
theorem ud (T:df K mg w):dm P w K mg base c5 5 "colour_at" uB5 [] (rJ K):=by
  refine T.x1w.cal fw (bb:=λ_ _ _ _ _ H vs Q E hr h=>?_);obtain⟨a,b,x,ws,t,o,p,ap,rfl,ha,t1,t2,t3,hb,ho,hx,hws,bp,a0,a1,q⟩:=h;refine⟨_,(cQ.go (ab (az 4 fw.nd (bN (aj (ac aB (cL T T.x8) hr (aE aa)) (aj (ac aB (cL T T.x8) hr (aE aa)) (aj (ac aB (cL T T.x8) hr (aE aa)) aU)))))
   (ab (di Ms rfl (gM (K:=K) rfl rfl T.x5 (aH (ak 1) (ak 2))) (bZ (K:=K) (n:=2) rfl rfl (ao (ai 5 fw.nd) (ao (ai 6 fw.nd) aX))) (ah (gy (ac aB (qk T) hr (aH (ac aB (Bm T) hr (aH (ac aB (cL T T.x8) hr (aE (aw K (ak 0) (ak 5)))) (ak 6))) (ac aB (cL T T.x8) hr (aE (ak 3))))) (tj (ak 4) (ak 5) lB))))
   (ah (au (bW (jE (K:=K) rfl) (by rfl) T.x3 cB (aE (ak 4)))))))),?_⟩
  obtain⟨x0,x1,x2,rfl,g0,g1,g2⟩:=cW hws;have o1:Sm 8000 (1:Int):=Sm.mono (k:=20) (by unfold Sm;decide) (by decide);refine⟨0,1,rfl,by decide,o1,xN.sh (by decide) λv0 H1 s1 hv0=>?_⟩;refine⟨0,1,rfl,by decide,o1,xN.sh (by decide) λv1 H2 s2 hv1=>?_⟩;refine⟨0,1,rfl,by decide,o1,xN.sh (by decide) λv2 H3 s3 hv2=>?_⟩;rw[hO] at hv0 hv1 hv2;refine⟨Fm,λN hN=>?_⟩;have hN0:H N=none:=vL ((s1.trans s2).trans s3) hN;generalize e0:upd H3 N _=H4;have s4:=uW hN e0;have gN:=rT e0;have hn0:ay K H4 ((jK t o p ap 0).map rD) [v0,v1,v2]:=.cons (aA.same ((s2.trans s3).trans s4) hv0) (.cons (aA.same (s3.trans s4) hv1) (.cons (aA.same s4 hv2) .nil));have s04:af H H4:=((s1.trans s2).trans s3).trans s4;refine⟨_,rfl,_,rfl,b,x,false,true,rfl,⟨_,KT.sq hb⟩,⟨_,bE.of (s04 _ _ hx)⟩,yo (K:=K) (xs:=fF o) (ys:=[x0,x1,x2]) (λi σ H'=>(∃ o5 o6:Option V,σ=[some (.ref a),some (.ref b),some (.ref x),some (.int ap),some (.ref N),o5,o6])/\af H H'/\∃ ns,H' N=some (.lst ns)/\ay K H' ((jK t o p ap i).map rD) ns)
   ⟨⟨_,_,rfl⟩,s04,_,gN,hn0⟩ rfl (λi σ H' _ pv=>⟨KT.sq hb,bE.of (pv.2.1 _ _ hx)⟩) ?_ ?_⟩
  ·rintro i xv yv T σ H5 ex ey ⟨⟨o5,o6,rfl⟩,s5,ns,hns,hds⟩ hT;have hi:i<3:=(Ll.mp ex).1;have exv:xv=.int ((kf o i:Nat):Int):=by
    match i,hi,ex with
    |0,_,ex=>exact(K8 ex).symm
    |1,_,ex=>exact(K8 ex).symm
    |2,_,ex=>exact(K8 ex).symm
   subst exv;have hyv:aA K H5 (rD ([p.a,p.b,p.c].getD i 0)) yv/\Bq 1035 ([p.a,p.b,p.c].getD i 0):=by
    match i,hi,ey with
    |0,_,ey=>cases ey;exact⟨aA.same s5 g0,bp.a⟩
    |1,_,ey=>cases ey;exact⟨aA.same s5 g1,bp.b⟩
    |2,_,ey=>cases ey;exact⟨aA.same s5 g2,bp.c⟩
   obtain⟨hyv,byv⟩:=hyv;have w3:=CF (i:=i) ho;have sT:af H5 (upd H5 T (.tup [.int (kf o i:Nat),yv])):=af.new hT;refine⟨T,_,rfl,dk.of ae,rfl,_,_,rfl,_,_,rfl,rfl,?_⟩;generalize upd H5 T (.tup [.int (kf o i:Nat),yv])=H6 at sT ⊢;have s06:=s5.trans sT;refine⟨_,rfl,_,rfl,lK (b:=false) (i:=kf o i) (dk.of (s06 _ _ ha)) (F5 w3) ?_⟩;have o7:Sm 7 (1:Int):=by unfold Sm;decide
   have bk:Bq 7 ((((HG t).getD (kf o i) 0:Int):Rat)/((1:Int):Rat)):=eV (by decide) (Df t1 t2 t3) o7;have ba:Bq 7 (((ap:Int):Rat)/((1:Int):Rat)):=eV (by decide) (show Sm 7 ap by unfold Sm;lia) o7;refine⟨_,1,rfl,by decide,o1,xN.sh (by decide) λu1 H7 s7 hu1=>?_⟩;refine⟨_,rfl,u1,yv,_,_,_,_,rfl,hu1,aA.same (sT.trans s7) hyv,bk.mono (by decide),byv.mono (by decide),xN.sh (uV _ _) ?_⟩;rw[<- zi];refine λu2 H8 s8 hu2=>⟨_,rfl,ap,1,rfl,by decide,o1,xN.sh (by decide) λu3 H9 s9 hu3=>?_⟩
   refine⟨u2,u3,_,_,_,_,rfl,aA.same s9 hu2,hu3,Ok.mono (Bq.add bk byv) (by decide),ba.mono (by decide),xN.sh (uV _ _) ?_⟩;rw[<- yJ];refine λu4 H10 s10 hu4=>?_
   have s6':af H5 H10:=((sT.trans s7).trans s8).trans (s9.trans s10);have hnsA:=s6' _ _ hns;have ln:ns.length=3:=by rw[<- hds.length,K',lr]
   refine⟨_,rfl,_,rfl,N,ns,_,kf o i,rfl,rfl,hnsA,zj (by rw[ln];exact w3),⟨_,_,rfl⟩,lj (s5.trans s6') hN0,_,ae,?_⟩;have e:(jK t o p ap (i+1)).map rD=((jK t o p ap i).map rD).set (kf o i) (rD (((((HG t).getD (kf o i) 0:Int):Rat)/((1:Int):Rat)+[p.a,p.b,p.c].getD i 0)*(((ap:Int):Rat)/((1:Int):Rat)))):=by rw[jK,List.map_set]
   rw[e];have k1:=ay.lput (zs:=ns.set (kf o i) u4) hnsA (tZ _) (ay.same s6' hds);have k2:=ay.lput (zs:=ns.set (kf o i) u4) hnsA (ds:=[rD _]) (tZ [_]) (.cons hu4 .nil);cases k2 with
   |cons k2 _=>exact uG k2 _ k1
  ·rintro σ H5 ⟨⟨o5,o6,rfl⟩,s5,ns,hns,hds⟩;have hds':ay K H5 (uh t o p ap).ds ns:=by rw[<- GD];exact hds
   refine⟨_,rfl,N,ns,rfl,.inl ⟨bE.of hns,λl hl=>?_⟩⟩;exact q _ _ (s5.trans (af.new hl)) (G3 t1 t2 t3 bp a0 a1) (aA.tupN (ds:=(uh t o p ap).ds) hl hds')
theorem cS:av ["grid","least","order","goal","worths","rows","size","far"] uB6 (ag gQ):=dD
inductive pW (K:HD)(vs:List V)(H:Hp)(Q:VK)(_:XK):Prop
 |mk (v y:V) (a b:Lg) (n:Nat) (f:Kn->R3) (t:Kn) (o:Nat×Nat×Nat) (e:Q3) (_:vs=[v,.ref a,.ref b,y]) (_:kF K H n f v) (_:Be n f) (_:2<=n) (_:n<=7) (_:H a=some (.tup (fF t))) (_:KT K b (fF o)) (_:o∈dG) (_:ph n t) (_:aA K H e.col y) (_:e.Bd 250) (_:(∀ H',af H H'->i8 n f e (t,o)=none->Q .non H')) (_:∀ (c:Q3) (w:V) (H':Hp),af H H'->i8 n f e (t,o)=some c->c.Bd 1060->aA K H' c.col w->Q w H')
theorem oG (T:df K mg w):dm P w K mg base c5 7 "way_in_part" uB6 [] (pW K):=by
  refine T.x1x.cal cS (bb:=λ_ _ _ _ _ H vs Q E hr h=>?_);obtain⟨v,y,a,b,n,f,t,o,e,rfl,hv,wt,n2,n7,ha,hb,ho,hlow,hy,be,q0,q1⟩:=h;obtain⟨g,C,dx,d,rfl,hC,hg,hgr⟩:=id hv;refine⟨_,(cQ.go (ab (az 4 cS.nd (ac aB (iI T) hr (aj (ak 0) (aj (ak 1) (aj (ak 2) aU)))))
   (ab (az 5 cS.nd (ac aB (ji T) hr (aE (ak 4))))
   (ab (az 6 cS.nd (ac aB (qS T) hr (aE (ak 5))))
   (ab (bn (aN dz (ak 6) aa (aT _)) (ah (au rL)) aM)
   (ab (az 7 cS.nd (ac aB (sK T) hr (aj (ak 3) (aj (aw K (ak 4) aa) (aj (ak 5) (aj (ak 6) aU))))))
   (ab (bn (a_ (bg (ac aB (qp T) hr (aE (ak 7))))) (ah (au rL)) aM)
   (ah (au (ac aB (ud T) hr (aj (ak 1) (aj (ak 2) (aj (ak 7) (aj (aw K (pC (K:=K) rfl aB (fS T) (hr.mono (by decide)) (ak 0)) aa) aU)))))))))))))),?_⟩
  have mem:∀ {i:Nat},i<=3->(f (am t (dC o i))).Wt:=λhi=>wt _ (sU hlow (n0 ho hi))
  refine⟨_,rfl,_,rfl,_,rfl,.ref g,a,b,n,f,t,o,rfl,hv,ha,hb,ho,hlow,λw H1 s1 hw=>?_⟩;obtain⟨wa,ws,rfl,hwa,hws⟩:=aZ (b:=true) (ds:=(Fx t o 4).map λu=>wD (f u)) hw;obtain⟨y0,ys,rfl,h0⟩:∃ y0 ys,ws=y0::ys/\aA K H1 (wD (f (am t (dC o 0)))) y0:=by
   cases hws with
   |cons h t=>exact⟨_,_,rfl,h⟩
  refine⟨_,rfl,.ref wa,_,_,_,_,rfl,hw,λw2 H2 s2 hw2=>?_⟩;have hin:(aO f (t,o)).In:=yi (mem (by decide)) (mem (by decide)) (mem (by decide)) (mem (by decide));refine⟨_,rfl,w2,aO f (t,o),rfl,hw2,hin,λH3 s3=>?_⟩;have s03:=(s1.trans s2).trans s3;have r0:=IY (mem (i:=0) (by decide));refine⟨_,rfl,_,_,rfl,rfl,_,rfl,eU (λhc=>?_) (λhc=>?_)⟩
  ·have hd:=Mu hc;exact q0 _ s03 (by unfold i8;rw[LL hd])
  ·have hd:(aO f (t,o)).det≠0:=λz=>hc (Lj z)
   refine⟨_,rfl,_,rfl,lK (b:=true) (i:=0) (bY.same (b:=true) (s2.trans s3) hwa) rfl ⟨_,rfl,_,rfl,y,y0,w2,e,f (am t (dC o 0)),aO f (t,o),rfl,aA.same s03 hy,be,aA.same (s2.trans s3) h0,r0,aA.same s3 hw2,hin,hd,λD ws H4 s4 hD hws=>?_⟩⟩;have bf:=F9 be r0 hin hd;generalize hF:iN e (f (am t (dC o 0))) (aO f (t,o))=F at bf hws;have s04:=s03.trans s4;refine⟨_,rfl,D,ws,F,rfl,hD,hws,bf.mono (by decide),λH5 s5=>?_⟩;have s05:=s04.trans s5;have ew:i8 n f e (t,o)=if BN F=true then some (uh t o F (dW n)) else none:=by unfold i8;rw[LB hd];dsimp only;rw[hF]
   refine⟨_,rfl,eU (λhc=>?_) (λhc=>?_)⟩
   ·have hc':BN F=false:=by simpa using hc
    exact q0 _ s05 (by rw[ew,hc'];rfl)
   ·have hc':BN F=true:=by simpa using hc
    refine⟨_,rfl,_,rfl,_,rfl,_,rfl,g,C,dx,_,rfl,hC,s05 _ _ hg,rfl,.ref g,n,f,rfl,hv.same s05,n2,n7,λw6 H6 s6 hw6=>?_⟩;obtain⟨sa,ss,rfl,hsa,hss⟩:=aZ (b:=false) (ds:=[.int n,.int (dW n)]) hw6;have es:=cn (ns:=[(n:Int),dW n]) hss;subst es;have s06:=s05.trans s6;obtain⟨p0,p1⟩:=IN n2 n7;obtain⟨l1,l2,l3⟩:=id hlow;refine lK (b:=false) (i:=1) hsa rfl ⟨a,b,D,ws,t,o,F,dW n,rfl,s06 _ _ ha,by lia,by lia,by lia,hb,ho,(s5.trans s6) _ _ hD,ay.same (s5.trans s6) hws,bf,p0,p1,λw7 H7 s7 bd7 hw7=>?_⟩;exact q1 _ w7 H7 (s06.trans s7) (by rw[ew,LL hc']) bd7 hw7
theorem qW:av ["colours","scale"] ["colours"] (ag gU):=dD
inductive A0 (K:HD)(vs:List V)(H:Hp)(Q:VK)(_:XK):Prop
 |mk (l:Lg) (xs:List (Q3×Lg)) (_:vs=[.ref l]) (_:H l=some (.lst (xs.map λp=>.ref p.2))) (_:(∀ p∈xs,aA K H p.1.col (.ref p.2))) (_:(∀ p∈xs,p.1.Bd 1060)) (_:xs.length<64) (_:v7 K "rising" H) (_:∀ (z:Int) (D:Lg) (H':Hp),JI xs z->af H H'->H' D=some (.lst ((mw z xs).map λp=>.ref p.2))->Q (.ref D) H')
theorem zW (T:df K mg w):dm P w K mg base c5 1 "rising" ["colours"] [] (A0 K):=by
  refine T.x2h.cal qW (bb:=λ_ _ _ _ _ H vs Q E hcv hr h=>?_);obtain⟨l,xs,rfl,hl,hxs,bx,hn,⟨Pt,tb,hP⟩,q⟩:=h;obtain⟨c,rfl,hcd⟩:=hcv Pt tb;refine⟨_,(cQ.go (ab (az 1 qW.nd (ar E1 (DJ (K:=K) rfl rfl rfl T.xj (lZ rfl (bB (K:=K) rfl (ak 0)) (lu (by decide +kernel) (by rfl)) (pQ (ts:=uB4) (cs:=[]) (js:=[]) (k:=3) (by rfl) rfl rfl) (λ_ _ _ _ _=>(ai 0 (show P6 (α:=Str) uB4 by decide +kernel))) (λ_ _ _ _ _=>aG) (λ_ _ _ _ _=>(lA rfl rfl rfl (bB (K:=K) rfl (ak 0)) (bZ (K:=K) (n:=2) rfl rfl (ao (ai 1 (show P6 (α:=Str) uB4 by decide +kernel)) (ao (ai 2 (show P6 (α:=Str) uB4 by decide +kernel)) aX))) aG (pY rfl rfl (ak 2)))))) aa))
   (ah (au (Ao (K:=K) (i:=1) rfl rfl hr.u2 hr rfl T.xk rfl hcd rfl rfl (ak 0)))))),?_⟩
  refine⟨_,rfl,l,true,rfl,⟨_,bE.of hl⟩,mD (xs:=xs.map λp=>V.ref p.2) (λi ys H'=>af H H'/\ys=(oN (xs.take i)).map V.int) ⟨af.refl _,rfl⟩ (λi ys H' _ p=>bE.of (p.1 _ _ hl)) (λi x ys H3 ex p R kk S=>?_) (λys H3 p=>?_)⟩
  ·obtain⟨s3,ey⟩:=p;rw[Lk] at ex;obtain⟨p,ep,rfl⟩:=Lx.mp ex;have pm:=Lq ep;obtain⟨xa,ya,za,hpa,hrw⟩:=Bp (aA.same s3 (hxs p pm));refine bj (B:=S H3) ⟨_,rfl,p.2,false,rfl,⟨_,dk.of hpa⟩,lm (b:=false) (xs:=[V.ref xa,V.ref ya,V.ref za]) (λj σ ys' H'=>(∃ o1 o2:Option V,σ=[some (.ref p.2),o1,o2])/\af H3 H'/\ys'=(oN (xs.take i)++((f8 p.1).take j).map (·.2)).map V.int) ⟨⟨_,_,rfl⟩,af.refl _,by simpa using ey⟩ (λj σ ys' H' _ pv=>dk.of (pv.2.1 _ _ hpa)) (λj v σ ys' H4 ev pv R2 kk2 S2=>?_) (λσ ys' H4 pv=>?_)⟩
   ·obtain⟨⟨o1,o2,rfl⟩,s4,ey4⟩:=pv;have hj:j<3:=(Ll.mp ev).1;obtain⟨r,er⟩:∃ r,(f8 p.1)[j]?=some r:=⟨_,LS (show j<3 from hj)⟩
    obtain⟨b,rfl,hb⟩:=hrw j v r ev er;have lt:ys'.length<=3*64+3:=by
     rw[ey4,K',LC,uJ,L5,K',L5];have:(f8 p.1).length=3:=rfl;lia
    refine⟨b,_,rfl,dk.of (s4 _ _ hb),rfl,_,_,rfl,_,_,rfl,rfl,bj (B:=S2 [some (.ref p.2),some (.int r.1),some (.int r.2)] H4) ⟨Nh lt (by decide),_,rfl,kk2 _ _ _ ⟨⟨_,_,rfl⟩,s4,?_⟩⟩⟩;rw[bC er,ey4];simp only[Mg,NN,LA,NL]
   ·obtain⟨⟨o1,o2,rfl⟩,s4,ey4⟩:=pv;refine kk _ _ _ ⟨s3.trans s4,?_⟩;rw[bC ep,zY,ey4];rfl
  ·obtain⟨s3,ey⟩:=p;rw[LI (by rw[K'];exact Lc _)] at ey;have dsm:=E5 bx;have ly:ys.length<=1000:=by rw[ey,K',uJ];lia
   refine⟨ly,λD hD=>⟨D,oN xs,rfl,bE.of (by rw[ey];exact ae),λm hm=>?_⟩⟩;obtain⟨m1,sm,mx⟩:=EC (k:=1060) (by unfold Sm;decide +kernel) dsm hm;have s4:af H (upd H3 D (.lst ys)):=s3.trans (af.new hD);have sz:Sm 2120 (m^2):=by
    rw[SC,SC,Int.pow_zero,Int.one_mul];exact(sm.mul sm).mono (by decide)
   refine⟨_,_,rfl,rfl,⟨by decide,by decide,sm.mono (by decide)⟩,?_⟩;refine⟨_,rfl,l,xs,m^2,rfl,bE.of (s4 _ _ hl),λp hp=>aA.same s4 (hxs p hp),hn,rfl,λp hp r hr=>?_,s4 _ _ hP,λH2 D2 s5 hD2=>q (m^2) D2 _ ⟨m,rfl,m1,mx⟩ ((s4.trans s5).trans (af.new hD2)) ae⟩;have b:=bx p hp;unfold f8 at hr;simp only[Ln,LF,Nd] at hr;have all:∀ {u:Rat},Bq 1060 u->Sm 8000 u.num/\Sm 8000 (m^2)/\Sm 8000 (u.num*m^2)/\Sm 8000 (u.den:Int):=λ{u} bu=>⟨bu.sn.mono (by decide),sz.mono (by decide),(bu.sn.mul sz).mono (by decide),bu.sd.mono (by decide)⟩
   rcases hr with rfl|rfl|rfl
   ·exact all b.a
   ·exact all b.b
   ·exact all b.c
theorem dJ:av ["grid","goal","found","least","order","colour"] uB0 (ag jh):=dD
inductive tQ (K:HD)(vs:List V)(H:Hp)(Q:VK)(_:XK):Prop
 |mk (v y:V) (n:Nat) (f:Kn->R3) (e:Q3) (_:vs=[v,y]) (_:kF K H n f v) (_:Be n f) (_:2<=n) (_:n<=3) (_:aA K H e.col y) (_:e.Bd 250) (_:v7 K "rising" H) (_:∀ (z:Int) (xs:List (Q3×Lg)) (D:Lg) (H':Hp),JI xs z->xs.map (·.1)=gf n f e (bD n)->wq K H' xs->(∀ p∈xs,p.1.Bd 1060)->xs.length<64->af H H'->H' D=some (.lst ((mw z xs).map λp=>.ref p.2))->Q (.ref D) H')
theorem kQ (T:df K mg w):dm P w K mg base c5 8 "ways_back" uB0 [] (tQ K):=by
  refine T.x1y.cal dJ (bb:=λ_ _ _ _ _ H vs Q E hr h=>?_);obtain⟨v,y,n,f,e,rfl,hv,wt,n2,n3,hy,be,tb,q⟩:=h;refine⟨_,(cQ.go (ab (cm (ac aB (gm T) hr (aE (ak 0))))
   (ab (cm (ac aB (jJ T) hr (aE (ak 1))))
   (ab (az 2 dJ.nd (AA (P:=P) (w:=w) rfl rfl))
   (ab (di Ms rfl (bB (K:=K) rfl (ac aB (mU T) hr (aE (ak 0)))) (bZ (K:=K) (n:=2) rfl rfl (ao (ai 3 dJ.nd) (ao (ai 4 dJ.nd) aX))) (ab (az 5 dJ.nd (ac aB (oG T) hr (aj (ak 0) (aj (ak 3) (aj (ak 4) (aj (ak 1) aU))))))
   (ah (bn (aN Ec (ak 5) rL (aT _)) (ah (zK (P:=P) (w:=w) (K:=K) rfl rfl hr.u2 (ak 2) (ak 5) eX rfl)) aM))))
   (ah (au (ac aB (zW T) hr (aE (bW (we (P:=P) (w:=w) (K:=K) rfl rfl rfl) (by rfl) T.x6 hV (aE (ak 2)))))))))))),?_⟩
  refine⟨_,rfl,v,n,f,rfl,hv,?_⟩;refine⟨_,rfl,y,e.a,e.b,e.c,rfl,hy,λH1 s1=>?_⟩;refine λF hF=>?_
  have sF:af H1 (upd H1 F (AE P w F [])):=af.new hF;have gF:upd H1 F (AE P w F []) F=some (AE P w F []):=ae;generalize upd H1 F (AE P w F [])=H2 at sF gF ⊢;refine⟨_,rfl,v,n,f,rfl,hv.same (s1.trans sF),n2,by lia,λD ys H3 s3 hD hys=>?_⟩;have few:=qZ n3;have ly:=hys.length;refine⟨D,true,rfl,⟨_,bE.of hD⟩,ll (K:=K) (xs:=ys) (λi σ H'=>(∃ o3 o4 o5:Option V,σ=[some v,some y,some (.ref F),o3,o4,o5])/\af H1 H'/\dY H3 H'/\∃ xs,H' F=some (AE P w F xs)/\xs.map (·.1)=gf n f e ((bD n).take i)/\wq K H' xs/\(∀ p∈xs,p.1.Bd 1060)/\xs.length<=i)
   ⟨⟨_,_,_,rfl⟩,sF.trans s3,dY.refl _,[],s3 _ _ gF,rfl,EA,λ_ h=>(by cases h),Lc _⟩ (λi σ H' _ pv=>bE.of (pv.2.2.1 _ _ hD (λ_ z=>nomatch z))) ?_ ?_⟩
  ·rintro i xv σ H4 ex ⟨⟨o3,o4,o5,rfl⟩,s4,se,xs,hFx,ew,ks,bd,lx⟩;have hi:i<ys.length:=(Ll.mp ex).1;obtain⟨p,ep,hpI⟩:=hys.get ex;obtain⟨pq,a,b,rfl,hq,ha,hb⟩:=hpI.sameE se;have pm:=fY.mp (Lq ep);have low:=jH n2 pm.1;have cH:gf n f e ((bD n).take (i+1))=iG n f e (gf n f e ((bD n).take i)) p:=by rw[bC ep,AX]
   refine⟨pq,_,rfl,dk.of hq,rfl,_,_,rfl,_,_,rfl,rfl,?_⟩;refine⟨_,rfl,_,rfl,_,rfl,_,rfl,v,y,a,b,n,f,p.1,p.2,e,rfl,hv.same (s1.trans s4),wt,n2,by lia,ha,hb,pm.2,low,aA.same (s1.trans s4) hy,be,λH5 s5 hn=>?_,λc w5 H5 s5 hc bc hw=>?_⟩
   ·refine⟨_,rfl,rfl,_,rfl,bI ⟨⟨_,_,_,rfl⟩,s4.trans s5,se.trans (sE s5),xs,s5 _ _ hFx,?_,ks.same s5,bd,by lia⟩⟩;rw[cH,ew];unfold iG;rw[show i8 n f e p=none from hn]
   ·obtain⟨cb,cs,rfl,_,_⟩:=aZ (b:=false) (ds:=c.ds) hw;have hF5:=s5 _ _ hFx;refine⟨_,rfl,rfl,_,rfl,bj ⟨_,rfl,_,rfl,F,cb,xs,c,rfl,rfl,rfl,hF5,hw,ks.same s5,by lia,⟨_,_,_,rfl⟩,lj (s4.trans s5) hF,(se.trans (sE s5)).trans (dY.put hF5),oK xs c cb,ae,?_,(ks.same s5).put hw (dY.put hF5),λp' hp'=>?_,LM (Fl _ _ _) (by lia)⟩⟩
    ·rw[cH,yX,ew];unfold iG;rw[show i8 n f e p=some c from hc]
    ·rcases yt hp' with hp'|rfl
     ·exact bd _ hp'
     ·exact bc
  ·rintro σ H4 ⟨⟨o3,o4,o5,rfl⟩,s4,se,xs,hFx,ew,ks,bd,lx⟩;rw[LI (by lia)] at ew;refine⟨_,rfl,F,xs,rfl,hFx,ks,by lia,λL hL=>?_⟩;have sL:af H4 (upd H4 L (.lst (xs.map λp=>.ref p.2))):=af.new hL;have gL:upd H4 L (.lst (xs.map λp=>.ref p.2)) L=some (.lst (xs.map λp=>.ref p.2)):=ae;generalize upd H4 L (.lst (xs.map λp=>.ref p.2))=H5 at sL gL ⊢;have s05:=(s1.trans s4).trans sL;exact⟨L,xs,rfl,gL,(ks.same sL).1,bd,by lia,tb.same s05,λz D6 H6 hz s6 hD6=>q z xs D6 H6 hz ew (ks.same (sL.trans s6)) bd (by lia) (s05.trans s6) hD6⟩
theorem qJ:av uB0 uB0 (ag iB):=dD
inductive qm (K:HD)(vs:List V)(H:Hp)(Q:VK)(_:XK):Prop
 |mk (v y:V) (n:Nat) (f:Kn->R3) (e:Q3) (_:vs=[v,y]) (_:kF K H n f v) (_:Be n f) (_:2<=n) (_:n<=3) (_:aA K H e.col y) (_:e.Bd 250) (_:v7 K "rising" H) (_:∀ (H':Hp),af H H'->Q (.bl (!(gf n f e (bD n)).isEmpty)) H')
theorem qH (T:df K mg w):dm P w K mg base c5 9 "is_reached" uB0 [] (qm K):=by
  refine T.x1z.cal qJ (bb:=λ_ _ _ _ _ H vs Q E hr h=>?_);obtain⟨v,y,n,f,e,rfl,hv,wt,n2,n3,hy,be,tb,q⟩:=h;refine⟨_,(cQ.go (ah (au (cq yw (ax (iK (K:=K) rfl) (by rfl) T.x2 dO (aE (ac aB (kQ T) hr (aH (ak 0) (ak 1))))) aa (aT _))))),?_⟩;refine⟨_,rfl,_,rfl,v,y,n,f,e,rfl,hv,wt,n2,n3,hy,be,tb,λz xs D H1 hz ew ks bd lx s1 hD=>?_⟩;have ln:((mw z xs).map λp=>V.ref p.2).length=(gf n f e (bD n)).length:=by rw[K',(mq z xs).length_eq,<- ew,K']
  refine⟨D,_,rfl,.inl (bE.of hD),_,_,rfl,rfl,?_⟩;rw[ln];have e2:decide ((0:Int)<(((gf n f e (bD n)).length:Nat):Int))=!(gf n f e (bD n)).isEmpty:=by
   cases gf n f e (bD n) with
   |nil=>rfl
   |cons c cs=>rw[LK,Lj (by lia)];rfl
  dsimp only;rw[e2];exact q _ s1
theorem wB:av uC4 uC4 (ag lX):=dD
inductive wA (K:HD)(vs:List V)(H:Hp)(Q:VK)(_:XK):Prop
 |mk (v:V) (n:Nat) (f:Kn->R3) (_:vs=[v]) (_:kF K H n f v) (_:Be n f) (_:2<=n) (_:n<=6) (_:∀ (H':Hp),af H H'->Q (.bl ((bD n).any λp=>decide ((aO f p).det=0))) H')
theorem yh (T:df K mg w):dm P w K mg base c5 7 "is_flat" uC4 [] (wA K):=by
  refine T.x20.cal wB (bb:=λ_ _ _ _ _ H vs Q E hr h=>?_);obtain⟨v,n,f,rfl,hv,wt,n2,n6,q⟩:=h;refine⟨_,(cQ.go (ab (cm (ac aB (gm T) hr (aE (ak 0))))
   (ah (au (ax (FF (K:=K) rfl rfl) (by rfl) T.xg BO (aE (aQ uC8 uC4 [0] 2 (bB (K:=K) rfl (ac aB (mU T) hr (aE (ak 0)))) (λnd=>(bZ (K:=K) (n:=2) rfl rfl (ao (ai 0 nd) (ao (ai 1 nd) aX)))) aG (cq dz (ac aB (qS T) hr (aE (ac aB (ji T) hr (aE (ac aB (iI T) hr (aj (ak 2) (aj (ak 0) (aj (ak 1) aU)))))))) aa (aT _))))))))),?_⟩
  refine⟨_,rfl,v,n,f,rfl,hv,?_⟩;refine⟨_,rfl,v,n,f,rfl,hv,n2,n6,λD ys H1 s1 hD hys=>?_⟩;have hlen:=hys.length;have lp:(bD n).length<=750:=by
   have:(aW (n-1)).length<=125:=by
    rw[fB];exact Om (show n-1<=5 by lia) 3
   unfold bD;rw[ij];lia
  refine⟨D,true,rfl,⟨_,bE.of hD⟩,zH (K:=K) (b:=true) (xs:=ys) (λi zs H'=>af H1 H'/\i<=ys.length/\zs=(((bD n).take i).map λp=>V.bl (decide ((aO f p).det=0)))) ⟨af.refl _,LY _,rfl⟩ (by lia) (λi zs H' hi ⟨s,_,e⟩=>⟨bE.of (s _ _ hD),by rw[e,K',L5];lia⟩) (λi xv zs H2 ex ⟨s2,hi,e2⟩ RR SS kR kS=>?_) (λzs H2 ⟨s2,hi,e2⟩ N hN=>?_)⟩
  ·obtain⟨p,ep,pq,a,b,rfl,hq,ha,hb⟩:=(hys.same s2).get ex;have pm:=fY.mp (Lq ep);have low:=jH n2 pm.1;have mem:∀ {i:Nat},i<=3->(f (am p.1 (dC p.2 i))).Wt:=λhi=>wt _ (sU low (n0 pm.2 hi))
   have s02:=s1.trans s2;refine⟨pq,_,rfl,dk.of hq,rfl,_,_,rfl,_,_,rfl,rfl,bj (B:=SS H2) ⟨_,rfl,_,rfl,_,rfl,v,a,b,n,f,p.1,p.2,rfl,hv.same s02,ha,hb,pm.2,low,λw H3 s3 hw=>?_⟩⟩;refine⟨w,_,_,_,_,rfl,hw,λw2 H4 s4 hw2=>⟨w2,aO f p,rfl,hw2,yi (mem (by decide)) (mem (by decide)) (mem (by decide)) (mem (by decide)),λH5 s5=>⟨_,_,rfl,rfl,kR _ _ ⟨((s2.trans s3).trans s4).trans s5,(Ll.mp ex).1,?_⟩⟩⟩⟩;rw[bC ep,Mg,e2];rfl
  ·rw[LI (by lia)] at e2;subst e2;refine⟨N,(bD n).map λp=>decide ((aO f p).det=0),rfl,bE.of (by rw[NK];exact ae),?_⟩;have:=q (upd H2 N (.lst ((bD n).map λp=>V.bl (decide ((aO f p).det=0))))) ((s1.trans s2).trans (af.new hN));rw[UK];exact this
theorem sj:av uA4 uA4 (ag iS):=dD
inductive uc (K:HD)(vs:List V)(H:Hp)(Q:VK)(_:XK):Prop
 |mk (a:Lg) (ns:List Int) (_:vs=[.ref a]) (_:bE K H a (ns.map V.int)) (_:ns.length<=63) (_:∀ t r H',af H H'->H t=none->H r=none->c9 H' t r->Q (.ref t) H')
theorem rY (T:df K mg w):dm P w K mg base c5 1 "_law_town" uA4 [] (uc K):=by
  refine T.x21.cal sj (bb:=λ_ _ _ _ _ H vs Q E hr h=>?_);obtain⟨a,ns,rfl,hS,hl,q⟩:=h;refine⟨_,(cQ.go (ah (au (bN (aH (rk (aN (D3 (K:=K) rfl hr.units) (ak 0) (bN aU) (aT _)) (bW (vA (K:=K) rfl) (by rfl) T.x6 hV (aE (ak 0))) (bN (aE aa))) aa))))),?_⟩;refine⟨_,rfl,by decide,λp hp=>⟨a,p,ns,rfl,rfl,(af.new hp).seq hS,ae,_,rfl,?_⟩⟩;have s1:af H (upd H p (.lst [])):=af.new hp
  by_cases hn:ns=[]
  ·rw[Lj hn];refine bI ⟨by decide,λr hr=>⟨vB,λt ht=>?_⟩⟩;have s2:=s1.trans (af.new (o:=.lst [.int 0]) hr);exact q t r _ (s2.trans (af.new ht)) (s2.free ht) (s1.free hr) ⟨[0],0,ae,by rw[aq (aJ ae ht)];exact ae,by decide,by decide⟩
  ·rw[LW hn];refine bj ⟨_,rfl,a,ns.map V.int,rfl,.inl (s1.seq hS),λr hr=>⟨vB,λt ht=>?_⟩⟩;have s2:=s1.trans (af.new (o:=.lst (ns.map V.int)) hr);exact q t r _ (s2.trans (af.new ht)) (s2.free ht) (s1.free hr) ⟨ns,0,ae,by rw[aq (aJ ae ht)];exact ae,hn,hl⟩
theorem cX:av ["_law_town_here","_law_many","_law_row","_law_at","_law_cell","_law_mixed"] uB8 (ag iY):=dD
inductive sg (_:HD)(vs:List V)(H:Hp)(Q:VK)(_:XK):Prop
 |mk (t r:Lg) (many:Int) (_:vs=[.ref t,.int many]) (_:c9 H t r) (_:0<many) (_:Sm 8000 many) (_:∀ (d:Int) (H':Hp),0<=d->d<many->c9 H' t r->Mv [t,r] H H'->Q (.int d) H')
theorem bM (T:df K mg w):dm P w K mg base c5 1 "_law_draw" uB8 [] (sg K):=by
  refine T.x22.cal cX (bb:=λ_ _ _ _ _ H vs Q E hr h=>?_);obtain⟨t,r,many,rfl,tw,hm,sm,q⟩:=h;have htr:=tw.ne;obtain⟨cells,k,ht,hw,hne,hlen⟩:=tw;refine⟨_,(cQ.go (ab (az 2 cX.nd (aw K (ak 0) aa))
   (ab (gy (ar eh (aw K (ak 0) aa) aa) (tj (ak 0) aa lB))
   (ab (az 3 cX.nd (ar ju (aw K (ak 0) aa) (ax (iK (K:=K) rfl) (by rfl) T.x2 dO (aE (ak 2)))))
   (ab (az 4 cX.nd (aw K (ak 2) (ak 3)))
   (ab (bn (aN Jc (ak 4) aa (aT _)) (ab (gy (ar cT (ak 4) (ak 1)) (tj (ak 2) (ak 3) lB))
   (ah (au (ar ju (ak 4) (ak 1))))) aM)
   (ab (az 5 cX.nd (ar ju (ar eh (ak 4) (ar aS aa (aw K (ak 0) aa))) aa))
   (ab (az 5 cX.nd (ar ju (ar C7 (ak 5) aa) aa))
   (ah (au (ar ju (ar cT (ar ju (ar eh (ar aS (ar cT (ak 5) aa) aa) (ak 5)) aa) aa) (ak 1)))))))))))),?_⟩
  have nz:0<cells.length:=TC.mpr hne;have hw1:∀ o,upd H t o r=some (.lst (cells.map V.int)):=λo=>by rw[aq htr.symm];exact hw
  refine⟨_,rfl,Go ht ?_⟩;refine⟨_,rfl,wN ht ⟨_,_,rfl,rfl,_,rfl,t,_,1,1,rfl,rfl,ht,rfl,?_⟩⟩;refine⟨_,rfl,wN (x:=.ref r) (y:=.int (k+1)) ae ⟨_,rfl,r,cells.map V.int,rfl,.inl (bE.of (hw1 _)),_,_,rfl,rfl,?_,?_⟩⟩
  ·show(0:Int)<((cells.map V.int).length:Int);rw[K'];lia
  have e0:((cells.map V.int).length:Int)=(cells.length:Int):=by rw[K']
  obtain⟨j,hj⟩:∃ j:Nat,(k+1)%((cells.map V.int).length:Int)=(j:Int):=⟨_,(Int.toNat_of_nonneg (N5 _ (by lia))).symm⟩
  have hjl:j<cells.length:=by
   have:=NC (k+1) (show 0<((cells.map V.int).length:Int) by lia);lia
  simp only[hj];refine⟨_,rfl,_,rfl,.inl ⟨r,_,_,.int cells[j],rfl,rfl,bE.of (hw1 _),nF (by simp[hjl]),?_⟩⟩;generalize cells[j]=c;refine⟨_,rfl,_,_,rfl,rfl,_,rfl,?_⟩;refine eU (λhc=>?_) (λhc=>?_)
  ·refine⟨_,rfl,_,rfl,_,_,rfl,rfl,⟨by lia,sm⟩,_,rfl,_,rfl,r,_,_,j,rfl,rfl,hw1 _,?_,?_⟩
   ·rw[K'];unfold DZ;rw[LL (show(0:Int)<=(j:Int) by lia),LL (show(j:Int)<(cells.length:Int) by lia)];rfl
   refine⟨_,rfl,_,rfl,_,_,rfl,rfl,hm,?_⟩;refine q _ _ (N5 _ (by lia)) (NC _ hm) ⟨cells.set j (c.fdiv many),k+1,?_,?_,?_,?_⟩ ?_
   ·rw[aq htr];exact ae
   ·rw[ae,List.map_set]
   ·intro z;have:=NE P7 z;rw[QV] at this;exact absurd this (by rw[QU];lia)
   ·rw[QV];exact hlen
   ·exact(Mv.upd (by simp)).trans (Mv.upd (by simp))
  ·refine⟨_,rfl,_,rfl,wN (x:=.ref r) (y:=.int (k+1)) ae ⟨_,_,rfl,rfl,.inr (by unfold Sm;decide),_,_,rfl,rfl,_,_,rfl,rfl,(by show(0:Int)<4294967291;decide),?_⟩⟩;dsimp only;have b1:=N5 (c+104729*(k+1)) (show(4294967291:Int)≠0 by decide);have b2:=NC (c+104729*(k+1)) (show(0:Int)<4294967291 by decide);generalize (c+104729*(k+1))%4294967291=m1 at b1 b2 ⊢;refine⟨_,rfl,_,_,rfl,rfl,⟨by decide,by decide,by lia⟩,_,_,rfl,rfl,(by show(0:Int)<4294967279;decide),?_⟩;dsimp only;have b3:=N5 (m1^(5:Int).toNat) (show(4294967279:Int)≠0 by decide);have b4:=NC (m1^(5:Int).toNat) (show(0:Int)<4294967279 by decide);generalize m1^(5:Int).toNat%4294967279=m2 at b3 b4 ⊢;have b5:Sm 64 (m2.fdiv 64):=by
    rw[MC _ (by decide)];unfold Sm;lia
   refine⟨_,rfl,_,_,rfl,rfl,⟨by decide,by unfold Sm;decide⟩,_,_,rfl,rfl,.inr b5,_,rfl,_,_,rfl,rfl,_,_,rfl,rfl,(by show(0:Int)<4294967231;decide),_,_,rfl,rfl,⟨by decide,by unfold Sm;decide⟩,_,rfl,_,_,rfl,rfl,hm,?_⟩;exact q _ _ (N5 _ (by lia)) (NC _ hm) ⟨cells,k+1,ae,hw1 _,hne,hlen⟩ (Mv.upd (by simp))
theorem tK:av uA7 uA7 (ag jr):=dD
inductive tM (K:HD)(vs:List V)(H:Hp)(Q:VK)(_:XK):Prop
 |mk (t r p:Lg) (xs:List V) (_:vs=[.ref t,.ref p]) (_:c9 H t r) (_:H p=some (.lst xs)) (_:p≠t) (_:p≠r) (_:xs≠[]) (_:xs.length<=1000) (_:∀ (i:Nat) (v:V) (H':Hp),xs[i]?=some v->c9 H' t r->Mv [t,r] H H'->Q v H')
theorem ix (T:df K mg w):dm P w K mg base c5 2 "_law_pick" uA7 [] (tM K):=by
  refine T.x23.cal tK (bb:=λ_ _ _ _ _ H vs Q E hr h=>?_);obtain⟨t,r,p,xs,rfl,tw,hp,n1,n2,hne,hl,q⟩:=h;refine⟨_,(cQ.go (ah (au (aw K (ak 1) (ac aB (bM T) hr (aH (ak 0) (ax (iK (K:=K) rfl) (by rfl) T.x2 dO (aE (ak 1))))))))),?_⟩;have nz:0<xs.length:=TC.mpr hne;refine⟨_,rfl,_,rfl,_,rfl,p,xs,rfl,.inl (bE.of hp),t,r,_,rfl,tw,by lia,?_,λd H' h0 h1 tw' mv=>?_⟩
  ·refine Sm.mono (k:=64) ?_ (by decide);unfold Sm;lia
  obtain⟨j,rfl⟩:=PF h0;have hj:j<xs.length:=by lia
  exact .inl ⟨p,xs,_,xs[j],rfl,rfl,bE.of (mv p _ hp (by simp[n1,n2])),nF (by simp[hj]),q j _ _ (by simp[hj]) tw' mv⟩
theorem qv:av uA2 uA2 (ag iw):=dD
inductive ql (K:HD)(vs:List V)(H:Hp)(Q:VK)(_:XK):Prop
 |mk (x T) (_:vs=[x]) (_:Ty K H x T) (_:Q (.bl (uf x)) H)
theorem jY (T:df K mg w):dm P w K mg base c5 1 "_law_whole" uA2 [] (ql K):=by
  refine T.x24.cal qv (bb:=λ_ _ _ _ _ H vs Q E hr h=>?_);obtain⟨x,S,rfl,ty,q⟩:=h;refine⟨_,(cQ.go (ah (au (cZ (ax (gt (K:=K) rfl) (by rfl) T.x0 aK (aH (ak 0) (bJ (v:=.ty "int") rfl T.xi B7 rfl))) (eM (tS (ax (gt (K:=K) rfl) (by rfl) T.x0 aK (aH (ak 0) (bJ (v:=.ty "bool") rfl T.x9 nI rfl))))))))),?_⟩;obtain⟨b,e1,e2⟩:=BP ty;refine⟨_,rfl,_,_,_,b,rfl,ty,e1,b,rfl,?_⟩;cases b with
  |false=>
   refine bI ?_;rw[show uf x=false from e2] at q;exact q
  |true=>
   obtain⟨c,e3,e4⟩:=(show ∃ c,eQ S "bool"=some c/\uf x=!c from e2)
   refine bj ⟨_,rfl,_,_,_,c,rfl,ty,e3,c,rfl,?_⟩;rw[e4] at q;exact q
theorem w9:av uB3 uB3 (ag ma):=dD
inductive ye (_:HD)(vs:List V)(H:Hp)(Q:VK)(_:XK):Prop
 |mk (a b:Bool) (_:vs=[.bl a,.bl b]) (_:Q (.bl (decide (a=b))) H)
theorem ww (T:df K mg w):dm P w K mg base c5 1 "_law_is" uB3 [] (ye K):=by
  refine T.x25.cal w9 (bb:=λ_ _ _ _ _ H vs Q E hr h=>?_);obtain⟨a,b,rfl,q⟩:=h;refine⟨_,(cQ.go (ah (au (cZ (ax (gt (K:=K) rfl) (by rfl) T.x0 aK (aH (ak 0) (bJ (v:=.ty "bool") rfl T.x9 nI rfl))) (eM (cq (yA (K:=K) rfl hr.units) (ak 0) (ak 1) (aT _))))))),?_⟩;refine⟨_,rfl,_,_,_,true,rfl,.bl a,(show eQ "bool" "bool"=some true by decide +kernel),_,rfl,bj ?_⟩;refine⟨_,rfl,_,rfl,.bool a,.bool b,.bl a,.bl b,rfl,rfl,?_⟩;have e:ND (.bool a) (.bool b)=decide (a=b):=by cases a<;>cases b<;>rfl
  rw[e];exact q
theorem gx:av ["_law_one","_law_two","_law_a","_law_b"] uA1 (ag j9):=dD
inductive uO (K:HD)(vs:List V)(H:Hp)(Q:VK)(_:XK):Prop
 |mk (t b:Int) (_:vs=[.int t,.int b]) (_:b≠0) (_:Sm 8000 b) (_:Sh K H t b Q)
theorem mT (T:df K mg w):dm P w K mg base c5 1 "_law_low" uA1 [] (uO K):=by
  refine T.x26.cal gx (bb:=λ_ _ _ _ _ H vs Q E hr h=>?_);obtain⟨t,b,rfl,hb,sb,q⟩:=h;refine⟨_,(cQ.go (ab (bn (aN vV (ak 1) aa (aT _)) (ah (kZ (i:=0) (j:=1) rfl gx.nd rfl rfl (by decide) rfl rfl (aH (ar c_ aa (ak 0)) (ar c_ aa (ak 1))) rfl)) aM)
   (ab (kZ (i:=2) (j:=3) rfl gx.nd rfl rfl (by decide) rfl rfl (aH (ax (zN rfl) (by rfl) T.xj Bv (aH (ak 0) (ar c_ aa (ak 0)))) (ak 1)) rfl)
   (ab (qT Ms (aN yw (ak 3) aa (aT _)) (ah (kZ (i:=2) (j:=3) rfl gx.nd rfl rfl (by decide) rfl rfl (aH (ak 3) (ar ju (ak 2) (ak 3))) rfl)))
   (ah (au (bT (aH (ar cT (ak 0) (ak 2)) (ar cT (ak 1) (ak 2)))))))))),?_⟩
  have core:∃ t' b':Int,(b<0->t'=0-t/\b'=0-b)/\(¬ b<0->t'=t/\b'=b)/\0<b'/\Sm 8000 b'/\∀ n d,Bc t' b' n d->Bc t b n d:=by
   by_cases hc:b<0
   ·refine⟨0-t,0-b,λ_=>⟨rfl,rfl⟩,λz=>absurd hc z,by lia,by rw[UI];exact sb.neg,λn d z=>⟨z.1,z.2.1,?_⟩⟩;have:=z.2.2;rw[UI,UI,U2,Int.neg_mul] at this;lia
   ·exact⟨t,b,λz=>absurd z hc,λ_=>⟨rfl,rfl⟩,by lia,sb,λ_ _ z=>z⟩
  obtain⟨t',b',c1,c2,hb',sb',lw⟩:=core;refine⟨_,rfl,_,_,rfl,rfl,_,rfl,?_⟩
  suffices bA:IC _ _ _ [some (.int t'),some (.int b'),none,none] H by
   refine eU (λhc=>?_) (λhc=>?_)
   ·obtain⟨rfl,rfl⟩:=c1 (Mu hc);exact⟨_,rfl,_,_,rfl,rfl,_,rfl,_,_,rfl,rfl,_,_,rfl,bA⟩
   ·obtain⟨rfl,rfl⟩:=c2 (λz=>hc (Lj z));exact bA
  refine⟨_,rfl,_,rfl,_,_,rfl,rfl,_,_,rfl,_,rfl,_,_,rfl,?_⟩;refine⟨λm σ H'=>∃ x y:Int,σ=[some (.int t'),some (.int b'),some (.int x),some (.int y)]/\H'=H/\0<=x/\0<=y/\MV x y=MV t' b'/\m=y.toNat,⟨_,_,_,rfl,rfl,?_,?_,?_,rfl⟩,?_⟩
  ·split<;>lia
  ·lia
  ·rw[<- yF t' b',show(if b'<0 then -b' else b')=b' from LB (by lia)]
   congr 1
   by_cases h1:t'<0
   ·rw[LL h1,LL (show 0-t'>t' by lia)];lia
   ·rw[LB h1]
    split<;>lia
  ·rintro m σ H' ⟨x,y,rfl,rfl,hx,hy,hg,rfl⟩;refine⟨_,rfl,_,_,rfl,rfl,_,rfl,?_⟩;refine eU (λhc=>?_) (λhc=>?_)
   ·have hc:=Mu hc;refine⟨_,λ_ _ z=>z,?_⟩;refine⟨_,rfl,_,rfl,_,rfl,_,_,rfl,rfl,hc,_,_,rfl,?_⟩;have h1:=N5 x (show y≠0 by lia);have h2:=NC x hc;exact⟨(x%y).toNat,by lia,y,x%y,rfl,rfl,hy,h1,by rw[vf hx hc];exact hg,rfl⟩
   ·have hc:¬ (0<y):=λz=>hc (Lj z)
    have hy0:y=0:=by lia
    subst hy0;have e:x=(MV t' b':Int):=by
     rw[<- hg,TV];lia
    subst e;have gb:Sm 8000 (MV t' b':Int):=sb'.le (De (by lia));have gn:(MV t' b':Int)≠0:=by
     have:=OC t' (show b'≠0 by lia);lia
    refine⟨_,rfl,_,rfl,_,_,rfl,rfl,⟨gn,gb⟩,_,rfl,_,rfl,_,_,rfl,rfl,⟨gn,gb⟩,vB,λp hp=>?_⟩;exact q _ _ _ _ (af.new hp) (yG ae) (lw _ _ (xY (by lia) rfl (by rw[LB (by lia)])))
theorem qo:av uA1 uA1 (ag ig):=dD
inductive qK (K:HD)(vs:List V)(H:Hp)(Q:VK)(_:XK):Prop
 |mk (x y:V) (p q:Rat) (_:vs=[x,y]) (_:aA K H (rD p) x) (_:aA K H (rD q) y) (_:Bq 3900 p) (_:Bq 3900 q) (_:Q (.bl (decide (p<q))) H)
theorem qx (T:df K mg w):dm P w K mg base c5 1 "_law_below" uA1 [] (qK K):=by
  refine T.x27.cal qo (bb:=λ_ _ _ _ _ H vs Q E hr h=>?_);obtain⟨x,y,p,r,rfl,hx,hy,ox,oy,q⟩:=h;obtain⟨a,rfl,ha⟩:=cC hx;obtain⟨b,rfl,hb⟩:=cC hy;refine⟨_,(cQ.go (ah (au (cq vV (ar aS (aw K (ak 0) aa) (aw K (ak 1) aa)) (ar aS (aw K (ak 1) aa) (aw K (ak 0) aa)) (aT _))))),?_⟩;have c:∀ {i j:Int},Sm 3900 i->Sm 3900 j->oS i j:=λh1 h2=>.inl ⟨h1.mono (by decide),h2.mono (by decide)⟩
  refine⟨_,rfl,iD ha ⟨_,rfl,dX hb ⟨_,_,rfl,rfl,c ox.sn oy.sd,?_⟩⟩⟩;refine⟨_,rfl,iD hb ⟨_,rfl,dX ha ⟨_,_,rfl,rfl,c oy.sn ox.sd,_,_,rfl,rfl,?_⟩⟩⟩;rw[show decide (p<r)=decide (p.num*(r.den:Int)<r.num*(p.den:Int)) from Si.mpr (Rat.lt_iff p r)] at q;exact q
theorem jS:av ["_law_town_here","_law_cap","_law_below_here"] uA0 (ag ie):=dD
inductive qD (K:HD)(vs:List V)(H:Hp)(Q:VK)(_:XK):Prop
 |mk (t r:Lg) (cap:Int) (_:vs=[.ref t,.int cap]) (_:c9 H t r) (_:0<cap) (_:cap<=1000) (_:∀ (v:V) (q:Rat) (H':Hp),aA K H' (rD q) v->0<=q->q<=(cap:Rat)->Bq 17 q->c9 H' t r->Mv [t,r] H H'->Q v H')
theorem cw (T:df K mg w):dm P w K mg base c5 3 "_law_share" uA0 [] (qD K):=by
  refine T.x28.cal jS (bb:=λ_ _ _ _ _ H vs Q E hr h=>?_);obtain⟨t,r,cap,rfl,tw,c0,c1,q⟩:=h;refine⟨_,(cQ.go (ab (az 2 jS.nd (ac aB (ix T) hr (aH (ak 0) (bN (aj aa (aj aa (aj aa (aj aa (aj aa (aj aa aU))))))))))
   (ah (au (ac aB (ix T) hr (aH (ak 0) (ar v9 (ar Bt (bN (aE (ac aB (mT T) hr (aH (ac aB (bM T) hr (aH (ak 0) (ar eh (ar aS (ak 1) (ak 2)) aa))) (ak 2))))) aa) (bN (aH (bT (aH aa aa)) (bT (aH (ak 1) aa))))))))))),?_⟩
  have s64:∀ {n:Int},0<n->n<100000->Sm 8000 n:=λh1 h2=>Sm.mono (k:=20) (by unfold Sm;lia) (by decide)
  refine⟨_,rfl,(by show 6<=Ly;decide),λp hp=>?_⟩;have sp:=af.new (o:=.lst [.int 1,.int 1,.int 2,.int 3,.int 7,.int 60]) hp;have np:=tw.not hp;refine⟨t,r,p,_,rfl,tw.same sp,ae,λz=>np (by simp[z]),λz=>np (by simp[z]),by simp,by show 6<=1000;decide,λj v G hv tw1 mv1=>?_⟩;obtain⟨b,rfl,b0,b1⟩:∃ b:Int,v=.int b/\0<b/\b<=60:=by
   match j,hv with
   |0,hv=>exact⟨1,(K8 hv).symm,by decide,by decide⟩
   |1,hv=>exact⟨1,(K8 hv).symm,by decide,by decide⟩
   |2,hv=>exact⟨2,(K8 hv).symm,by decide,by decide⟩
   |3,hv=>exact⟨3,(K8 hv).symm,by decide,by decide⟩
   |4,hv=>exact⟨7,(K8 hv).symm,by decide,by decide⟩
   |5,hv=>exact⟨60,(K8 hv).symm,by decide,by decide⟩
  have cb:cap*b<=60000:=UH (Of c1 (by lia)) (by lia);have cb0:0<=cap*b:=NJ (by lia) (by lia);have mv1:=(Mv.of sp).trans mv1;clear hv sp np hp;refine⟨_,rfl,_,rfl,_,rfl,_,rfl,_,_,rfl,rfl,.inr ((Jk (by lia) c1).mono (by decide)),_,_,rfl,rfl,?_⟩;refine⟨t,r,_,rfl,tw1,by lia,s64 (by lia) (by lia),λd H2 d0 d1 tw2 mv2=>?_⟩;have bq:Bq 17 ((d:Rat)/(b:Rat)):=eV (by lia) (by unfold Sm;lia) (by unfold Sm;lia);have bp:(0:Rat)<(b:Rat):=Rat.intCast_pos.mpr b0;have hd0:(0:Rat)<=(d:Rat):=Re.mpr d0;have hd1:(d:Rat)<=(cap:Rat)*(b:Rat):=by rw[<- Lw];exact OB.mpr (by lia)
  have nb:=gK (n:=b) (by lia);have eq:(d:Rat)=(d:Rat)/(b:Rat)*(b:Rat):=by grind
  have q0:0<=(d:Rat)/(b:Rat):=Rat.not_lt.mp λz=>by
   have:=Q0 z bp;grind
  have q1:(d:Rat)/(b:Rat)<=(cap:Rat):=Rat.not_lt.mp λz=>by
   have:=Q0 z bp;grind
  refine⟨_,rfl,_,_,rfl,by lia,s64 (by lia) (by lia),xN.sh (by lia) λv3 H3 s3 hv3=>?_⟩;refine⟨Hz,λp1 hp1=>?_⟩;have s4:=af.new (o:=.lst [v3]) hp1;refine Em (n:=4) rfl (by decide) ae λp2 hp2=>?_
  have s5:=af.new (o:=.lst (LD 4 v3)) hp2;refine⟨vB,λp3 hp3=>?_⟩;have s6:=af.new (o:=.tup [.int 0,.int 1]) hp3;refine⟨_,rfl,vB,λp4 hp4=>?_⟩;have s7:=af.new (o:=.tup [.int cap,.int 1]) hp4;refine⟨vB,λp5 hp5=>?_⟩;have s8:=af.new (o:=.lst [.ref p3,.ref p4]) hp5;have s67:=s6.trans (s7.trans s8);refine⟨p2,p5,_,_,rfl,rfl,s67 _ _ ae,ae,(by show 4+2<=Ly;decide),λp6 hp6=>?_⟩;have s9:=af.new (o:=.lst (LD 4 v3++[.ref p3,.ref p4])) hp6;have g3:=s9 _ _ (s8 _ _ (s7 _ _ (ae (H:=upd (upd H3 p1 (.lst [v3])) p2 (.lst (LD 4 v3))) (a:=p3) (o:=.tup [.int 0,.int 1]))));have g4:=s9 _ _ (s8 _ _ (ae (H:=upd (upd (upd H3 p1 (.lst [v3])) p2 (.lst (LD 4 v3))) p3 (.tup [.int 0,.int 1])) (a:=p4) (o:=.tup [.int cap,.int 1])));have sA:af H3 _:=((s4.trans s5).trans s67).trans s9;have hv:=aA.same sA hv3;have twA:=(tw2.same s3).same sA;have n6:p6∉[t,r]:=((tw2.same s3).same ((s4.trans s5).trans s67)).not hp6;have mvA:=(mv1.trans mv2).trans (Mv.of (s3.trans sA));have gA:upd (upd (upd (upd (upd (upd H3 p1 (.lst [v3])) p2 (.lst (LD 4 v3))) p3 (.tup [.int 0,.int 1])) p4 (.tup [.int cap,.int 1])) p5 (.lst [.ref p3,.ref p4])) p6 (.lst (LD 4 v3++[.ref p3,.ref p4])) p6=some (.lst (LD 4 v3++[.ref p3,.ref p4])):=ae;generalize upd (upd (upd (upd (upd (upd H3 p1 (.lst [v3])) p2 (.lst (LD 4 v3))) p3 (.tup [.int 0,.int 1])) p4 (.tup [.int cap,.int 1])) p5 (.lst [.ref p3,.ref p4])) p6 (.lst (LD 4 v3++[.ref p3,.ref p4]))=GA at g3 g4 sA hv twA mvA gA ⊢;refine⟨t,r,p6,_,rfl,twA,gA,λz=>n6 (by simp[z]),λz=>n6 (by simp[z]),by simp,by show 6<=1000;decide,λj v H7 hj tw7 mv7=>?_⟩;have one:∀ {n:Int}{a:Lg},GA a=some (.tup [.int n,.int 1])->aA K GA (rD (n:Rat)) (.ref a):=λ{n a} h=>by rw[F6];exact yG h
  obtain⟨z,hz,z0,z1,bz⟩:∃ z:Rat,aA K GA (rD z) v/\0<=z/\z<=(cap:Rat)/\Bq 17 z:=by
   have cp:(0:Rat)<=(cap:Rat):=Re.mpr (by lia)
   match j,hj with
   |0,hj=>cases hj;exact⟨_,hv,q0,q1,bq⟩
   |1,hj=>cases hj;exact⟨_,hv,q0,q1,bq⟩
   |2,hj=>cases hj;exact⟨_,hv,q0,q1,bq⟩
   |3,hj=>cases hj;exact⟨_,hv,q0,q1,bq⟩
   |4,hj=>cases hj;exact⟨_,one g3,Rat.le_refl,cp,(oF (n:=0) (k:=17) (by unfold Sm;decide) (by decide))⟩
   |5,hj=>cases hj;exact⟨_,one g4,cp,Rat.le_refl,(oF (Jk (by lia) c1) (by decide)).mono (by decide)⟩
  exact q v z H7 (aA.mv mv7 twA.lists rfl hz) z0 z1 bz tw7 (mvA.trans mv7)
theorem qz:av uA0 uA0 (ag ia):=dD
inductive qG (K:HD)(vs:List V)(H:Hp)(Q:VK)(_:XK):Prop
 |mk (t r:Lg) (cap:Int) (_:vs=[.ref t,.int cap]) (_:c9 H t r) (_:0<cap) (_:cap<=1000) (_:∀ (v:V) (c:Q3) (H':Hp),aA K H' c.col v->c.Wi cap->c.Bd 17->c9 H' t r->Mv [t,r] H H'->Q v H')
theorem qy (T:df K mg w):dm P w K mg base c5 4 "_law_three" uA0 [] (qG K):=by
  refine T.x29.cal qz (bb:=λ_ _ _ _ _ H vs Q E hr h=>?_);obtain⟨t,r,cap,rfl,tw,c0,c1,q⟩:=h;refine⟨_,(cQ.go (ab (bn (aN dz (ac aB (bM T) hr (aH (ak 0) aa)) aa (aT _)) (ah (au (ar Ep (bT (aE (ac aB (cw T) hr (aH (ak 0) (ak 1))))) aa))) aM)
   (ah (au (bT (aj (ac aB (cw T) hr (aH (ak 0) (ak 1))) (aj (ac aB (cw T) hr (aH (ak 0) (ak 1))) (aj (ac aB (cw T) hr (aH (ak 0) (ak 1))) aU)))))))),?_⟩
  refine⟨_,rfl,t,r,6,rfl,tw,by decide,by unfold Sm;decide,λd H1 d0 d1 tw1 mv1=>⟨_,_,rfl,rfl,_,rfl,?_⟩⟩;refine eU (λ_=>?_) (λ_=>?_)
  ·refine⟨_,rfl,_,rfl,t,r,cap,rfl,tw1,c0,c1,λv z H2 hv z0 z1 bz tw2 mv2=>⟨Hz,λp hp=>?_⟩⟩;have s3:=af.new (o:=.tup [v]) hp;refine⟨p,_,rfl,rfl,ae,λp2 hp2=>?_⟩;have s4:=af.new (o:=.tup [v,v,v]) hp2;have hv:=aA.same (s3.trans s4) hv;exact q _ ⟨z,z,z⟩ _ (.tup ae (.cons hv (.cons hv (.cons hv .nil)))) ⟨z0,z1,z0,z1,z0,z1⟩ ⟨bz,bz,bz⟩ (tw2.same (s3.trans s4)) ((mv1.trans mv2).trans (Mv.of (s3.trans s4)))
  ·refine⟨_,rfl,_,rfl,t,r,cap,rfl,tw1,c0,c1,λv1 z1 H2 hv1 a0 a1 ba tw2 mv2=>?_⟩;refine⟨_,rfl,_,rfl,t,r,cap,rfl,tw2,c0,c1,λv2 z2 H3 hv2 b0 b1 bb DY mv3=>?_⟩;refine⟨_,rfl,_,rfl,t,r,cap,rfl,DY,c0,c1,λv3 z3 H4 hv3 k0 k1 bk tw4 mv4=>⟨Fm,λp hp=>?_⟩⟩;have s:=af.new (o:=.tup [v1,v2,v3]) hp;exact q _ ⟨z1,z2,z3⟩ _ (aA.tupN hp (.cons (aA.mv (mv3.trans mv4) tw2.lists rfl hv1) (.cons (aA.mv mv4 DY.lists rfl hv2) (.cons hv3 .nil)))) ⟨a0,a1,b0,b1,k0,k1⟩ ⟨ba,bb,bk⟩ (tw4.same s) ((((mv1.trans mv2).trans mv3).trans mv4).trans (Mv.of s))
theorem md:av uA2 uA2 (ag fj):=dD
inductive mH (K:HD)(vs:List V)(H:Hp)(Q:VK)(_:XK):Prop
 |mk (x n d) (_:vs=[x]) (_:aA K H (ug n d) x) (_:Ok 8000 n d) (_:∀ H',af H H'->Q (.bl true) H')
theorem mG (T:df K mg w):dm P w K mg base c5 2 "_law_is_share" uA2 [] (mH K):=by
  refine T.x2a.cal md (bb:=λ_ _ _ _ _ H vs Q E hr h=>?_);obtain⟨x,n,d,rfl,hx,ox,q⟩:=h;obtain⟨a,rfl,ha⟩:=cC hx;refine⟨_,(cQ.go (ab (bn (WW.pt (eG (a_ (bg (ax (gt (K:=K) rfl) (by rfl) T.x0 aK (aH (ak 0) (bJ (v:=.ty "tuple") rfl T.x3 cB rfl))))) (eG (aN mF (ax (iK (K:=K) rfl) (by rfl) T.x2 dO (aE (ak 0))) aa (aT _)) (eG (a_ (bg (ac aB (jY T) hr (aE (aw K (ak 0) aa))))) (eO (a_ (bg (ac aB (jY T) hr (aE (aw K (ak 0) aa)))))))))) (ah (au eX)) aM)
   (ah (au (cZ (cq yw (aw K (ak 0) aa) aa (aT _)) (eM (cq (yA (K:=K) rfl hr.units) (ac aB (mT T) hr (aH (aw K (ak 0) aa) (aw K (ak 0) aa))) (ak 0) (aT _)))))))),?_⟩
  refine⟨_,rfl,_,_,_,true,rfl,.tup ha,by decide +kernel,_,rfl,bI ?_⟩;refine⟨_,rfl,a,_,rfl,.inr (dk.of ha),_,_,rfl,rfl,_,rfl,bI ?_⟩;refine⟨_,rfl,iD ha ⟨_,_,rfl,.int n,_,rfl,bI ?_⟩⟩;refine⟨_,rfl,dX ha ⟨_,_,rfl,.int d,_,rfl,bI ?_⟩⟩;refine⟨_,rfl,dX ha ⟨_,_,rfl,rfl,_,rfl,?_⟩⟩;rw[Lj ox.pos];refine bj ⟨_,rfl,iD ha ⟨_,rfl,dX ha ⟨n,d,rfl,ox.ne,ox.sd,λv m e H1 s1 hv lw=>?_⟩⟩⟩;refine⟨_,rfl,_,_,hv,aA.same s1 hx,rfl,rfl,?_⟩;rw[u6 (pM ox.ne lw (C2 ox.pos ox.co))];exact q _ s1
theorem mi:av uA2 uA2 (ag eW):=dD
inductive ml (K:HD)(vs:List V)(H:Hp)(Q:VK)(_:XK):Prop
 |mk (x:V) (c:Q3) (_:vs=[x]) (_:aA K H c.col x) (_:c.Bd 3900) (_:∀ H',af H H'->Q (.bl true) H')
theorem l9 (T:df K mg w):dm P w K mg base c5 3 "_law_is_three" uA2 [] (ml K):=by
  refine T.x2b.cal mi (bb:=λ_ _ _ _ _ H vs Q E hr h=>?_);obtain⟨x,c,rfl,hx,bc,q⟩:=h;refine⟨_,(cQ.go (ah (au (cZ (ax (gt (K:=K) rfl) (by rfl) T.x0 aK (aH (ak 0) (bJ (v:=.ty "tuple") rfl T.x3 cB rfl))) (cZ (cq dz (ax (iK (K:=K) rfl) (by rfl) T.x2 dO (aE (ak 0))) aa (aT _)) (eM (cq (yA (K:=K) rfl hr.units) (aQ ["_law_one"] [] [] 1 (bB (K:=K) rfl (ak 0)) (λnd=>(ai 0 nd)) (kP (a_ (bg (ac aB (mG T) hr (aE (ak 0)))))) (ak 0)) (bN aU) (aT _)))))))),?_⟩;refine⟨_,rfl,_,_,_,true,rfl,hx.ty,(show eQ "tuple" "tuple"=some true by decide +kernel),_,rfl,bj ?_⟩;obtain⟨a,xs,rfl,ha,hds⟩:=aZ (b:=false) hx;have hl:=hds.length;refine⟨_,rfl,a,_,rfl,mj ha,_,_,rfl,rfl,true,nN (by rw[<- hl];rfl),bj ?_⟩;refine⟨_,rfl,a,false,rfl,⟨_,ha⟩,me ha hds (by show 3<=1000;decide) (λi d u H2 hd s2 hu Y S hS=>?_) (λH2 s2 D hD=>?_)⟩
  ·rcases uU hd with ⟨rfl,rfl⟩|⟨rfl,rfl⟩|⟨rfl,rfl⟩
   ·exact⟨_,rfl,u,_,_,rfl,hu,bc.a.mono (by decide),λH' s'=>⟨_,rfl,bI (hS _ s')⟩⟩
   ·exact⟨_,rfl,u,_,_,rfl,hu,bc.b.mono (by decide),λH' s'=>⟨_,rfl,bI (hS _ s')⟩⟩
   ·exact⟨_,rfl,u,_,_,rfl,hu,bc.c.mono (by decide),λH' s'=>⟨_,rfl,bI (hS _ s')⟩⟩
  ·refine⟨by decide,λp hp=>⟨.list [],.list [],aA.same (af.new hp) (aA.listN hD .nil),aA.listN hp .nil,rfl,rfl,?_⟩⟩;exact q _ ((s2.trans (af.new hD)).trans (af.new hp))
theorem bF:av ["_law_town_here","_law_size","_law_table","_law_kind","_law_rows","_law_a","_law_b","_law_c","_law_worth"] uB9 (ag i9):=dD
inductive sQ (K:HD)(vs:List V)(H:Hp)(Q:VK)(_:XK):Prop
 |mk (t r:Lg) (n:Nat) (_:vs=[.ref t,.int n]) (_:c9 H t r) (_:2<=n) (_:n<=7) (_:∀ (d:Lg) (f:Kn->R3) (H':Hp),An K H' (aW n) f d->Be n f->c9 H' t r->Mv [t,r] H H'->H d=none->Q (.ref d) H')
structure R4 where
 w:Int
 x:Int
 y:Int
 z:Int
def R4.ds (r:R4):List LU:=[.int r.w,.int r.x,.int r.y,.int r.z]
structure R4.In (r:R4):Prop where
 w0:0<=r.w
 w1:r.w<200
 x0:0<=r.x
 x1:r.x<90
 y0:0<=r.y
 y1:r.y<90
 z0:0<=r.z
 z1:r.z<90
theorem C_ {K:HD}{H:Hp}{r:R4}{v:V}(h:aA K H (.list r.ds) v):∃ a,v=.ref a/\bE K H a [.int r.w,.int r.x,.int r.y,.int r.z]:=by
 obtain⟨a,xs,rfl,ha,hx⟩:=aZ (b:=true) (ds:=r.ds) h;have e:xs=[r.w,r.x,r.y,r.z].map V.int:=cn (ns:=[r.w,r.x,r.y,r.z]) hx;subst e;exact⟨a,rfl,ha⟩
structure R3.Up (r:R3):Prop where
 a:0<=r.a
 b:0<=r.b
 c:0<=r.c
theorem Ji {ds:List LU}(hl:ds.length=3)(h:∀ d∈ds,∃ i:Int,d=.int i/\0<=i):∃ r:R3,ds=r.ds/\r.Up:=by
 match ds,hl,h with
 |[x,y,z],_,h=>
  obtain⟨a,rfl,a1⟩:=h x (by simp);obtain⟨b,rfl,b1⟩:=h y (by simp);obtain⟨c,rfl,c1⟩:=h z (by simp);exact⟨⟨a,b,c⟩,rfl,a1,b1,c1⟩
structure iL (K:HD)(t r d R:Lg)(rs:LU)(H1:Hp)(ts:List Kn)(H':Hp):Prop where
 tw:c9 H' t r
 mv:Mv [t,r,d] H1 H'
 rs:aA K (cut [t,r] H') rs (.ref R)
 gr:∃ f,An K H' ts f d/\∀ u∈ts,(f u).Wt
theorem iL.same {K:HD}{t r d R:Lg}{rs:LU}{H1 H2 H3:Hp}{ts:List Kn}(h:iL K t r d R rs H1 ts H2)(s:af H2 H3):iL K t r d R rs H1 ts H3:=
 ⟨h.tw.same s,h.mv.trans (Mv.of s),aA.same (af.cut s) h.rs,let ⟨f,a,b⟩:=h.gr;⟨f,a.same s,b⟩⟩
theorem iL.draw {K:HD}{t r d R:Lg}{rs:LU}{H1 H2 H3:Hp}{ts:List Kn}(h:iL K t r d R rs H1 ts H2)(tw:c9 H3 t r)(m:Mv [t,r] H2 H3):iL K t r d R rs H1 ts H3:=
 ⟨tw,h.mv.trans m.wide,aA.same m.cut h.rs,let ⟨f,a,b⟩:=h.gr;⟨f,a.mv m h.tw.lists,b⟩⟩
theorem sM (T:df K mg w):dm P w K mg base c5 2 "_law_grid" uB9 [] (sQ K):=by
  refine T.x2c.cal bF (bb:=λ_ _ _ _ _ H vs Q E hr h=>?_);obtain⟨t,r,n,rfl,tw,h2,h7,q⟩:=h;refine⟨_,(cQ.go (ab (az 2 bF.nd AV)
   (ab (az 3 bF.nd (ac aB (bM T) hr (aH (ak 0) aa)))
   (ab (cG 4 ["_law_k"] ["_law_town_here"] [0] 1 bF.nd (cJ rfl T.x4 (aE aa)) (λnd=>(ai 0 nd)) aG (bN (aj (ac aB (bM T) hr (aH (ak 1) aa)) (aj (ac aB (bM T) hr (aH (ak 1) aa)) (aj (ac aB (bM T) hr (aH (ak 1) aa)) (aj (ac aB (bM T) hr (aH (ak 1) aa)) aU))))))
   (ab (di Ms rfl (cJ rfl T.x4 (aE (ak 1))) (ai 5 bF.nd) (ah (di Ms rfl (cJ rfl T.x4 (aE (ak 1))) (ai 6 bF.nd) (ah (di Ms rfl (cJ rfl T.x4 (aE (ak 1))) (ai 7 bF.nd) (ab (bn (aN dz (ak 3) aa (aT _)) (ah (cG 8 uC2 ["_law_a","_law_b","_law_c"] [5,6,7] 4 bF.nd (bB (K:=K) rfl (ak 4)) (λnd=>(xA (K:=K) (n:=4) rfl rfl (ao (ai 0 nd) (ao (ai 1 nd) (ao (ai 2 nd) (ao (ai 3 nd) aX)))))) aG (ar eh (ar eh (ar eh (ak 0) (ar aS (ak 1) (ak 4))) (ar aS (ak 2) (ak 5))) (ar aS (ak 3) (ak 6))))) (ah (bn (aN dz (ak 3) aa (aT _)) (ah (cG 8 ["_law_k"] ["_law_town_here"] [0] 1 bF.nd (cJ rfl T.x4 (aE aa)) (λnd=>(ai 0 nd)) aG (ac aB (bM T) hr (aH (ak 1) aa)))) (ah (cG 8 uC2 ["_law_a","_law_size","_law_b","_law_c"] [5,1,6,7] 4 bF.nd (bB (K:=K) rfl (ak 4)) (λnd=>(xA (K:=K) (n:=4) rfl rfl (ao (ai 0 nd) (ao (ai 1 nd) (ao (ai 2 nd) (ao (ai 3 nd) aX)))))) aG (ax (l4 rfl) (by rfl) T.xb wV (aH aa (ar eh (ar eh (ar eh (ak 0) (ar cT (ar aS (ar aS (ak 1) (ak 4)) (ak 4)) (ak 5))) (ar aS aa (ak 6))) (ar aS aa (ak 7))))))))))
   (ab (bn (WW.pt (ny (aN dz (ak 5) (ak 6) (aT _)) (ny (aN dz (ak 6) (ak 7) (aT _)) (vj (aN dz (ak 3) aa (aT _)))))) (ah (az 8 bF.nd (ar Bt (bN (aE (aw K (ak 8) aa))) aa))) aM)
   (ah (DR hr.u1 (ak 2) (bT (aj (ak 5) (aj (ak 6) (aj (ak 7) aU)))) (bW (jE (K:=K) rfl) (by rfl) T.x3 cB (aE (aQ ["_law_one"] [] [] 1 (bB (K:=K) rfl (ak 8)) (λnd=>(ai 0 nd)) aG (ax (l4 rfl) (by rfl) T.xb wV (aH aa (ak 0)))))) rfl)))))))))
   (ah (au (ak 2)))))))),?_⟩
  have s64:∀ {n:Int},0<n->n<100000->Sm 8000 n:=λh1 h2=>Sm.mono (k:=20) (by unfold Sm;lia) (by decide)
  refine λd hd=>?_
  have sd:af H (upd H d (.dT [])):=af.new hd;have tw0:=tw.same sd;have gd0:upd H d (.dT []) d=some (.dT []):=ae;generalize hH0:upd H d (.dT [])=H0 at sd tw0 gd0 ⊢;refine⟨_,rfl,t,r,3,rfl,tw0,by decide,s64 (by decide) (by decide),λkd H1 k0 k3 tw1 mv1=>?_⟩;refine⟨3,rfl,by decide,by decide,mS (K:=K) (lo:=0) (n:=3) (Pd:=λd=>∃ r:R4,d=.list r.ds/\r.In) tw1 (by decide) (λi H2 hi tw2 mv2 R kk S=>?_) (λds ys H2 hl hP tw2 mv2 hys R hR=>?_)⟩
  ·refine bj (B:=S H2) ⟨_,rfl,t,r,200,rfl,tw2,by decide,s64 (by decide) (by decide),λx1 H3 a1 b1 DY mv3=>?_⟩;refine⟨_,rfl,t,r,90,rfl,DY,by decide,s64 (by decide) (by decide),λx2 H4 a2 b2 tw4 mv4=>?_⟩;refine⟨_,rfl,t,r,90,rfl,tw4,by decide,s64 (by decide) (by decide),λx3 H5 a3 b3 tw5 mv5=>?_⟩;refine⟨_,rfl,t,r,90,rfl,tw5,by decide,s64 (by decide) (by decide),λx4 H6 a4 b4 tw6 mv6=>⟨KY,λL hL=>?_⟩⟩;exact kk _ _ ⟨tw6.same (af.new hL),(((mv3.trans mv4).trans mv5).trans mv6).trans (Mv.of (af.new hL)),_,⟨⟨x1,x2,x3,x4⟩,rfl,a1,b1,a2,b2,a3,b3,a4,b4⟩,u_ tw6 hL (.cons (.int _) (.cons (.int _) (.cons (.int _) (.cons (.int _) .nil))))⟩
  obtain⟨r1,r2,r3,rfl,i1,i2,i3⟩:∃ r1 r2 r3:R4,ds=[.list r1.ds,.list r2.ds,.list r3.ds]/\r1.In/\r2.In/\r3.In:=by
   match ds,hl,hP with
   |[x,y,z],_,h=>
    obtain⟨a,rfl,a1⟩:=h x (by simp);obtain⟨b,rfl,b1⟩:=h y (by simp);obtain⟨c,rfl,c1⟩:=h z (by simp);exact⟨a,b,c,rfl,a1,b1,c1⟩
  have nd:d∉[t,r]:=λm=>by
   obtain⟨xs,e⟩:=tw0.lists d m;rw[gd0] at e;cases e
  have gi0:iL K t r d R (.list [.list r1.ds,.list r2.ds,.list r3.ds]) H0 [] (upd H2 R (.lst ys)):=⟨tw2.same (af.new hR),((mv1.trans mv2).trans (Mv.of (af.new hR))).wide,u_ tw2 hR hys,λ_=>⟨0,0,0⟩,⟨[],af.new hR _ _ (mv2 _ _ (mv1 _ _ gd0 nd) nd),.nil⟩,λ_ m=>nomatch m⟩
  generalize upd H2 R (.lst ys)=H3 at gi0 ⊢;have lt:∀ {x:Int}{m:Nat},0<=x->x<200->m<7->Sm 64 x:=λh1 h2 _=>by unfold Sm;lia
  have inr:∀ {rr:R4},rr=r1\/rr=r2\/rr=r3->rr.In:=λh=>by rcases h with rfl|rfl|rfl<;>assumption
  refine⟨_,rfl,(n:Int),rfl,by lia,by lia,g_ (lo:=0) (n:=(n:Int).toNat) (λi σ H'=>(∃ oa ob oc ow,σ=[some (.ref t),some (.int n),some (.ref d),some (.int kd),some (.ref R),oa,ob,oc,ow])/\iL K t r d R (.list [.list r1.ds,.list r2.ds,.list r3.ds]) H0 (qw n i) H')
   ⟨⟨_,_,_,_,rfl⟩,gi0⟩ ?_ ?_⟩
  ·rintro i σ H4 hi ⟨⟨oa,ob,oc,ow,rfl⟩,gi1⟩;have hi:i<n:=by lia
   refine⟨_,rfl,(n:Int),rfl,by lia,by lia,g_ (lo:=0) (n:=(n:Int).toNat) (λj σ H'=>(∃ ob oc ow,σ=[some (.ref t),some (.int n),some (.ref d),some (.int kd),some (.ref R),some (.int (0+i)),ob,oc,ow])/\iL K t r d R (.list [.list r1.ds,.list r2.ds,.list r3.ds]) H0 (qw n i++qj n i j) H')
    ⟨⟨_,_,_,rfl⟩,by simpa [qj] using gi1⟩ ?_ ?_⟩
   ·rintro j σ H5 hj ⟨⟨ob,oc,ow,rfl⟩,gi2⟩;have hj:j<n:=by lia
    refine⟨_,rfl,(n:Int),rfl,by lia,by lia,g_ (lo:=0) (n:=(n:Int).toNat) (λk σ H'=>(∃ oc ow,σ=[some (.ref t),some (.int n),some (.ref d),some (.int kd),some (.ref R),some (.int (0+i)),some (.int (0+j)),oc,ow])/\iL K t r d R (.list [.list r1.ds,.list r2.ds,.list r3.ds]) H0 (qw n i++qj n i j++rh i j k) H')
     ⟨⟨_,_,rfl⟩,by simpa [rh] using gi2⟩ ?_ ?_⟩
    ·rintro k σ H6 hk ⟨⟨oc,ow,rfl⟩,gi3⟩;have hk:k<n:=by lia
     obtain⟨b0,xs,eb,hb,hxs⟩:=aZ (b:=true) (ds:=[.list r1.ds,.list r2.ds,.list r3.ds]) (aA.uncut gi3.rs);cases eb;apply JE (I:=λwv H'=>∃ (W:Lg) (wr:R3),wv=.ref W/\iL K t r d R (.list [.list r1.ds,.list r2.ds,.list r3.ds]) H0 (qw n i++qj n i j++rh i j k) H'/\H' W=some (.lst wr.vs)/\wr.Up)
     case main=>
      intro rest1;refine⟨_,rfl,_,_,rfl,rfl,_,rfl,eU (λhc=>?k0) (λhc=>?kx)⟩
      case' k0=>
       refine⟨_,rfl,R,true,rfl,⟨_,hb⟩,cA (es:=[.int (r1.w+r1.x*(0+i)+r1.y*(0+j)+r1.z*(0+k)),.int (r2.w+r2.x*(0+i)+r2.y*(0+j)+r2.z*(0+k)),.int (r3.w+r3.x*(0+i)+r3.y*(0+j)+r3.z*(0+k))]) hb hxs rfl (by show 3<=1000;decide) (λii dd ee u H7 hd he s7 hu RR kk S=>?_) (λzs H7 s7 hzs W hW=>?_)⟩
       ·obtain⟨rr,hrr,rfl,rfl⟩:∃ rr:R4,(rr=r1\/rr=r2\/rr=r3)/\dd=.list rr.ds/\ee=.int (rr.w+rr.x*(0+i)+rr.y*(0+j)+rr.z*(0+k)):=by
         rcases uU hd with ⟨rfl,rfl⟩|⟨rfl,rfl⟩|⟨rfl,rfl⟩
         ·exact⟨r1,.inl rfl,rfl,(K8 he).symm⟩
         ·exact⟨r2,.inr (.inl rfl),rfl,(K8 he).symm⟩
         ·exact⟨r3,.inr (.inr rfl),rfl,(K8 he).symm⟩
        obtain⟨w0,w1,x0,x1,y0,y1,z0,z1⟩:=inr hrr;obtain⟨ra,rfl,hra⟩:=C_ hu;refine⟨ra,_,rfl,.inl hra,rfl,_,_,rfl,_,_,rfl,_,_,rfl,_,_,rfl,rfl,bj (B:=S H7) ?_⟩;exact⟨_,rfl,_,rfl,_,rfl,_,_,rfl,rfl,.inr (by unfold Sm;lia),_,_,rfl,rfl,_,rfl,_,rfl,_,_,rfl,rfl,.inr (by unfold Sm;lia),_,_,rfl,rfl,_,rfl,_,rfl,_,_,rfl,rfl,.inr (by unfold Sm;lia),_,_,rfl,rfl,kk _ _ ⟨af.refl _,.int _⟩⟩
       have zz:=cn (ns:=[r1.w+r1.x*(0+i)+r1.y*(0+j)+r1.z*(0+k),r2.w+r2.x*(0+i)+r2.y*(0+j)+r2.z*(0+k),r3.w+r3.x*(0+i)+r3.y*(0+j)+r3.z*(0+k)]) hzs;subst zz;have gi4:=(gi3.same s7).same (af.new (o:=.lst ([r1.w+r1.x*(0+i)+r1.y*(0+j)+r1.z*(0+k),r2.w+r2.x*(0+i)+r2.y*(0+j)+r2.z*(0+k),r3.w+r3.x*(0+i)+r3.y*(0+j)+r3.z*(0+k)].map V.int)) hW);have pos:∀ {rr:R4},rr.In->0<=rr.w+rr.x*(0+(i:Int))+rr.y*(0+(j:Int))+rr.z*(0+(k:Int)):=λh=>by
        have p1:=NJ h.x0 (show(0:Int)<=0+i by lia);have p2:=NJ h.y0 (show(0:Int)<=0+j by lia);have p3:=NJ h.z0 (show(0:Int)<=0+k by lia);have p4:=h.w0;lia
       obtain⟨wr,ewr,up⟩:∃ wr:R3,upd H7 W (.lst ([r1.w+r1.x*(0+i)+r1.y*(0+j)+r1.z*(0+k),r2.w+r2.x*(0+i)+r2.y*(0+j)+r2.z*(0+k),r3.w+r3.x*(0+i)+r3.y*(0+j)+r3.z*(0+k)].map V.int)) W=some (.lst wr.vs)/\wr.Up:=⟨⟨_,_,_⟩,ae,pos i1,pos i2,pos i3⟩
       generalize upd H7 W (.lst ([r1.w+r1.x*(0+i)+r1.y*(0+j)+r1.z*(0+k),r2.w+r2.x*(0+i)+r2.y*(0+j)+r2.z*(0+k),r3.w+r3.x*(0+i)+r3.y*(0+j)+r3.z*(0+k)].map V.int))=H8 at gi4 ewr ⊢
      case' kx=>
       refine⟨_,rfl,_,_,rfl,rfl,_,rfl,eU (λhc1=>?k1) (λhc1=>?k2)⟩
      case' k1=>
       refine⟨3,rfl,by decide,by decide,mS (K:=K) (lo:=0) (n:=3) (Pd:=λd=>∃ i:Int,d=.int i/\0<=i) gi3.tw (by decide) (λii H7 hii tw7 mv7 RR kk S=>bj (B:=S H7) ⟨_,rfl,t,r,1001,rfl,tw7,by decide,s64 (by decide) (by decide),λx1 H9 a1 b1 tw9 mv9=>kk _ _ ⟨tw9,mv9,_,⟨x1,rfl,a1⟩,.int _⟩⟩) (λds ws H7 hl hP tw7 mv7 hws W hW=>?_)⟩;obtain⟨wr,rfl,up⟩:=Ji hl hP;have zz:=fI hws;subst zz;have gi4:=(gi3.draw tw7 mv7).same (af.new (o:=.lst wr.vs) hW);have ewr:upd H7 W (.lst wr.vs) W=some (.lst wr.vs):=ae;generalize upd H7 W (.lst wr.vs)=H8 at gi4 ewr ⊢
      case' k2=>
       have e2:∃ g:R4->Int,g=λrr=>if rr.w+(rr.x*(0+(i:Int))*(0+(i:Int))).fdiv n+40*(0+(j:Int))+30*(0+(k:Int))<1000 then rr.w+(rr.x*(0+(i:Int))*(0+(i:Int))).fdiv n+40*(0+(j:Int))+30*(0+(k:Int)) else 1000:=⟨_,rfl⟩
       obtain⟨g,hg⟩:=e2;refine⟨_,rfl,R,true,rfl,⟨_,hb⟩,cA (es:=[.int (g r1),.int (g r2),.int (g r3)]) hb hxs rfl (by show 3<=1000;decide) (λii dd ee u H7 hd he s7 hu RR kk S=>?_) (λzs H7 s7 hzs W hW=>?_)⟩
       ·obtain⟨rr,hrr,rfl,rfl⟩:∃ rr:R4,(rr=r1\/rr=r2\/rr=r3)/\dd=.list rr.ds/\ee=.int (g rr):=by
         rcases uU hd with ⟨rfl,rfl⟩|⟨rfl,rfl⟩|⟨rfl,rfl⟩
         ·exact⟨r1,.inl rfl,rfl,(K8 he).symm⟩
         ·exact⟨r2,.inr (.inl rfl),rfl,(K8 he).symm⟩
         ·exact⟨r3,.inr (.inr rfl),rfl,(K8 he).symm⟩
        obtain⟨w0,w1,x0,x1,y0,y1,z0,z1⟩:=inr hrr;obtain⟨ra,rfl,hra⟩:=C_ hu;have sx:Sm 64 (rr.x*(0+(i:Int))):=((show Sm 10 rr.x by unfold Sm;lia).mul (show Sm 10 (0+(i:Int)) by unfold Sm;lia)).mono (by decide);refine⟨ra,_,rfl,.inl hra,rfl,_,_,rfl,_,_,rfl,_,_,rfl,_,_,rfl,rfl,bj (B:=S H7) ?_⟩;refine⟨_,rfl,_,rfl,_,rfl,_,_,rfl,rfl,.inr (by unfold Sm;lia),_,rfl,_,_,rfl,rfl,.inr sx,_,rfl,_,_,rfl,rfl,⟨by lia,Sm.mono (k:=20) (by unfold Sm;lia) (by decide)⟩,_,_,rfl,rfl,_,rfl,_,_,rfl,rfl,.inr (by unfold Sm;decide),_,_,rfl,rfl,_,rfl,_,_,rfl,rfl,.inr (by unfold Sm;decide),_,_,rfl,rfl,_,_,rfl,kk _ _ ⟨af.refl _,?_⟩⟩;rw[hg];exact .int _
       have zz:=cn (ns:=[g r1,g r2,g r3]) hzs;subst zz;have gi4:=(gi3.same s7).same (af.new (o:=.lst ([g r1,g r2,g r3].map V.int)) hW);have pos:∀ {rr:R4},rr.In->0<=g rr:=λ{rr} h=>by
        have p1:=NJ (NJ h.x0 (show(0:Int)<=0+i by lia)) (show(0:Int)<=0+i by lia);have p2:0<=(rr.x*(0+(i:Int))*(0+(i:Int))).fdiv n:=by
         rw[MC _ (by lia)];exact SA p1 (by lia)
        have p4:=h.w0;rw[hg];dsimp only
        split<;>lia
       obtain⟨wr,ewr,up⟩:∃ wr:R3,upd H7 W (.lst ([g r1,g r2,g r3].map V.int)) W=some (.lst wr.vs)/\wr.Up:=⟨⟨_,_,_⟩,ae,pos i1,pos i2,pos i3⟩
       generalize upd H7 W (.lst ([g r1,g r2,g r3].map V.int))=H8 at gi4 ewr ⊢
      all_goals
       obtain⟨wv,ewv⟩:∃ wv,wv=V.ref W:=⟨_,rfl⟩
       rw[<- ewv];exact rest1 wv H8 ⟨W,wr,ewv,gi4,ewr,up⟩
     clear gi3 hb hxs;rintro wv H8 ⟨W,wr,rfl,gi4,ewr,up⟩;apply JE (I:=λwv H'=>∃ (W:Lg) (wr:R3),wv=.ref W/\iL K t r d R (.list [.list r1.ds,.list r2.ds,.list r3.ds]) H0 (qw n i++qj n i j++rh i j k) H'/\H' W=some (.lst wr.vs)/\wr.Up)
     case main=>
      intro rest2;refine⟨_,rfl,_,rfl,_,_,rfl,rfl,_,rfl,eU (λc1=>?c1t) (λc1=>bI ?c1f)⟩
      case c1t=>
       refine⟨_,rfl,_,rfl,_,_,rfl,rfl,_,rfl,eU (λc2=>?c2t) (λc2=>bI ?c2f)⟩
       case c2t=>
        refine⟨_,rfl,_,_,rfl,rfl,_,rfl,eU (λc3=>?c3t) (λc3=>?c3f)⟩
        case c3t=>
         refine⟨_,rfl,.inl ⟨W,_,0,.int wr.a,rfl,rfl,bE.of ewr,rfl,Hz,λp hp=>⟨p,3,_,rfl,rfl,ae,by decide,by decide,by show 3<=Ly;decide,λp2 hp2=>?_⟩⟩⟩;have gi4:=(gi4.same (af.new (o:=.lst [.int wr.a]) hp)).same (af.new (o:=.lst (LD (3:Int).toNat [V.int wr.a]).flatten) hp2);have ewr2:upd (upd H8 p (.lst [.int wr.a])) p2 (.lst (LD (3:Int).toNat [V.int wr.a]).flatten) p2=some (.lst (R3.mk wr.a wr.a wr.a).vs):=ae;generalize upd (upd H8 p (.lst [.int wr.a])) p2 (.lst (LD (3:Int).toNat [V.int wr.a]).flatten)=H9 at gi4 ewr2 ⊢;obtain⟨wv,ewv⟩:∃ wv,wv=V.ref p2:=⟨_,rfl⟩
         rw[<- ewv];exact rest2 wv H9 ⟨p2,_,ewv,gi4,ewr2,up.a,up.a,up.a⟩
        case c3f=>exact rest2 (.ref W) H8 ⟨W,wr,rfl,gi4,ewr,up⟩
       case c2f=>exact rest2 (.ref W) H8 ⟨W,wr,rfl,gi4,ewr,up⟩
      case c1f=>exact rest2 (.ref W) H8 ⟨W,wr,rfl,gi4,ewr,up⟩
     clear gi4 ewr up;rintro wv H8 ⟨W,wr,rfl,gi4,ewr,up⟩;refine⟨_,rfl,_,true,rfl,⟨_,bE.of ewr⟩,cA (es:=[.int (min 1000 wr.a),.int (min 1000 wr.b),.int (min 1000 wr.c)]) (K:=K) (b:=true) (bE.of ewr) (.cons (.int wr.a) (.cons (.int wr.b) (.cons (.int wr.c) .nil))) rfl (by show 3<=1000;decide) (λii dd ee u H9 hd he s9 hu RR kk S=>?_) (λzs H9 s9 hzs D9 hD9=>?_)⟩
     ·refine bj (B:=S H9) ?_;rcases uU hd with ⟨rfl,rfl⟩|⟨rfl,rfl⟩|⟨rfl,rfl⟩<;>(cases hu;cases(K8 he);exact⟨_,rfl,_,_,rfl,by rw[B2];exact kk _ _ ⟨af.refl _,.int _⟩⟩)
     ·have zz:=cn (ns:=[min 1000 wr.a,min 1000 wr.b,min 1000 wr.c]) hzs;subst zz;refine⟨D9,_,rfl,.inl ⟨bE.of ae,λl hl=>?_⟩⟩;have wtl:(R3.mk (min 1000 wr.a) (min 1000 wr.b) (min 1000 wr.c)).Wt:=by
       obtain⟨u1,u2,u3⟩:=up;exact⟨by show 0<=min 1000 wr.a;lia,by show min 1000 wr.a<=1000;lia,by show 0<=min 1000 wr.b;lia,by show min 1000 wr.b<=1000;lia,by show 0<=min 1000 wr.c;lia,by show min 1000 wr.c<=1000;lia⟩
      have gi5:=((gi4.same s9).same (af.new (o:=.lst ([min 1000 wr.a,min 1000 wr.b,min 1000 wr.c].map V.int)) hD9)).same (af.new (o:=.tup ([min 1000 wr.a,min 1000 wr.b,min 1000 wr.c].map V.int)) hl);have hlt:aA K (upd (upd H9 D9 (.lst ([min 1000 wr.a,min 1000 wr.b,min 1000 wr.c].map V.int))) l (.tup ([min 1000 wr.a,min 1000 wr.b,min 1000 wr.c].map V.int))) (wD ⟨min 1000 wr.a,min 1000 wr.b,min 1000 wr.c⟩) (.ref l):=aA.tupN hl (.cons (.int _) (.cons (.int _) (.cons (.int _) .nil)));generalize upd (upd H9 D9 (.lst ([min 1000 wr.a,min 1000 wr.b,min 1000 wr.c].map V.int))) l (.tup ([min 1000 wr.a,min 1000 wr.b,min 1000 wr.c].map V.int))=Ha at gi5 hlt ⊢;generalize R3.mk (min 1000 wr.a) (min 1000 wr.b) (min 1000 wr.c)=wf at wtl hlt;refine⟨_,rfl,_,rfl,_,rfl,_,rfl,Fm,λkt hkt=>?_⟩;have ek:[V.int (0+(i:Int)),V.int (0+(j:Int)),V.int (0+(k:Int))]=(cE (i,j,k)).map kV:=by rw[Q7,Q7,Q7];rfl
      have gi6:=gi5.same (af.new (o:=.tup [V.int (0+(i:Int)),V.int (0+(j:Int)),V.int (0+(k:Int))]) hkt);have hlt:=aA.same (af.new (o:=.tup [V.int (0+(i:Int)),V.int (0+(j:Int)),V.int (0+(k:Int))]) hkt) hlt;have hkt':upd Ha kt (.tup [V.int (0+(i:Int)),V.int (0+(j:Int)),V.int (0+(k:Int))]) kt=some (.tup ((cE (i,j,k)).map kV)):=by rw[<- ek];exact ae
      generalize upd Ha kt (.tup [V.int (0+(i:Int)),V.int (0+(j:Int)),V.int (0+(k:Int))])=Hb at gi6 hlt hkt' ⊢;obtain⟨f,⟨vs,gd,gv⟩,gw⟩:=gi6.gr;have hlen:=An.len gv;have fresh:((i,j,k):Kn)∉qw n i++qj n i j++rh i j k:=λm=>by
       rcases Mm.mp m with m|m
       ·rcases Mm.mp m with m|m
        ·have:=(D4.mp m).1;exact absurd this (L7 _)
        ·have:=(ym.mp m).2.1;exact absurd this (L7 _)
       ·have:=(zk.mp m).2.2;exact absurd this (L7 _)
      refine⟨d,_,rfl,DD.t (k:=cE (i,j,k)) gd hkt' (by rw[tO hlen];exact bH (LM (DN h7 hi hj (Nx hk)) (by decide))),⟨_,_,rfl⟩,?_⟩;rw[Gi hlen fresh,vH,<- NN];have sdb:iM Hb (upd Hb d (.dT (kM (qw n i++qj n i j++rh i j k++[(i,j,k)]) (vs++[.ref l])))):=iM.put gd;refine⟨gi6.tw.sameD sdb,gi6.mv.trans λb o e nb=>?_,aA.sameD (iM.cut sdb) gi6.rs,λu=>if u=(i,j,k) then wf else f u,⟨_,ae,?_⟩,λu hu=>?_⟩
      ·rw[aq (λz=>nb (by simp[z]))];exact e
      ·rw[Mg];refine(ay.sameD sdb (show ay K Hb _ _ from ?_)).snoc ?_
       ·have cg:(qw n i++qj n i j++rh i j k).map (λu=>wD (if u=(i,j,k) then wf else f u))=(qw n i++qj n i j++rh i j k).map (λu=>wD (f u)):=TD λu hu=>by
         have nu:u≠(i,j,k):=λz=>fresh (z▸hu)
         rw[LB nu]
        rw[cg];exact gv
       ·show aA K _ (wD (if((i,j,k):Kn)=(i,j,k) then wf else f (i,j,k))) _;rw[LL rfl];exact aA.sameD sdb hlt
      ·show(if u=(i,j,k) then wf else f u).Wt;rcases Mm.mp hu with hu|hu
       ·have nu:u≠(i,j,k):=λz=>fresh (z▸hu)
        rw[LB nu];exact gw u hu
       ·rw[LL (Lo.mp hu)];exact wtl
    ·rintro σ H6 ⟨⟨oc,ow,rfl⟩,gi3⟩;refine⟨⟨_,_,_,rfl⟩,?_⟩;rw[oJ,<- NN];exact gi3
   ·rintro σ H5 ⟨⟨ob,oc,ow,rfl⟩,gi2⟩;refine⟨⟨_,_,_,_,rfl⟩,?_⟩;rw[oZ];exact gi2
  ·rintro σ H4 ⟨⟨oa,ob,oc,ow,rfl⟩,gi1⟩;obtain⟨f,g1,g2⟩:=gi1.gr;refine⟨_,rfl,q d f H4 g1 (λu hu=>g2 u hu) gi1.tw (λb o e nb=>?_) hd⟩;refine gi1.mv b o (sd _ _ e) λz=>?_
   simp only[Ln,LF,Nd] at z nb;rcases z with z|z|z
   ·exact nb (.inl z)
   ·exact nb (.inr z)
   ·rw[z,hd] at e;cases e
theorem dP:av ["_law_script","_law_town_here","_law_size","_law_grid_here","_law_flat","_law_turn","_law_colour","_law_goal","_law_told","_law_k","_law_one","_law_two","_law_same"] uA4 (ag lC):=dD
structure Bf (K:HD)(n:Nat)(f:Kn->R3)(t r g C dx L:Lg)(H:Hp):Prop where
 tw:c9 H t r
 gi:H g=some (.ins C dx [("knots",.int n),("table",.ref L)])
 gL:Gr K H n f L
 t4:v7 K "parts_by_four" H
 tr:v7 K "rising" H
theorem Bf.same {K:HD}{n:Nat}{f:Kn->R3}{t r g C dx L:Lg}{H H':Hp}(h:Bf K n f t r g C dx L H)(s:af H H'):Bf K n f t r g C dx L H':=⟨h.tw.same s,s _ _ h.gi,h.gL.same s,h.t4.same s,h.tr.same s⟩
theorem Bf.mv {K:HD}{n:Nat}{f:Kn->R3}{t r g C dx L:Lg}{H H':Hp}(h:Bf K n f t r g C dx L H)(m:Mv [t,r] H H')(tw:c9 H' t r):Bf K n f t r g C dx L H':=
 ⟨tw,m _ _ h.gi (h.tw.lists.not h.gi λ_ z=>nomatch z),h.gL.mv m h.tw.lists,h.t4.mv m h.tw.lists,h.tr.mv m h.tw.lists⟩
theorem Bf.is {K:HD}{n:Nat}{f:Kn->R3}{t r g C dx L:Lg}{H:Hp}(h:Bf K n f t r g C dx L H)(hC:eR K "Grid" C):kF K H n f (.ref g):=⟨g,C,dx,L,rfl,hC,h.gi,h.gL⟩
structure FN (K:HD)(n:Nat)(f:Kn->R3)(t r g C dx L T:Lg)(c:Q3)(cv:V)(e:Q3)(gw:V)(cs:List (Q3×Lg))(H:Hp):Prop where
 x:Bf K n f t r g C dx L H
 hc:aA K H c.col cv
 go:aA K H e.col gw
 hT:H T=some (.lst (cs.map λp=>V.ref p.2))
 ks:wq K H cs
theorem FN.same {K:HD}{n:Nat}{f:Kn->R3}{t r g C dx L T:Lg}{c:Q3}{cv:V}{e:Q3}{gw:V}{cs:List (Q3×Lg)}{H H':Hp}(h:FN K n f t r g C dx L T c cv e gw cs H)(s:af H H'):FN K n f t r g C dx L T c cv e gw cs H':=⟨h.x.same s,aA.same s h.hc,aA.same s h.go,s _ _ h.hT,h.ks.same s⟩
theorem FN.td {K:HD}{n:Nat}{f:Kn->R3}{t r g C dx L T:Lg}{c:Q3}{cv:V}{e:Q3}{gw:V}{cs:List (Q3×Lg)}{H:Hp}(h:FN K n f t r g C dx L T c cv e gw cs H):aA K H (.list (cs.map λp=>p.1.col)) (.ref T):=.lst (.inl h.hT) (jz h.ks.1)
theorem JX {M I:Hp->Prop}{G:Prop}(bA:∀ H,I H->M H)(main:(∀ H,I H->M H)->G):G:=main bA
theorem FS (T:df K mg w){f:Lg}{fd:MW}(F:IJ K "law" "law" lC f fd):iy P w K mg base c5 10 f fd uA4 (oH ["parts_by_four","rising"] K):=by
 refine IJ.okX F dP (λvs H Q E h=>?_) (λcdv A outer s H vs Q E hr h=>?_)
 ·obtain⟨a,ns,rfl,_⟩:=h;rfl
 ·obtain⟨a,ns,rfl,hS,hl,hT,q⟩:=h;refine⟨_,(cQ.go (ab (az 1 dP.nd (ac aB (rY T) hr (aE (ak 0))))
   (ab (az 2 dP.nd (ac aB (ix T) hr (aH (ak 1) (bN (aj aa (aj aa (aj aa aU)))))))
   (ab (az 3 dP.nd (Fd (K:=K) rfl aB (km T) (hr.mono (by decide)) rfl (aH (ak 2) (ac aB (sM T) hr (aH (ak 1) (ak 2))))))
   (ab (az 4 dP.nd (ac aB (yh T) hr (aE (ak 3))))
   (ab (di Ms rfl (cJ rfl T.x4 (aE aa)) (ai 5 dP.nd) (ab (az 6 dP.nd (ac aB (qy T) hr (aH (ak 1) aa)))
   (ab (az 7 dP.nd (pV (K:=K) rfl aB (e_ T) (hr.mono (by decide)) (ak 3) (aE (ak 6)) sv))
   (ab (bn (aN dz (ac aB (bM T) hr (aH (ak 1) aa)) aa (aT _)) (ah (az 7 dP.nd (bT (aj (ac aB (cw T) hr (aH (ak 1) aa)) (aj (ac aB (cw T) hr (aH (ak 1) aa)) (aj (ac aB (cw T) hr (aH (ak 1) aa)) aU)))))) aM)
   (ab (az 8 dP.nd (ac aB (kQ T) hr (aH (ak 3) (ak 7))))
   (ab (bn (WW.pt (eG (a_ (bg (ax (gt (K:=K) rfl) (by rfl) T.x0 aK (aH (ak 8) (bJ (v:=.ty "list") rfl T.x6 hV rfl))))) (eO (aN (vy (K:=K) rfl hr.units) (aQ ["_law_one"] [] [] 1 (bB (K:=K) rfl (ak 8)) (λnd=>(ai 0 nd)) (kP (a_ (bg (ac aB (l9 T) hr (aE (ak 0)))))) (ak 0)) (bN aU) (aT _))))) (ah (au eX)) aM)
   (ab (bn (WW.pt (eG (aN (vy (K:=K) rfl hr.units) (aQ ["_law_one"] ["_law_grid_here","_law_goal"] [3,7] 1 (bB (K:=K) rfl (ak 8)) (λnd=>(ai 0 nd)) (kP (aN (vy (K:=K) rfl hr.units) (pV (K:=K) rfl aB (e_ T) (hr.mono (by decide)) (ak 1) (aE (ak 0)) sv) (ak 2) (aT _))) (ak 0)) (bN aU) (aT _)) (eO (aN mF (wC (K:=K) rfl hr.u9 (by rfl) T.x2 (by rfl) T.xr (aE (ak 8))) (ax (iK (K:=K) rfl) (by rfl) T.x2 dO (aE (ak 8))) (aT _))))) (ah (au eX)) aM)
   (ab (bn (WW.pt (ny (aN (yA (K:=K) rfl hr.units) (ak 7) (pV (K:=K) rfl aB (e_ T) (hr.mono (by decide)) (ak 3) (aE (ak 6)) sv) (aT _)) (ny (a_ (bg (ak 4))) (vj (aN (BJ (K:=K) rfl hr.units) (ak 6) (ak 8) rfl))))) (ah (au eX)) aM)
   (ab (di Ms rfl (cJ rfl T.x4 (aE (ar c_ (ax (iK (K:=K) rfl) (by rfl) T.x2 dO (aE (ak 8))) aa))) (ai 9 dP.nd) (ab (gy (bT (aH (aw K (ak 8) (ak 9)) (aw K (ak 8) (ar eh (ak 9) aa)))) (bZ (K:=K) (n:=2) rfl rfl (ao (ai 10 dP.nd) (ao (ai 11 dP.nd) aX))))
   (ab (cG 12 ["_law_j"] uA1 [10,11] 1 dP.nd (cJ rfl T.x4 (aE aa)) (λnd=>(ai 0 nd)) (kP (aN (vy (K:=K) rfl hr.units) (aw K (ak 1) (ak 0)) (aw K (ak 2) (ak 0)) (aT _))) (ak 0))
   (ah (bn (a_ (bg (ac aB (qx T) hr (aH (aw K (ak 10) (aw K (ak 12) aa)) (aw K (ak 11) (aw K (ak 12) aa)))))) (ah (au eX)) aM)))))
   (ah (bn (a_ (bg (ac aB (ww T) hr (aH (ac aB (qH T) hr (aH (ak 3) (ak 7))) (cq (vy (K:=K) rfl hr.units) (ak 8) (bN aU) (aT _)))))) (ah (au eX)) aM)))))))))))
   (ah (au (ax (gt (K:=K) rfl) (by rfl) T.x0 aK (aH (ak 4) (bJ (v:=.ty "bool") rfl T.x9 nI rfl))))))))))),?_⟩
  have s64:∀ {n:Int},0<n->n<100000->Sm 8000 n:=λh1 h2=>Sm.mono (k:=20) (by unfold Sm;lia) (by decide)
  refine⟨_,rfl,a,ns,rfl,hS,hl,λt r H0 s0 _ _ tw0=>?_⟩;have tb0:=(hT "parts_by_four" (by simp)).same s0;have tr0:=(hT "rising" (by simp)).same s0;clear hT hS hl s0;refine⟨_,rfl,Fm,λp hp=>?_⟩;have np:=tw0.not hp;refine⟨t,r,p,_,rfl,tw0.same (af.new hp),ae,λz=>np (by simp[z]),λz=>np (by simp[z]),by simp,by show 3<=1000;decide,λi v H2 ev tw2 mv2=>?_⟩;have tb2:=(tb0.same (af.new hp)).mv mv2 (tw0.same (af.new hp)).lists;have tr2:=(tr0.same (af.new hp)).mv mv2 (tw0.same (af.new hp)).lists;obtain⟨n,rfl,n2,n3⟩:∃ n:Nat,v=.int n/\2<=n/\n<=3:=by
   have m:=Lq ev;simp only[Ln,LF,Nd] at m;rcases m with rfl|rfl|rfl
   ·exact⟨2,rfl,by decide,by decide⟩
   ·exact⟨2,rfl,by decide,by decide⟩
   ·exact⟨3,rfl,by decide,by decide⟩
  have n7:n<=7:=by lia
  clear ev mv2 np hp tw0 tb0 tr0;refine⟨_,rfl,_,rfl,_,rfl,t,r,n,rfl,tw2,n2,n7,λd f H3 gp wt DY mv3 nd=>?_⟩;have tb3:=tb2.mv mv3 tw2.lists;have tr3:=tr2.mv mv3 tw2.lists;refine λC g dx hC hg hdx hne=>?_
  generalize e0:upd (upd H3 dx _) g _=H5;have s5:=Kq hg hdx hne e0;have gv:=rT e0;refine⟨g,C,dx,d,n,f,rfl,hC,gv,⟨_,.refl _,gp.same s5⟩,wt,n2,n7,λH6 L mv6 hg6 gL hL=>⟨rfl,?_⟩⟩;have s6:af H3 H6:=λb o e=>mv6 _ _ (s5 _ _ e) (λz=>by rw[Lo.mp z,hg] at e;cases e)
  have X6:Bf K n f t r g C dx L H6:=⟨DY.same s6,hg6,gL,tb3.same s6,tr3.same s6⟩
  clear mv6 hg6 gL hL s6 s5 gv hg hdx hne tb3 tr3 DY mv3 nd tb2 tr2 tw2 gp;refine⟨_,rfl,.ref g,n,f,rfl,X6.is hC,wt,n2,by lia,λH7 s7=>?_⟩;have X7:=X6.same s7;clear X6 s7;obtain⟨fl,hfl⟩:∃ fl,fl=((bD n).any λp=>decide ((aO f p).det=0)):=⟨_,rfl⟩
  rw[<- hfl];refine⟨3,rfl,by decide,by decide,g_ (lo:=0) (n:=3) (λi σ H'=>(∃ o4 o5 o6 o7 o8 o9 oa ob:Option V,σ=[some (.ref a),some (.ref t),some (.int n),some (.ref g),some (.bl fl),o4,o5,o6,o7,o8,o9,oa,ob])/\Bf K n f t r g C dx L H')
   ⟨⟨_,_,_,_,_,_,_,_,rfl⟩,X7⟩ ?_ ?_⟩
  ·clear X7;rintro i σ H1 hi ⟨⟨o4,o5,o6,o7,o8,o9,oa,ob,rfl⟩,X1⟩;refine⟨_,rfl,t,r,60,rfl,X1.tw,by decide,by decide,λcv c H2 hc wi bd tw2 mv2=>?_⟩;have X2:=X1.mv mv2 tw2;clear X1 mv2 tw2;refine⟨_,rfl,g,C,dx,_,rfl,hC,X2.gi,rfl,_,rfl,.ref g,cv,"four",n,f,c,17,rfl,X2.is hC,wt,n2,n7,hc,wi,bd,by decide,X2.t4,.inl rfl,λr0 gv H3 s3 e4 _ _ hgv=>?_⟩;obtain rfl:=e4 rfl;have X3:=X2.same s3;replace hc:=aA.same s3 hc;clear X2 s3 e4;refine⟨_,rfl,t,r,4,rfl,X3.tw,by decide,s64 (by decide) (by decide),λx0 H4 a0 b0 tw4 mv4=>⟨_,_,rfl,rfl,_,rfl,?_⟩⟩;have X4:=X3.mv mv4 tw4;replace hc:=aA.mv mv4 X3.tw.lists rfl hc;replace hgv:=aA.mv mv4 X3.tw.lists rfl hgv;clear X3 mv4 tw4 a0 b0;apply JE (I:=λv H=>Bf K n f t r g C dx L H/\aA K H c.col cv/\∃ (e:Q3) (D:Int),aA K H e.col v/\e.Bd 250/\Cd D e/\Sm 72 D)
   case main=>
    intro bA;refine eU (λhx=>?tt) (λhx=>?ff)
    case tt=>
     refine⟨_,rfl,t,r,1000,rfl,X4.tw,by decide,by decide,λv1 q1 Ha h1 l1 u1 b1 tw1 mv1=>?_⟩;have Xa:=X4.mv mv1 tw1;refine⟨_,rfl,t,r,1000,rfl,Xa.tw,by decide,by decide,λv2 q2 Hb h2 l2 u2 b2 tw2 mv2=>?_⟩;have Xb:=Xa.mv mv2 tw2;refine⟨_,rfl,t,r,1000,rfl,Xb.tw,by decide,by decide,λv3 q3 Hc h3 l3 u3 b3 DY mv3=>⟨Fm,λgo hgo0=>?_⟩⟩;have Xc:=Xb.mv mv3 DY;have hgo:aA K (upd Hc go (.tup [v1,v2,v3])) (Q3.mk q1 q2 q3).col (.ref go):=aA.tupN (ds:=[rD q1,rD q2,rD q3]) hgo0 (.cons (aA.mv mv3 Xb.tw.lists rfl (aA.mv mv2 Xa.tw.lists rfl h1)) (.cons (aA.mv mv3 Xb.tw.lists rfl h2) (.cons h3 .nil)));have bde:(Q3.mk q1 q2 q3).Bd 17:=⟨b1,b2,b3⟩
     have Xd:=Xc.same (af.new (o:=.tup [v1,v2,v3]) hgo0);have hcd:=aA.same (af.new (o:=.tup [v1,v2,v3]) hgo0) (aA.mv mv3 Xb.tw.lists rfl (aA.mv mv2 Xa.tw.lists rfl (aA.mv mv1 X4.tw.lists rfl hc)));generalize upd Hc go (.tup [v1,v2,v3])=Hd at hgo Xd hcd ⊢;generalize V.ref go=gw at hgo ⊢;obtain⟨D,cd,sd⟩:=HS bde;exact bA gw Hd ⟨Xd,hcd,_,D,hgo,bde.mono (by decide),cd,sd.mono (by decide)⟩
    case ff=>
     obtain⟨D,cd,sd⟩:=Jq (f:=f) n2 n7 wi bd;exact bA gv H4 ⟨X4,hc,_,D,hgv,(IR n2 n7 wt wi bd).mono (by decide),cd,sd⟩
   clear X4 hc hgv;rintro gw H5 ⟨X5,hc,e,D,hgo,be,cd,sd⟩;refine⟨_,rfl,_,rfl,.ref g,gw,n,f,e,rfl,X5.is hC,wt,n2,n3,hgo,be,X5.tr,λz xs T H6 hz ew ks _ lx s6 hT=>?_⟩;have X6:=X5.same s6;replace hc:=aA.same s6 hc;replace hgo:=aA.same s6 hgo;clear X5 s6;have pe:=mq z xs;have rise:=v4 hz ks.2;have ks':wq K H6 (mw z xs):=⟨λp hp=>ks.1 p (pe.mem_iff.mp hp),(pe.map (·.1)).nodup_iff.mpr ks.2⟩
   have lx':(mw z xs).length<63:=by
    rw[pe.length_eq,<- K' (f:=(·.1)),ew];have:=Dp n f e (bD n);have:=qZ n3;lia
   have mem:∀ c':Q3,c'∈(mw z xs).map (·.1)↔c'∈gf n f e (bD n):=λc'=>by rw[<- ew];exact(pe.map (·.1)).mem_iff
   clear hz ks lx ew pe;generalize mw z xs=cs at *;have okc:∀ p∈cs,p.1.Wi ((60:Int):Rat)/\W4 n f p.1=e/\p.1.Bd 142:=λp hp=>by
    have h:=(mem p.1).mp (List.mem_map_of_mem hp);obtain⟨k1,k2⟩:=CA n2 n7 be h;exact⟨k1,k2,El n2 n7 wt be cd sd h⟩
   have Z6:FN K n f t r g C dx L T c cv e gw cs H6:=⟨X6,hc,hgo,hT,ks'⟩
   clear X6 hc hgo hT ks';have ln:(cs.map λp=>p.1.col).length<=1000:=by rw[K'];lia
   have at':∀ {i:Nat}{d:LU},(cs.map λp=>p.1.col)[i]?=some d->∃ p∈cs,d=p.1.col:=λ{i d} hd=>by
    rw[Lk] at hd;obtain⟨p,hp,rfl⟩:=Lx.mp hd;exact⟨p,Lq hp,rfl⟩
   refine⟨_,rfl,_,_,_,true,rfl,Z6.td.ty,(show eQ "list" "list"=some true by decide +kernel),_,rfl,bI ?_⟩;refine⟨_,rfl,T,true,rfl,⟨_,bE.of Z6.hT⟩,me (bE.of Z6.hT) (jz Z6.ks.1) ln (λj d' u H7 hd s7 hu Y S hS=>?_) (λH7 s7 L1 hL1=>?_)⟩
   ·obtain⟨p,hp,rfl⟩:=at' hd;exact⟨_,rfl,u,p.1,rfl,hu,(okc p hp).2.2.mono (by decide),λH' s'=>⟨_,rfl,bI (hS _ s')⟩⟩
   refine⟨by decide,λL2 hL2=>⟨.list [],.list [],aA.same (af.new hL2) (aA.listN hL1 .nil),aA.listN hL2 .nil,rfl,rfl,_,rfl,bI ?_⟩⟩;have Z8:=Z6.same ((s7.trans (af.new (o:=.lst []) hL1)).trans (af.new (o:=.lst []) hL2));generalize upd (upd H7 L1 (.lst [])) L2 (.lst [])=H8 at Z8 ⊢;clear Z6 s7 hL1 hL2;refine⟨_,rfl,T,true,rfl,⟨_,bE.of Z8.hT⟩,me (bE.of Z8.hT) (jz Z8.ks.1) ln (λj d' u H9 hd s9 hu Y S hS=>?_) (λH9 s9 L1 hL1=>?_)⟩
   ·obtain⟨p,hp,rfl⟩:=at' hd;obtain⟨k1,k2,k3⟩:=okc p hp;have Z9:=Z8.same s9;refine⟨_,rfl,g,C,dx,_,rfl,hC,Z9.x.gi,rfl,_,rfl,.ref g,u,"four",n,f,p.1,142,rfl,Z9.x.is hC,wt,n2,n7,hu,k1,k3,by decide,Z9.x.t4,.inl rfl,λr1 w1 Ha sa e5 _ _ hw1=>?_⟩;obtain rfl:=e5 rfl;exact⟨_,rfl,_,_,hw1,aA.same sa Z9.go,rfl,rfl,false,by rw[k2,(rZ _ _).mpr rfl];rfl,bI (hS _ sa)⟩
   refine⟨by decide,λL2 hL2=>⟨.list [],.list [],aA.same (af.new hL2) (aA.listN hL1 .nil),aA.listN hL2 .nil,rfl,rfl,_,rfl,bI ?_⟩⟩;have Za:=Z8.same ((s9.trans (af.new (o:=.lst []) hL1)).trans (af.new (o:=.lst []) hL2));generalize upd (upd H9 L1 (.lst [])) L2 (.lst [])=Ha at Za ⊢;clear Z8 s9 hL1 hL2;refine⟨_,rfl,T,cs,rfl,Za.hT,Za.ks,lx',_,rfl,T,_,rfl,.inl (bE.of Za.hT),_,_,rfl,rfl,false,?_,bI ?_⟩
   ·rw[K'];simp
   apply JX (I:=FN K n f t r g C dx L T c cv e gw cs)
   case main=>
    intro bA;refine⟨_,rfl,_,rfl,g,C,dx,_,rfl,hC,Za.x.gi,rfl,_,rfl,.ref g,cv,"four",n,f,c,17,rfl,Za.x.is hC,wt,n2,n7,Za.hc,wi,bd,by decide,Za.x.t4,.inl rfl,λr1 w1 Hb sb e5 _ _ hw1=>?_⟩;obtain rfl:=e5 rfl;have Zb:=Za.same sb;refine⟨e.col,_,Zb.go,hw1,rfl,rfl,_,rfl,?_⟩;refine eU (λh1=>?_) (λh1=>bI (bA Hb Zb));have ee:=(rZ _ _).mp h1;refine⟨_,rfl,fl,rfl,eU (λh2=>?_) (λh2=>bI (bA Hb Zb))⟩;have f0:fl=false:=by simpa using h2
    have hm:c∈cs.map (·.1):=(mem c).mpr (by rw[ee];exact Aq n2 n7 wi (by rw[<- ee];exact be) (by rw[<- hfl];exact f0));obtain⟨p,hp,rfl⟩:=Md.mp hm;refine⟨_,rfl,_,rfl,p.1.col,_,Zb.hc,Zb.td,(oC cs).1,rfl,(by show 2<=60;decide),false,?_,bI (bA Hb Zb)⟩;rw[UK,Pe.mpr ⟨p,hp,(rZ _ _).mpr rfl⟩];rfl
   clear Za;intro Hb Zb;refine⟨_,rfl,T,_,rfl,.inl (bE.of Zb.hT),_,_,rfl,rfl,_,rfl,?_,?_,g_ (lo:=0) (n:=_) (λi' σ H'=>(∃ o9 oa ob oc:Option V,σ=[some (.ref a),some (.ref t),some (.int n),some (.ref g),some (.bl fl),some (.int (0+i)),some cv,some gw,some (.ref T),o9,oa,ob,oc])/\FN K n f t r g C dx L T c cv e gw cs H')
    ⟨⟨_,_,_,_,rfl⟩,Zb⟩ ?_ ?_⟩
   ·rw[K'];lia
   ·rw[K'];lia
   ·clear Zb;rintro k σ H1 hk ⟨⟨o9,oa,ob,oc,rfl⟩,Z1⟩;rw[K'] at hk;have k0:k<cs.length:=by lia
    have k1:k+1<cs.length:=by lia
    obtain⟨p,ep⟩:∃ p,cs[k]?=some p:=⟨_,LS k0⟩
    obtain⟨p',ep'⟩:∃ p,cs[k+1]?=some p:=⟨_,LS k1⟩
    have lt:Il p.1 p'.1:=by
     have:=Rp.mp rise k (k+1) k0 k1 (by lia);rw[LS k0] at ep;rw[LS k1] at ep';cases ep;cases ep';exact this
    have b0:=(okc p (Lq ep)).2.2;have b1:=(okc p' (Lq ep')).2.2;have c0:=Z1.ks.1 p (Lq ep);have c1:=Z1.ks.1 p' (Lq ep');have e0:(cs.map λp=>V.ref p.2)[0+k]?=some (V.ref p.2):=by rw[MA,Lk,ep];rfl
    have e1:(cs.map λp=>V.ref p.2)[0+k+1]?=some (V.ref p'.2):=by rw[MA,Lk,ep'];rfl
    refine⟨_,rfl,_,rfl,lK (b:=true) (bE.of Z1.hT) e0 ⟨_,rfl,_,rfl,_,_,rfl,rfl,lK (b:=true) (bE.of Z1.hT) e1 ⟨vB,λu hu=>?_⟩⟩⟩;have Z2:=Z1.same (af.new (o:=.tup [.ref p.2,.ref p'.2]) hu);have gu:upd H1 u (.tup [.ref p.2,.ref p'.2]) u=some (.tup [.ref p.2,.ref p'.2]):=ae;replace c0:=aA.same (af.new (o:=.tup [.ref p.2,.ref p'.2]) hu) c0;replace c1:=aA.same (af.new (o:=.tup [.ref p.2,.ref p'.2]) hu) c1;generalize upd H1 u (.tup [.ref p.2,.ref p'.2])=H2 at Z2 gu c0 c1 ⊢;clear Z1 hu e0 e1;refine⟨u,_,rfl,dk.of gu,rfl,_,_,rfl,_,_,rfl,rfl,?_⟩;clear gu;generalize p.2=x0 at c0 ⊢;generalize p'.2=x1 at c1 ⊢;obtain⟨y0,xs0,ey0,hx0,hs0⟩:=aZ (b:=false) (ds:=p.1.ds) c0;cases ey0;obtain⟨y1,xs1,ey1,hx1,hs1⟩:=aZ (b:=false) (ds:=p'.1.ds) c1;cases ey1;obtain⟨j0,jl,ed,j3,jlt⟩:=xP lt;refine⟨3,rfl,by decide,by decide,ut (lo:=0) (n:=3) (λi ys H'=>af H2 H'/\ys=(pN p.1 p'.1 i).map λj:Nat=>V.int j) ⟨af.refl _,rfl⟩ (by decide) (λi ys H' _ h=>by rw[h.2,K'];exact BU _ _ _) (λj ys H3 hj h R S kk kS=>?_) (λys H3 h D hD=>?_)⟩
    ·obtain⟨s3,rfl⟩:=h;obtain⟨v0,ev0,hv0⟩:=yx (ay.same s3 hs0) hj;obtain⟨v1,ev1,hv1⟩:=yx (ay.same s3 hs1) hj;replace ev0:xs0[0+j]?=some v0:=by rw[MA];exact ev0
     replace ev1:xs1[0+j]?=some v1:=by rw[MA];exact ev1
     have sn:=AN p.1 p'.1 j;refine⟨_,rfl,_,rfl,lK (bY.same s3 hx0) ev0 ⟨_,rfl,_,rfl,lK (bY.same s3 hx1) ev1 ⟨_,_,hv0,hv1,rfl,rfl,_,rfl,eU (λhb=>?_) (λhb=>?_)⟩⟩⟩
     ·rw[LL hb] at sn;refine⟨_,rfl,kk _ _ ⟨s3,?_⟩⟩;rw[sn,Mg,Q7];rfl
     ·rw[LB hb,PJ] at sn;exact kS _ ⟨s3,by rw[sn]⟩
    ·obtain⟨s3,rfl⟩:=h;have Z3:=Z2.same (s3.trans (af.new (o:=.lst ((pN p.1 p'.1 3).map λj:Nat=>V.int j)) hD));have gD:upd H3 D (.lst ((pN p.1 p'.1 3).map λj:Nat=>V.int j)) D=some (.lst ((pN p.1 p'.1 3).map λj:Nat=>V.int j)):=ae;have s4:=s3.trans (af.new (o:=.lst ((pN p.1 p'.1 3).map λj:Nat=>V.int j)) hD);generalize upd H3 D (.lst ((pN p.1 p'.1 3).map λj:Nat=>V.int j))=H4 at Z3 gD s4 ⊢;rw[ed] at gD;obtain⟨v0,ev0,hv0⟩:=yx (ay.same s4 hs0) j3;obtain⟨v1,ev1,hv1⟩:=yx (ay.same s4 hs1) j3;have i0:((j0::jl).map λj:Nat=>V.int j)[0]?=some (.int j0):=rfl;refine⟨_,rfl,_,rfl,lK (b:=true) (i:=0) (bE.of gD) i0 (lK (bY.same s4 hx0) ev0 ⟨_,rfl,_,rfl,lK (b:=true) (i:=0) (bE.of gD) i0 (lK (bY.same s4 hx1) ev1 ?_)⟩)⟩;refine⟨v0,v1,_,_,rfl,hv0,hv1,(yP b0 j3).mono (by decide),(yP b1 j3).mono (by decide),true,nN jlt,bI ⟨⟨_,_,_,_,rfl⟩,Z3⟩⟩
   ·rintro σ H1 ⟨⟨o9,oa,ob,oc,rfl⟩,Z1⟩;refine⟨_,rfl,_,rfl,.ref g,gw,n,f,e,rfl,Z1.x.is hC,wt,n2,n3,Z1.go,be,Z1.x.tr,λH2 s2=>?_⟩;have Z2:=Z1.same s2;refine⟨_,rfl,by decide,λL1 hL1=>⟨_,.list [],aA.same (af.new hL1) Z2.td,aA.listN hL1 .nil,?_,rfl,_,_,rfl,true,?_,bI ⟨⟨_,_,_,_,_,_,_,_,rfl⟩,(Z2.same (af.new hL1)).x⟩⟩⟩
    ·obtain⟨l1,l2⟩:=oC cs;exact vW l1 l2
    ·refine NE V.bl (Lj ?_);have ee:(cs.map (·.1)).isEmpty=(gf n f e (bD n)).isEmpty:=by
      rw[Sx,List.isEmpty_iff,List.isEmpty_iff,Qm,Qm];exact⟨λh x hx=>h x ((mem x).mpr hx),λh x hx=>h x ((mem x).mp hx)⟩
     rw[<- ee];cases cs with
     |nil=>rfl
     |cons p cs=>rfl
  ·rintro σ H1 ⟨⟨o4,o5,o6,o7,o8,o9,oa,ob,rfl⟩,X1⟩;refine⟨_,rfl,_,_,_,true,rfl,.bl fl,(show eQ "bool" "bool"=some true by decide +kernel),?_⟩;exact q _
end
structure JF (K:HD):Prop where
 xf:Lv K Lf "abs"=some none
 x7:Lv K Lf "all"=some none
 xg:Lv K Lf "any"=some none
 x9:Lv K Lf "bool"=some none
 xh:Lv K Lf "dict"=some none
 xi:Lv K Lf "int"=some none
 x0:Lv K Lf "isinstance"=some none
 x2:Lv K Lf "len"=some none
 x6:Lv K Lf "list"=some none
 xj:Lv K Lf "max"=some none
 xb:Lv K Lf "min"=some none
 x4:Lv K Lf "range"=some none
 xr:Lv K Lf "set"=some none
 xk:Lv K Lf "sorted"=some none
 xs:Lv K Lf "str"=some none
 xc:Lv K Lf "sum"=some none
 x3:Lv K Lf "tuple"=some none
 x5:Lv K Lf "zip"=some none
structure Kp (K:HD):Prop where
 xn:∃ t,Lv K Lf "FEWEST_KNOTS"=some (some (.int 2 t))
 xo:∃ t,Lv K Lf "GREATEST_grids"=some (some (.int 1000 t))
 xd:∃ t,Lv K Lf "GREATEST_squares"=some (some (.int 4000 t))
 xp:∃ t,Lv K Lf "MOST_KNOTS"=some (some (.int 7 t))
 xe:∃ t,Lv K Lf "REACH"=some (some (.int 60 t))
structure Ks (K:HD):Prop where
 x1:j8 K "Grid" ["knots","table"]=true
 xq:JY K "Grid"=true
structure RawD (K:HD):Prop where
 xt:AtD K "is_whole" kG
 xu:AtD K "is_whole_within" dU
 xv:AtD K "is_tuple_within" dF
 xw:AtD K "greatest_measure" dw
 xx:AtD K "is_share" kc
 xy:AtD K "refuse_no_share" dM
 xz:AtD K "added" tY
 x10:AtD K "multiplied" iC
 x11:AtD K "floor_of" kJ
 x12:AtD K "is_less" lN
 x13:AtD K "is_within" iT
 x14:AtD K "over_one_below" eA
 x15:AtD K "is_colour" iV
 x16:AtD K "is_row" pA
 x17:AtD K "is_square" jo
 x18:AtD K "refuse_no_square" dA
 x19:AtD K "refuse_no_colour" dn
 x1a:AtD K "crossed" mr
 xl:AtD K "whole_sum" jt
 x1b:AtD K "volume" oW
 x1c:AtD K "is_knots" j6
 x1d:AtD K "is_knot" mn
 x1e:AtD K "is_worth" kq
 x1f:AtD K "apart" tG
 x1g:AtD K "is_table" kK
 x1h:AtD K "refuse_no_device_colour" b8
 x1i:AtD K "places_below" f6
 x1j:AtD K "moved" tu
 x1k:AtD K "parts_by_eight" eC
 x1l:AtD K "is_way" pc
 x1q:AtD K "parts_of" j7
 x1r:AtD K "refuse_no_grid" eg
 x1s:AtD K "worths_along" fO
 x1t:AtD K "differences" gJ
 x1u:AtD K "distances" iX
 x1v:AtD K "is_in_part" iq
 x1w:AtD K "colour_at" jc
 x1x:AtD K "way_in_part" gQ
 x1y:AtD K "ways_back" jh
 x1z:AtD K "is_reached" iB
 x20:AtD K "is_flat" lX
 x21:AtD K "_law_town" iS
 x22:AtD K "_law_draw" iY
 x23:AtD K "_law_pick" jr
 x24:AtD K "_law_whole" iw
 x25:AtD K "_law_is" ma
 x26:AtD K "_law_low" j9
 x27:AtD K "_law_below" ig
 x28:AtD K "_law_share" ie
 x29:AtD K "_law_three" ia
 x2a:AtD K "_law_is_share" fj
 x2b:AtD K "_law_is_three" eW
 x2c:AtD K "_law_grid" i9
structure JR (K:HD):Prop where
 x1m:AtM K "Grid" "__init__" "Grid.__init__" dQ
 x1n:AtM K "Grid" "knot" "Grid.knot" gO
 x1o:AtM K "Grid" "size" "Grid.size" gH
 x1p:AtM K "Grid" "mixed" "Grid.mixed" fU
set_option autoImplicit true in
set_option relaxedAutoImplicit true in
theorem all_mk {l:SN}{w:LX}{K:HD}{h:Ng}{mg:Str->Option K9}{fa:Lg}{tA:List Lg} (X:K.In h) (G:h.Ns Lf mg) (hfa:mg "law"=some (.ref fa))
  (RN:JF K)
  (RG:Kp K)
  (RB:Ks K)
  (RD:RawD K)
  (RM:JR K)
  (lL:Lv K Lf "Grid"=some (some (.ref GR)))
  (nv:Lv K Lf "share"=some (some (.ref yU)))
  (nM:K.lookup yU=some ⟨Ig,HK,.func (LG "share" "share" (aR fv) (aI fv) (ag fv) (.ref Fg) Ir Ix Iq HM Bl IK),Jr⟩)
  (nJ:L8 K Bl "share"=true)
  (nT:LR K (.ref yU)=true)
  (nB:K.lookup Fg=some DE)
  (nX:DE.data=.seq #[.int 1 CS] Jx)
  (bR:Lv K Lf "parts_by_four"=some (some (.ref eZ)))
  (dh:K.lookup eZ=some ⟨zt,AQ,.func (LG "parts_by_four" "parts_by_four" (aR b9) (aI b9) (ag b9) .none zL zV Av zX (.ref eE) zJ),A6⟩)
  (fh:L8 K (.ref eE) "parts_by_four"=true)
  (fb:LR K (.ref eZ)=true)
  (cU:K.lookup eE=some ⟨.type "code",zd,.fields mB,yR⟩)
  (cY:yy mB eE cD)
  (eJ:K.lookup cD=none)
  (d_:cD∈tA)
  (dS:LP K (.ref GR) "worth"=some (some (.ref fL)))
  (dH:K.lookup fL=some ⟨Bg,A8,.func (LG "worth" "Grid.worth" (aR bU) (aI bU) (ag bU) .none (.ref nr) A7 Bh A' m_ Bb),A9⟩)
  (dR:L8 K m_ "Grid.worth"=true)
  (dN:LR K (.ref fL)=true)
  (dE:Oh K (.ref fL)=true)
  (eY:K.lookup nr=some ⟨.type "dict",none,.dict #[⟨AU,.str "way" A5,.str "four" mf⟩] zo,#[]⟩)
  (gT:Lv K Lf "rising"=some (some (.ref vD)))
  (lH:K.lookup vD=some ⟨Hy,Hv,.func (LG "rising" "rising" (aR gU) (aI gU) (ag gU) .none HE Hx Hw Hs (.ref lP) Hu),HF⟩)
  (pB:L8 K (.ref lP) "rising"=true)
  (oA:LR K (.ref vD)=true)
  (jx:K.lookup lP=some ⟨.type "code",Gd,.fields zR,FT⟩)
  (jF:yy zR lP hE)
  (lV:K.lookup hE=none)
  (l0:hE∈tA)
  (a_law:Lv K Lf "law"=some (some (.ref f_law)))
  (l_law:K.lookup f_law=some ⟨J6,JT,.func (LG "law" "law" (aR lC) (aI lC) (ag lC) .none Hr G5 GO G2 Ds G4),JL⟩)
  (c_law:L8 K Ds "law"=true)
  (k_law:LR K (.ref f_law)=true)
  (eB:Lv K Lf "parts_by_eight"=some (some (.ref lO)))
  (t6:Lv K Lf "WAYS"=some (some (.ref xQ)))
  (rN:K.lookup xQ=some ⟨.type "dict",none,.dict si E_,#[]⟩)
  (t_:U6 w.params si.toList)
  (ue:Ra (λ(e:M0) (p:Str×Lg)=>∃ t,e.key=.str p.1 t/\e.val=.ref p.2) si.toList [("four",eZ),("eight",lO)])
  (sN:(xQ==MJ)=false)
  (z_k_ORDERS:Lv K Lf "ORDERS"=some (some (.ref TA_ORDERS)))
  (lM:K.lookup TA_ORDERS=some oTA_ORDERS)
  (lS:oTA_ORDERS.cls=.type "tuple"/\oTA_ORDERS.data=.seq iTA_ORDERS nTA_ORDERS/\iTA_ORDERS.size<=Ly/\aF [.ref TA_ORDERS_0,.ref TA_ORDERS_1,.ref TA_ORDERS_2,.ref TA_ORDERS_3,.ref TA_ORDERS_4,.ref TA_ORDERS_5] iTA_ORDERS.toList)
  (kt_ORDERS_0:K.lookup TA_ORDERS_0=some oTA_ORDERS_0)
  (ku_ORDERS_0:oTA_ORDERS_0.cls=.type "tuple"/\oTA_ORDERS_0.data=.seq iTA_ORDERS_0 nTA_ORDERS_0/\iTA_ORDERS_0.size<=Ly/\aF ([0,1,2].map V.int) iTA_ORDERS_0.toList)
  (kt_ORDERS_1:K.lookup TA_ORDERS_1=some oTA_ORDERS_1)
  (ku_ORDERS_1:oTA_ORDERS_1.cls=.type "tuple"/\oTA_ORDERS_1.data=.seq iTA_ORDERS_1 nTA_ORDERS_1/\iTA_ORDERS_1.size<=Ly/\aF ([0,2,1].map V.int) iTA_ORDERS_1.toList)
  (kt_ORDERS_2:K.lookup TA_ORDERS_2=some oTA_ORDERS_2)
  (ku_ORDERS_2:oTA_ORDERS_2.cls=.type "tuple"/\oTA_ORDERS_2.data=.seq iTA_ORDERS_2 nTA_ORDERS_2/\iTA_ORDERS_2.size<=Ly/\aF ([1,0,2].map V.int) iTA_ORDERS_2.toList)
  (kt_ORDERS_3:K.lookup TA_ORDERS_3=some oTA_ORDERS_3)
  (ku_ORDERS_3:oTA_ORDERS_3.cls=.type "tuple"/\oTA_ORDERS_3.data=.seq iTA_ORDERS_3 nTA_ORDERS_3/\iTA_ORDERS_3.size<=Ly/\aF ([1,2,0].map V.int) iTA_ORDERS_3.toList)
  (kt_ORDERS_4:K.lookup TA_ORDERS_4=some oTA_ORDERS_4)
  (ku_ORDERS_4:oTA_ORDERS_4.cls=.type "tuple"/\oTA_ORDERS_4.data=.seq iTA_ORDERS_4 nTA_ORDERS_4/\iTA_ORDERS_4.size<=Ly/\aF ([2,0,1].map V.int) iTA_ORDERS_4.toList)
  (kt_ORDERS_5:K.lookup TA_ORDERS_5=some oTA_ORDERS_5)
  (ku_ORDERS_5:oTA_ORDERS_5.cls=.type "tuple"/\oTA_ORDERS_5.data=.seq iTA_ORDERS_5 nTA_ORDERS_5/\iTA_ORDERS_5.size<=Ly/\aF ([2,1,0].map V.int) iTA_ORDERS_5.toList)
  (z_k_STEPS:Lv K Lf "STEPS"=some (some (.ref TA_STEPS)))
  (ou:K.lookup TA_STEPS=some oTA_STEPS)
  (oi:oTA_STEPS.cls=.type "tuple"/\oTA_STEPS.data=.seq iTA_STEPS nTA_STEPS/\iTA_STEPS.size<=Ly/\aF [.ref TA_STEPS_0,.ref TA_STEPS_1,.ref TA_STEPS_2] iTA_STEPS.toList)
  (kt_STEPS_0:K.lookup TA_STEPS_0=some oTA_STEPS_0)
  (ku_STEPS_0:oTA_STEPS_0.cls=.type "tuple"/\oTA_STEPS_0.data=.seq iTA_STEPS_0 nTA_STEPS_0/\iTA_STEPS_0.size<=Ly/\aF ([1,0,0].map V.int) iTA_STEPS_0.toList)
  (kt_STEPS_1:K.lookup TA_STEPS_1=some oTA_STEPS_1)
  (ku_STEPS_1:oTA_STEPS_1.cls=.type "tuple"/\oTA_STEPS_1.data=.seq iTA_STEPS_1 nTA_STEPS_1/\iTA_STEPS_1.size<=Ly/\aF ([0,1,0].map V.int) iTA_STEPS_1.toList)
  (kt_STEPS_2:K.lookup TA_STEPS_2=some oTA_STEPS_2)
  (ku_STEPS_2:oTA_STEPS_2.cls=.type "tuple"/\oTA_STEPS_2.data=.seq iTA_STEPS_2 nTA_STEPS_2/\iTA_STEPS_2.size<=Ly/\aF ([0,0,1].map V.int) iTA_STEPS_2.toList)
  (nd_:[cD,hE].Nodup)
  : ∃ (ts:List (Str×Lg)) (fd:MW),tH K tA ts/\(∀ (s:K_) (v:K9),Tu s fd ⟨[v],[]⟩ [("_law_script",v)])/\∀ base:Ng,K.In base->base.Ns Lf mg->iy l.prog w K mg base c5 10 fa fd uA4 (oH (ts.map (·.1)) K):=by
 have tabs:tH K tA [("parts_by_four",cD),("rising",hE)]:=⟨nd_,λp m=>by
  simp only[Ln,LF,Nd] at m;rcases m with rfl|rfl
  ·exact⟨d_,eJ,BE cU cY,Cf bR dh rfl rfl cU cY⟩
  ·exact⟨l0,lV,BE jx jF,Cf gT lH rfl rfl jx jF⟩⟩
 refine⟨[("parts_by_four",cD),("rising",hE)],LG "law" "law" (aR lC) (aI lC) (ag lC) .none Hr G5 GO G2 Ds G4,tabs,λs v=>.of_eq rfl,?_⟩;show ∀ base:Ng,K.In base->base.Ns Lf mg->iy l.prog w K mg base c5 10 fa _ uA4 (oH ["parts_by_four","rising"] K);have e:=hfa.symm.trans (Mh X G a_law);cases e;have Fi:c6 K mg "share" fv uA6 []:=yZ (ds:=[]) nM nJ nT (Mh X G nv) nB nX .nil λus hl=>match us,hl with|[_,_],_=>⟨_,rfl,rfl⟩
 have D_share_d:c6 K mg "share" fv uA6 [.int 1]:=yZ (ds:=[.int 1 CS]) nM nJ nT (Mh X G nv) nB nX (.cons ⟨_,rfl⟩ (.nil)) λus hl=>match us,(show us.length=1 by simpa using hl) with|[_],_=>⟨_,rfl,rfl⟩
 have nj:AG K mg "parts_by_four" b9 uA9:=⟨wO dh fh fb (Mh X G bR) λus hl=>match us,hl with|[_,_],_=>rfl,_,bR,Mh X G bR⟩
 have lg:pE K mg "Grid" "worth" "Grid.worth" bU uA8 [] 2 0 [.str "four"]:=Az (t:=mf) dH dR dN dE lL dS RB.x1 (Mh X G lL) eY λus ws h1 h2=>match us,h1,ws,h2 with|[_,_],_,[],_=>⟨_,_,rfl,rfl⟩
 have DA:pE K mg "Grid" "worth" "Grid.worth" bU uA8 ["way"] 2 1 []:=Co dH dR dN dE lL dS RB.x1 (Mh X G lL) λus ws h1 h2=>match us,h1,ws,h2 with|[_,_],_,[_],_=>rfl
 have CY:AG K mg "rising" gU ["colours"]:=⟨wO lH pB oA (Mh X G gT) λus hl=>match us,hl with|[_],_=>rfl,_,gT,Mh X G gT⟩
 have T:df K mg w:=⟨RB.x1,⟨xQ,Mh X G t6,⟨si,E_,rN,t_,uw ue (.cons ⟨rfl,Mh X G bR⟩ (.cons ⟨rfl,Mh X G eB⟩ (.nil)))⟩,sN⟩,Ib X G RG.xn,Ib X G RG.xo,Ib X G RG.xd,Ib X G RG.xp,Ib X G RG.xe,RB.xq,⟨_,Mh X G z_k_ORDERS,[TA_ORDERS_0,TA_ORDERS_1,TA_ORDERS_2,TA_ORDERS_3,TA_ORDERS_4,TA_ORDERS_5],jp lM lS,.cons (jp kt_ORDERS_0 ku_ORDERS_0) (.cons (jp kt_ORDERS_1 ku_ORDERS_1) (.cons (jp kt_ORDERS_2 ku_ORDERS_2) (.cons (jp kt_ORDERS_3 ku_ORDERS_3) (.cons (jp kt_ORDERS_4 ku_ORDERS_4) (.cons (jp kt_ORDERS_5 ku_ORDERS_5) (.nil))))))⟩,⟨_,Mh X G z_k_STEPS,[TA_STEPS_0,TA_STEPS_1,TA_STEPS_2],jp ou oi,.cons (jp kt_STEPS_0 ku_STEPS_0) (.cons (jp kt_STEPS_1 ku_STEPS_1) (.cons (jp kt_STEPS_2 ku_STEPS_2) (.nil)))⟩,LQ X G RN.xf,LQ X G RN.x7,LQ X G RN.xg,LQ X G RN.x9,LQ X G RN.xh,LQ X G RN.xi,LQ X G RN.x0,LQ X G RN.x2,LQ X G RN.x6,LQ X G RN.xj,LQ X G RN.xb,LQ X G RN.x4,LQ X G RN.xr,LQ X G RN.xk,LQ X G RN.xs,LQ X G RN.xc,LQ X G RN.x3,LQ X G RN.x5,RD.xt.d1 X G λ_ _ _ _ _ _ _=>rfl,RD.xu.d3 X G λ_ _ _ _ _ _ _ _ _=>rfl,RD.xv.d4 X G λ_ _ _ _ _ _ _ _ _ _=>rfl,RD.xw.d2 X G λ_ _ _ _ _ _ _ _=>rfl,RD.xx.d1 X G λ_ _ _ _ _ _ _=>rfl,RD.xy.d1 X G λ_ _ _ _ _ _ _=>rfl,Fi,D_share_d,RD.xz.d2 X G λ_ _ _ _ _ _ _ _=>rfl,RD.x10.d2 X G λ_ _ _ _ _ _ _ _=>rfl,RD.x11.d1 X G λ_ _ _ _ _ _ _=>rfl,RD.x12.d2 X G λ_ _ _ _ _ _ _ _=>rfl,RD.x13.d3 X G λ_ _ _ _ _ _ _ _ _=>rfl,RD.x14.d1 X G λ_ _ _ _ _ _ _=>rfl,RD.x15.d1 X G λ_ _ _ _ _ _ _=>rfl,RD.x16.d1 X G λ_ _ _ _ _ _ _=>rfl,RD.x17.d1 X G λ_ _ _ _ _ _ _=>rfl,RD.x18.d1 X G λ_ _ _ _ _ _ _=>rfl,RD.x19.d1 X G λ_ _ _ _ _ _ _=>rfl,RD.x1a.d2 X G λ_ _ _ _ _ _ _ _=>rfl,RD.xl.d2 X G λ_ _ _ _ _ _ _ _=>rfl,RD.x1b.d1 X G λ_ _ _ _ _ _ _=>rfl,RD.x1c.d1 X G λ_ _ _ _ _ _ _=>rfl,RD.x1d.d2 X G λ_ _ _ _ _ _ _ _=>rfl,RD.x1e.d1 X G λ_ _ _ _ _ _ _=>rfl,RD.x1f.d1 X G λ_ _ _ _ _ _ _=>rfl,RD.x1g.d2 X G λ_ _ _ _ _ _ _ _=>rfl,RD.x1h.d1 X G λ_ _ _ _ _ _ _=>rfl,RD.x1i.d1 X G λ_ _ _ _ _ _ _=>rfl,RD.x1j.d2 X G λ_ _ _ _ _ _ _ _=>rfl,nj,RD.x1k.d2 X G λ_ _ _ _ _ _ _ _=>rfl,RD.x1l.d1 X G λ_ _ _ _ _ _ _=>rfl,RM.x1m.d3 X G RB.x1 λ_ _ _ _ _ _ _ _ _=>rfl,RM.x1n.d2 X G RB.x1 λ_ _ _ _ _ _ _ _=>rfl,RM.x1o.d1 X G RB.x1 λ_ _ _ _ _ _ _=>rfl,RM.x1p.d3 X G RB.x1 λ_ _ _ _ _ _ _ _ _=>rfl,RD.x1q.d1 X G λ_ _ _ _ _ _ _=>rfl,lg,RD.x1r.d1 X G λ_ _ _ _ _ _ _=>rfl,RD.x1s.d3 X G λ_ _ _ _ _ _ _ _ _=>rfl,RD.x1t.d1 X G λ_ _ _ _ _ _ _=>rfl,RD.x1u.d4 X G λ_ _ _ _ _ _ _ _ _ _=>rfl,RD.x1v.d1 X G λ_ _ _ _ _ _ _=>rfl,RD.x1w.d4 X G λ_ _ _ _ _ _ _ _ _ _=>rfl,RD.x1x.d4 X G λ_ _ _ _ _ _ _ _ _ _=>rfl,CY,RD.x1y.d2 X G λ_ _ _ _ _ _ _ _=>rfl,RD.x1z.d2 X G λ_ _ _ _ _ _ _ _=>rfl,RD.x20.d1 X G λ_ _ _ _ _ _ _=>rfl,RD.x21.d1 X G λ_ _ _ _ _ _ _=>rfl,RD.x22.d2 X G λ_ _ _ _ _ _ _ _=>rfl,RD.x23.d2 X G λ_ _ _ _ _ _ _ _=>rfl,RD.x24.d1 X G λ_ _ _ _ _ _ _=>rfl,RD.x25.d2 X G λ_ _ _ _ _ _ _ _=>rfl,RD.x26.d2 X G λ_ _ _ _ _ _ _ _=>rfl,RD.x27.d2 X G λ_ _ _ _ _ _ _ _=>rfl,RD.x28.d2 X G λ_ _ _ _ _ _ _ _=>rfl,RD.x29.d2 X G λ_ _ _ _ _ _ _ _=>rfl,RD.x2a.d1 X G λ_ _ _ _ _ _ _=>rfl,RD.x2b.d1 X G λ_ _ _ _ _ _ _=>rfl,RD.x2c.d2 X G λ_ _ _ _ _ _ _ _=>rfl⟩
 intro base _ _;exact FS T (Gu (st:=lC) l_law c_law k_law)
theorem walk {l:SN}{qq:Lz}{loose:List Str}{XP:(Str->Option K9)->Ng->Prop}{YP:LX->Ng->Prop}{d:DefRec}{K:Params->HD} (hn:l.most=some 63) (hdf:d.params.defaults=[])
  {tA:List Lg}(hY:∀ (w:LX) (h:Ng),YP w h->(K w.params).In h)(hY2:∀ (w:LX) (h:Ng),YP w h->∀ P∈tA,h.get? P=some { cls:=.none,data:=.fields #[] })
  (F:∀ (w:LX) (mg:Str->Option K9) (fa:Lg) (h:Ng),(K w.params).In h->h.Ns Lf mg->mg d.name=some (.ref fa) ->
   ∃ (ts:List (Str×Lg)) (fd:MW),tH (K w.params) tA ts/\(∀ (s:K_) (u:K9),Tu s fd ⟨[u],[]⟩ [("_law_script",u)])/\∀ base:Ng,(K w.params).In base->base.Ns Lf mg->iy l.prog w (K w.params) mg base c5 10 fa fd uA4 (oH (ts.map (·.1)) (K w.params))) :
  PySem.W.WalkO qq loose XP YP l.row.toRowW d [] (λf vs=>Vh f vs):=
 CI (k:=10) (x:="_law_script") (CX:=λw=>c5) (sp:=oH) hn hdf ⟨rfl,by decide,by decide⟩ hY hY2 F (λ_ _ _ a ns hl hS hx=>⟨a,ns,rfl,hS,hl,hx,λ_=>rfl⟩) λ_ _ _ _ _ z=>z
end TR
structure PySem.W.Fast:Prop where (tw3112603072144796456 tw11665059760207674613 tw13725262870431332340 tw12382905374282373640 tw2205051967308521472 tw4470131592847770884 tw14899125927734072465 tw711698707347617050 tw3177276871115138944 tw14141468740097367828 tw1651853343947905808 tw15047943233183828893 tw6633794688566278716 tw18292482834318094619 tw9224982784486844608 tw14929814243693866169 tw443286500339798046 tw10355809473985358771 tw6616463792133365329 tw14133827015570344588 tw8909098821613551802 tw14082510342504573945 tw199994978292305791 tw9829673735457107829 tw6073994997111516964 tw13981096018650827950 tw11171049625903703701 tw11820330421224783709 tw14406671747629267370 tw545095105494139906 tw3557608778536556076 tw2741580026282237128 tw18347509809916396436 tw6520247856222797613 tw17087797254839710216 tw12374937683625678899 tw5932982576369226812 tw7754850728908942757 tw18130329377975357304 tw1452544345482807993 tw4259566381196845730 tw7270518948472727550 tw8523330717774503181 tw10359189027278021571 tw5579501169716722517 tw10839483977315247922 tw4354155016293284038 tw8506088660203990026 tw15482887474270575519 tw4918726933916247150 tw15941766155041469024 tw8097639319612412080 tw5964364132237588567 tw4306408662419962453 tw5768230554737790358 tw13549594381051878374 tw9401304635341647158 tw18146127485086830967 tw13489244247324744820 tw15003184395956979627 tw994926592264484576 tw15189178499438302173 tw15465284420015330212 tw1427936921024189539 tw16948647751943681964 tw14879377971566524143 tw793285577989727086 tw13172654561384641697 tw5019955437881204316 tw2521147283136850401 tw11669569906057154776 tw5008837185272829699 tw9595366781757246559 tw13522864211962527092 tw14257019422078508813 tw16851158975906061734 tw17294927329697170899 tw7551688234068100998 tw18438867746687054162 tw9067285645446891574 tw5025557457419005889 tw1200613911360757667 tw17975196092499786154 tw16179201723880584689 tw151901815063056965 tw18107975851790606014 tw8421484246530566929 tw6651611721766362515 tw958666487033356366 tw15735218804371011883 tw11151081543911601754 tw12281053168008626122 tw2285994650888789923 tw8366289731304478222 tw8119236882031613923 tw5060663208418248067 tw17450975229614194802 tw5868080401653123204 tw6085697213408883168 tw17320644194776450391 tw6164196849070512768 tw9095770253750977657 tw8898109715025060084 tw5696198160769383494 tw12243026300249641390 tw18359969068167852885 tw869312217927891818 tw9136109071965166098 tw6162016696635684808 tw8143028314120460743 tw8645735541559943842 tw6181701650491979913 tw2165711753565758249 tw8829464685826453565 tw12342578172270595272 tw6278618874124903685 tw7018520913770368076 tw4138730593993942231 tw13790643434531835893 tw13341502924105813865 tw14337679305023107828 tw10094044768980432647 tw14335504897065392935 tw16584434678281918806 tw13851110177205657415 tw16117050153403035027 tw2828705677371812688 tw579530561966838082 tw10469643603822971559 tw9954782727143169476 tw8296068561471348231 tw4817312153144021459 tw17589218326426907645 tw17665626286387300614 tw6856639402179772515 tw14299094599653136628 tw17408485164812308555 tw15710380009676533643 tw17692508158078180272 tw12632229492812781836 tw15838776035818676802 tw1512962500069391462 tw11052553489029147653 tw18000362256381397426 tw10148457290140235947 tw13896205407329452096 tw13243192032601359426 tw12869895196481672379 tw18147049622690010297 tw70172379344412319 tw3555512711965181901 tw17150930295714978750 tw10662445748337580591 tw2868002769176305021 tw3736425264063519300 tw8139201737691060837 tw2885963939417126309 tw128054513116294234 tw18158030233455449044 tw12551592757406537253 tw11494623486680881120 tw11063109662055097929 tw15727413682389892449 tw3698976957474340627 tw17514171341968457447 tw3117963119226945620 tw10338692104419536197 tw18240757082969507779 tw3377374356415029673 tw15263928933056225904 tw12653450871534126878 tw10502127622259488532 tw332764116766738477 tw7023037659483252218 tw3440738223822572295 tw14733443962361184491 tw7568967648716071548 tw14221174697809293405 tw9813354897675864364 tw7330042616392764121 tw16440305025744440987 tw9430131341889461672 tw9192179003685376653 tw15110968892470377029 tw12077867412885033989 tw8106843465417955517 tw9879517640927262965 tw1746345452937600633 tw17443481501278814657 tw2052408987906997506 tw6262892331606873748 tw17647947890548547370 tw11069333772976282507 tw4426653551542083519 tw12862456166298155359 tw15696359529082980313 tw5952845266118868208 tw921840933822169257 tw3807833017186596740 tw1558535720865973775 tw9666098639943650942 tw2876106847461207005 tw8530671521956472778 tw12120096212735614333 tw6725353505324801764 tw1466284185177037054 tw9534025158262627704 tw868374452819991045 tw11852296709877891940 tw275388514401571200 tw14552447557102082157 tw3287647762932065586 tw10602143952315109682 tw1064891273609220792 tw8240909069884612349 tw5331582389097871481 tw13957085283391136132 tw16390674422296451580 tw8516961604830729095 tw15423478239116077649 tw1539053597669474854 tw2935555787148155607 tw7320298206024498097 tw116277904040246912 tw7630930757718665767 tw4660469265077187450 tw9600890585394494474 tw1854846242190502323 tw4460258523736357982 tw9992157894987940389 tw3077918530282896176 tw15018618672191699670 tw8210279541618093541 tw17860393518553019954 tw2589434342599829758 tw3974953982557502363 tw14514270390709960203 tw17718482297325408320 tw16351470238914204272 tw14503040213315251054 tw8231165028307564697 tw11973000131006114460 tw15431092845451941291 tw1674064758935481035 tw11849662355167041432 tw16788325681854040388 tw4862999366114100719 tw4450011233360970632 tw16880941550615481010 tw1486489839576403703 tw15695203506720011079 tw15030943262768077285 tw8180765014815557698 tw11590946069158713311 tw15425476679252762613 tw12822193620135726329 tw14413804158519407964 tw7296434748652895648 tw12975642901112085933 tw13023807186306881403 tw1425058666650201834 tw11651743761509073829 tw7778741976912428417 tw7032869589318002341 tw9348485907469189242 tw13782218532046540101 tw5484694969740894710 tw10470310506482972958 tw17895447583635440474 tw18397340419112026878 tw13165001206474697295 tw14019477189868153505 tw11269280992415001197 tw1281005696559547655 tw11106950325926084563 tw7694398374355281661 tw6678971153662354873 tw18040005695085459600 tw15971870910741260985 tw4623995382922118805 tw6101293525619140880:True)
open PySem PySem.W PyProof.Rows
set_option maxRecDepth 100000 in
set_option maxHeartbeats 0 in
theorem PySem.Challenge.cw_tintroads_k13_whole_ways_back_holds : PySem.Challenge.rw_tintroads_k13_whole_ways_back.Holds := by
  w_on;o_law;k_head;(case hw=>w_witness2)
  k_fill
  refine TR.walk (l:=PySem.Challenge.rw_tintroads_k13_whole_ways_back) rfl rfl (fun w h Y=>PySem.W.km_in_of Y) (fun w h Y=>PySem.W.km_tabs_of Y) ?F
  case F=>
    intro w mg fa h KX G hmg
    refine' TR.all_mk KX G hmg ?RN ?RG ?RB ?RD ?RM ?lL ?nv ?nM ?nJ ?nT ?nB ?nX ?bR ?dh ?fh ?fb ?cU ?cY ?eJ ?d_ ?dS ?dH ?dR ?dN ?dE ?eY ?gT ?lH ?pB ?oA ?jx ?jF ?lV ?l0 ?a_law ?l_law ?c_law ?k_law ?eB ?t6 ?rN ?t_ ?ue ?sN ?z_k_ORDERS ?lM ?lS ?kt_ORDERS_0 ?ku_ORDERS_0 ?kt_ORDERS_1 ?ku_ORDERS_1 ?kt_ORDERS_2 ?ku_ORDERS_2 ?kt_ORDERS_3 ?ku_ORDERS_3 ?kt_ORDERS_4 ?ku_ORDERS_4 ?kt_ORDERS_5 ?ku_ORDERS_5 ?z_k_STEPS ?ou ?oi ?kt_STEPS_0 ?ku_STEPS_0 ?kt_STEPS_1 ?ku_STEPS_1 ?kt_STEPS_2 ?ku_STEPS_2 ?nd_
    (case RN=>constructor <;> k_is)
    (case RG=>constructor <;> (refine' TR.gOf ?a;(case a=>k_is)))
    (case RB=>constructor <;> kernel_rfl)
    (case RD=>constructor <;> (refine' TR.AtD.of ?a ?b ?c ?d;(case a=>k_is);(case b=>k_is);(case c=>k_is);(case d=>k_is)))
    (case RM=>constructor <;> (refine' TR.AtM.of ?a ?b ?c ?d ?e ?f;(case a=>k_is);(case b=>k_is);(case c=>k_is);(case d=>k_is);(case e=>k_is);(case f=>k_is)))
    (case lL=>k_is)
    (case nv=>k_is)
    (case nM=>k_is)
    (case nJ=>k_is)
    (case nT=>k_is)
    (case nB=>k_is)
    (case nX=>first | rfl | k_is)
    (case bR=>k_is)
    (case dh=>k_is)
    (case fh=>k_is)
    (case fb=>k_is)
    (case cU=>k_is)
    (case cY=>exact ⟨_,_,_,_,_,_,_,rfl,rfl,rfl,rfl,rfl,rfl,by decide⟩)
    (case eJ=>kernel_rfl)
    (case d_=>decide)
    (case eB=>k_is)
    (case dS=>k_is)
    (case dH=>k_is)
    (case dR=>k_is)
    (case dN=>k_is)
    (case dE=>k_is)
    (case eY=>k_is)
    (case gT=>k_is)
    (case lH=>k_is)
    (case pB=>k_is)
    (case oA=>k_is)
    (case jx=>k_is)
    (case jF=>exact ⟨_,_,_,_,_,_,_,rfl,rfl,rfl,rfl,rfl,rfl,by decide⟩)
    (case lV=>kernel_rfl)
    (case l0=>decide)
    (case a_law=>k_is)
    (case l_law=>k_is)
    (case c_law=>k_is)
    (case k_law=>k_is)
    (case t6=>k_is)
    (case rN=>k_is)
    (case t_=>first | exact ⟨⟨_,_,rfl,rfl⟩,⟨_,_,rfl,rfl⟩,trivial⟩ | (k_is;exact ⟨⟨_,_,rfl,rfl⟩,⟨_,_,rfl,rfl⟩,trivial⟩))
    (case ue=>exact .cons ⟨_,rfl,rfl⟩ (.cons ⟨_,rfl,rfl⟩ (.nil)))
    (case sN=>first | rfl | decide)
    (case z_k_ORDERS=>k_is)
    (case lM=>k_is)
    (case lS=>exact ⟨rfl,rfl,by decide,.cons rfl (.cons rfl (.cons rfl (.cons rfl (.cons rfl (.cons rfl (.nil))))))⟩)
    (case kt_ORDERS_0=>k_is)
    (case ku_ORDERS_0=>exact ⟨rfl,rfl,by decide,.cons ⟨_,rfl⟩ (.cons ⟨_,rfl⟩ (.cons ⟨_,rfl⟩ .nil))⟩)
    (case kt_ORDERS_1=>k_is)
    (case ku_ORDERS_1=>exact ⟨rfl,rfl,by decide,.cons ⟨_,rfl⟩ (.cons ⟨_,rfl⟩ (.cons ⟨_,rfl⟩ .nil))⟩)
    (case kt_ORDERS_2=>k_is)
    (case ku_ORDERS_2=>exact ⟨rfl,rfl,by decide,.cons ⟨_,rfl⟩ (.cons ⟨_,rfl⟩ (.cons ⟨_,rfl⟩ .nil))⟩)
    (case kt_ORDERS_3=>k_is)
    (case ku_ORDERS_3=>exact ⟨rfl,rfl,by decide,.cons ⟨_,rfl⟩ (.cons ⟨_,rfl⟩ (.cons ⟨_,rfl⟩ .nil))⟩)
    (case kt_ORDERS_4=>k_is)
    (case ku_ORDERS_4=>exact ⟨rfl,rfl,by decide,.cons ⟨_,rfl⟩ (.cons ⟨_,rfl⟩ (.cons ⟨_,rfl⟩ .nil))⟩)
    (case kt_ORDERS_5=>k_is)
    (case ku_ORDERS_5=>exact ⟨rfl,rfl,by decide,.cons ⟨_,rfl⟩ (.cons ⟨_,rfl⟩ (.cons ⟨_,rfl⟩ .nil))⟩)
    (case z_k_STEPS=>k_is)
    (case ou=>k_is)
    (case oi=>exact ⟨rfl,rfl,by decide,.cons rfl (.cons rfl (.cons rfl (.nil)))⟩)
    (case kt_STEPS_0=>k_is)
    (case ku_STEPS_0=>exact ⟨rfl,rfl,by decide,.cons ⟨_,rfl⟩ (.cons ⟨_,rfl⟩ (.cons ⟨_,rfl⟩ .nil))⟩)
    (case kt_STEPS_1=>k_is)
    (case ku_STEPS_1=>exact ⟨rfl,rfl,by decide,.cons ⟨_,rfl⟩ (.cons ⟨_,rfl⟩ (.cons ⟨_,rfl⟩ .nil))⟩)
    (case kt_STEPS_2=>k_is)
    (case ku_STEPS_2=>exact ⟨rfl,rfl,by decide,.cons ⟨_,rfl⟩ (.cons ⟨_,rfl⟩ (.cons ⟨_,rfl⟩ .nil))⟩)
    (case nd_=>decide)
#print axioms PySem.Challenge.cw_tintroads_k13_whole_ways_back_holds
