import PyProof.Rows.All
import Wide.All
import OpenK.AllK
import Wide.FinOn
import Lean
import PyProof.EqAt
import PyProof.EqKinds
import PyProof.TupleCall
import KE.KTryMore
import PyProof.ExcAttrAll.ValueError
import PyProof.NsDelKeeps
import KE.KDictOf
import KE.KPairComp
import KE.KSortKey
import KE.KLam
import KE.KRevSl
import PyProof.ListRange
import KE.KSortTup
import KE.KDictSum
import KE.KIntText
import PySem.Challenge.RW_tintroads_k28_whole_texts
open PySem renaming wpAny_bind->Gz,wpAny_pure->GD,Value->GH,Shared->GJ,wpAny->GW,sizeLine->GZ,mainGlobals->G4,Addr->G7,starEach->G9,model->Hl,wpAny_mono->Hm,Program->Hv,wpAny_newObj_type->Ig,wpAny_holding->Ij,PyData->Il,wpAny_callSpecial?_slot->Iy,wpAny_call_entry->IF,bootBuiltins->IM,World->IN,Around->IR,wpAny_field->IS,wpAny_setState_of->IU,wpAny_setField_rec->IZ,foldedSetIterable->Jc,wpAny_setField->Jd,sizeLine_eq->Ji,compareOp->Jo,wpAny_dictEntries->Jq,wpAny_standAt->Jr,wpAny_truthy_bool->JD,Expr->JG,Heap->JI,assignEach->JP,sysModules->JQ,rawInt->JV,mem_of_lookup->JZ,wpAny_pyIter_list->J7,wpAny_attempt->J_,wpAny_seqItems->Ka,codeAny_builtin->Ke,wpAny_typeNameOfWhole_itemiter->Kf,wpAny_Call_Name_kw->Kk,wpAny_comprehension_free->Kl,wpAny_typeNameOfWhole_keyiter->Ko,Builtin->Kp,bindArgs->Kr,letOwnedTupleGo->Kw,codeAny->Ky,eval->KH,firstArgMember->KL,wpAny_typeNameOf_itemiter->KM,FuncData->KN,codeAny_call_builtin->KQ,Stmt->K4,wpAny_passesOwn->K7,wpAny_typeNameOf_keyiter->K8,codeAny_mono->K9,intKind->Lg,backTo->Lh,wpAny_askSetting->Lj,wpAny_isInstance->Lk,compEnvC->Lu,wpAny_pyIter_tuple->Lv,DictEntry->Ly,Scope->LF,pyNext->LG,tupleKind->LH,wpAny_dictEpoch->LI,NameKind->LL,SetTable->LM,wpAny_rule->LN,newFunctionEnv->LX,wpAny_fieldsOf->LY,wpAny_of_eq->L_,call_meets->Md,typeIs_str->Me,wpAny_call->Mf,Comprehension->Mi,attributeBase->Mx,cellsFrom->Mz,wpAny_execs_nil->MA,wpAny_specialOf->MB,wpAny_isOneOf_itemiter->MF,IsItemIter->MK,builtinsNs->MS,sliceBounds->MT,wpAny_pyIter_slot->MU,noteFrame->M5,wpAny_notOrdered_dict->M6,wpAny_eqBool_int->M_,wpAny_setFlight_none->Nd,wpAny_updateSeq_pair->Nf,binaryOp->Ni,plainId_quiet->Nj,isInstance->Nl,Keyword->Np,pickOrder->NE,swapsWith->NF,intText?->N3,isSubtype_stop->N4,wpAny_newTuple->N5,size_glued->On,wpAny_assign_Name->Oo,frameOf->OB,behindInMarks->OC,wpAny_handled->OD,wpAny_letGo->OE,wpAny_newList->OF,wpAny_onRaise->OG,wpAny_throw->OH,IsPair->OL,codeAny_compStart_list->OU,wpAny_Call_method_late->OW,wpAny_pyNext_list_item->OX,codeAny_of_tree->Pn,pushCells_keeps->Po,size_of_entries->Pp,theTreesLotGoes->Pq,wpAny_with_toks->Pr,setEntries->Pu,setField->Pw,wpAny_load->Px,Paired->PP,pyIter->PQ,wpAny_runValue->PR,keywordEach->P7,newList->P8,setNext->P9,IsItemIterOut->Qc,Result->Ql,assignInOrder->Qs,relayAll->Qt,seqItems?->Qu,standAt->QL,typeLookup->QM,valueAt->QN,Within->QZ,bindName->Q_,compTurn->Ra,BindsTo->Rc,callerA->Ri,getItem->Rj,isTrue->Rk,newExc->Rl,IsZip->Rn,call->Rs
open PySem.W renaming Frag->GB,nsIn->Ho,findIn->Hw,fnOf->Ih,mg_none_of->Im,subIn->ID,keepIn->IK,codeIn->Jb,instObj->Jw,kitOne->Jx,emptyDict->JC,Looks->JM,mg_of->J',typeIn->Kt,looks_findIn->KP,clsIn->Lf,cellsFrom_some->Lp,callWith_K->Ls,plainGet->LZ,excIn->Mt,mroIn->Mu,hasDictIn->MO,specialIn->MP,InstAt->MX,isFn->M4,hideAll_none->Nc,hideAll->Nu,hideAll_get->Nv,isClsIn->Nw,makesIn->Nx,plainGet_of->Ny,takesIn->Nz,check_slot->NO,lookIn->N2,methodObj->Oi,plainOver->Oj,OpenLaw->Pc,kia_one->Pe,methodCall_KW->Pf,takerIn->Pg,looks_mroIn->P4,looks_subIn->P5,kitx_tuple->Qi,of_hideAll->Qj,kitx_dict->QF,kitx_list->QG,handedIn->Q5,kitMeta->Rg,exmOne->Ro
open PySem.Heap renaming get?_push_of_some->GC,lt_size->GI,get?_push_size->GL,get?_update_other->Hx,get?_update_self->HF,SameBut->IH,size_push->II,ExtBut->MI,size_update->OJ,IsTuple->O1,get?_none_of_le->PC,IsList->PX
open List renaming getElem?_eq_getElem->GF,length_map->GG,mem_cons_of_mem->GK,mem_append_right->GO,getElem?_map->GQ,mem_cons->GR,mem_of_getElem?->GS,getElem?_eq_some_iff->GU,mem_cons_self->GX,replicate->GY,mem_singleton->G5,map_cons->G_,size_toArray->Hi,not_mem_nil->Hq,mem_append->Hy,all_eq_true->Hz,mem_map->HH,length_cons->HR,length_take->Ib,getElem?_zip_eq_some->Ip,length_append->IB,take_of_length_le->IE,getElem_of_mem->IP,range->IQ,mem_filterMap->IV,getLast?_eq_getElem?->Ja,mem_append_left->Jf,mem_range->Ju,nodup_cons->Jv,map_append->JL,getElem?_append_right->JT,replicate_succ->JW,toArray->Kb,length_drop->Km,map_map->Ks,append_assoc->Ku,cons_append->KA,getElem_mem->KB,lookup_cons->KC,getElem?_drop->KD,getElem?_append_left->KJ,mem_of_getLast?->KO,find?_cons->KU,of_mem_zip->KW,all_cons->K_,pairwise_cons->Lr,lookup->LB,flatten_cons->LK,getD_eq_getElem?_getD->LO,pairwise_iff_getElem->LU,filterMap_cons->L8,getElem?_replicate->Mm,length_eq_zero_iff->Mn,length_nil->Mo,length_range->ML,mapM_cons->MV,all_map->M0,getElem?_eq_none->M1,getElem?_set_ne->Nb,flatMap_append->Nq,length_zip->Nr,range_succ->Nt,length_eraseIdx_of_lt->NI,getElem?_take->NL,map_nil->NM,drop_eq_getElem_cons->NY,getElem?_eq_none_iff->NZ,nodup_nil->N0,Nodup->Ob,ext_getElem?->Od,getElem?_take_of_lt->Oe,getElem_take->Of,take_sublist->Og,length->Ou,mem_flatMap->OM,take_length->ON,getElem?_set_self->OS,pairwise_lt_range->OT,append_nil->O5,forIn_cons->O6,getD->O7,length_replicate->O8,length_set->O9,length_singleton->O_,getElem?_of_mem->PD,mem_of_mem_take->PF,pairwise_append->PH,drop_zero->PM,forIn_nil->PN,length_pos_iff->PY,map_congr_left->PZ,range'->P0,any_cons->Qd,map_replicate->Qe,sum_cons->Qf,drop_sublist->Qy,getElem_drop->Qz,nodup_append->QA,push_toArray->QB,all_nil->QU,foldl->Rq
open Nat renaming le_refl->GM,le_trans->GV,lt_of_lt_of_le->G8,ne_of_lt->Hk,not_lt->H_,lt_irrefl->Ii,zero_le->Iz,ne_of_gt->JB,le_add_right->JR,lt_succ_self->JS,pow_le_pow_left->JX,le_of_lt->Kc,le_of_succ_le->KY,lt_succ_of_lt->KZ,toDigits->LC,pow_le_pow_right->LQ,lt_of_le_of_lt->Mp,add_le_add->MW,succ_mul->NN,mul_le_mul->N1,le_mul_of_pos_right->Ov,le_succ->Ow,add_comm->Pa,not_succ_le_self->PJ,lt_two_pow_self->P1,mul_le_mul_left->P2,toDigits_ne_nil->P3,mul_comm->QV,pow_succ->QW,sub_zero->QX,log2_lt->Rf
open Option.some renaming inj->GN
open Bool renaming and_eq_true->G6,false_ne_true->Hn,false_eq_true->Iv,true_and->IX,false_and->JH,and_true->LJ,or_eq_true->Mg,eq_false_iff->MG,and_false->NS,not_eq_true'->N6,beq_eq_decide_eq->OZ
open Option renaming map_eq_some_iff->Hj,isSome_iff_exists->K3,mem_toList->MN,isSome_some->Qg,getD_none->Q4
open PySem.Str renaming length_append->Hs,ofString->Iw,length->IT,join->Mw,empty->Qq,ext'->Q9
open PySem.Value renaming ref->Ht,none->Ia,type->Kj,int->LW,bool->Nk,isInt_shape->Om,str->Pm,float->Rh
open Array renaming length_toList->HD,getElem?_eq_some_iff->Iu,getElem?_toList->I_,getElem_toList->Je,toList_inj->Kz,getElem?_eq_getElem->LR,getElem?_eq_none->OP,getD->Ps,toList_push->Qw
open PySem.Obj renaming data_mapFields->Ic,mapFields->IC,isFreed_of_fields->IJ,mapSeq->JO,cls_mapFields->K0,data_mapDictKeys->PK,putSet->QD
open PySem.Heap.SameBut renaming update->Ik,refl->MJ
open PySem.F renaming plainAttrs_str->Iq,slot_str_join->Jl,type_str_join->Jm,slot_dict_itemiterator_next->Jy,slot_dict_keyiterator_next->JF,slot_str_split->Kv,slot_tuple_iterator_next->Kx,called_set->Lz,plain_list_iadd->LP,cmp_object->Mr,plainAttrs_list->Ms,type_str_split->ME,args_dict_itemiterator_next_1->MH,args_dict_keyiterator_next_1->MY,entry_dict_itemiterator_next->MZ,entry_dict_keyiterator_next->M7,args_tuple_iterator_next_1->Nh,entry_tuple_iterator_next->Nn,slot_zip_next->No,excBase_ValueError->NJ,args_str_split_2->NK,entry_str_split->N',plain_proto_collect->N_,slot_str_ne_refl->Oh,attr_ValueError->Ox,slot_dict_items->Oy,slot_list_count->Oz,slot_list_index->OA,slot_dict_iter->OI,slot_dict_items_iter->OR,slot_list_append->O0
open PySem.Builtin.Str renaming strSliceIndices->Ir,occurrences->Jp,strKind->K',partsBetween->Mb
open PySem.Builtin.SmallTypes renaming nextOf->Ix,ownedTupleIsFree->JA,ownedTupleHandOut->LS
open Int renaming toNat_natCast->IA,gcd->Jt,eq_ofNat_of_zero_le->JK,emod_lt_of_pos->Ki,mul_nonneg->KI,emod_nonneg->KR,mul_fdiv_cancel_left->KS,gcd_pos_of_ne_zero_right->Lq,toNat->LA,mul_comm->Mc,mul_assoc->Ml,fdiv_eq_ediv_of_nonneg->NH,eq_of_mul_eq_mul_left->NV,natAbs_mul->NW,mul_left_comm->Oa,le_of_lt->O2,natAbs_dvd_natAbs->O3,zero_add->O4,gcd_zero_right->Qb,gcd_comm->QS,zero_sub->QT,mul_neg->Re
open PySem.PyData renaming int->IG,bool->Le,str->Ll,eqv->QE
open PySem.SetTable renaming below->IL,grown->Lm,insertAt->Ol,advance->Q6
open PySem.Txt renaming split->IW,join->Kq,startswith->Ln,slice->LV,replace->P6
open PySem.NameKind renaming cell->Jg,free->Jz
open Ne renaming symm->Jj
open PyProof.Rows renaming callWith_type1->Jk,seqObj->K6,IntsAre->L7,callWith_builtin1->M2,get?_update_seq->NC,assignInOrder_cons->NQ,subscriptTail_builtinR->OV,AllBare->OY,subscriptTail->Qv,sortedHeap->QK
open PySem.Builtin.Dict_items renaming ownsTuple->JE,ownedTupleFields->L5,ownedTupleIsFree->L6,pairFromOwner->MC,newIterator->QP,dictOf->Rm
open ForInStep renaming yield->JJ
open PySem.Around renaming under_plainId->JN,under->QO
open PySem.W.KT renaming app_list->JY
open PySem.PassesOwn renaming never->Kd
open PySem.Calls renaming spliced_cons->Kg,Constant_str->Mh,callWith_builtin->MD,evalArgs_plain->Na,Name_function_global->NG,call_function_entry->NU,spliced_nil->N9
open False renaming elim->Kh
open PySem.StrLaws renaming glued_eq_join->KE,strSliceIndices_plain->M8,occ_length_le->Pk,sliced_plain->PL,join_split->Qr,subAt_one->QI,occ_head->Q7,subAt_eq->Q8,At->Ru
open PySem.Builtin.Dict renaming showsAll->Lw,entriesForEmpty->Ng,updateFrom->Oq,mergeDict->OQ,quietEq->Py
open PySem.Builtin.List renaming listExtendWith->Lx,listTooLong->Ma,listLengthHint->Nm,listSameRef->N8
open Rat renaming intCast_mul->LD,intCast_sub->NA,mul_lt_mul_of_pos_right->NB,den_intCast->Ph,num_intCast->Pj,intCast_nonneg->Qk
open PySem.Shared renaming heap->L',TypeIs->Qp
open PyProof.Rows.F renaming plain_set_update_loop->Mj,entry_set_update_loop->Ot
open PySem.Paired renaming length->Mq
open PySem.NumText renaming AllDigits->MM,digitsVal->QC
open PySem.SetTable.below renaming go->MQ
open PySem.W.KIN renaming signs_num->M3
open Sum renaming inl->M',inr->QJ
open PySem.SeqAt renaming shaped->NP
open PySem.Builtin.ObjectAttr renaming bindTo->NT,dataDescriptor?->P_,takesStores->QQ,getOf->Rp,find->Rv
open List.Perm renaming refl->NX
open PySem.Builtin.Frozenset renaming sizeOf->N7
open List.Pairwise renaming nil->Oc
open PySem.Builtin.Getset_descriptor renaming descrCheckInstance->Op,descrNameAndClass->Os,descrGetter->Pz,descrGet->P'
open PySem.W.Looks renaming ld->OO,andThen->Pb
open PySem.Builtin.Int renaming intBits->PU
open PySem.EntryCells renaming newEntry->PV
open PySem.Code renaming quiet_builtin->Qa,isFrame->QR
open PySem.W.KF renaming slot_gs->Qh
open PySem.ScopeKind renaming function->Qm
open PySem.SeqAt.EqAt renaming int_str->Qn,str_int->Qo
open PySem.Heap.IsTuple renaming push->Qx
open PySem.SetTable.probe renaming go->QH
open Or renaming inr->QY,inl->Rr
open PySem.Sem renaming wp_bind'->Q0
open PySem.pickOrder renaming go->Q1
open PySem.Heap.IsList renaming push->Q2
open And renaming intro->Rb
open PyProof.Rows.SortSt renaming mk'->Rt
open Function renaming comp->Rx
open PySem.Value.ref renaming inj->Ry
abbrev GP:=@decide_eq_true
abbrev Hr:=@decide_eq_false
abbrev Hu:=@if_neg
abbrev Ie:=@if_pos
abbrev Io:=@decide_eq_true_eq
abbrev IY:=@of_decide_eq_true
abbrev Jh:=@beq_iff_eq
abbrev Jn:=@beq_eq_false_iff_ne
abbrev Js:=@or_false
abbrev JU:=@if_false
abbrev KG:=@congrArg
abbrev K5:=@if_true
abbrev L4:=@beq_self_eq_true
abbrev MR:=@bne_self_eq_false
abbrev ND:=@ne_true_of_eq_false
abbrev NR:=@of_decide_eq_false
set_option autoImplicit true
set_option relaxedAutoImplicit true
set_option Elab.async false
set_option linter.all false
set_option maxRecDepth 100000
namespace L2
open PySem PySem.Spec PyProof.Rows
abbrev cS:=Sum Int Str
def oA:cS->GH->Bool
 |.inl k,v=>Value.isInt k v
 |.inr x,v=>Value.isStrOf x v
def FY (w:IN):cS->Int
 |.inl k=>hashInt k
 |.inr x=>hashStr w x
theorem bE:∀ {k:cS}{v:GH},oA k v=true->(∃ i t,k=M' i/\v=LW i t)\/(∃ x t,k=QJ x/\v=Pm x t)
 |.inl i,v,h=>by
  obtain⟨t,e⟩:=Om (k:=i) (v:=v) h;exact .inl ⟨i,t,rfl,e⟩
 |.inr x,v,h=>by
  obtain⟨t,e⟩:=Value.isStrOf_shape (x:=x) (v:=v) h;exact .inr ⟨x,t,rfl,e⟩
theorem vp (i:Int)(t:Tok):oA (.inl i) (.int i t)=true:=by simp[oA,Value.isInt]
theorem vj (x:Str)(t:Tok):oA (.inr x) (.str x t)=true:=by simp[oA,Value.isStrOf]
theorem Dd (a b:Int):decide ((M' a:cS)=M' b)=(a==b):=by
 by_cases e:a=b
 ·subst e;simp
 ·have h:¬ (M' a:cS)=M' b:=λq=>e (Sum.inl.inj q)
  rw[Hr h];exact(Jn.mpr e).symm
theorem CH (a b:Str):decide ((QJ a:cS)=QJ b)=decide (a=b):=by
 by_cases e:a=b
 ·subst e;simp
 ·have h:¬ (QJ a:cS)=QJ b:=λq=>e (Sum.inr.inj q)
  rw[Hr h,Hr e]
theorem Co (a:Int)(b:Str):decide ((M' a:cS)=QJ b)=false:=Hr (λq=>nomatch q)
theorem Ca (a:Str)(b:Int):decide ((QJ a:cS)=M' b)=false:=Hr (λq=>nomatch q)
def bi (prog:Hv)(w:IN):PySem.KeyKind prog w cS where
 is:=oA
 hash:=FY w
 inj:=λv a b ha hb=>by
  rcases bE ha with ⟨i,t,rfl,rfl⟩|⟨x,t,rfl,rfl⟩
  ·rcases bE hb with ⟨j,u,rfl,e⟩|⟨y,u,rfl,e⟩
   ·injection e with e1 _;rw[e1]
   ·exact nomatch e
  ·rcases bE hb with ⟨j,u,rfl,e⟩|⟨y,u,rfl,e⟩
   ·exact nomatch e
   ·injection e with e1 _;rw[e1]
 byValue:=λk v h=>by
  rcases bE h with ⟨i,t,rfl,rfl⟩|⟨x,t,rfl,rfl⟩<;>rfl
 pyHash:=λhv h=>by
  rcases bE hv with ⟨i,t,rfl,rfl⟩|⟨x,t,rfl,rfl⟩
  ·exact wpAny_pyHash_int h
  ·exact wpAny_pyHash_str h
 eqBool:=λhu hv h=>by
  rcases bE hu with ⟨i,t,rfl,rfl⟩|⟨x,t,rfl,rfl⟩
  ·rcases bE hv with ⟨j,u,rfl,rfl⟩|⟨y,u,rfl,rfl⟩
   ·rw[Dd] at h;exact M_ h
   ·rw[Co] at h;exact Qn i t y u _ _ _ _ h
  ·rcases bE hv with ⟨j,u,rfl,rfl⟩|⟨y,u,rfl,rfl⟩
   ·rw[Ca] at h;exact Qo x t j u _ _ _ _ h
   ·rw[CH] at h;exact wpAny_eqBool_str h
 «strs»:=λk x t v h=>by
  rcases bE h with ⟨i,u,rfl,e⟩|⟨y,u,rfl,e⟩
  ·exact nomatch e
  ·injection e with e1 _
   subst e1;cases v<;>rfl
theorem rW (prog:Hv)(w:IN)(i:Int)(t:Tok):(bi prog w).is (.inl i) (.int i t)=true:=vp i t
theorem rB (prog:Hv)(w:IN)(x:Str)(t:Tok):(bi prog w).is (.inr x) (.str x t)=true:=vj x t
inductive V where
 |non|bl (b:Bool)|int (i:Int)|str (x:Str)|byt (b:Array UInt8)|flt (b:UInt64)|ref (a:G7)|ty (n:String)
 deriving DecidableEq
def RelV:V->GH->Prop
 |.non,u=>u=Ia
 |.bl b,u=>u=Nk b
 |.int i,u=>∃ t,u=LW i t
 |.str x,u=>∃ t,u=Pm x t
 |.byt b,u=>∃ t,u=Value.bytes b t
 |.flt b,u=>∃ t,u=Rh b t
 |.ref a,u=>u=Ht a
 |.ty n,u=>u=Kj n
abbrev aI:List V->List GH->Prop:=PP RelV
theorem aI.length (r:aI xs us):xs.length=us.length:=Mq r
theorem aI.get:∀ {xs:List V}{us:List GH}{i:Nat}{x:V},aI xs us->xs[i]?=some x->∃ u,us[i]?=some u/\RelV x u
 |_,_,_,_,.nil,e=>by simp at e
 |_,_,0,_,.cons r _,e=>by simp at e;subst e;exact⟨_,rfl,r⟩
 |_,_,i+1,x,.cons _ t,e=>by
  obtain⟨u,h1,h2⟩:=aI.get (i:=i) (x:=x) t (by simpa using e);exact⟨u,by simpa using h1,h2⟩
theorem aI.set (r:RelV x u):∀ {xs:List V}{us:List GH} (i:Nat),aI xs us->aI (xs.set i x) (us.set i u)
 |_,_,_,.nil=>.nil
 |_,_,0,.cons _ t=>.cons r t
 |_,_,i+1,.cons q t=>.cons q (aI.set r i t)
theorem aI.append:∀ {xs ys:List V}{us ws:List GH},aI xs us->aI ys ws->aI (xs++ys) (us++ws)
 |_,_,_,_,.nil,s=>s
 |_,_,_,_,.cons r t,s=>.cons r (aI.append t s)
theorem aI.take:∀ {xs:List V}{us:List GH} (n:Nat),aI xs us->aI (xs.take n) (us.take n)
 |_,_,0,_=>.nil
 |_,_,_+1,.nil=>.nil
 |_,_,n+1,.cons r t=>.cons r (aI.take n t)
theorem aI.drop:∀ {xs:List V}{us:List GH} (n:Nat),aI xs us->aI (xs.drop n) (us.drop n)
 |_,_,0,r=>r
 |_,_,_+1,.nil=>.nil
 |_,_,n+1,.cons _ t=>aI.drop n t
def ij:Option V->Option GH->Prop
 |some v,some u=>RelV v u
 |none,none=>True
 |_,_=>False
def KV {κ:Type}:List (κ×V)->List (κ×GH)->Prop:=PP λ(p:κ×V) (q:κ×GH)=>p.1=q.1/\RelV p.2 q.2
def kV:cS->V
 |.inl i=>.int i
 |.inr x=>.str x
inductive HO where
  |lst (xs:List V)
  |tup (xs:List V)
  |dK (kvs:List (cS×V))|dT (kvs:List (List cS×V))
  |set (S:Int->Bool) (n:Nat)
  |ins (C dx:G7) (fs:List (Str×V))
  |own (x:G7)
  |xd (fs:List (Str×V))
  |met (f x:G7)
  |rng (lo hi:Int)
  |frz (o:Obj) (u:HO)
  |tbl (ps:Array GH)
  |ext (φ:JI->Prop)
abbrev Hp:=G7->Option HO
def upd (H:Hp)(a:G7)(o:HO):Hp:=λb=>if b=a then some o else H b
theorem af:upd H a o a=some o:=by unfold upd;rw[Ie rfl]
theorem ap (h:b≠a):upd H a o b=H b:=by unfold upd;rw[Hu h]
theorem yT {H:Hp}{a b:G7}{o u:HO}(h:H a=some o)(h':H b=some u)(d:o≠u):a≠b:=by
 intro e;subst e;rw[h] at h';exact d (GN h')
theorem aV {H:Hp}{a b:G7}{o:HO}(h:H a=some o)(h':H b=none):a≠b:=by
 intro e;subst e;rw[h] at h';cases h'
section
variable (P:Hv)(w:IN)
def bc (H:Hp)(h:JI)(a:G7):HO->Prop
 |.lst xs=>xs.length<=GZ/\∃ (its:List GH) (n:Nat),aI xs its/\h.get? a=some { cls:=.type "list",data:=.seq its.toArray n }
 |.tup xs=>xs.length<=GZ/\∃ its:List GH,aI xs its/\IsTup h a its.toArray
 |.dK kvs=>kvs.length<=GZ/\(a==JQ)=false/\∃ vs,KV kvs vs/\h.DictOf (bi P w) a vs
 | .dT kvs=>kvs.length <= GZ/\(a == JQ)=false/\∃ xs:List (List cS × G7 × GH),
   PP (λ(p:List cS×V) (q:List cS×G7×GH)=>p.1=q.1/\H q.2.1=some (.tup (p.1.map kV))/\RelV p.2 q.2.2) kvs xs /\
   ∃ o es ep,h.get? a=some o/\o.ExactDict/\o.data=.dict es ep/\es.toList=xs.map (entryOfKey (LH (bi P w)))/\(xs.map (·.1)).Nodup
 |.set S n=>h.SetOf (Lg P w) a S n
 | .ins C dx fs=>H dx=some (.own a)/\fs.length <= 1000/\dx ≠ a/\h.get? a=some (Jw C dx) /\
   ∃ mA,h.Ns1 dx mA/\(∀ f,ij (fs.lookup f) (mA f))/\QZ mA (fs.map (·.1))
 |.own _=>∃ o,h.get? a=some o
 |.xd fs=>∃ mA,h.Ns1 a mA/\∀ f,ij (fs.lookup f) (mA f)
 |.rng lo hi=>∃ t u v,h.get? a=some { cls:=.type "range",data:=.fields #[.int lo t,.int hi u,.int 1 v] }
 |.frz o u=>h.get? a=some o/\bc H h a u
 |.tbl qs=>∃ ps:Array GH,h.get? a=some { cls:=.none,data:=.fields ps }/\TriplesOk ps.toList/\∃ (q:Str) (t:Nat),qs[0]?=some (.str q t)/\∀ pos cv,codeAmong pos ps.toList=some cv->∃ c o vs t',cv=.ref c/\H c=some (.own a)/\h.get? c=some o/\o.data=.fields vs/\vs[1]?=some (.str q t')
 |.met f x=>h.get? a=some (Oi (.ref f) (.ref x))
 |.ext φ=>φ h/\(∃ o,h.get? a=some o)/\∀ h1 h2:JI,φ h1->(∀ o,h1.get? a=some o->h2.get? a=some o)->φ h2
def il (H:Hp)(h:JI):Prop:=∀ a o,H a=some o->bc P w H h a o
end
section
variable {P:Hv}{w:IN}{H H':Hp}{h h':JI}{a:G7}{o:HO}
theorem bc.lt (x:bc P w H h a o):a<h.objs.size:=by
 cases o with
 |lst xs=>obtain⟨_,_,_,_,e⟩:=x;exact GI e
 |tup xs=>obtain⟨_,_,_,p⟩:=x;exact p.lt
 |dK kvs=>obtain⟨_,_,_,_,o,_,_,e,_⟩:=x;exact GI e
 |dT kvs=>obtain⟨_,_,_,_,o,_,_,e,_⟩:=x;exact GI e
 |set S n=>obtain⟨o,_,_,_,e,_⟩:=x;exact GI e
 |ins C dx fs=>obtain⟨_,_,_,e,_⟩:=x;exact GI e
 |own y=>obtain⟨_,e⟩:=x;exact GI e
 |xd fs=>obtain⟨_,⟨_,_,_,e,_⟩,_⟩:=x;exact GI e
 |rng lo hi=>obtain⟨_,_,_,e⟩:=x;exact GI e
 |frz ob u=>obtain⟨e,_⟩:=x;exact GI e
 |tbl qs=>obtain⟨_,e,_⟩:=x;exact GI e
 |met f y=>exact GI (show h.get? a=some _ from x)
 |ext φ=>obtain⟨_,⟨_,e⟩,_⟩:=x;exact GI e
theorem Paired.mapP:∀ {l₁:List α}{l₂:List β},PP F l₁ l₂->(∀ a b,F a b->G a b)->PP G l₁ l₂
 |_,_,.nil,_=>.nil
 |_,_,.cons r t,f=>.cons (f _ _ r) (Paired.mapP t f)
theorem bc.stay (x:bc P w H h a o) (k:∀ b u,(b=a\/H b=some (.own a))->h.get? b=some u->h'.get? b=some u)
  (ho:∀ b,H b=some (.own a)->H' b=some (.own a))(ht:∀ b xs,H b=some (.tup xs)->H' b=some (.tup xs)):bc P w H' h' a o:=by
 induction o with
 |lst xs=>obtain⟨z,its,n,r,e⟩:=x;exact⟨z,its,n,r,k _ _ (.inl rfl) e⟩
 |tup xs=>obtain⟨z,its,r,ob,e,c⟩:=x;exact⟨z,its,r,ob,k _ _ (.inl rfl) e,c⟩
 |dK kvs=>obtain⟨z,y,vs,r,ob,es,ep,e,c⟩:=x;exact⟨z,y,vs,r,ob,es,ep,k _ _ (.inl rfl) e,c⟩
 |dT kvs=>
  obtain⟨z,y,xs,r,ob,es,ep,e,c⟩:=x;exact⟨z,y,xs,Paired.mapP r λp q z=>⟨z.1,ht _ _ z.2.1,z.2.2⟩,ob,es,ep,k _ _ (.inl rfl) e,c⟩
 |set S n=>obtain⟨ob,es,ep,t,e,c⟩:=x;exact⟨ob,es,ep,t,k _ _ (.inl rfl) e,c⟩
 |ins C dx fs=>
  obtain⟨d,z,ne,e,mA,⟨od,es,ep,e2,c⟩,r⟩:=x;exact⟨ho _ d,z,ne,k _ _ (.inl rfl) e,mA,⟨od,es,ep,k _ _ (.inr d) e2,c⟩,r⟩
 |own y=>obtain⟨ob,e⟩:=x;exact⟨ob,k _ _ (.inl rfl) e⟩
 |xd fs=>obtain⟨mA,⟨od,es,ep,e,c⟩,r⟩:=x;exact⟨mA,⟨od,es,ep,k _ _ (.inl rfl) e,c⟩,r⟩
 |rng lo hi=>obtain⟨t,u,v,e⟩:=x;exact⟨t,u,v,k _ _ (.inl rfl) e⟩
 |frz ob u ih=>obtain⟨e,q⟩:=x;exact⟨k _ _ (.inl rfl) e,ih q⟩
 |tbl qs=>
  obtain⟨ps,e,tr,q,tq,e0,f⟩:=x;refine⟨ps,k _ _ (.inl rfl) e,tr,q,tq,e0,λpos cv z=>?_⟩;obtain⟨c,oc,vs,tc,z1,z2,z3,z4⟩:=f pos cv z;exact⟨c,oc,vs,tc,z1,ho _ z2,k _ _ (.inr z2) z3,z4⟩
 |met f y=>
  have e:h.get? a=some (Oi (.ref f) (.ref y)):=x;show h'.get? a=some (Oi (.ref f) (.ref y));exact k a _ (.inl rfl) e
 |ext φ=>obtain⟨p,⟨o,e⟩,st⟩:=x;exact⟨st _ _ p λo q=>k _ _ (.inl rfl) q,⟨o,k _ _ (.inl rfl) e⟩,st⟩
theorem il.lt (x:il P w H h)(e:H a=some o):a<h.objs.size:=(x a o e).lt
theorem il.fresh (x:il P w H h)(e:h.objs.size<=a):H a=none:=by
 cases q:H a with
 |none=>rfl
 |some u=>exact absurd (G8 (x.lt q) e) (Ii _)
theorem il.kept (x:il P w H h)(k:∀ b u,h.get? b=some u->h'.get? b=some u):il P w H h':=λa o e=>
 (x a o e).stay (λb u _ q=>k b u q) (λ_ q=>q) λ_ _ q=>q
theorem il.laid (x:il P w H h)(k:∀ b u,h.get? b=some u->h'.get? b=some u)(hp:h.objs.size<=a)(new:bc P w (upd H a o) h' a o):il P w (upd H a o) h':=λb u e=>by
 have hn:=x.fresh hp
 by_cases hb:b=a
 ·subst hb;rw[af] at e;cases e;exact new
 ·rw[ap hb] at e;exact(x b u e).stay (λc v _ q=>k c v q) (λc q=>by rw[ap (aV q hn)];exact q) λc xs q=>by rw[ap (aV q hn)];exact q
end
def Rd (H:Hp)(a:G7)(u:HO):Prop:=H a=some u\/∃ o,H a=some (.frz o u)
theorem Rd.ok (r:Rd H a u)(x:il P w H h):bc P w H h a u:=by
 rcases r with r|⟨o,r⟩
 ·exact x a u r
 ·obtain⟨_,q⟩:=x a _ r;exact q
def EG:Option HO->Prop
 |some (.lst _)=>True
 |some (.dK _)=>True
 |some (.dT _)=>True
 |some (.set _ _)=>True
 |some (.ins _ _ _)=>True
 |some (.ext _)=>True
 |_=>False
section
variable {P:Hv}{w:IN}{H:Hp}{h h':JI}{x e:G7}{o':HO}
theorem il.write (ok:il P w H h) (mu:EG (H x)) (he:e=x\/H e=some (.own x)) (k:∀ b u,b ≠ e->h.get? b=some u->h'.get? b=some u) (heo:∃ u,h'.get? e=some u)
  (new:bc P w (upd H x o') h' x o'):il P w (upd H x o') h':=λb u q=>by
 have nown:∀ c y,H c=some (.own y)->c≠x:=λc y r z=>by subst z;rw[r] at mu;exact mu
 have ntup:∀ c xs,H c=some (.tup xs)->c≠x:=λc xs r z=>by subst z;rw[r] at mu;exact mu
 by_cases hb:b=x
 ·subst hb;rw[af] at q;cases q;exact new
 ·rw[ap hb] at q
  by_cases hbe:b=e
  ·have q':H b=some (.own x):=by
    rcases he with z|z
    ·exact absurd (hbe.trans z) hb
    ·rw[hbe];exact z
   rw[q] at q';cases q';obtain⟨v,hv⟩:=heo;exact⟨v,by rw[hbe];exact hv⟩
  ·refine(ok b u q).stay (λc v hc r=>k c v ?_ r) (λc r=>by rw[ap (nown c b r)];exact r) λc xs r=>by rw[ap (ntup c xs r)];exact r
   rcases hc with rfl|hc
   ·exact hbe
   ·rintro rfl;rcases he with z|z
    ·exact nown c b hc z
    ·rw[hc] at z;cases z;exact hb rfl
end
structure Un (fs ex:List G7)(H H':Hp)(h h':JI):Prop where
 keep:∀ b o,h.get? b=some o->H b=none->b∉fs->b∉ex->h'.get? b=some o
 slot:∀ b o,h.get? b=some o->H b=none->b∈fs->b∉ex->∃ sl,h'.get? b=some { o with slots:=sl }
 free:∀ b o,h.get? b=some o->H b=none->b∉ex->H' b=none
 there:∀ b o,h.get? b=some o->b∉ex->∃ o',h'.get? b=some o'
 tups:∀ b xs,H b=some (.tup xs)->H' b=some (.tup xs)
 frzs:∀ b o u,H b=some (.frz o u)->H' b=some (.frz o u)
 tbls:∀ b ps,H b=some (.tbl ps)->∃ more,H' b=some (.tbl (ps++more))
section
variable {fs fs' ex ex':List G7}{H H1 H2:Hp}{h h1 h2 h':JI}{a x e:G7}{o:HO}
theorem Un.any (u:Un fs ex H H1 h h1)(q:h.get? b=some ob)(n:H b=none)(hx:b∉ex):∃ sl,h1.get? b=some { ob with slots:=sl }:=by
 by_cases hb:b∈fs
 ·exact u.slot b ob q n hb hx
 ·exact⟨ob.slots,u.keep b ob q n hb hx⟩
theorem Un.kept (k:∀ b u,h.get? b=some u->h'.get? b=some u):Un fs ex H H h h':=
 ⟨λb ob q _ _ _=>k b ob q,λb ob q _ _ _=>⟨ob.slots,k b ob q⟩,λ_ _ _ n _=>n,λb ob q _=>⟨ob,k b ob q⟩,λ_ _ q=>q,λ_ _ _ q=>q,λ_ ps q=>⟨#[],by rw[q];simp⟩⟩
theorem Un.refl:Un fs ex H H h h:=Un.kept λ_ _ q=>q
theorem Un.laid (k:∀ b u,h.get? b=some u->h'.get? b=some u)(hp:h.objs.size<=a)(hn:H a=none):Un fs ex H (upd H a o) h h' where
 keep:=λb u q _ _ _=>k b u q
 slot:=λb u q _ _ _=>⟨u.slots,k b u q⟩
 free:=λb u q n _=>by rw[ap (Hk (G8 (GI q) hp))];exact n
 there:=λb u q _=>⟨u,k b u q⟩
 tups:=λb xs q=>by rw[ap (aV q hn)];exact q
 frzs:=λb u xs q=>by rw[ap (aV q hn)];exact q
 tbls:=λb ps q=>⟨#[],by rw[ap (aV q hn),q];simp⟩
theorem Un.write (mu:EG (H x))(he:e=x\/H e=some (.own x))(k:∀ b u,b≠e->h.get? b=some u->h'.get? b=some u)(heo:∃ u,h'.get? e=some u):Un fs ex H (upd H x o) h h':=by
 have hx:∀ b,H b=none->b≠x:=λb n z=>by subst z;rw[n] at mu;exact mu
 have hb:∀ b,H b=none->b≠e:=λb n z=>by
  subst z;rcases he with r|r
  ·exact hx b n r
  ·rw[n] at r;cases r
 have hm:∀ b u,H b=some u->¬ EG (some u)->b≠x:=λb u q nm z=>by subst z;rw[q] at mu;exact nm mu
 refine⟨λb u q n _ _=>k b u (hb b n) q,λb u q n _ _=>⟨u.slots,k b u (hb b n) q⟩,λb u q n _=>by rw[ap (hx b n)];exact n,λb u q _=>?_,
  λb xs q=>by rw[ap (hm b _ q λz=>z)];exact q,λb u xs q=>by rw[ap (hm b _ q λz=>z)];exact q,λb ps q=>⟨#[],by rw[ap (hm b _ q λz=>z),q];simp⟩⟩
 by_cases hbe:b=e
 ·subst hbe;exact heo
 ·exact⟨u,k b u hbe q⟩
end
def EX (h:JI)(H:Hp):List G7:=(IQ h.objs.size).filter λa=>(H a).isSome
def rJ (h:JI)(H:Hp):JI:=Nu h (EX h H)
theorem v9 (h:JI)(H:Hp):(rJ h H).objs.size=h.objs.size:=PySem.W.hideAll_size _ _
theorem mi (e:h.get? b=some o)(n:H b=none):(rJ h H).get? b=some o:=
 Nv _ e λhm=>by
  have q:(H b).isSome=true:=(List.mem_filter.mp hm).2;rw[n] at q;simp at q
theorem zY (e:(rJ h H).get? b=some o):h.get? b=some o/\H b=none:=by
 have e':h.get? b=some o:=Qj (EX h H) e;refine⟨e',?_⟩;cases q:H b with
 |none=>rfl
 |some x=>
  have hm:b∈EX h H:=List.mem_filter.mpr ⟨Ju.mpr (GI e'),by simp[q]⟩;have z:(rJ h H).get? b=none:=Nc (EX h H) hm;rw[z] at e;cases e
def AX (g h:JI)(L:G7):List (G7×Obj):=(IQ h.objs.size).filterMap λa=>if a=L\/(g.get? a).isSome=true then none else(h.get? a).map λo=>(a,o)
def cR (g h:JI)(L d:G7):List (G7×Obj):=(AX g h L).filter λp=>decide (p.1≠d)
structure Mod (K:GB)(mg:Str->Option GH)(base:JI):Prop where
 kin:K.In base
 glob:base.Ns G4 mg
 blt:∃ mb,base.Ns MS mb/\∀ x:Str,x≠"__name__"->mb x=IM x
 nolimit:base.NoLimit
 bm:∃ bm o,mg "__builtins__"=some (.ref bm)/\bm≠MS/\base.get? bm=some o/\o.cls=.type "module"/\o.dict=some MS/\o.data=.plain
structure Cx where
 prog:Hv
 w:IN
 K:GB
 mg:Str->Option GH
 base:JI
 A:IR
 N:List Str
 s₀:GJ
 H₀:Hp
 env:Env
 outer:List Env
 stack:List Env
 ex:List G7
 fn:Str->Bool
 calm:Bool
 pn:List (G7×Obj)
 xe:GH->GJ->Prop
def dX (l:List Env):List G7:=l.filterMap (·.frame)
abbrev Cx.fs (X:Cx):List G7:=dX X.outer
def Cn (sc:LF)(x:Str):Prop:=sc.names.lookup x=some .local\/sc.names.lookup x=some .cell\/sc.names.lookup x=some .free
def C4 (sc:LF)(x:Str):Prop:=sc.names.lookup x=some .local\/sc.names.lookup x=some .cell
def F4 (env:Env)(h:JI)(m:Str->Option GH)(x:Str)(u:GH):Prop:=
 (env.kindOf x=some .local/\m x=some u)\/((env.kindOf x=some .cell\/env.kindOf x=some .free)/\∃ c,env.cells.lookup x=some c/\h.IsCell c (some u))
structure Cx.Ok (X:Cx):Prop where
 mod:Mod X.K X.mg X.base
 kind:X.env.scope.kind=.function
 glob:X.env.globals=G4
 blt:X.env.builtins=MS
 above:X.s₀.heap.objs.size<=X.env.locals
 inj:∀ x y c,X.env.cells.lookup x=some c->X.env.cells.lookup y=some c->x=y
 has:∀ x,(X.env.kindOf x=some .cell\/X.env.kindOf x=some .free)->∃ c,X.env.cells.lookup x=some c
 cab:∀ x c,X.fn x=true->X.env.cells.lookup x=some c->X.s₀.heap.objs.size<=c
 hd:X.calm=true->X.A.handled=none
 frames:X.A.frames=some X.stack
 stk:X.stack=X.outer\/(X.stack=X.env::X.outer/\X.env.frame=some X.env.locals)
 exf:∀ b∈X.ex,b≠X.env.locals/\∀ x c,X.env.cells.lookup x=some c->c≠b
 bs:∀ b o,X.base.get? b=some o->X.s₀.heap.get? b=some o/\X.H₀ b=none
 bsz:X.base.objs.size<=X.s₀.heap.objs.size
 noex:∀ b o,X.base.get? b=some o->b∉X.ex
 exfs:∀ b∈X.ex,b∉X.fs
 funs:X.s₀.heap.FunFrames X.base X.outer
 frf:∀ b∈X.fs,X.H₀ b=none
structure aw (X:Cx)(pins:List (G7×Obj))(σ:List (Option V))(H:Hp)(s:GJ):Prop where
 ok:X.Ok
 os:s.os=X.s₀.os
 bare:OY s.gens
 base:Un X.fs X.ex X.H₀ H X.s₀.heap s.heap
 loc:∃ m,s.heap.Ns X.env.locals m/\∀ (i:Nat) (x:Str) (v:V),X.N[i]?=some x->σ[i]?=some (some v)->Cn X.env.scope x->∃ u,RelV v u/\F4 X.env s.heap m x u
 cell:∀ x c,X.env.cells.lookup x=some c->∃ v,s.heap.IsCell c v
 free:H X.env.locals=none
 freeC:∀ x c,X.env.cells.lookup x=some c->H c=none
 pin:∀ p∈X.pn++pins,s.heap.get? p.1=some p.2/\H p.1=none/\p.1≠X.env.locals/\p.1∉X.fs/\∀ v,p.2.data≠.cell v
 hok:il X.prog X.w H s.heap
 len:σ.length=X.N.length
section
variable {X:Cx}{pins:List (G7×Obj)}{σ:List (Option V)}{H H':Hp}{s:GJ}{h':JI}
theorem Cx.Ok.nofr (ok:X.Ok)(e:X.base.get? b=some o):b∉X.fs:=λhb=>by
 have:=(ok.funs.mem hb).1;rw[e] at this;cases this
theorem aw.bs (I:aw X pins σ H s):∀ b o,X.base.get? b=some o->s.heap.get? b=some o/\H b=none:=λb o e=>
 ⟨I.base.keep b o (I.ok.bs b o e).1 (I.ok.bs b o e).2 (I.ok.nofr e) (I.ok.noex b o e),I.base.free b o (I.ok.bs b o e).1 (I.ok.bs b o e).2 (I.ok.noex b o e)⟩
theorem aw.bk (I:aw X pins σ H s):∀ b o,X.base.get? b=some o->s.heap.get? b=some o:=λb o e=>(I.bs b o e).1
theorem aw.mod (I:aw X pins σ H s):Mod X.K X.mg X.base:=I.ok.mod
theorem aw.kIn (I:aw X pins σ H s):X.K.In s.heap:=I.ok.mod.kin.keeps I.bk
theorem aw.lt (I:aw X pins σ H s):X.env.locals<s.heap.objs.size:=let ⟨_,hn,_⟩:=I.loc;hn.lt
theorem aw.sz (I:aw X pins σ H s):X.s₀.heap.objs.size<=s.heap.objs.size:=GV I.ok.above (Kc I.lt)
theorem aw.nofs (I:aw X pins σ H s)(h:s.heap.objs.size<=a):a∉X.fs:=λhb=>by
 obtain⟨_,o,ho,_⟩:=I.ok.funs.mem hb;exact absurd (G8 (GI ho) (GV I.sz h)) (Ii _)
theorem aw.cne (I:aw X pins σ H s):∀ x c,X.env.cells.lookup x=some c->c≠X.env.locals:=λx c e z=>by
 obtain⟨v,o,ho,hd⟩:=I.cell x c e;obtain⟨m,⟨o',es,ep,ho',hd',_⟩,_⟩:=I.loc;rw[z,ho'] at ho;cases ho;rw[hd'] at hd;cases hd
theorem aw.funs (I:aw X pins σ H s):s.heap.FunFrames X.base X.outer:=by
 have all:∀ (l:List Env),(∀ b∈dX l,b∈X.fs)->X.s₀.heap.FunFrames X.base l->s.heap.FunFrames X.base l:=by
  intro l
  induction l with
  |nil=>intro _ _;trivial
  |cons env r ih=>
   intro hs hl;obtain⟨hk,⟨L,o,hf,hn,ho,hd⟩,hr⟩:=hl;have hL:L∈X.fs:=hs L (by unfold dX;rw[L8,hf];exact GX);obtain⟨sl,e⟩:=I.base.slot L o ho (I.ok.frf L hL) hL λz=>I.ok.exfs L z hL
   exact⟨hk,⟨L,_,hf,hn,e,hd⟩,ih (λb hb=>hs b (by unfold dX;rw[L8,hf];exact GK _ hb)) hr⟩
 exact all X.outer (λ_ hb=>hb) I.ok.funs
theorem aw.stack (I:aw X pins σ H s):s.heap.FunFrames X.base X.stack:=by
 rcases I.ok.stk with e|⟨e,hf⟩
 ·rw[e];exact I.funs
 ·rw[e];obtain⟨m,hn,_⟩:=I.loc;refine .cons (by rw[I.ok.kind];decide) hf hn ?_ I.funs;exact PC (GV I.ok.bsz I.ok.above)
theorem aw.stkSub (I:aw X pins σ H s):∀ b∈dX X.stack,b∈X.env.locals::X.fs:=λb hb=>by
 rcases I.ok.stk with e|⟨e,hf⟩
 ·rw[e] at hb;exact GK _ hb
 ·rw[e] at hb;unfold dX at hb;rw[L8,hf] at hb;exact hb
theorem aw.stkFree (I:aw X pins σ H s):∀ b∈dX X.stack,H b=none:=λb hb=>by
 rcases GR.mp (I.stkSub b hb) with e|hb
 ·rw[e];exact I.free
 ·obtain⟨_,o,ho,_⟩:=I.ok.funs.mem hb;exact I.base.free b o ho (I.ok.frf b hb) λz=>I.ok.exfs b z hb
theorem aw.step {g':Array GenState}{t':Nat}{d':Drawn}{ch:List G7} (I:aw X pins σ H s)
  (hch:∀ b∈ch,(b∈X.ex\/X.s₀.heap.objs.size<=b)/\b≠X.env.locals/\(∀ x c,X.env.cells.lookup x=some c->c≠b)/\∀ p∈X.pn++pins,p.1≠b)
  (keep:∀ b o,b≠X.env.locals->b∉X.fs->b∉ch->s.heap.get? b=some o->H b=none->h'.get? b=some o)
  (slot:∀ b o,b≠X.env.locals->b∈X.fs->b∉ch->s.heap.get? b=some o->H b=none->∃ sl,h'.get? b=some { o with slots:=sl })(free:∀ b o,b∉ch->s.heap.get? b=some o->H b=none->H' b=none)
  (there:∀ b o,b∉ch->s.heap.get? b=some o->∃ o',h'.get? b=some o')
  (tups:∀ b xs,H b=some (.tup xs)->H' b=some (.tup xs))(frzs:∀ b o u,H b=some (.frz o u)->H' b=some (.frz o u))(tbls:∀ b ps,H b=some (.tbl ps)->∃ more,H' b=some (.tbl (ps++more)))
  (ns:∀ m,s.heap.Ns X.env.locals m->h'.Ns X.env.locals m)(hok:il X.prog X.w H' h')(hg:OY g'):
  aw X pins σ H' { s with heap:=h',gens:=g',drawn:=d',toks:=t' }:=by
 have neL:∀ b o,X.s₀.heap.get? b=some o->b≠X.env.locals:=λb o e=>Hk (G8 (GI e) I.ok.above)
 have neC:∀ b o,X.s₀.heap.get? b=some o->b∉X.ex->b∉ch:=λb o e hx hb=>by
  rcases(hch b hb).1 with z|z
  ·exact hx z
  ·exact absurd (G8 (GI e) z) (Ii _)
 have cellK:∀ x c,X.env.cells.lookup x=some c->∀ v,s.heap.IsCell c v->h'.IsCell c v:=λx c e v ⟨o,ho,hd⟩=>by
  have nch:c∉ch:=λz=>(hch c z).2.2.1 x c e rfl
  by_cases hc:c∈X.fs
  ·obtain⟨sl,q⟩:=slot c o (I.cne x c e) hc nch ho (I.freeC x c e);exact⟨_,q,hd⟩
  ·exact⟨o,keep c o (I.cne x c e) hc nch ho (I.freeC x c e),hd⟩
 refine⟨I.ok,I.os,hg,⟨λb o e n hb hx=>?_,λb o e n hb hx=>?_,λb o e n hx=>?_,λb o e hx=>?_,λb xs e=>tups b xs (I.base.tups b xs e),λb o xs e=>frzs b o xs (I.base.frzs b o xs e),λb ps e=>?_⟩,?_,λx c e=>?_,?_,λx c e=>?_,λp hp=>?_,hok,I.len⟩
 ·exact keep b o (neL b o e) hb (neC b o e hx) (I.base.keep b o e n hb hx) (I.base.free b o e n hx)
 ·obtain⟨sl,e1⟩:=I.base.slot b o e n hb hx;obtain⟨sl',e2⟩:=slot b _ (neL b o e) hb (neC b o e hx) e1 (I.base.free b o e n hx);exact⟨sl',e2⟩
 ·obtain⟨o',e1⟩:=I.base.there b o e hx;exact free b o' (neC b o e hx) e1 (I.base.free b o e n hx)
 ·obtain⟨o',e1⟩:=I.base.there b o e hx;exact there b o' (neC b o e hx) e1
 ·obtain⟨m1,e1⟩:=I.base.tbls b ps e;obtain⟨m2,e2⟩:=tbls b _ e1;exact⟨m1++m2,by rw[e2,Array.append_assoc]⟩
 ·obtain⟨m,hn,hl⟩:=I.loc;refine⟨m,ns m hn,λi x v e1 e2 e3=>?_⟩;obtain⟨u,r,l⟩:=hl i x v e1 e2 e3;refine⟨u,r,?_⟩;rcases l with l|⟨k,c,e,z⟩
  ·exact .inl l
  ·exact .inr ⟨k,c,e,cellK x c e _ z⟩
 ·obtain⟨v,z⟩:=I.cell x c e;exact⟨v,cellK x c e v z⟩
 ·obtain⟨m,⟨o,_,_,ho,_⟩,_⟩:=I.loc;exact free _ o (λz=>(hch _ z).2.1 rfl) ho I.free
 ·obtain⟨v,o,ho,hd⟩:=I.cell x c e;exact free c o (λz=>(hch c z).2.2.1 x c e rfl) ho (I.freeC x c e)
 ·obtain⟨e,n,ne,nf,d⟩:=I.pin p hp;have nch:p.1∉ch:=λz=>(hch p.1 z).2.2.2 p hp rfl
  exact⟨keep p.1 p.2 ne nf nch e n,free p.1 p.2 nch e n,ne,nf,d⟩
theorem aw.un {t':Nat}(I:aw X pins σ H s)(u:Un X.fs [] H H' s.heap h')(hok:il X.prog X.w H' h'):aw X pins σ H' { s with heap:=h',toks:=t' }:=by
 obtain⟨m,⟨o,es,ep,ho,r⟩,_⟩:=id I.loc;obtain⟨sl,hL⟩:=u.any ho I.free (by simp);exact I.step (g':=s.gens) (d':=s.drawn) (ch:=[]) (λ_ z=>nomatch z) (λb o _ hb _ e n=>u.keep b o e n hb (by simp)) (λb o _ hb _ e n=>u.slot b o e n hb (by simp)) (λb o _ e n=>u.free b o e n (by simp)) (λb o _ e=>u.there b o e (by simp)) u.tups u.frzs u.tbls (λm' hm=>by
  obtain⟨o',es',ep',ho',r'⟩:=hm;rw[ho] at ho';cases ho';exact⟨_,es',ep',hL,r'⟩) hok I.bare
theorem aw.call {g':Array GenState}{t':Nat}{d':Drawn}{ch:List G7} (I:aw X pins σ H s) (u:Un (dX X.stack) ch H H' s.heap h') (hok:il X.prog X.w H' h') (hg:OY g')
  (hch:∀ b∈ch,(b∈X.ex\/X.s₀.heap.objs.size<=b)/\b≠X.env.locals/\(∀ x c,X.env.cells.lookup x=some c->c≠b)/\∀ p∈X.pn++pins,p.1≠b):
  aw X pins σ H' { s with heap:=h',gens:=g',drawn:=d',toks:=t' }:=by
 obtain⟨m,⟨o,es,ep,ho,r⟩,_⟩:=id I.loc;obtain⟨sl,hL⟩:=u.any ho I.free λz=>(hch _ z).2.1 rfl
 exact I.step (ch:=ch) hch (λb o hL hb hc e n=>u.keep b o e n (λz=>(GR.mp (I.stkSub b z)).elim hL hb) hc) (λb o _ _ hc e n=>u.any e n hc) (λb o hc e n=>u.free b o e n hc) (λb o hc e=>u.there b o e hc) u.tups u.frzs u.tbls (λm' hm=>by
  obtain⟨o',es',ep',ho',r'⟩:=hm;rw[ho] at ho';cases ho';exact⟨_,es',ep',hL,r'⟩) hok hg
theorem aw.turned {t':Nat}{it:G7} (I:aw X pins σ H s) (k:∀ b o,b ≠ it->s.heap.get? b=some o->h'.get? b=some o) (hn:H it=none) (hL:it ≠ X.env.locals)
  (h1:it∈X.ex\/X.s₀.heap.objs.size<=it)(h2:∀ x c,X.env.cells.lookup x=some c->c≠it)(h3:∀ p∈X.pn++pins,p.1≠it):aw X pins σ H { s with heap:=h',toks:=t' }:=by
 have nit:∀ b u,H b=some u->b≠it:=λb u e z=>by rw[z,hn] at e;cases e
 refine I.step (g':=s.gens) (d':=s.drawn) (ch:=[it]) (λb hb=>?_) (λb o _ _ hc e _=>k b o (λz=>hc (by simp[z])) e) (λb o _ _ hc e _=>⟨o.slots,k b o (λz=>hc (by simp[z])) e⟩) (λ_ _ _ _ n=>n)
  (λb o hc e=>⟨o,k b o (λz=>hc (by simp[z])) e⟩) (λ_ _ e=>e) (λ_ _ _ e=>e) (λb ps e=>⟨#[],by rw[e];simp⟩) (λm hm=>?_) (λb u e=>?_) I.bare
 ·have e:b=it:=by simpa using hb
  subst e;exact⟨h1,hL,h2,h3⟩
 ·obtain⟨o,es,ep,ho,r⟩:=hm;exact⟨o,es,ep,k _ o (Jj hL) ho,r⟩
 ·refine(I.hok b u e).stay (λc v hc q=>k c v ?_ q) (λ_ q=>q) λ_ _ q=>q
  rcases hc with z|z
  ·rw[z];exact nit b u e
  ·exact nit c _ z
theorem aw.tok (I:aw X pins σ H s)(t:Nat):aw X pins σ H { s with toks:=t }:=I.un (h':=s.heap) (t':=t) Un.refl I.hok
theorem aw.kept {t':Nat}(I:aw X pins σ H s)(k:∀ b u,s.heap.get? b=some u->h'.get? b=some u):aw X pins σ H { s with heap:=h',toks:=t' }:=I.un (Un.kept k) (I.hok.kept k)
theorem aw.laid {t':Nat} (I:aw X pins σ H s) (k:∀ b u,s.heap.get? b=some u->h'.get? b=some u) (hp:s.heap.objs.size <= a) (new:bc X.prog X.w (upd H a o) h' a o) :
  aw X pins σ (upd H a o) { s with heap:=h',toks:=t' }:=I.un (Un.laid k hp (I.hok.fresh hp)) (I.hok.laid k hp new)
theorem aw.write {t':Nat} (I:aw X pins σ H s) (mu:EG (H x)) (he:e=x\/H e=some (.own x)) (k:∀ b u,b ≠ e->s.heap.get? b=some u->h'.get? b=some u) (heo:∃ u,h'.get? e=some u)
  (new:bc X.prog X.w (upd H x o) h' x o):aw X pins σ (upd H x o) { s with heap:=h',toks:=t' }:=I.un (Un.write mu he k heo) (I.hok.write mu he k heo new)
theorem aw.pins_of (I:aw X pins σ H s)(h:∀ p∈pins',s.heap.get? p.1=some p.2/\H p.1=none/\p.1≠X.env.locals/\p.1∉X.fs/\∀ v,p.2.data≠.cell v):aw X pins' σ H s:=
 ⟨I.ok,I.os,I.bare,I.base,I.loc,I.cell,I.free,I.freeC,λp hp=>(Hy.mp hp).elim (λz=>I.pin p (Jf _ z)) (h p),I.hok,I.len⟩
theorem mC {N:List Str}(hN:N.Nodup){i j:Nat}{x:Str}(a:N[i]?=some x)(b:N[j]?=some x):i=j:=by
 obtain⟨h1,e1⟩:=GU.mp a;obtain⟨h2,e2⟩:=GU.mp b;exact(List.getElem_inj hN).mp (e1.trans e2.symm)
theorem j7 {M:Model}{A:IR}{E:GH->GJ->Prop}{i:Nat}{x:Str}{v:V}{u:GH}{Q:Unit->GJ->Prop} (I:aw X pins σ H s) (hN:X.N.Nodup) (hi:X.N[i]?=some x) (hx:C4 X.env.scope x) (r:RelV v u)
  (h:∀ s',aw X pins (σ.set i (some v)) H s'->(∃ a,IH a s.heap s'.heap/\(a=X.env.locals\/X.env.cells.lookup x=some a))->Q () s')(hf:X.fn x=true\/X.env.scope.names.lookup x=some .local:=by first|exact .inl rfl|exact .inr rfl|assumption):GW M A (storeName X.env x u) Q E s:=by
 obtain⟨m,hn,hl⟩:=id I.loc;have hcls:(X.env.scope.kind==.class||(X.env.scope.kind==.module&&X.env.locals != X.env.globals))=false:=by rw[I.ok.kind];rfl
 have hiσ:i<σ.length:=by rw[I.len];exact(GU.mp hi).1
 have cne:=I.cne;have tracked:∀ {a:G7}{h':JI},(∃ o,s.heap.get? a=some o/\H a=none)->IH a s.heap h'->il X.prog X.w H h':=λ{a h'} ha hs b ob e=>by
  obtain⟨_,_,hfree⟩:=ha;refine(I.hok b ob e).stay (λc w' hc q=>(hs.2 c ?_).trans q) (λ_ q=>q) λ_ _ q=>q
  rintro rfl;rcases hc with rfl|hc
  ·rw[hfree] at e;cases e
  ·rw[hfree] at hc;cases hc
 rcases hx with hk|hk
 ·refine wpAny_storeName_local hk hn (λh' hn' hs=>?_) hcls;obtain⟨oL,_,_,hoL,_⟩:=id hn;refine h _ ⟨I.ok,I.os,I.bare,⟨λb o e n hb hx=>?_,λb o e n hb hx=>?_,I.base.free,λb o e hx=>?_,I.base.tups,I.base.frzs,I.base.tbls⟩,⟨_,hn',λj y v' e1 e2 e3=>?_⟩,λy c e=>?_,I.free,I.freeC,λp hp=>?_,tracked ⟨oL,hoL,I.free⟩ hs,by simpa using I.len⟩ ⟨_,hs,.inl rfl⟩
  ·exact(hs.2 b (Hk (G8 (GI e) I.ok.above))).trans (I.base.keep b o e n hb hx)
  ·obtain⟨sl,e1⟩:=I.base.slot b o e n hb hx;exact⟨sl,(hs.2 b (Hk (G8 (GI e) I.ok.above))).trans e1⟩
  ·obtain⟨o',e1⟩:=I.base.there b o e hx;exact⟨o',(hs.2 b (Hk (G8 (GI e) I.ok.above))).trans e1⟩
  ·by_cases hj:j=i
   ·subst hj;rw[hi] at e1;cases e1;rw[OS hiσ] at e2;cases e2;exact⟨u,r,.inl ⟨hk,by simp⟩⟩
   ·rw[Nb (Jj hj)] at e2;obtain⟨u',r',q⟩:=hl j y v' e1 e2 e3;refine⟨u',r',?_⟩;rcases q with ⟨k,e⟩|⟨k,c,e,z⟩
    ·refine .inl ⟨k,?_⟩;have:y≠x:=λe=>hj (mC hN e1 (e▸hi))
     simp[this,e]
    ·exact .inr ⟨k,c,e,z.sameBut hs (cne y c e)⟩
  ·obtain⟨w',z⟩:=I.cell y c e;exact⟨w',z.sameBut hs (cne y c e)⟩
  ·obtain⟨e,n,ne,nf,d⟩:=I.pin p hp;exact⟨(hs.2 p.1 ne).trans e,n,ne,nf,d⟩
 ·have hfn:X.fn x=true:=by
   rcases hf with z|z
   ·exact z
   ·rw[z] at hk;cases hk
  obtain⟨c,hc⟩:=I.ok.has x (.inl hk);obtain⟨w',z⟩:=I.cell x c hc;refine wpAny_storeName_cell I.ok.kind hk hc z (λh' hc' hs=>?_);obtain⟨oc,hoc,hocd⟩:=id z;refine h { s with heap:=h' } ⟨I.ok,I.os,I.bare,⟨λb o e n hb hx=>?_,λb o e n hb hx=>?_,I.base.free,λb o e hx=>?_,I.base.tups,I.base.frzs,I.base.tbls⟩,⟨m,hn.sameBut hs (Jj (cne x c hc)),λj y v' e1 e2 e3=>?_⟩,λy c' e=>?_,I.free,I.freeC,λp hp=>?_,tracked ⟨oc,hoc,I.freeC x c hc⟩ hs,by simpa using I.len⟩ ⟨c,hs,.inr hc⟩
  ·exact(hs.2 b (Hk (G8 (GI e) (I.ok.cab x c hfn hc)))).trans (I.base.keep b o e n hb hx)
  ·obtain⟨sl,e1⟩:=I.base.slot b o e n hb hx;exact⟨sl,(hs.2 b (Hk (G8 (GI e) (I.ok.cab x c hfn hc)))).trans e1⟩
  ·obtain⟨o',e1⟩:=I.base.there b o e hx;exact⟨o',(hs.2 b (Hk (G8 (GI e) (I.ok.cab x c hfn hc)))).trans e1⟩
  ·by_cases hj:j=i
   ·subst hj;rw[hi] at e1;cases e1;rw[OS hiσ] at e2;cases e2;exact⟨u,r,.inr ⟨.inl hk,c,hc,hc'⟩⟩
   ·rw[Nb (Jj hj)] at e2;obtain⟨u',r',q⟩:=hl j y v' e1 e2 e3;refine⟨u',r',?_⟩;rcases q with q|⟨k,c',e,z'⟩
    ·exact .inl q
    ·refine .inr ⟨k,c',e,z'.sameBut hs ?_⟩;rintro rfl;exact hj (mC hN e1 (I.ok.inj _ _ _ e hc▸hi))
  ·by_cases hcc:c'=c
   ·subst hcc;exact⟨_,hc'⟩
   ·obtain⟨w2,z2⟩:=I.cell y c' e;exact⟨w2,z2.sameBut hs hcc⟩
  ·obtain⟨e,n,ne,nf,d⟩:=I.pin p hp;refine⟨(hs.2 p.1 ?_).trans e,n,ne,nf,d⟩;intro q;rw[q,hoc] at e;have q':oc=p.2:=GN e;exact d w' (by rw[<- q'];exact hocd)
theorem eW {i:Nat} (I:aw X pins σ H s) (hN:X.N.Nodup) (hi:X.N[i]?=some x) (hx:C4 X.env.scope x) (r:RelV v u)
  (h:∀ s',aw X pins (σ.set i (some v)) H s'->Q () s')(hf:X.fn x=true\/X.env.scope.names.lookup x=some .local:=by first|exact .inl rfl|exact .inr rfl|assumption):GW M A (storeName X.env x u) Q E s:=
 j7 I hN hi hx r (λs' I' _=>h s' I') hf
theorem aw.call' (I:aw X pins σ H s) (ho:s'.os=s.os) (u:Un (dX X.stack) ch H H' s.heap s'.heap) (hok:il X.prog X.w H' s'.heap) (hg:OY s'.gens)
  (hch:∀ b∈ch,(b∈X.ex\/X.s₀.heap.objs.size<=b)/\b≠X.env.locals/\(∀ x c,X.env.cells.lookup x=some c->c≠b)/\∀ p∈X.pn++pins,p.1≠b):aw X pins σ H' s':=by
 obtain⟨h',g',d',t',o'⟩:=s';have e:o'=s.os:=ho;subst e;exact I.call (g':=g') (t':=t') (d':=d') u hok hg hch
end
abbrev XK:=GH->Option G7->Hp->Prop
abbrev St:=List (Option V)
abbrev VK:=V->Hp->Prop
abbrev TE:=St->Hp->VK->Prop
abbrev TT:=St->Hp->(Bool->Hp->Prop)->Prop
abbrev TA:=St->Hp->(List V->Hp->Prop)->Prop
structure k_ where
 nx:St->Hp->Prop
 rt:VK
 bk:St->Hp->Prop:=λ_ _=>False
 ct:St->Hp->Prop:=λ_ _=>False
abbrev TS:=k_->St->Hp->Prop
def EP (X:Cx)(pins:List (G7×Obj))(σ:St)(Q:VK)(u:GH)(s':GJ):Prop:=∃ v H',aw X pins σ H' s'/\RelV v u/\Q v H'
def TP (X:Cx)(pins:List (G7×Obj))(σ:St)(Q:Bool->Hp->Prop)(b:Bool)(s':GJ):Prop:=∃ H',aw X pins σ H' s'/\Q b H'
def AP (X:Cx)(pins:List (G7×Obj))(σ:St)(Q:List V->Hp->Prop)(us:List GH)(s':GJ):Prop:=∃ vs H',aw X pins σ H' s'/\aI vs us/\Q vs H'
def SP (X:Cx)(pins:List (G7×Obj))(D:k_)(f:Flow)(s':GJ):Prop:=
 match f with
 |.next=>∃ σ' H',aw X pins σ' H' s'/\D.nx σ' H'
 |.brk=>∃ σ' H',aw X pins σ' H' s'/\D.bk σ' H'
 |.cont=>∃ σ' H',aw X pins σ' H' s'/\D.ct σ' H'
 |.ret u=>∃ v σ' H',aw X pins σ' H' s'/\RelV v u/\D.rt v H'
def PE (X:Cx)(e:JG)(t:TE):Prop:=
 ∀ (pins:List (G7×Obj)) (s:GJ) (σ:St) (H:Hp) (Q:VK),aw X pins σ H s->t σ H Q->GW (Hl X.prog X.w) X.A (KH e X.env) (EP X pins σ Q) X.xe s
structure WE (X:Cx)(e:JG)(t:TE):Prop where
 go:PE X e t
def PT (X:Cx)(e:JG)(t:TT):Prop:=
 ∀ (pins:List (G7×Obj)) (s:GJ) (σ:St) (H:Hp) (Q:Bool->Hp->Prop),aw X pins σ H s->t σ H Q->GW (Hl X.prog X.w) X.A (Rk e X.env (KH e X.env)) (TP X pins σ Q) X.xe s
structure WT (X:Cx)(e:JG)(t:TT):Prop where
 go:PT X e t
def PW (X:Cx)(e:JG)(t:TT):Prop:=
 ∀ (whole:Sem GH) (pins:List (G7×Obj)) (s:GJ) (σ:St) (H:Hp) (Q:Bool->Hp->Prop),aw X pins σ H s->t σ H Q->GW (Hl X.prog X.w) X.A (Rk e X.env whole) (TP X pins σ Q) X.xe s
structure WW (X:Cx)(e:JG)(t:TT):Prop where
 go:PW X e t
theorem PW.pt (h:PW X e t):PT X e t:=h _
def PA (X:Cx)(es:List JG)(t:TA):Prop:=
 ∀ (pos:Pos) (pins:List (G7×Obj)) (s:GJ) (σ:St) (H:Hp) (Q:List V->Hp->Prop),aw X pins σ H s->t σ H Q->GW (Hl X.prog X.w) X.A (spliced (Lh pos (G9 es X.env))) (AP X pins σ Q) X.xe s
structure WA (X:Cx)(e:List JG)(t:TA):Prop where
 go:PA X e t
def PS (X:Cx)(st:K4)(t:TS):Prop:=
 ∀ (pins:List (G7×Obj)) (s:GJ) (σ:St) (H:Hp) (D:k_),aw X pins σ H s->t D σ H->GW (Hl X.prog X.w) X.A (exec st X.env) (SP X pins D) X.xe s
structure WS (X:Cx)(e:K4)(t:TS):Prop where
 go:PS X e t
def yM (X:Cx)(st:List K4)(t:TS):Prop:=
 ∀ (pins:List (G7×Obj)) (s:GJ) (σ:St) (H:Hp) (D:k_),aw X pins σ H s->t D σ H->GW (Hl X.prog X.w) X.A (execs st X.env) (SP X pins D) X.xe s
structure cD (X:Cx)(e:List K4)(t:TS):Prop where
 go:yM X e t
theorem bf (h:GW M A t Q E s)(hQ:∀ a s,Q a s->Q' a s):GW M A t Q' E s:=Hm h hQ λ_ _ x=>x
section
variable {X:Cx}
inductive Cs (i:Nat)(σ:St)(H:Hp)(Q:VK):Prop
 |mk (v:V) (_:σ[i]?=some (some v)) (_:Q v H)
def tC (v:V):TE:=λ_ H Q=>Q v H
theorem Dh {i:Nat}(hN:X.N[i]?=some x)(hv:Cn X.env.scope x)(hd:(x==("__debug__":Str))=false:=by decide)(hcd:(x==("__classdict__":Str))=false:=by decide):PE X (.Name x pos) (Cs i):=by
 intro pins s σ H Q I h;obtain⟨v,e,h⟩:=h;obtain⟨m,hn,hl⟩:=I.loc;obtain⟨u,r,l⟩:=hl i x v hN e hv;have fin:EP X pins σ Q u s:=⟨v,H,I,r,h⟩
 rcases l with ⟨hk,hm⟩|⟨hk,c,hc,hcell⟩
 ·exact wpAny_Name (wpAny_loadName_local I.ok.kind hk hn hm fin) hd
 ·rcases hk with hk|hk
  ·exact wpAny_Name (wpAny_loadName_cell I.ok.kind hk hc hcell fin) hd
  ·exact wpAny_Name (wpAny_loadName_free I.ok.kind hk hc hcell fin hcd) hd
theorem ac {i j pos}:WE X (.Constant (.int i) j pos) (tC (.int i)):=by
 exact⟨λ_ _ _ H _ I h=>wpAny_Constant_int ⟨.int i,H,I.tok _,⟨_,rfl⟩,h⟩⟩
theorem bO {b j pos}:WE X (.Constant (.bool b) j pos) (tC (.bl b)):=by
 exact⟨λ_ _ _ H _ I h=>Constant_bool ⟨.bl b,H,I,rfl,h⟩⟩
theorem gP {j pos}:WE X (.Constant .none j pos) (tC .non):=by
 exact⟨λ_ _ _ H _ I h=>Constant_none ⟨.non,H,I,rfl,h⟩⟩
theorem ay {x j pos}:WE X (.Constant (.str x) j pos) (tC (.str x)):=by
 exact⟨λ_ _ _ H _ I h=>Mh ⟨.str x,H,I.tok _,⟨_,rfl⟩,h⟩⟩
def Gl (X:Cx)(x:Str):Prop:=X.env.kindOf x=some .globalImplicit
theorem eM (I:aw X pins σ H s) (hg:Gl X x) (hm:X.mg x=some u) (h:Q u s)
  (hd:(x==("__debug__":Str))=false:=by decide):GW (Hl X.prog X.w) X.A (KH (.Name x pos) X.env) Q E s:=
 NG I.ok.kind hg (Calls.loadGlobal_global (by rw[I.ok.glob];exact I.mod.glob.keeps I.bk) hm h) hd
theorem fc (I:aw X pins σ H s) (hg:Gl X x) (hm:X.mg x=none) (hv:IM x=some u) (h:Q u s)
  (hn:x≠"__name__":=by decide)(hd:(x==("__debug__":Str))=false:=by decide):GW (Hl X.prog X.w) X.A (KH (.Name x pos) X.env) Q E s:=by
 obtain⟨mb,h1,h2⟩:=I.mod.blt;exact NG I.ok.kind hg (Calls.loadGlobal_builtin (by rw[I.ok.glob];exact I.mod.glob.keeps I.bk) hm (by rw[I.ok.blt];exact h1.keeps I.bk) ((h2 x hn).trans hv) h) hd
theorem u_ (hg:Gl X x)(hm:X.mg x=some u)(r:RelV v u)(hd:(x==("__debug__":Str))=false:=by decide):PE X (.Name x pos) (tC v):=
 λ_ _ _ H _ I h=>eM I hg hm ⟨v,H,I,r,h⟩ hd
theorem ck (hg:Gl X x)(hm:X.mg x=none)(hv:IM x=some u)(r:RelV v u)(hn:x≠"__name__":=by decide)(hd:(x==("__debug__":Str))=false:=by decide):WE X (.Name x pos) (tC v):=by
 exact⟨λ_ _ _ H _ I h=>fc I hg hm hv ⟨v,H,I,r,h⟩ hn hd⟩
variable {a b:JG}{ta tb:TE}{pos:Pos}
inductive Gc (x:V)(H:Hp)(Q:Bool->Hp->Prop):Prop
 |mk (c:Bool) (_:x=.bl c) (_:Q c H)
def tB (t:TE):TT:=λσ H Q=>t σ H λx H1=>Gc x H1 Q
theorem aQ (h:WE X e t)(he:∀ whole,Rk e X.env whole=(do let v <- whole;QL e.pos;holding [v] (truthy v)):=by intro _;rfl):WT X e (tB t):=by
 have h:=h.go;refine⟨?_⟩;intro pins s σ H Q I hw;refine isTrue_plain (bf (h pins s σ H _ I hw) λv s1 ⟨x,H1,I1,r1,q1⟩=>?_) (he _);obtain⟨d,rfl,q⟩:=q1;cases r1;exact JD ⟨H1,I1,q⟩
variable {tA tB':TT}{cR:List JG}
def FD (t u:TT):TT:=λσ H Q=>t σ H λc H1=>if c=true then u σ H1 Q else Q false H1
def Gx (t u:TT):TT:=λσ H Q=>t σ H λc H1=>if c=true then Q true H1 else u σ H1 Q
def FW (t:TT):TT:=λσ H Q=>t σ H λc H1=>Q (!c) H1
theorem qI (ha:WT X a tA):WW X (.BoolOp .And [a] pos) tA:=by
 have ha:=ha.go;refine⟨?_⟩;intro wh pins s σ H Q I h;refine isTrue_and (bf (ha pins s σ H Q I h) λc s1 e=>?_);cases c with
 |true=>exact isTrue_and_nil e
 |false=>exact e
theorem bP (ha:WT X a tA):WW X (.BoolOp .Or [a] pos) tA:=by
 have ha:=ha.go;refine⟨?_⟩;intro wh pins s σ H Q I h;refine isTrue_or (bf (ha pins s σ H Q I h) λc s1 e=>?_);cases c with
 |false=>exact isTrue_or_nil e
 |true=>exact e
theorem oW (ha:WT X a tA)(hb:WW X (.BoolOp .And (b::cR) pos) tB'):WW X (.BoolOp .And (a::b::cR) pos) (FD tA tB'):=by
 have ha:=ha.go;have hb:=hb.go;refine⟨?_⟩;intro wh pins s σ H Q I h;refine isTrue_and (bf (ha pins s σ H _ I h) λc s1 ⟨H1,I1,q1⟩=>?_);cases c with
 |true=>exact hb wh pins s1 σ H1 Q I1 q1
 |false=>exact⟨H1,I1,q1⟩
theorem bZ (ha:WT X a tA)(hb:WW X (.BoolOp .Or (b::cR) pos) tB'):WW X (.BoolOp .Or (a::b::cR) pos) (Gx tA tB'):=by
 have ha:=ha.go;have hb:=hb.go;refine⟨?_⟩;intro wh pins s σ H Q I h;refine isTrue_or (bf (ha pins s σ H _ I h) λc s1 ⟨H1,I1,q1⟩=>?_);cases c with
 |true=>exact⟨H1,I1,q1⟩
 |false=>exact hb wh pins s1 σ H1 Q I1 q1
theorem aO (ha:WT X a tA):WT X (.UnaryOp .Not a pos) (FW tA):=by
 have ha:=ha.go;refine⟨?_⟩;intro pins s σ H Q I h;exact isTrue_not (ha pins s σ H (λc H1=>Q (!c) H1) I h)
def Ef (ta tb:TE):TE:=λσ H Q=>ta σ H λx H1=>∃ c,x=.bl c/\if c=true then tb σ H1 Q else Q (.bl false) H1
def Fm (ta tb:TE):TE:=λσ H Q=>ta σ H λx H1=>∃ c,x=.bl c/\if c=true then Q (.bl true) H1 else tb σ H1 Q
def Ea (ta:TE):TE:=λσ H Q=>ta σ H λx H1=>∃ c,x=.bl c/\Q (.bl (!c)) H1
theorem jm {op}(h:WE X a t):WE X (.BoolOp op [a] pos) t:=by
 have h:=h.go;exact⟨λpins s σ H Q I hw=>BoolOp_one (h pins s σ H Q I hw)⟩
theorem lB (ha:WE X a ta)(hb:WE X (.BoolOp .And (b::cR) pos) tb):WE X (.BoolOp .And (a::b::cR) pos) (Ef ta tb):=by
 have ha:=ha.go;have hb:=hb.go;refine⟨?_⟩;intro pins s σ H Q I h;refine BoolOp_and (bf (ha pins s σ H _ I h) λv s1 ⟨x,H1,I1,r1,q1⟩=>?_);obtain⟨c,rfl,q1⟩:=q1;cases r1;refine JD ?_;cases c with
 |true=>exact hb pins s1 σ H1 Q I1 q1
 |false=>exact⟨.bl false,H1,I1,rfl,q1⟩
theorem BS (ha:WE X a ta)(hb:WE X (.BoolOp .Or (b::cR) pos) tb):WE X (.BoolOp .Or (a::b::cR) pos) (Fm ta tb):=by
 have ha:=ha.go;have hb:=hb.go;refine⟨?_⟩;intro pins s σ H Q I h;refine BoolOp_or (bf (ha pins s σ H _ I h) λv s1 ⟨x,H1,I1,r1,q1⟩=>?_);obtain⟨c,rfl,q1⟩:=q1;cases r1;refine JD ?_;cases c with
 |false=>exact hb pins s1 σ H1 Q I1 q1
 |true=>exact⟨.bl true,H1,I1,rfl,q1⟩
theorem AG (ha:WE X a ta):WE X (.UnaryOp .Not a pos) (Ea ta):=by
 have ha:=ha.go;refine⟨?_⟩;intro pins s σ H Q I h;refine UnaryOp_ (bf (ha pins s σ H _ I h) λv s1 ⟨x,H1,I1,r1,q1⟩=>?_);obtain⟨c,rfl,q1⟩:=q1;cases r1;exact not_of (JD ⟨.bl (!c),H1,I1,rfl,q1⟩)
def Gh (t:TT)(ta tb:TE):TE:=λσ H Q=>t σ H λc H1=>if c=true then ta σ H1 Q else tb σ H1 Q
theorem cZ (hc:WT X c tA)(ha:WE X a ta)(hb:WE X b tb):WE X (.IfExp c a b pos) (Gh tA ta tb):=by
 have hc:=hc.go;have ha:=ha.go;have hb:=hb.go;refine⟨?_⟩;intro pins s σ H Q I h;refine wpAny_IfExp (bf (hc pins s σ H _ I h) λd s1 ⟨H1,I1,q1⟩=>?_);cases d with
 |true=>exact ha pins s1 σ H1 Q I1 q1
 |false=>exact hb pins s1 σ H1 Q I1 q1
end
def bg (K:GB)(H:Hp)(a:G7)(xs:List V):Prop:=
 Rd H a (.lst xs) \/
  ∃ (o:Obj) (its:Array GH) (n:Nat),K.lookup a=some o/\o.cls=.type "list"/\o.dict=none/\o.data=.seq its n/\its.size<=GZ/\aI xs its.toList
def fM (K:GB)(H:Hp)(a:G7)(xs:List V):Prop:=
 Rd H a (.tup xs) \/
  ∃ (o:Obj) (its:Array GH) (n:Nat),K.lookup a=some o/\o.cls=.type "tuple"/\o.data=.seq its n/\its.size<=GZ/\aI xs its.toList
def F7:GH->Option V
 |.none=>some .non
 |.bool b=>some (.bl b)
 |.int i _=>some (.int i)
 |.str x _=>some (.str x)
 |.bytes b _=>some (.byt b)
 |.float b _=>some (.flt b)
 |.ref a=>some (.ref a)
 |.type n=>some (.ty n)
 |_=>none
theorem RelV.abs (r:RelV x u):F7 u=some x:=by
 cases x with
 |non=>cases r;rfl
 |bl _=>cases r;rfl
 |int _=>obtain⟨t,rfl⟩:=r;rfl
 |str _=>obtain⟨t,rfl⟩:=r;rfl
 |byt _=>obtain⟨t,rfl⟩:=r;rfl
 |flt _=>obtain⟨t,rfl⟩:=r;rfl
 |ref _=>cases r;rfl
 |ty _=>cases r;rfl
theorem RelV.inj (r:RelV x u)(q:RelV y u):x=y:=GN (r.abs.symm.trans q.abs)
theorem aI.inj:∀ {xs ys:List V}{us:List GH},aI xs us->aI ys us->xs=ys
 |_,_,_,.nil,.nil=>rfl
 |_,_,_,.cons r t,.cons r' t'=>by rw[r.inj r',aI.inj t t']
section
variable {X:Cx}{pins:List (G7×Obj)}{σ:St}{H:Hp}{s:GJ}{a:G7}{xs ys:List V}
theorem bg.of {K:GB}(h:H a=some (.lst xs)):bg K H a xs:=.inl (.inl h)
theorem fM.of {K:GB}(h:H a=some (.tup xs)):fM K H a xs:=.inl (.inl h)
theorem aw.list (I:aw X pins σ H s)(h:bg X.K H a xs):∃ its:List GH,aI xs its/\PlainL s.heap a its.toArray/\xs.length<=GZ:=by
 rcases h with h|⟨o,its,n,hk,hc,hd,hs,hz,r⟩
 ·obtain⟨z,its,n,r,e⟩:=h.ok I.hok;exact⟨its,r,⟨_,n,e,rfl,rfl,rfl⟩,z⟩
 ·refine⟨its.toList,r,⟨o,n,I.kIn a o hk,hc,hd,by simpa using hs⟩,?_⟩;have e:=r.length;simp only[HD] at e;lia
theorem aw.tuple (I:aw X pins σ H s)(h:fM X.K H a xs):∃ its:List GH,aI xs its/\IsTup s.heap a its.toArray/\xs.length<=GZ:=by
 rcases h with h|⟨o,its,n,hk,hc,hs,hz,r⟩
 ·obtain⟨z,its,r,p⟩:=h.ok I.hok;exact⟨its,r,p,z⟩
 ·refine⟨its.toList,r,⟨o,I.kIn a o hk,hc,n,by simpa using hs⟩,?_⟩;have e:=r.length;simp only[HD] at e;lia
theorem aw.list_inj (I:aw X pins σ H s)(h:bg X.K H a xs)(h':bg X.K H a ys):xs=ys:=by
 obtain⟨its,r,⟨o,n,e,_,_,d⟩,_⟩:=I.list h;obtain⟨its',r',⟨o',n',e',_,_,d'⟩,_⟩:=I.list h';rw[e] at e';cases e';rw[d] at d';injection d' with d1 _
 have:its=its':=by simpa using KG Array.toList d1
 subst this;exact r.inj r'
theorem aw.tuple_inj (I:aw X pins σ H s)(h:fM X.K H a xs)(h':fM X.K H a ys):xs=ys:=by
 obtain⟨its,r,⟨o,e,_,n,d⟩,_⟩:=I.tuple h;obtain⟨its',r',⟨o',e',_,n',d'⟩,_⟩:=I.tuple h';rw[e] at e';cases e';rw[d] at d';injection d' with d1 _
 have:its=its':=by simpa using KG Array.toList d1
 subst this;exact r.inj r'
end
abbrev Cx.wish (X:Cx)(E:GH->GJ->Prop):Cx:={ X with xe:=E }
abbrev Cx.nox (X:Cx):Cx:=X.wish λ_ _=>False
theorem Cx.Ok.wish {X:Cx}(ok:X.Ok)(E:GH->GJ->Prop):(X.wish E).Ok:=
 ⟨ok.mod,ok.kind,ok.glob,ok.blt,ok.above,ok.inj,ok.has,ok.cab,ok.hd,ok.frames,ok.stk,ok.exf,ok.bs,ok.bsz,ok.noex,ok.exfs,ok.funs,ok.frf⟩
theorem Cx.Ok.unwish {X:Cx}{E:GH->GJ->Prop}(ok:(X.wish E).Ok):X.Ok:=
 ⟨ok.mod,ok.kind,ok.glob,ok.blt,ok.above,ok.inj,ok.has,ok.cab,ok.hd,ok.frames,ok.stk,ok.exf,ok.bs,ok.bsz,ok.noex,ok.exfs,ok.funs,ok.frf⟩
section
variable {X:Cx}{pins:List (G7×Obj)}{σ:St}{H:Hp}{s:GJ}{E:GH->GJ->Prop}
theorem aw.wish (I:aw X pins σ H s)(E:GH->GJ->Prop):aw (X.wish E) pins σ H s:=⟨I.ok.wish E,I.os,I.bare,I.base,I.loc,I.cell,I.free,I.freeC,I.pin,I.hok,I.len⟩
theorem aw.unwish (I:aw (X.wish E) pins σ H s):aw X pins σ H s:=⟨I.ok.unwish,I.os,I.bare,I.base,I.loc,I.cell,I.free,I.freeC,I.pin,I.hok,I.len⟩
theorem SP.unwish (h:SP (X.wish E) pins D f s'):SP X pins D f s':=by
 cases f with
 |next=>obtain⟨σ',H',I,q⟩:=h;exact⟨σ',H',I.unwish,q⟩
 |brk=>obtain⟨σ',H',I,q⟩:=h;exact⟨σ',H',I.unwish,q⟩
 |cont=>obtain⟨σ',H',I,q⟩:=h;exact⟨σ',H',I.unwish,q⟩
 |ret u=>obtain⟨v,σ',H',I,r,q⟩:=h;exact⟨v,σ',H',I.unwish,r,q⟩
theorem yM.nox {st:List K4}{t:TS}(h:yM X.nox st t):yM X st t:=λpins s σ H D I hw=>
 Hm (h pins s σ H D (I.wish _) hw) (λ_ _ q=>q.unwish) λ_ _ z=>Kh z
end
section
variable {X:Cx}{st:K4}{cR:List K4}{t u:TS}{e:JG}{te:TE}{pos:Pos}
def Ds:TS:=λD σ H=>D.nx σ H
def Ep (t u:TS):TS:=λD σ H=>t { D with nx:=u D } σ H
theorem aF:cD X [] Ds:=by
 exact⟨λ_ _ σ H _ I h=>MA ⟨σ,H,I,h⟩⟩
theorem aa (h1:WS X st t)(h2:cD X cR u):cD X (st::cR) (Ep t u):=by
 have h1:=h1.go;have h2:=h2.go;refine⟨?_⟩;intro pins s σ H D I h;refine wpAny_execs_cons (bf (h1 pins s σ H { D with nx:=u D } I h) λf s1 q=>?_);cases f with
 |next=>
  obtain⟨σ',H',I',q⟩:=q;exact h2 pins s1 σ' H' D I' q
 |ret v=>exact q
 |brk=>exact q
 |cont=>exact q
theorem ae (h1:WS X st t):cD X [st] t:=by
 have h1:=h1.go;refine⟨?_⟩;intro pins s σ H D I h;refine wpAny_execs_cons (bf (h1 pins s σ H D I h) λf s1 q=>?_);cases f with
 |next=>exact MA q
 |ret v=>exact q
 |brk=>exact q
 |cont=>exact q
theorem aw.quiet (I:aw X pins σ H s):interactive X.env=false:=by simp[interactive,I.ok.kind]
def EE (te:TE):TS:=λD σ H=>te σ H λ_ H1=>D.nx σ H1
theorem jn (he:WE X e te)(hs:NF e none pos.line X.env=pure false:=by rfl):WS X (.Expr e pos) (EE te):=by
 have he:=he.go;refine⟨?_⟩;intro pins s σ H D I h;exact wpAny_Expr_any (bf (he pins s σ H _ I h) λv s1 ⟨x,H1,I1,r1,q1⟩=>⟨σ,H1,I1,q1⟩) I.quiet hs
def FR (te:TE):TS:=λD σ H=>te σ H D.rt
theorem av (he:WE X e te):WS X (.Return (some e) pos) (FR te):=by
 have he:=he.go;refine⟨?_⟩;intro pins s σ H D I h;exact wpAny_Return_some (bf (he pins s σ H _ I h) λv s1 ⟨x,H1,I1,r1,q1⟩=>⟨x,σ,H1,I1,r1,q1⟩)
def Fw (c:TT)(t u:TS):TS:=λD σ H=>c σ H λb H1=>if b=true then t D σ H1 else u D σ H1
theorem aR (hc:WT X c tc)(ha:cD X a t)(hb:cD X b u):WS X (.If c a b pos) (Fw tc t u):=by
 have hc:=hc.go;have ha:=ha.go;have hb:=hb.go;refine⟨?_⟩;intro pins s σ H D I h;refine wpAny_If (bf (hc pins s σ H _ I h) λd s1 ⟨H1,I1,q1⟩=>?_);cases d with
 |true=>exact ha pins s1 σ H1 D I1 q1
 |false=>exact hb pins s1 σ H1 D I1 q1
def C_:TS:=λ_ _ _=>False
theorem b7:WS X st C_:=by
 exact⟨λ_ _ _ _ _ _ h=>h.elim⟩
end
abbrev TG:=V->St->Hp->(St->Hp->Prop)->Prop
abbrev Bj:=List V->St->Hp->(St->Hp->Prop)->Prop
def PG (X:Cx)(target:JG)(t:TG):Prop:=
 ∀ (pins:List (G7×Obj)) (s:GJ) (σ:St) (H:Hp) (v:V) (u:GH) (Q:St->Hp->Prop),aw X pins σ H s->RelV v u->t v σ H Q ->
  GW (Hl X.prog X.w) X.A (assign target X.env u) (λ_ s'=>∃ σ' H',aw X pins σ' H' s'/\Q σ' H') X.xe s
structure WG (X:Cx)(e:JG)(t:TG):Prop where
 go:PG X e t
def Fk (X:Cx)(ts:List JG)(t:Bj):Prop:=
 ∀ (pins:List (G7×Obj)) (s:GJ) (σ:St) (H:Hp) (vs:List V) (us:List GH) (Q:St->Hp->Prop),aw X pins σ H s->aI vs us->t vs σ H Q ->
  GW (Hl X.prog X.w) X.A (Qs ((JP ts X.env).map (·.2)) us) (λ_ s'=>∃ σ' H',aw X pins σ' H' s'/\Q σ' H') X.xe s
structure Dm (X:Cx)(e:List JG)(t:Bj):Prop where
 go:Fk X e t
abbrev ED:=V->V->V->Hp->(Hp->Prop)->Prop
def EI (X:Cx)(t:ED):Prop:=
 ∀ (pins:List (G7×Obj)) (s:GJ) (σ:St) (H:Hp) (o i v:V) (ov iv u:GH) (Q:Hp->Prop),aw X pins σ H s->RelV o ov->RelV i iv->RelV v u->t o i v H Q ->
  GW (Hl X.prog X.w) X.A (setItem ov iv u) (λ_ s'=>∃ H',aw X pins σ H' s'/\Q H') X.xe s
abbrev Fu:=V->V->Hp->VK->Prop
def F' (X:Cx)(op:Operator)(t:Fu):Prop:=
 ∀ (pins:List (G7×Obj)) (s:GJ) (σ:St) (H:Hp) (x y:V) (v u:GH) (Q:VK),aw X pins σ H s->RelV x v->RelV y u->t x y H Q ->
  GW (Hl X.prog X.w) X.A (inplaceOp op v u) (EP X pins σ Q) X.xe s
section
variable {X:Cx}{pos:Pos}
def ux (i:Nat):TG:=λv σ H Q=>Q (σ.set i (some v)) H
theorem yR {i:Nat}(hN:X.N.Nodup)(hi:X.N[i]?=some x)(hx:C4 X.env.scope x)(hf:X.fn x=true\/X.env.scope.names.lookup x=some .local:=by first|exact .inl rfl|exact .inr rfl|assumption):WG X (.Name x pos) (ux i):=by
 refine⟨?_⟩;intro pins s σ H v u Q I r h;exact Oo (eW I hN hi hx r (λs' I'=>⟨_,H,I',h⟩) hf)
def F8:Bj:=λvs σ H Q=>vs=[]/\Q σ H
def DW (t:TG)(u:Bj):Bj:=λvs σ H Q=>∃ v r,vs=v::r/\t v σ H λσ' H'=>u r σ' H' Q
theorem bX:Dm X [] F8:=by
 refine⟨?_⟩;intro pins s σ H vs us Q I r h;obtain⟨e,h⟩:=h;subst e;cases r;exact assignInOrder_nil ⟨σ,H,I,h⟩
theorem aK (h1:WG X e t) (h2:Dm X es u)
  (hs:(JP (e::es) X.env).map (·.2)=assign e X.env::(JP es X.env).map (·.2):=by rfl):Dm X (e::es) (DW t u):=by
 have h1:=h1.go;have h2:=h2.go;refine⟨?_⟩;intro pins s σ H vs us Q I r h;obtain⟨v,vr,e1,h⟩:=h;subst e1;cases r with
 |cons r rr=>
  rw[hs];refine NQ (bf (h1 pins s σ H _ _ _ I r h) λ_ s1 ⟨σ1,H1,I1,q1⟩=>?_);exact h2 pins s1 σ1 H1 _ _ Q I1 rr q1
def EK (K:GB)(n:Nat)(t:Bj):TG:=λv σ H Q=>∃ a xs,v=.ref a/\fM K H a xs/\xs.length=n/\t xs σ H Q
theorem B2 {k:Nat}{n:Nat} (hc:X.calm=true) (h:Fk X es t)
  (hn:(JP es X.env).length=n:=by rfl)(hst:(JP es X.env).findIdx? (·.1)=none:=by rfl):PG X (.Tuple es k pos) (EK X.K n t):=by
 intro pins s σ H v u Q I r hw;obtain⟨a,xs,e1,hq,hl,hw⟩:=hw;subst e1;cases r;obtain⟨its,rv,ht,hz⟩:=I.tuple hq;refine assign_Tuple_tuple (I.ok.hd hc) ht (by simp[hn,<- hl,rv.length]) hst λh' hx=>?_
 have I1:aw X pins σ H { s with heap:=h' }:=I.kept (t':=s.toks) λb o e=>hx b o (Hk (GI e)) e
 exact h pins _ σ H xs _ Q I1 (by simpa using rv) hw
def FK (to ti:TE)(t:ED):TG:=λv σ H Q=>to σ H λo H1=>ti σ H1 λi H2=>t o i v H2 λH3=>Q σ H3
theorem uw (ho:WE X o to) (hi:WE X i ti) (hs:EI X t)
  (ha:∀ v,assign (.Subscript o i pos) X.env v=(do
   let ov <- holding [v] (KH o X.env)
   let iv <- holding [v,ov] (KH i X.env)
   QL pos
   holding [v,ov,iv] (setItem ov iv v)
   release [v,ov,iv] []):=by intro _;rfl):WG X (.Subscript o i pos) (FK to ti t):=by
 have ho:=ho.go;have hi:=hi.go;refine⟨?_⟩;intro pins s σ H v u Q I r h;rw[ha];refine Gz (Ij (bf (ho pins s σ H _ I h) λov s1 ⟨x,H1,I1,r1,q1⟩=>?_));refine Gz (Ij (bf (hi pins s1 σ H1 _ I1 q1) λiv s2 ⟨y,H2,I2,r2,q2⟩=>?_));refine Gz (Jr (Gz (Ij (bf (hs pins s2 σ H2 x y v ov iv u _ I2 r1 r2 r q2) λ_ s3 ⟨H3,I3,q3⟩=>?_))));exact wpAny_release ⟨σ,H3,I3,q3⟩
def Df (te:TE)(g:TG):TS:=λD σ H=>te σ H λx H1=>g x σ H1 D.nx
theorem gQ (he:WE X e te) (hg:WG X tg g) (hs:swapsWithSole [tg] e pos.line X.env=pure false:=by rfl) (hw:swappedStores [tg] e X.env=pure none:=by rfl)
  (h1:(JP [tg] X.env).map (·.2)=[assign tg X.env]:=by rfl):WS X (.Assign [tg] e pos) (Df te g):=by
 have he:=he.go;have hg:=hg.go;refine⟨?_⟩;intro pins s σ H D I h;refine wpAny_Assign_stores (bf (he pins s σ H _ I h) λv s1 ⟨x,H1,I1,r1,q1⟩=>?_) hs hw;rw[h1];exact bf (hg pins s1 σ H1 x v _ I1 r1 q1) λ_ s2 q=>q
theorem Aj {i:Nat} (hN:X.N.Nodup) (hi:X.N[i]?=some x) (hx:C4 X.env.scope x) (he:WE X e te) (hs:NF e (some (.Name x pos')) pos.line X.env=pure false:=by rfl) (hf:X.fn x=true\/X.env.scope.names.lookup x=some .local:=by first | exact .inl rfl | exact .inr rfl | assumption) :
  WS X (.Assign [.Name x pos'] e pos) (Df te (ux i)):=by
 have he:=he.go;refine⟨?_⟩;intro pins s σ H D I h;refine wpAny_Assign_Name (bf (he pins s σ H _ I h) λv s1 ⟨y,H1,I1,r1,q1⟩=>?_) hs;exact eW I1 hN hi hx r1 (λs2 I2=>⟨_,H1,I2,q1⟩) hf
def Fp (i j:Nat)(ta:TA):TS:=λD σ H=>ta σ H λvs H1=>∃ v w,vs=[v,w]/\D.nx ((σ.set i (some v)).set j (some w)) H1
theorem jJ {i j:Nat}{kt k2 pt2} (hc:X.calm=true) (hN:X.N.Nodup) (hi:X.N[i]?=some x) (hj:X.N[j]?=some y) (hij:i ≠ j)
  (hx:X.env.scope.names.lookup x=some .local)(hy:X.env.scope.names.lookup y=some .local)(ha:WA X [a,b] ta)
  (hw:swappedStores [.Tuple [.Name x px,.Name y py] kt pt] (.Tuple [a,b] k2 pt2) X.env=pure (some [x,y]))
  (hs:swapsWithSole [.Tuple [.Name x px,.Name y py] kt pt] (.Tuple [a,b] k2 pt2) pos.line X.env=pure false:=by rfl):
  WS X (.Assign [.Tuple [.Name x px,.Name y py] kt pt] (.Tuple [a,b] k2 pt2) pos) (Fp i j ta):=by
 have ha:=ha.go;refine⟨?_⟩;intro pins s σ H D I h;rw[exec_Assign_arm];refine Gz (Jr ?_);rw[hs];refine Gz (GD ?_);rw[Hu (by decide)];refine Gz (Tuple_ (bf (ha _ pins s σ H _ I h) λus s1 ⟨vs,H1,I1,r1,q1⟩=>?_));obtain⟨v,w,e1,q1⟩:=q1;subst e1;obtain⟨u1,u2,rfl,rv,rw'⟩:∃ u1 u2,us=[u1,u2]/\RelV v u1/\RelV w u2:=by
  cases r1 with
  |cons p q=>
   cases q with
   |cons p' q'=>
    cases q';exact⟨_,_,rfl,p,p'⟩
 refine Ig ?_ (by show 2<=GZ;decide);have I2:aw X pins σ H1 { s1 with heap:=s1.heap.push { cls:=.type "tuple",data:=.seq [u1,u2].toArray } }:=I1.kept (t':=s1.toks) λb o e=>GC _ e
 rw[hw];refine Gz (GD ?_);show GW (Hl X.prog X.w) X.A (do rule "assign.swapped-stores";let items <- unpackItems (.ref s1.heap.objs.size) 2 none;Qs [λv=>Q_ X.env y v,λv=>Q_ X.env x v] items.reverse;pure Flow.next) _ _ _;refine Gz (LN (Gz (unpackItems_tuple (items:=#[u1,u2]) (I.ok.hd hc) (IsTup.new s1.heap _) λh' hx'=>?_)));have I3:=I2.kept (h':=h') (t':=s1.toks) λb o e=>hx' b o (Hk (GI e)) e
 show GW _ _ (Qs [λv=>Q_ X.env y v,λv=>Q_ X.env x v] [u2,u1]>>=λ_=>pure Flow.next) _ _ _;refine Gz (NQ (wpAny_bindName (eW I3 hN hj (.inl hy) rw' (λs2 I4=>?_) (.inr hy))));refine NQ (wpAny_bindName (eW I4 hN hi (.inl hx) rv (λs3 I5=>assignInOrder_nil (GD ?_)) (.inr hx)));rw[List.set_comm _ _ (Jj hij)] at I5;exact⟨_,H1,I5,q1⟩
def Fq (i:Nat)(te:TE)(ti:Fu):TS:=λD σ H=>∃ x,σ[i]?=some (some x)/\te σ H λy H1=>ti x y H1 λz H2=>D.nx (σ.set i (some z)) H2
theorem AO {i:Nat} (hN:X.N.Nodup) (hi:X.N[i]?=some x) (hx:C4 X.env.scope x) (he:WE X e te) (ho:F' X op ti) (hf:X.fn x=true\/X.env.scope.names.lookup x=some .local:=by first | exact .inl rfl | exact .inr rfl | assumption) :
  WS X (.AugAssign (.Name x pos') op e pos) (Fq i te ti):=by
 have he:=he.go;refine⟨?_⟩;intro pins s σ H D I h;obtain⟨v,e1,h⟩:=h;obtain⟨m,hn,hl⟩:=I.loc;have vis:Cn X.env.scope x:=by rcases hx with k|k;exact .inl k;exact .inr (.inl k)
 obtain⟨u,r,l⟩:=hl i x v hi e1 vis;refine wpAny_AugAssign_Name ?_;have go:GW (Hl X.prog X.w) X.A (KH e X.env) (λw s₂=>GW (Hl X.prog X.w) X.A (inplaceOp op u w) (λr s₃=>GW (Hl X.prog X.w) X.A (storeName X.env x r) (λ_=>SP X pins D .next) X.xe s₃) X.xe s₂) X.xe s:=by
  refine bf (he pins s σ H _ I h) λw s1 ⟨y,H1,I1,r1,q1⟩=>?_
  refine bf (ho pins s1 σ H1 v y u w _ I1 r r1 q1) λz s2 ⟨zv,H2,I2,r2,q2⟩=>?_
  exact eW I2 hN hi hx r2 (λs3 I3=>⟨_,H2,I3,q2⟩) hf
 rcases l with ⟨hk,hm⟩|⟨hk,c,hc,hcell⟩
 ·exact wpAny_loadName_local I.ok.kind hk hn hm go
 ·rcases hk with hk|hk
  ·exact wpAny_loadName_cell I.ok.kind hk hc hcell go
  ·rcases hx with k|k
   ·have:X.env.scope.names.lookup x=some .free:=hk;rw[k] at this;cases this
   ·have:X.env.scope.names.lookup x=some .free:=hk;rw[k] at this;cases this
def Gq (f:Int->Int->Int):Fu:=λx y H Q=>∃ i j,x=.int i/\y=.int j/\Q (.int (f i j)) H
theorem BY:F' X .Add (Gq λi j=>i+j):=by
 intro pins s σ H x y v u Q I r1 r2 h;obtain⟨i,j,e1,e2,q⟩:=h;subst e1;subst e2;obtain⟨t,rfl⟩:=r1;obtain⟨t',rfl⟩:=r2;exact iadd_int ⟨.int _,H,I.tok _,⟨_,rfl⟩,q⟩
end
section
variable {X:Cx}{pos:Pos}
def CV (c:TT)(tb:TS):TS:=λD σ H=>∃ W:Nat->St->Hp->Prop,(∃ m,W m σ H)/\∀ m σ H,W m σ H ->
 c σ H λb H1=>if b=true then ∃ N:St->Hp->Prop,(∀ σ' H',N σ' H'->∃ m',m'<m/\W m' σ' H')/\tb { D with nx:=N,ct:=N,bk:=D.nx } σ H1 else D.nx σ H1
theorem j8 (hp:PassesOwn (Hl X.prog X.w) X.A X.env X.xe)(hc:WT X c tc)(hb:cD X body tb):WS X (.While c body [] pos) (CV tc tb):=by
 have hc:=hc.go;have hb:=hb.go;refine⟨?_⟩;intro pins s σ H D I h;obtain⟨W,⟨m0,w0⟩,eS⟩:=h;refine wpAny_While (codeAny_whileLoop (λn s'=>∃ σ' H',aw X pins σ' H' s'/\W n σ' H') ?_ m0 ⟨σ,H,I,w0⟩);rintro n s1 ⟨σ1,H1,I1,w1⟩;refine K7 hp (bf (hc pins s1 σ1 H1 _ I1 (eS n σ1 H1 w1)) λb s2 ⟨H2,I2,q2⟩=>?_);cases b with
 |true=>
  obtain⟨N,hN,q2⟩:=q2;rw[Ie rfl];refine K7 hp (bf (hb pins s2 σ1 H2 _ I2 q2) λf s3 q3=>?_);cases f with
  |next=>
   obtain⟨σ3,H3,I3,n3⟩:=q3;obtain⟨m',hm,w3⟩:=hN σ3 H3 n3;exact⟨m',hm,σ3,H3,I3,w3⟩
  |cont=>
   obtain⟨σ3,H3,I3,n3⟩:=q3;obtain⟨m',hm,w3⟩:=hN σ3 H3 n3;exact⟨m',hm,σ3,H3,I3,w3⟩
  |brk=>exact q3
  |ret v=>exact q3
 |false=>
  rw[Hu Hn];exact MA ⟨σ1,H2,I2,q2⟩
end
structure It where
 go:Nat->Hp->Prop
 yld:Nat->Hp->V->Hp->Prop
 stop:Nat->Hp->Prop
def eN (X:Cx)(pins:List (G7×Obj))(H:Hp)(b:G7):Prop:=
 H b=none/\b≠X.env.locals/\b∉X.fs/\(b∈X.ex\/X.s₀.heap.objs.size<=b)/\(∀ x c,X.env.cells.lookup x=some c->c≠b)/\∀ p∈X.pn++pins,p.1≠b
theorem aw.fpOk (I:aw X pins σ H s)(hb:s.heap.objs.size<=b)(hn:H' b=none):eN X pins H' b:=by
 refine⟨hn,JB (G8 I.lt hb),I.nofs hb,.inr (GV I.sz hb),λx c e z=>?_,λp hp z=>?_⟩
 ·obtain⟨v,q⟩:=I.cell x c e;exact absurd (G8 q.lt (by rw[z];exact hb)) (Ii _)
 ·exact absurd (G8 (GI (I.pin p hp).1) (by rw[z];exact hb)) (Ii _)
structure kW (P:Hv)(w:IN)(K:GB)(tg:JG)(J:It)(fp:List G7)(it:G7)(tn:Nat->JI->Prop):Prop where
 mem:it∈fp
 obj:∀ i h,tn i h->∀ b∈fp,∃ o,h.get? b=some o/\∀ v,o.data≠.cell v
 keep:∀ i h h',tn i h->(∀ b∈fp,∀ o,h.get? b=some o->h'.get? b=some o)->tn i h'
 item:∀ (X:Cx),X.prog=P->X.w=w->X.K=K->X.calm=true->∀ (i:Nat) (pins:List (G7×Obj)) (s:GJ) (σ:St) (H:Hp) (E:GH->GJ->Prop),aw X pins σ H s->(∀ b∈fp,eN X pins H b)->tn i s.heap->J.go i H ->
  GW (Hl P w) X.A (LG (.ref it)) (λr s1=>∃ u,r=some u /\
   GW (Hl P w) X.A (Kw tg (.ref it) u) (λ_ s2=>∃ x H',aw X pins σ H' s2/\RelV x u/\J.yld i H x H'/\tn (i+1) s2.heap/\∀ b∈fp,H' b=none) E s1) E s
 done:∀ (X:Cx),X.prog=P->X.w=w->X.K=K->X.calm=true->∀ (i:Nat) (pins:List (G7×Obj)) (s:GJ) (σ:St) (H:Hp) (E:GH->GJ->Prop),aw X pins σ H s->(∀ b∈fp,eN X pins H b)->tn i s.heap->J.stop i H ->
  GW (Hl P w) X.A (LG (.ref it)) (λr s1=>r=none/\aw X pins σ H s1) E s
 self:∀ (A:IR) (i:Nat) (s:GJ) (Q:GH->GJ->Prop) (E:GH->GJ->Prop),tn i s.heap->Q (.ref it) s->GW (Hl P w) A (PQ (.ref it)) Q E s
abbrev TI:=St->Hp->(It->Hp->Prop)->Prop
def Ga (X:Cx)(pins:List (G7×Obj))(σ:St)(tg:JG)(R:It->Hp->Prop)(itv:GH)(s2:GJ):Prop:=
 ∃ (it:G7) (fp:List G7) (tn:Nat->JI->Prop) (J:It) (H':Hp),itv=.ref it/\aw X pins σ H' s2/\kW X.prog X.w X.K tg J fp it tn/\tn 0 s2.heap/\(∀ b∈fp,eN X pins H' b)/\R J H'
def PI (X:Cx)(tg iter:JG)(wi:TI):Prop:=
 ∀ (pins:List (G7×Obj)) (s:GJ) (σ:St) (H:Hp) (R:It->Hp->Prop),aw X pins σ H s->wi σ H R ->
  GW (Hl X.prog X.w) X.A (KH iter X.env) (λv s1=>GW (Hl X.prog X.w) X.A (PQ v) (Ga X pins σ tg R) X.xe s1) X.xe s
structure WI (X:Cx)(tg e:JG)(t:TI):Prop where
 go:PI X tg e t
theorem qe (ho:s.heap.get? it=some o) (hc:o.cls=.type n) (hd:o.data=.fields vs)
  (hn:["enumerate","zip","dict_itemiterator","dict_reverseitemiterator","odict_iterator","itertools.zip_longest","itertools.pairwise"].contains n=false)(hQ:Q () s):GW M A (Kw tg (.ref it) u) Q E s:=by
 unfold Kw;cases tg<;>first
  |exact GD hQ
  | (cases u <;> first
    |exact GD hQ
    | (refine Gz (Px ho ?_)
       rw[hc,hd];show GW M A (if(["enumerate","zip","dict_itemiterator","dict_reverseitemiterator","odict_iterator","itertools.zip_longest","itertools.pairwise"].contains n&&vs[0]?==some (JV _))=true then _ else _) Q E s;rw[Hu (by intro h;rw[hn,JH] at h;cases h)];exact GD hQ))
def Ez (K:GB)(a:G7):It:=
 ⟨λi H=>∃ xs x,bg K H a xs/\xs[i]?=some x,λi H x H'=>H'=H/\∀ xs,bg K H a xs->xs[i]?=some x,λi H=>∃ xs,bg K H a xs/\xs.length<=i⟩
def Eg (K:GB)(a:G7):It:=
 ⟨λi H=>∃ xs x,fM K H a xs/\xs[i]?=some x,λi H x H'=>H'=H/\∀ xs,fM K H a xs->xs[i]?=some x,λi H=>∃ xs,fM K H a xs/\xs.length<=i⟩
def yd (lo:Int)(n:Nat):It:=⟨λi _=>i<n,λi H x H'=>H'=H/\x=.int (lo+i),λi _=>n<=i⟩
theorem vm {P:Hv}{w:IN}{K:GB}{tg:JG}(a it:G7):kW P w K tg (Ez K a) [it] it (λi h=>h.IsListIter it a i) where
 mem:=by simp
 obj:=λi h st b hb=>by
  have e:b=it:=by simpa using hb
  subst e;obtain⟨o,e,c,d⟩:=st;exact⟨o,e,λv z=>by rw[d] at z;cases z⟩
 keep:=λi h h' st k=>st.at λo e=>k it (by simp) o e
 item:=by
  intro X hP hw hK hc i pins s σ H E I hf st hg;subst hP hw hK;obtain⟨xs,x,hq,hx⟩:=hg;obtain⟨its,rv,p,hz⟩:=I.list hq;obtain⟨u,hu,ru⟩:=rv.get hx;obtain⟨f0,f1,f2,f3,f4,f5⟩:=hf it (by simp);refine OX st p.isList (x:=u) (by simpa using hu) λh' st' sb=>?_
  have I1:aw X pins σ H { s with heap:=h' }:=I.turned (t':=s.toks) (λb o hb e=>(sb.2 b hb).trans e) f0 f1 f3 f4 f5;obtain⟨o,e,c,d⟩:=id st';exact⟨u,rfl,qe (s:={ s with heap:=h' }) e c d (by decide) ⟨x,H,I1,ru,⟨rfl,λys hy=>by rw[I.list_inj hy hq];exact hx⟩,st',λb hb=>(hf b hb).1⟩⟩
 done:=by
  intro X hP hw hK hc i pins s σ H E I hf st hg;subst hP hw hK;obtain⟨xs,hq,hx⟩:=hg;obtain⟨its,rv,p,hz⟩:=I.list hq;obtain⟨f0,f1,f2,f3,f4,f5⟩:=hf it (by simp);have hl:=rv.length;exact wpAny_pyNext_list_end (I.ok.hd hc) st p.isList (by simp;lia) λh' eb=>⟨rfl,I.turned (t':=s.toks) (λb o hb e=>eb b o hb e) f0 f1 f3 f4 f5⟩
 self:=λ_ _ _ _ _ st h=>wpAny_pyIter_listiter st h
theorem sR {P:Hv}{w:IN}{K:GB}{tg:JG}(a it:G7):kW P w K tg (Eg K a) [it] it (λi h=>h.IsTupleIter it a i) where
 mem:=by simp
 obj:=λi h st b hb=>by
  have e:b=it:=by simpa using hb
  subst e;obtain⟨o,e,c,d⟩:=st;exact⟨o,e,λv z=>by rw[d] at z;cases z⟩
 keep:=λi h h' st k=>st.at λo e=>k it (by simp) o e
 item:=by
  intro X hP hw hK hc i pins s σ H E I hf st hg;subst hP hw hK;obtain⟨xs,x,hq,hx⟩:=hg;obtain⟨its,rv,p,hz⟩:=I.tuple hq;obtain⟨u,hu,ru⟩:=rv.get hx;obtain⟨f0,f1,f2,f3,f4,f5⟩:=hf it (by simp);refine wpAny_pyNext_tuple_item st (show s.heap.IsTuple a its.toArray from p) (x:=u) (by simpa using hu) λh' st' sb=>?_
  have I1:aw X pins σ H { s with heap:=h' }:=I.turned (t':=s.toks) (λb o hb e=>(sb.2 b hb).trans e) f0 f1 f3 f4 f5;obtain⟨o,e,c,d⟩:=id st';exact⟨u,rfl,qe (s:={ s with heap:=h' }) e c d (by decide) ⟨x,H,I1,ru,⟨rfl,λys hy=>by rw[I.tuple_inj hy hq];exact hx⟩,st',λb hb=>(hf b hb).1⟩⟩
 done:=by
  intro X hP hw hK hc i pins s σ H E I hf st hg;subst hP hw hK;obtain⟨xs,hq,hx⟩:=hg;obtain⟨its,rv,p,hz⟩:=I.tuple hq;obtain⟨f0,f1,f2,f3,f4,f5⟩:=hf it (by simp);have hl:=rv.length;exact wpAny_pyNext_tuple_end (I.ok.hd hc) st (show s.heap.IsTuple a its.toArray from p) (by simp;lia) λh' eb=>⟨rfl,I.turned (t':=s.toks) (λb o hb e=>eb b o hb e) f0 f1 f3 f4 f5⟩
 self:=λ_ _ _ _ _ st h=>wpAny_pyIter_tupleiter st h
theorem t9 {P:Hv}{w:IN}{K:GB}{tg:JG}(it:G7)(lo:Int)(n:Nat):kW P w K tg (yd lo n) [it] it (λi h=>IsRangeIter h it (lo+(i:Nat)*1) ((n:Int)-(i:Nat)) 1) where
 mem:=by simp
 obj:=λi h st b hb=>by
  have e:b=it:=by simpa using hb
  subst e;exact⟨_,st,λv z=>by
   have z':Data.fields _=Data.cell v:=z;cases z'⟩
 keep:=λi h h' st k=>k it (by simp) _ st
 item:=by
  intro X hP hw hK hc i pins s σ H E I hf st hg;subst hP hw hK;obtain⟨f0,f1,f2,f3,f4,f5⟩:=hf it (by simp);have W:=Walks.range (prog:=X.prog) (w:=X.w) (I.ok.hd hc) it lo 1 n;refine W.item i s _ _ hg st λv h' tk hv st' kk=>?_
  obtain⟨t,rfl⟩:=hv;have I1:aw X pins σ H { s with heap:=h',toks:=tk }:=I.turned (λb o hb e=>kk b o (by simpa using hb) e) f0 f1 f3 f4 f5;refine⟨_,rfl,qe (s:={ s with heap:=h',toks:=tk }) (n:="range_iterator") st' rfl rfl (by decide) ⟨.int (lo+i),H,I1,⟨t,?_⟩,⟨rfl,rfl⟩,st',λb hb=>(hf b hb).1⟩⟩;rw[Int.mul_one]
 done:=by
  intro X hP hw hK hc i pins s σ H E I hf st hg;subst hP hw hK;obtain⟨f0,f1,f2,f3,f4,f5⟩:=hf it (by simp);exact wpAny_pyNext_range_end (I.ok.hd hc) st (by have:n<=i:=hg;lia) λh' eb=>⟨rfl,I.turned (t':=s.toks) (λb o hb e=>eb b o hb e) f0 f1 f3 f4 f5⟩
 self:=λ_ _ _ _ _ st h=>wpAny_pyIter_rangeiter st h
section
variable {X:Cx}{tg:JG}
theorem qF {lo hi:Int}{tk:Nat} (I:aw X pins σ H s) (h1:-(2 ^ 62) <= lo) (h2:lo < 2 ^ 62) (h3:-(2 ^ 62) <= hi) (h4:hi < 2 ^ 62)
  (q:R (yd lo (hi-lo).toNat) H):GW (Hl X.prog X.w) X.A (PQ (.ref s.heap.objs.size)) (Ga X pins σ tg R) E { s with heap:=s.heap.push { cls:=.type "range",data:=.fields #[.int lo t,.int hi u,.int 1 v] },toks:=tk }:=by
 refine wpAny_pyIter_range (IsRange.new ..) (small_one h1 h2 h3 h4) ?_;have I1:aw X pins σ H { s with heap:=s.heap.push { cls:=.type "range",data:=.fields #[.int lo t,.int hi u,.int 1 v] },toks:=tk }:=I.kept λb o e=>GC _ e
 refine⟨(s.heap.push { cls:=.type "range",data:=.fields #[.int lo t,.int hi u,.int 1 v] }).objs.size,[(s.heap.push { cls:=.type "range",data:=.fields #[.int lo t,.int hi u,.int 1 v] }).objs.size],_,_,H,rfl,
  I1.kept (t':=tk) λb o e=>GC _ e,t9 _ lo (hi-lo).toNat,?_,λb hb=>?_,q⟩
 ·have e1:lo+((0:Nat):Int)*1=lo:=by simp
  have e2:(((hi-lo).toNat:Nat):Int)-((0:Nat):Int)=Builtin.Range.rangeSize lo hi 1:=by rw[rangeSize_one];split<;>lia
  show IsRangeIter _ _ (lo+((0:Nat):Int)*1) ((((hi-lo).toNat:Nat):Int)-((0:Nat):Int)) 1;rw[e1,e2];exact GL _ rfl
 ·have e:b=(s.heap.push { cls:=.type "range",data:=.fields #[.int lo t,.int hi u,.int 1 v] }).objs.size:=by simpa using hb
  subst e;exact I1.fpOk (GM _) (I1.hok.fresh (GM _))
def DZ (ta:TA):TI:=λσ H R=>ta σ H λvs H1=>∃ j:Int,vs=[.int j]/\-(2^62)<=j/\j<2^62/\R (yd 0 j.toNat) H1
def EB (ta:TA):TI:=λσ H R=>ta σ H λvs H1=>∃ i j:Int,vs=[.int i,.int j]/\(-(2^62)<=i/\i<2^62/\-(2^62)<=j/\j<2^62)/\R (yd i (j-i).toNat) H1
theorem bQ (hg:Gl X "range")(hm:X.mg "range"=none)(ha:WA X [a] ta)(hs:G9 [a] X.env=[(false,KH a X.env)]:=by rfl):WI X tg (.Call (.Name "range" p) [a] [] pos) (DZ ta):=by
 have ha:=ha.go;refine⟨?_⟩;intro pins s σ H R I h;refine Call_ (fc I hg hm boot_range (Jk (bf (ha pos pins s σ H _ I h) λus s1 ⟨vs,H1,I1,r1,q1⟩=>?_) hs rfl));obtain⟨j,e,q1,q2,q⟩:=q1;subst e;cases r1 with
 |cons r rr=>
  cases rr;obtain⟨t,rfl⟩:=r;exact call_range_1 (qF I1 (by lia) (by lia) q1 q2 (by simpa using q))
theorem sY (hg:Gl X "range") (hm:X.mg "range"=none) (ha:WA X [a,b] ta) (hs:G9 [a,b] X.env=[(false,KH a X.env),(false,KH b X.env)]:=by rfl) (hs2:G9 [b] X.env=[(false,KH b X.env)]:=by rfl) :
  WI X tg (.Call (.Name "range" p) [a,b] [] pos) (EB ta):=by
 have ha:=ha.go;refine⟨?_⟩;intro pins s σ H R I h;refine Call_ (fc I hg hm boot_range (Jk (bf (ha pos pins s σ H _ I h) λus s1 ⟨vs,H1,I1,r1,q1⟩=>?_) (by rw[hs,hs2]) (by rw[hs2];rfl)));obtain⟨i,j,e,⟨q1,q2,q3,q4⟩,q⟩:=q1;subst e;cases r1 with
 |cons r rr=>
  cases rr with
  |cons r' rr=>
   cases rr;obtain⟨t,rfl⟩:=r;obtain⟨t',rfl⟩:=r';exact call_range_2 (qF I1 q1 q2 q3 q4 q)
def FX (wi:TI)(g:TG)(tb:TS):TS:=λD σ H=>wi σ H λJ H1=>∃ W:Nat->Nat->St->Hp->Prop,(∃ m,W 0 m σ H1)/\∀ i m σ H,W i m σ H ->
 (J.stop i H/\D.nx σ H)\/(J.go i H/\∃ N:St->Hp->Prop,(∀ σ' H',N σ' H'->∃ m',m'<m/\W (i+1) m' σ' H')/\∀ x H',J.yld i H x H'->g x σ H' λσ2 H2=>tb { D with nx:=N,ct:=N,bk:=D.nx } σ2 H2)
def bV (fp:List G7)(h:JI):List (G7×Obj):=fp.filterMap λb=>(h.get? b).map λo=>(b,o)
theorem bH (hb:b∈fp)(e:h.get? b=some o):(b,o)∈bV fp h:=IV.mpr ⟨b,hb,by rw[e];rfl⟩
theorem gT (hp:p∈bV fp h):p.1∈fp/\h.get? p.1=some p.2:=by
 obtain⟨b,hb,e⟩:=IV.mp hp;cases q:h.get? b with
 |none=>rw[q] at e;cases e
 |some o=>
  rw[q] at e;have e':(b,o)=p:=GN e;subst e';exact⟨hb,q⟩
theorem aw.pinned (I:aw X pins σ H s)(hf:∀ b∈fp,eN X pins H b)(ho:∀ b∈fp,∃ o,s.heap.get? b=some o/\∀ v,o.data≠.cell v):aw X (pins++bV fp s.heap) σ H s:=
 I.pins_of λp hp=>(Hy.mp hp).elim (λz=>I.pin p (GO _ z)) λz=>by
  obtain⟨hb,e⟩:=gT z;obtain⟨f0,f1,f2,_⟩:=hf p.1 hb;obtain⟨o,e',d⟩:=ho p.1 hb;rw[e] at e';cases e';exact⟨e,f0,f1,f2,d⟩
theorem aw.unpinned (I:aw X (pins++pl) σ H s):aw X pins σ H s:=I.pins_of λp hp=>I.pin p (GO _ (Jf _ hp))
theorem ia (hp:PassesOwn (Hl X.prog X.w) X.A X.env X.xe) (hc:X.calm=true) (hi:WI X tg iter wi) (hg:WG X tg g) (hb:cD X body tb)
  (hs:∀ x,Jc iter X.env x=pure x:=by intro _;rfl):WS X (.For tg iter body [] pos) (FX wi g tb):=by
 have hi:=hi.go;have hg:=hg.go;have hb:=hb.go;refine⟨?_⟩;intro pins s σ H D I h;refine wpAny_For (bf (hi pins s σ H _ I h) λv s1 h1=>bf h1 λitv s2 h2=>?_) hs;obtain⟨it,fp,tn,J,H2,e,I2,T,st2,f2,W,⟨m0,w0⟩,eS⟩:=h2;subst e;have stat:∀ {H':Hp},(∀ b∈fp,H' b=none)->∀ b∈fp,eN X pins H' b:=λhn b hb=>⟨hn b hb,(f2 b hb).2⟩
 refine codeAny_forLoop_any (λn s'=>∃ i σ' H',aw X pins σ' H' s'/\tn i s'.heap/\(∀ b∈fp,H' b=none)/\W i n σ' H') ?_ m0 ⟨0,σ,H2,I2,st2,λb hb=>(f2 b hb).1,w0⟩;rintro n s3 ⟨i,σ3,H3,I3,st3,fr3,w3⟩;rcases eS i n σ3 H3 w3 with ⟨stop,qn⟩|⟨go,N,hN,step⟩
 ·refine K7 hp (bf (T.done X rfl rfl rfl hc i pins s3 σ3 H3 X.xe I3 (stat fr3) st3 stop) λr s4 ⟨hr,I4⟩=>?_);subst hr;exact MA ⟨σ3,H3,I4,qn⟩
 ·refine K7 hp (bf (T.item X rfl rfl rfl hc i pins s3 σ3 H3 X.xe I3 (stat fr3) st3 go) λr s4 ⟨u,hr,h4⟩=>?_);subst hr;refine K7 hp (bf h4 λ_ s5 ⟨x,H5,I5,r5,y5,st5,fr5⟩=>?_);have I5':=I5.pinned (stat fr5) (T.obj _ _ st5);refine K7 hp (bf (hg _ s5 σ3 H5 x u _ I5' r5 (step x H5 y5)) λ_ s6 ⟨σ6,H6,I6,q6⟩=>?_);refine K7 hp (bf (hb _ s6 σ6 H6 _ I6 q6) λf s7 q7=>?_);have again:∀ {σ7:St}{H7:Hp},aw X (pins++bV fp s5.heap) σ7 H7 s7->N σ7 H7->∃ m,m<n/\∃ i σ' H',aw X pins σ' H' s7/\tn i s7.heap/\(∀ b∈fp,H' b=none)/\W i m σ' H':=λ{σ7 H7} I7 n7=>by
   obtain⟨m',hm,w7⟩:=hN σ7 H7 n7;refine⟨m',hm,i+1,σ7,H7,I7.unpinned,T.keep _ _ _ st5 λb hb o e=>(I7.pin (b,o) (GO _ (GO _ (bH hb e)))).1,λb hb=>?_,w7⟩;obtain⟨o,e,d⟩:=T.obj _ _ st5 b hb;exact(I7.pin (b,o) (GO _ (GO _ (bH hb e)))).2.1
  cases f with
  |next=>obtain⟨σ7,H7,I7,n7⟩:=q7;exact again I7 n7
  |cont=>obtain⟨σ7,H7,I7,n7⟩:=q7;exact again I7 n7
  |brk=>obtain⟨σ7,H7,I7,q7⟩:=q7;exact⟨σ7,H7,I7.unpinned,q7⟩
  |ret v=>obtain⟨x7,σ7,H7,I7,r7,q7⟩:=q7;exact⟨x7,σ7,H7,I7.unpinned,r7,q7⟩
end
theorem xS {K:GB}{a:G7}{xs:List V}{g:TG}{tb:TS}{D:k_}{σ:St}{H:Hp} (Pv:Nat->St->Hp->Prop) (h0:Pv 0 σ H) (hl:∀ i σ H,i <= xs.length->Pv i σ H->bg K H a xs)
  (hs:∀ i x σ H,xs[i]?=some x->Pv i σ H->g x σ H λσ2 H2=>tb { D with nx:=Pv (i+1),ct:=Pv (i+1),bk:=D.nx } σ2 H2)(hd:∀ σ H,Pv xs.length σ H->D.nx σ H):
  ∃ W:Nat->Nat->St->Hp->Prop,(∃ m,W 0 m σ H)/\∀ i m σ H,W i m σ H ->
   ((Ez K a).stop i H/\D.nx σ H)\/((Ez K a).go i H/\∃ N:St->Hp->Prop,(∀ σ' H',N σ' H'->∃ m',m'<m/\W (i+1) m' σ' H')/\∀ x H',(Ez K a).yld i H x H'->g x σ H' λσ2 H2=>tb { D with nx:=N,ct:=N,bk:=D.nx } σ2 H2):=by
 refine⟨λi m σ H=>m=xs.length-i/\i<=xs.length/\Pv i σ H,⟨xs.length,by simp,Iz _,h0⟩,?_⟩;rintro i m σ H ⟨rfl,hi,p⟩;have q:=hl i σ H hi p
 by_cases hlt:i<xs.length
 ·refine .inr ⟨⟨xs,xs[i],q,by simp[hlt]⟩,Pv (i+1),λσ' H' p'=>⟨xs.length-(i+1),by lia,rfl,hlt,p'⟩,λx H' y=>?_⟩;obtain⟨e,y⟩:=y;subst e;exact hs i x σ _ (y xs q) p
 ·have e:i=xs.length:=by lia
  subst e;exact .inl ⟨⟨xs,q,GM _⟩,hd σ H p⟩
theorem zP {K:GB}{a:G7}{xs:List V}{g:TG}{tb:TS}{D:k_}{σ:St}{H:Hp} (Pv:Nat->St->Hp->Prop) (h0:Pv 0 σ H) (hl:∀ i σ H,i <= xs.length->Pv i σ H->fM K H a xs)
  (hs:∀ i x σ H,xs[i]?=some x->Pv i σ H->g x σ H λσ2 H2=>tb { D with nx:=Pv (i+1),ct:=Pv (i+1),bk:=D.nx } σ2 H2)(hd:∀ σ H,Pv xs.length σ H->D.nx σ H):
  ∃ W:Nat->Nat->St->Hp->Prop,(∃ m,W 0 m σ H)/\∀ i m σ H,W i m σ H ->
   ((Eg K a).stop i H/\D.nx σ H)\/((Eg K a).go i H/\∃ N:St->Hp->Prop,(∀ σ' H',N σ' H'->∃ m',m'<m/\W (i+1) m' σ' H')/\∀ x H',(Eg K a).yld i H x H'->g x σ H' λσ2 H2=>tb { D with nx:=N,ct:=N,bk:=D.nx } σ2 H2):=by
 refine⟨λi m σ H=>m=xs.length-i/\i<=xs.length/\Pv i σ H,⟨xs.length,by simp,Iz _,h0⟩,?_⟩;rintro i m σ H ⟨rfl,hi,p⟩;have q:=hl i σ H hi p
 by_cases hlt:i<xs.length
 ·refine .inr ⟨⟨xs,xs[i],q,by simp[hlt]⟩,Pv (i+1),λσ' H' p'=>⟨xs.length-(i+1),by lia,rfl,hlt,p'⟩,λx H' y=>?_⟩;obtain⟨e,y⟩:=y;subst e;exact hs i x σ _ (y xs q) p
 ·have e:i=xs.length:=by lia
  subst e;exact .inl ⟨⟨xs,q,GM _⟩,hd σ H p⟩
theorem ib {lo:Int}{n:Nat}{g:TG}{tb:TS}{D:k_}{σ:St}{H:Hp} (Pv:Nat->St->Hp->Prop) (h0:Pv 0 σ H)
  (hs:∀ i σ H,i<n->Pv i σ H->g (.int (lo+i)) σ H λσ2 H2=>tb { D with nx:=Pv (i+1),ct:=Pv (i+1),bk:=D.nx } σ2 H2)(hd:∀ σ H,Pv n σ H->D.nx σ H):
  ∃ W:Nat->Nat->St->Hp->Prop,(∃ m,W 0 m σ H)/\∀ i m σ H,W i m σ H ->
   ((yd lo n).stop i H/\D.nx σ H)\/((yd lo n).go i H/\∃ N:St->Hp->Prop,(∀ σ' H',N σ' H'->∃ m',m'<m/\W (i+1) m' σ' H')/\∀ x H',(yd lo n).yld i H x H'->g x σ H' λσ2 H2=>tb { D with nx:=N,ct:=N,bk:=D.nx } σ2 H2):=by
 refine⟨λi m σ H=>m=n-i/\i<=n/\Pv i σ H,⟨n,by simp,Iz _,h0⟩,?_⟩;rintro i m σ H ⟨rfl,hi,p⟩
 by_cases hlt:i<n
 ·refine .inr ⟨hlt,Pv (i+1),λσ' H' p'=>⟨n-(i+1),by lia,rfl,hlt,p'⟩,λx H' y=>?_⟩;obtain⟨e,y⟩:=y;subst e y;exact hs i σ _ hlt p
 ·have e:i=n:=by lia
  subst e;exact .inl ⟨GM _,hd σ H p⟩
abbrev R2:=V->V->Hp->VK->Prop
def fU (X:Cx)(f:GH->GH->Sem GH)(r:R2):Prop:=
 ∀ (pins:List (G7×Obj)) (s:GJ) (σ:St) (H:Hp) (x y:V) (v u:GH) (Q:VK),aw X pins σ H s->RelV x v->RelV y u->r x y H Q ->
  GW (Hl X.prog X.w) X.A (f v u) (EP X pins σ Q) X.xe s
def Ft (X:Cx)(f:GH->Sem GH)(r:V->Hp->VK->Prop):Prop:=
 ∀ (pins:List (G7×Obj)) (s:GJ) (σ:St) (H:Hp) (x:V) (v:GH) (Q:VK),aw X pins σ H s->RelV x v->r x H Q ->
  GW (Hl X.prog X.w) X.A (f v) (EP X pins σ Q) X.xe s
def br (X:Cx)(f:GH)(r:List V->Hp->VK->Prop):Prop:=
 ∀ (pins:List (G7×Obj)) (s:GJ) (σ:St) (H:Hp) (xs:List V) (us:List GH) (Q:VK),aw X pins σ H s->aI xs us->r xs H Q ->
  GW (Hl X.prog X.w) X.A (call f us) (EP X pins σ Q) X.xe s
def CQ (r:R2)(ta tb:TE):TE:=λσ H Q=>ta σ H λx H1=>tb σ H1 λy H2=>r x y H2 Q
def Gn (r:V->Hp->VK->Prop)(ta:TE):TE:=λσ H Q=>ta σ H λx H1=>r x H1 Q
inductive rI (C:Int->Int->Prop)(g:Int->Int->V)(x y:V)(H:Hp)(Q:VK):Prop
 |mk (i j:Int) (_:x=.int i) (_:y=.int j) (_:C i j) (_:Q (g i j) H)
inductive zy (g:Int->Int->V)(x y:V)(H:Hp)(Q:VK):Prop
 |mk (i j:Int) (_:x=.int i) (_:y=.int j) (_:Q (g i j) H)
def rU (g:Int->V):V->Hp->VK->Prop:=λx H Q=>∃ i,x=.int i/\Q (g i) H
section
variable {X:Cx}{a b c:JG}{ta tb tc:TE}{pos:Pos}
theorem C7 (ha:PE X a ta) (hb:PE X b tb) {pins:List (G7 × Obj)}{s:GJ}{σ:St}{H:Hp}{R:V->V->Hp->Prop} (I:aw X pins σ H s)
  (h:ta σ H λx H1=>tb σ H1 λy H2=>R x y H2){Q:GH->GJ->Prop}{f:GH->GH->Sem GH}
  (hf:∀ v u s2 x y H2,aw X pins σ H2 s2->RelV x v->RelV y u->R x y H2->GW (Hl X.prog X.w) X.A (f v u) Q X.xe s2):
  GW (Hl X.prog X.w) X.A (KH a X.env) (λv s₁=>GW (Hl X.prog X.w) X.A (KH b X.env) (λu s₂=>GW (Hl X.prog X.w) X.A (f v u) Q X.xe s₂) X.xe s₁) X.xe s:=by
 refine bf (ha pins s σ H _ I h) λv s1 ⟨x,H1,I1,r1,q1⟩=>?_
 refine bf (hb pins s1 σ H1 _ I1 q1) λu s2 ⟨y,H2,I2,r2,q2⟩=>?_
 exact hf v u s2 x y H2 I2 r1 r2 q2
theorem aq {op:Operator}{r:R2}(ho:fU X (Ni op) r)(ha:WE X a ta)(hb:WE X b tb):WE X (.BinOp a op b pos) (CQ r ta tb):=by
 have ha:=ha.go;have hb:=hb.go;refine⟨?_⟩;intro pins s σ H Q I h;exact wpAny_BinOp (C7 ha hb I h λv u s2 x y H2 I2 rx ry q=>ho pins s2 σ H2 x y v u Q I2 rx ry q)
theorem pF (ho:Ft X (unaryOp op) r)(ha:WE X a ta):WE X (.UnaryOp op a pos) (Gn r ta):=by
 have ha:=ha.go;refine⟨?_⟩;intro pins s σ H Q I h;exact UnaryOp_ (bf (ha pins s σ H _ I h) λv s1 ⟨x,H1,I1,r1,q1⟩=>ho pins s1 σ H1 x v Q I1 r1 q1)
theorem E3 {f:GH->GH->Sem GH}{C:Int->Int->Prop}{g:Int->Int->Int}
  (rule:∀ (i j:Int) (t u:Tok) (s:GJ) (Q:GH->GJ->Prop) (E:GH->GJ->Prop),C i j->Q (.int (g i j) s.toks) { s with toks:=s.toks+1 }->GW (Hl X.prog X.w) X.A (f (.int i t) (.int j u)) Q E s):
  fU X f (rI C λi j=>.int (g i j)):=by
 intro pins s σ H x y v u Q I rx ry h;obtain⟨i,j,rfl,rfl,hc,q⟩:=h;obtain⟨t,rfl⟩:=rx;obtain⟨t',rfl⟩:=ry;exact rule i j t t' s _ _ hc ⟨.int (g i j),H,I.tok _,⟨_,rfl⟩,q⟩
theorem Dz {f:GH->GH->Sem GH}{g:Int->Int->Int}
  (rule:∀ (i j:Int) (t u:Tok) (s:GJ) (Q:GH->GJ->Prop) (E:GH->GJ->Prop),Q (.int (g i j) s.toks) { s with toks:=s.toks+1 }->GW (Hl X.prog X.w) X.A (f (.int i t) (.int j u)) Q E s):
  fU X f (zy λi j=>.int (g i j)):=by
 intro pins s σ H x y v u Q I rx ry h;obtain⟨i,j,rfl,rfl,q⟩:=h;obtain⟨t,rfl⟩:=rx;obtain⟨t',rfl⟩:=ry;exact rule i j t t' s _ _ ⟨.int (g i j),H,I.tok _,⟨_,rfl⟩,q⟩
theorem vo {f:GH->GH->Sem GH}{g:Int->Int->Bool}
  (rule:∀ (i j:Int) (t u:Tok) (s:GJ) (Q:GH->GJ->Prop) (E:GH->GJ->Prop),Q (.bool (g i j)) s->GW (Hl X.prog X.w) X.A (f (.int i t) (.int j u)) Q E s):
  fU X f (zy λi j=>.bl (g i j)):=by
 intro pins s σ H x y v u Q I rx ry h;obtain⟨i,j,rfl,rfl,q⟩:=h;obtain⟨t,rfl⟩:=rx;obtain⟨t',rfl⟩:=ry;exact rule i j t t' s _ _ ⟨.bl (g i j),H,I,rfl,q⟩
def Fe (i j:Int):Prop:=0<=j/\j<=1000000/\i.natAbs<2^64
theorem bW:fU X (Ni .Add) (zy λi j=>.int (i+j)):=Dz λ_ _ _ _ _ _ _ q=>add_int q
theorem fu:fU X (Ni .Sub) (zy λi j=>.int (i-j)):=Dz λ_ _ _ _ _ _ _ q=>sub_int q
theorem gx:fU X (Ni .Mod) (rI (λ_ j=>0<j) λi j=>.int (i%j)):=E3 λi j _ _ _ _ _ hc q=>by
 have h1:(0:Int)<j:=hc;exact mod_int' (by lia) (by rw[Int.fmod_eq_emod_of_nonneg i (by lia)];exact q)
theorem xT:fU X (Ni .Pow) (rI Fe λi j=>.int (i^j.toNat)):=E3 λ_ _ _ _ _ _ _ hc q=>pow_int_small hc.1 hc.2.1 hc.2.2 q
theorem Gw {f:GH->Sem GH}{g:Int->Int}
  (rule:∀ (i:Int) (t:Tok) (s:GJ) (Q:GH->GJ->Prop) (E:GH->GJ->Prop),Q (.int (g i) s.toks) { s with toks:=s.toks+1 }->GW (Hl X.prog X.w) X.A (f (.int i t)) Q E s):
  Ft X f (rU λi=>.int (g i)):=by
 intro pins s σ H x v Q I rx h;obtain⟨i,rfl,q⟩:=h;obtain⟨t,rfl⟩:=rx;exact rule i t s _ _ ⟨.int (g i),H,I.tok _,⟨_,rfl⟩,q⟩
theorem pR:Ft X (unaryOp .USub) (rU λi=>.int (-i)):=Gw λ_ _ _ _ _ q=>neg_int q
end
section
variable {X:Cx}{a b c:JG}{ta tb tc:TE}{pos:Pos}
theorem yK (I:aw X pins σ H s)(q:Q (.bl k) H)(e:k=k'):EP X pins σ Q (.bool k') s:=by
 subst e;exact⟨.bl k,H,I,rfl,q⟩
theorem rS:fU X (Jo .Lt) (zy λi j=>.bl (decide (i<j))):=vo λ_ _ _ _ _ _ _ q=>lt_int q
theorem gC:fU X (Jo .LtE) (zy λi j=>.bl (decide (i<=j))):=vo λ_ _ _ _ _ _ _ q=>le_int q
theorem uH:fU X (Jo .Gt) (zy λi j=>.bl (decide (j<i))):=vo λ_ _ _ _ _ _ _ q=>gt_int q
theorem DX:fU X (Jo .GtE) (zy λi j=>.bl (decide (j<=i))):=vo λ_ _ _ _ _ _ _ q=>ge_int q
theorem vy:fU X (Jo .In) (λx y H Q=>∃ i j,x=.str i/\y=.str j/\Q (.bl (!(Jp j i 0 j.length 1).isEmpty)) H):=by
 intro pins s σ H x y v u Q I rx ry h;obtain⟨i,j,rfl,rfl,q⟩:=h;obtain⟨t,rfl⟩:=rx;obtain⟨t',rfl⟩:=ry;exact in_str (yK I q rfl)
theorem wX:fU X (Jo .Is) (λx y H Q=>y=.non/\Q (.bl (decide (x=.non))) H):=by
 intro pins s σ H x y v u Q I rx ry h;obtain⟨rfl,q⟩:=h;cases ry;refine is_none_gen (yK I q ?_);cases x<;>first
  |(cases rx;rfl)
  |(obtain⟨t,rfl⟩:=rx;rfl)
theorem aL (b:JG)(h:op≠.In:=by decide)(h2:op≠.NotIn:=by decide):OC op b=false:=by
 have e1:(op==CmpOp.In)=false:=by cases op<;>first|rfl|exact absurd rfl h
 have e2:(op==CmpOp.NotIn)=false:=by cases op<;>first|rfl|exact absurd rfl h2
 cases b<;>simp[OC,e1,e2]
theorem c6 (ho:fU X (Jo op) r)(ha:WE X a ta)(hb:WE X b tb)(hm:OC op b=false):WE X (.Compare a [op] [b] pos) (CQ r ta tb):=by
 have ha:=ha.go;have hb:=hb.go;refine⟨?_⟩;intro pins s σ H Q I h;exact wpAny_Compare1 (C7 ha hb I h λv u s2 x y H2 I2 rx ry q=>ho pins s2 σ H2 x y v u Q I2 rx ry q) hm
def BH (t:TE):TT:=λσ H Q=>t σ H λx H'=>Gc x H' Q
theorem aG (ho:fU X (Jo op) r)(ha:WE X a ta)(hb:WE X b tb)(hm:OC op b=false):WT X (.Compare a [op] [b] pos) (BH (CQ r ta tb)):=by
 have ha:=ha.go;have hb:=hb.go;refine⟨?_⟩;intro pins s σ H Q I h;refine wpAny_isTrue_Compare1 (bf (ha pins s σ H _ I h) λv s1 ⟨x,H1,I1,r1,q1⟩=>bf (hb pins s1 σ H1 _ I1 q1) λu s2 ⟨y,H2,I2,r2,q2⟩=>
  bf (ho pins s2 σ H2 x y v u _ I2 r1 r2 q2) λc s3 ⟨z,H3,I3,r3,k,e,q3⟩=>?_) hm
 subst e;cases r3;exact JD ⟨H3,I3,q3⟩
def xL (r r':R2)(ta tb tc:TE):TE:=λσ H Q=>ta σ H λx H1=>tb σ H1 λy H2=>r x y H2 λz H3=>∃ k,z=.bl k /\
 (if k=true then tc σ H3 λw' H4=>r' y w' H4 Q else Q (.bl false) H3)
theorem nM (ho:fU X (Jo op) r) (ho':fU X (Jo op') r') (ha:WE X a ta) (hb:WE X b tb) (hc:WE X c tc)
  (hm:lastMarks [op,op'] [b,c]=false:=by with_unfolding_all rfl):WE X (.Compare a [op,op'] [b,c] pos) (xL r r' ta tb tc):=by
 have ha:=ha.go;have hb:=hb.go;have hc:=hc.go;refine⟨?_⟩;intro pins s σ H Q I h;refine Compare_chain (bf (ha pins s σ H _ I h) λv s1 ⟨x,H1,I1,r1,q1⟩=>chain_link (bf (hb pins s1 σ H1 _ I1 q1) λu s2 ⟨y,H2,I2,r2,q2⟩=>
  bf (ho pins s2 σ H2 x y v u _ I2 r1 r2 q2) λd s3 ⟨z,H3,I3,r3,k,e,q3⟩=>?_)) hm
 subst e;cases r3;refine JD ?_;cases k with
 |false=>exact ite_ff ⟨.bl false,H3,I3,rfl,q3⟩
 |true=>exact ite_tt (chain_last (bf (hc pins s3 σ H3 _ I3 q3) λw' s4 ⟨z',H4,I4,r4,q4⟩=>ho' pins s4 σ H4 y z' u w' Q I4 r2 r4 q4))
theorem j6 (ho:fU X (Jo op) r) (ho':fU X (Jo op') r') (ha:WE X a ta) (hb:WE X b tb) (hc:WE X c tc)
  (hm:lastMarks [op,op'] [b,c]=false:=by with_unfolding_all rfl):WT X (.Compare a [op,op'] [b,c] pos) (BH (xL r r' ta tb tc)):=by
 have ha:=ha.go;have hb:=hb.go;have hc:=hc.go;refine⟨?_⟩;intro pins s σ H Q I h;refine isTrue_chain (bf (ha pins s σ H _ I h) λv s1 ⟨x,H1,I1,r1,q1⟩=>test_link (bf (hb pins s1 σ H1 _ I1 q1) λu s2 ⟨y,H2,I2,r2,q2⟩=>
  bf (ho pins s2 σ H2 x y v u _ I2 r1 r2 q2) λd s3 ⟨z,H3,I3,r3,k,e,q3⟩=>?_)) hm
 subst e;cases r3;refine JD ?_;cases k with
 |false=>
  obtain⟨k',e',q'⟩:=q3;cases e';exact ite_ff ⟨H3,I3,q'⟩
 |true=>
  refine ite_tt (test_last (bf (hc pins s3 σ H3 _ I3 q3) λw' s4 ⟨z',H4,I4,r4,q4⟩=>bf (ho' pins s4 σ H4 y z' u w' _ I4 r2 r4 q4) λd' s5 ⟨z2,H5,I5,r5,k2,e2,q5⟩=>?_));subst e2;cases r5;exact JD ⟨H5,I5,q5⟩
theorem iX:(GZ:Nat)<2^63:=by rw[Ji];decide
theorem bG:fU X (Ni .Add) (λx y H Q=>∃ i j,x=.str i/\y=.str j/\i.length+j.length<=GZ/\Q (.str (i++j)) H):=by
 intro pins s σ H x y v u Q I rx ry h;obtain⟨i,j,rfl,rfl,hz,q⟩:=h;obtain⟨t,rfl⟩:=rx;obtain⟨t',rfl⟩:=ry;exact add_str (λt' tk=>⟨.str (i++j),H,I.tok _,⟨_,rfl⟩,q⟩) hz
theorem fR (r:aI [x] us):∃ u,us=[u]/\RelV x u:=by
 cases r with
 |cons r1 r2=>cases r2;exact⟨_,rfl,r1⟩
theorem jy (r:aI [x,y] us):∃ u w',us=[u,w']/\RelV x u/\RelV y w':=by
 cases r with
 |cons r1 r2=>
  cases r2 with
  |cons r3 r4=>cases r4;exact⟨_,_,rfl,r1,r3⟩
theorem qy:br X (.builtin "abs") (λxs H Q=>∃ i,xs=[.int i]/\Q (.int (if i<0 then -i else i)) H):=by
 intro pins s σ H xs us Q I r h;obtain⟨i,rfl,q⟩:=h;obtain⟨u,rfl,t,rfl⟩:=fR r;exact call_abs_int λu tk=>⟨.int (if i<0 then -i else i),H,I.tok _,⟨_,rfl⟩,q⟩
theorem vt (hc:X.calm=true):br X (.builtin "max") (λxs H Q=>∃ i j,xs=[.int i,.int j]/\Q (.int (if j>i then j else i)) H):=by
 intro pins s σ H xs us Q I r h;obtain⟨i,j,rfl,q⟩:=h;obtain⟨u,w',rfl,⟨t,rfl⟩,⟨t',rfl⟩⟩:=jy r;refine max_two_ints (I.ok.hd hc) λh' tk k=>⟨_,H,I.kept k,?_,q⟩
 by_cases hj:j>i
 ·rw[Ie hj,Ie hj];exact⟨_,rfl⟩
 ·rw[Hu hj,Hu hj];exact⟨_,rfl⟩
theorem jP (hc:X.calm=true):br X (.builtin "min") (λxs H Q=>∃ i j,xs=[.int i,.int j]/\Q (.int (if j<i then j else i)) H):=by
 intro pins s σ H xs us Q I r h;obtain⟨i,j,rfl,q⟩:=h;obtain⟨u,w',rfl,⟨t,rfl⟩,⟨t',rfl⟩⟩:=jy r;refine min_two_ints (I.ok.hd hc) λh' tk k=>⟨_,H,I.kept k,?_,q⟩
 by_cases hj:j<i
 ·rw[Ie hj,Ie hj];exact⟨_,rfl⟩
 ·rw[Hu hj,Hu hj];exact⟨_,rfl⟩
theorem b9:br X (.type "str") (λxs H Q=>∃ i,xs=[.int i]/\i.natAbs.log2<1920/\Q (.str (toString i)) H):=by
 intro pins s σ H xs us Q I r h;obtain⟨i,rfl,hz,q⟩:=h;obtain⟨u,rfl,t,rfl⟩:=fR r;exact PySem.P.str_of_int hz ⟨.str _,H,I.tok _,⟨_,rfl⟩,q⟩
end
structure tE (h:JI)(x dx C:G7)(mA:Str->Option GH):Prop where
 obj:h.get? x=some (Jw C dx)
 ns:h.Ns1 dx mA
 ne:dx≠x
theorem vR {h:JI}{dx:G7}{mA:Str->Option GH}(n:h.Ns1 dx mA):∃ od,h.get? dx=some od/\∀ name,N2 name od=some (mA name):=by
 obtain⟨o,es,ep,ho,hd,hk,_,hm⟩:=n;refine⟨o,ho,λname=>?_⟩;have e:=hm name;unfold nsFind findBy at e;rw[<- Array.find?_toList] at e;unfold N2;rw[hd];dsimp only
 split
 ·rename_i y q
  rw[q] at e;exact KG some e
 ·rename_i q
  rw[q] at e;have a:es.toList.any (·.refKey)=false:=by
   rw[List.any_eq_false];intro y hy;obtain⟨z,t,hkey⟩:=hk y (Array.mem_toList_iff.mp hy);simp[DictEntry.refKey,hkey]
  have a':¬ es.toList.any (·.refKey)=true:=by rw[a];exact Hn
  rw[Hu a'];exact KG some e
theorem tE.look (I:tE h x dx C mA):∃ od,MX h x (Jw C dx) C (some od)/\∀ name,N2 name od=some (mA name):=
 let ⟨od,ho,hl⟩:=vR I.ns
 ⟨od,⟨I.obj,rfl,rfl,ho⟩,hl⟩
section
variable {prog:Hv}{w:IN}{A:IR}{E:GH->GJ->Prop}{s:GJ}{K:GB}{x dx C f:G7}{mA:Str->Option GH}{name:Str}{v:GH}
theorem AJ (X:K.In s.heap) (I:tE s.heap x dx C mA) (hg:LZ K C name=true) (hh:MO K C=true)
  (ha:Hw K (.ref C) name=some none)(hv:mA name=some v)(hv':Q5 v=true)(h:Q v { s with toks:=s.toks+1 }):
  GW (Hl prog w) A (getAttr (.ref x) name expr) Q E s:=by
 obtain⟨od,J,hl⟩:=I.look;exact PySem.W.get_value X J (Ny hg).1 (PySem.W.findObj_own hh ha rfl (by rw[hl,hv])) hv' h
theorem xI (X:K.In s.heap) (I:tE s.heap x dx C mA) (hg:LZ K C name=true)
  (hf:Hw K (.ref C) name=some (some (.ref f)))(ht:M4 K (.ref f)=true)(hv:mA name=none)(h:Q (.ref f,[.ref x]) s):
  GW (Hl prog w) A (getMethod (.ref x) name pl) Q E s:=by
 obtain⟨od,J,hl⟩:=I.look;exact PySem.W.method_fn X J (Ny hg).1 (Ny hg).2 hf (Jh.mp ht) (by show(N2 name od).map (·.isSome)=some false;rw[hl,hv];rfl) h
theorem AD (X:K.In s.heap) (I:tE s.heap x dx C mA)
  (hs:Hw K (.ref C) "__setattr__"=some (some (.builtin "object.__setattr__")))(hp:Oj K C=true)(ht:Pg K C name=some none)(hh:MO K C=true)
  (hw:QZ mA ns)(hsz:ns.length<=GZ)
  (h:∀ h',tE h' x dx C (λy=>if y=name then some v else mA y)->IH dx s.heap h'->Q () { s with heap:=h',toks:=s.toks+2 }):
  GW (Hl prog w) A (setAttr (.ref x) name v) Q E s:=by
 obtain⟨od,J,hl⟩:=I.look;refine PySem.W.set_plain X J hs (PySem.W.osa_open (s:={ s with toks:=s.toks+1 }) (r:=none) X J hp ht λb=>?_);obtain⟨cd,hc,hd'⟩:=PySem.W.any_some hh;have hx:s.heap.get? x=some ⟨.ref C,some dx,.plain,#[]⟩:=I.obj;refine Gz (GD (Gz (Gz (wpAny_loadPart hx (Gz (PySem.W.Looks.here (s:={ s with toks:=s.toks+1 }) (PySem.W.looks_clsIn X hc) ?_))))));rw[hd'];refine GD (a:=some dx) (Gz (GD (Gz ?_)));refine wpAny_nsSet1 (s:={ s with toks:=s.toks+1 }) I.ns λh' hn2 hs2=>?_
 obtain⟨oD,esD,epD,hoD,hdD,hcD⟩:=hn2.count (PySem.Within.cons name v hw);refine Gz (wpAny_lookBehind hoD (by rw[hdD];exact pastItsLine_dict (GV hcD (by rw[HR];lia))) ?_);exact GD (h _ ⟨(hs2.2 _ (Jj I.ne)).trans I.obj,hn2,I.ne⟩ hs2)
theorem wY (X:K.In s.heap) (hm:Nx K C=true)
  (hi:Hw K (.ref C) "__init__"=some (some (.ref f)))(hf:Kt K (.ref f)=some (.type "function"))
  (h:Ky (Hl prog w) (A.under (.builtin "type.__call__" ⟨.ref C::vs,kw⟩)) (.call (.ref f) ⟨.ref (s.heap.objs.size+1)::vs,kw⟩) (PySem.W.InitBack (s.heap.objs.size+1) R)
   { s with heap:=(s.heap.push JC).push (Jw C s.heap.objs.size) }) :
  Ky (Hl prog w) A (.call (.ref C) ⟨vs,kw⟩) R s:=by
 obtain⟨hh,g,d,t,os⟩:=s;exact PySem.W.make_core (PySem.W.makes_of X hm) (KP X hi) (λself=>PySem.W.bind_fn X self hf) (.inl rfl) h
end
def dC (f:Str)(v:V):List (Str×V)->List (Str×V)
 |[]=>[(f,v)]
 |(g,x)::r=>if g=f then(g,v)::r else(g,x)::dC f v r
theorem ku (f g:Str)(v:V):∀ fs:List (Str×V),(dC f v fs).lookup g=if g=f then some v else fs.lookup g
 |[]=>by
  show LB g [(f,v)]=_
  by_cases h:g=f
  ·have hb:(g==f)=true:=Jh.mpr h;simp only[LB,hb,Ie h]
  ·have hb:(g==f)=false:=Jn.mpr h;simp only[LB,hb,Hu h]
 |(k,x)::r=>by
  have ih:=ku f g v r;rw[show dC f v ((k,x)::r)=(if k=f then(k,v)::r else(k,x)::dC f v r) from rfl]
  by_cases hk:k=f
  ·rw[Ie hk]
   by_cases h:g=k
   ·have hb:(g==k)=true:=Jh.mpr h;simp only[LB,hb,Ie (h.trans hk)]
   ·have hb:(g==k)=false:=Jn.mpr h;simp only[LB,hb,Hu (λe:g=f=>h (e.trans hk.symm))]
  ·rw[Hu hk]
   by_cases h:g=k
   ·have hb:(g==k)=true:=Jh.mpr h;simp only[LB,hb,Hu (λe:g=f=>hk (h.symm.trans e))]
   ·have hb:(g==k)=false:=Jn.mpr h;simp only[LB,hb];exact ih
theorem jQ (f:Str)(v:V):∀ fs:List (Str×V),f∈(dC f v fs).map (·.1)/\∀ g,g∈fs.map (·.1)->g∈(dC f v fs).map (·.1)
 |[]=>⟨by simp[dC],λg h=>by simp at h⟩
 |(k,x)::r=>by
  obtain⟨i1,i2⟩:=jQ f v r;rw[show dC f v ((k,x)::r)=(if k=f then(k,v)::r else(k,x)::dC f v r) from rfl]
  by_cases hk:k=f
  ·rw[Ie hk];subst hk;exact⟨by simp,λg h=>by simpa using h⟩
  ·rw[Hu hk];refine⟨?_,λg h=>?_⟩
   ·rw[G_];exact GK _ i1
   ·rw[G_] at h ⊢;rcases GR.mp h with e|e
    ·exact GR.mpr (.inl e)
    ·exact GK _ (i2 g e)
theorem kj (f:Str)(v:V):∀ fs:List (Str×V),(dC f v fs).length<=fs.length+1
 |[]=>by simp[dC]
 |(k,x)::r=>by
  have ih:=kj f v r;rw[show dC f v ((k,x)::r)=(if k=f then(k,v)::r else(k,x)::dC f v r) from rfl]
  by_cases hk:k=f
  ·rw[Ie hk,HR,HR];lia
  ·rw[Hu hk,HR,HR];lia
theorem ij.some_of (r:ij (some v) o):∃ u,o=some u/\RelV v u:=by
 cases o with
 |none=>exact(show False from r).elim
 |some u=>exact⟨u,rfl,r⟩
theorem ij.none_of (r:ij none o):o=none:=by
 cases o with
 |none=>rfl
 |some u=>exact(show False from r).elim
theorem wj (r:RelV v u):Q5 u=true:=by
 cases v with
 |non=>cases(show u=Ia from r);rfl
 |bl b=>cases(show u=Nk b from r);rfl
 |int i=>obtain⟨t,e⟩:=(show ∃ t,u=LW i t from r);cases e;rfl
 |str x=>obtain⟨t,e⟩:=(show ∃ t,u=Pm x t from r);cases e;rfl
 |byt b=>obtain⟨t,e⟩:=(show ∃ t,u=Value.bytes b t from r);cases e;rfl
 |flt b=>obtain⟨t,e⟩:=(show ∃ t,u=Rh b t from r);cases e;rfl
 |ref a=>cases(show u=Ht a from r);rfl
 |ty n=>cases(show u=Kj n from r);rfl
section
variable {P:Hv}{w:IN}{H H':Hp}{h h':JI}{a C dx:G7}{fs fs':List (Str×V)}
theorem jh (hok:il P w H h)(e:H a=some (.ins C dx fs)):∃ mA,tE h a dx C mA/\(∀ f,ij (fs.lookup f) (mA f))/\QZ mA (fs.map (·.1))/\fs.length<=1000/\H dx=some (.own a):=by
 obtain⟨d,z,ne,ob,mA,n,r,q⟩:=(show bc P w H h a (.ins C dx fs) from hok a _ e)
 exact⟨mA,⟨ob,n,ne⟩,r,q,z,d⟩
end
structure Cg (K:GB)(C:G7):Prop where
 pg:LZ K C Qq=true
 hd:MO K C=true
 po:Oj K C=true
 sa:Hw K (.ref C) "__setattr__"=some (some (.builtin "object.__setattr__"))
theorem Cg.get {K:GB}{C:G7}(c:Cg K C)(f:Str):LZ K C f=true:=c.pg
def lP (K:GB)(C:G7)(f:Str):Prop:=Hw K (.ref C) f=some none
theorem lP.taker {K:GB}{C:G7}{f:Str}(n:lP K C f):Pg K C f=some none:=by
 unfold Pg;rw[show Hw K (.ref C) f=some none from n];rfl
structure BN (K:GB)(C:G7)(m:Str)(f:G7):Prop where
 at_:Hw K (.ref C) m=some (some (.ref f))
 fn:M4 K (.ref f)=true
 kp:IK K (.ref f)=true
section
variable {X:Cx}{pins:List (G7×Obj)}{σ:St}{H:Hp}{s:GJ}{a C dx:G7}{fs:List (Str×V)}{f:Str}{v:V}{A:IR}{E:GH->GJ->Prop}
theorem tG (I:aw X pins σ H s) (e:H a=some (.ins C dx fs)) (c:Cg X.K C) (n:lP X.K C f) (l:fs.lookup f=some v)
  (h:∀ u s',aw X pins σ H s'->RelV v u->Q u s'):GW (Hl X.prog X.w) A (getAttr (.ref a) f b) Q E s:=by
 obtain⟨mA,O,r,_,_,_⟩:=jh I.hok e;obtain⟨u,hu,ru⟩:=ij.some_of (v:=v) (o:=mA f) (by rw[<- l];exact r f);exact AJ I.kIn O (c.get f) c.hd n hu (wj ru) (h u _ (I.tok _) ru)
theorem ma (I:aw X pins σ H s) (e:H a=some (.ins C dx fs)) (c:Cg X.K C) (k:BN X.K C m g) (l:fs.lookup m=none)
  (h:Q (.ref g,[.ref a]) s):GW (Hl X.prog X.w) A (getMethod (.ref a) m pl) Q E s:=by
 obtain⟨mA,O,r,_,_,_⟩:=jh I.hok e;have hn:mA m=none:=ij.none_of (by rw[<- l];exact r m);exact xI I.kIn O (c.get m) k.at_ k.fn hn h
theorem tF (I:aw X pins σ H s) (e:H a=some (.ins C dx fs)) (c:Cg X.K C) (n:lP X.K C f) (hl:fs.length < 1000) (ry:RelV y u)
  (h:∀ s',aw X pins σ (upd H a (.ins C dx (dC f y fs))) s'->Q () s'):GW (Hl X.prog X.w) A (setAttr (.ref a) f u) Q E s:=by
 obtain⟨mA,O,r,wi,_,ho⟩:=jh I.hok e;have hz:(fs.map (·.1)).length<=GZ:=by rw[GG,Ji];lia
 refine AD I.kIn O c.sa c.po n.taker c.hd wi hz λh' O' sb=>h _ ?_
 have hd:∃ o,h'.get? dx=some o:=let ⟨o,_,_,e',_⟩:=O'.ns;⟨o,e'⟩
 refine I.write (x:=a) (e:=dx) (by rw[e];exact True.intro) (.inr ho) (λb q hb z=>(sb.2 b hb).trans z) hd ?_;refine⟨by rw[ap O.ne];exact ho,?_,O.ne,O'.obj,_,O'.ns,λg=>?_,λg hg=>?_⟩
 ·have:=kj f y fs;lia
 ·show ij ((dC f y fs).lookup g) (if g=f then some u else mA g);rw[ku]
  by_cases q:g=f
  ·rw[Ie q,Ie q];exact ry
  ·rw[Hu q,Hu q];exact r g
 ·by_cases q:g=f
  ·rw[q];exact(jQ f y fs).1
  ·refine(jQ f y fs).2 g (wi g λz=>hg ?_);show(if g=f then some u else mA g)=none;rw[Hu q];exact z
theorem aw.made (I:aw X pins σ H s):aw X pins σ (upd (upd H s.heap.objs.size (.own (s.heap.objs.size + 1))) (s.heap.objs.size + 1) (.ins C s.heap.objs.size []))
  { s with heap:=(s.heap.push JC).push (Jw C s.heap.objs.size) }:=by
 have e1:(s.heap.push JC).get? s.heap.objs.size=some JC:=GL s.heap rfl;have e2:((s.heap.push JC).push (Jw C s.heap.objs.size)).get? (s.heap.objs.size+1)=some (Jw C s.heap.objs.size):=by
  have:=GL (s.heap.push JC) (o:=Jw C s.heap.objs.size) rfl
  rwa [II] at this
 have e3:(s.heap.push JC).Ns s.heap.objs.size (λ_=>none):=⟨JC,#[],_,e1,rfl,(λe he=>absurd he (by simp)),λ_=>rfl⟩
 have I1:=I.laid (a:=s.heap.objs.size) (o:=.own (s.heap.objs.size+1)) (h':=s.heap.push JC) (t':=s.toks) (λb u q=>GC _ q) (GM _) ⟨_,e1⟩;refine I1.laid (a:=s.heap.objs.size+1) (o:=.ins C s.heap.objs.size []) (t':=s.toks) (λb u q=>GC _ q) (Nat.le_of_eq (II _ _)) ?_;have ne:s.heap.objs.size≠s.heap.objs.size+1:=Hk (JS _);refine⟨by rw[ap ne,af],Iz _,ne,e2,λ_=>none,(Heap.Ns1.of_empty e3).at λo q=>GC _ q,λ_=>True.intro,λy hy=>absurd rfl hy⟩
theorem AN (hb:Mx e f env (KH e env)=KH e env)
  (h:GW (Hl prog w) A (KH e env) (λo s₁=>GW (Hl prog w) A (getAttr o f true) Q E s₁) E s):GW (Hl prog w) A (KH (.Attribute e f pos) env) Q E s:=
 Attribute_any_ h (by rw[arm_eval_Attribute,hb])
end
section
variable {X:Cx}{pins:List (G7×Obj)}{σ:St}{H:Hp}{s:GJ}{A:IR}{E:GH->GJ->Prop}{Q:GH->GJ->Prop}{c:GH}{b:Bool}
inductive jx (K:GB)(H:Hp):V->GH->Prop where
 |non:jx K H .non (.type "NoneType")
 |bl (x:Bool):jx K H (.bl x) (.type "bool")
 |int (i:Int):jx K H (.int i) (.type "int")
 |str (x:Str):jx K H (.str x) (.type "str")
 |flt (x:UInt64):jx K H (.flt x) (.type "float")
 |lst {a:G7}{xs:List V} (e:H a=some (.lst xs)):jx K H (.ref a) (.type "list")
 |frz {a:G7}{o:Obj}{xs:List V} (e:H a=some (.frz o (.lst xs))):jx K H (.ref a) (.type "list")
 |tup {a:G7}{xs:List V} (e:H a=some (.tup xs)):jx K H (.ref a) (.type "tuple")
 |dK {a:G7}{kvs:List (cS×V)} (e:H a=some (.dK kvs)):jx K H (.ref a) (.type "dict")
 |dT {a:G7}{kvs:List (List cS×V)} (e:H a=some (.dT kvs)):jx K H (.ref a) (.type "dict")
 | ins {a C dx:G7}{fs:List (Str × V)} (e:H a=some (.ins C dx fs)) (cl:Cg K C) (ha:Hw K (.ref C) "__class__"=some (some (.builtin "object.__class__")))
   (hn:MP K (.builtin "object.__class__") "__get__"=some (some (.builtin "getset_descriptor.__get__")))(htk:Nz K (.builtin "object.__class__")=some true)
   (hm:Mu K C (.type "object")=some true):jx K H (.ref a) (.ref C)
theorem B4 (I:aw X pins σ H s)(rx:RelV x u)(ty:jx X.K H x t):∃ Z,PySem.W.KitX X.K u t Z/\Z s.heap/\u≠.builtin "__main__.__loader__#opaque":=by
 cases ty with
 |non=>cases(show u=Ia from rx);exact⟨_,PySem.W.kitx_none,True.intro,λz=>nomatch z⟩
 |bl y=>cases(show u=Nk y from rx);exact⟨_,PySem.W.kitx_bool,True.intro,λz=>nomatch z⟩
 |int i=>obtain⟨t,q⟩:=(show ∃ t,u=LW i t from rx);cases q;exact⟨_,PySem.W.kitx_int,True.intro,λz=>nomatch z⟩
 |str y=>obtain⟨t,q⟩:=(show ∃ t,u=Pm y t from rx);cases q;exact⟨_,PySem.W.kitx_str,True.intro,λz=>nomatch z⟩
 |flt y=>obtain⟨t,q⟩:=(show ∃ t,u=Rh y t from rx);cases q;exact⟨_,PySem.W.kitx_float,True.intro,λz=>nomatch z⟩
 |@lst a xs ea=>
  cases(show u=Ht a from rx);obtain⟨_,_,n,_,h1⟩:=(show bc X.prog X.w H s.heap a (.lst xs) from I.hok a _ ea)
  exact⟨_,QG,⟨_,h1,rfl⟩,λz=>nomatch z⟩
 |@frz a ob xs ea=>
  cases(show u=Ht a from rx);obtain⟨_,_,_,n,_,h1⟩:=(show bc X.prog X.w H s.heap a (.frz ob (.lst xs)) from I.hok a _ ea)
  exact⟨_,QG,⟨_,h1,rfl⟩,λz=>nomatch z⟩
 |@tup a xs ea=>
  cases(show u=Ht a from rx);obtain⟨_,_,_,p⟩:=(show bc X.prog X.w H s.heap a (.tup xs) from I.hok a _ ea)
  obtain⟨o,h1,h2,_⟩:=p;exact⟨_,Qi,⟨o,h1,h2⟩,λz=>nomatch z⟩
 |@dK a kvs ea=>
  cases(show u=Ht a from rx);obtain⟨_,_,vs,_,p⟩:=(show bc X.prog X.w H s.heap a (.dK kvs) from I.hok a _ ea)
  obtain⟨o,es,ep,h1,h2,_⟩:=p;exact⟨_,QF,⟨o,h1,h2.1⟩,λz=>nomatch z⟩
 |@dT a kvs ea=>
  cases(show u=Ht a from rx);obtain⟨_,_,xs,_,o,es,ep,h1,h2,_⟩:=(show bc X.prog X.w H s.heap a (.dT kvs) from I.hok a _ ea)
  exact⟨_,QF,⟨o,h1,h2.1⟩,λz=>nomatch z⟩
 |@ins a C dx fs ea cl ha hn htk hm=>
  cases(show u=Ht a from rx);obtain⟨mA,O,_⟩:=jh I.hok ea;obtain⟨od,J,_⟩:=O.look;exact⟨_,(PySem.W.kitx_own (cl.get _) cl.hd ha hn htk hm),J,λz=>nomatch z⟩
theorem gU (I:aw X pins σ H s) (rx:RelV x u) (ty:jx X.K H x t) (e:Jx X.K t c=some b) (h:∀ tk,Q (.bool b) { s with toks:=tk }) :
  GW (Hl X.prog X.w) A (call (.builtin "isinstance") [u,c]) Q E s:=by
 obtain⟨Z,a,b,c⟩:=B4 I rx ty;exact Pe a I.kIn b e c h
end
structure Room (k:Nat)(A:IR):Prop where
 hd:A.handled=none
 dp:A.depth+3*k+5<recursionLimit
 un:A.units+16*k+200<cLine
theorem Room.mono {j k:Nat}(r:Room k A)(h:j<=k):Room j A:=⟨r.hd,by have:=r.dp;lia,by have:=r.un;lia⟩
theorem Room.deeper {k:Nat}(r:Room (k+1) A)(env:Env):Room k (A.deeper env):=
 ⟨r.hd,by have:=r.dp;show A.depth+1+3*k+5<_;lia,by have:=r.un;show A.units+3+16*k+200<_;lia⟩
theorem tj {A:IR}{C:G7}{us:List GH}{kw:List (Str×GH)}:(A.under (.builtin "type.__call__" ⟨.ref C::us,kw⟩)).depth=A.depth+1:=by
 first|rfl|simp[QO,Code.weight,Code.isCreation,Code.isGuard,Code.isCaller,Code.frames,QR,guardIds]
theorem tJ {A:IR}{C:G7}{us:List GH}{kw:List (Str×GH)}:(A.under (.builtin "type.__call__" ⟨.ref C::us,kw⟩)).units=A.units+1:=by
 first|rfl|simp[QO,Code.cUnits,Code.frames,QR]
theorem Room.make {k:Nat}(r:Room (k+1) A)(C:G7)(us:List GH)(kw:List (Str×GH)):Room k (A.under (.builtin "type.__call__" ⟨.ref C::us,kw⟩)):=
 ⟨r.hd,by have:=r.dp;rw[tj];lia,by have:=r.un;rw[tJ];lia⟩
theorem Room.depth {k:Nat}(r:Room k A):A.depth<recursionLimit:=by have:=r.dp;lia
theorem Room.units {k:Nat}(r:Room k A):A.units+64<cLine:=by have:=r.un;lia
def Bk:TA:=λ_ H Q=>Q [] H
def eZ (ta:TE)(tr:TA):TA:=λσ H Q=>ta σ H λx H1=>tr σ H1 λxs H2=>Q (x::xs) H2
section
variable {X:Cx}{e:JG}{es:List JG}{te:TE}{t:TA}{pos:Pos}
theorem aY:WA X [] Bk:=by
 exact⟨λ_ _ _ _ H Q I h=>N9 ⟨[],H,I,.nil,h⟩⟩
theorem uJ (ha:PE X e te)(hr:PA X es t)(hs:G9 (e::es) X.env=(false,KH e X.env)::G9 es X.env:=by rfl):PA X (e::es) (eZ te t):=by
 intro pos pins s σ H Q I h;rw[hs];show GW _ _ (spliced ((false,KH e X.env)::Lh pos (G9 es X.env))) _ _ s;refine Kg (bf (ha pins s σ H _ I h) λu s1 ⟨x,H1,I1,r1,q1⟩=>?_);exact bf (hr pos pins s1 σ H1 _ I1 q1) λus s2 ⟨xs,H2,I2,r2,q2⟩=>⟨x::xs,H2,I2,.cons r1 r2,q2⟩
def F0 (t:TA):TE:=λσ H Q=>t σ H λxs H1=>xs.length<=GZ/\∀ p,H1 p=none->Q (.ref p) (upd H1 p (.tup xs))
def F9 (t:TA):TE:=λσ H Q=>t σ H λxs H1=>xs.length<=GZ/\∀ p,H1 p=none->Q (.ref p) (upd H1 p (.lst xs))
theorem eF {x1}(h:WA X es t):WE X (.Tuple es x1 pos) (F0 t):=by
 have h:=h.go;refine⟨?_⟩;intro pins s σ H Q I hq;refine wpAny_Tuple_spliced (bf (h pos pins s σ H _ I hq) λus s1 ⟨xs,H1,I1,r,z,q⟩=>⟨by rw[<- r.length];exact z,?_⟩);have hf:H1 s1.heap.objs.size=none:=I1.hok.fresh (GM _);refine⟨.ref s1.heap.objs.size,upd H1 s1.heap.objs.size (.tup xs),I1.laid (t':=s1.toks) (λb u e=>GC _ e) (GM _) ?_,rfl,q _ hf⟩;exact⟨z,us,r,⟨_,GL _ rfl,rfl,_,rfl⟩⟩
theorem a_ (h:WA X es t):WE X (.List es pos) (F9 t):=by
 have h:=h.go;refine⟨?_⟩;intro pins s σ H Q I hq;refine wpAny_List_spliced (bf (h pos pins s σ H _ I hq) λus s1 ⟨xs,H1,I1,r,z,q⟩=>⟨by rw[<- r.length];exact z,?_⟩);have hf:H1 s1.heap.objs.size=none:=I1.hok.fresh (GM _);refine⟨.ref s1.heap.objs.size,upd H1 s1.heap.objs.size (.lst xs),I1.laid (t':=s1.toks) (λb u e=>GC _ e) (GM _) ?_,rfl,q _ hf⟩;exact⟨z,us,0,r,GL _ rfl⟩
end
abbrev Sp:=List V->Hp->VK->XK->Prop
abbrev jE:=List Env->Hp->GJ->XK->GH->GJ->Prop
structure tV (P:Hv)(w:IN)(K:GB)(mg:Str->Option GH)(base:JI)(A:IR)(outer:List Env)(s:GJ)(H:Hp):Prop where
 frames:A.frames=some outer
 mod:Mod K mg base
 bs:∀ b o,base.get? b=some o->s.heap.get? b=some o/\H b=none
 bsz:base.objs.size<=s.heap.objs.size
 funs:s.heap.FunFrames base outer
 frf:∀ b∈dX outer,H b=none
 hok:il P w H s.heap
 bare:OY s.gens
def CE (outer:List Env)(P:Hv)(w:IN)(H:Hp)(s:GJ)(Q:VK)(u:GH)(s':GJ):Prop:=
 ∃ v H',s'.os=s.os/\OY s'.gens/\Un (dX outer) [] H H' s.heap s'.heap/\il P w H' s'.heap/\RelV v u/\Q v H'
def CR (CX:jE)(outer:List Env)(P:Hv)(w:IN)(H:Hp)(s:GJ)(Q:VK)(E:XK)(r:Ql)(s':GJ):Prop:=
 match r with
 |.ok (.ret u)=>CE outer P w H s Q u s'
 |.ok _=>False
 |.error e=>CX outer H s E e s'
structure i9 (P:Hv)(w:IN)(K:GB)(mg:Str->Option GH)(base:JI)(CX:jE)(k:Nat)(f:G7)(fd:KN)(ps:List Str)(sp:Sp):Prop where
 len:∀ vs H Q E,sp vs H Q E->vs.length=ps.length
 run:∀ (A:IR) (outer:List Env) (s:GJ) (H:Hp) (args:Args) (us:List GH) (vs:List V) (Q:VK) (E:XK),Room k A->tV P w K mg base A outer s H->Rc s fd args (ps.zip us)->aI vs us->sp vs H Q E ->
  Ky (Hl P w) A (.call (.ref f) args) (CR CX outer P w H s Q E) s
theorem tV.make {P:Hv}{w:IN}{K:GB}{mg:Str->Option GH}{base:JI}{A:IR}{outer:List Env}{s:GJ}{H:Hp} (e:tV P w K mg base A outer s H) (C:G7) (us:List GH) (kw:List (Str × GH)) :
  tV P w K mg base (A.under (.builtin "type.__call__" ⟨.ref C::us,kw⟩)) outer s H:=⟨by first|exact e.frames|(simpa [QO,Code.envs,QR,pushEnvs] using e.frames),e.mod,e.bs,e.bsz,e.funs,e.frf,e.hok,e.bare⟩
section
variable {X:Cx}{pins:List (G7×Obj)}{σ:St}{H:Hp}{s s':GJ}
theorem aw.env0 (I:aw X pins σ H s):tV X.prog X.w X.K X.mg X.base X.A X.stack s H:=
 ⟨I.ok.frames,I.ok.mod,I.bs,GV I.ok.bsz I.sz,I.stack,I.stkFree,I.hok,I.bare⟩
theorem aw.after (I:aw X pins σ H s)(h:CE X.stack X.prog X.w H s Q u s'):EP X pins σ Q u s':=by
 obtain⟨v,H',os,bare,un,hok,r,q⟩:=h;obtain⟨hh,g,d,t,os'⟩:=s';obtain rfl:os'=s.os:=os;exact⟨v,H',I.call (h':=hh) (g':=g) (d':=d) (t':=t) (ch:=[]) un hok bare (λb z=>absurd z (by simp)),r,q⟩
end
def yB (sp:Sp)(dvs:List V)(E:XK)(t:TA):TE:=λσ H Q=>t σ H λvs H1=>sp (vs++dvs) H1 Q E
def iD (K:GB)(fd:KN)(ps:List Str)(ds:List GH):Prop:=
 ∀ (s:GJ) (us:List GH),K.In s.heap->(us++ds).length=ps.length->Rc s fd ⟨us,[]⟩ (ps.zip (us++ds))
theorem iD.all {K:GB}{fd:KN}{ps:List Str}(h:∀ us:List GH,us.length=ps.length->Kr fd ⟨us,[]⟩=pure (ps.zip us)):iD K fd ps []:=λs us _ hl=>by
 rw[O5] at hl ⊢;exact .of_eq (h us hl)
def o0 (CX:jE)(X:Cx)(E:XK):Prop:=∀ (pins:List (G7×Obj)) (σ:St) (H:Hp) (s:GJ) (e:GH) (s':GJ),aw X pins σ H s->CX X.stack H s E e s'->X.xe e s'
section
variable {X:Cx}{CX:jE}{k:Nat}{f C:G7}{fd:KN}{ps:List Str}{sp:Sp}{dvs:List V}{ds:List GH}{E:XK}{x m:Str}{p pos apos:Pos}{e o:JG}{es:List JG}{ta:TE}{t:TA}
theorem tQ (F:i9 X.prog X.w X.K X.mg X.base CX k f fd ps sp) (hr:Room k X.A) (hb:iD X.K fd ps ds) (hd:aI dvs ds) (hx:o0 CX X E)
  (I:aw X pins σ H s)(r:aI vs us)(h:sp (vs++dvs) H Q E):GW (Hl X.prog X.w) X.A (call (.ref f) us) (EP X pins σ Q) X.xe s:=by
 have r2:aI (vs++dvs) (us++ds):=r.append hd;have hl:(us++ds).length=ps.length:=by rw[<- r2.length];exact F.len _ _ _ _ h
 refine Mf (K9 (F.run X.A X.stack s H ⟨us,[]⟩ (us++ds) (vs++dvs) Q E hr I.env0 (hb s us I.kIn hl) r2 h) λr s' hq=>?_);cases r with
 |error e=>exact hx pins σ H s e s' I hq
 |ok fl=>
  cases fl with
  |ret u=>exact I.after hq
  |next=>exact Kh hq
  |brk=>exact Kh hq
  |cont=>exact Kh hq
theorem Ag (F:i9 X.prog X.w X.K X.mg X.base CX k f fd ps sp) (hr:Room k X.A) (hg:Gl X x) (hm:X.mg x=some (.ref f)) (hk:IK X.K (.ref f)=true) (hb:iD X.K fd ps ds) (hd:aI dvs ds) (hx:o0 CX X E)
  (ha:PA X (e::es) t)(hdb:(x==("__debug__":Str))=false:=by decide)(he:G9 (e::es) X.env=(false,KH e X.env)::G9 es X.env:=by rfl)(hpl:(Lh pos (G9 es X.env)).any (·.1)=false:=by rfl):
  PE X (.Call (.Name x p) (e::es) [] pos) (yB sp dvs E t):=by
 intro pins s σ H Q I h;refine Kk (eM I hg hm ?_ hdb);refine Ls (h₀:=X.base) I.ok.mod.kin hk (bf (ha pos pins s σ H _ I h) λus s1 ⟨vs,H1,I1,r,q⟩=>⟨I1.kIn,?_⟩) he hpl;exact tQ F hr hb hd hx I1 r q
structure Mk (K:GB)(C f:G7):Prop where
 makes:Nx K C=true
 init:Hw K (.ref C) "__init__"=some (some (.ref f))
 fn:M4 K (.ref f)=true
 kp:IK K (.ref C)=true
theorem zo (M:Mk X.K C f) (F:i9 X.prog X.w X.K X.mg X.base CX k f fd ps sp) (hr:Room (k + 1) X.A) (hb:iD X.K fd ps ds) (hd:aI dvs ds)
  (hx:o0 CX X E)(I:aw X pins σ H s)(r:aI vs us)
  (h:∀ x dx,H x=none->H dx=none->dx≠x->sp (.ref x::(vs++dvs)) (upd (upd H dx (.own x)) x (.ins C dx [])) (λv H2=>v=.non/\Q (.ref x) H2) E):
  GW (Hl X.prog X.w) X.A (call (.ref C) us) (EP X pins σ Q) X.xe s:=by
 have hq:=h (s.heap.objs.size+1) s.heap.objs.size (I.hok.fresh (Ow _)) (I.hok.fresh (GM _)) (Hk (JS _));have I2:=aw.made (C:=C) I;have r2:aI (V.ref (s.heap.objs.size+1)::(vs++dvs)) (Ht (s.heap.objs.size+1)::(us++ds)):=.cons rfl (r.append hd);have hl:(Ht (s.heap.objs.size+1)::us++ds).length=ps.length:=by
  have e:=r2.length;rw[F.len _ _ _ _ hq] at e;exact e.symm
 refine Mf (wY (f:=f) I.kIn M.makes M.init (Jh.mp M.fn) (K9 (F.run _ X.stack _ _ ⟨Ht (s.heap.objs.size+1)::us,[]⟩ (Ht (s.heap.objs.size+1)::(us++ds)) _ _ E (hr.make C us [])
  (I2.env0.make C us []) (hb _ (Ht (s.heap.objs.size+1)::us) I2.kIn hl) r2 hq) λr s' hq'=>?_))
 cases r with
 |error e=>exact hx pins σ _ _ e s' I2 hq'
 |ok fl=>
  cases fl with
  |ret u=>
   obtain⟨v,H',I3,rv,ev,q3⟩:=I2.after hq';subst ev;exact⟨rv,⟨V.ref (s.heap.objs.size+1),H',I3,rfl,q3⟩⟩
  |next=>exact Kh hq'
  |brk=>exact Kh hq'
  |cont=>exact Kh hq'
end
structure aD (N P:List Str)(sc:LF):Prop where
 kind:sc.kind=.function
 co:sc.isCoroutine=false
 gen:sc.isGenerator=false
 nd:N.Nodup
 pre:N.take P.length=P
 par:∀ x∈P,sc.names.lookup x=some .local\/sc.names.lookup x=some .cell
 nofree:∀ y∈sc.names,y.2≠.free
theorem nQ {kindOf:Str->Option LL}{x:Str}:∀ {binds:List (Str×GH)}{m:Str->Option GH},(∀ v,(x,v)∉binds)->bindL kindOf binds m x=m x
 |[],_,_=>rfl
 |(n,v)::r,m,h=>by
  unfold bindL;rw[nQ λw hw=>h w (GK _ hw)]
  split
  ·have:x≠n:=by rintro rfl;exact h v GX
   simp[this]
  ·rfl
theorem n_ {kindOf:Str->Option LL}{x:Str}:∀ {binds:List (Str×GH)}{m:Str->Option GH},(∀ v,(x,v)∉binds)->bindC kindOf binds m x=m x
 |[],_,_=>rfl
 |(n,v)::r,m,h=>by
  unfold bindC;rw[n_ λw hw=>h w (GK _ hw)]
  split
  ·rfl
  ·have:x≠n:=by rintro rfl;exact h v GX
   simp[this]
theorem nY {kindOf:Str->Option LL}{x:Str}{v:GH}:∀ {P:List Str}{vs:List GH}{i:Nat}{m:Str->Option GH},P.Nodup->P[i]?=some x->vs[i]?=some v->kindOf x=some .local ->
  bindL kindOf (P.zip vs) m x=some v
 |[],_,_,_,_,h,_,_=>by simp at h
 |_::_,[],_,_,_,_,h,_=>by simp at h
 |p::P,w::vs,0,m,nd,h1,h2,hk=>by
  simp at h1 h2;subst h1;subst h2;show bindL kindOf ((p,w)::P.zip vs) m p=_;unfold bindL;rw[nQ λv hv=>(Jv.mp nd).1 (KW hv).1,Ie hk];simp
 |p::P,w::vs,i+1,m,nd,h1,h2,hk=>by
  show bindL kindOf ((p,w)::P.zip vs) m x=_;unfold bindL;exact nY (i:=i) (Jv.mp nd).2 (by simpa using h1) (by simpa using h2) hk
theorem nJ {kindOf:Str->Option LL}{x:Str}{v:GH}:∀ {P:List Str}{vs:List GH}{i:Nat}{m:Str->Option GH},P.Nodup->P[i]?=some x->vs[i]?=some v->kindOf x ≠ some .local ->
  bindC kindOf (P.zip vs) m x=some v
 |[],_,_,_,_,h,_,_=>by simp at h
 |_::_,[],_,_,_,_,h,_=>by simp at h
 |p::P,w::vs,0,m,nd,h1,h2,hk=>by
  simp at h1 h2;subst h1;subst h2;show bindC kindOf ((p,w)::P.zip vs) m p=_;unfold bindC;rw[n_ λv hv=>(Jv.mp nd).1 (KW hv).1,Hu hk];simp
 |p::P,w::vs,i+1,m,nd,h1,h2,hk=>by
  show bindC kindOf ((p,w)::P.zip vs) m x=_;unfold bindC;exact nJ (i:=i) (Jv.mp nd).2 (by simpa using h1) (by simpa using h2) hk
def gI (N:List Str)(vs:List V):St:=vs.map some++GY (N.length-vs.length) none
def lQ (CX:jE)(P:Hv)(w:IN)(K:GB)(mg:Str->Option GH)(base:JI)(N:List Str)(qual:Str)(scope:LF)(f:G7)(cd:GH)(A:IR)(outer:List Env)(s:GJ)(H:Hp)(E:XK):Cx where
 prog:=P
 w:=w
 K:=K
 mg:=mg
 base:=base
 A:=A.deeper (envOfC qual scope s.heap.objs.size f cd)
 N:=N
 s₀:=s
 H₀:=H
 env:=envOfC qual scope s.heap.objs.size f cd
 outer:=outer
 stack:=envOfC qual scope s.heap.objs.size f cd::outer
 ex:=[]
 calm:=true
 fn:=λ_=>true
 pn:=[]
 xe:=λe s'=>GW (Hl P w) (A.deeper (envOfC qual scope s.heap.objs.size f cd)) (leaving (envOfC qual scope s.heap.objs.size f cd) e) (λ_ s''=>CX outer H s E e s'') (λe' s''=>CX outer H s E e' s'') s'
theorem qV {sc:LF}{n:Nat}{x:Str}(h:sc.names.lookup x=some .cell):∃ c,(Mz n sc.names []).lookup x=some c:=by
 have q:=Lp sc.names n [] (.inl h);exact K3.mp q
theorem vB {CX:jE}{P:Hv}{w:IN}{K:GB}{mg:Str->Option GH}{base:JI}{N ps:List Str}{qual:Str}{scope:LF}{f:G7}{cd:GH}{A:IR}{outer:List Env}{s s1:GJ}{H:Hp}{E:XK}{us:List GH}{vs:List V}
  (S:aD N ps scope)(hd:A.handled=none)(e0:tV P w K mg base A outer s H)(hl:vs.length=ps.length)(r:aI vs us)
  (x:InCallC s s.heap.objs.size (bindL (envOfC qual scope s.heap.objs.size f cd).kindOf (ps.zip us) λ_=>none) (Mz (s.heap.objs.size+1) scope.names []) (bindC (envOfC qual scope s.heap.objs.size f cd).kindOf (ps.zip us) λ_=>none) s1):
  aw (lQ CX P w K mg base N qual scope f cd A outer s H E) [] (gI N vs) H s1:=by
 have hpl:ps.length<=N.length:=by have:=KG Ou S.pre;rw[Ib] at this;lia
 obtain⟨h1,tk,rfl,hk⟩:=x.done;have noA:∀ b:G7,b∉(lQ CX P w K mg base N qual scope f cd A outer s H E).ex:=λb z=>absurd (show b∈([]:List G7) from z) (by simp)
 refine⟨⟨e0.mod,S.kind,rfl,rfl,GM _,λy z c h1 h2=>?_,λy hy=>?_,λy c _ h=>?_,λ_=>hd,Around.frames_deeper e0.frames,.inr ⟨rfl,rfl⟩,λb z=>absurd z (noA b),e0.bs,e0.bsz,λb _ _=>noA b,λb z=>absurd z (noA b),e0.funs,e0.frf⟩,
  rfl,e0.bare,Un.kept hk,⟨_,x.toInCall.ns,λi y v h1 h2 h3=>?_⟩,λy c h=>⟨_,x.cell y c h⟩,e0.hok.fresh (GM _),λy c h=>?_,λp hp=>absurd (show p∈([]:List (G7×Obj)) from hp) (by simp),e0.hok.kept hk,?_⟩
 ·exact name_of_addr x.apart (JZ h1) (JZ h2)
 ·have hy:scope.names.lookup y=some .cell\/scope.names.lookup y=some .free:=hy;rcases hy with hy|hy
  ·exact qV hy
  ·exact absurd rfl (S.nofree _ (JZ hy))
 ·exact Kc (x.above y c (JZ h))
 ·have hi:i<vs.length:=by
   unfold gI at h2
   by_cases hi:i<vs.length
   ·exact hi
   ·rw[JT (by simpa using hi)] at h2;rw[Mm] at h2
    split at h2<;>cases h2
  have ha:vs[i]?=some v:=by
   unfold gI at h2;rw[KJ (by simpa using hi),GQ] at h2;cases e:vs[i]? with
   |none=>rw[e] at h2;cases h2
   |some a=>rw[e] at h2;cases h2;rfl
  obtain⟨u,hu,rv⟩:=r.get ha;have hp:ps[i]?=some y:=by
   rw[<- S.pre,Oe (by lia)];exact h1
  have ndP:ps.Nodup:=by rw[<- S.pre];exact S.nd.sublist (Og _ _)
  refine⟨u,rv,?_⟩;rcases S.par y (GS hp) with k|k
  ·exact .inl ⟨k,nY ndP hp hu k⟩
  ·obtain⟨c,e⟩:=qV (n:=s.heap.objs.size+1) k;refine .inr ⟨.inl k,c,e,?_⟩;have q:=x.cell y c e;rw[nJ ndP hp hu (by show scope.names.lookup y≠_;rw[k];decide)] at q;exact q
 ·exact e0.hok.fresh (Kc (x.above y c (JZ h)))
 ·unfold gI;show _=N.length;rw[IB,GG,O8];lia
theorem uE {CX:jE}{P:Hv}{w:IN}{K:GB}{mg:Str->Option GH}{base:JI}{k:Nat}{f:G7}{name qual:Str}{params:Arguments}{body:List K4}{scope:LF}{dV kV doc pm cdv ct oc:GH}{an od:Option G7}
  {osl:Array (Option GH)}{N ps:List Str}{sp:Sp}(lk:K.lookup f=some ⟨oc,od,.func (Ih name qual params body scope dV kV doc pm an cdv ct),osl⟩)(hcd:Jb K cdv qual=true)(S:aD N ps scope)
  (len:∀ vs H Q E,sp vs H Q E->vs.length=ps.length)
  (bb:∀ (A:IR) (outer:List Env) (s:GJ) (H:Hp) (vs:List V) (Q:VK) (E:XK),Room k (A.deeper (envOfC qual scope s.heap.objs.size f cdv))->sp vs H Q E ->
   ∃ t,yM (lQ CX P w K mg base N qual scope f cdv A outer s H E) body t/\t { nx:=λ_ H'=>Q .non H',rt:=Q } (gI N vs) H) :
  i9 P w K mg base CX (k+1) f (Ih name qual params body scope dV kV doc pm an cdv ct) ps sp:=by
 refine⟨len,λA outer s H args us vs Q E hr e0 hb r hsp=>?_⟩;have hl:=len _ _ _ _ hsp;have KX:K.In s.heap:=e0.mod.kin.keeps λb o e=>(e0.bs b o e).1
 have lim:s.heap.NoLimit:=e0.mod.nolimit.keeps λb o e=>(e0.bs b o e).1
 have hkind:∀ y∈ps.zip us,scope.names.lookup y.1=some .local\/(scope.names.lookup y.1=some .cell/\((Mz (s.heap.objs.size+1) scope.names []).lookup y.1).isSome=true):=λ⟨n,v⟩ hy=>by
  rcases S.par n (KW hy).1 with q|q
  ·exact .inl q
  ·exact .inr ⟨q,Lp _ _ _ (.inl q)⟩
 refine codeAny_call_function hr.depth (KX _ _ lk) rfl S.co S.gen rfl (PySem.W.codeRec_of KX hcd) (hb _ _ _ _ ?_);refine wpAny_newFunctionEnv_cells S.kind hkind λenv he s1 x=>?_
 subst he;refine⟨lim.keeps x.toInCall.keep,codeAny_func ?_⟩;obtain⟨t,ht,hq⟩:=bb A outer s H vs Q E (hr.deeper _) hsp;have I:aw (lQ CX P w K mg base N qual scope f cdv A outer s H E) [] (gI N vs) H s1:=vB S hr.hd e0 hl r x;refine Hm (ht [] s1 (gI N vs) H _ I hq) (λfl s' hs=>?_) λe s' hs=>hs
 have fin:∀ {σ':St}{H':Hp}{v:V}{u:GH},aw (lQ CX P w K mg base N qual scope f cdv A outer s H E) [] σ' H' s'->RelV v u->Q v H'->CE outer P w H s Q u s':=
  λ{σ' H' v u} J rv q=>⟨v,H',J.os,J.bare,J.base,J.hok,rv,q⟩
 cases fl with
 |ret u=>
  obtain⟨v,σ',H',J,rv,q⟩:=hs;exact fin J rv q
 |next=>
  obtain⟨σ',H',J,q⟩:=hs;exact fin (v:=V.non) (u:=Ia) J rfl q
 |brk=>
  obtain⟨_,_,_,q⟩:=hs;exact Kh q
 |cont=>
  obtain⟨_,_,_,q⟩:=hs;exact Kh q
section
variable {X:Cx}{x:Str}{p pos:Pos}{e:JG}{es:List JG}{t:TA}{id T:String}{r:List V->Hp->VK->Prop}
def F_ (r:List V->Hp->VK->Prop)(t:TA):TE:=λσ H Q=>t σ H λvs H1=>r vs H1 Q
theorem ak (hc:br X (.builtin id) r) (hg:Gl X x) (hm:X.mg x=none) (hv:IM x=some (.builtin id)) (ha:WA X (e :: es) t) (hn:x ≠ "__name__":=by decide) (hdb:(x == ("__debug__":Str))=false:=by decide)
  (he:G9 (e::es) X.env=(false,KH e X.env)::G9 es X.env:=by rfl)(hpl:(Lh pos (G9 es X.env)).any (·.1)=false:=by rfl):WE X (.Call (.Name x p) (e::es) [] pos) (F_ r t):=by
 have ha:=ha.go;refine⟨?_⟩;intro pins s σ H Q I h;refine Kk (fc I hg hm hv ?_ hn hdb);exact M2 (bf (ha pos pins s σ H _ I h) λus s1 ⟨vs,H1,I1,r1,q1⟩=>hc pins s1 σ H1 vs us Q I1 r1 q1) he hpl
theorem bh (hc:br X (.type T) r) (hg:Gl X x) (hm:X.mg x=none) (hv:IM x=some (.type T)) (ha:WA X (e :: es) t) (hn:x ≠ "__name__":=by decide) (hdb:(x == ("__debug__":Str))=false:=by decide)
  (he:G9 (e::es) X.env=(false,KH e X.env)::G9 es X.env:=by rfl)(hpl:(Lh pos (G9 es X.env)).any (·.1)=false:=by rfl):WE X (.Call (.Name x p) (e::es) [] pos) (F_ r t):=by
 have ha:=ha.go;refine⟨?_⟩;intro pins s σ H Q I h;refine Kk (fc I hg hm hv ?_ hn hdb);exact Jk (bf (ha pos pins s σ H _ I h) λus s1 ⟨vs,H1,I1,r1,q1⟩=>hc pins s1 σ H1 vs us Q I1 r1 q1) he hpl
end
end L2
namespace HT
open PySem PyProof.Rows
section
variable {prog:Hv}{w:IN}{A:IR}{E:GH->GJ->Prop}{s:GJ}
def sIx (n d:Nat):Option Int->Nat
 |none=>d
 |some v=>if v<0 then(v+(n:Int)).toNat else min v.toNat n
theorem sIx_none (n d:Nat):sIx n d none=d:=rfl
theorem sIx_nat (n d k:Nat):sIx n d (some (k:Int))=min k n:=by
 show(if(k:Int)<0 then((k:Int)+(n:Int)).toNat else min (k:Int).toNat n)=min k n;rw[Hu (by lia),IA]
end
end HT
namespace L2
open PySem PySem.Spec PyProof.Rows
abbrev TO:=St->Hp->(Option Int->Hp->Prop)->Prop
def PO (X:Cx)(e:Option JG)(t:TO):Prop:=
 ∀ (pins:List (G7×Obj)) (s:GJ) (σ:St) (H:Hp) (Q:Option Int->Hp->Prop),aw X pins σ H s->t σ H Q ->
  GW (Hl X.prog X.w) X.A (evalPart e X.env) (λu s'=>∃ o H',aw X pins σ H' s'/\IsPart u o/\Q o H') X.xe s
structure WO (X:Cx)(e:Option JG)(t:TO):Prop where
 go:PO X e t
def A6:TO:=λ_ H Q=>Q none H
def Eo (t:TE):TO:=λσ H Q=>t σ H λx H1=>∃ i,x=.int i/\Q (some i) H1
theorem sZ:∀ {us:List GH},aI (ns.map V.int) us->L7 us ns:=by
 induction ns with
 |nil=>intro us r;rw[NM] at r;cases r;exact .nil
 |cons n ns ih=>
  intro us r;rw[G_] at r;cases r with
  |cons r1 r2=>
   obtain⟨t,e⟩:=r1;subst e;exact .cons n t (ih r2)
section
variable {X:Cx}{e:JG}{te:TE}{lo hi:Option JG}{tl th:TO}{pos p2:Pos}
theorem dR:WO X none A6:=by
 refine⟨?_⟩;intro pins s σ H Q I h;rw[evalPart_none];exact GD ⟨none,H,I,.none,h⟩
theorem dQ (h:WE X e te):WO X (some e) (Eo te):=by
 have h:=h.go;refine⟨?_⟩;intro pins s σ H Q I hw;rw[evalPart_some];refine bf (h pins s σ H _ I hw) λu s1 ⟨x,H1,I1,r1,q1⟩=>?_
 obtain⟨i,rfl,q⟩:=q1;obtain⟨t,rfl⟩:=r1;exact⟨some i,H1,I1,.int i t,q⟩
def ET (X:Cx)(r:V->Option Int->Option Int->Hp->VK->Prop):Prop:=
 ∀ (pins:List (G7×Obj)) (s:GJ) (σ:St) (H:Hp) (x:V) (v vl vu:GH) (lo hi:Option Int) (sl:G7) (Q:VK),aw X pins σ H s->RelV x v->s.heap.IsSliceOf sl vl vu .none->IsPart vl lo->IsPart vu hi->r x lo hi H Q ->
  ∃ T id,QM (.type T) "__getitem__"=pure (some (.builtin id))/\s.TypeIs v T/\GW (Hl X.prog X.w) X.A (Rj v (.ref sl)) (EP X pins σ Q) X.xe s
def Gf (r:V->Option Int->Option Int->Hp->VK->Prop)(te:TE)(tl th:TO):TE:=λσ H Q=>te σ H λx H1=>tl σ H1 λl H2=>th σ H2 λu H3=>r x l u H3 Q
theorem cV (hr:ET X r)(he:WE X e te)(hl:WO X lo tl)(hu:WO X hi th):WE X (.Subscript e (.Slice lo hi none p2) pos) (Gf r te tl th):=by
 have he:=he.go;have hl:=hl.go;have hu:=hu.go;refine⟨?_⟩;intro pins s σ H Q I h;refine Subscript_ (bf (he pins s σ H _ I h) λv s1 ⟨x,H1,I1,r1,q1⟩=>?_);refine wpAny_Slice (bf (hl pins s1 σ H1 _ I1 q1) λvl s2 ⟨l,H2,I2,pl,q2⟩=>bf (hu pins s2 σ H2 _ I2 q2) λvu s3 ⟨u,H3,I3,pu,q3⟩=>?_);rw[evalPart_none];refine GD ?_;have I4:aw X pins σ H3 { s3 with heap:=s3.heap.push { cls:=.type "slice",data:=.fields #[vl,vu,.none] } }:=I3.kept (t':=s3.toks) λb ob q=>GC _ q
 obtain⟨T,id,hT,ht,hg⟩:=hr pins { s3 with heap:=s3.heap.push { cls:=.type "slice",data:=.fields #[vl,vu,.none] } } σ H3 x v vl vu l u s3.heap.objs.size Q I4 r1 (Heap.IsSliceOf.new ..) pl pu q3;show GW (Hl X.prog X.w) X.A (Qv e (.Slice lo hi none p2) v (.ref s3.heap.objs.size)) (EP X pins σ Q) X.xe { s3 with heap:=s3.heap.push { cls:=.type "slice",data:=.fields #[vl,vu,.none] } };exact tail_any (ops:=[.ref s3.heap.objs.size,v]) ht hT hg (by with_unfolding_all rfl)
def ni (xs:List V)(lo hi:Option Int):List V:=(xs.drop (HT.sIx xs.length 0 lo)).take (HT.sIx xs.length xs.length hi-HT.sIx xs.length 0 lo)
theorem rH (xs:List V)(lo hi:Option Int):(ni xs lo hi).length<=xs.length:=by
 unfold ni;rw[Ib,Km];lia
end
def wz (n:Nat)(i:Int):Option Nat:=if 0<=i then(if i<n then some i.toNat else none) else if -(n:Int)<=i then some (i+n).toNat else none
def zm {α:Type}(xs:List α)(i:Int):Option α:=(wz xs.length i).bind λj=>xs[j]?
theorem u4 {n:Nat}{i:Int}{j:Nat}(h:wz n i=some j):seqIndex? i n=some j/\j<n/\-(n:Int)<=i/\i<n:=by
 unfold wz at h
 by_cases h0:0<=i
 ·rw[Ie h0] at h
  by_cases h1:i<n
  ·rw[Ie h1] at h;have e:i.toNat=j:=GN h;exact⟨by rw[seqIndex_of h0 h1,e],by lia,by lia,h1⟩
  ·rw[Hu h1] at h;cases h
 ·rw[Hu h0] at h
  by_cases h1:-(n:Int)<=i
  ·rw[Ie h1] at h;have e:(i+n).toNat=j:=GN h;exact⟨by rw[seqIndex_neg (by lia) h1,e],by lia,h1,by lia⟩
  ·rw[Hu h1] at h;cases h
theorem pw {i:Int}(h:zm xs i=some v):∃ j,seqIndex? i xs.length=some j/\xs[j]?=some v/\j<xs.length/\-(xs.length:Int)<=i/\i<xs.length:=by
 unfold zm at h;cases e:wz xs.length i with
 |none=>rw[e] at h;cases h
 |some j=>
  rw[e] at h;obtain⟨h1,h2,h3,h4⟩:=u4 e;exact⟨j,h1,h,h2,h3,h4⟩
theorem fv {α:Type}{xs:List α}{j:Nat}{v:α}(h:xs[j]?=some v):zm xs (j:Int)=some v:=by
 have hj:j<xs.length:=(GU.mp h).1;have e:wz xs.length (j:Int)=some j:=by
  unfold wz;rw[Ie (by lia),Ie (by lia)];simp
 unfold zm;rw[e];exact h
theorem mO (xs:List α)(v:α):zm (xs++[v]) (-1)=some v:=by
 have hl:(xs++[v]).length=xs.length+1:=by simp
 have e:wz (xs++[v]).length (-1)=some xs.length:=by
  unfold wz;rw[hl,Hu (by decide),Ie (by lia)]
  congr 1
  lia
 unfold zm;rw[e];show(xs++[v])[xs.length]?=some v;simp
def uL (b:JG):Prop:=∀ o i,subscripted b false o i=operate [o,i] (Rj o i)
def zK (X:Cx)(r:R2):Prop:=
 ∀ (value slice:JG) (pins:List (G7×Obj)) (s:GJ) (σ:St) (H:Hp) (x y:V) (v u:GH) (Q:VK),aw X pins σ H s->RelV x v->RelV y u->r x y H Q ->
  subscripted slice false v u=operate [v,u] (Rj v u)->GW (Hl X.prog X.w) X.A (Qv value slice v u) (EP X pins σ Q) X.xe s
def Fi (X:Cx)(id:String)(r:V->List V->Hp->VK->Prop):Prop:=
 ∀ (pins:List (G7×Obj)) (s:GJ) (σ:St) (H:Hp) (x:V) (xs:List V) (v:GH) (us:List GH) (Q:VK),aw X pins σ H s->RelV x v->aI xs us->r x xs H Q ->
  GW (Hl X.prog X.w) X.A (call (.builtin id) (v::us)) (EP X pins σ Q) X.xe s
section
variable {X:Cx}{a b:JG}{ta tb:TE}{pos:Pos}
theorem zK.or (h:zK X r)(h':zK X r'):zK X (λx y H Q=>r x y H Q\/r' x y H Q):=by
 intro value slice pins s σ H x y v u Q I rx ry q hs;rcases q with q|q
 ·exact h value slice pins s σ H x y v u Q I rx ry q hs
 ·exact h' value slice pins s σ H x y v u Q I rx ry q hs
theorem wI (hr:zK X r)(ha:WE X a ta)(hb:WE X b tb)(hs:uL b):WE X (.Subscript a b pos) (CQ r ta tb):=by
 have ha:=ha.go;have hb:=hb.go;refine⟨?_⟩;intro pins s σ H Q I h;exact Subscript_ (C7 ha hb I h λv u s2 x y H2 I2 rx ry q=>hr a b pins s2 σ H2 x y v u Q I2 rx ry q (hs _ _))
inductive DB (K:GB)(x y:V)(H:Hp)(Q:VK):Prop
 |mk (p:G7) (xs:List V) (i:Int) (v:V) (_:x=.ref p) (_:y=.int i) (_:bg K H p xs) (_:zm xs i=some v) (_:Q v H)
inductive EC (K:GB)(x y:V)(H:Hp)(Q:VK):Prop
 |mk (p:G7) (xs:List V) (i:Int) (v:V) (_:x=.ref p) (_:y=.int i) (_:fM K H p xs) (_:zm xs i=some v) (_:Q v H)
def EM:R2:=λx y H Q=>∃ z i c,x=.str z/\y=.int i/\z.length<=GZ/\zm z.cps.toList i=some c/\Q (.str ⟨#[c]⟩) H
theorem Be:zK X (DB X.K):=by
 intro value slice pins s σ H x y v u Q I rx ry h hs;obtain⟨p,xs,i,z,rfl,rfl,hq,he,q⟩:=h;cases rx;obtain⟨t,rfl⟩:=ry;obtain⟨its,r,pl,hz⟩:=I.list hq;obtain⟨j,h1,h2,h3,h4,h5⟩:=pw he;obtain⟨w,ew,rw'⟩:=r.get h2;have hl:=r.length;have hn:=iX;have fin:EP X pins σ Q w s:=⟨z,H,I,rw',q⟩
 by_cases h0:0<=i
 ·have hj:i.toNat=j:=by
   rw[seqIndex_of h0 h5] at h1;exact GN h1
  exact item_listR pl.isList h0 (by lia) (by rw[hj];simpa using ew) fin hs
 ·have hj:(i+(its.toArray.size:Int)).toNat=j:=by
   rw[seqIndex_neg (by lia) h4] at h1;rw[Hi,<- hl];exact GN h1
  exact OV (x:=w) pl.isList.typeIs slot_list_getitem.lookup
   (wpAny_getItem_list_neg (Q:=λr s'=>r=w/\EP X pins σ Q r s') pl.isList (by lia) (by rw[Hi]<;>lia) (by lia) (by rw[hj];simpa using ew) ⟨rfl,fin⟩) hs
theorem CG:zK X (EC X.K):=by
 intro value slice pins s σ H x y v u Q I rx ry h hs;obtain⟨p,xs,i,z,rfl,rfl,hq,he,q⟩:=h;cases rx;obtain⟨t,rfl⟩:=ry;obtain⟨its,r,pl,hz⟩:=I.tuple hq;obtain⟨j,h1,h2,h3,h4,h5⟩:=pw he;obtain⟨w,ew,rw'⟩:=r.get h2;have hl:=r.length;have hn:=iX;have fin:EP X pins σ Q w s:=⟨z,H,I,rw',q⟩
 exact OV (x:=w) pl.typeIs slot_tuple_getitem.lookup
  (getItem_tuple (j:=j) (Q:=λr s'=>r=w/\EP X pins σ Q r s') pl (by lia) (by lia) (by rw[Hi,<- hl];exact h1) (by simpa using ew) ⟨rfl,fin⟩) hs
theorem xB:zK X EM:=by
 intro value slice pins s σ H x y v u Q I rx ry h hs;obtain⟨z,i,c,rfl,rfl,hz,he,q⟩:=h;obtain⟨t,rfl⟩:=rx;obtain⟨t',rfl⟩:=ry;obtain⟨j,h1,h2,h3,h4,h5⟩:=pw he;have hl:z.cps.toList.length=z.length:=by simp[IT]
 rw[hl] at h1 h4 h5;have hn:=iX;exact tail_any (Me s z t) slot_str_getitem.lookup (getItem_str (c:=c) (by
  have e1:decide (i < -(2^63:Int))=false:=Hr (by lia);have e2:decide (i>=2^63)=false:=Hr (by lia);rw[e1,e2,Bool.or_false]) (by rw[h1];simpa using h2) ⟨.str ⟨#[c]⟩,H,I.tok _,⟨_,rfl⟩,q⟩) hs
def Am (K:GB):R2:=λx y H Q=>DB K x y H Q\/EC K x y H Q\/EM x y H Q
theorem CD:zK X (Am X.K):=Be.or (CG.or xB)
theorem tP (its:List GH)(n j:Nat)(u:GH):JO (·.setIfInBounds j u) { cls:=.type "list",data:=.seq its.toArray n }={ cls:=.type "list",data:=.seq (its.set j u).toArray n }:=by
 simp[JO]
theorem aw.lst {pins:List (G7 × Obj)}{σ:St}{H:Hp}{s:GJ}{p:G7}{xs:List V} (I:aw X pins σ H s) (h:H p=some (.lst xs)) :
  ∃ (its:List GH) (n:Nat),aI xs its/\s.heap.get? p=some { cls:=.type "list",data:=.seq its.toArray n }/\xs.length<=GZ:=by
 obtain⟨z,its,n,r,e⟩:=I.hok p _ h;exact⟨its,n,r,e,z⟩
theorem aw.lstUpd {pins:List (G7 × Obj)}{σ:St}{H:Hp}{s:GJ}{p:G7}{xs ys:List V}{its its':List GH}{n n':Nat}{f:Obj->Obj} (I:aw X pins σ H s) (h:H p=some (.lst xs))
  (ho:s.heap.get? p=some { cls:=.type "list",data:=.seq its.toArray n })(hf:f { cls:=.type "list",data:=.seq its.toArray n }={ cls:=.type "list",data:=.seq its'.toArray n' })(r:aI ys its')(hz:ys.length<=GZ)(t:Nat):
  aw X pins σ (upd H p (.lst ys)) { s with heap:=s.heap.update p f,toks:=t }:=by
 have e:(s.heap.update p f).get? p=some { cls:=.type "list",data:=.seq its'.toArray n' }:=by
  rw[HF f ho (by rw[hf]<;>rfl),hf]
 refine I.write (x:=p) (e:=p) (by rw[h];trivial) (.inl rfl) (λb u hb q=>(Hx _ _ (Jj hb)).trans q) ⟨_,e⟩ ?_;exact⟨hz,its',n',r,e⟩
def DJ:V->V->V->Hp->(Hp->Prop)->Prop:=λo i v H Q=>∃ p xs k j,o=.ref p/\i=.int k/\H p=some (.lst xs)/\wz xs.length k=some j/\Q (upd H p (.lst (xs.set j v)))
theorem rZ:EI X DJ:=by
 intro pins s σ H o i v ov iv u Q I ro ri rv h;obtain⟨p,xs,k,j,rfl,rfl,hp,hj,q⟩:=h;cases ro;obtain⟨t,rfl⟩:=ri;obtain⟨its,n,r,ho,hz⟩:=I.lst hp;obtain⟨h1,h2,h3,h4⟩:=u4 hj;have hl:=r.length;have hn:=iX;have I':aw X pins σ (upd H p (.lst (xs.set j v))) { s with heap:=s.heap.update p (JO (·.setIfInBounds j u)) }:=
  I.lstUpd hp ho (tP its n j u) (r.set rv j) (by rw[O9];exact hz) s.toks
 by_cases h0:0<=k
 ·have hk:k.toNat=j:=by
   rw[seqIndex_of h0 h4] at h1;exact GN h1
  exact PySem.W.ki_setAt ho h0 (by lia) (by rw[Hi,<- hl];exact h4) (by rw[hk];exact⟨_,I',q⟩)
 ·have hk:(k+(its.toArray.size:Int)).toNat=j:=by
   rw[seqIndex_neg (by lia) h3] at h1;rw[Hi,<- hl];exact GN h1
  exact PySem.W.ki_setBack ho (by lia) (by rw[Hi,<- hl];exact h3) (by lia) (by rw[hk];exact⟨_,I',q⟩)
theorem pB (lo hi:Option Int)(n:Nat):(MT lo hi none n).1=((HT.sIx n 0 lo:Nat):Int)/\(MT lo hi none n).2.1=((HT.sIx n n hi:Nat):Int)/\(MT lo hi none n).2.2=1:=by
 refine⟨?_,?_,rfl⟩
 ·cases lo with
  |none=>simp[MT,HT.sIx]
  |some i=>
   simp only[MT,HT.sIx,Q4,show(1:Int)>0 by decide,K5]
   by_cases h:i<0
   ·simp only[h,K5]<;>lia
   ·simp only[h,JU]<;>lia
 ·cases hi with
  |none=>simp[MT,HT.sIx]
  |some i=>
   simp only[MT,HT.sIx,Q4,show(1:Int)>0 by decide,K5]
   by_cases h:i<0
   ·simp only[h,K5]<;>lia
   ·simp only[h,JU]<;>lia
theorem nC (its:List GH)(lo hi:Option Int):slicePick its.toArray lo hi none=((its.drop (HT.sIx its.length 0 lo)).take (HT.sIx its.length its.length hi-HT.sIx its.length 0 lo)).toArray:=by
 obtain⟨h1,h2,h3⟩:=pB lo hi its.toArray.size;unfold slicePick;rw[h1,h2,h3];simp only[sliceRange_one,pick_run,Hi]<;>rfl
def DM (K:GB):V->Option Int->Option Int->Hp->VK->Prop:=λx lo hi H Q=>∃ a xs,x=.ref a/\bg K H a xs/\∀ p,H p=none->Q (.ref p) (upd H p (.lst (ni xs lo hi)))
theorem Ac:ET X (DM X.K):=by
 intro pins s σ H x v vl vu lo hi sl Q I rx hs pl pu h;obtain⟨a,xs,rfl,hx,q⟩:=h;cases rx;obtain⟨its,r,ht,hz⟩:=I.list hx;have hlen:=r.length;refine⟨"list",_,slot_list_getitem.lookup,ht.isList.typeIs,?_⟩;refine wpAny_getItem_list_slice ht.isList hs pl pu .none (by simp) ?_ (by rw[Hi]<;>lia);rw[nC,<- hlen];refine⟨.ref s.heap.objs.size,_,I.laid (t':=s.toks) (o:=.lst (ni xs lo hi)) (λb ob q=>GC _ q) (GM _) ?_,rfl,q _ (I.hok.fresh (GM _))⟩;exact⟨GV (rH xs lo hi) hz,_,0,(r.drop (HT.sIx xs.length 0 lo)).take (HT.sIx xs.length xs.length hi-HT.sIx xs.length 0 lo),GL _ rfl⟩
def fO:V->Bool
 |.non=>true
 |.bl _=>true
 |.int _=>true
 |.str _=>true
 |_=>false
def eqV:V->V->Bool
 |.non,.non=>true
 |.bl a,.bl b=>a==b
 |.bl a,.int b=>(if a then 1 else 0)==b
 |.int a,.bl b=>a==(if b then 1 else 0)
 |.int a,.int b=>a==b
 |.str a,.str b=>a==b
 |_,_=>false
theorem Ce (ry:RelV y u)(rx:RelV x v)(fy:fO y=true)(fx:fO x=true):SeqAt.EqAt A s u v (eqV y x):=by
 cases y with
 |non=>
  cases ry;cases x with
  |non=>cases rx;exact SeqAt.EqAt.same _
  |bl b=>cases rx;exact SeqAt.EqAt.none_bool b
  |int b=>obtain⟨t,rfl⟩:=rx;exact SeqAt.EqAt.none_int b t
  |str b=>obtain⟨t,rfl⟩:=rx;exact SeqAt.EqAt.none_str b t
  |_=>exact absurd (show false=true from fx) Hn
 |bl a=>
  cases ry;cases x with
  |non=>cases rx;exact SeqAt.EqAt.bool_none a
  |bl b=>cases rx;exact SeqAt.EqAt.bool_bool a b
  |int b=>obtain⟨t,rfl⟩:=rx;exact SeqAt.EqAt.bool_int a b t
  |str b=>obtain⟨t,rfl⟩:=rx;exact SeqAt.EqAt.bool_str a b t
  |_=>exact absurd (show false=true from fx) Hn
 |int a=>
  obtain⟨t',rfl⟩:=ry;cases x with
  |non=>cases rx;exact SeqAt.EqAt.int_none a t'
  |bl b=>cases rx;exact SeqAt.EqAt.int_bool a t' b
  |int b=>obtain⟨t,rfl⟩:=rx;exact SeqAt.EqAt.int_int a t' b t
  |str b=>obtain⟨t,rfl⟩:=rx;exact Qn a t' b t
  |_=>exact absurd (show false=true from fx) Hn
 |str a=>
  obtain⟨t',rfl⟩:=ry;cases x with
  |non=>cases rx;exact SeqAt.EqAt.str_none a t'
  |bl b=>cases rx;exact SeqAt.EqAt.str_bool a t' b
  |int b=>obtain⟨t,rfl⟩:=rx;exact Qo a t' b t
  |str b=>obtain⟨t,rfl⟩:=rx;exact SeqAt.EqAt.str_str a t' b t
  |_=>exact absurd (show false=true from fx) Hn
 |_=>exact absurd (show false=true from fy) Hn
def Dk (x:V)(u:GH):Bool:=match u with
 |.none=>eqV .non x
 |.bool b=>eqV (.bl b) x
 |.int i _=>eqV (.int i) x
 |.str z _=>eqV (.str z) x
 |_=>false
theorem sS (r:RelV y u)(f:fO y=true):Dk x u=eqV y x:=by
 cases y with
 |non=>cases r;rfl
 |bl b=>cases r;rfl
 |int i=>obtain⟨t,rfl⟩:=r;rfl
 |str z=>obtain⟨t,rfl⟩:=r;rfl
 |_=>exact absurd (show false=true from f) Hn
theorem lK (rx:RelV x v)(fx:fO x=true):∀ {xs:List V}{us:List GH},aI xs us->xs.all fO=true->∀ u∈us,SeqAt.EqAt A s u v (Dk x u)
 |_,_,.nil,_=>λu hu=>by cases hu
 |y::xs,u::us,.cons r t,f=>λu' hu=>by
  rw[K_,G6] at f;rcases GR.mp hu with rfl|hu
  ·rw[sS r f.1];exact Ce r rx f.1 fx
  ·exact lK rx fx t f.2 u' hu
theorem pk:br X (.builtin "len") (λxs H Q=>∃ p ys,xs=[.ref p]/\(bg X.K H p ys\/fM X.K H p ys)/\Q (.int ys.length) H):=by
 intro pins s σ H xs us Q I r h;obtain⟨p,ys,rfl,hq,q⟩:=h;obtain⟨u,rfl,rx⟩:=fR r;cases rx;have hn:=iX;rcases hq with hq|hq
 ·obtain⟨its,r',pl,hz⟩:=I.list hq;have hlen:=r'.length;exact Calls.call_len_list pl.isList (by simp only[Hi]<;>lia) ⟨.int ys.length,H,I.tok _,⟨s.toks+1,by rw[Hi,hlen]⟩,q⟩
 ·obtain⟨its,r',pl,hz⟩:=I.tuple hq;have hlen:=r'.length;exact len_tuple pl (by simp only[Hi]<;>lia) ⟨.int ys.length,H,I.tok _,⟨s.toks+1,by rw[Hi,hlen]⟩,q⟩
theorem fb:br X (.builtin "len") (λxs H Q=>∃ z,xs=[.str z]/\z.length<=GZ/\Q (.int z.length) H):=by
 intro pins s σ H xs us Q I r h;obtain⟨z,rfl,hz,q⟩:=h;obtain⟨u,rfl,t,rfl⟩:=fR r;have hn:=iX;exact len_str (by lia) ⟨.int z.length,H,I.tok _,⟨_,rfl⟩,q⟩
theorem br.or (h:br X f r)(h':br X f r'):br X f (λxs H Q=>r xs H Q\/r' xs H Q):=by
 intro pins s σ H xs us Q I rs q;rcases q with q|q
 ·exact h pins s σ H xs us Q I rs q
 ·exact h' pins s σ H xs us Q I rs q
theorem pV:br X (.type "list") (λxs H Q=>∃ p ys,xs=[.ref p]/\(bg X.K H p ys\/fM X.K H p ys)/\∀ l,H l=none->Q (.ref l) (upd H l (.lst ys))):=by
 intro pins s σ H xs us Q I r h;obtain ⟨p,ys,rfl,hq,q⟩:=h;obtain ⟨u,rfl,rx⟩:=fR r;cases rx;have fin:∀ (its:List GH),aI ys its->ys.length <= GZ->∀ (h':JI) (c':Nat),(∀ b o',s.heap.get? b=some o'->h'.get? b=some o') ->
   h'.get? s.heap.objs.size=some { cls:=.type "list",dict:=none,data:=.seq its.toArray c',slots:=#[] }->EP X pins σ Q (.ref s.heap.objs.size) { s with heap:=h' }:=λits r' hz h' c' kp e=>
  ⟨.ref s.heap.objs.size,_,I.laid (t':=s.toks) kp (GM _) (show bc X.prog X.w _ h' _ (.lst ys) from⟨hz,its,c',r',e⟩),rfl,q _ (I.hok.fresh (GM _))⟩
 rcases hq with hq|hq
 ·obtain⟨its,r',pl,hz⟩:=I.list hq;have hlen:=r'.length;obtain⟨o,ho,hc,n,hd⟩:=pl.isList;exact call_list_seq p (.inl rfl) ho hc hd (λh' c' kp e=>fin its r' hz h' c' kp e) (by simp only[Hi]<;>lia)
 ·obtain⟨its,r',pl,hz⟩:=I.tuple hq;have hlen:=r'.length;obtain⟨o,ho,hc,n,hd⟩:=pl;exact call_list_seq p (.inr rfl) ho hc hd (λh' c' kp e=>fin its r' hz h' c' kp e) (by simp only[Hi]<;>lia)
theorem m9:br X (.type "tuple") (λxs H Q=>∃ p ys,xs=[.ref p]/\((bg X.K H p ys/\∀ l,H l=none->Q (.ref l) (upd H l (.tup ys)))\/(fM X.K H p ys/\Q (.ref p) H))):=by
 intro pins s σ H xs us Q I r h;obtain⟨p,ys,rfl,h⟩:=h;obtain⟨u,rfl,rx⟩:=fR r;cases rx;rcases h with ⟨hq,q⟩|⟨hq,q⟩
 ·obtain⟨its,r',pl,hz⟩:=I.list hq;have hlen:=r'.length;refine call_tuple_list pl.isList (λh' kp=>?_) (by simp only[Hi]<;>lia);have I1:aw X pins σ H { s with heap:=h' }:=I.kept (t':=s.toks) kp;have I2:aw X pins σ (upd H h'.objs.size (.tup ys)) { s with heap:=h'.push { cls:=.type "tuple",data:=.seq its.toArray } }:=
   I1.laid (t':=s.toks) (λb o e=>GC _ e) (GM _) (show bc X.prog X.w _ _ _ (.tup ys) from⟨hz,its,r',IsTup.new _ _⟩)
  exact⟨.ref h'.objs.size,_,I2,rfl,q _ (I1.hok.fresh (GM _))⟩
 ·obtain⟨its,r',pl,hz⟩:=I.tuple hq;exact call_tuple_same pl ⟨.ref p,H,I,rfl,q⟩
def Gd (K:GB)(T:String)(x:V)(H:Hp):Prop:=match x with
 |.str _=>T="str"
 |.int _=>T="int"
 | .ref p=>(T="list"/\∃ xs,bg K H p xs)\/(T="tuple"/\∃ o,K.lookup p=some o/\o.cls=.type "tuple"/\o.dict=none) \/
   (T="dict"/\((∃ kvs,H p=some (.dK kvs))\/∃ kvs,H p=some (.dT kvs)))\/(T="set"/\∃ S n,H p=some (.set S n))
 |_=>False
theorem yJ (I:aw X pins σ H s) (r:RelV x v) (ty:Gd X.K T x H) :
  s.TypeIs v T/\∀ a,v=.ref a->∃ ob,s.heap.get? a=some ob/\ob.dict=none:=by
 cases x with
 |str z=>
  obtain⟨t,rfl⟩:=r;cases(show T="str" from ty);exact⟨Me s z t,λ_ e=>nomatch e⟩
 |int i=>
  obtain⟨t,rfl⟩:=r;cases(show T="int" from ty);exact⟨typeIs_int s i t,λ_ e=>nomatch e⟩
 |ref p=>
  cases r;rcases ty with ⟨rfl,xs,hq⟩|⟨rfl,o,hk,hc,hd⟩|⟨rfl,hk⟩|⟨rfl,S,n,hk⟩
  ·obtain⟨its,_,pl,_⟩:=I.list hq;refine⟨pl.isList.typeIs,λa e=>?_⟩;cases e;obtain⟨o,n,e,c,hd,_⟩:=pl;exact⟨o,e,hd⟩
  ·refine⟨⟨o,I.kIn p o hk,hc⟩,λa e=>?_⟩;cases e;exact⟨o,I.kIn _ o hk,hd⟩
  ·have z:∃ o,s.heap.get? p=some o/\o.ExactDict:=by
    rcases hk with ⟨kvs,hk⟩|⟨kvs,hk⟩
    ·obtain⟨_,_,_,_,o,_,_,e,ex,_⟩:=I.hok p _ hk;exact⟨o,e,ex⟩
    ·obtain⟨_,_,_,_,o,_,_,e,ex,_⟩:=I.hok p _ hk;exact⟨o,e,ex⟩
   obtain⟨o,e,ex⟩:=z;refine⟨⟨o,e,ex.1⟩,λa e2=>?_⟩;cases e2;exact⟨o,e,ex.2.1⟩
  ·obtain⟨o,_,_,_,e,ex,_⟩:=I.hok p _ hk;refine⟨⟨o,e,ex.1⟩,λa e2=>?_⟩;cases e2;exact⟨o,e,ex.2.1⟩
 |_=>exact Kh ty
def Gp (K:GB)(T:String)(r:V->List V->Hp->VK->Prop)(to:TE)(t:TA):TE:=λσ H Q=>to σ H λx H1=>Gd K T x H1/\t σ H1 λxs H2=>r x xs H2 Q
variable {o e:JG}{es:List JG}{to:TE}{t:TA}{name:Str}{apos cpos:Pos}{T id:String}{r:V->List V->Hp->VK->Prop}
theorem cB (pa:PlainAttrs T) (slot:Slot T name id) (hty:typeOf (.builtin id)=pure (.type "method_descriptor")) (hm:Fi X id r) (ho:WE X o to) (ha:WA X (e :: es) t)
  (hbase:Mx o name X.env (KH o X.env)=KH o X.env:=by rfl)
  (hfew:((Lh cpos (G9 (e::es) X.env)).all (λx=>!x.1)&&(backToKw cpos (P7 [] X.env)).all (λx=>x.1.isSome)
   &&decide ((e::es).length+([]:List Np).length+(if([]:List Np).isEmpty then 0 else 1)<30))=true:=by rfl)
  (hline:(apos.endLine==cpos.line)=true:=by rfl)(hs:G9 (e::es) X.env=(false,KH e X.env)::G9 es X.env:=by rfl)(hplain:(Lh cpos (G9 es X.env)).any (·.1)=false:=by rfl):
  WE X (.Call (.Attribute o name apos) (e::es) [] cpos) (Gp X.K T r to t):=by
 have ho:=ho.go;have ha:=ha.go;refine⟨?_⟩;intro pins s σ H Q I h;refine OW hbase hfew hline rfl (bf (ho pins s σ H _ I h) λv s1 ⟨x,H1,I1,r1,ty,q1⟩=>?_);obtain⟨h1,h2⟩:=yJ I1 r1 ty;refine⟨T,id,pa,slot,hty,h1,h2,?_⟩;have hA:=ha cpos pins s1 σ H1 _ I1 q1;rw[hs] at hA ⊢;refine MD (by show(false||(Lh cpos (G9 es X.env)).any (·.1))=false;rw[hplain]<;>rfl) (Na ?_);exact bf hA λus s2 ⟨vs,H2,I2,r2,q2⟩=>hm pins s2 σ H2 x vs v us Q I2 r1 r2 q2
end
def EV (X:Cx)(id:String)(r:V->List V->Hp->VK->Prop):Prop:=
 ∀ (pins:List (G7×Obj)) (s:GJ) (σ:St) (H:Hp) (x:V) (xs:List V) (v:GH) (us:List GH) (Q:VK),aw X pins σ H s->RelV x v->aI xs us->r x xs H Q ->
  GW (Hl X.prog X.w) X.A (call (.builtin id) (v::us)) (EP X pins σ Q) X.xe s
theorem aI.one:∀ {x:V}{us:List GH},aI [x] us->∃ u,us=[u]/\RelV x u
 |_,_,.cons r .nil=>⟨_,rfl,r⟩
theorem aI.rep (h:aI xs us):∀ k:Nat,aI (GY k xs).flatten (GY k us).flatten
 |0=>.nil
 |k+1=>by
  rw[JW,JW,LK,LK];exact aI.append h (aI.rep h k)
theorem n5 (its:List GH):∀ (k:Nat) (acc:List GH),
  Rq (λx1 x2=>x1++x2) acc.toArray (GY k its.toArray)=(acc++(GY k its).flatten).toArray
 |0,acc=>by simp
 |k+1,acc=>by
  have e:acc.toArray++its.toArray=(acc++its).toArray:=by simp
  have e2:(acc++its)++(GY k its).flatten=acc++(GY (k+1) its).flatten:=by
   rw[JW,LK,Ku]
  rw[<- e2,<- n5 its k (acc++its),<- e,JW,List.foldl_cons]
section
variable {X:Cx}{pins:List (G7×Obj)}{σ:St}{H:Hp}{s:GJ}{l b:G7}{xs ys zs:List V}
theorem aw.lset {its its':List GH}{n:Nat}{f:Array GH->Array GH}{t':Nat} (I:aw X pins σ H s) (hH:H l=some (.lst xs))
  (e:s.heap.get? l=some { cls:=.type "list",data:=.seq its.toArray n })(hf:f its.toArray=its'.toArray)(hv:aI ys its')(hz:ys.length<=GZ):
  aw X pins σ (upd H l (.lst ys)) { s with heap:=s.heap.update l (JO f),toks:=t' }:=by
 have q:=PySem.IsL.update e f;rw[hf] at q;refine I.write (x:=l) (e:=l) (by rw[hH];exact trivial) (.inl rfl) (λb' u hb hu=>(Hx s.heap (JO f) (Jj hb)).trans hu) ⟨_,q⟩ ?_;exact⟨hz,its',_,hv,q⟩
theorem aw.lnew {t':Nat} (I:aw X pins σ H s) (hv:aI ys its) (hz:ys.length <= GZ) :
  aw X pins σ (upd H s.heap.objs.size (.lst ys)) { s with heap:=s.heap.push { cls:=.type "list",data:=.seq its.toArray },toks:=t' }:=
 I.laid (λ_ _ q=>GC _ q) (GM _) ⟨hz,its,0,hv,GL _ rfl⟩
theorem aw.fresh (I:aw X pins σ H s):H s.heap.objs.size=none:=I.hok.fresh (GM _)
theorem aw.lstM (I:aw X pins σ H s)(hH:H l=some (.lst xs)):xs.length<=GZ/\∃ (its:List GH) (n:Nat),aI xs its/\xs.length=its.length/\s.heap.get? l=some { cls:=.type "list",data:=.seq its.toArray n }:=by
 obtain⟨z,its,n,r,e⟩:=I.hok l _ hH;exact⟨z,its,n,r,r.length,e⟩
theorem yw {n:Nat}(h:n<=GZ):Ma n=false:=by
 unfold Ma;exact Hr (by lia)
end
section
variable {X:Cx}
def AW:V->List V->Hp->VK->Prop:=λx vs H Q=>∃ l xs y,x=.ref l/\vs=[y]/\H l=some (.lst xs)/\xs.length<GZ/\Q .non (upd H l (.lst (xs++[y])))
theorem wm:EV X "list.append" AW:=by
 intro pins s σ H x vs v us Q I rx rv h;obtain⟨l,xs,y,rfl,rfl,hH,hz,q⟩:=h;cases rx;obtain⟨u,rfl,ru⟩:=rv.one;obtain⟨z,its,n,r,hl,e⟩:=I.lstM hH;refine Md O0 ⟨_,e,rfl⟩ F.entry_list_append (F.args_list_append_2 _ _) (PySem.list_append l its.toArray n u (by rw[Hi];lia)) ⟨e,?_⟩;refine⟨.non,_,I.lset (its':=its++[u]) hH e (by simp) (r.append (.cons ru .nil)) ?_,rfl,q⟩;rw[IB,O_];lia
def E_:R2:=λx y H Q=>∃ l b xs zs,x=.ref l/\y=.ref b/\H l=some (.lst xs)/\H b=some (.lst zs)/\xs.length+zs.length<=GZ/\∀ p,H p=none->Q (.ref p) (upd H p (.lst (xs++zs)))
theorem fZ:fU X (Ni .Add) E_:=by
 intro pins s σ H x y v u Q I rx ry h;obtain⟨l,b,xs,zs,rfl,rfl,hH,hB,hz,q⟩:=h;cases rx;cases ry;obtain⟨z,its,n,r,hl,e⟩:=I.lstM hH;obtain⟨z2,its2,n2,r2,hl2,e2⟩:=I.lstM hB;refine PySem.P.add_list e e2 ?_ (by rw[Hi,Hi];lia);have ea:its.toArray++its2.toArray=(its++its2).toArray:=by simp
 rw[ea];exact⟨.ref _,_,I.lnew (t':=s.toks) (r.append r2) (by rw[IB];lia),rfl,q _ I.fresh⟩
def CT:R2:=λx y H Q=>∃ l k xs,x=.ref l/\y=.int k/\H l=some (.lst xs)/\-(2^63)<=k/\k<2^63/\xs.length*k.toNat<=GZ /\
 ∀ p,H p=none->Q (.ref p) (upd H p (.lst (GY k.toNat xs).flatten))
theorem z_ (xs:List α)(k:Nat):(GY k xs).flatten.length=k*xs.length:=by
 induction k with
 |zero=>simp
 |succ k ih=>rw[JW,LK,IB,ih,NN,Pa]
theorem tD:fU X (Ni .Mult) CT:=by
 intro pins s σ H x y v u Q I rx ry h;obtain⟨l,k,xs,rfl,rfl,hH,h1,h2,hz,q⟩:=h;cases rx;obtain⟨t,rfl⟩:=ry;obtain⟨z,its,n,r,hl,e⟩:=I.lstM hH;have hlen:its.toArray.size*k.toNat<=GZ:=by rw[Hi,<- hl];exact hz
 have hcap:¬ its.toArray.size*k.toNat>(2^63-1)/8:=by
  have:(GZ:Nat)<=(2^63-1)/8:=by decide
  lia
 have hfit:¬ (!Builtin.List.listFitsIndex k)=true:=by
  rw[fitsIndex_both h1 h2];exact Hn
 have hlong:¬ Ma (its.toArray.size*k.toNat)=true:=by
  rw[yw hlen];exact Hn
 have hnew:Rq (λx1 x2=>x1++x2) #[] (GY (if its.toArray.isEmpty=true then 0 else k.toNat) its.toArray)=(GY k.toNat its).flatten.toArray:=by
  have f0:∀ m:Nat,Rq (λx1 x2=>x1++x2) #[] (GY m its.toArray)=(GY m its).flatten.toArray:=λm=>by
   have:=n5 its m [];rw[List.nil_append] at this;exact this
  rw[f0];cases its with
  |nil=>simp
  |cons a r'=>rw[Hu (by simp)]
 refine wpAny_binaryOp_repeat_ref (T:="list") (U:="int") (by decide) ⟨_,e,rfl⟩ (λs'=>typeIs_int s' k t) noFill_list_mul F.fills_int_mul F.slot_int_rmul repeat_list F.slot_int_index.lookup
  (Md F.slot_int_rmul (typeIs_int s k t) F.entry_int_rmul (F.args_int_rmul_2 _ _) (int___rmul___int_list k t l its.toArray n)
   ⟨e,rfl,⟨_,e,rfl⟩,Md F.slot_list_mul ⟨_,e,rfl⟩ F.entry_list_mul (F.args_list_mul_2 _ _) (AutoListH.list___mul___list_int_3 l its.toArray n k t hfit hcap hlong) ⟨e,?_⟩⟩)
 rw[hnew];exact⟨.ref _,_,I.lnew (t':=s.toks) (r.rep k.toNat) (by rw[z_,QV];exact hz),rfl,q _ I.fresh⟩
end
end L2
namespace Att
open PySem PySem.W PySem.Calls PyProof.Rows
theorem kN:∀ (ns:List Int) (vs:List GH),WellAll P h vs (ns.map WData.int)->L7 vs ns:=by
 intro ns
 induction ns with
 |nil=>
  intro vs w;rw[NM] at w;cases w;exact .nil
 |cons n ns ih=>
  intro vs w;rw[G_] at w;cases w with
  |cons a b=>
   cases a;exact .cons _ _ (ih _ b)
theorem vw {l:OpenLaw}{n:Nat} (hn:l.most=some n) {P:Params}{h:JI}{args:List WData}{vals:List GH}
  (hpre:l.row.toRowW.claim.pre args=true)(hwl:WellAll P h vals args):
  ∃ a vs ns,vals=[Ht a]/\args=[WData.list (ns.map WData.int)]/\h.get? a=some { cls:=.type "list",data:=.seq vs.toArray }/\L7 vs ns/\ns.length<=n:=by
 have hsh:WShape.hasAll [] args [.list .int]=true:=(pre_splitW hpre).1;have hc:l.pre.holds [] { args:=args }=true:=(pre_splitW hpre).2;obtain⟨d,r,rfl,h1,h2⟩:=hasAllW_cons hsh;obtain rfl:=hasAllW_nil h2;obtain⟨xs,rfl,h3⟩:=hasW_list h1;obtain⟨ns,rfl⟩:=items_int h3;have hlen:ns.length<=n:=by
  unfold OpenLaw.pre at hc;have h4:(WTm.not (.lt (.lit (.int (n:Int))) (.len (.arg 0)))).holds [] { args:=[.list (ns.map .int)] }=true:=by
   have h4:=(holds_andW hc).1;rw[hn] at h4;exact h4
  have h5:=condW_of h4 (w_not (w_lt w_lit (w_len_list (w_arg rfl))));rw[GG] at h5;refine Nat.le_of_not_lt λq=>?_
  have q':(n:Int)<((ns.length:Nat):Int):=by lia
  first
   |(rw[GP q'] at h5;exact absurd h5 (by decide))
   |(simp at h5;lia)
 cases hwl with
 |cons w1 w2=>
  cases w2;cases w1 with
  |list ho hall=>exact⟨_,_,ns,rfl,rfl,ho,kN ns _ hall,hlen⟩
theorem wb (l:OpenLaw)(args:List WData):l.row.toRowW.claim.post args (.bool true) args=true:=
 postW_of (r:=l.row.toRowW) (X:=(true==true))
  (show WShape.has [] (.bool true) .bool=true by first|rfl|decide|simp[WShape.has,WShape.arms,WShape.armsAll])
  (show(WTm.eq .res (.lit (.bool true))).value [] { args:=args,res:=some (.bool true),after:=args }=some (.bool (true==true)) from w_eq_bool (w_res rfl) w_lit) rfl
theorem attach_call {l:OpenLaw}{n:Nat}{q:Hv}{loose:List Str}{XP:(Str->Option GH)->JI->Prop}{YP:IN->JI->Prop}{d:DefRec}
  (hn:l.most=some n)(hdf:d.params.defaults=[])
  (call:∀ (w:IN) (s₀ s₁:GJ) (mg mb:Str->Option GH) (fa:G7) (o:Obj) (pm cd doc:GH) (a:G7) (vs:List GH) (ns:List Int),
   Ground q loose [] XP w s₀ mg mb s₁.heap->YP w s₁.heap ->
   s₁.heap.get? fa=some o->o.data=.func (docDef d.name d.params d.body d.scope pm cd doc)->s₁.heap.CodeRec cd d.name->mg d.name=some (.ref fa) ->
   s₁.heap.get? a=some { cls:=.type "list",data:=.seq vs.toArray }->L7 vs ns->ns.length<=n->s₁.gens=#[] ->
   Ky (Hl l.prog w) Ri (.call (.ref fa) ⟨[.ref a],[]⟩) (λr s'=>r=.ok (.ret (.bool true))/\OldK s₁.heap s'.heap/\s'.os=s₁.os/\OY s'.gens) s₁) :
  WalkO q loose XP YP l.row.toRowW d [] (λf vs=>Rs f vs):=by
 intro w s₀ s₁ mg mb G Y fa o pm cd doc dV kV ho hd hcd hD hmg hg args vals as hpre hlay hrd hwl hlo;obtain rfl:dV=.none:=Dflts.none hD hdf;obtain rfl:kV=.none:=Dflts.noKw hD;obtain⟨a,vs,ns,rfl,rfl,hobj,hints,hlen⟩:=vw hn hpre hwl;refine enter_call (K9 (call w s₀ s₁ mg mb fa o pm cd doc a vs ns G Y ho (fd_plain hd) hcd hmg hobj hints hlen hg) λr s' hq=>?_);obtain⟨rfl,h2,h3,h4⟩:=hq;exact⟨.inl ⟨.bool true,.bool true,[],rfl,λ_=>rfl,.bool true,wb l _,λ_=>⟨Oc,λ_ hm=>(nomatch hm)⟩⟩,h2,h3,h4⟩
end Att
namespace L2
open PySem PySem.Spec PyProof.Rows
theorem eY:∀ {vs:List GH}{ns:List Int},L7 vs ns->aI (ns.map V.int) vs
 |_,_,.nil=>.nil
 |_,_,.cons n t h=>.cons ⟨t,rfl⟩ (eY h)
end L2
namespace L2
open PySem PySem.Spec PyProof.Rows
def jj (s:K4)(j:Nat):K4:=match s with
 |.ClassDef _ _ _ body _ _ _ _ _ _ _=>body.getD j (.Pass ⟨0,0,0,0⟩)
 |_=>.Pass ⟨0,0,0,0⟩
def aZ (s:K4):Arguments:=match s with
 |.FunctionDef _ a _ _ _ _ _ _ _ _=>a
 |_=>{ posonlyargs:=[],args:=[],vararg:=none,kwonlyargs:=[],kw_defaults:=[],kwarg:=none,defaults:=[] }
def aU (s:K4):List K4:=match s with
 |.FunctionDef _ _ b _ _ _ _ _ _ _=>b
 |_=>[]
def ai (s:K4):LF:=match s with
 |.FunctionDef _ _ _ _ _ _ sc _ _ _=>sc
 |_=>{ kind:=.function,names:=[],isGenerator:=false,isCoroutine:=false }
abbrev E0:XK:=λ_ _ _=>False
structure Ew (K:GB)(x qual:Str)(st:K4)(f:G7)(fd:KN):Prop where
 ex:∃ (oc:GH) (od:Option G7) (kV doc pm:GH) (an:Option G7) (cdv ct:GH) (osl:Array (Option GH)),
  fd=Ih x qual (aZ st) (aU st) (ai st) .none kV doc pm an cdv ct/\K.lookup f=some ⟨oc,od,.func fd,osl⟩/\Jb K cdv qual=true
 kp:IK K (.ref f)=true
section
variable {P:Hv}{w:IN}{K:GB}{mg:Str->Option GH}{base:JI}
theorem BW {x qual:Str}{st:K4}{f:G7}{oc:GH}{od an:Option G7}{osl:Array (Option GH)}{kV doc pm cdv ct:GH} (l:K.lookup f=some ⟨oc,od,.func (Ih x qual (aZ st) (aU st) (ai st) .none kV doc pm an cdv ct),osl⟩)
  (c:Jb K cdv qual=true)(k:IK K (.ref f)=true):Ew K x qual st f (Ih x qual (aZ st) (aU st) (ai st) .none kV doc pm an cdv ct):=⟨⟨oc,od,kV,doc,pm,an,cdv,ct,osl,rfl,l,c⟩,k⟩
end
theorem bL {n:Nat}(h:n<=1000):n<GZ:=Mp h (by decide)
section
variable {X:Cx}
theorem pv (i:Nat) (hN:X.N[i]?=some x:=by rfl) (hv:Cn X.env.scope x:=by first | exact Rr rfl | exact QY (Rr rfl) | exact QY (QY rfl)) (hd:(x == ("__debug__":Str))=false:=by decide)
  (hcd:(x==("__classdict__":Str))=false:=by decide):PE X (.Name x pos) (Cs i):=Dh hN hv hd hcd
end
theorem aX {A B:Prop}(h:B):if false=true then A else B:=by
 rw[Hu Hn];exact h
theorem aP {A B:Prop}(h:A):if true=true then A else B:=by
 rw[Ie rfl];exact h
theorem eB {c A B:Prop}[Decidable c](h1:c->A)(h2:¬ c->B):if c then A else B:=by
 by_cases h:c
 ·rw[Ie h];exact h1 h
 ·rw[Hu h];exact h2 h
theorem By {c A B:Prop}[Decidable c](hc:c)(h:B):if(!decide c)=true then A else B:=by
 rw[GP hc];exact aX h
def ah (H H':Hp):Prop:=∀ b o,H b=some o->H' b=some o
theorem ah.refl (H:Hp):ah H H:=λ_ _ h=>h
theorem ah.trans (a:ah H H1)(b:ah H1 H2):ah H H2:=λc o h=>b c o (a c o h)
theorem ah.free (e:ah H H')(h:H' l=Option.none):H l=Option.none:=by
 cases q:H l with
 |none=>rfl
 |some o=>
  rw[e l o q] at h;cases h
theorem ah.seq {K:GB}{H H':Hp}{a:G7}{xs:List V}(e:ah H H')(h:bg K H a xs):bg K H' a xs:=by
 rcases h with (h|⟨o,h⟩)|h
 ·exact .inl (.inl (e _ _ h))
 ·exact .inl (.inr ⟨o,e _ _ h⟩)
 ·exact .inr h
end L2
set_option Elab.async false
set_option linter.all false
set_option maxRecDepth 100000
set_option maxHeartbeats 4000000
namespace TR
def yj (t b n d:Int):Prop:=0<d/\Jt n d=1/\n*b=t*d
def Sm (k:Nat)(x:Int):Prop:=x.natAbs<2^k
theorem r_ {a b:Int}(ha:0<=a)(hb:0<b):Jt b (a%b)=Jt a b:=by
 obtain⟨x,rfl⟩:=JK ha;obtain⟨y,rfl⟩:=JK (O2 hb);show Nat.gcd y ((x:Int)%(y:Int)).natAbs=Nat.gcd x y;rw[show((x:Int)%(y:Int)).natAbs=x%y from rfl,Nat.gcd_comm,<- Nat.gcd_rec,Nat.gcd_comm]
theorem s_ {k m n:Int}(h:k∣m*n)(c:Jt k m=1):k∣n:=by
 have h':k.natAbs∣m.natAbs*n.natAbs:=by rw[<- NW];exact O3.mpr h
 exact O3.mp (Nat.Coprime.dvd_of_dvd_mul_left (show Nat.Coprime k.natAbs m.natAbs from c) h')
theorem sH {t b g m:Int}(hb:b≠0)(hg:g=(Jt t b:Int))(hm:m=if b<0 then -g else g):yj t b (t.fdiv m) (b.fdiv m):=by
 have hgp:0<g:=by
  rw[hg];have:0<Jt t b:=Lq _ hb;lia
 have dt:g∣t:=by rw[hg];exact Int.gcd_dvd_left ..
 have db:g∣b:=by rw[hg];exact Int.gcd_dvd_right ..
 obtain⟨x,hx⟩:=dt;obtain⟨y,hy⟩:=db;have hco:Jt x y=1:=by
  have h1:Jt t b=Jt x y*g.natAbs:=by
   rw[hx,hy,Int.gcd_mul_left,QV]
  have h2:g.natAbs=Jt t b:=by rw[hg];rfl
  have h3:0<g.natAbs:=by lia
  rw[<- h2] at h1;exact Nat.eq_of_mul_eq_mul_right h3 (by lia)
 by_cases hn:b<0
 ·have em:m=-g:=by rw[hm,Ie hn]
  have hy0:y<0:=by
   rw[hy] at hn;rcases Int.lt_or_le y 0 with h|h
   ·exact h
   ·have:=KI (O2 hgp) h;lia
  have e1:t.fdiv m=-x:=by
   have e:t=m*(-x):=by rw[em,Int.neg_mul_neg];exact hx
   rw[e];exact KS _ (by lia)
  have e2:b.fdiv m=-y:=by
   have e:b=m*(-y):=by rw[em,Int.neg_mul_neg];exact hy
   rw[e];exact KS _ (by lia)
  rw[e1,e2];refine⟨by lia,by rw[Int.gcd_neg,Int.neg_gcd];exact hco,?_⟩;rw[Int.neg_mul,Re,hx,hy,Oa,Ml]
 ·have em:m=g:=by rw[hm,Hu hn]
  have hy0:0<y:=by
   have hb':0<b:=by lia
   rw[hy] at hb';rcases Int.lt_or_le 0 y with h|h
   ·exact h
   ·have:=KI (O2 hgp) (show 0<=-y by lia);rw[Re] at this;lia
  have e1:t.fdiv m=x:=by
   rw[hx,em];exact KS _ (by lia)
  have e2:b.fdiv m=y:=by
   rw[hy,em];exact KS _ (by lia)
  rw[e1,e2];refine⟨hy0,hco,?_⟩;rw[hx,hy,Oa,Ml]
theorem tM {t b n d n' d':Int}(hb:b≠0)(h:yj t b n d)(h':yj t b n' d'):n=n'/\d=d':=by
 obtain⟨h1,h2,h3⟩:=h;obtain⟨k1,k2,k3⟩:=h';have e:n*d'=n'*d:=by
  have e1:b*(n*d')=b*(n'*d):=by
   have a1:b*(n*d')=(n*b)*d':=by rw[Mc n b,Ml]
   have a2:b*(n'*d)=(n'*b)*d:=by rw[Mc n' b,Ml]
   rw[a1,a2,h3,k3,Ml,Ml,Mc d d']
  exact NV hb e1
 have dd:d∣d':=by
  have:d∣n*d':=⟨n',by rw[e,Mc]⟩
  exact s_ this (by rw[QS];exact h2)
 have dd':d'∣d:=by
  have:d'∣n'*d:=⟨n,by rw[<- e,Mc]⟩
  exact s_ this (by rw[QS];exact k2)
 have l1:=Int.le_of_dvd k1 dd;have l2:=Int.le_of_dvd h1 dd';have ed:d=d':=by lia
 subst ed;exact⟨Int.eq_of_mul_eq_mul_right (by lia) e,rfl⟩
theorem mD {t b n d:Int}(hb:b≠0)(h:yj t b n d):n.natAbs<=t.natAbs/\d.natAbs<=b.natAbs:=by
 obtain⟨h1,h2,h3⟩:=h;have db:d∣b:=by
  have:d∣n*b:=⟨t,by rw[h3,Mc]⟩
  exact s_ this (by rw[QS];exact h2)
 obtain⟨y,hy⟩:=db;have e:t=n*y:=by
  have:d*(n*y)=d*t:=by
   rw[Oa,<- hy,h3,Mc]
  exact(NV (by lia) this).symm
 have hy0:y≠0:=by rintro rfl;simp at hy;exact hb hy
 have hp:0<y.natAbs:=by lia
 constructor
 ·rw[e,NW];exact Ov _ hp
 ·rw[hy,NW];exact Ov _ hp
theorem Sm.mono {k j:Nat}{x:Int}(h:Sm k x)(l:k<=j):Sm j x:=G8 h (LQ (by decide) l)
theorem Sm.mul {k j:Nat}{x y:Int}(h:Sm k x)(h':Sm j y):Sm (k+j) (x*y):=by
 unfold Sm at *;rw[NW,Nat.pow_add];exact Nat.mul_lt_mul'' h h'
theorem Sm.sub {k:Nat}{x y:Int}(h:Sm k x)(h':Sm k y):Sm (k+1) (x-y):=by
 unfold Sm at *;rw[QW];lia
theorem Sm.neg {k:Nat}{x:Int}(h:Sm k x):Sm k (-x):=by
 unfold Sm at *;rw[Int.natAbs_neg];exact h
theorem Sm.le {k:Nat}{x y:Int}(h:Sm k x)(l:y.natAbs<=x.natAbs):Sm k y:=Mp l h
theorem uS (a b:Int):Jt (if a<0 then -a else a) (if b<0 then -b else b)=Jt a b:=by
 split<;>split<;>simp
theorem xV {t b:Int}(hb:b≠0):((Jt t b:Int)).natAbs<=b.natAbs:=by
 have:Jt t b∣b.natAbs:=Nat.gcd_dvd_right ..;exact Nat.le_of_dvd (by lia) this
open PySem PySem.Spec PyProof.Rows L2
theorem yS:IM "int"=some (.type "int"):=by decide +kernel
theorem Aq:IM "bool"=some (.type "bool"):=by decide +kernel
theorem gB:IM "tuple"=some (.type "tuple"):=by decide +kernel
theorem jv:IM "list"=some (.type "list"):=by decide +kernel
theorem iH:IM "str"=some (.type "str"):=by decide +kernel
theorem uy:IM "dict"=some (.type "dict"):=by decide +kernel
theorem BM:IM "set"=some (.type "set"):=by decide +kernel
theorem ye:IM "abs"=some (.builtin "abs"):=by decide +kernel
theorem bK:IM "len"=some (.builtin "len"):=by decide +kernel
theorem Dc:IM "max"=some (.builtin "max"):=by decide +kernel
theorem tH:IM "min"=some (.builtin "min"):=by decide +kernel
theorem fj:IM "all"=some (.builtin "all"):=by decide +kernel
theorem j9:IM "sorted"=some (.builtin "sorted"):=by decide +kernel
theorem ax:IM "isinstance"=some (.builtin "isinstance"):=by decide +kernel
mutual
inductive aW (K:GB)(H:Hp):Il->V->Prop
 |non:aW K H .none .non
 |bl (b:Bool):aW K H (.bool b) (.bl b)
 |int (i:Int):aW K H (.int i) (.int i)
 |str (x:Str):aW K H (.str x) (.str x)
 |lst {a:G7}{xs:List V}{ds:List Il}:Rd H a (.lst xs)->aE K H ds xs->aW K H (.list ds) (.ref a)
 |tup {a:G7}{xs:List V}{ds:List Il}:H a=some (.tup xs)->aE K H ds xs->aW K H (.tuple ds) (.ref a)
 |dct {a:G7}:H a=some (.dK [])->aW K H (.dict []) (.ref a)
inductive aE (K:GB)(H:Hp):List Il->List V->Prop
 |nil:aE K H [] []
 |cons {d:Il}{v:V}{ds:List Il}{vs:List V}:aW K H d v->aE K H ds vs->aE K H (d::ds) (v::vs)
end
section
variable {X:Cx}{pins:List (G7×Obj)}{σ:L2.St}{H H':Hp}{s:GJ}
mutual
theorem gm (I:aw X pins σ H s):∀ {d:Il}{v:V}{u:GH},aW X.K H d v->RelV v u->∃ as,Reads s.heap u d as
 |_,_,_,.non,r=>by cases r;exact⟨_,.none⟩
 |_,_,_,.bl b,r=>by cases r;exact⟨_,.bool b⟩
 |_,_,_,.int i,r=>by obtain⟨t,rfl⟩:=r;exact⟨_,.int i t⟩
 |_,_,_,.str x,r=>by obtain⟨t,rfl⟩:=r;exact⟨_,.str x t⟩
 |_,_,_,.lst h q,r=>by
  cases r;obtain⟨its,rv,⟨o,n,e,c,_,d⟩,_⟩:=I.list (.inl h);obtain⟨as,z⟩:=fW I q rv;exact⟨_,.list e c d (by simpa using z)⟩
 |_,_,_,.tup h q,r=>by
  cases r;obtain⟨its,rv,⟨o,e,c,n,d⟩,_⟩:=I.tuple (.inl (.inl h));obtain⟨as,z⟩:=fW I q rv;exact⟨_,.tuple e c d (by simpa using z)⟩
 |_,_,_,.dct h,r=>by
  cases r;obtain⟨_,_,vs,kv,o,es,ep,e1,e2,e3,_,e4,_⟩:=(show bc X.prog X.w H s.heap _ (.dK []) from I.hok _ _ h)
  cases kv;have ee:es.toList=[]:=by
   cases z:es.toList with
   |nil=>rfl
   |cons y l=>rw[z] at e4;cases e4
  exact⟨_,.dict (kvs:=[]) e1 e2.1 e3 (by rw[ee];exact .nil) (by rw[ee];exact .nil)⟩
theorem fW (I:aw X pins σ H s):∀ {ds:List Il}{vs:List V}{us:List GH},aE X.K H ds vs->aI vs us->∃ as,ReadsAll s.heap us ds as
 |_,_,_,.nil,.nil=>⟨_,.nil⟩
 |_,_,_,.cons h q,.cons r rr=>by
  obtain⟨as,z⟩:=gm I h r;obtain⟨bs,y⟩:=fW I q rr;exact⟨_,.cons z y⟩
end
end
theorem y7 {K:GB}{H H':Hp}{a:G7}{xs:List V}(e:ah H H')(h:fM K H a xs):fM K H' a xs:=by
 rcases h with (h|⟨o,h⟩)|h
 ·exact .inl (.inl (e _ _ h))
 ·exact .inl (.inr ⟨o,e _ _ h⟩)
 ·exact .inr h
theorem Rd.same (e:ah H H')(h:Rd H a u):Rd H' a u:=by
 rcases h with h|⟨o,h⟩
 ·exact .inl (e _ _ h)
 ·exact .inr ⟨o,e _ _ h⟩
mutual
theorem aW.same {K:GB}{H H':Hp}(e:ah H H'):∀ {d:Il}{v:V},aW K H d v->aW K H' d v
 |_,_,.non=>.non
 |_,_,.bl b=>.bl b
 |_,_,.int i=>.int i
 |_,_,.str x=>.str x
 |_,_,.lst h q=>.lst (Rd.same e h) (aE.same e q)
 |_,_,.tup h q=>.tup (e _ _ h) (aE.same e q)
 |_,_,.dct h=>.dct (e _ _ h)
theorem aE.same {K:GB}{H H':Hp}(e:ah H H'):∀ {ds:List Il}{vs:List V},aE K H ds vs->aE K H' ds vs
 |_,_,.nil=>.nil
 |_,_,.cons h q=>.cons (aW.same e h) (aE.same e q)
end
theorem ah.new (h:H p=none):ah H (upd H p o):=λb u e=>by rw[ap (aV e h)];exact e
def Mv (T:List G7)(H H':Hp):Prop:=∀ b o,H b=some o->b∉T->H' b=some o
theorem Mv.of (h:ah H H'):Mv T H H':=λb o e _=>h b o e
theorem Mv.refl:Mv T H H:=λ_ _ e _=>e
theorem Mv.trans (a:Mv T H H1)(b:Mv T H1 H2):Mv T H H2:=λc o e n=>b c o (a c o e n) n
mutual
def nE:Il->Bool
 |.tuple xs=>iq xs
 |.none=>true
 |.bool _=>true
 |.int _=>true
 |.str _=>true
 |_=>false
def iq:List Il->Bool
 |[]=>true
 |x::xs=>nE x&&iq xs
end
def gH (H:Hp)(T:List G7):Prop:=∀ b∈T,∃ xs,H b=some (.lst xs)
theorem gH.not (h:gH H T)(e:H b=some o)(n:∀ xs,o≠.lst xs):b∉T:=λm=>by
 obtain⟨xs,q⟩:=h b m;rw[e] at q;exact n xs (GN q)
mutual
theorem aW.mv {K:GB}{T:List G7}{H H':Hp}(e:Mv T H H')(l:gH H T):∀ {d:Il}{v:V},nE d=true->aW K H d v->aW K H' d v
 |_,_,_,.non=>.non
 |_,_,_,.bl b=>.bl b
 |_,_,_,.int i=>.int i
 |_,_,_,.str x=>.str x
 |_,_,t,.lst _ _=>by simp[nE] at t
 |_,_,t,.tup h q=>.tup (e _ _ h (l.not h λ_ z=>nomatch z)) (aE.mv e l (by simpa [nE] using t) q)
 |_,_,t,.dct _=>by simp[nE] at t
theorem aE.mv {K:GB}{T:List G7}{H H':Hp}(e:Mv T H H')(l:gH H T):∀ {ds:List Il}{vs:List V},iq ds=true->aE K H ds vs->aE K H' ds vs
 |_,_,_,.nil=>.nil
 |_,_,t,.cons h q=>by
  simp only[iq,G6] at t;exact .cons (aW.mv e l t.1 h) (aE.mv e l t.2 q)
end
section
variable {X:Cx}
def Em (K:GB):R2:=λx y H Q=>∃ d e,aW K H d x/\aW K H e y/\NP d=true/\NP e=true/\Q (.bl (QE d e)) H
def Dp (K:GB):R2:=λx y H Q=>∃ d e,aW K H d x/\aW K H e y/\NP d=true/\NP e=true/\Q (.bl (!QE d e)) H
theorem BO (hu:X.A.units+64<cLine):fU X (Jo .Eq) (Em X.K):=by
 intro pins s σ H x y v u Q I rx ry h;obtain⟨d,e,hd,he,sd,se,q⟩:=h;obtain⟨as,r1⟩:=gm I hd rx;obtain⟨bs,r2⟩:=gm I he ry;exact eq_dataH r1 r2 sd se hu ⟨.bl _,H,I,rfl,q⟩
theorem Db (hu:X.A.units+64<cLine):fU X (Jo .NotEq) (Dp X.K):=by
 intro pins s σ H x y v u Q I rx ry h;obtain⟨d,e,hd,he,sd,se,q⟩:=h;obtain⟨as,r1⟩:=gm I hd rx;obtain⟨bs,r2⟩:=gm I he ry;exact ne_dataH r1 r2 sd se hu ⟨.bl _,H,I,rfl,q⟩
def xG (K:GB):R2:=λx y H Q=>∃ a b ns,x=.ref a/\y=.ref b/\bg K H a (ns.map V.int)/\H b=some (.lst [])/\Q (.bl (!decide (ns=[]))) H
theorem yl (hu:X.A.units+64<cLine):fU X (Jo .NotEq) (xG X.K):=by
 intro pins s σ H x y v u Q I rx ry h;obtain⟨a,b,ns,rfl,rfl,ha,hb,q⟩:=h;cases rx;cases ry;obtain⟨xs,r1,pl,_⟩:=I.list ha;obtain⟨ys,r2,pl2,_⟩:=I.list (bg.of (K:=X.K) hb);cases r2;exact PySem.W.ke_ne_ints pl.isList pl2.isList (sZ r1) .nil hu ⟨.bl _,H,I,rfl,q⟩
theorem ff:fU X (Jo .Eq) (zy λi j=>.bl (decide (i=j))):=vo λ_ _ _ _ _ _ _ q=>eq_int (by rw[OZ];exact q)
theorem gy:fU X (Jo .NotEq) (zy λi j=>.bl (!decide (i=j))):=vo λ_ _ _ _ _ _ _ q=>ne_int (by rw[bne,OZ];exact q)
theorem Sm.bits {k:Nat}{x:Int}(h:Sm k x):PU x<=k:=by
 unfold PU
 split
 ·exact Iz _
 ·rename_i hx
  have h0:x.natAbs≠0:=by
   intro z;apply hx;have:x=0:=by lia
   subst this;rfl
  have:x.natAbs.log2<k:=(Rf h0).mpr h;lia
def Bv (i j:Int):Prop:=(Sm 8000 i/\Sm 8000 j)\/Sm 64 i
theorem bu:fU X (Ni .Mult) (rI Bv λi j=>.int (i*j)):=E3 λi j _ _ _ _ _ hc q=>mul_int q (by
 rcases hc with ⟨h1,h2⟩|h1
 ·exact IntMulOk.of_bits (GV h1.bits (by decide)) (GV h2.bits (by decide))
 ·exact IntMulOk.of_left h1.bits)
def EN (_ j:Int):Prop:=j≠0/\Sm 8000 j
theorem c7:fU X (Ni .FloorDiv) (rI EN λi j=>.int (i.fdiv j)):=E3 λi j _ _ _ _ _ hc q=>floordiv_int hc.1 q (.inl (PyProof.noPylong_of_log2 (by
 by_cases h0:j.natAbs=0
 ·rw[h0];decide
 ·exact G8 ((Rf h0).mpr hc.2) (by decide))))
def bn (a b:String):Option Bool:=if((Kj a==Kj b)=true) then some true else if Rg b=true then(fastBuiltinMro a).map (·.contains (.type b)) else none
theorem rK (K:GB)(a b:String):Jx K (.type a) (.type b)=bn a b:=rfl
abbrev Ty (K:GB)(H:Hp)(x:V)(T:String):Prop:=jx K H x (.type T)
def CA (K:GB):List V->Hp->VK->Prop:=λxs H Q=>∃ x T S b,xs=[x,.ty S]/\Ty K H x T/\bn T S=some b/\Q (.bl b) H
theorem qE:br X (.builtin "isinstance") (CA X.K):=by
 intro pins s σ H xs us Q I r h;obtain⟨x,T,S,b,rfl,ty,e,q⟩:=h;obtain⟨u,v,rfl,rx,rv⟩:=jy r;cases(show v=Kj S from rv);exact gU I rx ty (by rw[rK];exact e) λtk=>⟨.bl b,H,I.tok tk,rfl,q⟩
end
def E2:Il->String
 |.none=>"NoneType"
 |.bool _=>"bool"
 |.int _=>"int"
 |.str _=>"str"
 |.list _=>"list"
 |.tuple _=>"tuple"
 |.dict _=>"dict"
theorem aW.ty {K:GB}{H:Hp}{d:Il}{x:V}(h:aW K H d x):Ty K H x (E2 d):=by
 cases h with
 |non=>exact .non
 |bl b=>exact .bl b
 |int i=>exact .int i
 |str x=>exact .str x
 |lst h _=>
  rcases h with h|⟨o,h⟩
  ·exact .lst h
  ·exact .frz h
 |tup h _=>exact .tup h
 |dct h=>exact .dK h
def CU (CX:jE):Prop:=∀ outer H s e s',CX outer H s E0 e s'->False
theorem uK (h:CU CX):o0 CX X E0:=λ_ _ _ _ _ _ _ z=>(h _ _ _ _ _ z).elim
structure du (P:Hv)(w:IN)(K:GB)(mg:Str->Option GH)(base:JI)(CX:jE)(k:Nat)(x:Str)(ps:List Str)(dvs:List V)(sp:Sp):Prop where
 ex:∃ (f:G7) (fd:KN) (ds:List GH),i9 P w K mg base CX k f fd ps sp/\mg x=some (.ref f)/\IK K (.ref f)=true/\iD K fd ps ds/\aI dvs ds
section
variable {X:Cx}{CX:jE}{k:Nat}{x:Str}{ps:List Str}{sp:Sp}{dvs:List V}{p pos:Pos}{e:JG}{es:List JG}{t:TA}
theorem zO (hX:CU CX) (C:du X.prog X.w X.K X.mg X.base CX k x ps dvs sp) (hr:Room k X.A) (hg:Gl X x) (ha:WA X (e :: es) t) (hdb:(x == ("__debug__":Str))=false:=by decide)
  (he:G9 (e::es) X.env=(false,KH e X.env)::G9 es X.env:=by rfl)(hpl:(Lh pos (G9 es X.env)).any (·.1)=false:=by rfl):WE X (.Call (.Name x p) (e::es) [] pos) (yB sp dvs E0 t):=by
 have ha:=ha.go;refine⟨?_⟩;obtain⟨f,fd,ds,F,hm,hk,hb,hv⟩:=C.ex;exact Ag F hr hg hm hk hb hv (uK hX) ha hdb he hpl
end
structure cW (K:GB)(mg:Str->Option GH)(x:Str)(st:K4)(ps:List Str)(dvs:List V):Prop where
 ex:∃ (f:G7) (fd:KN) (oc:GH) (od:Option G7) (dV kV doc pm:GH) (an:Option G7) (cdv ct:GH) (osl:Array (Option GH)) (ds:List GH),
  fd=Ih x x (aZ st) (aU st) (ai st) dV kV doc pm an cdv ct/\K.lookup f=some ⟨oc,od,.func fd,osl⟩/\Jb K cdv x=true /\
  mg x=some (.ref f)/\IK K (.ref f)=true/\iD K fd ps ds/\aI dvs ds
section
variable {P:Hv}{w:IN}{K:GB}{mg:Str->Option GH}{base:JI}{CX:jE}
theorem cW.cal {x:Str}{st:K4}{N ps:List Str}{dvs:List V}{k:Nat}{sp:Sp} (F:cW K mg x st ps dvs) (S:aD N ps (ai st)) (len:∀ vs H Q E,sp vs H Q E->vs.length=ps.length:=by intro _ _ _ _ h;cases h;subst_vars;rfl)
  (bb:∀ (f:G7) (cdv:GH) (A:IR) (outer:List Env) (s:GJ) (H:Hp) (vs:List V) (Q:VK) (E:XK),Room k (A.deeper (envOfC x (ai st) s.heap.objs.size f cdv))->sp vs H Q E ->
   ∃ t,yM (lQ CX P w K mg base N x (ai st) f cdv A outer s H E).nox (aU st) t/\t { nx:=λ_ H'=>Q .non H',rt:=Q } (gI N vs) H):du P w K mg base CX (k+1) x ps dvs sp:=by
 obtain⟨f,fd,oc,od,dV,kV,doc,pm,an,cdv,ct,osl,ds,rfl,lk,hcd,hm,hk,hb,hv⟩:=F.ex;refine⟨f,_,ds,uE lk hcd S len λA outer s H vs Q E hr hsp=>?_,hm,hk,hb,hv⟩;obtain⟨t,h,q⟩:=bb f cdv A outer s H vs Q E hr hsp;exact⟨t,h.nox,q⟩
theorem CF {x:Str}{st:K4}{ps:List Str}{f:G7}{oc:GH}{od an:Option G7}{osl:Array (Option GH)}{kV doc pm cdv ct:GH} (l:K.lookup f=some ⟨oc,od,.func (Ih x x (aZ st) (aU st) (ai st) .none kV doc pm an cdv ct),osl⟩)
  (c:Jb K cdv x=true)(k:IK K (.ref f)=true)(m:mg x=some (.ref f))
  (h:∀ us:List GH,us.length=ps.length->Kr (Ih x x (aZ st) (aU st) (ai st) .none kV doc pm an cdv ct) ⟨us,[]⟩=pure (ps.zip us)):cW K mg x st ps []:=
 ⟨f,_,oc,od,.none,kV,doc,pm,an,cdv,ct,osl,[],rfl,l,c,m,k,.all h,.nil⟩
theorem uA {x:Str}{st:K4}{ps:List Str}{f T:G7}{oc:GH}{od an:Option G7}{osl:Array (Option GH)}{kV doc pm cdv ct:GH}{oT:Obj}{items:Array GH}{n:Nat}{ds:List GH}{dvs:List V}
  (l:K.lookup f=some ⟨oc,od,.func (Ih x x (aZ st) (aU st) (ai st) (.ref T) kV doc pm an cdv ct),osl⟩)
  (c:Jb K cdv x=true)(k:IK K (.ref f)=true)(m:mg x=some (.ref f))(lT:K.lookup T=some oT)(hT:oT.data=.seq items n)(hv:aI dvs ds)
  (h:∀ us:List GH,(us++ds).length=ps.length->∃ kk:Option (Array GH)->Sem (List (Str×GH)),Kr (Ih x x (aZ st) (aU st) (ai st) (.ref T) kV doc pm an cdv ct) ⟨us,[]⟩=Qu (.ref T)>>=kk/\kk (some items)=pure (ps.zip (us++ds))):cW K mg x st ps dvs:=
 ⟨f,_,oc,od,.ref T,kV,doc,pm,an,cdv,ct,osl,ds,rfl,l,c,m,k,λs us X hl=>by
  obtain⟨kk,h1,h2⟩:=h us hl;exact BindsTo.of_defaults rfl (X T oT lT) hT h1 h2,hv⟩
end
end TR
namespace TR
open PySem PySem.Spec PyProof.Rows L2
abbrev Bw (n d:Int):Il:=.tuple [.int n,.int d]
theorem cG {K:GB}{H:Hp}{n d:Int}{v:V}(h:aW K H (Bw n d) v):∃ a,v=.ref a/\H a=some (.tup [.int n,.int d]):=by
 cases h with
 |tup h q=>
  cases q with
  |cons q1 q2=>
   cases q1;cases q2 with
   |cons q3 q4=>
    cases q3;cases q4;exact⟨_,rfl,h⟩
theorem rY {K:GB}{H:Hp}{n d:Int}{a:G7}(h:H a=some (.tup [.int n,.int d])):aW K H (Bw n d) (.ref a):=.tup h (.cons (.int _) (.cons (.int _) .nil))
def Sh (K:GB)(H:Hp)(t b:Int)(Q:VK):Prop:=∀ v n d H',ah H H'->aW K H' (Bw n d) v->yj t b n d->Q v H'
structure Ok (k:Nat)(n d:Int):Prop where
 pos:0<d
 co:Jt n d=1
 sn:Sm k n
 sd:Sm k d
theorem yj.ok {t b n d:Int}{k:Nat}(h:yj t b n d)(hb:b≠0)(st:Sm k t)(sb:Sm k b):Ok k n d:=
 ⟨h.1,h.2.1,st.le (mD hb h).1,sb.le (mD hb h).2⟩
theorem Ok.mono {j k:Nat}{n d:Int}(h:Ok j n d)(l:j<=k):Ok k n d:=⟨h.pos,h.co,h.sn.mono l,h.sd.mono l⟩
def shB:Il->Bool
 |.tuple [.int n,.int d]=>decide (1<=d)&&decide (Jt n d=1)
 |_=>false
theorem Ok.shB {k:Nat}{n d:Int}(h:Ok k n d):TR.shB (Bw n d)=true:=by
 have:=h.pos;show(decide (1<=d)&&decide (Jt n d=1))=true;rw[GP (show 1<=d by lia),GP h.co];rfl
theorem uk:[a].length<=GZ:=by show 1<=GZ;decide
theorem pX:[a,b].length<=GZ:=by show 2<=GZ;decide
theorem Cp:[a,b,c].length<=GZ:=by show 3<=GZ;decide
section
variable {K:GB}{H:Hp}{Q:VK}{a:G7}{x y z:V}
theorem eU (h:H a=some (.tup [x,y]))(q:Q x H):Am K (.ref a) (.int 0) H Q:=.inr (.inl ⟨a,_,0,x,rfl,rfl,fM.of h,rfl,q⟩)
theorem ju (h:H a=some (.tup [x,y]))(q:Q y H):Am K (.ref a) (.int 1) H Q:=.inr (.inl ⟨a,_,1,y,rfl,rfl,fM.of h,rfl,q⟩)
theorem Cq (h:H a=some (.lst [x,y]))(q:Q x H):Am K (.ref a) (.int 0) H Q:=.inl ⟨a,_,0,x,rfl,rfl,bg.of h,rfl,q⟩
theorem uf (h:H a=some (.lst [x,y]))(q:Q y H):Am K (.ref a) (.int 1) H Q:=.inl ⟨a,_,1,y,rfl,rfl,bg.of h,rfl,q⟩
end
def tX:V->Bool
 |.int _=>true
 |_=>false
theorem Da {K:GB}{H:Hp}{x:V}{T:String}(h:Ty K H x T):∃ b,bn T "int"=some b/\if b=true then ∃ c,bn T "bool"=some c/\tX x=!c else tX x=false:=by
 cases h with
 |non=>exact⟨false,by decide +kernel,aX rfl⟩
 |bl b=>exact⟨true,by decide +kernel,aP ⟨true,by decide +kernel,rfl⟩⟩
 |int i=>exact⟨true,by decide +kernel,aP ⟨false,by decide +kernel,rfl⟩⟩
 |str x=>exact⟨false,by decide +kernel,aX rfl⟩
 |flt x=>exact⟨false,by decide +kernel,aX rfl⟩
 |lst e=>exact⟨false,by decide +kernel,aX rfl⟩
 |frz e=>exact⟨false,by decide +kernel,aX rfl⟩
 |tup e=>exact⟨false,by decide +kernel,aX rfl⟩
 |dK e=>exact⟨false,by decide +kernel,aX rfl⟩
 |dT e=>exact⟨false,by decide +kernel,aX rfl⟩
theorem aE.length {K:GB}{H:Hp}:∀ {ds:List Il}{xs:List V},aE K H ds xs->ds.length=xs.length
 |_,_,.nil=>rfl
 |_,_,.cons _ q=>by rw[HR,HR,aE.length q]
theorem Aw (h:ds.length≠2):shB (.tuple ds)=false:=by
 match ds,h with
 |[],_=>rfl
 |[a],_=>cases a<;>rfl
 |[a,b],h=>exact absurd rfl h
 |a::b::c::r,_=>cases a<;>(try rfl)<;>cases b<;>rfl
theorem EA {K:GB}{H:Hp}{d e:Il}{x:V}(g:aW K H d x)(h:tX x=false):shB (.tuple [d,e])=false:=by
 cases g with
 |int i=>exact absurd h (by simp[tX])
 |_=>rfl
theorem DY {K:GB}{H:Hp}{d e:Il}{x:V}(g:aW K H e x)(h:tX x=false):shB (.tuple [d,e])=false:=by
 cases g with
 |int i=>exact absurd h (by simp[tX])
 |_=>cases d<;>rfl
theorem uP {K:GB}{H:Hp}{d:Il}{x:V}(g:aW K H d x)(h:tX x=true):∃ n,d=.int n/\x=.int n:=by
 cases g with
 |int i=>exact⟨i,rfl,rfl⟩
 |_=>exact absurd h (by simp[tX])
def bI (H:Hp)(t r:G7):Prop:=∃ (cells:List Int) (k:Int),H t=some (.lst [.ref r,.int k])/\H r=some (.lst (cells.map V.int))/\cells≠[]/\cells.length<=63
theorem bI.lists (h:bI H t r):gH H [t,r]:=λb m=>by
 obtain⟨c,k,h1,h2,_⟩:=h;rcases GR.mp m with rfl|m
 ·exact⟨_,h1⟩
 ·cases G5.mp m;exact⟨_,h2⟩
theorem bI.same (h:bI H t r)(e:ah H H'):bI H' t r:=by
 obtain⟨c,k,h1,h2,h3,h4⟩:=h;exact⟨c,k,e _ _ h1,e _ _ h2,h3,h4⟩
theorem bI.ne (h:bI H t r):t≠r:=by
 obtain⟨c,k,h1,h2,h3,h4⟩:=h;refine yT h1 h2 λz=>?_
 cases c with
 |nil=>exact h3 rfl
 |cons x c=>
  injection z with z
  injection z with z _
  cases z
theorem fC [Decidable p](h:p):V.bl (decide p)=V.bl true:=by rw[GP h]
theorem Mv.upd (m:p∈[t,r]):Mv [t,r] H (upd H p o):=λb u e n=>by
 rw[ap (show b≠p from λz=>n (z▸m))];exact e
def qW (K:GB):Sp:=λvs H Q _=>∃ (a:G7) (ns:List Int),vs=[.ref a]/\bg K H a (ns.map V.int)/\ns.length<=63/\∀ H',Q (.bl true) H'
theorem Ew.okX {P:Hv}{w:IN}{K:GB}{mg:Str->Option GH}{base:JI}{CX:jE}{x qual:Str}{st:K4}{f:G7}{fd:KN}{N ps:List Str}{k:Nat}{sp:Sp} (F:Ew K x qual st f fd) (S:aD N ps (ai st)) (len:∀ vs H Q E,sp vs H Q E->vs.length=ps.length:=by intro _ _ _ _ h;cases h;subst_vars;rfl)
  (bb:∀ (cdv:GH) (A:IR) (outer:List Env) (s:GJ) (H:Hp) (vs:List V) (Q:VK) (E:XK),Room k (A.deeper (envOfC qual (ai st) s.heap.objs.size f cdv))->sp vs H Q E ->
   ∃ t,yM (lQ CX P w K mg base N qual (ai st) f cdv A outer s H E).nox (aU st) t/\t { nx:=λ_ H'=>Q .non H',rt:=Q } (gI N vs) H):i9 P w K mg base CX (k+1) f fd ps sp:=by
 obtain⟨oc,od,kV,doc,pm,an,cdv,ct,osl,rfl,lk,hcd⟩:=F.ex;refine uE lk hcd S len λA outer s H vs Q E hr hsp=>?_
 obtain⟨t,h,q⟩:=bb cdv A outer s H vs Q E hr hsp;exact⟨t,h.nox,q⟩
def aA (X:Cx)(N:List Str)(scope:LF)(cl:List (Str×G7))(C:G7)(s0:GJ)(H0:Hp)(fp:List G7)(pn:List (G7×Obj)):Cx:=
 { X with N:=N,s₀:=s0,H₀:=H0,env:=Lu scope cl C X.env,outer:=X.stack,stack:=X.stack,ex:=fp,fn:=λx=>scope.names.lookup x==some .cell,pn:=X.pn++pn,xe:=λ_ _=>False }
def vU (k:Nat)(js:List Nat)(σ:L2.St):L2.St:=GY k none++js.map λj=>(σ[j]?).join
def uV (cells:List (Str×G7)):List (Str×LL)->List (Str×G7)->List (Str×G7)
 |[],acc=>acc
 |(n,k)::r,acc=>if(k==.free)=true then uV cells r ((n,(cells.lookup n).getD 0)::acc) else uV cells r acc
theorem l9 (h:∀ y∈scope.names,y.2=.free->∃ c,env.cells.lookup y.1=some c):closureFor scope env=pure (uV env.cells scope.names []):=by
 have key:∀ (names:List (Str × LL)) (acc:List (Str × G7)),(∀ y ∈ names,y.2=.free->∃ c,env.cells.lookup y.1=some c) ->
   (forIn names acc λ(x:Str×LL) (r:List (Str×G7))=>(match x with
    |(name,kind)=>if(kind==.free)=true then(do let c <- cellOf env name;pure (JJ ((name,c)::r))) else pure (JJ r):Sem (ForInStep (List (Str×G7)))))=(pure (uV env.cells names acc):Sem (List (Str×G7))):=by
  intro names
  induction names with
  |nil=>intro acc _;rfl
  |cons y r ih=>
   intro acc hy;obtain⟨n,k⟩:=y;have hr:=λz hz=>hy z (GK _ hz)
   rw[O6];unfold uV
   by_cases hk:(k==Jz)=true
   ·obtain⟨c,hc⟩:=hy (n,k) GX (by simpa using hk);simp only[hk,K5];have e:cellOf env n=pure c:=by unfold cellOf;rw[hc]
    rw[e,hc];exact ih _ hr
   ·simp only[hk];exact ih _ hr
 unfold closureFor;have:=key scope.names [] h
 first
  |exact this
  |(simp only[bind_pure];exact this)
  |(rw[bind_pure];exact this)
  |(show(forIn scope.names [] _>>=λr=>pure r)=_;rw[bind_pure];exact this)
theorem cX:∀ {names:List (Str×LL)}{acc:List (Str×G7)}{x:Str}{c:G7},(∀ y∈names,y.2=.free->∃ c,cells.lookup y.1=some c)->(uV cells names acc).lookup x=some c->acc.lookup x=some c\/((x,Jz)∈names/\cells.lookup x=some c)
 |[],_,_,_,_,e=>.inl e
 |(n,k)::r,acc,x,c,hy,e=>by
  unfold uV at e;have hr:=λz hz=>hy z (GK _ hz)
  by_cases hk:(k==Jz)=true
  ·rw[Ie hk] at e;have hk':k=.free:=by simpa using hk
   rcases cX hr e with e|⟨m,e⟩
   ·rw[KC] at e;cases hx:x==n with
    |true=>
     rw[hx] at e;have hxn:x=n:=by simpa using hx
     obtain⟨c',hc'⟩:=hy (n,k) GX hk';have hc':cells.lookup n=some c':=hc';rw[hc'] at e;have e:c'=c:=by simpa using e
     subst e hxn hk';exact .inr ⟨GX,hc'⟩
    |false=>
     rw[hx] at e;exact .inl e
   ·exact .inr ⟨GK _ m,e⟩
  ·rw[Hu hk] at e;rcases cX hr e with e|⟨m,e⟩
   ·exact .inl e
   ·exact .inr ⟨GK _ m,e⟩
theorem jO:∀ {names:List (Str×LL)}{acc:List (Str×G7)}{x:Str},(∃ c,acc.lookup x=some c)\/(x,Jz)∈names->∃ c,(uV cells names acc).lookup x=some c
 |[],_,_,h=>by
  rcases h with h|h
  ·exact h
  ·cases h
 |(n,k)::r,acc,x,h=>by
  unfold uV
  by_cases hk:(k==Jz)=true
  ·rw[Ie hk];refine jO ?_;rcases h with ⟨c,e⟩|h
   ·refine .inl ?_;rw[KC];cases x==n with
    |true=>exact⟨_,rfl⟩
    |false=>exact⟨c,e⟩
   ·rcases GR.mp h with e|h
    ·injection e with e1 e2
     subst e1;exact .inl ⟨_,by rw[KC];simp;rfl⟩
    ·exact .inr h
  ·rw[Hu hk];refine jO ?_;rcases h with h|h
   ·exact .inl h
   ·rcases GR.mp h with e|h
    ·injection e with e1 e2
     subst e2;exact absurd rfl hk
    ·exact .inr h
theorem jS:∀ {names:List (Str×LL)}{n:Nat}{acc:List (Str×G7)}{x:Str}{c:G7},(Mz n names acc).lookup x=some c->acc.lookup x=some c\/((x,Jg)∈names/\n<=c)
 |[],_,_,_,_,e=>.inl e
 |(y,k)::r,n,acc,x,c,e=>by
  unfold Mz at e
  by_cases hk:(k==Jg)=true
  ·rw[Ie hk] at e;rcases jS e with e|⟨m,l⟩
   ·rw[KC] at e;cases hx:x==y with
    |true=>
     rw[hx] at e;have e:n=c:=by simpa using e
     have hxy:x=y:=by simpa using hx
     have hk':k=.cell:=by simpa using hk
     subst e hxy hk';exact .inr ⟨GX,GM _⟩
    |false=>
     rw[hx] at e;exact .inl e
   ·exact .inr ⟨GK _ m,KY l⟩
  ·rw[Hu hk] at e;rcases jS e with e|⟨m,l⟩
   ·exact .inl e
   ·exact .inr ⟨GK _ m,l⟩
structure jN (X:Cx)(scope:LF):Prop where
 kind:scope.kind=.function
 once:∀ y∈scope.names,scope.names.lookup y.1=some y.2
 one:∀ y∈scope.names,∀ z∈scope.names,y.2=.cell->z.2=.cell->y.1=z.1
 kinds:∀ y∈scope.names,y.2=.local\/y.2=.globalImplicit\/y.2=.cell\/y.2=.free
 free:∀ y∈scope.names,y.2=.free->∃ c,X.env.cells.lookup y.1=some c
abbrev ar (X:Cx)(scope:LF)(C:G7):List (Str×G7):=Mz (C+1) scope.names (uV X.env.cells scope.names [])
section
variable {X:Cx}{scope:LF}{C:G7}(S:jN X scope)
include S
theorem bF (e:(ar X scope C).lookup x=some c):(X.env.cells.lookup x=some c/\scope.names.lookup x=some .free)\/(C+1<=c/\scope.names.lookup x=some .cell):=by
 rcases jS e with e|⟨m,l⟩
 ·rcases cX S.free e with e|⟨m,e⟩
  ·cases e
  ·exact .inl ⟨e,S.once _ m⟩
 ·exact .inr ⟨l,S.once _ m⟩
theorem zx (e:(ar X scope C).lookup x=some c)(e':(ar X scope C).lookup y=some c)(hi:∀ x y c,X.env.cells.lookup x=some c->X.env.cells.lookup y=some c->x=y)(hl:∀ x c,X.env.cells.lookup x=some c->c<C):x=y:=by
 rcases bF S e with ⟨a,_⟩|⟨a,k⟩
 ·rcases bF S e' with ⟨b,_⟩|⟨b,_⟩
  ·exact hi x y c a b
  ·exact absurd (hl x c a) (H_.mpr (KY b))
 ·rcases bF S e' with ⟨b,_⟩|⟨b,k'⟩
  ·exact absurd (hl y c b) (H_.mpr (KY a))
  ·exact S.one (x,.cell) (JZ k) (y,.cell) (JZ k') rfl rfl
theorem pQ (h:(Lu scope (ar X scope C) C X.env).kindOf x=some .cell\/(Lu scope (ar X scope C) C X.env).kindOf x=some .free):∃ c,(ar X scope C).lookup x=some c:=by
 have key:∀ (names:List (Str × LL)),((names.map fun (n,k)=>if (k == Jz && X.env.scope.kind == .function && X.env.kindOf n == some .cell) then (n,Jg) else (n,k)).lookup x=some .cell \/
   (names.map λ(n,k)=>if(k==Jz&&X.env.scope.kind==.function&&X.env.kindOf n==some .cell) then(n,Jg) else(n,k)).lookup x=some .free)->(x,Jz)∈names\/(x,Jg)∈names:=by
  intro names
  induction names with
  |nil=>intro h;simp at h
  |cons y r ih=>
   intro h;obtain⟨n,k⟩:=y
   by_cases hx:(x==n)=true
   ·have hxn:x=n:=by simpa using hx
    subst hxn
    by_cases hc:(k==Jz&&X.env.scope.kind==.function&&X.env.kindOf x==some .cell)=true
    ·have:k=.free:=by
      rw[G6,G6] at hc
      simpa using hc.1.1
     subst this;exact .inl GX
    ·simp only[G_,hc,KC,hx] at h;rcases h with h|h
     ·have:k=.cell:=by simpa using h
      subst this;exact .inr GX
     ·have:k=.free:=by simpa using h
      subst this;exact .inl GX
   ·have hx':(x==n)=false:=by simpa using hx
    have e:∀ (kk:LL),((((n,k) :: r).map fun (n,k)=>if (k == Jz && X.env.scope.kind == .function && X.env.kindOf n == some .cell) then (n,Jg) else (n,k)).lookup x=some kk) ->
      ((r.map λ(n,k)=>if(k==Jz&&X.env.scope.kind==.function&&X.env.kindOf n==some .cell) then(n,Jg) else(n,k)).lookup x=some kk):=λkk h=>by
     rw[G_,KC] at h;have:(x==((λ(y:Str×LL)=>match y with|(n,k)=>if(k==Jz&&X.env.scope.kind==Qm&&X.env.kindOf n==some Jg) then(n,Jg) else(n,k)) (n,k)).1)=false:=by
      show(x==(if(k==Jz&&X.env.scope.kind==Qm&&X.env.kindOf n==some Jg)=true then(n,Jg) else(n,k)).1)=false
      split<;>exact hx'
     rw[this] at h;exact h
    rcases h with h|h
    ·rcases ih (.inl (e _ h)) with z|z
     ·exact .inl (GK _ z)
     ·exact .inr (GK _ z)
    ·rcases ih (.inr (e _ h)) with z|z
     ·exact .inl (GK _ z)
     ·exact .inr (GK _ z)
 rcases key scope.names h with z|z
 ·obtain⟨c,e⟩:=jO (cells:=X.env.cells) (acc:=[]) (.inr z);exact K3.mp (Lp _ _ _ (.inr (by rw[e];rfl)))
 ·exact K3.mp (Lp _ _ _ (.inl (S.once _ z)))
end
theorem mI
  (hQ:∀ h',(∃ m,h'.Ns s.heap.objs.size m)->(∀ x c,(Mz (s.heap.objs.size+1) scope.names cl).lookup x=some c->cl.lookup x=some c\/h'.IsCell c none)->(∀ b o,s.heap.get? b=some o->h'.get? b=some o) ->
   Q (newEnv scope s.heap.objs.size globals (Mz (s.heap.objs.size+1) scope.names cl) qual none .none (some env) MS) { s with heap:=h' }) :
  GW M A (LX scope globals cl [] qual none .none (some env)) Q E s:=by
 have lem:∀ (names:List (Str×LL)) (h:JI) (acc:List (Str×G7)) (x:Str) (c:G7),(Mz h.objs.size names acc).lookup x=some c->acc.lookup x=some c\/(pushCells h names).IsCell c none:=by
  intro names
  induction names with
  |nil=>intro h acc x c e;exact .inl e
  |cons y r ih=>
   intro h acc x c e;obtain⟨n,k⟩:=y;unfold Mz at e;unfold pushCells
   by_cases hk:(k==Jg)=true
   ·rw[Ie hk] at e ⊢;have hs:h.objs.size+1=(h.push { cls:=.type "cell",data:=.cell none }).objs.size:=(II ..).symm;rw[hs] at e;rcases ih _ _ _ _ e with e|e
    ·rw[KC] at e;cases hx:x==n with
     |true=>
      rw[hx] at e;have e:h.objs.size=c:=by simpa using e
      subst e;exact .inr ⟨_,Po r _ _ _ (GL _ rfl),rfl⟩
     |false=>
      rw[hx] at e;exact .inl e
    ·exact .inr e
   ·rw[Hu hk] at e ⊢;exact ih _ _ _ _ e
 simp only[LX,Qg,K5];refine Gz (wpAny_alloc ?_);refine Gz (wpAny_layCells _ (λname kind cells=>by cases hkc:kind==Jg<;>simp[hkc]) _ _ _ _ ?_);rw[show({ s with heap:=s.heap.push { cls:=.type "dict",data:=.dict #[] } }:GJ).heap.objs.size=s.heap.objs.size+1 from II ..];simp only[PN];refine Gz (GD (GD ?_));refine hQ _ ⟨_,(Heap.Ns.new s.heap (.type "dict")).keeps (Po _ _)⟩ (λx c e=>?_) λb o e=>Po _ _ b o (GC _ e)
 have:=lem scope.names (s.heap.push { cls:=.type "dict",data:=.dict #[] }) cl x c;rw[II] at this;exact this e
section
variable {X:Cx}{pins:List (G7×Obj)}{σ:L2.St}{H H2:Hp}{s s2:GJ}
def fQ (X:Cx)(scope:LF)(N:List Str)(σ σ0:L2.St):Prop:=
 ∀ (i:Nat) (x:Str) (v:V),N[i]?=some x->σ0[i]?=some (some v)->∃ j:Nat,X.N[j]?=some x/\σ[j]?=some (some v)/\(X.env.kindOf x=some .cell\/X.env.kindOf x=some .free)/\scope.names.lookup x=some .free /\
  ((Lu scope [] 0 X.env).kindOf x=some .cell\/(Lu scope [] 0 X.env).kindOf x=some .free)
theorem fq (I:aw X pins σ H s)(h1:b≠X.env.locals)(h2:b∉X.fs):b∉dX X.stack:=λz=>(GR.mp (I.stkSub b z)).elim h1 h2
theorem qD {tk:Nat} (I:aw X pins σ H2 s2) (S:jN X scope)
  (hcap:fQ X scope N σ σ0)(hlen:σ0.length=N.length)(f2:∀ b∈fp,eN X pins H2 b)(fo:∀ b∈fp,∃ o,s2.heap.get? b=some o)(hC:s2.heap.objs.size<=C)(hD:s2.heap.objs.size<=D)(hDC:D≠C)
  (old:∀ b o,s2.heap.get? b=some o->h1.get? b=some o)(hnC:∃ m,h1.Ns C m)(heD:h1.get? D=some oD)(hoD:∀ v,oD.data≠.cell v)(own:∀ x c,(ar X scope C).lookup x=some c->C+1<=c->h1.IsCell c none):
  aw (aA X N scope (ar X scope C) C s2 H2 fp pins) [(D,oD)] σ0 H2 { s2 with heap:=h1,toks:=tk }:=by
 have ltne:∀ b,b<s2.heap.objs.size->b≠C/\b≠D:=λb hb=>⟨λz=>absurd (z▸hb) (H_.mpr hC),λz=>absurd (z▸hb) (H_.mpr hD)⟩
 have cellLt:∀ x c,X.env.cells.lookup x=some c->c<s2.heap.objs.size:=λx c e=>by
  obtain⟨v,q⟩:=I.cell x c e;exact q.lt
 have big:∀ c:G7,C+1<=c->s2.heap.objs.size<=c:=λc h=>GV hC (KY h)
 have frLt:∀ b∈dX X.stack,b<s2.heap.objs.size:=λb hb=>by
  obtain⟨_,o,ho,_⟩:=I.stack.mem hb;exact GI ho
 refine⟨⟨I.ok.mod,S.kind,I.ok.glob,I.ok.blt,hC,?_,?_,?_,I.ok.hd,I.ok.frames,.inl rfl,?_,?_,?_,?_,?_,I.stack,I.stkFree⟩,rfl,I.bare,Un.kept old,?_,?_,?_,?_,?_,I.hok.kept old,hlen⟩
 ·intro x y c e1 e2;exact zx S e1 e2 I.ok.inj λx c e=>G8 (cellLt x c e) hC
 ·intro x hx;exact pQ S hx
 ·intro x c hf e;rcases bF S e with ⟨_,k⟩|⟨l,_⟩
  ·have hf:(scope.names.lookup x==some Jg)=true:=hf;rw[k] at hf;cases hf
  ·exact big c l
 ·intro b hb;obtain⟨o,ho⟩:=fo b hb;refine⟨(ltne b (GI ho)).1,λx c e=>?_⟩;rcases bF S e with ⟨e,_⟩|⟨l,_⟩
  ·exact(f2 b hb).2.2.2.2.1 x c e
  ·exact λz=>absurd (GI ho) (H_.mpr (z▸big c l))
 ·exact λb o e=>I.bs b o e
 ·exact GV I.ok.bsz I.sz
 ·intro b o e hb;rcases(f2 b hb).2.2.2.1 with z|z
  ·exact I.ok.noex b o e z
  ·exact absurd (G8 (GI e) (GV I.ok.bsz z)) (Ii _)
 ·intro b hb;exact fq I (f2 b hb).2.1 (f2 b hb).2.2.1
 ·obtain⟨m1,hm1⟩:=hnC;refine⟨m1,hm1,λi x v e1 e2 _=>?_⟩;obtain⟨j,j1,j2,j3,jf,j4⟩:=hcap i x v e1 e2;obtain⟨m,hn,hl⟩:=I.loc;have vis:Cn X.env.scope x:=by
   rcases j3 with z|z
   ·exact .inr (.inl z)
   ·exact .inr (.inr z)
  obtain⟨u,r,l⟩:=hl j x v j1 j2 vis;refine⟨u,r,.inr ⟨j4,?_⟩⟩;obtain⟨c,hc⟩:=pQ S (C:=C) j4;rcases l with ⟨k,_⟩|⟨_,c',e',z'⟩
  ·exfalso;rcases j3 with z|z<;>(rw[z] at k;cases k)
  ·rcases bF S hc with ⟨e,_⟩|⟨_,k⟩
   ·rw[e'] at e;cases e;exact⟨_,hc,z'.keeps old⟩
   ·rw[jf] at k;cases k
 ·intro x c e;rcases bF S e with ⟨e,_⟩|⟨l,_⟩
  ·obtain⟨v,q⟩:=I.cell x c e;exact⟨v,q.keeps old⟩
  ·exact⟨_,own x c e l⟩
 ·exact I.hok.fresh hC
 ·intro x c e;rcases bF S e with ⟨e,_⟩|⟨l,_⟩
  ·exact I.freeC x c e
  ·exact I.hok.fresh (big c l)
 ·intro p hp;rcases Hy.mp hp with hp|hp
  ·obtain⟨q1,q2,q3,q4,q5⟩:=I.pin p hp;exact⟨old _ _ q1,q2,(ltne _ (GI q1)).1,fq I q3 q4,q5⟩
  ·cases G5.mp hp;exact⟨heD,I.hok.fresh hD,hDC,λz=>absurd (frLt D z) (H_.mpr hD),hoD⟩
theorem qf {n:Nat} (I:aw X pins σ H2 s2)
  (f2:∀ b∈fp,eN X pins H2 b)(hD:s2.heap.objs.size<=D)(J:aw (aA X N scope (ar X scope C) C s2 H2 fp pins) ((D,{ cls:=.type "list",data:=.seq its.toArray n })::pl) σ0 H' s')(r:aI ys its)(hz:ys.length<=GZ):
  aw X pins σ (upd H' D (.lst ys)) s':=by
 have pD:=J.pin (D,{ cls:=.type "list",data:=.seq its.toArray n }) (GO _ GX);have fD:H' D=none:=pD.2.1;have u0:Un (dX X.stack) fp H2 H' s2.heap s'.heap:=J.base;have fr2:H2 D=none:=I.hok.fresh hD;have u:Un (dX X.stack) fp H2 (upd H' D (.lst ys)) s2.heap s'.heap:=by
  refine⟨u0.keep,u0.slot,λb o e n' hx=>?_,u0.there,λb xs e=>?_,λb o w e=>?_,λb ps e=>?_⟩
  ·rw[ap (show b≠D from λz=>absurd (GI e) (H_.mpr (by rw[z];exact hD)))];exact u0.free b o e n' hx
  ·rw[ap (aV e fr2)];exact u0.tups b xs e
  ·rw[ap (aV e fr2)];exact u0.frzs b o w e
  ·rw[ap (aV e fr2)];exact u0.tbls b ps e
 refine I.call' (ch:=fp) J.os u (λb o e=>?_) J.bare λb hb=>?_
 ·by_cases hb:b=D
  ·subst hb;rw[af] at e;cases e;exact⟨hz,its,n,r,pD.1⟩
  ·rw[ap hb] at e;exact(J.hok b o e).stay (λ_ _ _ q=>q) (λc q=>by rw[ap (aV q fD)];exact q) λc xs q=>by rw[ap (aV q fD)];exact q
 ·obtain⟨_,g1,_,g3,g4,g5⟩:=f2 b hb;exact⟨g3,g1,g4,g5⟩
def Dt (X:Cx)(ifs:List JG)(t:TT):Prop:=
 ∀ (pins:List (G7×Obj)) (s:GJ) (σ:L2.St) (H:Hp) (Q:Bool->Hp->Prop),aw X pins σ H s->t σ H Q ->
  GW (Hl X.prog X.w) X.A (forIn ifs true λc r=>if r=true then do let ok <- Rk c X.env (KH c X.env);pure (JJ ok) else pure (JJ r)) (TP X pins σ Q) X.xe s
structure zI (X:Cx)(e:List JG)(t:TT):Prop where
 go:Dt X e t
def FC:TT:=λ_ H Q=>Q true H
theorem aJ:zI X [] FC:=by
 exact⟨λ_ _ _ H _ I h=>wpAny_tests_nil ⟨H,I,h⟩⟩
theorem wG (h:WT X c t):zI X [c] t:=by
 have h:=h.go;exact⟨λpins s σ H Q I hq=>wpAny_tests_one (h pins s σ H Q I hq)⟩
def dO (J:It)(g:TG)(tt:TT)(te:TE)(σ0:L2.St)(Fin:List V->Hp->Prop)(H1:Hp):Prop:=∃ W:Nat->Nat->List V->Hp->Prop,(∃ m,W 0 m [] H1)/\∀ i m ys H2,W i m ys H2 ->
 (J.stop i H2/\ys.length<=GZ/\Fin ys H2) \/
 (J.go i H2/\ys.length<GZ/\∀ x H3,J.yld i H2 x H3->g x σ0 H3 λσ' H4=>tt σ' H4 λb H5=>if b=true then te σ' H5 λy H6=>∃ m',m'<m/\W (i+1) m' (ys++[y]) H6 else ∃ m',m'<m/\W (i+1) m' ys H5)
end
def lj (sc:LF):Bool:=sc.kind==.function&&sc.names.all (λy=>sc.names.lookup y.1==some y.2)&&sc.names.all (λy=>sc.names.all λz=>!(y.2==.cell&&z.2==.cell)||y.1==z.1) &&
 sc.names.all λy=>y.2==.local||y.2==.globalImplicit||y.2==.cell||y.2==.free
theorem i' (h:lj scope=true)(hf:(scope.names.all λy=>!(y.2==.free)||(X.env.cells.lookup y.1).isSome)=true):jN X scope:=by
 unfold lj at h;simp only[G6,Hz] at h;obtain⟨⟨⟨h1,h2⟩,h3⟩,h4⟩:=h;refine⟨by simpa using h1,λy hy=>by simpa using h2 y hy,λy hy z hz a b=>?_,λy hy=>?_,λy hy e=>?_⟩
 ·have:=h3 y hy z hz;rw[a,b] at this
  simpa using this
 ·have:=h4 y hy;simp only[Mg,Jh] at this;rcases this with ((q|q)|q)|q
  ·exact .inl q
  ·exact .inr (.inl q)
  ·exact .inr (.inr (.inl q))
  ·exact .inr (.inr (.inr q))
 ·rw[Hz] at hf;have:=hf y hy;rw[e] at this;exact K3.mp (by simpa using this)
def jq (X:Cx)(scope:LF)(cs:List Str)(js:List Nat):Bool:=(cs.zip js).all λp=>(X.N[p.2]?==some p.1)&&(X.env.kindOf p.1==some .cell||X.env.kindOf p.1==some .free)&&(scope.names.lookup p.1==some .free) &&
 ((Lu scope [] 0 X.env).kindOf p.1==some .cell||(Lu scope [] 0 X.env).kindOf p.1==some .free)
theorem mo (h:jq X scope cs js=true) (hl:cs.length=js.length) {k:Nat} (hk:ts.length=k) (σ:L2.St) (_:σ.length=X.N.length) :
  fQ X scope (ts++cs) σ (vU k js σ)/\(vU k js σ).length=(ts++cs).length:=by
 subst hk;refine⟨λi x v e1 e2=>?_,by unfold vU;simp[hl]⟩;unfold vU at e2;have hi:ts.length<=i:=by
  rcases Nat.lt_or_ge i ts.length with z|z
  ·rw[KJ (by simpa using z),Mm,Ie z] at e2;cases e2
  ·exact z
 rw[JT hi] at e1;rw[JT (by simpa using hi),O8,GQ] at e2;cases hj:js[i-ts.length]? with
 |none=>rw[hj] at e2;cases e2
 |some j=>
  rw[hj] at e2;have e2:(σ[j]?).join=some v:=GN e2;have e3:σ[j]?=some (some v):=by
   cases q:σ[j]? with
   |none=>rw[q] at e2;cases e2
   |some o=>rw[q] at e2;exact KG some e2
  have m:(x,j)∈cs.zip js:=by
   have:(cs.zip js)[i-ts.length]?=some (x,j):=by rw[Ip];exact⟨e1,hj⟩
   exact GS this
  unfold jq at h;rw[Hz] at h;have c:=h _ m;simp only[G6,Mg,Jh] at c;exact⟨j,c.1.1.1,e3,c.1.1.2,c.1.2,c.2⟩
def lA (b:Bool)(h:JI)(j q:G7)(k:Nat)(its:Array GH):Prop:=match b with
 |true=>h.IsListIter j q k/\h.IsList q its
 |false=>h.IsTupleIter j q k/\h.IsTuple q its
theorem lA.keep {k:Nat}(x:lA b h j q k its)(e1:∀ o,h.get? j=some o->g.get? j=some o)(e2:∀ o,h.get? q=some o->g.get? q=some o):lA b g j q k its:=by
 cases b with
 |true=>
  obtain⟨⟨o,a,r⟩,⟨u,c,t⟩⟩:=x;exact⟨⟨o,e1 o a,r⟩,⟨u,e2 u c,t⟩⟩
 |false=>
  obtain⟨⟨o,a,r⟩,⟨u,c,t⟩⟩:=x;exact⟨⟨o,e1 o a,r⟩,⟨u,e2 u c,t⟩⟩
theorem lA.ext {k:Nat}(x:lA b h j q k its)(e:MI c h g)(n1:j≠c)(n2:q≠c):lA b g j q k its:=
 x.keep (λo a=>e j o n1 a) λo a=>e q o n2 a
theorem lA.there {k:Nat}(x:lA b h j q k its):∃ o vs,h.get? j=some o/\o.data=.fields vs:=by
 cases b with
 |true=>
  obtain⟨⟨o,a,_,d⟩,_⟩:=x;exact⟨o,_,a,d⟩
 |false=>
  obtain⟨⟨o,a,_,d⟩,_⟩:=x;exact⟨o,_,a,d⟩
theorem lA.src {k:Nat}(x:lA b h j q k its):∃ o n,h.get? q=some o/\o.data=.seq its n:=by
 cases b with
 |true=>
  obtain⟨_,⟨o,a,_,n,d⟩⟩:=x;exact⟨o,n,a,d⟩
 |false=>
  obtain⟨_,⟨o,a,_,n,d⟩⟩:=x;exact⟨o,n,a,d⟩
theorem lA.ne {k:Nat}(x:lA b h j q k its):q≠j:=λz=>by
 obtain⟨o,vs,a,d⟩:=x.there;obtain⟨u,n,c,t⟩:=x.src;rw[z,a] at c;cases c;rw[d] at t;cases t
section
variable {prog:Hv}{w:IN}{A:IR}{E:GH->GJ->Prop}{s:GJ}
theorem AE {k:Nat} (h1:s.heap.IsTupleIter j q k) (h2:s.heap.IsTuple q its) (hv:its[k]?=some v)
  (fin:∀ g,g.IsTupleIter j q (k+1)->IH j s.heap g->Q v { s with heap:=g }):GW (Hl prog w) A (Ix (.ref j)) Q E s:=by
 obtain⟨oj,ej,cj,dj⟩:=id h1;obtain⟨oq,eq,_,nq,dq⟩:=h2;unfold Ix;refine Gz (Iy (name:=Iw "__next__") h1.typeIs Kx (IF Kx h1.typeIs Nn ?_ (Nh _)));show GW _ _ (field (.ref j) 0>>=_) _ _ s;refine Gz (IS ej dj (x:=.ref q) rfl ?_);show GW _ _ (if(Ht q==Ia)=true then _ else _) _ _ s;rw[Hu (show ¬ (Ht q==Ia)=true from Hn)];show GW _ _ (field (.ref j) 1>>=_) _ _ s;refine Gz (IS ej dj (x:=.int k 0) rfl ?_);show GW _ _ (Qu (.ref q)>>=_) _ _ s;refine Gz (Ka eq dq ?_);simp only[IA,hv];refine Gz (Jd ej dj (by simp) (GD ⟨v,rfl,GD (fin _ ?_ (Ik ..))⟩));refine⟨_,HF _ ej (IJ (Ic dj _)),(K0 ..).trans cj,?_⟩;rw[Ic dj];simp[JV]
theorem AM {k:Nat} (hh:A.handled=none) (h1:s.heap.IsTupleIter j q k) (h2:s.heap.IsTuple q its) (hv:its[k]?=none)
  (fin:∀ g e,MI j s.heap g->(∃ o,g.get? e=some o/\o.cls=.type "StopIteration")->E (.ref e) { s with heap:=g }):GW (Hl prog w) A (Ix (.ref j)) Q E s:=by
 obtain⟨oj,ej,cj,dj⟩:=id h1;obtain⟨oq,eq,_,nq,dq⟩:=h2;unfold Ix;refine Gz (Iy (name:=Iw "__next__") h1.typeIs Kx (IF Kx h1.typeIs Nn ?_ (Nh _)));show GW _ _ (field (.ref j) 0>>=_) _ _ s;refine Gz (IS ej dj (x:=.ref q) rfl ?_);show GW _ _ (if(Ht q==Ia)=true then _ else _) _ _ s;rw[Hu (show ¬ (Ht q==Ia)=true from Hn)];show GW _ _ (field (.ref j) 1>>=_) _ _ s;refine Gz (IS ej dj (x:=.int k 0) rfl ?_);show GW _ _ (Qu (.ref q)>>=_) _ _ s;refine Gz (Ka eq dq ?_);simp only[IA,hv];refine Gz (LN (Gz (Jd ej dj (by simp) ?_)));show GW _ _ (Rl (.type "StopIteration") ([]:List GH)>>=_) _ _ _;refine Gz ?_;simp only[Rl,newTuple];refine Gz (Ig ?_ (by size_fits));refine Gz (m:=KL _ _) (L_ (a:=Ia) (by first|rfl|(unfold KL;rfl)) ?_);refine Ig ?_ (by size_fits);unfold raiseNew;refine Gz (OD ?_)
 first|rw[hh]|rw[show A.in1.handled=none from hh]
 refine Gz (GD (OH (fin _ _ (((Ik ..).extBut.push _).push _) ⟨_,GL _ rfl,rfl⟩)))
theorem lA.next {k:Nat} (x:lA b s.heap j q k its) (hv:its[k]?=some v)
  (fin:∀ g,lA b g j q (k+1) its->IH j s.heap g->Q v { s with heap:=g }):GW (Hl prog w) A (Ix (.ref j)) Q E s:=by
 have hn:=x.ne;cases b with
 |true=>exact wpAny_nextOf_list_item x.1 x.2 hv λg h1' sb=>fin g ⟨h1',x.2.extBut sb.extBut hn⟩ sb
 |false=>exact AE x.1 x.2 hv λg h1' sb=>fin g ⟨h1',x.2.extBut sb.extBut hn⟩ sb
theorem lA.stops {k:Nat} (hh:A.handled=none) (x:lA b s.heap j q k its) (hv:its[k]?=none)
  (fin:∀ g e,MI j s.heap g->(∃ o,g.get? e=some o/\o.cls=.type "StopIteration")->E (.ref e) { s with heap:=g }):GW (Hl prog w) A (Ix (.ref j)) Q E s:=by
 cases b with
 |true=>exact wpAny_nextOf_list_end hh x.1 x.2 hv fin
 |false=>exact AM hh x.1 x.2 hv fin
structure Fs (b1 b2:Bool)(h:JI)(z ti to j1 j2 q1 q2:G7)(f0:GH)(k:Nat)(xs ys:Array GH):Prop where
 zp:Rn h z ti to f0
 pi:OL h ti (.ref j1) (.ref j2)
 po:∃ a b,OL h to a b
 s1:lA b1 h j1 q1 k xs
 s2:lA b2 h j2 q2 k ys
structure EZ (z ti to j1 j2 q1 q2:G7):Prop where
 a1:ti≠z
 a2:to≠z
 a3:j1≠z
 a4:j2≠z
 a5:ti≠to
 a6:ti≠j1
 a7:ti≠j2
 a8:to≠j1
 a9:to≠j2
 b1:j1≠j2
 c1:q1≠z
 c2:q1≠to
 c4:q1≠j2
 d1:q2≠z
 d2:q2≠to
 d3:q2≠j1
theorem DU {k:Nat} (D:EZ z ti to j1 j2 q1 q2) (Z:Fs b1 b2 s.heap z ti to j1 j2 q1 q2 .none k xs ys) (hx:xs[k]?=some x) (hy:ys[k]?=some y)
  (fin:∀ g,Fs b1 b2 g z ti to j1 j2 q1 q2 (JV s.heap.objs.size) (k+1) xs ys->OL g s.heap.objs.size x y->(∀ c o,c≠z->c≠to->c≠j1->c≠j2->s.heap.get? c=some o->g.get? c=some o)->Q (some (.ref s.heap.objs.size)) { s with heap:=g }):
  GW (Hl prog w) A (LG (.ref z)) Q E s:=by
 obtain⟨hz,hi,⟨pa,pb,ho⟩,hs1,hs2⟩:=Z;have ht:s.TypeIs (.ref z) "zip":=⟨_,hz,rfl⟩
 unfold LG;refine Gz (J_ (Iy (name:=Iw "__next__") ht No (IF No ht F.entry_zip_next ?_ (F.args_zip_next_1 _))));show GW _ _ (field (.ref z) 2>>=_) _ _ s;refine Gz (IS hz rfl (x:=.bool false) rfl ?_);show GW _ _ (field (.ref z) 3>>=_) _ _ s;refine Gz (IS hz rfl (x:=.ref ti) rfl ?_);refine Gz (Ka hi rfl ?_);show GW _ _ (JA (.ref z)>>=_) _ _ s;refine Gz ?_;unfold JA;refine Gz (IS hz rfl (x:=.none) rfl (GD ?_));simp only[K5];refine Gz (LN (Gz (IS hz rfl (x:=.ref to) rfl ?_)));refine Gz (IZ hz (by simp) λg1 z1 e1=>?_);have z1:Rn g1 z ti to .ellipsis:=z1;refine Gz ?_;simp only[List.zipIdx_cons,List.zipIdx_nil,O6,PN];refine Gz (Gz (OG ?_));show GW _ _ (Ix (.ref j1)>>=_) _ _ { s with heap:=g1 };refine Gz ((hs1.ext e1.extBut D.a3 D.c1).next hx λg2 i2 e2=>GD ?_);have o2:OL g2 to pa pb:=e2.extBut _ _ D.a8 (e1.extBut _ _ D.a2 ho);refine Gz (Ka o2 rfl (Gz (Nf o2 λg3 o3 e3=>?_)));have o3:OL g3 to x pb:=o3;refine Gz (OE (GD ?_));refine Gz (Gz (OG ?_));show GW _ _ (Ix (.ref j2)>>=_) _ _ { s with heap:=g3 };refine Gz ((((hs2.ext e1.extBut D.a4 D.d1).ext e2.extBut D.b1.symm D.d3).ext e3.extBut D.a9.symm D.d2).next hy λg4 i4 e4=>GD ?_);have o4:OL g4 to x pb:=e4.extBut _ _ D.a9 o3;refine Gz (Ka o4 rfl (Gz (Nf o4 λg5 o5 e5=>?_)));have o5:OL g5 to x y:=o5;refine Gz (OE (GD (GD ?_)));refine Gz (Ka o5 rfl (Gz (N5 ?_)));have sz:g5.objs.size=s.heap.objs.size:=by rw[e5.1,e4.1,e3.1,e2.1,e1.1]
 have z5:Rn g5 z ti to .ellipsis:=e5.extBut _ _ D.a2.symm (e4.extBut _ _ D.a4.symm (e3.extBut _ _ D.a2.symm (e2.extBut _ _ D.a3.symm z1)));have k5:∀ c o,c≠z->c≠to->c≠j1->c≠j2->s.heap.get? c=some o->g5.get? c=some o:=λc o n1 n2 n3 n4 e=>
  e5.extBut _ _ n2 (e4.extBut _ _ n4 (e3.extBut _ _ n2 (e2.extBut _ _ n3 (e1.extBut _ _ n1 e))))
 have i5:lA b1 g5 j1 q1 (k+1) xs:=((i2.ext e3.extBut D.a8.symm D.c2).ext e4.extBut D.b1 D.c4).ext e5.extBut D.a8.symm D.c2;have i6:lA b2 g5 j2 q2 (k+1) ys:=i4.ext e5.extBut D.a9.symm D.d2;have lz:z<g5.objs.size:=GI z5;show GW _ _ (LS (.ref z) (.ref g5.objs.size)>>=_) _ _ _;refine Gz ?_;unfold LS;have z6:Rn (g5.push { cls:=.type "tuple",data:=.seq #[x,y] }) z ti to .ellipsis:=GC _ z5;refine Gz (IZ z6 (by simp) λg7 z7 e7=>?_);have z7:Rn g7 z ti to (JV g5.objs.size):=z7;refine IZ z7 (by simp) λg8 z8 e8=>?_
 have z8:Rn g8 z ti to (JV g5.objs.size):=z8;have up:∀ c o,c≠z->g5.get? c=some o->g8.get? c=some o:=λc o n e=>e8.extBut _ _ n (e7.extBut _ _ n (GC _ e))
 have t8:OL g8 g5.objs.size x y:=e8.extBut _ _ (JB lz) (e7.extBut _ _ (JB lz) (GL _ rfl));rw[sz] at z8 t8;refine GD ⟨_,rfl,GD ?_⟩;show Q (some (.ref g5.objs.size)) _;rw[sz];exact fin g8 ⟨z8,up _ _ D.a1 (k5 _ _ D.a1 D.a5 D.a6 D.a7 hi),⟨x,y,up _ _ D.a2 o5⟩,i5.keep (λo e=>up _ o D.a3 e) (λo e=>up _ o D.c1 e),i6.keep (λo e=>up _ o D.a4 e) (λo e=>up _ o D.d1 e)⟩ t8
  λc o n1 n2 n3 n4 e=>up c o n1 (k5 c o n1 n2 n3 n4 e)
theorem Dx {k:Nat} (hh:A.handled=none) (D:EZ z ti to j1 j2 q1 q2) (Z:Fs b1 b2 s.heap z ti to j1 j2 q1 q2 .none k xs ys) (hv:xs[k]?=none\/ys[k]?=none)
  (fin:∀ g,(∀ c o,c≠z->c≠to->c≠j1->c≠j2->s.heap.get? c=some o->g.get? c=some o)->Q none { s with heap:=g }):GW (Hl prog w) A (LG (.ref z)) Q E s:=by
 obtain⟨hz,hi,⟨pa,pb,ho⟩,hs1,hs2⟩:=Z;have ht:s.TypeIs (.ref z) "zip":=⟨_,hz,rfl⟩
 have stopped:∀ (g:JI) (e:G7),(∀ c o,c ≠ z->c ≠ to->c ≠ j1->c ≠ j2->s.heap.get? c=some o->g.get? c=some o)->(∃ o,g.get? e=some o/\o.cls=.type "StopIteration") ->
   GW (Hl prog w) A (do if <- Nl (.ref e) (.type "StopIteration") then pure none else throw (.ref e)) Q E { s with heap:=g }:=λg e kk ⟨o,h1,h2⟩=>
  Gz (Lk (T:="StopIteration") (b:=true) ⟨o,h1,h2⟩ N4 (GD (fin g kk)))
 unfold LG;refine Gz (J_ (Iy (name:=Iw "__next__") ht No (IF No ht F.entry_zip_next ?_ (F.args_zip_next_1 _))));show GW _ _ (field (.ref z) 2>>=_) _ _ s;refine Gz (IS hz rfl (x:=.bool false) rfl ?_);show GW _ _ (field (.ref z) 3>>=_) _ _ s;refine Gz (IS hz rfl (x:=.ref ti) rfl ?_);refine Gz (Ka hi rfl ?_);show GW _ _ (JA (.ref z)>>=_) _ _ s;refine Gz ?_;unfold JA;refine Gz (IS hz rfl (x:=.none) rfl (GD ?_));simp only[K5];refine Gz (LN (Gz (IS hz rfl (x:=.ref to) rfl ?_)));refine Gz (IZ hz (by simp) λg1 z1 e1=>?_);have z1:Rn g1 z ti to .ellipsis:=z1;refine Gz ?_;simp only[List.zipIdx_cons,List.zipIdx_nil,O6,PN];refine Gz (Gz (OG ?_));show GW _ _ (Ix (.ref j1)>>=_) _ _ { s with heap:=g1 };cases hx:xs[k]? with
 |none=>
  refine Gz ((hs1.ext e1.extBut D.a3 D.c1).stops hh hx λg2 e e2 he=>?_);obtain⟨oe,q1',q2'⟩:=he;have z2:Rn g2 z ti to .ellipsis:=e2 _ _ D.a3.symm z1;have ne:e≠z:=λc=>by subst c;rw[z2] at q1';cases q1';simp at q2'
  exact IZ z2 (by simp) λg3 _ e3=>stopped g3 e (λc o n1 _ n3 _ u=>e3.extBut _ _ n1 (e2 _ _ n3 (e1.extBut _ _ n1 u))) ⟨oe,e3.extBut _ _ ne q1',q2'⟩
 |some x=>
  have hy:ys[k]?=none:=hv.resolve_left (by rw[hx];exact λc=>nomatch c);refine Gz ((hs1.ext e1.extBut D.a3 D.c1).next hx λg2 i2 e2=>GD ?_);have o2:OL g2 to pa pb:=e2.extBut _ _ D.a8 (e1.extBut _ _ D.a2 ho);refine Gz (Ka o2 rfl (Gz (Nf o2 λg3 o3 e3=>?_)));refine Gz (OE (GD ?_));refine Gz (Gz (OG ?_));show GW _ _ (Ix (.ref j2)>>=_) _ _ { s with heap:=g3 };refine Gz ((((hs2.ext e1.extBut D.a4 D.d1).ext e2.extBut D.b1.symm D.d3).ext e3.extBut D.a9.symm D.d2).stops hh hy λg4 e e4 he=>?_);obtain⟨oe,q1',q2'⟩:=he;have z4:Rn g4 z ti to .ellipsis:=e4 _ _ D.a4.symm (e3.extBut _ _ D.a2.symm (e2.extBut _ _ D.a3.symm z1));have ne:e≠z:=λc=>by subst c;rw[z4] at q1';cases q1';simp at q2'
  exact IZ z4 (by simp) λg5 _ e5=>stopped g5 e (λc o n1 n2 n3 n4 u=>e5.extBut _ _ n1 (e4 _ _ n4 (e3.extBut _ _ n2 (e2.extBut _ _ n3 (e1.extBut _ _ n1 u))))) ⟨oe,e5.extBut _ _ ne q1',q2'⟩
end
def cq (K:GB)(H:Hp)(a:G7)(xs:List V):Bool->Prop
 |true=>bg K H a xs
 |false=>fM K H a xs
def x_ (h:JI)(j q:G7)(k:Nat):Bool->Prop
 |true=>h.IsListIter j q k
 |false=>h.IsTupleIter j q k
theorem x_.keep {k:Nat}:∀ {b:Bool},x_ h j q k b->(∀ o,h.get? j=some o->g.get? j=some o)->x_ g j q k b
 |true,⟨o,e,r⟩,f=>⟨o,f o e,r⟩
 |false,⟨o,e,r⟩,f=>⟨o,f o e,r⟩
theorem x_.fields {k:Nat}:∀ {b:Bool},x_ h j q k b->∃ o vs,h.get? j=some o/\o.data=.fields vs
 |true,⟨o,e,_,d⟩=>⟨o,_,e,d⟩
 |false,⟨o,e,_,d⟩=>⟨o,_,e,d⟩
section
variable {X:Cx}{pins:List (G7×Obj)}{σ:L2.St}{H:Hp}{s:GJ}
theorem lD {k:Nat}(I:aw X pins σ H s):∀ {b:Bool},cq X.K H q xs b->x_ s.heap j q k b->∃ its:List GH,aI xs its/\lA b s.heap j q k its.toArray
 |true,h,i=>by
  obtain⟨its,rv,p,_⟩:=I.list h;exact⟨its,rv,i,p.isList⟩
 |false,h,i=>by
  obtain⟨its,rv,p,_⟩:=I.tuple h;exact⟨its,rv,i,p⟩
theorem A8 {k:Nat}(x:lA b h j q k its):x_ h j q k b:=by
 cases b with
 |true=>exact x.1
 |false=>exact x.1
theorem u8 (I:aw X pins σ H s):∀ {b:Bool},cq X.K H q xs b->cq X.K H q ys b->xs=ys
 |true,h,h'=>I.list_inj h h'
 |false,h,h'=>I.tuple_inj h h'
theorem nP (I:aw X pins σ H s):∀ {b:Bool},cq X.K H q xs b->∃ o its n,s.heap.get? q=some o/\o.data=.seq its n
 |true,h=>by
  obtain⟨its,rv,⟨o,n,e,_,_,d⟩,_⟩:=I.list h;exact⟨o,_,n,e,d⟩
 |false,h=>by
  obtain⟨its,rv,⟨o,e,_,n,d⟩,_⟩:=I.tuple h;exact⟨o,_,n,e,d⟩
theorem hV (I:aw X pins σ H s) (hn:H T=none) (h1:X.s₀.heap.objs.size <= T) (hL:T ≠ X.env.locals) (h2:∀ x c,X.env.cells.lookup x=some c->c ≠ T) (h3:∀ p ∈ X.pn ++ pins,p.1 ≠ T)
  (ok:bc X.prog X.w (upd H T o) s.heap T o):aw X pins σ (upd H T o) s:=by
 have J:=I.step (h':=s.heap) (g':=s.gens) (t':=s.toks) (d':=s.drawn) (H':=upd H T o) (ch:=[T]) (λb hb=>?_) (λb o _ _ _ e _=>e) (λb o _ _ _ e _=>⟨o.slots,e⟩) (λb o hb _ n=>by rw[ap (show b≠T from λz=>hb (by simp[z]))];exact n)
  (λb o _ e=>⟨o,e⟩) (λb xs e=>by rw[ap (aV e hn)];exact e) (λb u w e=>by rw[ap (aV e hn)];exact e) (λb ps e=>⟨#[],by rw[ap (aV e hn),e];simp⟩) (λm hm=>hm) (λb u e=>?_) I.bare
 ·exact J
 ·cases G5.mp hb;exact⟨.inr h1,hL,h2,h3⟩
 ·by_cases hb:b=T
  ·subst hb;rw[af] at e;cases e;exact ok
  ·rw[ap hb] at e;exact(I.hok b u e).stay (λ_ _ _ q=>q) (λc q=>by rw[ap (aV q hn)];exact q) λc xs q=>by rw[ap (aV q hn)];exact q
end
def E7 (K:GB)(b1 b2:Bool)(q1 q2:G7):It:=
 ⟨λi H=>∃ xs ys x y,cq K H q1 xs b1/\cq K H q2 ys b2/\xs[i]?=some x/\ys[i]?=some y,
  λi H v H'=>∃ x y T,(∀ xs,cq K H q1 xs b1->xs[i]?=some x)/\(∀ ys,cq K H q2 ys b2->ys[i]?=some y)/\H T=none/\v=.ref T/\H'=upd H T (.tup [x,y]),
  λi H=>∃ xs ys,cq K H q1 xs b1/\cq K H q2 ys b2/\(xs.length<=i\/ys.length<=i)⟩
def FM (z ti to j1 j2 q1 q2:G7)(b1 b2:Bool)(k:Nat)(h:JI):Prop:=Rn h z ti to .none/\OL h ti (.ref j1) (.ref j2)/\(∃ a b,OL h to a b)/\x_ h j1 q1 k b1/\x_ h j2 q2 k b2
theorem yF {P:Hv}{w:IN}{K:GB}{elts:List JG}{tk:Nat}{pos:Pos}{z ti to j1 j2 q1 q2:G7}{b1 b2:Bool} (D:ti ≠ z/\to ≠ z/\j1 ≠ z/\j2 ≠ z/\ti ≠ to/\ti ≠ j1/\ti ≠ j2/\to ≠ j1/\to ≠ j2/\j1 ≠ j2) :
  kW P w K (.Tuple elts tk pos) (E7 K b1 b2 q1 q2) [z,ti,to,j1,j2] z (FM z ti to j1 j2 q1 q2 b1 b2) where
 mem:=by simp
 obj:=λi h st b hb=>by
  obtain⟨h1,h2,⟨a,c,h3⟩,h4,h5⟩:=st;simp only[GR,Hq,Js] at hb;rcases hb with rfl|rfl|rfl|rfl|rfl
  ·exact⟨_,h1,λv e=>nomatch e⟩
  ·exact⟨_,h2,λv e=>nomatch e⟩
  ·exact⟨_,h3,λv e=>nomatch e⟩
  ·obtain⟨o,vs,e,d⟩:=h4.fields;exact⟨o,e,λv u=>by rw[d] at u;cases u⟩
  ·obtain⟨o,vs,e,d⟩:=h5.fields;exact⟨o,e,λv u=>by rw[d] at u;cases u⟩
 keep:=λi h h' st k=>by
  obtain⟨h1,h2,⟨a,c,h3⟩,h4,h5⟩:=st;exact⟨k z (by simp) _ h1,k ti (by simp) _ h2,⟨a,c,k to (by simp) _ h3⟩,h4.keep λo e=>k j1 (by simp) o e,h5.keep λo e=>k j2 (by simp) o e⟩
 item:=by
  intro X hP hw hK hc i pins s σ H E I hf st hg;subst hP hw hK;obtain⟨xs,ys,x,y,hq1,hq2,hx,hy⟩:=hg;obtain⟨hz,hi,⟨a,c,ho⟩,t1,t2⟩:=st;obtain⟨us,r1,s1⟩:=lD I hq1 t1;obtain⟨vs,r2,s2⟩:=lD I hq2 t2;obtain⟨u,eu,ru⟩:=r1.get hx;obtain⟨v,ev,rv⟩:=r2.get hy;obtain⟨d1,d2,d3,d4,d5,d6,d7,d8,d9,d10⟩:=D;have tr:∀ {q:G7}{zs:List V}{b:Bool},cq X.K H q zs b->∀ b'∈[z,ti,to,j1,j2],(∃ o ws,s.heap.get? b'=some o/\o.data=.fields ws)->q≠b':=λ{q zs b} hq b' _ ⟨o,ws,e,d⟩ n=>by
   obtain⟨o',its,nn,e',d'⟩:=nP I hq;rw[n,e] at e';cases e';rw[d] at d';cases d'
  have zf:∃ o ws,s.heap.get? z=some o/\o.data=.fields ws:=⟨_,_,hz,rfl⟩
  have tof:∀ {q:G7}{zs:List V}{b:Bool},cq X.K H q zs b->q≠to:=λ{q zs b} hq n=>by
   have fto:H to=none:=(hf to (by simp)).1;have ft:=(hf to (by simp)).2;cases b with
   |true=>
    obtain⟨its,_,⟨o',nn,e',cc,_,d'⟩,_⟩:=I.list hq;rw[n,ho] at e';cases e';simp at cc
   |false=>
    rcases hq with (hq|⟨o',hq⟩)|⟨o',its,nn,kk,_⟩
    ·rw[n,fto] at hq;cases hq
    ·rw[n,fto] at hq;cases hq
    ·have bb:=I.mod.kin q o' kk;rw[n] at bb;rcases ft.2.2.1 with e|e
     ·exact I.ok.noex to o' bb e
     ·exact absurd (G8 (GI bb) (GV I.ok.bsz e)) (Ii _)
  have AP:EZ z ti to j1 j2 q1 q2:=⟨d1,d2,d3,d4,d5,d6,d7,d8,d9,d10,tr hq1 z (by simp) zf,tof hq1,tr hq1 j2 (by simp) t2.fields,tr hq2 z (by simp) zf,tof hq2,tr hq2 j1 (by simp) t1.fields⟩
  refine DU AP ⟨hz,hi,⟨a,c,ho⟩,s1,s2⟩ (x:=u) (y:=v) (by simpa using eu) (by simpa using ev) λg Z hp kk=>⟨_,rfl,?_⟩
  refine wpAny_letOwnedTupleGo_zip Z.zp λg' z' sb=>?_
  have tz:s.heap.objs.size≠z:=JB (GI hz);have fp0:∀ b∈[z,ti,to,j1,j2],b≠s.heap.objs.size:=λb hb n=>by
   simp only[GR,Hq,Js] at hb;rcases hb with rfl|rfl|rfl|rfl|rfl
   ·exact tz n.symm
   ·exact Ii _ (n▸GI hi)
   ·exact Ii _ (n▸GI ho)
   ·obtain⟨o,_,e,_⟩:=t1.fields;exact Ii _ (n▸GI e)
   ·obtain⟨o,_,e,_⟩:=t2.fields;exact Ii _ (n▸GI e)
  have k2:∀ b o,b∉[z,ti,to,j1,j2]->s.heap.get? b=some o->g'.get? b=some o:=λb o hb e=>
   sb.extBut b o (λn=>hb (by simp[n])) (kk b o (λn=>hb (by simp[n])) (λn=>hb (by simp[n])) (λn=>hb (by simp[n])) (λn=>hb (by simp[n])) e)
  have nfp:∀ b u',H b=some u'->b∉[z,ti,to,j1,j2]:=λb u' e hb=>by rw[(hf b hb).1] at e;cases e
  have I1:aw X pins σ H { s with heap:=g' }:=by
   refine I.step (g':=s.gens) (d':=s.drawn) (t':=s.toks) (ch:=[z,ti,to,j1,j2]) (λb hb=>?_) (λb o _ _ hb e _=>k2 b o hb e) (λb o _ _ hb e _=>⟨o.slots,k2 b o hb e⟩) (λ_ _ _ _ n=>n) (λb o hb e=>⟨o,k2 b o hb e⟩) (λ_ _ e=>e) (λ_ _ _ e=>e)
    (λb ps e=>⟨#[],by rw[e];simp⟩) (λm hm=>?_) (λb u' e=>?_) I.bare
   ·obtain⟨_,g1,_,g3,g4,g5⟩:=hf b hb;exact⟨g3,g1,g4,g5⟩
   ·obtain⟨o,es,ep,ho',r'⟩:=hm;exact⟨o,es,ep,k2 _ o (λn=>(hf _ n).2.1 rfl) ho',r'⟩
   ·refine(I.hok b u' e).stay (λc' v' hc' q=>k2 c' v' ?_ q) (λ_ q=>q) λ_ _ q=>q
    rcases hc' with rfl|hc'
    ·exact nfp _ _ e
    ·exact nfp _ _ hc'
  have hT:g'.get? s.heap.objs.size=some { cls:=.type "tuple",data:=.seq #[u,v] }:=sb.extBut _ _ tz hp;have fT:H s.heap.objs.size=none:=I.hok.fresh (GM _);have F:=I.fpOk (b:=s.heap.objs.size) (H':=H) (GM _) fT;have I2:aw X pins σ (upd H s.heap.objs.size (.tup [x,y])) { s with heap:=g' }:=hV I1 fT I.sz F.2.1 F.2.2.2.2.1 F.2.2.2.2.2 ⟨by show 2<=GZ;decide,[u,v],.cons ru (.cons rv .nil),⟨_,hT,rfl,_,rfl⟩⟩;have cl:∀ {j q:G7}{b:Bool}{its:Array GH},lA b g j q (i+1) its->j≠z->x_ g' j q (i+1) b:=λ{j q b its} x n=>(A8 x).keep λo e=>sb.extBut _ _ n e
  exact⟨.ref s.heap.objs.size,_,I2,rfl,⟨x,y,s.heap.objs.size,λxs' h'=>by rw[u8 I h' hq1];exact hx,λys' h'=>by rw[u8 I h' hq2];exact hy,fT,rfl,rfl⟩,
   ⟨z',sb.extBut _ _ d1 Z.pi,(let ⟨a',b',e'⟩:=Z.po;⟨a',b',sb.extBut _ _ d2 e'⟩),cl Z.s1 d3,cl Z.s2 d4⟩,λb hb=>by rw[ap (fp0 b hb)];exact(hf b hb).1⟩
 done:=by
  intro X hP hw hK hc i pins s σ H E I hf st hg;subst hP hw hK;obtain⟨xs,ys,hq1,hq2,hl⟩:=hg;obtain⟨hz,hi,⟨a,c,ho⟩,t1,t2⟩:=st;obtain⟨us,r1,s1⟩:=lD I hq1 t1;obtain⟨vs,r2,s2⟩:=lD I hq2 t2;have l1:=r1.length;have l2:=r2.length;obtain⟨d1,d2,d3,d4,d5,d6,d7,d8,d9,d10⟩:=D;have tr:∀ {q:G7}{zs:List V}{b:Bool},cq X.K H q zs b->∀ b'∈[z,ti,to,j1,j2],(∃ o ws,s.heap.get? b'=some o/\o.data=.fields ws)->q≠b':=λ{q zs b} hq b' _ ⟨o,ws,e,d⟩ n=>by
   obtain⟨o',its,nn,e',d'⟩:=nP I hq;rw[n,e] at e';cases e';rw[d] at d';cases d'
  have zf:∃ o ws,s.heap.get? z=some o/\o.data=.fields ws:=⟨_,_,hz,rfl⟩
  have tof:∀ {q:G7}{zs:List V}{b:Bool},cq X.K H q zs b->q≠to:=λ{q zs b} hq n=>by
   have fto:H to=none:=(hf to (by simp)).1;have ft:=(hf to (by simp)).2;cases b with
   |true=>
    obtain⟨its,_,⟨o',nn,e',cc,_,d'⟩,_⟩:=I.list hq;rw[n,ho] at e';cases e';simp at cc
   |false=>
    rcases hq with (hq|⟨o',hq⟩)|⟨o',its,nn,kk,_⟩
    ·rw[n,fto] at hq;cases hq
    ·rw[n,fto] at hq;cases hq
    ·have bb:=I.mod.kin q o' kk;rw[n] at bb;rcases ft.2.2.1 with e|e
     ·exact I.ok.noex to o' bb e
     ·exact absurd (G8 (GI bb) (GV I.ok.bsz e)) (Ii _)
  have AP:EZ z ti to j1 j2 q1 q2:=⟨d1,d2,d3,d4,d5,d6,d7,d8,d9,d10,tr hq1 z (by simp) zf,tof hq1,tr hq1 j2 (by simp) t2.fields,tr hq2 z (by simp) zf,tof hq2,tr hq2 j1 (by simp) t1.fields⟩
  have nfp:∀ b u',H b=some u'->b∉[z,ti,to,j1,j2]:=λb u' e hb=>by rw[(hf b hb).1] at e;cases e
  refine Dx (I.ok.hd hc) AP ⟨hz,hi,⟨a,c,ho⟩,s1,s2⟩ (by simp;lia) λg kk=>⟨rfl,?_⟩
  have k2:∀ b o,b∉[z,ti,to,j1,j2]->s.heap.get? b=some o->g.get? b=some o:=λb o hb e=>
   kk b o (λn=>hb (by simp[n])) (λn=>hb (by simp[n])) (λn=>hb (by simp[n])) (λn=>hb (by simp[n])) e
  refine I.step (g':=s.gens) (d':=s.drawn) (t':=s.toks) (ch:=[z,ti,to,j1,j2]) (λb hb=>?_) (λb o _ _ hb e _=>k2 b o hb e) (λb o _ _ hb e _=>⟨o.slots,k2 b o hb e⟩) (λ_ _ _ _ n=>n) (λb o hb e=>⟨o,k2 b o hb e⟩) (λ_ _ e=>e) (λ_ _ _ e=>e)
   (λb ps e=>⟨#[],by rw[e];simp⟩) (λm hm=>?_) (λb u' e=>?_) I.bare
  ·obtain⟨_,g1,_,g3,g4,g5⟩:=hf b hb;exact⟨g3,g1,g4,g5⟩
  ·obtain⟨o,es,ep,ho',r'⟩:=hm;exact⟨o,es,ep,k2 _ o (λn=>(hf _ n).2.1 rfl) ho',r'⟩
  ·refine(I.hok b u' e).stay (λc' v' hc' q=>k2 c' v' ?_ q) (λ_ q=>q) λ_ _ q=>q
   rcases hc' with rfl|hc'
   ·exact nfp _ _ e
   ·exact nfp _ _ hc'
 self:=λ_ _ _ _ _ st h=>wpAny_pyIter_zip st.1 h
theorem CO:IM "zip"=some (.type "zip"):=by decide +kernel
theorem zH {a b:Nat}(h:@Ne Nat a b):@Ne G7 a b:=h
def BA (q:G7):Bool->Obj
 |true=>{ cls:=.type "list_iterator",data:=.fields #[.ref q,.int 0 0] }
 |false=>{ cls:=.type "tuple_iterator",data:=.fields #[.ref q,.int 0 0] }
def xP (h:JI)(q:G7)(its:Array GH):Bool->Prop
 |true=>h.IsList q its
 |false=>h.IsTuple q its
abbrev zA (h:JI)(q1:G7)(b1:Bool):JI:=h.push (BA q1 b1)
abbrev zB (h:JI)(q1 q2:G7)(b1 b2:Bool):JI:=(zA h q1 b1).push (BA q2 b2)
abbrev zC (h:JI)(q1 q2:G7)(b1 b2:Bool):JI:=(zB h q1 q2 b1 b2).push { cls:=.type "tuple",data:=.seq #[.ref h.objs.size,.ref (zA h q1 b1).objs.size] }
abbrev zD (h:JI)(q1 q2:G7)(b1 b2:Bool):JI:=(zC h q1 q2 b1 b2).push { cls:=.type "tuple",data:=.seq #[.none,.none] }
abbrev zE (h:JI)(q1 q2:G7)(b1 b2:Bool):JI:=(zD h q1 q2 b1 b2).push { cls:=.type "zip",data:=.fields #[.none,.bool false,.bool false,.ref (zB h q1 q2 b1 b2).objs.size,.ref (zC h q1 q2 b1 b2).objs.size] }
theorem Dq (q1 q2:G7) (xs ys:Array GH) (b1 b2:Bool):Meets (Kp.«zip.__new__» ⟨[.type "zip",.ref q1,.ref q2],[]⟩)
  (λ_ R s=>xP s.heap q1 xs b1/\xP s.heap q2 ys b2/\R (.ok (.ret (.ref (zD s.heap q1 q2 b1 b2).objs.size))) { s with heap:=zE s.heap q1 q2 b1 b2 }):=
 .of_wp λprog w A R s h=>by
  obtain⟨hp,g,d,tk,os⟩:=s;obtain⟨h1,h2,h⟩:=h;have hsub:=sub_zip;cases b1<;>cases b2
  ·have k1:O1 (L' ⟨hp,g,d,tk,os⟩) q1 xs:=h1;have k2:O1 (L' ⟨hp.push { cls:=.type "tuple_iterator",data:=.fields #[.ref q1,.int 0 0] },g,d,tk,os⟩) q2 ys:=Qx h2 _
   wp_walk using Lv k1,Lv k2
   exact⟨_,rfl,h⟩
  ·have k1:O1 (L' ⟨hp,g,d,tk,os⟩) q1 xs:=h1;have k2:PX (L' ⟨hp.push { cls:=.type "tuple_iterator",data:=.fields #[.ref q1,.int 0 0] },g,d,tk,os⟩) q2 ys:=Q2 h2 _
   wp_walk using Lv k1,J7 k2
   exact⟨_,rfl,h⟩
  ·have k1:PX (L' ⟨hp,g,d,tk,os⟩) q1 xs:=h1;have k2:O1 (L' ⟨hp.push { cls:=.type "list_iterator",data:=.fields #[.ref q1,.int 0 0] },g,d,tk,os⟩) q2 ys:=Qx h2 _
   wp_walk using J7 k1,Lv k2
   exact⟨_,rfl,h⟩
  ·have k1:PX (L' ⟨hp,g,d,tk,os⟩) q1 xs:=h1;have k2:PX (L' ⟨hp.push { cls:=.type "list_iterator",data:=.fields #[.ref q1,.int 0 0] },g,d,tk,os⟩) q2 ys:=Q2 h2 _
   wp_walk using J7 k1,J7 k2
   exact⟨_,rfl,h⟩
section
variable {prog:Hv}{w:IN}{A:IR}{E:GH->GJ->Prop}{s:GJ}
theorem DV (h1:xP s.heap q1 xs b1) (h2:xP s.heap q2 ys b2)
  (fin:∀ g,Rn g (s.heap.objs.size+4) (s.heap.objs.size+2) (s.heap.objs.size+3) .none->OL g (s.heap.objs.size+2) (.ref s.heap.objs.size) (.ref (s.heap.objs.size+1)) ->
   OL g (s.heap.objs.size+3) .none .none->g.get? s.heap.objs.size=some (BA q1 b1)->g.get? (s.heap.objs.size+1)=some (BA q2 b2)->(∀ c o,s.heap.get? c=some o->g.get? c=some o)->Q (.ref (s.heap.objs.size+4)) { s with heap:=g }) :
  GW (Hl prog w) A (call (.type "zip") [.ref q1,.ref q2]) Q E s:=by
 refine callType_new F.called_zip (by decide) (F.typeCall_zip_2 _ _) (F.newCall_zip_2 _ _) (λobj=>F.args_object_init_3 obj _ _) F.entry_zip_new (Dq q1 q2 xs ys b1 b2) ⟨h1,h2,?_⟩;have n1:(zA s.heap q1 b1).objs.size=s.heap.objs.size+1:=II ..;have n2:(zB s.heap q1 q2 b1 b2).objs.size=s.heap.objs.size+2:=by rw[II,n1]
 have n3:(zC s.heap q1 q2 b1 b2).objs.size=s.heap.objs.size+3:=by rw[II,n2]
 have n4:(zD s.heap q1 q2 b1 b2).objs.size=s.heap.objs.size+4:=by rw[II,n3]
 have fr:∀ b q,(BA q b).isFreed=false:=λb q=>by cases b<;>rfl
 have m5:(zE s.heap q1 q2 b1 b2).get? (zD s.heap q1 q2 b1 b2).objs.size=some _:=GL _ rfl;have m4:(zE s.heap q1 q2 b1 b2).get? (zC s.heap q1 q2 b1 b2).objs.size=some _:=GC _ (GL _ rfl);have m3:(zE s.heap q1 q2 b1 b2).get? (zB s.heap q1 q2 b1 b2).objs.size=some _:=GC _ (GC _ (GL _ rfl));have m2:(zE s.heap q1 q2 b1 b2).get? (zA s.heap q1 b1).objs.size=some (BA q2 b2):=GC _ (GC _ (GC _ (GL _ (fr _ _))));have m1:(zE s.heap q1 q2 b1 b2).get? s.heap.objs.size=some (BA q1 b1):=GC _ (GC _ (GC _ (GC _ (GL _ (fr _ _)))));show _/\_;rw[n2,n3,n4] at m5;rw[n1,n2] at m3;rw[n3] at m4;rw[n1] at m2;rw[n4];exact⟨⟨_,m5,rfl⟩,fin _ m5 m3 m4 m1 m2 λc o x=>GC _ (GC _ (GC _ (GC _ (GC _ x))))⟩
end
section
variable {X:Cx}{tg:JG}
theorem pS (I:aw X pins σ H s):∀ {b:Bool},cq X.K H q xs b->∃ its:List GH,aI xs its/\xP s.heap q its.toArray b
 |true,h=>by
  obtain⟨its,rv,p,_⟩:=I.list h;exact⟨its,rv,p.isList⟩
 |false,h=>by
  obtain⟨its,rv,p,_⟩:=I.tuple h;exact⟨its,rv,p⟩
def Es (K:GB)(ta:TA):TI:=λσ H R=>ta σ H λvs H1=>∃ q1 q2 b1 b2,vs=[.ref q1,.ref q2]/\(∃ xs,cq K H1 q1 xs b1)/\(∃ ys,cq K H1 q2 ys b2)/\R (E7 K b1 b2 q1 q2) H1
theorem B9 {tk:Nat} (hg:Gl X "zip") (hm:X.mg "zip"=none) (ha:PA X [a,b] ta) (hs:G9 [a,b] X.env=[(false,KH a X.env),(false,KH b X.env)]:=by rfl) (hs2:G9 [b] X.env=[(false,KH b X.env)]:=by rfl) :
  PI X (.Tuple elts tk tpos) (.Call (.Name "zip" p) [a,b] [] pos) (Es X.K ta):=by
 intro pins s σ H R I h;refine Call_ (fc I hg hm CO (Jk (bf (ha pos pins s σ H _ I h) λus s1 ⟨vs,H1,I1,r1,q1⟩=>?_) (by rw[hs,hs2]) (by rw[hs2];rfl)));obtain⟨qa,qb,b1,b2,rfl,⟨xs,hx⟩,⟨ys,hy⟩,q⟩:=q1;obtain⟨u,v,rfl,ru,rv⟩:=jy r1;cases ru;cases rv;obtain⟨its,_,sa⟩:=pS I1 hx;obtain⟨jts,_,sb⟩:=pS I1 hy;refine DV sa sb λg z5 z3 z4 z1 z2 kk=>?_
 refine wpAny_pyIter_zip z5 ?_;have io:∀ {j q:G7}{b:Bool},g.get? j=some (BA q b)->x_ g j q 0 b:=λ{j q b} e=>by cases b<;>exact⟨_,e,rfl,rfl⟩
 refine⟨s1.heap.objs.size+4,[s1.heap.objs.size+4,s1.heap.objs.size+2,s1.heap.objs.size+3,s1.heap.objs.size,s1.heap.objs.size+1],_,_,H1,rfl,I1.kept (t':=s1.toks) kk,
  yF (z:=s1.heap.objs.size+4) (ti:=s1.heap.objs.size+2) (to:=s1.heap.objs.size+3) (j1:=s1.heap.objs.size) (j2:=s1.heap.objs.size+1) ⟨zH (by lia),zH (by lia),zH (by lia),zH (by lia),zH (by lia),zH (by lia),zH (by lia),zH (by lia),zH (by lia),zH (by lia)⟩,⟨z5,z3,⟨_,_,z4⟩,io z1,io z2⟩,λb hb=>?_,q⟩
 have le:s1.heap.objs.size<=b:=by
  simp only[GR,Hq,Js] at hb;rcases hb with e|e|e|e|e<;>(rw[e];lia)
 exact I1.fpOk le (I1.hok.fresh le)
def pC (K:GB)(a:G7):Bool->It
 |true=>Ez K a
 |false=>Eg K a
inductive Gj (K:GB)(x:V)(H:Hp)(R:It->Hp->Prop):Prop
 |mk (a:G7) (b:Bool) (_:x=.ref a) (_:∃ xs,cq K H a xs b) (_:R (pC K a b) H)
def DQ (K:GB)(tl:TE):TI:=λσ H R=>tl σ H λx H1=>Gj K x H1 R
theorem C9 (hl:PE X l tl):PI X tg l (DQ X.K tl):=by
 intro pins s σ H R I h;refine bf (hl pins s σ H _ I h) λv s1 ⟨x,H1,I1,r1,q1⟩=>?_
 obtain⟨a,b,e,⟨xs,hq⟩,q⟩:=q1;subst e;cases r1;obtain⟨its,rv,sr⟩:=pS I1 hq;have fp:∀ c∈[s1.heap.objs.size],eN X pins H1 c:=λc hc=>by
  cases G5.mp hc;exact I1.fpOk (GM _) (I1.hok.fresh (GM _))
 cases b with
 |true=>exact J7 sr ⟨s1.heap.objs.size,[s1.heap.objs.size],_,_,H1,rfl,I1.kept (t':=s1.toks) λb o e=>GC _ e,vm a _,⟨_,GL _ rfl,rfl,rfl⟩,fp,q⟩
 |false=>exact Lv sr ⟨s1.heap.objs.size,[s1.heap.objs.size],_,_,H1,rfl,I1.kept (t':=s1.toks) λb o e=>GC _ e,sR a _,⟨_,GL _ rfl,rfl,rfl⟩,fp,q⟩
end
theorem vV (bs:List Bool):(IQ bs.length).all (λi=>(bs[i]?).getD true)=bs.all id:=by
 rw[Bool.eq_iff_iff,Hz,Hz];constructor
 ·intro h b hb;obtain⟨i,hi,rfl⟩:=IP hb;have:=h i (Ju.mpr hi)
  simpa [hi] using this
 ·intro h i hi;have hi:=Ju.mp hi
  simpa [hi] using h bs[i] (KB hi)
section
variable {X:Cx}
theorem yA (hc:X.calm=true):br X (.builtin "all") (λxs H Q=>∃ (p:G7) (bs:List Bool),xs=[.ref p]/\bg X.K H p (bs.map V.bl)/\Q (.bl (bs.all id)) H):=by
 intro pins s σ H xs us Q I r h;obtain⟨p,bs,rfl,hp,q⟩:=h;obtain⟨u,rfl,ru⟩:=fR r;cases ru;obtain⟨its,rv,pl,hz⟩:=I.list hp;have hl:=rv.length;rw[GG] at hl;have lt:p<s.heap.objs.size:=by
  obtain⟨o,e,_⟩:=pl.isList;exact GI e
 refine call_all_walk (J7 pl.isList ?_);refine⟨s.heap.objs.size,_,_,_,_,_,λi=>(bs[i]?).getD true,rfl,Walks.list (A:=X.A.in1) (show X.A.in1.handled=none from I.ok.hd hc) _ p (Hk lt) its.toArray,⟨⟨_,GL _ rfl,rfl,rfl⟩,pl.isList.push _⟩,λi v s' Q' E' hv hq=>?_,λh' tk kk=>?_⟩
 ·have hi:i<bs.length:=by
   have:=(Iu.mp hv).1;rw[Hi] at this;lia
  obtain⟨w,ew,rw'⟩:=rv.get (i:=i) (x:=.bl bs[i]) (by simp[hi]);have:its[i]?=some v:=by simpa using hv
  rw[ew] at this;have e2:v=Nk bs[i]:=(GN this).symm.trans rw';rw[e2];refine JD ?_;have e:(bs[i]?).getD true=bs[i]:=by simp[hi]
  exact e▸hq
 ·have I1:aw X pins σ H { s with heap:=h',toks:=tk }:=I.kept λb o e=>kk b o (by simp;exact Hk (GI e)) (GC _ e)
  refine⟨.bl _,H,I1,?_,q⟩;show Nk _=Nk _;rw[<- vV,Hi,<- hl]
end
section
variable {X:Cx}{pos:Pos}
def DC (K:GB)(n:Nat)(t:Bj):TG:=λv σ H Q=>∃ a xs,v=.ref a/\(bg K H a xs\/fM K H a xs)/\xs.length=n/\t xs σ H Q
theorem BQ {k:Nat}{n:Nat} (hc:X.calm=true) (h:Fk X es t)
  (hn:(JP es X.env).length=n:=by rfl)(hst:(JP es X.env).findIdx? (·.1)=none:=by rfl):PG X (.Tuple es k pos) (DC X.K n t):=by
 intro pins s σ H v u Q I r hw;obtain⟨a,xs,e1,hq,hl,hw⟩:=hw;subst e1;cases r;rcases hq with hq|hq
 ·obtain⟨its,rv,pl,hz⟩:=I.list hq;rw[assign_Tuple];refine Gz (Jr ?_);unfold unpack;have hs:(JP es X.env).length=its.toArray.size:=by rw[hn,<- hl,rv.length,Hi]
  rw[hs,hst];refine Gz (Ij (PySem.W.kun_itemsOf (I.ok.hd hc) pl.isList λh' hx=>?_));have I1:aw X pins σ H { s with heap:=h' }:=I.kept (t':=s.toks) λb o e=>hx b o (Hk (GI e)) e
  exact h pins _ σ H xs _ Q I1 (by simpa using rv) hw
 ·obtain⟨its,rv,ht,hz⟩:=I.tuple hq;refine assign_Tuple_tuple (I.ok.hd hc) ht (by simp[hn,<- hl,rv.length]) hst λh' hx=>?_
  have I1:aw X pins σ H { s with heap:=h' }:=I.kept (t':=s.toks) λb o e=>hx b o (Hk (GI e)) e
  exact h pins _ σ H xs _ Q I1 (by simpa using rv) hw
end
abbrev rD (q:Rat):Il:=Bw q.num (q.den:Int)
theorem xC (q:Rat):q=(q.num:Rat)/((q.den:Int):Rat):=by rw[<- Rat.divInt_eq_div,Rat.num_divInt_den]
theorem uX {t b:Int}(hb:b≠0):yj t b ((t:Rat)/(b:Rat)).num (((t:Rat)/(b:Rat)).den:Int):=by
 have hq:=xC ((t:Rat)/(b:Rat));have hd:0<((t:Rat)/(b:Rat)).den:=((t:Rat)/(b:Rat)).den_pos;have hr:=((t:Rat)/(b:Rat)).reduced;generalize hz:(t:Rat)/(b:Rat)=q at *;refine⟨by lia,hr,?_⟩;have hb':(b:Rat)≠0:=by
  intro z;exact hb (by exact_mod_cast z)
 have hd':((q.den:Int):Rat)≠0:=by
  intro z;have:q.den=0:=by exact_mod_cast z
  lia
 have:(q.num:Rat)*(b:Rat)=(t:Rat)*((q.den:Int):Rat):=by
  generalize (q.num:Rat)=x at *;generalize ((q.den:Int):Rat)=y at *;generalize (b:Rat)=b' at *;generalize (t:Rat)=t' at *;have e:t'/b'=x/y:=hz.trans hq;grind
 exact_mod_cast this
theorem Ay {t b n d:Int}(hb:b≠0)(h:yj t b n d):n=((t:Rat)/(b:Rat)).num/\d=(((t:Rat)/(b:Rat)).den:Int):=tM hb h (uX hb)
abbrev Bq (k:Nat)(q:Rat):Prop:=Ok k q.num (q.den:Int)
theorem BI {k:Nat}{t b:Int}(hb:b≠0)(ht:Sm k t)(sb:Sm k b):Bq k ((t:Rat)/(b:Rat)):=(uX hb).ok hb ht sb
theorem CK (q:Rat):((q.den:Int):Rat)≠0:=by
 intro z;have:q.den=0:=by exact_mod_cast z
 have:=q.den_pos;lia
def Dl (K:GB)(H:Hp)(q:Rat)(Q:VK):Prop:=∀ v H',ah H H'->aW K H' (rD q) v->Q v H'
theorem Dl.sh {K:GB}{H:Hp}{t b:Int}{Q:VK}(hb:b≠0)(h:Dl K H ((t:Rat)/(b:Rat)) Q):Sh K H t b Q:=λv n d H' s hv lw=>by
 obtain⟨e1,e2⟩:=Ay hb lw;subst e1 e2;exact h v H' s hv
theorem bM {i:Int}(hg:Gl X x)(hm:∃ t,X.mg x=some (.int i t))(hd:(x==("__debug__":Str))=false:=by decide):WE X (.Name x pos) (tC (.int i)):=by
 refine⟨?_⟩;obtain⟨t,e⟩:=hm;exact u_ hg e ⟨t,rfl⟩ hd
theorem aE.get {K:GB}{H:Hp}:∀ {ds:List Il}{xs:List V}{i:Nat}{x:V},aE K H ds xs->xs[i]?=some x->∃ d,ds[i]?=some d/\aW K H d x
 |_,_,_,_,.nil,e=>by simp at e
 |_,_,0,_,.cons h _,e=>by simp at e;subst e;exact⟨_,rfl,h⟩
 |_,_,i+1,x,.cons _ q,e=>by
  obtain⟨d,h1,h2⟩:=aE.get (i:=i) (x:=x) q (by simpa using e);exact⟨d,by simpa using h1,h2⟩
theorem aE.snoc {K:GB}{H:Hp}{d:Il}{x:V}:∀ {ds:List Il}{xs:List V},aE K H ds xs->aW K H d x->aE K H (ds++[d]) (xs++[x])
 |_,_,.nil,h=>.cons h .nil
 |_,_,.cons a q,h=>.cons a (aE.snoc q h)
theorem cq.same {K:GB}{H H':Hp}{a:G7}{xs:List V}(e:ah H H'):∀ {b:Bool},cq K H a xs b->cq K H' a xs b
 |true,h=>e.seq h
 |false,h=>y7 e h
theorem cP {n:Nat}(h:n<=1000):n<=GZ:=Kc (bL h)
theorem cC {α:Type}{l:List α}{i:Nat}{x:α}(h:l[i]?=some x):l.take (i+1)=l.take i++[x]:=by
 rw[List.take_succ,h];rfl
section
variable {K:GB}{g:TG}{tt:TT}{te:TE}{σ0:L2.St}{Fin:List V->Hp->Prop}{H1:Hp}
def j_ (g:TG)(tt:TT)(te:TE)(σ0:L2.St)(x:V)(H:Hp)(post:V->Hp->Prop):Prop:=∀ R:VK,(∀ y H',post y H'->R y H')->∀ S:Hp->Prop,g x σ0 H λσ' H4=>tt σ' H4 λb H5=>if b=true then te σ' H5 R else S H5
theorem jt {a:G7}{b:Bool}{xs:List V}{ds:List Il}{f:Il->Il} (hsrc:cq K H1 a xs b) (hds:aE K H1 ds xs) (hl:ds.length <= 1000)
  (he:∀ (i:Nat) (d:Il) (x:V) (H:Hp),ds[i]?=some d->ah H1 H->aW K H d x->j_ g tt te σ0 x H λy H'=>ah H H'/\aW K H' (f d) y)
  (hd:∀ ys H,ah H1 H->aE K H (ds.map f) ys->Fin ys H):dO (pC K a b) g tt te σ0 Fin H1:=by
 have hlen:=hds.length;refine⟨λi m ys H=>m=xs.length-i/\i<=xs.length/\ah H1 H/\aE K H ((ds.take i).map f) ys,⟨xs.length,by lia,Iz _,ah.refl _,.nil⟩,?_⟩;rintro i m ys H ⟨rfl,hi,s,hys⟩;have hyl:=hys.length;rw[GG,Ib] at hyl
 by_cases hlt:i<xs.length
 ·have go:(pC K a b).go i H:=by
   have q:=cq.same s hsrc;cases b with
   |true=>exact⟨xs,xs[i],q,by simp[hlt]⟩
   |false=>exact⟨xs,xs[i],q,by simp[hlt]⟩
  refine .inr ⟨go,bL (by lia),λx H3 y3=>?_⟩;have e3:H3=H/\xs[i]?=some x:=by
   have q:=cq.same s hsrc;cases b with
   |true=>exact⟨y3.1,y3.2 xs q⟩
   |false=>exact⟨y3.1,y3.2 xs q⟩
  obtain⟨rfl,hx⟩:=e3;obtain⟨d,hdd,hdx⟩:=hds.get hx;refine he i d x _ hdd s (aW.same s hdx) _ (λy H' ⟨s',hy⟩=>⟨xs.length-(i+1),by lia,rfl,hlt,s.trans s',?_⟩) λH5=>∃ m',m'<xs.length-i/\(m'=xs.length-(i+1)/\i+1<=xs.length/\ah H1 H5/\aE K H5 ((ds.take (i+1)).map f) ys)
  rw[cC hdd,JL];exact(aE.same s' hys).snoc hy
 ·have e:i=xs.length:=by lia
  subst e;have stop:(pC K a b).stop xs.length H:=by
   have q:=cq.same s hsrc;cases b with
   |true=>exact⟨xs,q,GM _⟩
   |false=>exact⟨xs,q,GM _⟩
  rw[IE (by lia)] at hys;exact .inl ⟨stop,cP (by lia),hd ys H s hys⟩
theorem iO {lo:Int}{n:Nat} (Pv:Nat->List V->Hp->Prop) (h0:Pv 0 [] H1) (hl:n <= 1000) (hy:∀ i ys H,i <= n->Pv i ys H->ys.length <= i)
  (he:∀ i ys H,i<n->Pv i ys H->j_ g tt te σ0 (.int (lo+i)) H λy H'=>Pv (i+1) (ys++[y]) H')(hd:∀ ys H,Pv n ys H->Fin ys H):dO (yd lo n) g tt te σ0 Fin H1:=by
 refine⟨λi m ys H=>m=n-i/\i<=n/\Pv i ys H,⟨n,by lia,Iz _,h0⟩,?_⟩;rintro i m ys H ⟨rfl,hi,p⟩;have hyl:=hy i ys H hi p
 by_cases hlt:i<n
 ·refine .inr ⟨hlt,bL (by lia),λx H3 y3=>?_⟩;obtain⟨rfl,rfl⟩:=y3;exact he i ys _ hlt p _ (λy H' p'=>⟨n-(i+1),by lia,rfl,hlt,p'⟩) λH5=>∃ m',m'<n-i/\(m'=n-(i+1)/\i+1<=n/\Pv (i+1) ys H5)
 ·have e:i=n:=by lia
  subst e;exact .inl ⟨GM _,cP (by lia),hd ys H p⟩
theorem da:∀ {bs:List Bool}{ys:List V},aE K H (bs.map Le) ys->ys=bs.map V.bl
 |[],_,.nil=>rfl
 |b::bs,_,.cons (.bl _) q=>by rw[da q];rfl
end
def BR (b:Bool)(ds:List Il):Il:=if b=true then .list ds else .tuple ds
structure R3 where
 a:Int
 b:Int
 c:Int
def R3.ds (r:R3):List Il:=[.int r.a,.int r.b,.int r.c]
def R3.vs (r:R3):List V:=[.int r.a,.int r.b,.int r.c]
def vD (k:Bool)(r:R3):Il:=BR k r.ds
structure R3.In (r:R3)(m:Int):Prop where
 a1:-m<=r.a
 a2:r.a<=m
 b1:-m<=r.b
 b2:r.b<=m
 c1:-m<=r.c
 c2:r.c<=m
structure S9 where
 k:Bool
 k1:Bool
 k2:Bool
 k3:Bool
 x:R3
 y:R3
 z:R3
def S9.rows (s:S9):List Il:=[vD s.k1 s.x,vD s.k2 s.y,vD s.k3 s.z]
def S9.d (s:S9):Il:=BR s.k s.rows
structure S9.In (s:S9):Prop where
 x:s.x.In 4000
 y:s.y.In 4000
 z:s.z.In 4000
theorem bU {K:GB}{H:Hp}{b:Bool}{ds:List Il}{v:V}(h:aW K H (BR b ds) v):∃ a xs,v=.ref a/\cq K H a xs b/\aE K H ds xs:=by
 cases b with
 |true=>
  cases h with
  |lst h q=>exact⟨_,_,rfl,.inl h,q⟩
 |false=>
  cases h with
  |tup h q=>exact⟨_,_,rfl,fM.of h,q⟩
theorem gX {K:GB}{H:Hp}{r:R3}{xs:List V}(h:aE K H r.ds xs):xs=r.vs:=by
 cases h with
 |cons h1 h=>
  cases h1;cases h with
  |cons h2 h=>
   cases h2;cases h with
   |cons h3 h=>
    cases h3;cases h;rfl
theorem Az {K:GB}{H:Hp}{b:Bool}{r:R3}{v:V}(h:aW K H (vD b r) v):∃ a,v=.ref a/\cq K H a r.vs b:=by
 obtain⟨a,xs,rfl,hq,hd⟩:=bU h;cases gX hd;exact⟨a,rfl,hq⟩
theorem Ed {K:GB}{H:Hp}{Q:VK}{a:G7}{xs:List V}{b:Bool}{i:Nat}{v:V}(h:cq K H a xs b)(e:xs[i]?=some v)(q:Q v H):Am K (.ref a) (.int (i:Int)) H Q:=by
 cases b with
 |true=>exact .inl ⟨a,xs,_,v,rfl,rfl,h,fv e,q⟩
 |false=>exact .inr (.inl ⟨a,xs,_,v,rfl,rfl,h,fv e,q⟩)
theorem uq {K:GB}{H:Hp}{a:G7}{xs:List V}{b:Bool}(h:cq K H a xs b):bg K H a xs\/fM K H a xs:=by
 cases b with
 |true=>exact .inl h
 |false=>exact .inr h
def S9.det (s:S9):Int:=s.x.a*(s.y.b*s.z.c-s.y.c*s.z.b)-s.x.b*(s.y.a*s.z.c-s.y.c*s.z.a)+s.x.c*(s.y.a*s.z.b-s.y.b*s.z.a)
def cut (T:List G7)(H:Hp):Hp:=λb=>if b∈T then none else H b
theorem wU:ah (cut T H) H:=λb o e=>by
 unfold cut at e
 split at e
 ·cases e
 ·exact e
theorem pW (h:b∉T):cut T H b=H b:=Hu h
theorem Mv.cut (h:Mv T H H'):ah (cut T H) (cut T H'):=λb o e=>by
 unfold TR.cut at e ⊢
 split at e
 ·cases e
 ·rename_i n
  rw[Hu n];exact h b o e n
theorem ah.cut (h:ah H H'):ah (TR.cut T H) (TR.cut T H'):=(Mv.of h).cut
theorem bI.not (h:bI H t r)(hp:H p=none):p∉[t,r]:=λm=>by
 obtain⟨xs,e⟩:=h.lists p m;rw[hp] at e;cases e
theorem aW.uncut {K:GB}{T:List G7}{H:Hp}{d:Il}{v:V}(h:aW K (cut T H) d v):aW K H d v:=aW.same wU h
mutual
theorem aW.cutT {K:GB}{T:List G7}{H:Hp}(l:gH H T):∀ {d:Il}{v:V},nE d=true->aW K H d v->aW K (cut T H) d v
 |_,_,_,.non=>.non
 |_,_,_,.bl b=>.bl b
 |_,_,_,.int i=>.int i
 |_,_,_,.str x=>.str x
 |_,_,t,.lst _ _=>by simp[nE] at t
 |_,_,t,.tup h q=>.tup (by rw[pW (l.not h λ_ z=>nomatch z)];exact h) (aE.cutT l (by simpa [nE] using t) q)
 |_,_,t,.dct _=>by simp[nE] at t
theorem aE.cutT {K:GB}{T:List G7}{H:Hp}(l:gH H T):∀ {ds:List Il}{vs:List V},iq ds=true->aE K H ds vs->aE K (cut T H) ds vs
 |_,_,_,.nil=>.nil
 |_,_,t,.cons h q=>by
  simp only[iq,G6] at t;exact .cons (aW.cutT l t.1 h) (aE.cutT l t.2 q)
end
theorem ql {K:GB}{t r D:G7}{H:Hp}{ds:List Il}{ys:List V}(tw:bI H t r)(hD:H D=none)(h:aE K (cut [t,r] H) ds ys):aW K (cut [t,r] (upd H D (.lst ys))) (.list ds) (.ref D):=by
 refine .lst (.inl ?_) (aE.same (ah.cut (ah.new hD)) h);rw[pW (tw.not hD)];exact af
theorem aW.tupN {K:GB}{D:G7}{H:Hp}{ds:List Il}{ys:List V}(hD:H D=none)(h:aE K H ds ys):aW K (upd H D (.tup ys)) (.tuple ds) (.ref D):=.tup af (aE.same (ah.new hD) h)
abbrev Fh (J:It)(g:TG)(tb:TS)(D:k_)(σ:L2.St)(H:Hp):Prop:=∃ W:Nat->Nat->L2.St->Hp->Prop,(∃ m,W 0 m σ H)/\∀ i m σ H,W i m σ H ->
 (J.stop i H/\D.nx σ H)\/(J.go i H/\∃ N:L2.St->Hp->Prop,(∀ σ' H',N σ' H'->∃ m',m'<m/\W (i+1) m' σ' H')/\∀ x H',J.yld i H x H'->g x σ H' λσ2 H2=>tb { D with nx:=N,ct:=N,bk:=D.nx } σ2 H2)
theorem uU {K:GB}{a:G7}{b:Bool}{xs:List V}{g:TG}{tb:TS}{D:k_}{σ:L2.St}{H:Hp} (Pv:Nat->L2.St->Hp->Prop) (h0:Pv 0 σ H) (hl:∀ i σ H,i <= xs.length->Pv i σ H->cq K H a xs b)
  (hs:∀ i x σ H,xs[i]?=some x->Pv i σ H->g x σ H λσ2 H2=>tb { D with nx:=Pv (i+1),ct:=Pv (i+1),bk:=D.nx } σ2 H2)(hd:∀ σ H,Pv xs.length σ H->D.nx σ H):Fh (pC K a b) g tb D σ H:=by
 cases b with
 |true=>exact xS Pv h0 hl hs hd
 |false=>exact zP Pv h0 hl hs hd
section
variable {K:GB}{g:TG}{tt:TT}{te:TE}{σ0:L2.St}{Fin:List V->Hp->Prop}{H1:Hp}
theorem eK {lo:Int}{n:Nat} (hn:ds.length=n) (hl:n <= 1000)
  (he:∀ (i:Nat) (d:Il) (H:Hp),ds[i]?=some d->ah H1 H->j_ g tt te σ0 (.int (lo+i)) H λy H'=>ah H H'/\aW K H' d y)(hd:∀ ys H,ah H1 H->aE K H ds ys->Fin ys H):dO (yd lo n) g tt te σ0 Fin H1:=by
 refine iO (λi ys H=>ah H1 H/\aE K H (ds.take i) ys) ⟨ah.refl _,.nil⟩ hl (λi ys H hi p=>?_) (λi ys H hi p=>?_) (λys H p=>?_)
 ·rw[<- p.2.length,Ib];lia
 ·obtain⟨s,q⟩:=p;have e:ds[i]?=some ds[i]:=by simp[show i<ds.length by lia]
  intro R kk S;refine he i ds[i] H e s R (λy H' ⟨s',hy⟩=>kk _ _ ⟨s.trans s',?_⟩) S;rw[cC e];exact(aE.same s' q).snoc hy
 ·obtain⟨s,q⟩:=p;rw[IE (by lia)] at q;exact hd ys H s q
theorem kF {lo:Int}{t r:G7}{n:Nat}{Pd:Il->Prop} (tw:bI H1 t r) (hl:n <= 1000)
  (he:∀ (i:Nat) (H:Hp),i<n->bI H t r->Mv [t,r] H1 H->j_ g tt te σ0 (.int (lo+i)) H λy H'=>bI H' t r/\Mv [t,r] H H'/\∃ d,Pd d/\aW K (cut [t,r] H') d y)
  (hd:∀ ds ys H,ds.length=n->(∀ d∈ds,Pd d)->bI H t r->Mv [t,r] H1 H->aE K (cut [t,r] H) ds ys->Fin ys H):dO (yd lo n) g tt te σ0 Fin H1:=by
 refine iO (λi ys H=>bI H t r/\Mv [t,r] H1 H/\∃ ds:List Il,ds.length=i/\(∀ d∈ds,Pd d)/\aE K (cut [t,r] H) ds ys) ⟨tw,Mv.refl,[],rfl,λ_ h=>(Hq h).elim,.nil⟩ hl (λi ys H hi p=>?_) (λi ys H hi p=>?_) (λys H p=>?_)
 ·obtain⟨_,_,ds,e,_,q⟩:=p;rw[<- q.length];lia
 ·obtain⟨tw',mv,ds,e,hP,q⟩:=p;intro R kk S;refine he i H hi tw' mv R (λy H' ⟨tw2,mv2,d,hd,hy⟩=>kk _ _ ⟨tw2,mv.trans mv2,ds++[d],by rw[IB,e];rfl,λd' m=>?_,(aE.same mv2.cut q).snoc hy⟩) S;rcases Hy.mp m with m|m
  ·exact hP d' m
  ·cases G5.mp m;exact hd
 ·obtain⟨tw',mv,ds,e,hP,q⟩:=p;exact hd ds ys H e hP tw' mv q
end
structure Q3 where
 a:Rat
 b:Rat
 c:Rat
def Q3.ds (q:Q3):List Il:=[rD q.a,rD q.b,rD q.c]
def Q3.col (q:Q3):Il:=.tuple q.ds
def Ct (p q:Q3):Rat:=0+p.a*q.a+p.b*q.b+p.c*q.c
structure M9 where
 x:Q3
 y:Q3
 z:Q3
def M9.d (m:M9):Il:=.list [.list m.x.ds,.list m.y.ds,.list m.z.ds]
def M9.led (m:M9)(c:Q3):Q3:=⟨Ct m.x c,Ct m.y c,Ct m.z c⟩
def R3.q (r:R3):Q3:=⟨(r.a:Rat)/((1000:Int):Rat),(r.b:Rat)/((1000:Int):Rat),(r.c:Rat)/((1000:Int):Rat)⟩
def S9.m (s:S9):M9:=⟨s.x.q,s.y.q,s.z.q⟩
def R3.cross (r s:R3):R3:=⟨r.b*s.c-r.c*s.b,r.c*s.a-r.a*s.c,r.a*s.b-r.b*s.a⟩
def R3.dot (r s:R3):Int:=r.a*s.a+r.b*s.b+r.c*s.c
def S9.ca (s:S9):R3:=⟨s.x.a,s.y.a,s.z.a⟩
def S9.cb (s:S9):R3:=⟨s.x.b,s.y.b,s.z.b⟩
def S9.cc (s:S9):R3:=⟨s.x.c,s.y.c,s.z.c⟩
def R3.by (r:R3)(s:S9):Q3:=⟨(r.dot s.ca:Rat)/((1000*1000:Int):Rat),(r.dot s.cb:Rat)/((1000*1000:Int):Rat),(r.dot s.cc:Rat)/((1000*1000:Int):Rat)⟩
section
variable {K:GB}{g:TG}{tt:TT}{te:TE}{σ0:L2.St}{Fin:List V->Hp->Prop}{H1:Hp}
theorem bB (hsrc:cq K H1 a xs b) (hds:aE K H1 ds xs) (hle:es.length=ds.length) (hl:ds.length <= 1000)
  (he:∀ (i:Nat) (d e:Il) (x:V) (H:Hp),ds[i]?=some d->es[i]?=some e->ah H1 H->aW K H d x->j_ g tt te σ0 x H λy H'=>ah H H'/\aW K H' e y)
  (hd:∀ ys H,ah H1 H->aE K H es ys->Fin ys H):dO (pC K a b) g tt te σ0 Fin H1:=by
 have hlen:=hds.length;refine⟨λi m ys H=>m=xs.length-i/\i<=xs.length/\ah H1 H/\aE K H (es.take i) ys,⟨xs.length,by lia,Iz _,ah.refl _,.nil⟩,?_⟩;rintro i m ys H ⟨rfl,hi,s,hys⟩;have hyl:=hys.length;rw[Ib] at hyl
 by_cases hlt:i<xs.length
 ·have go:(pC K a b).go i H:=by
   have q:=cq.same s hsrc;cases b with
   |true=>exact⟨xs,xs[i],q,by simp[hlt]⟩
   |false=>exact⟨xs,xs[i],q,by simp[hlt]⟩
  refine .inr ⟨go,bL (by lia),λx H3 y3=>?_⟩;have e3:H3=H/\xs[i]?=some x:=by
   have q:=cq.same s hsrc;cases b with
   |true=>exact⟨y3.1,y3.2 xs q⟩
   |false=>exact⟨y3.1,y3.2 xs q⟩
  obtain⟨rfl,hx⟩:=e3;obtain⟨d,hdd,hdx⟩:=hds.get hx;have hee:es[i]?=some es[i]:=by simp[show i<es.length by lia]
  refine he i d es[i] x _ hdd hee s (aW.same s hdx) _ (λy H' ⟨s',hy⟩=>⟨xs.length-(i+1),by lia,rfl,hlt,s.trans s',?_⟩) λH5=>∃ m',m'<xs.length-i/\(m'=xs.length-(i+1)/\i+1<=xs.length/\ah H1 H5/\aE K H5 (es.take (i+1)) ys)
  rw[cC hee];exact(aE.same s' hys).snoc hy
 ·have e:i=xs.length:=by lia
  subst e;have stop:(pC K a b).stop xs.length H:=by
   have q:=cq.same s hsrc;cases b with
   |true=>exact⟨xs,q,GM _⟩
   |false=>exact⟨xs,q,GM _⟩
  rw[IE (by lia)] at hys;exact .inl ⟨stop,cP (by lia),hd ys H s hys⟩
end
theorem Fv {i:Nat}(h:[a,b,c][i]?=some x):(i=0/\x=a)\/(i=1/\x=b)\/(i=2/\x=c):=by
 match i,h with
 |0,h=>exact .inl ⟨rfl,(GN h).symm⟩
 |1,h=>exact .inr (.inl ⟨rfl,(GN h).symm⟩)
 |2,h=>exact .inr (.inr ⟨rfl,(GN h).symm⟩)
 |n+3,h=>simp at h
section
variable {X:Cx}{K:GB}{pos:Pos}{tg:JG}
def DG (K:GB):List V->Hp->VK->Prop:=λxs H Q=>∃ p ys,xs=[.ref p]/\(bg K H p ys\/fM K H p ys)/\Q (.int ys.length) H
def Ak (K:GB):List V->Hp->VK->Prop:=λxs H Q=>∃ p ys,xs=[.ref p]/\(bg K H p ys\/fM K H p ys)/\∀ l,H l=none->Q (.ref l) (upd H l (.lst ys))
def Cj (K:GB):List V->Hp->VK->Prop:=λxs H Q=>∃ p ys,xs=[.ref p]/\((bg K H p ys/\∀ l,H l=none->Q (.ref l) (upd H l (.tup ys)))\/(fM K H p ys/\Q (.ref p) H))
def FA (K:GB):List V->Hp->VK->Prop:=λxs H Q=>∃ (p:G7) (bs:List Bool),xs=[.ref p]/\bg K H p (bs.map V.bl)/\Q (.bl (bs.all id)) H
theorem di (e:X.K=K):br X (.builtin "len") (DG K):=by subst e;exact pk
theorem rM (e:X.K=K):br X (.type "list") (Ak K):=by subst e;exact pV
theorem vd (e:X.K=K):br X (.type "tuple") (Cj K):=by subst e;exact m9
theorem jA (e:X.K=K)(hc:X.calm=true):br X (.builtin "all") (FA K):=by subst e;exact yA hc
theorem kC (e:X.K=K):br X (.builtin "isinstance") (CA K):=by subst e;exact qE
theorem Eb (e:X.K=K)(hu:X.A.units+64<cLine):fU X (Jo .Eq) (Em K):=by subst e;exact BO hu
theorem yX (e:X.K=K)(hu:X.A.units+64<cLine):fU X (Jo .NotEq) (Dp K):=by subst e;exact Db hu
theorem A7 (e:X.K=K)(hu:X.A.units+64<cLine):fU X (Jo .NotEq) (xG K):=by subst e;exact yl hu
theorem Fx (e:X.K=K):zK X (Am K):=by subst e;exact CD
theorem Ab (e:X.K=K):ET X (DM K):=by subst e;exact Ac
theorem bA (e:X.K=K)(hl:WE X l tl):WI X tg l (DQ K tl):=by
 have hl:=hl.go;refine⟨?_⟩;subst e;exact C9 hl
theorem t_ (e:X.K=K) {tk:Nat} (hg:Gl X "zip") (hm:X.mg "zip"=none) (ha:WA X [a,b] ta) (hs:G9 [a,b] X.env=[(false,KH a X.env),(false,KH b X.env)]:=by rfl) (hs2:G9 [b] X.env=[(false,KH b X.env)]:=by rfl) :
  WI X (.Tuple elts tk tpos) (.Call (.Name "zip" p) [a,b] [] pos) (Es K ta):=by
 have ha:=ha.go;refine⟨?_⟩;subst e;exact B9 hg hm ha hs hs2
theorem gG (e:X.K=K){k:Nat}{n:Nat}(hc:X.calm=true)(h:Dm X es t)(hn:(JP es X.env).length=n:=by rfl)(hst:(JP es X.env).findIdx? (·.1)=none:=by rfl):WG X (.Tuple es k pos) (EK K n t):=by
 have h:=h.go;refine⟨?_⟩;subst e;exact B2 hc h hn hst
theorem ya (e:X.K=K){k:Nat}{n:Nat}(hc:X.calm=true)(h:Dm X es t)(hn:(JP es X.env).length=n:=by rfl)(hst:(JP es X.env).findIdx? (·.1)=none:=by rfl):WG X (.Tuple es k pos) (DC K n t):=by
 have h:=h.go;refine⟨?_⟩;subst e;exact BQ hc h hn hst
end
def S9.one:S9:=⟨false,false,false,false,⟨1000,0,0⟩,⟨0,1000,0⟩,⟨0,0,1000⟩⟩
def S9.c0 (s:S9):R3:=s.y.cross s.z
def S9.c1 (s:S9):R3:=s.z.cross s.x
def S9.c2 (s:S9):R3:=s.x.cross s.y
def S9.f (s:S9)(n:Int):Rat:=((1000*n:Int):Rat)/((s.det:Int):Rat)
def S9.back (s:S9):M9:=⟨⟨s.f s.c0.a,s.f s.c1.a,s.f s.c2.a⟩,⟨s.f s.c0.b,s.f s.c1.b,s.f s.c2.b⟩,⟨s.f s.c0.c,s.f s.c1.c,s.f s.c2.c⟩⟩
def mR (h:JI)(e C:G7)(T:Option G7):Prop:=∃ oe vs,h.get? e=some oe/\oe.cls=.ref C/\oe.data=.fields vs/\match T with
 |none=>vs[1]?=some .none
 |some T=>vs[1]?=some (.ref T)/\T≠e/\∃ oT ts,h.get? T=some oT/\oT.data=.fields ts/\ts[3]?=some .none
section
variable {M:Model}{A:IR}{E:GH->GJ->Prop}{s:GJ}
theorem og (hfr:A.frames=some (env :: outer)) (hl:s.heap.FunFrames base (env :: outer)) (hf:env.frame=some L) (x:mR s.heap e C T)
  (h:∀ h' T',(∀ b o,s.heap.get? b=some o->b∉dX (env::outer)->b≠e->T≠some b->h'.get? b=some o)->(∀ b o,s.heap.get? b=some o->b∈dX (env::outer)->∃ sl,h'.get? b=some { o with slots:=sl }) ->
   mR h' e C (some T')->(s.heap.get? T'=none\/T=some T')->Q () { s with heap:=h' }):GW M A (leaving env (.ref e)) Q E s:=by
 obtain⟨oe,vs,he,hcls,hd,hT⟩:=x;have hl':=PySem.W.funFrames_hide (as:=dX (env::outer)++e::T.toList) hl λenv he a ha=>Jf _ (IV.mpr ⟨env,he,ha⟩)
 have hkb:(Nu s.heap (dX (env::outer)++e::T.toList)).StaysIn s.heap:=λb o q=>Qj _ q
 have hen:(Nu s.heap (dX (env::outer)++e::T.toList)).get? e=none:=Nc _ (GO _ (GX ..));have fin:∀ h',Heap.Left (Nu s.heap (dX (env::outer)++e::T.toList)) (env::outer) e (.ref C) s.heap h'->Q () { s with heap:=h' }:=λh' hL=>by
  obtain⟨k1,k2,⟨oe',vs',T',oT',ts',he',hc',hd',h1',hn',hTe',hT',hdT',h3'⟩,k4⟩:=hL;have slots:∀ b o,s.heap.get? b=some o->b∈dX (env::outer)->∃ sl,h'.get? b=some { o with slots:=sl }:=λb o q m=>by
   obtain⟨_,o',ho',nf⟩:=hl.mem m;rw[q] at ho';cases ho';exact k4 b o q nf
  refine h h' T' (λb o q n1 n2 n3=>k1 b o (Nv _ q λm=>?_)) slots ⟨oe',vs',he',hc',hd',h1',hTe',oT',ts',hT',hdT',h3'⟩ ?_
  ·rcases Hy.mp m with m|m
   ·exact n1 m
   ·rcases GR.mp m with m|m
    ·exact n2 m
    ·exact n3 (MN.mp m)
  ·cases q:s.heap.get? T' with
   |none=>exact .inl rfl
   |some o=>
    refine .inr ?_
    by_cases m:T'∈dX (env::outer)++e::T.toList
    ·rcases Hy.mp m with m|m
     ·obtain⟨_,o',ho',nf⟩:=hl.mem m;obtain⟨sl,e2⟩:=slots T' o' ho' m;rw[hT'] at e2;cases e2;exact absurd hdT' (nf _)
     ·rcases GR.mp m with m|m
      ·exact absurd m hTe'
      ·exact MN.mp m
    ·have:=Nv _ q m;rw[hn'] at this;cases this
 cases T with
 |none=>exact wpAny_leaving_first hfr hl' hf he hkb hen hd hT λh' hL=>fin h' (hcls▸hL)
 |some T=>
  obtain⟨h1,hTe,oT,ts,hoT,hdT,h3⟩:=hT;refine wpAny_leaving_next hfr hl' hf ⟨oe,vs,T,oT,ts,he,hcls,hd,h1,Nc _ ?_,hTe,hoT,hdT,h3⟩ hkb hen fin;exact GO _ (GK _ (by simp))
end
theorem gO (x:il P w H h)(k:∀ b u o,H b=some u->h.get? b=some o->h'.get? b=some o):il P w H h':=λa o e=>
 (x a o e).stay (λb u hb q=>by
  rcases hb with rfl|hb
  ·exact k _ _ _ e q
  ·exact k _ _ _ hb q) (λ_ q=>q) λ_ _ q=>q
theorem eI:∀ {o:HO},bc P w H h a o->∃ u,h.get? a=some u
 |.lst _,x=>by obtain⟨_,_,_,_,e⟩:=x;exact⟨_,e⟩
 |.tup _,x=>by obtain⟨_,_,_,o,e,_⟩:=x;exact⟨o,e⟩
 |.dK _,x=>by obtain⟨_,_,_,_,o,_,_,e,_⟩:=x;exact⟨o,e⟩
 |.dT _,x=>by obtain⟨_,_,_,_,o,_,_,e,_⟩:=x;exact⟨o,e⟩
 |.set _ _,x=>by obtain⟨o,_,_,_,e,_⟩:=x;exact⟨o,e⟩
 |.ins _ _ _,x=>by obtain⟨_,_,_,e,_⟩:=x;exact⟨_,e⟩
 |.own _,x=>x
 |.xd _,x=>by obtain⟨_,⟨o,_,_,e,_⟩,_⟩:=x;exact⟨o,e⟩
 |.met _ _,x=>⟨_,x⟩
 |.rng _ _,x=>by obtain⟨_,_,_,e⟩:=x;exact⟨_,e⟩
 |.frz o _,x=>⟨o,x.1⟩
 |.tbl _,x=>by obtain⟨_,e,_⟩:=x;exact⟨_,e⟩
 |.ext _,x=>x.2.1
def cE (P:Hv)(w:IN):jE:=λouter H s E v s'=>∃ (e C:G7) (T:Option G7) (H':Hp),v=.ref e/\s'.os=s.os/\OY s'.gens/\Un (dX outer) [] H H' s.heap s'.heap/\il P w H' s'.heap/\mR s'.heap e C T /\
 (s.heap.get? e=none/\H' e=none)/\(∀ t,T=some t->s.heap.get? t=none/\H' t=none)/\E (.ref C) none H'
theorem aN:CU (cE P w):=λ_ _ _ _ _ ⟨_,_,_,_,_,_,_,_,_,_,_,_,h⟩=>h
structure eA (X:Cx)(pins:List (G7×Obj))(H:Hp)(b:G7):Prop where
 new:X.s₀.heap.get? b=none
 free:H b=none
 loc:b≠X.env.locals
 cell:∀ x c,X.env.cells.lookup x=some c->c≠b
 pin:∀ p∈X.pn++pins,p.1≠b
def Bm (X:Cx)(W:L2.St->G7->Hp->Prop):Prop:=∀ (pins:List (G7×Obj)) (σ:L2.St) (H:Hp) (s:GJ) (e C:G7) (T:Option G7),aw X pins σ H s->mR s.heap e C T->eA X pins H e->(∀ t,T=some t->eA X pins H t)->W σ C H->X.xe (.ref e) s
theorem cH {P:Hv}{w:IN}{K:GB}{mg:Str->Option GH}{base:JI}{N:List Str}{qual:Str}{scope:LF}{f:G7}{cd:GH}{A:IR}{outer:List Env}{s:GJ}{H:Hp}{E:XK} :
  Bm (lQ (cE P w) P w K mg base N qual scope f cd A outer s H E) (λ_ C H'=>E (.ref C) none H'):=by
 intro pins σ H' s' e C T I x oe oT q;have fl:=I.stack;show GW _ _ (leaving _ _) _ _ _;refine og (base:=base) I.ok.frames fl rfl x λh' T' keep slot x' nT=>?_
 have sz:∀ b o,s.heap.get? b=some o->b≠s.heap.objs.size:=λb o e=>Hk (GI e)
 have nf:∀ b o,s.heap.get? b=some o->b∉dX outer->b∉dX (envOfC qual scope s.heap.objs.size f cd::outer):=λb o e n m=>by
  obtain⟨env,he,hf⟩:=IV.mp m;rcases GR.mp he with rfl|he
  ·exact sz b o e (GN hf).symm
  ·exact n (IV.mpr ⟨env,he,hf⟩)
 have inn:∀ b,b∈dX outer->b∈dX (envOfC qual scope s.heap.objs.size f cd::outer):=λb m=>by
  obtain⟨env,he,hf⟩:=IV.mp m;exact IV.mpr ⟨env,GK _ he,hf⟩
 have ne:∀ b o,s.heap.get? b=some o->b≠e:=λb o q z=>by rw[z] at q;rw[show s.heap.get? e=none from oe.new] at q;cases q
 have nt:∀ b o,s.heap.get? b=some o->T≠some b:=λb o q z=>by rw[show s.heap.get? b=none from(oT b z).new] at q;cases q
 have hT':s.heap.get? T'=none/\H' T'=none:=by
  rcases nT with nT|nT
  ·constructor
   ·cases q:s.heap.get? T' with
    |none=>rfl
    |some o=>
     obtain⟨o',q'⟩:=I.base.there T' o q (by intro z;exact absurd (show T'∈([]:List G7) from z) (by simp));rw[nT] at q';cases q'
   ·cases q:H' T' with
    |none=>rfl
    |some u=>
     have lt:=I.hok T' u q;obtain⟨o,q'⟩:∃ o,s'.heap.get? T'=some o:=eI lt;rw[nT] at q';cases q'
  ·exact⟨(oT T' nT).new,(oT T' nT).free⟩
 refine⟨e,C,some T',H',rfl,I.os,I.bare,⟨λb o q n m z=>?_,λb o q n m z=>?_,λb o q n z=>I.base.free b o q n z,λb o q z=>?_,I.base.tups,I.base.frzs,I.base.tbls⟩,gO I.hok λb u o hb q=>?_,x',⟨oe.new,oe.free⟩,λt et=>by cases et;exact hT',q⟩
 ·exact keep b o (I.base.keep b o q n m z) (nf b o q m) (ne b o q) (nt b o q)
 ·obtain⟨sl,q2⟩:=I.base.slot b o q n m z;obtain⟨sl2,q3⟩:=slot b _ q2 (inn b m);exact⟨sl2,q3⟩
 ·obtain⟨o',q2⟩:=I.base.there b o q z
  by_cases m:b∈dX (envOfC qual scope s.heap.objs.size f cd::outer)
  ·obtain⟨sl,q3⟩:=slot b o' q2 m;exact⟨_,q3⟩
  ·exact⟨o',keep b o' q2 m (ne b o q) (nt b o q)⟩
 ·refine keep b o q (λm=>?_) (λz=>?_) (λz=>?_)
  ·rw[I.stkFree b m] at hb;cases hb
  ·rw[z,oe.free] at hb;cases hb
  ·rw[(oT b z).free] at hb;cases hb
theorem xW (t:Bm X W)(hex:X.ex=[])(I:aw X pins σ H s)(hE:∀ C H',E (.ref C) none H'->W σ C H')(h:cE X.prog X.w X.stack H s E v s'):X.xe v s':=by
 obtain⟨e,C,T,H',rfl,os,bare,un,hok,x,⟨e1,e2⟩,hT,q⟩:=h;have I':aw X pins σ H' s':=I.call' os un hok bare λb z=>absurd z (by simp)
 have ours:∀ b,s.heap.get? b=none->H' b=none->eA X pins H' b:=λb n1 n2=>by
  have ne:∀ c o,s.heap.get? c=some o->c≠b:=λc o q z=>by rw[z,n1] at q;cases q
  refine⟨?_,n2,λz=>?_,λy c q z=>?_,λp hp z=>?_⟩
  ·cases q:X.s₀.heap.get? b with
   |none=>rfl
   |some o=>
    obtain⟨o',q'⟩:=I.base.there b o q (by rw[hex];simp);rw[n1] at q';cases q'
  ·obtain⟨m,hn,_⟩:=I.loc;obtain⟨o,_,_,ho,_⟩:=hn;exact ne _ o ho z.symm
  ·obtain⟨v,o,ho,_⟩:=I.cell y c q;exact ne _ o ho z
  ·exact ne _ _ (I.pin p hp).1 z
 exact t pins σ H' s' e C T I' x (ours e e1 e2) (λt et=>ours t (hT t et).1 (hT t et).2) (hE C H' q)
abbrev WX:=L2.St->G7->Hp->Prop
def qU (W:WX)(σ:L2.St):XK:=λc _ H'=>∃ C,c=.ref C/\W σ C H'
def wV (sp:Sp)(dvs:List V)(W:WX)(t:TA):TE:=λσ H Q=>t σ H λvs H1=>sp (vs++dvs) H1 Q (qU W σ)
section
variable {X:Cx}{W:WX}{k:Nat}{ps:List Str}{sp:Sp}{dvs:List V}{x:Str}{p pos:Pos}{e:JG}{es:List JG}{t:TA}
theorem Bi (F:i9 X.prog X.w X.K X.mg X.base (cE X.prog X.w) k f fd ps sp)
  (hr:Room k X.A)(hb:iD X.K fd ps ds)(hd:aI dvs ds)(hT:Bm X W)(hex:X.ex=[])(I:aw X pins σ H s)(r:aI vs us)(h:sp (vs++dvs) H Q (qU W σ)):
  GW (Hl X.prog X.w) X.A (call (.ref f) us) (EP X pins σ Q) X.xe s:=by
 have rr:aI (vs++dvs) (us++ds):=aI.append r hd;have hn:(us++ds).length=ps.length:=rr.length.symm.trans (F.len _ _ _ _ h);refine Mf (K9 (F.run X.A X.stack s H ⟨us,[]⟩ (us++ds) (vs++dvs) Q (qU W σ) hr I.env0 (hb s us I.kIn hn) rr h) λz s' hz=>?_)
 match z,hz with
 |.error v,hz=>exact xW hT hex I (λC H' q=>by obtain⟨C',e,w⟩:=q;cases e;exact w) hz
 |.ok (.ret u),hz=>exact I.after hz
theorem bY (hT:Bm X W) (hex:X.ex=[]) (C:du X.prog X.w X.K X.mg X.base (cE X.prog X.w) k x ps dvs sp) (hr:Room k X.A) (hg:Gl X x) (ha:WA X (e :: es) t) (hdb:(x == ("__debug__":Str))=false:=by decide)
  (he:G9 (e::es) X.env=(false,KH e X.env)::G9 es X.env:=by rfl)(hpl:(Lh pos (G9 es X.env)).any (·.1)=false:=by rfl):WE X (.Call (.Name x p) (e::es) [] pos) (wV sp dvs W t):=by
 have ha:=ha.go;refine⟨?_⟩;obtain⟨f,fd,ds,F,hm,hk,hb,hv⟩:=C.ex;intro pins s σ H Q I h;refine Kk (eM I hg hm ?_ hdb);refine Ls (h₀:=X.base) I.ok.mod.kin hk (bf (ha pos pins s σ H _ I h) λus s1 ⟨vs,H1,I1,r,q⟩=>⟨I1.kIn,?_⟩) he hpl;exact Bi F hr hb hv hT hex I1 r q
end
theorem cW.calX {P:Hv}{w:IN}{K:GB}{mg:Str->Option GH}{base:JI}{CX:jE}{x:Str}{st:K4}{N ps:List Str}{dvs:List V}{k:Nat}{sp:Sp} (F:cW K mg x st ps dvs) (S:aD N ps (ai st))
  (len:∀ vs H Q E,sp vs H Q E->vs.length=ps.length:=by intro _ _ _ _ h;cases h;subst_vars;rfl)
  (bb:∀ (f:G7) (cdv:GH) (A:IR) (outer:List Env) (s:GJ) (H:Hp) (vs:List V) (Q:VK) (E:XK),Room k (A.deeper (envOfC x (ai st) s.heap.objs.size f cdv))->sp vs H Q E ->
   ∃ t,yM (lQ CX P w K mg base N x (ai st) f cdv A outer s H E) (aU st) t/\t { nx:=λ_ H'=>Q .non H',rt:=Q } (gI N vs) H):du P w K mg base CX (k+1) x ps dvs sp:=by
 obtain⟨f,fd,oc,od,dV,kV,doc,pm,an,cdv,ct,osl,ds,rfl,lk,hcd,hm,hk,hb,hv⟩:=F.ex;exact⟨f,_,ds,uE lk hcd S len λA outer s H vs Q E hr hsp=>bb f cdv A outer s H vs Q E hr hsp,hm,hk,hb,hv⟩
abbrev ES:List GH:=[.type "ValueError",.type "Exception",.type "BaseException",.type "object"]
abbrev AL:String:="ValueError.__new__"
def bt (K:GB)(x:Str)(C:G7):Prop:=Ho K G4 x=some (some (.ref C))
theorem Au {K:GB}{h:JI}{C:G7}{bmB:List GH}{newId:String} (X:K.In h) (q:Mt K C bmB newId=true) :
  ∃ bm N nm qn bs hd sn sub ab col dd k0 k1 k2 k3 k5 mN,h.get? C=some (excClassObj nm qn C N bs bm hd sn sub ab col dd k0 k1 k2 k3 k5 newId)/\h.Ns N mN/\mN "__init__"=none/\OwnTail h bmB bm:=by
 unfold Mt at q
 split at q
 ·rename_i dd cd sl look
  split at q
  ·rename_i C1 bm k0 k1 k2 k3 n k5 hm hs
   obtain⟨nm,bs,mro,ns,qn,hd,sn,sub,ab,col,del⟩:=cd;simp only[G6,Jh,N6] at q hm;obtain⟨⟨⟨⟨⟨z1,z2⟩,z3⟩,z4⟩,z5⟩,z6⟩:=q;subst z1 z2 z3 hm;have es:sl=#[k0,k1,k2,k3,some (.builtin n),k5]:=by
    obtain⟨l⟩:=sl;simp only at hs;rw[hs]
   subst es;exact⟨bm,ns,nm,qn,bs,hd,sn,sub,ab,col,dd,k0,k1,k2,k3,k5,_,X _ _ look,.of_isNs (PySem.W.isNs_of_in X z5),PySem.W.nsMap_none_of_in X z5 z6,PySem.W.tail_of_in X z4⟩
  ·cases q
 ·cases q
def CN (K:GB)(x:Str)(W:WX)(t:TA):TS:=λ_ σ H=>t σ H λvs H1=>vs.length<=GZ/\∀ C,bt K x C->W σ C H1
theorem aw.unt (I:aw X pins σ H s)(h:s.heap.get? b=none):H b=none:=by
 cases q:H b with
 |none=>rfl
 |some u=>
  obtain⟨o,z⟩:=eI (I.hok b u q);rw[h] at z;cases z
theorem aw.ours (hex:X.ex=[])(I:aw X pins σ H s)(h:s.heap.get? b=none):eA X pins H b:=by
 have ne:∀ c o,s.heap.get? c=some o->c≠b:=λc o q z=>by rw[z,h] at q;cases q
 refine⟨?_,aw.unt I h,λz=>?_,λy c q z=>?_,λp hp z=>?_⟩
 ·cases q:X.s₀.heap.get? b with
  |none=>rfl
  |some o=>
   obtain⟨o',q'⟩:=I.base.there b o q (by rw[hex];simp);rw[h] at q';cases q'
 ·obtain⟨m,hn,_⟩:=I.loc;obtain⟨o,_,_,ho,_⟩:=hn;exact ne _ o ho z.symm
 ·obtain⟨v,o,ho,_⟩:=I.cell y c q;exact ne _ o ho z
 ·exact ne _ _ (I.pin p hp).1 z
theorem c5 {X:Cx}{W:WX}{x:Str}{np cpos pos:Pos}{e:JG}{es:List JG}{t:TA}{K:GB} (hK:X.K=K) (hT:Bm X W) (hex:X.ex=[]) (hc:X.calm=true) (hg:Gl X x) (hC:∃ C,bt K x C/\Mt K C ES AL=true)
  (ha:WA X (e::es) t)(hdb:(x==("__debug__":Str))=false:=by decide)
  (he:G9 (e::es) X.env=(false,KH e X.env)::G9 es X.env:=by rfl)(hpl:(Lh cpos (G9 es X.env)).any (·.1)=false:=by rfl):
  WS X (.Raise (some (.Call (.Name x np) (e::es) [] cpos)) none pos) (CN K x W t):=by
 have ha:=ha.go;refine⟨?_⟩;subst hK;intro pins s σ H D I h;obtain⟨C,hc1,hc2⟩:=hC;have hm:X.mg x=some (.ref C):=J' I.ok.mod.kin I.ok.mod.glob hc1;obtain⟨bm,N,nm,qn,bs,hd,sn,sub,ab,col,dd,k0,k1,k2,k3,k5,mN,hO,hN,hi,hTl⟩:=Au I.ok.mod.kin hc2;refine wpAny_Raise_call_subT (C:=C) (nm:=nm) (q:=qn) (N:=N) (bs:=bs) (bm:=bm) (hdct:=hd) (sn:=sn) (sub:=sub) (ab:=ab) (col:=col) (dd:=dd) (k0:=k0) (k1:=k1) (k2:=k2) (k3:=k3) (k5:=k5)
  NJ (mN:=mN) (hTl.hasType NJ.hasBase) (I.ok.hd hc) ?_ hi (eM I hg hm ⟨rfl,?_⟩ hdb)
 ·rw[he];show(false||(Lh cpos (G9 es X.env)).any (·.1))=false;rw[hpl];rfl
 have h2:=ha cpos pins s σ H _ I h;rw[he] at h2 ⊢;refine Na (bf h2 λus s1 ⟨vs,H1,I1,r,hl,hw⟩=>⟨rfl,?_,I1.bk _ _ hO,hN.keeps I1.bk,hTl.keeps I1.bk,λh' e0 hx=>?_⟩)
 ·rw[<- r.length];exact hl
 ·obtain⟨tp,ht,hn1,ht2⟩:=hx.there;have I2:aw X pins σ H1 { s1 with heap:=h' }:=I1.kept (t':=s1.toks) hx.keeps;have o1:=aw.ours hex I1 hx.new;exact hT pins σ H1 _ e0 C none I2 ⟨_,_,ht,rfl,rfl,rfl⟩ o1 (λt z=>nomatch z) (hw C hc1)
theorem vz
  (h:GW (Hl prog w) A (execs body env) Q (λv s1=>GW (Hl prog w) A (leaving env v) (λ_ s2=>GW (Hl prog w) A (handleBy v env (h0::hs)) Q E s2) E s1) s):
  GW (Hl prog w) A (exec (.Try body (h0::hs) [] [] pos) env) Q E s:=by
 rw[arm_exec_Try];refine Gz (Jr ?_);unfold tryStmt;simp only[Iv,JU,K5,JH,List.isEmpty_cons,List.isEmpty_nil];refine Gz (J_ (Hm h (λf s1 h1=>?_) λv s1 h1=>?_))
 ·cases f with
  |next=>exact MA h1
  |brk=>exact GD h1
  |cont=>exact GD h1
  |ret u=>exact GD h1
 ·intro Γ p hΓ;have h2:=h1 Γ p hΓ;unfold leaving at h2;rw[Q0] at h2;show Sem.wp _ Γ (M5 v env>>=λ_=>setFlight v none>>=λ_=>handleBy v env (h0::hs)) _ _ p s1;rw[Q0];refine Sem.wp_mono _ Γ _ (λ_ p1 s3 h3=>?_) (λ_ _ _ z=>z) p s1 h2;rw[Q0];exact Sem.wp_mono _ Γ _ (λ_ p2 s4 h4=>h4 Γ p2 hΓ) (λ_ _ _ z=>z) p1 s3 h3
section
variable {X:Cx}{pins pins':List (G7×Obj)}{σ:L2.St}{H:Hp}{s:GJ}{h':JI}
theorem aw.ctx (I:aw X pins σ H s) (hf:A'.frames=X.A.frames) (hc:c'=true->A'.handled=none) (hp:∀ p ∈ pn' ++ pins',p ∈ X.pn ++ pins) :
  aw { X with A:=A',calm:=c',pn:=pn',xe:=xe' } pins' σ H s:=
 ⟨⟨I.ok.mod,I.ok.kind,I.ok.glob,I.ok.blt,I.ok.above,I.ok.inj,I.ok.has,I.ok.cab,hc,hf.trans I.ok.frames,I.ok.stk,I.ok.exf,I.ok.bs,I.ok.bsz,I.ok.noex,I.ok.exfs,I.ok.funs,I.ok.frf⟩,
  I.os,I.bare,I.base,I.loc,I.cell,I.free,I.freeC,λp hp'=>I.pin p (hp p hp'),I.hok,I.len⟩
theorem aw.back {A':IR}{c':Bool}{pn':List (G7 × Obj)}{xe':GH->GJ->Prop} (J:aw { X with A:=A',calm:=c',pn:=pn',xe:=xe' } pins' σ H s) (hf:X.A.frames=A'.frames) (hc:X.calm=true->X.A.handled=none)
  (hp:∀ p∈X.pn++pins,p∈pn'++pins'):aw X pins σ H s:=
 ⟨⟨J.ok.mod,J.ok.kind,J.ok.glob,J.ok.blt,J.ok.above,J.ok.inj,J.ok.has,J.ok.cab,hc,hf.trans J.ok.frames,J.ok.stk,J.ok.exf,J.ok.bs,J.ok.bsz,J.ok.noex,J.ok.exfs,J.ok.funs,J.ok.frf⟩,
  J.os,J.bare,J.base,J.loc,J.cell,J.free,J.freeC,λp hp'=>J.pin p (hp p hp'),J.hok,J.len⟩
theorem aw.flown {L:List G7} (I:aw X pins σ H s) (ho:∀ b ∈ L,eA X pins H b) (keep:∀ b o,s.heap.get? b=some o->b ∉ dX X.stack->b ∉ L->h'.get? b=some o)
  (slot:∀ b o,s.heap.get? b=some o->b∈dX X.stack->∃ sl,h'.get? b=some { o with slots:=sl }):aw X pins σ H { s with heap:=h' }:=by
 have any:∀ b o,s.heap.get? b=some o->b∉L->∃ sl,h'.get? b=some { o with slots:=sl }:=λb o q n=>by
  by_cases m:b∈dX X.stack
  ·exact slot b o q m
  ·exact⟨o.slots,keep b o q m n⟩
 have nl:∀ b o,X.s₀.heap.get? b=some o->b∉L:=λb o q m=>by
  have z:=(ho b m).new;rw[q] at z;cases z
 have ne:∀ b o,X.s₀.heap.get? b=some o->b≠X.env.locals:=λb o q=>Hk (G8 (GI q) I.ok.above)
 have out:∀ b,b≠X.env.locals->b∉X.fs->b∉dX X.stack:=λb n m z=>(GR.mp (I.stkSub b z)).elim n m
 have cl:∀ x c,X.env.cells.lookup x=some c->∀ v,s.heap.IsCell c v->h'.IsCell c v:=λx c q v z=>by
  obtain⟨o,z1,z2⟩:=z;obtain⟨sl,y⟩:=any c o z1 λm=>(ho c m).cell x c q rfl
  exact⟨_,y,z2⟩
 refine⟨I.ok,I.os,I.bare,⟨λb o q n m z=>?_,λb o q n m z=>?_,I.base.free,λb o q z=>?_,I.base.tups,I.base.frzs,I.base.tbls⟩,?_,λx c q=>?_,I.free,I.freeC,λp hp=>?_,?_,I.len⟩
 ·exact keep b o (I.base.keep b o q n m z) (out b (ne b o q) m) (nl b o q)
 ·obtain⟨sl,y⟩:=I.base.slot b o q n m z;obtain⟨sl2,y2⟩:=any b _ y (nl b o q);exact⟨sl2,y2⟩
 ·obtain⟨o',y⟩:=I.base.there b o q z;obtain⟨sl,y2⟩:=any b o' y (nl b o q);exact⟨_,y2⟩
 ·obtain⟨m,⟨o,es,ep,z,r⟩,hl⟩:=I.loc;obtain⟨sl,y⟩:=any _ o z λw=>(ho _ w).loc rfl
  refine⟨m,⟨_,es,ep,y,r⟩,λi x v e1 e2 e3=>?_⟩;obtain⟨u,rv,l⟩:=hl i x v e1 e2 e3;refine⟨u,rv,?_⟩;rcases l with l|⟨k,c,q,z⟩
  ·exact .inl l
  ·exact .inr ⟨k,c,q,cl x c q _ z⟩
 ·obtain⟨v,z⟩:=I.cell x c q;exact⟨v,cl x c q v z⟩
 ·obtain⟨a,n,l,f,d⟩:=I.pin p hp;exact⟨keep _ _ a (out _ l f) λm=>(ho _ m).pin p hp rfl,n,l,f,d⟩
 ·exact gO I.hok λb u o hb q=>keep b o q (λm=>by rw[I.stkFree b m] at hb;cases hb) λm=>by rw[(ho b m).free] at hb;cases hb
theorem aw.track (I:aw X pins σ H s)(ho:eA X pins H e)(new:bc X.prog X.w (upd H e (.ext φ)) s.heap e (.ext φ)):aw X pins σ (upd H e (.ext φ)) s:=by
 have un:∀ b u,H b=some u->upd H e (.ext φ) b=some u:=λb u q=>by
  rw[ap (λz=>by rw[z,ho.free] at q;cases q)];exact q
 have fr:∀ b,b≠e->H b=none->upd H e (.ext φ) b=none:=λb n q=>by rw[ap n];exact q
 refine⟨I.ok,I.os,I.bare,⟨I.base.keep,I.base.slot,λb o q n z=>fr b (λy=>?_) (I.base.free b o q n z),I.base.there,λb xs q=>un b _ (I.base.tups b xs q),λb o u q=>un b _ (I.base.frzs b o u q),λb ps q=>?_⟩,I.loc,I.cell,
  fr _ (λz=>ho.loc z.symm) I.free,λx c q=>fr c (ho.cell x c q) (I.freeC x c q),λp hp=>?_,λb u q=>?_,I.len⟩
 ·rw[y,ho.new] at q;cases q
 ·obtain⟨m,z⟩:=I.base.tbls b ps q;exact⟨m,un b _ z⟩
 ·obtain⟨a,n,r⟩:=I.pin p hp;exact⟨a,fr _ (ho.pin p hp) n,r⟩
 ·by_cases z:b=e
  ·subst z;rw[af] at q;cases q;exact new
  ·rw[ap z] at q;exact(I.hok b u q).stay (λ_ _ _ r=>r) (λc r=>un c _ r) λc xs r=>un c _ r
theorem hU {i:Nat} (I:aw X pins σ H s) (hN:X.N.Nodup) (hi:X.N[i]?=some n) (hl:X.env.scope.names.lookup n=some .local)
  (h:∀ s',aw X pins (σ.set i none) H s'->Q () s'):GW M A (do Q_ X.env n .none;unbindBehindTheSuite X.env n pos) Q E s:=by
 obtain⟨m,hn,hm⟩:=id I.loc;have ne:∀ b o,X.s₀.heap.get? b=some o->b≠X.env.locals:=λb o q=>Hk (G8 (GI q) I.ok.above)
 refine wpAny_nameGoes_keeps hl hn (by rw[I.ok.kind];rfl) λh1 v hn1 hs=>h _ ⟨I.ok,I.os,I.bare,⟨λb o q n m z=>(hs.2 b (ne b o q)).trans (I.base.keep b o q n m z),λb o q n m z=>?_,I.base.free,λb o q z=>?_,I.base.tups,I.base.frzs,I.base.tbls⟩,
  ⟨_,hn1,λj y v e1 e2 e3=>?_⟩,λy c q=>?_,I.free,I.freeC,λp hp=>?_,gO I.hok λb u o hb q=>(hs.2 b (λz=>by rw[z,I.free] at hb;cases hb)).trans q,by simpa using I.len⟩
 ·obtain⟨sl,y⟩:=I.base.slot b o q n m z;exact⟨sl,(hs.2 b (ne b o q)).trans y⟩
 ·obtain⟨o',y⟩:=I.base.there b o q z;exact⟨o',(hs.2 b (ne b o q)).trans y⟩
 ·have hji:j≠i:=λz=>by
   subst z;rw[List.getElem?_set] at e2;simp only[K5] at e2
   split at e2<;>cases e2
  rw[Nb (Jj hji)] at e2;obtain⟨u,r,l⟩:=hm j y v e1 e2 e3;refine⟨u,r,?_⟩;rcases l with ⟨k,q⟩|⟨k,c,q,z⟩
  ·refine .inl ⟨k,?_⟩;dsimp only;rw[Hu (λz:y=n=>hji (mC hN e1 (by rw[z];exact hi)))];exact q
  ·exact .inr ⟨k,c,q,z.sameBut hs (I.cne y c q)⟩
 ·obtain⟨u,z⟩:=I.cell y c q;exact⟨u,z.sameBut hs (I.cne y c q)⟩
 ·obtain⟨a,n,l,f,d⟩:=I.pin p hp;exact⟨(hs.2 _ l).trans a,n,l,f,d⟩
end
def rh (e C:G7):HO:=.ext λh=>∃ oe vs,h.get? e=some oe/\oe.cls=.ref C/\oe.data=.fields vs
theorem Ah (x:mR h e C T):bc P w H h e (rh e C):=by
 obtain⟨oe,vs,h1,h2,h3,_⟩:=x;exact⟨⟨oe,vs,h1,h2,h3⟩,⟨oe,h1⟩,λg1 g2 ⟨o,us,a,b,c⟩ k=>⟨o,us,k _ a,b,c⟩⟩
theorem qM (x:mR s.heap e C (some T))
  (h:∀ h',mR h' e C (some T)->(∀ b o,b≠T->s.heap.get? b=some o->h'.get? b=some o)->Q () { s with heap:=h' }):GW M A (setFlight (.ref e) none) Q E s:=by
 obtain⟨oe,vs,h1,h2,h3,h4,h5,oT,ts,h6,h7,h8⟩:=x;have ot:∀ b o,b≠T->s.heap.get? b=some o->(s.heap.update T (IC (·.setIfInBounds 3 Ia))).get? b=some o:=λb o n q=>(Hx _ _ (Jj n)).trans q
 have h3z:3<ts.size:=(Iu.mp h8).1;refine Nd h1 h3 h4 h6 h7 h3z (h _ ⟨oe,vs,ot e oe (Jj h5) h1,h2,h3,h4,h5,_,_,HF _ h6 (IJ (Ic h7 _)),Ic h7 _,by simp[h3z]⟩ ot)
def oO (i:Nat)(D:k_):k_ where
 nx:=λσ H=>D.nx (σ.set i none) H
 rt:=D.rt
 bk:=λσ H=>D.bk (σ.set i none) H
 ct:=λσ H=>D.ct (σ.set i none) H
def Bo (K:GB)(C:G7)(x:Str):Prop:=∃ T,bt K x T/\Ro K (.ref C) (.ref T)=some true
def BU (K:GB)(x:Str)(i:Nat)(th:TS)(D:k_):WX:=λσ C H=>Bo K C x/\∀ e,H e=none->th (oO i D) (σ.set i (some (.ref e))) (upd H e (rh e C))
def Du (K:GB)(x:Str)(i:Nat)(tb:WX->TS)(th:TS):TS:=λD σ H=>tb (BU K x i th D) D σ H
theorem CC {X:Cx}{K:GB}{x n:Str}{i:Nat}{np hpos pos:Pos}{body suite:List K4}{b0:K4}{tb:WX->TS}{th:TS} (hK:X.K=K) (hN:X.N.Nodup) (hi:X.N[i]?=some n) (hl:X.env.scope.names.lookup n=some .local)
  (hex:X.ex=[])(hf:X.env.frame=some X.env.locals)(hstk:X.stack=X.env::X.outer)(hg:Gl X x)
  (hb:∀ pn' xe' W,Bm { X with pn:=pn',xe:=xe' } W->yM { X with pn:=pn',xe:=xe' } body (tb W))
  (hh:∀ e,yM { X with A:=X.A.mark (some (.ref e)),calm:=false,xe:=λ_ _=>False } (b0::suite) th)(hdb:(x==("__debug__":Str))=false:=by decide):
  PS X (.Try body [.ExceptHandler (some (.Name x np)) (some n) (b0::suite) hpos] [] [] pos) (Du K x i tb th):=by
 subst hK;intro pins s σ H D I h;have back:∀ {pins':List (G7×Obj)}{xe':GH->GJ->Prop}{σ':L2.St}{H':Hp}{s':GJ},aw { X with pn:=X.pn++pins,xe:=xe' } pins' σ' H' s'->aw X pins σ' H' s':=λ{_ _ _ _ _} J=>
  aw.back (X:=X) J rfl I.ok.hd λp hp=>Jf _ hp
 refine vz (Hm (hb (X.pn++pins) (λv s1=>GW (Hl X.prog X.w) X.A (leaving X.env v) (λ_ s2=>GW (Hl X.prog X.w) X.A (handleBy v X.env [.ExceptHandler (some (.Name x np)) (some n) (b0::suite) hpos]) (SP X pins D) X.xe s2) X.xe s1)
  (BU X.K x i th D) ?_ [] s σ H D (aw.ctx (A':=X.A) (c':=X.calm) I rfl I.ok.hd λp hp=>by simpa using hp) h) (λf s1 hs=>?_) λv s1 hv=>hv)
 ·intro pins' σ' H' s1 e C T J xo oe oT w;obtain⟨⟨T0,hT0,hsub⟩,hw⟩:=w;have J0:=back J;have ours:∀ {b:G7},eA { X with pn:=X.pn++pins,xe:=λv s1=>GW (Hl X.prog X.w) X.A (leaving X.env v) (λ_ s2=>GW (Hl X.prog X.w) X.A (handleBy v X.env [.ExceptHandler (some (.Name x np)) (some n) (b0::suite) hpos]) (SP X pins D) X.xe s2) X.xe s1 } pins' H' b->eA X pins H' b:=
   λ{b} z=>⟨z.new,z.free,z.loc,z.cell,λp hp=>z.pin p (Jf _ hp)⟩
  have fl:s1.heap.FunFrames X.base (X.env::X.outer):=by rw[<- hstk];exact J0.stack
  have frm:X.A.frames=some (X.env::X.outer):=by rw[<- hstk];exact J0.ok.frames
  show GW (Hl X.prog X.w) X.A (leaving X.env (.ref e)) _ X.xe s1;refine og frm fl hf xo λh1 T1 keep slot xo1 nT=>?_
  have oT1:eA X pins H' T1:=by
   rcases nT with q|q
   ·exact aw.ours hex J0 q
   ·exact ours (oT T1 q)
  have J1:aw X pins σ' H' { s1 with heap:=h1 }:=by
   refine aw.flown (L:=e::T.toList) J0 (λb hb=>?_) (λb o q n1 n2=>?_) (λb o q m=>?_)
   ·rcases GR.mp hb with z|z
    ·rw[z];exact ours oe
    ·exact ours (oT b (MN.mp z))
   ·refine keep b o q (by rw[<- hstk];exact n1) (λz=>n2 (by rw[z];exact GX ..)) λz=>n2 (GK _ (by rw[z];simp))
   ·exact slot b o q (by rw[<- hstk];exact m)
  have hm:X.mg x=some (.ref T0):=J' I.ok.mod.kin I.ok.mod.glob hT0;have ty:JM (Hl X.prog X.w) h1 (typeOf (.ref e)) (.ref C):=by
   obtain⟨o1,v1,q1,q2,_⟩:=xo1;exact q2▸(OO q1).andThen .now
  have J2:aw { X with A:=X.A.mark (some (.ref e)),calm:=false,xe:=λ_ _=>False } pins σ' H' { s1 with heap:=h1 }:=aw.ctx (A':=X.A.mark (some (.ref e))) (c':=false) (pn':=X.pn) J1 rfl (λz=>nomatch z) λp hp=>hp
  refine wpAny_handleBy_cons (codeAny_handlers_test (eM (X:={ X with A:=X.A.mark (some (.ref e)),calm:=false,xe:=λ_ _=>False }) J2 hg hm ?_ hdb)) (by intro q;cases q);refine(PySem.W.exm_one (K:=X.K) J1.kIn ty hsub).here ?_;show Ky _ _ _ _ _;refine codeAny_handlers_suite_as (qM xo1 λh2 xo2 k2=>?_);have J3:aw X pins σ' H' { s1 with heap:=h2 }:=aw.flown (s:={ s1 with heap:=h1 }) (h':=h2) (L:=[T1]) J1 (λb hb=>by rw[G5.mp hb];exact oT1) (λb o q _ n=>k2 b o (λz=>n (by simp[z])) q)
   (λb o q m=>⟨o.slots,k2 b o (λz=>by
    obtain⟨_,o',ho',nf⟩:=J1.stack.mem m;obtain⟨_,_,_,_,_,_,_,oT',ts,g1,g2,_⟩:=xo1;rw[z,g1] at ho';cases ho';exact nf _ g2) q⟩)
  have J4:aw X pins σ' (upd H' e (rh e C)) { s1 with heap:=h2 }:=aw.track J3 (ours oe) (Ah xo2);refine eW (v:=.ref e) J4 hN hi (.inl hl) rfl (λs3 J5=>?_) (.inr hl);have J6:aw { X with A:=X.A.mark (some (.ref e)),calm:=false,xe:=λ_ _=>False } pins (σ'.set i (some (.ref e))) (upd H' e (rh e C)) s3:=aw.ctx (A':=X.A.mark (some (.ref e))) (c':=false) (pn':=X.pn) J5 rfl (λz=>nomatch z) λp hp=>hp
  refine Hm (hh e pins s3 _ _ (oO i D) J6 (hw e oe.free)) (λf s4 hs=>?_) λ_ _ z=>Kh z
  have bk:∀ {σ'':L2.St}{H'':Hp},aw { X with A:=X.A.mark (some (.ref e)),calm:=false,xe:=λ_ _=>False } pins σ'' H'' s4->aw X pins σ'' H'' s4:=λ{_ _} J=>
   aw.back (X:=X) J rfl I.ok.hd λp hp=>hp
  match f,hs with
  |.next,⟨σ1,H1,K1,q⟩=>exact hU (bk K1) hN hi hl λs5 K2=>⟨_,_,K2,q⟩
  |.brk,⟨σ1,H1,K1,q⟩=>exact hU (bk K1) hN hi hl λs5 K2=>⟨_,_,K2,q⟩
  |.cont,⟨σ1,H1,K1,q⟩=>exact hU (bk K1) hN hi hl λs5 K2=>⟨_,_,K2,q⟩
  |.ret u,⟨v,σ1,H1,K1,r,q⟩=>exact hU (bk K1) hN hi hl λs5 K2=>⟨v,_,_,K2,r,q⟩
 ·match f,hs with
  |.next,⟨σ1,H1,K1,q⟩=>exact⟨_,_,back K1,q⟩
  |.brk,⟨σ1,H1,K1,q⟩=>exact⟨_,_,back K1,q⟩
  |.cont,⟨σ1,H1,K1,q⟩=>exact⟨_,_,back K1,q⟩
  |.ret u,⟨v,σ1,H1,K1,r,q⟩=>exact⟨v,_,_,back K1,r,q⟩
def c_:List Str:=["BadNumber","BadShare","BadCurve","BadSquare","NoBack","BadGrid","BadColour","BadIntent","BadProfile","BadInk","BadText"]
def jI:List Str:=["number","share","curve","square","back","grid","colour","intent","profile","ink","text"]
def f7 (K:GB)(x:Str):Option G7:=match Ho K G4 x with
 |some (some (.ref C))=>some C
 |_=>none
theorem l4 {K:GB}{x:Str}{C:G7}(h:f7 K x=some C):bt K x C:=by
 unfold f7 at h
 split at h
 ·rename_i D e
  cases h;exact e
 ·cases h
theorem cn {K:GB}{x:Str}{C:G7}(h:bt K x C):f7 K x=some C:=by
 unfold f7;rw[show Ho K G4 x=some (some (.ref C)) from h]
def Fa (K:GB)(C:G7):Bool:=
 Mt K C ES AL&&Nw K C&&Kt K (.ref C)==some (.type "type")&&Mu K C (.type "object")==some true&&Mu K C (.type "BaseException")==some true &&
  Hw K (.ref C) "__getattribute__"==some (some (.builtin "BaseException.__getattribute__"))&&Hw K (.ref C) "__getattr__"==some none&&Hw K (.ref C) "__class__"==some (some (.builtin "object.__class__")) &&
  MP K (.builtin "object.__class__") "__get__"==some (some (.builtin "getset_descriptor.__get__"))&&Nz K (.builtin "object.__class__")==some true&&ID K (.ref C) (.ref C)==some true
structure Ex (K:GB)(C:G7):Prop where
 exc:Mt K C ES AL=true
 cls:Nw K C=true
 typ:Kt K (.ref C)=some (.type "type")
 slf:ID K (.ref C) (.ref C)=some true
 obj:Mu K C (.type "object")=some true
 bex:Mu K C (.type "BaseException")=some true
 ga:Hw K (.ref C) "__getattribute__"=some (some (.builtin "BaseException.__getattribute__"))
 gn:Hw K (.ref C) "__getattr__"=some none
 gc:Hw K (.ref C) "__class__"=some (some (.builtin "object.__class__"))
 get:MP K (.builtin "object.__class__") "__get__"=some (some (.builtin "getset_descriptor.__get__"))
 tks:Nz K (.builtin "object.__class__")=some true
theorem DR {K:GB}{C:G7}(h:Fa K C=true):Ex K C:=by
 unfold Fa at h;simp only[G6,Jh] at h;obtain⟨⟨⟨⟨⟨⟨⟨⟨⟨⟨a,b⟩,c⟩,d⟩,e⟩,f⟩,g⟩,i⟩,j⟩,k⟩,l⟩:=h;exact⟨a,b,c,l,d,e,f,g,i,j,k⟩
def eQ (K:GB)(i:Nat)(C:G7):Prop:=∃ x,c_[i]?=some x/\bt K x C
def wk (K:GB):Bool:=(f7 K "TintError").any λT=>Nw K T&&Kt K (.ref T)==some (.type "type")&&ID K (.ref T) (.type "BaseException")==some true &&
 (IQ 11).all λi=>(f7 K (c_.getD i "")).any λC=>Fa K C&&ID K (.ref C) (.ref T)==some true&&ID K (.ref C) (.type "ValueError")==some true &&
  (IQ 11).all λj=>(f7 K (c_.getD j "")).any λD=>ID K (.ref C) (.ref D)==some (i==j)
theorem bR (h:o.any p=true):∃ a,o=some a/\p a=true:=by
 cases o with
 |none=>cases h
 |some a=>exact⟨a,rfl,h⟩
theorem oI {i:Nat}(h:c_[i]?=some x):i<11/\c_.getD i ""=x:=by
 have e:=(GU.mp h).1;exact⟨e,by rw[LO,h];rfl⟩
section
variable {K:GB}(R:wk K=true)
include R
theorem dG:∃ T,bt K "TintError" T/\Nw K T=true/\Kt K (.ref T)=some (.type "type")/\ID K (.ref T) (.type "BaseException")=some true /\
  ∀ i C,eQ K i C->Ex K C/\ID K (.ref C) (.ref T)=some true/\ID K (.ref C) (.type "ValueError")=some true/\∀ j D,eQ K j D->ID K (.ref C) (.ref D)=some (i==j):=by
 unfold wk at R;obtain⟨T,hT,h⟩:=bR R;simp only[G6,Jh,Hz] at h;obtain⟨⟨⟨h1,h2⟩,h3⟩,h4⟩:=h;refine⟨T,l4 hT,h1,h2,h3,λi C hC=>?_⟩;obtain⟨x,hx,hC⟩:=hC;obtain⟨hi,ex⟩:=oI hx;obtain⟨C',e,h5⟩:=bR (h4 i (Ju.mpr hi));rw[ex,cn hC] at e;cases e;simp only[G6,Jh,Hz] at h5;obtain⟨⟨⟨h6,h7⟩,h8⟩,h9⟩:=h5;refine⟨DR h6,h7,h8,λj D hD=>?_⟩;obtain⟨y,hy,hD⟩:=hD;obtain⟨hj,ey⟩:=oI hy;obtain⟨D',e,h10⟩:=bR (h9 j (Ju.mpr hj));rw[ey,cn hD] at e;cases e;exact Jh.mp h10
theorem AI:∃ T,bt K "TintError" T:=by
 obtain⟨T,h,_⟩:=dG R;exact⟨T,h⟩
theorem bD {i:Nat}(h:c_[i]?=some x):∃ C,bt K x C:=by
 unfold wk at R;obtain⟨T,hT,q⟩:=bR R;simp only[G6,Hz] at q;obtain⟨hi,ex⟩:=oI h;obtain⟨C,e,_⟩:=bR (q.2 i (Ju.mpr hi));rw[ex] at e;exact⟨C,l4 e⟩
theorem fh {i:Nat}(h:c_[i]?=some x):∃ C,bt K x C/\Mt K C ES AL=true:=by
 obtain⟨C,hC⟩:=bD R h;obtain⟨T,_,_,_,_,q⟩:=dG R;exact⟨C,hC,(q i C ⟨x,h,hC⟩).1.exc⟩
theorem Al {i:Nat}(h:eQ K i C):Bo K C "TintError":=by
 obtain⟨T,h0,h1,h2,h3,q⟩:=dG R;refine⟨T,h0,?_⟩;unfold Ro;rw[Ie (by rw[h3];rfl)];show(if((Lf K T).isSome&&Kt K (.ref T)==some (.type "type"))=true then ID K (.ref C) (.ref T) else none)=some true;rw[Ie (by rw[h2,show(Lf K T).isSome=true from h1];rfl)];exact(q i C h).2.1
theorem cL {i j:Nat}(h:eQ K i C)(g:eQ K j D):Jx K (.ref C) (.ref D)=some (i==j):=by
 obtain⟨T,h0,h1,h2,h3,q⟩:=dG R;obtain⟨e1,_,_,e4⟩:=q i C h;obtain⟨f1,_⟩:=q j D g;have s:=e4 j D g;unfold Jx
 by_cases z:(Ht C==Ht D)=true
 ·rw[Ie z];have z:=Ry (Jh.mp z);subst z;rw[e4 i C h] at s;rw[<- s,L4]
 ·rw[Hu z];show(if((Lf K D).isSome&&Kt K (.ref D)==some (.type "type"))=true then ID K (.ref C) (.ref D) else none)=_;rw[Ie (by rw[f1.typ,show(Lf K D).isSome=true from f1.cls];rfl)];exact s
theorem yk {i:Nat}{C T:G7}(h:eQ K i C)(g:bt K "TintError" T):Jx K (.ref C) (.ref T)=some true:=by
 obtain⟨T',h0,h1,h2,h3,q⟩:=dG R;have e:T'=T:=by
  have z:=(cn h0).symm.trans (cn g);exact GN z
 subst e;unfold Jx
 by_cases z:(Ht C==Ht T')=true
 ·rw[Ie z]
 ·rw[Hu z];show(if((Lf K T').isSome&&Kt K (.ref T')==some (.type "type"))=true then ID K (.ref C) (.ref T') else none)=_;rw[Ie (by rw[h2,show(Lf K T').isSome=true from h1];rfl)];exact(q i C h).2.1
theorem wH {i:Nat}(h:eQ K i C):Jx K (.ref C) (.type "ValueError")=some true:=by
 obtain⟨T',h0,h1,h2,h3,q⟩:=dG R;unfold Jx;rw[Hu (λz=>by cases Jh.mp z)];show(if Rg "ValueError"=true then ID K (.ref C) (.type "ValueError") else none)=_;rw[Ie (by decide +kernel)];exact(q i C h).2.2.1
end
section
variable {prog:Hv}{w:IN}{A:IR}{E:GH->GJ->Prop}{s:GJ}{K:GB}{e C:G7}
theorem vH (l1:JM M h (QM tp name) (some a)) (l2:JM M h (specialOf a "__get__") (some g)) (l3:JM M h (QQ a) true) :
  JM M h (Rv self tp name) (.bind g a):=
 l1.andThen (Pb (show JM M h (Rp (some a)) (some g) from l2) (Pb (show JM M h (P_ (some a) (some g)) (some (g,a)) from l3.andThen .now) (PySem.W.Looks.tag .now)))
theorem z9 (ex:Ex K C) (X:K.In s.heap) (ty:JM (Hl prog w) s.heap (typeOf (.ref e)) (.ref C)) (h:R (.ok (.ret (.ref C))) s) :
  Ky (Hl prog w) A (.call (.builtin "getset_descriptor.__get__") ⟨[.builtin "object.__class__",.ref e,tp],[]⟩) R s:=by
 obtain⟨hh,g,dr,t,os⟩:=s;have L1:=P4 (M:=Hl prog w) X ex.obj;have L0:=ty;refine KQ Qh.plain PySem.W.KF.entry_gs (Qh.check _ _ _ _ _ _ _ _ PySem.W.KF.type_class (PySem.W.KF.args_gs _ _ _) ?_);unfold Kp.«getset_descriptor.__get__» P';rw[PySem.W.dga_obj];refine Gz (GD ?_);unfold Pz Op Os Nl;simp only[PySem.W.KF.owner_class]
 repeat lk
 refine⟨Qa _ (by decide +kernel),Ke PySem.W.KF.entry_class ?_⟩
 (unfold Kp.«object.__class__»;unfold shownTypeOf)
 repeat lk
 exact h
theorem v8 (ex:Ex K C) (X:K.In s.heap) (ty:∀ M:Model,JM M s.heap (typeOf (.ref e)) (.ref C)) (h:Q (some (.ref C)) { s with toks:=s.toks + 1 }) :
  GW (Hl prog w) A (getAttr? (.ref e) "__class__") Q E s:=by
 obtain⟨hh,g,d,t,os⟩:=s;have L0:=ty (Hl prog w);have La:=KP (M:=Hl prog w) X ex.ga;have Lb:=KP (M:=Hl prog w) X ex.gn;have Lc:=vH (self:=.ref e) (KP (M:=Hl prog w) X ex.gc) (PySem.W.looks_specialIn X ex.get) (PySem.W.looks_takesIn X ex.tks);have Lo:=P4 (M:=Hl prog w) X ex.bex;have Li:JM (Hl prog w) hh (Nl (.ref e) (.type "BaseException")) true:=L0.andThen Lo;unfold getAttr? getAttrBy? getAttrBy;refine Gz (wpAny_mkText (Gz (J_ (Ij (Gz (L0.at (Gz (La.at ?_))))))));have n1:(Value.builtin "BaseException.__getattribute__"==Value.builtin "object.__getattribute__")=false:=by decide +kernel
 dsimp only;rw[n1,NS,Hu Hn];unfold getAttrByItsOwn;refine Gz ((show JM (Hl prog w) hh (hookBefore (.ref C)) none from Lb).at ?_);refine Gz (J_ (Ij ?_));unfold callGetattribute;rw[JH,Hu Hn];unfold boundAndCalled;refine Gz (L_ (Ox.ga.bind _) ?_);have bk:builtinKind "BaseException.__getattribute__"=some .slot:=by decide +kernel
 have sid:splitId "BaseException.__getattribute__"=some ("BaseException","__getattribute__"):=by decide +kernel
 refine Mf ?_;refine KQ Ox.ga.plain PySem.F.entry_bexc_ga ?_;have ha:argsOk "BaseException.__getattribute__" ⟨[.ref e,.str "__class__" t],[]⟩:=PySem.F.args_bexc_ga _ _;show GW _ _ (checkBuiltinCall "BaseException.__getattribute__" ⟨[.ref e,.str "__class__" t],[]⟩) _ _ _;refine @NO (Hl prog w) A.in1 _ ⟨hh,g,d,t+1,os⟩ "BaseException.__getattribute__" "BaseException" "__getattribute__" (.ref e) [.str "__class__" t] [] _ bk sid Li ha ?_;unfold Kp.«object.__getattribute__»;refine Gz (GD ?_);refine Gz (GD ?_);refine Gz (L0.at (Gz (Lc.at ?_)));show GW _ _ (NT _ _ _ _) _ _ _;unfold NT;refine Gz (Ij (Mf (z9 ex X L0 ?_)));refine GD ?_;exact PySem.W.handed_on rfl (GD h)
theorem zk (ex:Ex K C):PySem.W.KitX K (.ref e) (.ref C) (λh=>∃ oe,h.get? e=some oe/\oe.cls=.ref C) where
 ty:=λ_ _ _ ⟨o,h1,h2⟩=>h2▸(OO h1).andThen .now
 it:=λ_ _ X _=>by
  have z:PySem.W.kitCls K (.ref C) (.ref C)=some true:=by
   show(if((Lf K C).isSome&&Kt K (.ref C)==some (.type "type"))=true then ID K (.ref C) (.ref C) else none)=_;rw[Ie (by rw[ex.typ,show(Lf K C).isSome=true from ex.cls];rfl)];exact ex.slf
  exact(PySem.W.kit_cls X z).2.1
 ne:=λh tp dd its n sl X htp=>by
  refine MG.mpr λq=>?_
  have q:=Ry (Jh.mp q);subst q;obtain⟨o,ho,hc⟩:=Hj.mp ex.typ;have z:=(X _ _ ho).symm.trans htp;cases z;exact absurd (Value.type.inj hc) (by decide)
 ca:=λX ⟨o,h1,h2⟩ k=>v8 ex X (λM=>h2▸(OO h1).andThen .now) k
end
theorem nr:IM "ValueError"=some (.type "ValueError"):=by decide +kernel
section
variable {X:Cx}{K:GB}
def Ge (D:V)(d:GH):Prop:=(∃ a,D=.ref a/\d=.ref a)\/∃ T,D=.ty T/\d=.type T
def F5 (K:GB):List V->Hp->VK->Prop:=λxs H Q=>∃ (e C:G7) (D:V) (d:GH) (b:Bool),xs=[.ref e,D]/\H e=some (rh e C)/\Ex K C/\Ge D d/\Jx K (.ref C) d=some b/\Q (.bl b) H
theorem eV (hK:X.K=K):br X (.builtin "isinstance") (F5 K):=by
 subst hK;intro pins s σ H xs us Q I r h;obtain⟨e,C,D,d,b,rfl,hH,ex,hD,hb,q⟩:=h;obtain⟨u,v,rfl,ru,rv⟩:=jy r;cases(show u=Ht e from ru);have ev:v=d:=by
  rcases hD with ⟨a,rfl,rfl⟩|⟨T,rfl,rfl⟩
  ·exact rv
  ·exact rv
 subst ev;obtain⟨⟨oe,vs,h1,h2,_⟩,_⟩:=(show bc X.prog X.w H s.heap e (rh e C) from I.hok e _ hH)
 exact Pe (zk ex) I.kIn ⟨oe,h1,h2⟩ hb (λz=>nomatch z) λtk=>⟨.bl b,H,I.tok tk,rfl,q⟩
def F6 (K:GB)(x:Str):TE:=λ_ H Q=>∀ D,bt K x D->Q (.ref D) H
theorem bJ (hK:X.K=K)(hg:Gl X x)(hx:∃ D,bt K x D)(hd:(x==("__debug__":Str))=false:=by decide):WE X (.Name x pos) (F6 K x):=by
 refine⟨?_⟩;subst hK;intro pins s σ H Q I h;obtain⟨D,hD⟩:=hx;exact eM I hg (J' I.ok.mod.kin I.ok.mod.glob hD) ⟨.ref D,H,I,rfl,h D hD⟩ hd
theorem nS:∀ {xs:List V}{us:List GH},aI xs us->xs.all fO=true->us.countP (Dk y)=xs.countP (λz=>eqV z y)
 |_,_,.nil,_=>rfl
 |z::xs,u::us,.cons r t,f=>by
  rw[K_,G6] at f;rw[List.countP_cons,List.countP_cons,sS r f.1,nS t f.2]
def Cz:V->List V->Hp->VK->Prop:=λx vs H Q=>∃ l xs y,x=.ref l/\vs=[y]/\H l=some (.lst xs)/\fO y=true/\xs.all fO=true/\Q (.int (xs.countP (λz=>eqV z y))) H
theorem y_:Fi X "list.count" Cz:=by
 intro pins s σ H x vs v us Q I rx rv h;obtain⟨l,xs,y,rfl,rfl,hH,fy,fx,q⟩:=h;cases(show v=Ht l from rx);obtain⟨u,rfl,ru⟩:=rv.one;obtain⟨z,its,n,r,hl,e⟩:=I.lstM hH;refine Md Oz ⟨_,e,rfl⟩ PySem.F.entry_list_count (PySem.F.args_list_count_2 _ _) (PySem.SeqAt.list_countAt l its.toArray n none #[] u (Dk y)) ⟨e,λa ha=>lK ru fy r fx a (by simpa using ha),?_⟩;rw[show its.toArray.toList=its from rfl,nS r fx];exact⟨.int _,H,I.tok _,⟨_,rfl⟩,q⟩
def CZ:V->List V->Hp->VK->Prop:=λx vs H Q=>∃ l xs y,∃ j:Nat,x=.ref l/\vs=[y]/\H l=some (.lst xs)/\fO y=true/\xs.all fO=true/\xs.length<=1000/\(∃ a,xs[j]?=some a/\eqV a y=true)/\(∀ m a,m<j->xs[m]?=some a->eqV a y=false)/\Q (.int j) H
theorem wP:Fi X "list.index" CZ:=by
 intro pins s σ H x vs v us Q I rx rv h;obtain⟨l,xs,y,j,rfl,rfl,hH,fy,fx,hlen,⟨a,ha,hit⟩,hno,q⟩:=h;cases(show v=Ht l from rx);obtain⟨u,rfl,ru⟩:=rv.one;obtain⟨z,its,n,r,hl,e⟩:=I.lstM hH;have at':∀ (m:Nat) (hm:m<its.toArray.size),∃ c,xs[m]?=some c/\Dk y its.toArray[m]=eqV c y:=λm hm=>by
  have hm2:m<its.length:=by simpa using hm
  have hx:m<xs.length:=by rw[r.length];exact hm2
  obtain⟨w,h1,h2⟩:=r.get (i:=m) (x:=xs[m]) (GF hx);refine⟨xs[m],GF hx,?_⟩;have hw:its[m]=w:=by
   rw[GF hm2] at h1;exact GN h1
  have hf:fO xs[m]=true:=Hz.mp fx _ (KB hx);rw[List.getElem_toArray,hw];exact sS h2 hf
 have hj:j<its.toArray.size:=by
  have:=(GU.mp ha).1;rw[r.length] at this
  simpa using this
 refine Md OA ⟨_,e,rfl⟩ PySem.F.entry_list_index (PySem.F.args_list_index_2 _ _) (PySem.SeqAt.list_indexAt l its.toArray n none #[] u (Dk y) j hj (by have:=(GU.mp ha).1;lia) ?_ ?_) ⟨e,λa ha=>lK ru fy r fx a (by simpa using ha),?_⟩
 ·obtain⟨c,c1,c2⟩:=at' j hj;rw[ha] at c1;cases c1;rw[c2];exact hit
 ·intro m hm hlt;obtain⟨c,c1,c2⟩:=at' m hm;rw[c2];exact hno m c hlt c1
 ·exact⟨.int _,H,I.tok _,⟨_,rfl⟩,q⟩
end
def Rz (K:GB)(i:Nat)(H:Hp)(E:XK):Prop:=∀ C H',eQ K i C->ah H H'->E (.ref C) none H'
section
variable {K:GB}{i:Nat}{H H1:Hp}{E:XK}{σ:L2.St}
theorem Rz.out (h:Rz K i H E)(s:ah H H1):Rz K i H1 (qU (λ_ C H'=>E (.ref C) none H') σ):=λC H' k s'=>⟨C,rfl,h C H' k (s.trans s')⟩
theorem Rz.now (h:Rz K i H E)(s:ah H H1)(hx:c_[i]?=some x):∀ C,bt K x C->E (.ref C) none H1:=λC hC=>h C H1 ⟨x,hx,hC⟩ s
theorem Rz.caught {j:Nat}(R:wk K=true)(h:∀ C H' e,eQ K i C->ah H H'->H' e=none->th (oO j D) (σ.set j (some (.ref e))) (upd H' e (rh e C))):Rz K i H (qU (BU K "TintError" j th D) σ):=
 λC H' k s=>⟨C,rfl,Al R k,λe he=>h C H' e k s he⟩
end
def Ei (K:GB)(H:Hp)(i:Nat)(v:V):Prop:=∃ e C,v=.ref e/\eQ K i C/\H e=some (rh e C)
def j5 (l m:Int):Il->Bool
 |.int i=>decide (l<=i)&&decide (i<=m)
 |_=>false
def oY:Il->Int
 |.int i=>i
 |_=>0
theorem pA {l m:Int}(h:j5 l m d=true):d=.int (oY d)/\l<=oY d/\oY d<=m:=by
 cases d with
 |int i=>
  have h:(decide (l<=i)&&decide (i<=m))=true:=h;simp only[G6,Io] at h;exact⟨rfl,h.1,h.2⟩
 |_=>cases h
theorem FN (h:ds.length=3):∃ a b c,ds=[a,b,c]:=by
 match ds,h with
 |[a,b,c],_=>exact⟨a,b,c,rfl⟩
theorem aE.at {K:GB}{H:Hp}{i:Nat}{d:Il}{x:V}{ds:List Il}{xs:List V}(h:aE K H ds xs)(e1:ds[i]?=some d)(e2:xs[i]?=some x):aW K H d x:=by
 obtain⟨d',h1,h2⟩:=h.get e2;rw[e1] at h1;cases h1;exact h2
section
variable {K:GB}{t r p:G7}{H0 H:Hp}{xs ys:List V}{ds es:List Il}
theorem Cb {k:Int}{n:Nat}(hk:k=n)(hn:n<=1000)(h:H p=some (.lst [v]))(q:∀ l,H l=none->Q (.ref l) (upd H l (.lst (GY n v)))):CT (.ref p) (.int k) H Q:=by
 subst hk;refine⟨p,_,_,rfl,rfl,h,by lia,by lia,?_,λl hl=>?_⟩
 ·show 1*((n:Int)).toNat<=GZ;have:(1000:Nat)<=GZ:=by decide
  lia
 ·have e:(GY ((n:Int)).toNat [v]).flatten=GY n v:=by
   rw[IA];clear hn q
   induction n with
   |zero=>rfl
   |succ n ih=>rw[JW,LK,ih];rfl
  rw[e];exact q l hl
theorem AH {k:Int}{n:Nat}(hk:k=n)(hn:n<=1000)(h:H p=some (.lst [v]))(q:∀ l,H l=none->Q (.ref l) (upd H l (.lst (GY n v)))):tC (.int k) σ H λy H2=>CT (.ref p) y H2 Q:=Cb hk hn h q
end
theorem A1 (z:Rat):shB (rD z)=true:=(show Ok (z.num.natAbs+z.den) z.num z.den from⟨by have:=z.den_pos;lia,z.reduced,by unfold Sm;exact G8 (P1) (LQ (by decide) (JR _ _)),by unfold Sm;exact G8 (P1) (LQ (by decide) (Nat.le_add_left _ _))⟩).shB
def ig (K:GB)(x:Str)(fs:List Str):Bool:=(f7 K x).any λC=>LZ K C Qq&&MO K C&&Oj K C&&Hw K (.ref C) "__setattr__"==some (some (.builtin "object.__setattr__")) &&
 Nx K C&&IK K (.ref C)&&fs.all λf=>Hw K (.ref C) f==some none
structure Fn (K:GB)(x:Str)(fs:List Str)(C:G7):Prop where
 at_:bt K x C
 cls:Cg K C
 makes:Nx K C=true
 kp:IK K (.ref C)=true
 no:∀ f∈fs,lP K C f
theorem jY {K:GB}{x:Str}{fs:List Str}(h:ig K x fs=true):∃ C,Fn K x fs C:=by
 unfold ig at h;obtain⟨C,e,q⟩:=bR h;simp only[G6,Jh,Hz] at q;obtain⟨⟨⟨⟨⟨⟨a,b⟩,c⟩,d⟩,m⟩,k⟩,n⟩:=q;exact⟨C,l4 e,⟨a,b,c,d⟩,m,k,λf hf=>Jh.mp (by simpa using n f hf)⟩
theorem bw {K:GB}{x:Str}{C D:G7}(h:bt K x C)(g:bt K x D):C=D:=GN ((cn h).symm.trans (cn g))
section
variable {X:Cx}{K:GB}{o e value:JG}{f x:Str}{fs0:List Str}{pos pos':Pos}{ta tv:TE}
inductive Gg (K:GB)(x f:Str)(v:V)(H:Hp)(Q:VK):Prop
 |mk (a C dx:G7) (fs:List (Str×V)) (w:V) (_:v=.ref a) (_:bt K x C) (_:H a=some (.ins C dx fs)) (_:fs.lookup f=some w) (_:Q w H)
def El (K:GB)(x:Str)(ta:TE)(f:Str):TE:=λσ H Q=>ta σ H λv H1=>Gg K x f v H1 Q
theorem dJ (hK:X.K=K)(hc:ig K x fs0=true)(hf:f∈fs0)(he:WE X e ta)(hb:Mx e f X.env (KH e X.env)=KH e X.env:=by rfl):WE X (.Attribute e f pos) (El K x ta f):=by
 have he:=he.go;refine⟨?_⟩;subst hK;obtain⟨D,cf⟩:=jY hc;intro pins s σ H Q I h;refine AN hb (bf (he pins s σ H _ I h) λu s1 ⟨v,H1,I1,rv,a,C,dx,fs,w,ev,ec,ea,l,q⟩=>?_);subst ev;cases bw ec cf.at_;obtain rfl:u=Ht a:=rv;exact tG I1 ea cf.cls (cf.no f hf) l λu' s2 I2 ru=>⟨w,H1,I2,ru,q⟩
def EO (K:GB)(x:Str)(ta tv:TE)(f:Str):TS:=λD σ H=>tv σ H λy H1=>ta σ H1 λv H2=>∃ a C dx fs,v=.ref a/\bt K x C/\H2 a=some (.ins C dx fs)/\fs.length<1000 /\
 D.nx σ (upd H2 a (.ins C dx (dC f y fs)))
theorem mj (hK:X.K=K) (hc:ig K x fs0=true) (hf:f ∈ fs0) (ha:WE X o ta) (hv:WE X value tv) (hs:NF value (some (.Attribute o f pos')) pos.line X.env=pure false:=by rfl) :
  WS X (.Assign [.Attribute o f pos'] value pos) (EO K x ta tv f):=by
 have ha:=ha.go;have hv:=hv.go;refine⟨?_⟩;subst hK;obtain⟨E,cf⟩:=jY hc;intro pins s σ H D I h;refine plainObj_wpAny_Assign_Attribute (bf (hv pins s σ H _ I h) λu s1 ⟨y,H1,I1,ry,q⟩=>bf (ha pins s1 σ H1 _ I1 q) λov s2 ⟨v,H2,I2,rv,a,C,dx,fs,ev,ec,ea,l,q2⟩=>?_) hs;subst ev;cases bw ec cf.at_;obtain rfl:ov=Ht a:=rv;exact tF I2 ea cf.cls (cf.no f hf) l ry λs3 I3=>⟨σ,_,I3,q2⟩
end
abbrev BG (X:Cx)(o:JG)(m:Str)(args:List JG)(pl:Sem Bool)(apos pos:Pos):Prop:=
 KH (.Call (.Attribute o m apos) args [] pos) X.env=(do let ov <- KH o X.env;QL apos.atName;let (f,first) <- holding [ov] (getMethod ov m pl);callWith pos f first (Lh pos (G9 args X.env)) (backToKw pos (P7 [] X.env)))
structure pp (P:Hv)(w:IN)(K:GB)(mg:Str->Option GH)(base:JI)(CX:jE)(k:Nat)(x m:Str)(ps:List Str)(dvs:List V)(sp:Sp):Prop where
 ex:∃ (C f:G7) (fd:KN) (ds:List GH) (fs:List Str),i9 P w K mg base CX k f fd ps sp/\Fn K x fs C/\BN K C m f/\mg x=some (.ref C)/\iD K fd ps ds/\aI dvs ds
def Bs (K:GB)(x m:Str)(sp:Sp)(dvs:List V)(E:XK)(ta:TE)(t:TA):TE:=λσ H Q=>ta σ H λv H1=>∃ a C dx fs,v=.ref a/\bt K x C/\H1 a=some (.ins C dx fs)/\fs.lookup m=none /\
 t σ H1 λvs H2=>sp (v::(vs++dvs)) H2 Q E
def DH (K:GB)(x:Str)(sp:Sp)(dvs:List V)(E:XK)(t:TA):TE:=λσ H Q=>t σ H λvs H1=>∀ C a dx,bt K x C->H1 a=none->H1 dx=none->dx≠a ->
 sp (.ref a::(vs++dvs)) (upd (upd H1 dx (.own a)) a (.ins C dx [])) (λv H2=>v=.non/\Q (.ref a) H2) E
section
variable {X:Cx}{CX:jE}{K:GB}{k:Nat}{x m:Str}{ps:List Str}{sp:Sp}{dvs:List V}{p pos apos:Pos}{o e:JG}{es:List JG}{ta:TE}{t:TA}{W:WX}
theorem lI {pl:Sem Bool} (hK:X.K=K) (hX:CU CX) (C:pp X.prog X.w X.K X.mg X.base CX k x m ps dvs sp) (hr:Room k X.A) (he:WE X o ta) (ha:WA X (e :: es) t)
  (hst:G9 (e::es) X.env=(false,KH e X.env)::G9 es X.env:=by rfl)(hpl:(Lh pos (G9 es X.env)).any (·.1)=false:=by rfl)
  (ht:BG X o m (e::es) pl apos pos:=by rfl):WE X (.Call (.Attribute o m apos) (e::es) [] pos) (Bs K x m sp dvs E0 ta t):=by
 have he:=he.go;have ha:=ha.go;refine⟨?_⟩;subst hK;obtain⟨D,f,fd,ds,fs0,F,cf,hm,_,hb,hd⟩:=C.ex;intro pins s σ H Q I h;refine Pf (pl:=pl) (bf (he pins s σ H _ I h) λu s1 ⟨v,H1,I1,rv,a,E,dx,fs,ev,ec,ea,l,q⟩=>?_) ht;subst ev;cases bw ec cf.at_;obtain rfl:u=Ht a:=rv;refine ma I1 ea cf.cls hm l ?_;refine Ls (first:=[.ref a]) (h₀:=X.base) I.ok.mod.kin hm.kp (bf (ha pos pins s1 σ H1 _ I1 q) λus s2 ⟨vs,H2,I2,r,q2⟩=>⟨I2.kIn,?_⟩) hst hpl;exact tQ (us:=.ref a::us) (vs:=.ref a::vs) F hr hb hd (uK hX) I2 (.cons rfl r) q2
theorem wE {pl:Sem Bool} (hK:X.K=K) (hX:CU CX) (C:pp X.prog X.w X.K X.mg X.base CX k x m ps dvs sp) (hr:Room k X.A) (he:WE X o ta)
  (ht:BG X o m [] pl apos pos:=by rfl):WE X (.Call (.Attribute o m apos) [] [] pos) (Bs K x m sp dvs E0 ta Bk):=by
 have he:=he.go;refine⟨?_⟩;subst hK;obtain⟨D,f,fd,ds,fs0,F,cf,hm,_,hb,hd⟩:=C.ex;intro pins s σ H Q I h;refine Pf (pl:=pl) (bf (he pins s σ H _ I h) λu s1 ⟨v,H1,I1,rv,a,E,dx,fs,ev,ec,ea,l,q⟩=>?_) ht;subst ev;cases bw ec cf.at_;obtain rfl:u=Ht a:=rv;refine ma I1 ea cf.cls hm l ?_;exact PySem.W.callWith_K0 (first:=[.ref a]) I1.kIn hm.kp (tQ (us:=[.ref a]) (vs:=[.ref a]) F hr hb hd (uK hX) I1 (.cons rfl .nil) q)
theorem ja (hK:X.K=K) (hX:CU CX) (C:pp X.prog X.w X.K X.mg X.base CX k x "__init__" ps dvs sp) (hr:Room (k + 1) X.A) (hg:Gl X x) (ha:WA X (e :: es) t) (hdb:(x == ("__debug__":Str))=false:=by decide)
  (he:G9 (e::es) X.env=(false,KH e X.env)::G9 es X.env:=by rfl)(hpl:(Lh pos (G9 es X.env)).any (·.1)=false:=by rfl):WE X (.Call (.Name x p) (e::es) [] pos) (DH K x sp dvs E0 t):=by
 have ha:=ha.go;refine⟨?_⟩;subst hK;obtain⟨D,f,fd,ds,fs0,F,cf,hm,hmg,hb,hd⟩:=C.ex;intro pins s σ H Q I h;refine Kk (eM I hg hmg ?_ hdb);refine Ls (h₀:=X.base) I.ok.mod.kin cf.kp (bf (ha pos pins s σ H _ I h) λus s1 ⟨vs,H1,I1,r,q⟩=>⟨I1.kIn,?_⟩) he hpl;exact zo ⟨cf.makes,hm.at_,hm.fn,cf.kp⟩ F hr hb hd (uK hX) I1 r λa dx h1 h2 h3=>q D a dx cf.at_ h1 h2 h3
end
structure kX (K:GB)(mg:Str->Option GH)(x m qual:Str)(st:K4)(ps:List Str)(dvs:List V):Prop where
 ex:∃ (C f:G7) (fd:KN) (oc:GH) (od:Option G7) (dV kV doc pm:GH) (an:Option G7) (cdv ct:GH) (osl:Array (Option GH)) (ds:List GH) (fs:List Str),
  fd=Ih m qual (aZ st) (aU st) (ai st) dV kV doc pm an cdv ct/\K.lookup f=some ⟨oc,od,.func fd,osl⟩/\Jb K cdv qual=true /\
  Fn K x fs C/\BN K C m f/\mg x=some (.ref C)/\iD K fd ps ds/\aI dvs ds
section
variable {P:Hv}{w:IN}{K:GB}{mg:Str->Option GH}{base:JI}{CX:jE}{x m qual:Str}{st:K4}{N ps:List Str}{dvs:List V}{k:Nat}{sp:Sp}
theorem kX.cal (F:kX K mg x m qual st ps dvs) (S:aD N ps (ai st)) (len:∀ vs H Q E,sp vs H Q E->vs.length=ps.length:=by intro _ _ _ _ h;cases h;subst_vars;rfl)
  (bb:∀ (f:G7) (cdv:GH) (A:IR) (outer:List Env) (s:GJ) (H:Hp) (vs:List V) (Q:VK) (E:XK),Room k (A.deeper (envOfC qual (ai st) s.heap.objs.size f cdv))->sp vs H Q E ->
   ∃ t,yM (lQ CX P w K mg base N qual (ai st) f cdv A outer s H E).nox (aU st) t/\t { nx:=λ_ H'=>Q .non H',rt:=Q } (gI N vs) H):pp P w K mg base CX (k+1) x m ps dvs sp:=by
 obtain⟨C,f,fd,oc,od,dV,kV,doc,pm,an,cdv,ct,osl,ds,fs,rfl,lk,hcd,cf,hm,hmg,hb,hv⟩:=F.ex;refine⟨C,f,_,ds,fs,uE lk hcd S len λA outer s H vs Q E hr hsp=>?_,cf,hm,hmg,hb,hv⟩;obtain⟨t,h,q⟩:=bb f cdv A outer s H vs Q E hr hsp;exact⟨t,h.nox,q⟩
theorem A4 {fs:List Str}{C f:G7}{oc:GH}{od an:Option G7}{osl:Array (Option GH)}{kV doc pm cdv ct:GH} (l:K.lookup f=some ⟨oc,od,.func (Ih m qual (aZ st) (aU st) (ai st) .none kV doc pm an cdv ct),osl⟩)
  (c:Jb K cdv qual=true)(kp:IK K (.ref f)=true)(fn:M4 K (.ref f)=true)(a:Ho K G4 x=some (some (.ref C)))(b:Hw K (.ref C) m=some (some (.ref f)))(hc:ig K x fs=true)(g:mg x=some (.ref C))
  (h:∀ us:List GH,us.length=ps.length->Kr (Ih m qual (aZ st) (aU st) (ai st) .none kV doc pm an cdv ct) ⟨us,[]⟩=pure (ps.zip us)):kX K mg x m qual st ps []:=by
 obtain⟨D,cf⟩:=jY hc;cases bw cf.at_ a;exact⟨_,f,_,oc,od,.none,kV,doc,pm,an,cdv,ct,osl,[],fs,rfl,l,c,cf,⟨b,fn,kp⟩,g,.all h,.nil⟩
end
abbrev Pt:=Int×Int
def h_ (p:Pt):Il:=.tuple [.int p.1,.int p.2]
def pq (ps:List Pt):Il:=.list (ps.map h_)
structure Pt.In (p:Pt):Prop where
 a1:0<=p.1
 a2:p.1<=1000
 b1:0<=p.2
 b2:p.2<=1000
structure pM (ps:List Pt):Prop where
 two:2<=ps.length
 few:ps.length<=12
 zero:∀ p,ps[0]?=some p->p.1=0
 inn:∀ p∈ps,p.In
 up:∀ (i:Nat) (p q:Pt),ps[i]?=some p->ps[i+1]?=some q->p.1<q.1/\p.2<=q.2
def EY (p q:Pt)(a:Rat):Rat:=(p.2:Rat)+((q.2:Rat)-(p.2:Rat))*(a-(p.1:Rat))/((q.1:Rat)-(p.1:Rat))
structure vq (ps:List Pt)(a:Rat)(k:Nat)(p q:Pt):Prop where
 lo:ps[k]?=some p
 hi:ps[k+1]?=some q
 gt:k=0\/(p.1:Rat)<a
 le:a<=(q.1:Rat)
def Fc (ps:List Pt)(a v:Rat):Prop:=∃ k p q,vq ps a k p q/\v=EY p q a
theorem pM.mono (h:pM ps):∀ (d i:Nat) (p q:Pt),ps[i]?=some p->ps[i+d]?=some q->p.1<=q.1/\p.2<=q.2/\(0<d->p.1<q.1)
 |0,i,p,q,e1,e2=>by
  rw[Nat.add_zero,e1] at e2;cases e2;exact⟨Int.le_refl _,Int.le_refl _,λz=>absurd z (by decide)⟩
 |d+1,i,p,q,e1,e2=>by
  have hlt:i+d<ps.length:=by have:=(GU.mp e2).1;lia
  have e3:ps[i+d]?=some ps[i+d]:=GF hlt;obtain⟨a,b,_⟩:=pM.mono h d i p _ e1 e3;obtain⟨c,e⟩:=h.up (i+d) _ q e3 (by rw[Nat.add_assoc];exact e2);exact⟨by lia,by lia,λ_=>by lia⟩
theorem wd (h:pM ps){a:Rat}{k j:Nat}(x:vq ps a k p q)(y:vq ps a j r s):p=r/\q=s:=by
 have go:∀ {k j:Nat}{p q r s:Pt},vq ps a k p q->vq ps a j r s->¬ k<j:=λ{k j p q r s} x y lt=>by
  obtain⟨d,rfl⟩:∃ d,j=k+1+d:=⟨j-(k+1),by lia⟩
  obtain⟨m,_⟩:=h.mono d (k+1) q r x.hi y.lo;rcases y.gt with z|z
  ·lia
  ·have e:(q.1:Rat)<=(r.1:Rat):=by exact_mod_cast m
   have:=x.le;grind
 have e:k=j:=by
  have:=go x y;have:=go y x;lia
 subst e;have e1:=x.lo.symm.trans y.lo;have e2:=x.hi.symm.trans y.hi;exact⟨GN e1,GN e2⟩
theorem yL (h:pM ps){a v w:Rat}(x:Fc ps a v)(y:Fc ps a w):v=w:=by
 obtain⟨k,p,q,s,rfl⟩:=x;obtain⟨j,r,t,u,rfl⟩:=y;obtain⟨rfl,rfl⟩:=wd h s u;rfl
section
variable {K:GB}{g:TG}{tt:TT}{te:TE}{σ0:L2.St}{Fin:List V->Hp->Prop}{H1:Hp}
theorem oz (h1:cq K H1 a1 xs b1) (h2:cq K H1 a2 ys b2) (hds:aE K H1 ds xs) (hes:aE K H1 es ys) (hle:es.length <= ds.length) (hlf:fs.length=es.length) (hl:ds.length <= 1000)
  (he:∀ (i:Nat) (d e f:Il) (x y:V) (T:G7) (H:Hp),ds[i]?=some d->es[i]?=some e->fs[i]?=some f->ah H1 H->aW K H d x->aW K H e y->H T=some (.tup [x,y])->j_ g tt te σ0 (.ref T) H λz H'=>ah H H'/\aW K H' f z)
  (hd:∀ zs H,ah H1 H->aE K H fs zs->Fin zs H):dO (E7 K b1 b2 a1 a2) g tt te σ0 Fin H1:=by
 have hlen:=hds.length;have hlen2:=hes.length;refine⟨λi m zs H=>m=ys.length-i/\i<=ys.length/\ah H1 H/\aE K H (fs.take i) zs,⟨ys.length,by lia,Iz _,ah.refl _,.nil⟩,?_⟩;rintro i m zs H ⟨rfl,hi,s,hzs⟩;have hyl:=hzs.length;rw[Ib] at hyl
 by_cases hlt2:i<ys.length
 ·have hlt:i<xs.length:=by lia
  refine .inr ⟨⟨xs,ys,xs[i],ys[i],cq.same s h1,cq.same s h2,by simp[hlt],by simp[hlt2]⟩,bL (by lia),λv H3 y3=>?_⟩;obtain⟨x,y,T,k1,k2,kT,rfl,rfl⟩:=y3;have hx:=k1 xs (cq.same s h1);have hy:=k2 ys (cq.same s h2);obtain⟨d,hdd,hdx⟩:=hds.get hx;obtain⟨e,hee,hey⟩:=hes.get hy;have hff:fs[i]?=some fs[i]:=by simp[show i<fs.length by lia]
  have sT:ah H (upd H T (.tup [x,y])):=ah.new kT;have sA:=s.trans sT;refine he i d e fs[i] x y T _ hdd hee hff sA (aW.same sA hdx) (aW.same sA hey) af _ (λz H' ⟨s',hz⟩=>⟨ys.length-(i+1),by lia,rfl,hlt2,sA.trans s',?_⟩) λH5=>∃ m',m'<ys.length-i/\(m'=ys.length-(i+1)/\i+1<=ys.length/\ah H1 H5/\aE K H5 (fs.take (i+1)) zs)
  rw[cC hff];exact(aE.same s' (aE.same sT hzs)).snoc hz
 ·have e:i=ys.length:=by lia
  subst e;rw[IE (by lia)] at hzs;exact .inl ⟨⟨xs,ys,cq.same s h1,cq.same s h2,.inr (GM _)⟩,cP (by lia),hd zs H s hzs⟩
end
theorem rd (xs:List V)(h:1<=xs.length):ni xs (some 1) none=xs.drop 1:=by
 unfold ni;have e1:HT.sIx xs.length 0 (some 1)=1:=by
  simp[HT.sIx]
  try lia
 have e2:HT.sIx xs.length xs.length none=xs.length:=by simp[HT.sIx]
 rw[e1,e2];exact IE (by rw[Km];exact GM _)
theorem aE.drop {K:GB}{H:Hp}:∀ (n:Nat) {ds:List Il}{xs:List V},aE K H ds xs->aE K H (ds.drop n) (xs.drop n)
 |0,_,_,h=>h
 |_+1,_,_,.nil=>.nil
 |n+1,_,_,.cons _ t=>aE.drop n t
theorem je {K:GB}{H:Hp}{ps:List Pt}{xs:List V}{k:Nat}{p:Pt}(h:aE K H (ps.map h_) xs)(e:ps[k]?=some p):∃ v,xs[k]?=some v/\aW K H (h_ p) v:=by
 have hl:=h.length;rw[GG] at hl;have hk:k<xs.length:=by have:=(GU.mp e).1;lia
 have e1:xs[k]?=some xs[k]:=GF hk;refine⟨_,e1,h.at ?_ e1⟩;rw[GQ,e];rfl
def tZ (K:GB)(H:Hp)(ps:List Pt)(v:V):Prop:=∃ (a C dx l:G7),v=.ref a/\bt K "Curve" C/\H a=some (.ins C dx [("points",.ref l)])/\aW K H (pq ps) (.ref l)
theorem mO (h:xs.getLast?=some v):zm xs (-1)=some v:=by
 rw[Ja] at h;have hl:0<xs.length:=by
  cases xs with
  |nil=>simp at h
  |cons _ _=>simp
 unfold zm;have e:wz xs.length (-1)=some (xs.length-1):=by
  unfold wz;simp;lia
 rw[e];exact h
theorem qC {K:GB}{H:Hp}{ps:List Pt}{xs:List V}{z:Pt}(h:aE K H (ps.map h_) xs)(e:ps.getLast?=some z):∃ v,xs.getLast?=some v/\aW K H (h_ z) v:=by
 rw[Ja] at e;obtain⟨v,h1,h2⟩:=je h e;refine⟨v,?_,h2⟩;rw[Ja,<- h.length,GG];exact h1
theorem BX {a:Rat}(h:p.1<q.1):EY p q a=((p.2*(q.1-p.1)*(a.den:Int)+(a.num-p.1*(a.den:Int))*(q.2-p.2):Int):Rat)/(((q.1-p.1)*(a.den:Int):Int):Rat):=by
 have h1:((q.1:Rat)-(p.1:Rat))≠0:=λz=>by
  have e:((q.1-p.1:Int):Rat)=((0:Int):Rat):=by rw[NA];exact z
  have e:q.1-p.1=0:=by exact_mod_cast e
  lia
 have h2:=CK a;have ea:=xC a;unfold EY;rw[Rat.intCast_add,LD,LD,LD,LD,NA,NA,NA,LD];generalize ((a.den:Int):Rat)=d at *;generalize (a.num:Rat)=n at *;generalize (p.1:Rat)=p1 at *;generalize (p.2:Rat)=p2 at *;generalize (q.1:Rat)=q1 at *;generalize (q.2:Rat)=q2 at *;subst ea;grind
def uD:List String:=["NoneType","bool","int","str","list","tuple","dict"]
def Dn (K:GB)(x:Str):Bool:=(f7 K x).any λC=>Hw K (.ref C) "__class__"==some (some (.builtin "object.__class__"))&&MP K (.builtin "object.__class__") "__get__"==some (some (.builtin "getset_descriptor.__get__")) &&
 Nz K (.builtin "object.__class__")==some true&&Mu K C (.type "object")==some true&&uD.all λT=>Jx K (.type T) (.ref C)==some false
def Ff (K:GB)(x:Str):List V->Hp->VK->Prop:=λxs H Q=>∃ v C,xs=[v,.ref C]/\bt K x C/\((∃ a dx fs,v=.ref a/\H a=some (.ins C dx fs)/\Q (.bl true) H)\/∃ T,Ty K H v T/\T∈uD/\Q (.bl false) H)
theorem u6 {X:Cx}{K:GB}{x:Str}{fs0:List Str}(hK:X.K=K)(hc:ig K x fs0=true)(hi:Dn K x=true):br X (.builtin "isinstance") (Ff K x):=by
 subst hK;intro pins s σ H xs us Q I r h;obtain⟨v,C,rfl,hC,h⟩:=h;obtain⟨u,w,rfl,rx,rw'⟩:=jy r;cases(show w=Ht C from rw');obtain⟨D,cf⟩:=jY hc;cases bw hC cf.at_;obtain⟨E,e,q⟩:=bR hi;rw[cn hC] at e;cases e;simp only[G6,Jh,Hz] at q;obtain⟨⟨⟨⟨q1,q2⟩,q3⟩,q4⟩,q5⟩:=q;rcases h with ⟨a,dx,fs,rfl,ha,h⟩|⟨T,ty,ht,h⟩
 ·exact gU I rx (.ins ha cf.cls q1 q2 q3 q4) (by unfold Jx;rw[Ie (L4 _)]) λtk=>⟨.bl true,H,I.tok tk,rfl,h⟩
 ·exact gU I rx ty (q5 T ht) λtk=>⟨.bl false,H,I.tok tk,rfl,h⟩
theorem gN {K:GB}{x:Str}{fs:List Str}(h:ig K x fs=true):∃ C,bt K x C:=by
 obtain⟨C,cf⟩:=jY h;exact⟨C,cf.at_⟩
section
variable {X:Cx}{K:GB}
theorem Dr (r:aI [x,y,z] us):∃ u v w,us=[u,v,w]/\RelV x u/\RelV y v/\RelV z w:=by
 cases r with
 |cons a r=>
  obtain⟨u,v,rfl,b,c⟩:=jy r;exact⟨_,u,v,rfl,a,b,c⟩
end
structure En where
 w:R3
 b:R3
structure En.In (e:En):Prop where
 a0:0<=e.b.a
 a1:e.b.a<e.w.a
 a2:e.w.a<=1000
 b0:0<=e.b.b
 b1:e.b.b<e.w.b
 b2:e.w.b<=1000
 c0:0<=e.b.c
 c1:e.b.c<e.w.c
 c2:e.w.c<=1000
theorem Cm (n:Int):rD (n:Rat)=Bw n 1:=by
 show Bw (n:Rat).num ((n:Rat).den:Int)=_;rw[Pj,Ph];rfl
theorem yx (n:Int):((n:Int):Rat)/((1:Int):Rat)=(n:Rat):=by
 have:((1:Int):Rat)=1:=rfl;rw[this];grind
theorem wT {k:Nat}{n:Int}(h:Sm k n)(hk:0<k):Bq k (n:Rat):=by
 have e:=yx n;rw[<- e];refine BI (by decide) h ?_;unfold Sm;have:=Nat.one_lt_two_pow (n:=k) (by lia)
 simpa using this
theorem Eh {n:Int}(h0:-1000<=n)(h:n<=1000):Sm 10 n:=by unfold Sm;lia
def Fb (b w:Int)(q:Rat):Bool:=decide (b*(q.den:Int)<=q.num)&&decide (q.num<=w*(q.den:Int))
def En.has (e:En)(c:Q3):Bool:=Fb e.b.a e.w.a c.a&&(Fb e.b.b e.w.b c.b&&(Fb e.b.c e.w.c c.c&&true))
theorem CJ {n:Int}(h:n≠0):(n:Rat)≠0:=λz=>h (Rat.intCast_eq_zero_iff.mp z)
def R3.col (r:R3):Q3:=⟨(r.a:Rat),(r.b:Rat),(r.c:Rat)⟩
theorem bI.mvL (m:Mv [L] G H')(n:L∉[t,r])(h:bI G t r):bI H' t r:=by
 obtain⟨cells,k,h1,h2,h3,h4⟩:=h;simp only[GR,Hq,Js,not_or] at n;exact⟨cells,k,m _ _ h1 (by simp[Jj n.1]),m _ _ h2 (by simp[Jj n.2]),h3,h4⟩
theorem oF {K:GB}{H:Hp}:∀ ns:List Int,aE K H (ns.map IG) (ns.map V.int)
 |[]=>.nil
 |_::ns=>.cons (.int _) (oF ns)
section
variable {K:GB}{g:TG}{tt:TT}{te:TE}{σ0:L2.St}{Fin:List V->Hp->Prop}{H1:Hp}
theorem vJ (Pv:Nat->List V->Hp->Prop) (h0:Pv 0 [] H1) (hl:xs.length <= 1000) (hsrc:∀ i ys H,i <= xs.length->Pv i ys H->cq K H a xs b/\ys.length <= i)
  (he:∀ i x ys H,xs[i]?=some x->Pv i ys H->∀ (R:V->Hp->Prop) (S:Hp->Prop),(∀ y H',Pv (i+1) (ys++[y]) H'->R y H')->(∀ H',Pv (i+1) ys H'->S H')->g x σ0 H λσ' H4=>tt σ' H4 λc H5=>if c=true then te σ' H5 R else S H5)
  (hd:∀ ys H,Pv xs.length ys H->Fin ys H):dO (pC K a b) g tt te σ0 Fin H1:=by
 refine⟨λi m ys H=>m=xs.length-i/\i<=xs.length/\Pv i ys H,⟨xs.length,by lia,Iz _,h0⟩,?_⟩;rintro i m ys H ⟨rfl,hi,p⟩;obtain⟨hq,hyl⟩:=hsrc i ys H hi p
 by_cases hlt:i<xs.length
 ·have go:(pC K a b).go i H:=by cases b<;>exact⟨xs,xs[i],hq,by simp[hlt]⟩
  refine .inr ⟨go,bL (by lia),λx H3 y3=>?_⟩;have e3:H3=H/\xs[i]?=some x:=by cases b<;>exact⟨y3.1,y3.2 xs hq⟩
  obtain⟨rfl,hx⟩:=e3;exact he i x ys _ hx p _ _ (λy H' z=>⟨xs.length-(i+1),by lia,rfl,hlt,z⟩) (λH' z=>⟨xs.length-(i+1),by lia,rfl,hlt,z⟩)
 ·have e:i=xs.length:=by lia
  subst e;have stop:(pC K a b).stop xs.length H:=by cases b<;>exact⟨xs,hq,GM _⟩
  exact .inl ⟨stop,cP (by lia),hd ys H p⟩
end
theorem CB {K:GB}{H:Hp}{a:G7}{xs:List V}{i:Int}{j:Nat}{v:V}{Q:VK}(h:H a=some (.lst xs))(e:xs[j]?=some v)(hi:i=(j:Int))(q:Q v H):Am K (.ref a) (.int i) H Q:=
 .inl ⟨a,xs,_,v,rfl,rfl,bg.of h,by rw[hi];exact fv e,q⟩
def KT (K:GB)(a:G7)(xs:List V):Prop:=∃ (o:Obj) (its:Array GH) (n:Nat),K.lookup a=some o/\o.cls=.type "tuple"/\o.data=.seq its n/\its.size<=GZ/\aI xs its.toList
theorem KT.sq {K:GB}{H:Hp}{a:G7}{xs:List V}(h:KT K a xs):fM K H a xs:=.inr h
def yG (K:GB)(H:Hp)(d:Il)(x:V):Prop:=aW K H d x\/∃ (a:G7) (ns:List Int),x=.ref a/\d=.tuple (ns.map IG)/\KT K a (ns.map V.int)
theorem zq {K:GB}{H:Hp}{d:Il}{x:V}(h:yG K H d x):(∃ a ds xs,x=.ref a/\d=.tuple ds/\fM K H a xs/\aE K H ds xs)\/(aW K H d x/\bn (E2 d) "tuple"=some false/\∀ ds,d≠.tuple ds):=by
 rcases h with h|⟨a,ns,rfl,rfl,h⟩
 ·cases h with
  |tup h q=>exact .inl ⟨_,_,_,rfl,rfl,fM.of h,q⟩
  |non=>exact .inr ⟨.non,(show bn "NoneType" "tuple"=some false by decide +kernel),λ_ z=>nomatch z⟩
  |bl b=>exact .inr ⟨.bl b,(show bn "bool" "tuple"=some false by decide +kernel),λ_ z=>nomatch z⟩
  |int i=>exact .inr ⟨.int i,(show bn "int" "tuple"=some false by decide +kernel),λ_ z=>nomatch z⟩
  |str z=>exact .inr ⟨.str z,(show bn "str" "tuple"=some false by decide +kernel),λ_ z=>nomatch z⟩
  |lst h q=>exact .inr ⟨.lst h q,(show bn "list" "tuple"=some false by decide +kernel),λ_ z=>nomatch z⟩
  |dct h=>exact .inr ⟨.dct h,(show bn "dict" "tuple"=some false by decide +kernel),λ_ z=>nomatch z⟩
 ·exact .inl ⟨a,_,_,rfl,rfl,h.sq,oF ns⟩
def DS (K:GB):List V->Hp->VK->Prop:=λxs H Q=>CA K xs H Q\/∃ a ys,xs=[.ref a,.ty "tuple"]/\fM K H a ys/\Q (.bl true) H
theorem C5 {X:Cx}{K:GB}(hK:X.K=K):br X (.builtin "isinstance") (DS K):=by
 subst hK;intro pins s σ H xs us Q I r h;rcases h with h|⟨a,ys,rfl,ha,q⟩
 ·exact qE pins s σ H xs us Q I r h
 ·obtain⟨u,v,rfl,ru,rv⟩:=jy r;cases ru;cases(show v=Kj "tuple" from rv);obtain⟨its,_,⟨o,h1,h2,_⟩,_⟩:=I.tuple ha;exact Pe Qi I.kIn ⟨o,h1,h2⟩ (by rw[rK];show bn "tuple" "tuple"=some true;decide +kernel) (λz=>nomatch z) λtk=>⟨.bl true,H,I.tok tk,rfl,q⟩
def kG (n l m:Int):Il->Bool
 |.tuple ds=>decide ((ds.length:Int)=n)&&(ds.map (j5 l m)).all id
 |_=>false
theorem C8 {n l m:Int}(h:∀ ds,d≠.tuple ds):kG n l m d=false:=by
 cases d<;>first|rfl|exact absurd rfl (h _)
theorem DP (h:kG 3 0 1000 d=true):∃ r:R3,d=vD false r/\(0<=r.a/\r.a<=1000)/\(0<=r.b/\r.b<=1000)/\(0<=r.c/\r.c<=1000):=by
 cases d with
 |tuple ds=>
  have h:(decide ((ds.length:Int)=3)&&(ds.map (j5 0 1000)).all id)=true:=h;rw[G6,Io] at h;obtain⟨hl,h⟩:=h;obtain⟨x,y,z,rfl⟩:=FN (show ds.length=3 by lia);have h:(j5 0 1000 x&&(j5 0 1000 y&&(j5 0 1000 z&&true)))=true:=h;simp only[G6,LJ] at h;obtain⟨h1,h2,h3⟩:=h;obtain⟨a1,a2,a3⟩:=pA h1;obtain⟨b1,b2,b3⟩:=pA h2;obtain⟨c1,c2,c3⟩:=pA h3;refine⟨⟨oY x,oY y,oY z⟩,?_,⟨a2,a3⟩,⟨b2,b3⟩,⟨c2,c3⟩⟩;show PyData.tuple [x,y,z]=.tuple [.int (oY x),.int (oY y),.int (oY z)];rw[<- a1,<- b1,<- c1]
 |_=>cases h
end TR
namespace TR
open PySem PySem.Spec PyProof.Rows
def Up (xs:List Nat):Prop:=xs.Pairwise (·<·)
theorem q_ (h:Up xs){i j:Nat}(hi:i<j)(hj:j<xs.length):xs[i]<xs[j]:=
 LU.mp h i j (by lia) hj hi
theorem yc {j:Nat} (h:Up xs.toList):∀ (f lo hi:Nat),hi <= xs.size->hi <= lo + f->lo <= hi ->
  (∀ i (w:i<xs.size),i<lo->xs[i]<j)->(∀ i (w:i<xs.size),hi<=i->j<=xs[i]) ->
  (∀ i (w:i<xs.size),i<MQ xs j f lo hi->xs[i]<j)/\(∀ i (w:i<xs.size),MQ xs j f lo hi<=i->j<=xs[i])/\MQ xs j f lo hi<=xs.size:=by
 intro f
 induction f with
 |zero=>
  intro lo hi h1 h2 h3 ha hb;have:lo=hi:=by lia
  subst this;exact⟨ha,hb,h1⟩
 |succ f ih=>
  intro lo hi h1 h2 h3 ha hb;unfold MQ
  split
  ·rename_i hlt
   have hm:(lo+hi)/2<xs.size:=by lia
   have hg:xs.getD ((lo+hi)/2) j=xs[(lo+hi)/2]:=by simp[Ps,hm]
   dsimp only;rw[hg]
   split
   ·rename_i hc
    refine ih _ _ h1 (by lia) (by lia) (λi w hi'=>?_) hb
    by_cases e:i=(lo+hi)/2
    ·subst e;exact hc
    ·have:=q_ h (i:=i) (j:=(lo+hi)/2) (by lia) (by simpa using hm);simp only[Je] at this;lia
   ·rename_i hc
    refine ih _ _ (by lia) (by lia) (by lia) ha (λi w hi'=>?_)
    by_cases e:i=(lo+hi)/2
    ·subst e;lia
    ·have:=q_ h (i:=(lo+hi)/2) (j:=i) (by lia) (by simpa using w);simp only[Je] at this;lia
  ·have:lo=hi:=by lia
   subst this;exact⟨ha,hb,h1⟩
theorem mL {j:Nat} (h:Up xs.toList) :
  (∀ i (w:i<xs.size),i<IL xs j->xs[i]<j)/\(∀ i (w:i<xs.size),IL xs j<=i->j<=xs[i])/\IL xs j<=xs.size:=by
 unfold IL;exact yc h _ _ _ (GM _) (by lia) (by lia) (λi w hi=>by lia) (λi w hi=>by lia)
theorem y4 {j:Nat}(h:Up xs.toList)(hj:(xs[IL xs j]?==some j)=false):j∉xs.toList:=by
 intro hm;obtain⟨i,hi,e⟩:=IP hm;have hi':i<xs.size:=by simpa using hi
 simp only[Je] at e;obtain⟨b1,b2,b3⟩:=mL (j:=j) h;have h1:¬ i<IL xs j:=λq=>by have:=b1 i hi' q;lia
 by_cases h2:IL xs j=i
 ·rw[h2] at hj;simp[hi',e] at hj
 ·have h3:IL xs j<xs.size:=by lia
  have:=b2 _ h3 (GM _);have:=q_ h (i:=IL xs j) (j:=i) (by lia) (by simpa using hi');simp only[Je] at this;lia
theorem re (xs:Array α)(p:Nat)(x:α):(Ol xs p x).toList=xs.toList.take p++x::xs.toList.drop p:=by
 unfold Ol;simp;exact IE (by simp)
theorem oE {j:Nat}(h:Up xs.toList)(hj:j∉xs.toList):Up (Ol xs (IL xs j) j).toList:=by
 rw[re];obtain⟨b1,b2,b3⟩:=mL (j:=j) h;unfold Up at *;rw[PH,Lr];refine⟨h.sublist (Og _ _),⟨λa ha=>?_,h.sublist (Qy _ _)⟩,λa ha b hb=>?_⟩
 ·obtain⟨i,hi,e⟩:=IP ha;rw[Qz] at e;have hi':IL xs j+i<xs.size:=by simp only[Km,HD] at hi;lia
  have:=b2 _ hi' (by lia);simp only[Je] at e;have hne:a≠j:=λq=>hj (q▸(Qy _ _).subset ha)
  lia
 ·have haj:a<j:=by
   obtain⟨i,hi,e⟩:=IP ha;rw[Of] at e;simp only[Ib,HD] at hi;have:=b1 i (by lia) (by lia);simp only[Je] at e;lia
  rcases GR.mp hb with rfl|hb
  ·exact haj
  ·obtain⟨i,hi,e⟩:=IP hb;rw[Qz] at e;have hi':IL xs j+i<xs.size:=by simp only[Km,HD] at hi;lia
   have:=b2 _ hi' (by lia);simp only[Je] at e;lia
theorem nN {t:LM}{j:Nat}(h:Up t.place.toList)(hs:∀ i,t.slot j≠.live i):j∉t.place.toList:=by
 refine y4 h ?_;cases e:(t.place[IL t.place j]?==some j) with
 |false=>rfl
 |true=>
  refine absurd ?_ (hs (IL t.place j));unfold SetTable.slot;dsimp only;rw[Ie e]
theorem t5 {t:LM}{ha:Nat->Int}{hh:Int} (h:Up t.place.toList):∀ (f:Nat) (p:SetTable.Probe),(∀ d,p.dummy=some d->d ∉ t.place.toList) ->
  ∀ j d,QH t ha hh f p=some (.empty j d)->d.getD j∉t.place.toList:=by
 intro f
 induction f with
 |zero=>intro p _ j d e;cases e
 |succ f ih=>
  intro p hp j d e;unfold QH at e
  split at e
  ·rename_i hs
   cases e;have:=nN h (j:=p.j) (λi=>by rw[hs];exact λq=>by cases q);cases hd:p.dummy with
   |none=>exact this
   |some d=>exact hp d hd
  ·rename_i hs
   have:=nN h (j:=p.j) (λi=>by rw[hs];exact λq=>by cases q);refine ih _ (λd hd=>?_) j d e;have hd':some p.j=some d:=by
    rw[<- hd];unfold Q6;dsimp only;split<;>rfl
   cases hd';exact this
  ·split at e
   ·cases e
   ·refine ih _ (λd hd=>hp d ?_) j d e;rw[<- hd];unfold Q6;dsimp only;split<;>rfl
theorem nF {t:LM}{hh:Int}{slot:Nat}{dm:Bool}(h:Up t.place.toList)(e:t.freeSlot hh=some (slot,dm)):slot∉t.place.toList:=by
 unfold SetTable.freeSlot at e
 split at e
 ·rename_i j d q
  cases e;exact t5 h _ _ (λd hd=>by cases hd) _ _ q
 ·cases e
def Tb (led:Bool)(t:LM):Prop:=Up t.place.toList/\t.led=led
theorem wS (n:Nat):Up (Array.range n).toList:=by
 rw[Array.toList_range];exact OT
theorem fg (n:Nat)(h:Tb led t):Tb led (t.standIn n):=⟨wS n,h.2⟩
theorem CP {led:Bool}{t:LM}{es:Array (Int×GH)}{hh:Int}{x:GH}(h:Tb led t):Tb led (layNew t es hh x).2.1:=by
 unfold layNew
 split
 ·rename_i slot dm e
  dsimp only;unfold SetTable.orStandIn
  split
  ·exact⟨oE h.1 (nF h.1 e),h.2⟩
  ·exact fg _ ⟨oE h.1 (nF h.1 e),h.2⟩
 ·exact fg _ h
theorem AR {f:Nat->Option Nat}:∀ {l:List Nat},Up l->Up ((l.filterMap λj=>(f j).map (j,·)).map (·.1)):=by
 intro l
 induction l with
 |nil=>intro _;exact Oc
 |cons a l ih=>
  intro h;have h':=Lr.mp h;have:=ih h'.2;rw[L8];cases e:f a with
  |none=>exact this
  |some b=>
   refine Lr.mpr ⟨λx hx=>?_,this⟩;obtain⟨y,hy,rfl⟩:=HH.mp hx;obtain⟨j,hj,q⟩:=IV.mp hy;cases e':f j with
   |none=>rw[e'] at q;cases q
   |some c=>rw[e'] at q;cases q;exact h'.1 j hj
theorem wN {led:Bool}{t:LM}{es:Array (Int×GH)}{n:Nat}(h:Tb led t):Tb led (Qt t es n).2.1:=by
 unfold Qt
 split
 ·rename_i t' order e
  dsimp only
  split
  ·unfold SetTable.relaid SetTable.laid at e;cases q:SetTable.layClean (SetTable.sizeAbove n-1) (es.map (·.1)) with
   |none=>rw[q] at e;cases e
   |some owner=>
    rw[q] at e;cases e;refine⟨?_,h.2⟩;simp only;exact AR OT
  ·exact fg _ h
 ·exact fg _ h
section
variable {pr:Hv}{wo:IN}{Ar:IR}{Ex:GH->GJ->Prop}{st:GJ}
def eG (pr:Hv)(wo:IN)(led:Bool)(H:JI)(a:G7)(ks:List Int):Prop:=
 ∃ ob xs ep tb,H.get? a=some ob/\ob.ExactSet/\ob.data=.set xs ep tb/\ElemsOf (Lg pr wo) xs.toList /\
  (∀ k,k∈ks↔∃ e∈xs.toList,(Lg pr wo).is k e.2=true)/\xs.size<scanBound/\tb.fits xs.size=true/\xs.size=ks.length/\ks.Nodup/\Tb led tb
theorem kg {led:Bool}{H:JI}{a:G7}{ob:Obj}{xs ys:Array (Int × GH)}{ep:Nat}{tb tc:LM}{ks:List Int}
  (g1:H.get? a=some ob)(g2:ob.ExactSet)(g3:ob.data=.set xs ep tb)(g4:ElemsOf (Lg pr wo) ys.toList)(g5:∀ k,k∈ks↔∃ e∈ys.toList,(Lg pr wo).is k e.2=true)
  (g6:ys.size<scanBound)(g7:tc.fits ys.size=true)(g8:ys.size=ks.length)(g9:ks.Nodup)(g10:Tb led tc):
  (H.update a (QD ys tc)).get? a=some { ob with data:=.set ys (ep+1) tc }/\eG pr wo led (H.update a (QD ys tc)) a ks:=by
 have e:=putSet_of ys tc g3;have q:=HF (QD ys tc) g1 (by rw[e];rfl);rw[e] at q;exact⟨q,_,ys,ep+1,tc,q,g2,rfl,g4,g5,g6,g7,g8,g9,g10⟩
theorem l6 {gw:Bool->Sem Unit} (hgw:∀ (b:Bool) (u:GJ) (Q':Unit->GJ->Prop),Q' () u->GW (Hl pr wo) Ar (gw b) Q' Ex u)
  {led:Bool}{a:G7}{ob:Obj}{xs ys:Array (Int×GH)}{ep:Nat}{tb tc:LM}{ks:List Int}
  (g1:st.heap.get? a=some ob)(g2:ob.ExactSet)(g3:ob.data=.set xs ep tb)(g4:ElemsOf (Lg pr wo) ys.toList)(g5:∀ k,k∈ks↔∃ e∈ys.toList,(Lg pr wo).is k e.2=true)
  (g6:ys.size<scanBound)(g7:tc.fits ys.size=true)(g8:ys.size=ks.length)(g9:ks.Nodup)(g10:Tb led tc){dm:Bool}{R:Option Bool->GJ->Prop}
  (hR:∀ H',IH a st.heap H'->eG pr wo led H' a ks->R (some true) { st with heap:=H' }):
  GW (Hl pr wo) Ar (do
    storeSet a ys tc
    if (!dm && tc.tooFull)=true then do
      gw (Qt tc ys (Lm ys.size)).2.2
      storeSet a (Qt tc ys (Lm ys.size)).1 (Qt tc ys (Lm ys.size)).2.1
      pure (some true)
     else pure (some true)) R Ex st:=by
 obtain⟨q1,q2⟩:=kg g1 g2 g3 g4 g5 g6 g7 g8 g9 g10;have sb:=Ik st.heap a (QD ys tc);refine Gz (wpAny_storeSet_of g1 g3 ?_ (fits_of_scanBound g6))
 split
 ·have pm:=relayAll_perm tc ys (Lm ys.size);have ft:=relayAll_fits tc ys (Lm ys.size);have tr:=wN (es:=ys) (n:=Lm ys.size) g10;generalize Qt tc ys (Lm ys.size)=Z at pm ft tr ⊢;obtain⟨zs,td,gv⟩:=Z;dsimp only at pm ft tr ⊢;have hz:zs.size=ys.size:=by have:=pm.length_eq;simpa using this
  refine Gz (hgw _ _ _ ?_);refine Gz (wpAny_storeSet_of q1 rfl ?_ (fits_of_scanBound (by rw[hz];exact g6)));obtain⟨_,q3⟩:=kg (ob:={ ob with data:=.set ys (ep+1) tc }) (ks:=ks) q1 g2 rfl (g4.perm pm)
   (λk=>(g5 k).trans ⟨λ⟨e,m,i⟩=>⟨e,pm.mem_iff.mpr m,i⟩,λ⟨e,m,i⟩=>⟨e,pm.mem_iff.mp m,i⟩⟩) (by rw[hz];exact g6) ft (hz.trans g8) g9 tr
  exact GD (hR _ (sb.trans (Ik _ a _)) q3)
 ·exact GD (hR _ sb q2)
theorem vT {k:Int} (hu:eG pr wo led st.heap a ks) (hroom:ks.length + 1 < scanBound)
  (h:∀ H',IH a st.heap H'->eG pr wo led H' a (if k∈ks then ks else ks++[k])->Q (!decide (k∈ks)) { st with heap:=H' }):
  GW (Hl pr wo) Ar (setAddHashed a (.int k tk) ((Lg pr wo).hash k)) Q Ex st:=by
 obtain⟨ob,xs,ep,tb,g1,g2,g3,g4,g5,g6,g7,g8,g9,g10⟩:=hu;have isk:(Lg pr wo).is k (.int k tk)=true:=intKind_is _ _ _ _;have sck:(LW k tk).scannable=true:=rfl;have rm:xs.size+1<scanBound:=by rw[g8];exact hroom
 unfold setAddHashed setAddHashedIn;refine Ij (Gz (IU g1 g3 g7 ?_));dsimp only;rw[byScan_of (knd:=Lg pr wo) sck g6 g4];simp only[↓reduceIte];unfold setAddByScan;refine Gz (Gz (LN ?_));refine Gz (wpAny_setScan_of (knd:=Lg pr wo) isk g1 g3 g7 g4 ?_);cases hf:List.findIdx? (λe=>(Lg pr wo).is k e.2) xs.toList with
 |some j=>
  dsimp only;obtain⟨hj,pj,_⟩:=List.findIdx?_eq_some_iff_getElem.mp hf;have hm:k∈ks:=(g5 k).mpr ⟨_,KB hj,pj⟩;have:=h st.heap (MJ a st.heap) (by rw[Ie hm];exact⟨ob,xs,ep,tb,g1,g2,g3,g4,g5,g6,g7,g8,g9,g10⟩);rw[GP hm] at this;exact GD (GD this)
 |none=>
  dsimp only;have hm:k∉ks:=λq=>by
   obtain⟨e,he,hp⟩:=(g5 k).mp q;have:=List.findIdx?_eq_none_iff.mp hf e he;rw[hp] at this;cases this
  rw[Hu hm,Hr hm] at h;have pm:=layNew_perm tb xs ((Lg pr wo).hash k) (.int k tk);have ft:=layNew_fits tb xs ((Lg pr wo).hash k) (.int k tk);have tr:=CP (es:=xs) (hh:=(Lg pr wo).hash k) (x:=.int k tk) g10;generalize layNew tb xs ((Lg pr wo).hash k) (.int k tk)=Z at pm ft tr ⊢;obtain⟨ys,tc,dm,gv⟩:=Z;dsimp only at pm ft tr ⊢;rw[Qw] at pm;have hz:ys.size=xs.size+1:=by have:=pm.length_eq;simpa using this
  have e4:ElemsOf (Lg pr wo) ys.toList:=(g4.push isk sck).perm pm;have e5:∀ k',k'∈ks++[k]↔∃ e∈ys.toList,(Lg pr wo).is k' e.2=true:=λk'=>by
   have:=mem_push_iff (knd:=Lg pr wo) (S:=λz=>decide (z∈ks)) isk (λz=>by rw[Io];exact g5 z) pm k';rw[<- this];simp
  have e9:(ks++[k]).Nodup:=QA.mpr ⟨g9,by simp,λx hx y hy=>by
   rw[G5] at hy;subst hy;exact λq=>hm (q▸hx)⟩
  refine Gz ?_;have done:∀ (b:Bool) (u:GJ) (Q':Unit->GJ->Prop),Q' () u->GW (Hl pr wo) Ar (match b with|true=>rule "set.scan.the-table-gave-way"|false=>pure ()) Q' Ex u:=
   λb u Q' q=>by cases b<;>first|exact GD q|exact LN q
  refine done _ _ _ ?_;have goal:∀ td:LM,td.fits ys.size=true->Tb led td->∀ H',IH a st.heap H'->eG pr wo led H' a (ks++[k])->Q true { st with heap:=H' }:=λ_ _ _ H' s1 s2=>h H' s1 s2
  split
  ·refine Gz ?_;rw[hashByValue_scannable 8 sck];refine GD ?_;refine l6 done (ks:=ks++[k]) g1 g2 g3 e4 e5 (by lia) (tc:=if plainKind (.int k tk)=true then tc else { tc with plain:=false }) (ft) (by simp[hz,g8]) e9 tr λH' s1 s2=>?_
   exact GD (h H' s1 s2)
  ·refine Gz (GD ?_);simp only[↓reduceIte];refine l6 done (ks:=ks++[k]) g1 g2 g3 e4 e5 (by lia) ft (by simp[hz,g8]) e9 tr λH' s1 s2=>?_
   exact GD (h H' s1 s2)
end
theorem mK {i:Nat}(h:xs[i]?=some x):(x::xs.eraseIdx i).Perm xs:=by
 induction xs generalizing i with
 |nil=>cases h
 |cons a xs ih=>
  cases i with
  |zero=>cases h;exact NX _
  |succ i=>
   simp only[List.getElem?_cons_succ] at h;exact(List.Perm.swap a x _).trans ((ih h).cons a)
theorem Ai (nx:Nat->Nat):∀ (f k:Nat) (left:List α) (out:Array α),f=left.length ->
  (Q1 nx f k left out).toList.Perm (out.toList++left):=by
 intro f
 induction f with
 |zero=>intro k left out e;cases left with
  |nil=>simp[Q1]
  |cons a l=>cases e
 |succ f ih=>
  intro k left out e;unfold Q1;have hlt:nx k%left.length<left.length:=Nat.mod_lt _ (by lia);have hg:left[nx k%left.length]?=some left[nx k%left.length]:=GF hlt;rw[hg];dsimp only;refine(ih _ _ _ (by rw[NI hlt];lia)).trans ?_;rw[Qw,Ku];exact List.Perm.append_left _ (mK hg)
theorem nK (nx:Nat->Nat)(xs:Array α):(NE nx xs).toList.Perm xs.toList:=by
 unfold NE;have:=Ai nx xs.size 0 xs.toList #[] (by simp)
 simpa using this
def f6 (pl:Array Nat)(i:Nat):Nat:=if i=0 then 0 else pl.getD (i-1) 0+1
theorem mB (h:Up pl.toList){i:Nat}(hi:i<=pl.size):IL pl (f6 pl i)=i:=by
 obtain⟨b1,b2,b3⟩:=mL (j:=f6 pl i) h;have lo:∀ (k:Nat) (w:k<pl.size),k<i->pl[k]<f6 pl i:=λk w q=>by
  cases i with
  |zero=>lia
  |succ i=>
   have hp:i<pl.size:=by lia
   have eg:f6 pl (i+1)=pl[i]+1:=by simp[f6,Ps,hp]
   rw[eg]
   by_cases e:k=i
   ·subst e;lia
   ·have u:=q_ h (i:=k) (j:=i) (by lia) (by simpa using hp);simp only[Je] at u;lia
 have up:∀ (k:Nat) (w:k<pl.size),i<=k->f6 pl i<=pl[k]:=λk w q=>by
  cases i with
  |zero=>simp[f6]
  |succ i=>
   have hp:i<pl.size:=by lia
   have eg:f6 pl (i+1)=pl[i]+1:=by simp[f6,Ps,hp]
   rw[eg];have u:=q_ h (i:=i) (j:=k) (by lia) (by simpa using w);simp only[Je] at u;lia
 have n1:¬ IL pl (f6 pl i)<i:=λq=>by
  have w:IL pl (f6 pl i)<pl.size:=by lia
  have x1:=lo _ w q;have x2:=b2 _ w (GM _);lia
 have n2:¬ i<IL pl (f6 pl i):=λq=>by
  have w:i<pl.size:=by lia
  have x1:=up _ w (GM _);have x2:=b1 _ w q;lia
 lia
theorem bS:Slot "set_iterator" "__next__" "set_iterator.__next__":=
 .of (owner:="set_iterator") (n:="__next__") (by rw[typeLookup_type,builtinLookup_eq_fast];kernel_rfl) (by decide +kernel) (by decide +kernel) (by decide +kernel)
  (by first|exact .inl (by decide +kernel)|exact .inr (by decide +kernel)) (by rw[isSubtype_type];kernel_rfl)
theorem gK:entryFor table "set_iterator.__next__"=some Kp.«set_iterator.__next__»:=entryFor_of_fast (by kernel_rfl)
theorem iA (a:GH):argsOk "set_iterator.__next__" ⟨[a],[]⟩:=by unfold argsOk;kernel_rfl
theorem iB:Slot "set_iterator" "__iter__" "set_iterator.__iter__":=
 .of (owner:="set_iterator") (n:="__iter__") (by rw[typeLookup_type,builtinLookup_eq_fast];kernel_rfl) (by decide +kernel) (by decide +kernel) (by decide +kernel)
  (by first|exact .inl (by decide +kernel)|exact .inr (by decide +kernel)) (by rw[isSubtype_type];kernel_rfl)
theorem l7:entryFor table "set_iterator.__iter__"=some Kp.«dict_keyiterator.__iter__»:=
 entryFor_alias (id':="dict_keyiterator.__iter__") (by kernel_rfl) rfl (by decide +kernel) (by kernel_rfl)
theorem ng (a:GH):argsOk "set_iterator.__iter__" ⟨[a],[]⟩:=by unfold argsOk;kernel_rfl
theorem kJ:entryFor table "set.__iter__"=some Kp.«frozenset.__iter__»:=
 entryFor_alias (id':="frozenset.__iter__") (by kernel_rfl) rfl (by decide +kernel) (by kernel_rfl)
theorem ue {n:Nat} (hn:n ≠ 0)
  (h:∀ i d,i<n->Q i { s with drawn:=d }):GW M A (choose src n) Q E s:=λ_ _ _=>by
 show Sem.wp _ _ (Sem.choose src n Sem.pure) _ _ _ _;rw[Sem.wp_choose];exact⟨hn,h _ _ (Nat.mod_lt _ (by lia))⟩
theorem xE:∀ (n:Nat) (xs:List α) (s:GJ) (Q:List α->GJ->Prop),xs.length=n ->
  (∀ ys d,ys.Perm xs->Q ys { s with drawn:=d })->GW M A (drawOrder n xs) Q E s:=by
 intro n
 induction n with
 |zero=>
  intro xs s Q hl h;cases xs with
  |nil=>exact GD (h [] s.drawn (NX _))
  |cons a l=>cases hl
 |succ n ih=>
  intro xs s Q hl h;cases xs with
  |nil=>cases hl
  |cons a l=>
   unfold drawOrder;refine Gz (ue (by simp) λi d hi=>?_);have hg:(a::l)[i]?=some (a::l)[i]:=GF hi;rw[hg];dsimp only;refine Gz (ih _ _ _ (by rw[NI hi];simp at hl ⊢;lia) λys d' hp=>?_);exact GD (h _ _ ((hp.cons _).trans (mK hg)))
section
variable {pr:Hv}{wo:IN}{Ar:IR}{Ex:GH->GJ->Prop}{st:GJ}
def p7 (wo:IN):Bool:=wo.params.followText "set-order"
theorem fB (h:Q (p7 wo) st):GW (Hl pr wo) Ar setsByText Q Ex st:=by
 unfold setsByText;exact Gz (Lj (GD h))
def Cf (wo:IN)(H:JI)(S T:G7)(es:Array (Int×GH))(ep:Nat)(tb:LM)(vs:List GH)(i:Nat)(fi:GH):Prop:=
 (p7 wo=true/\(∃ sl t,fi=.int sl t)/\vs=(NE (wo.params.setOrder S ep) es).toList.map (·.2)) \/
 (p7 wo=false/\(!tb.plain&&decide (es.size>1))=true/\fi=.ref T/\∃ (o:Obj) (n:Nat) (pl:List Nat),H.get? T=some o/\o.data=.seq (pl.map λj:Nat=>JV j).toArray n/\pl.Perm (IQ es.size)/\vs=pl.map λj=>(es[j]?.map (·.2)).getD .none) \/
 (p7 wo=false/\(!tb.plain&&decide (es.size>1))=false/\tb.led=true/\Up tb.place.toList/\tb.place.size=es.size/\fi=.int (f6 tb.place i) 0/\vs=es.toList.map (·.2))
def Ae (wo:IN)(H:JI)(I S T:G7)(ob:Obj)(es:Array (Int×GH))(ep:Nat)(tb:LM)(vs:List GH)(i:Nat):Prop:=
 H.get? S=some ob/\∃ fi o,H.get? I=some o/\o.cls=.type "set_iterator"/\o.data=.fields #[fi,.int i 0,.ref S,.int es.size 0,.int ep 0]/\Cf wo H S T es ep tb vs i fi
theorem p9 {ep:Nat}{i:Nat}(h:Cf wo H S T es ep tb vs i fi):vs.length=es.size:=by
 rcases h with ⟨_,_,rfl⟩|⟨_,_,_,_,_,pl,_,_,hp,rfl⟩|⟨_,_,_,_,_,_,rfl⟩
 ·have:=(nK (wo.params.setOrder S ep) es).length_eq;simp at this ⊢;exact this
 ·have:=hp.length_eq
  simpa using this
 ·simp
theorem wO {ep:Nat}{i:Nat}(h:Cf wo H S T es ep tb vs i fi):vs.Perm (es.toList.map (·.2)):=by
 rcases h with ⟨_,_,rfl⟩|⟨_,_,_,_,_,pl,_,_,hp,rfl⟩|⟨_,_,_,_,_,_,rfl⟩
 ·exact(nK (wo.params.setOrder S ep) es).map _
 ·refine(hp.map _).trans (List.Perm.of_eq ?_);apply List.ext_getElem
  ·simp
  ·intro j h1 h2;simp at h1 ⊢;simp[h1]
 ·exact NX _
theorem lZ {H:JI}{I S T:G7}{ob:Obj}{es:Array (Int×GH)}{ep:Nat}{tb:LM}{vs:List GH}{i:Nat}(h:Ae wo st.heap I S T ob es ep tb vs i):st.TypeIs (.ref I) "set_iterator":=by
 obtain⟨_,_,o,h1,h2,_⟩:=h;exact⟨o,h1,h2⟩
end
section
variable {pr:Hv}{wo:IN}{Ar:IR}{Ex:GH->GJ->Prop}{st:GJ}
theorem mr {ep:Nat}{i:Nat} (h:Cf wo H S T es ep tb vs i fi)
  (k:∀ o,H.get? T=some o->H'.get? T=some o):Cf wo H' S T es ep tb vs i fi:=by
 rcases h with h|⟨a1,a2,a3,o,n,pl,a4,a5⟩|h
 ·exact .inl h
 ·exact .inr (.inl ⟨a1,a2,a3,o,n,pl,k _ a4,a5⟩)
 ·exact .inr (.inr h)
theorem yH {I S T:G7}{ob:Obj}{es:Array (Int × GH)}{ep:Nat}{tb:LM}{vs:List GH}{i:Nat}{x:GH}{Q:Option GH->GJ->Prop}
  (h:Ae wo st.heap I S T ob es ep tb vs i)(hob:ob.data=.set es ep tb)(hf:tb.fits es.size=true)(hSI:S≠I)(hTI:T≠I)(hx:vs[i]?=some x)
  (hQ:∀ H',Ae wo H' I S T ob es ep tb vs (i+1)->IH I st.heap H'->Q (some x) { st with heap:=H' }):
  GW (Hl pr wo) Ar (LG (.ref I)) Q Ex st:=by
 have hT:=lZ (st:=st) (H:=st.heap) h;obtain⟨hS,fi,o,ho,hc,hd,hw⟩:=h;unfold LG;refine Gz (J_ (Iy (name:=Iw "__next__") hT bS
  (IF bS hT gK ?_ (iA _))))
 show GW _ _ (fieldsOf (.ref I) >>= _) _ _ st;refine Gz (LY ho hd ?_);show GW _ _ (Pu S >>= _) _ _ st;refine Gz ?_;unfold Pu;refine Gz (IU hS hob hf ?_);refine GD ?_;dsimp only;rw [Hu (by simp)];have fin1:∀ (H1:JI) (o1:Obj) (f1:GH),H1.get? I=some o1->o1.cls=.type "set_iterator"->o1.data=.fields #[f1,.int i 0,.ref S,.int es.size 0,.int ep 0]->IH I st.heap H1 ->
   Cf wo st.heap S T es ep tb vs (i+1) f1 ->
   GW (Hl pr wo) Ar.in1 (do Pw (.ref I) 1 (JV ((i:Int)+1));ret x) (λr s'=>∃ v,r=.done (.ret v)/\GW (Hl pr wo) Ar (pure (some v)) Q Ex s') (λe s'=>GW (Hl pr wo) Ar (do if(<- Nl e (.type "StopIteration")) then pure none else throw e) Q Ex s') { st with heap:=H1 }:=by
  intro H1 o1 f1 g1 g2 g3 g4 g5;refine Gz (Jd g1 g3 (by simp) (GD ⟨x,rfl,GD ?_⟩));have sb:IH I st.heap (H1.update I (IC (·.setIfInBounds 1 (JV ((i:Int)+1))))):=g4.trans (Ik ..);refine hQ _ ⟨?_,f1,_,HF _ g1 (IJ (Ic g3 _)),(K0 ..).trans g2,by rw[Ic g3];simp[JV],?_⟩ sb
  ·rw[sb.2 S hSI];exact hS
  ·exact mr g5 λo' e=>by rw[sb.2 T hTI];exact e
 have hlen:=p9 hw;have hlt:i<es.size:=by rw[<- hlen];exact(GU.mp hx).1
 rcases hw with ⟨b1,⟨sl,t,rfl⟩,e⟩|⟨b1,b2,rfl,oT,nT,pl,b3,b4,b5,e⟩|⟨b1,b2,b3,b4,b5,rfl,e⟩
 ·show GW _ _ (P9 S sl.toNat (LA (i:Int)) (LA (ep:Int))>>=_) _ _ st;refine Gz ?_;unfold P9;refine Gz (IU hS hob hf ?_);dsimp only;refine Gz (fB ?_);rw[Ie b1];simp only[IA,MR,Iv,JU];refine Gz ?_;unfold setWalk;refine Gz (IU hS hob hf ?_);dsimp only;refine Gz (fB ?_);rw[Ie b1];refine Gz (Lj (GD (GD ?_)));have hx':(NE (wo.params.setOrder S ep) es)[i]?.map (λe=>e.2)=some x:=by
   rw[e] at hx;rw[<- hx];simp
  obtain⟨q,q1,q2⟩:=Hj.mp hx';show GW _ _ (match (NE (wo.params.setOrder S ep) es)[i]?.map (λe=>(e.2,sl.toNat)) with|some (x,next)=>_|none=>_) _ _ _;rw[q1];dsimp only [Option.map];rw[q2];refine Gz (Jd ho hd (by simp) ?_);exact fin1 _ _ (JV (sl.toNat:Int)) (HF _ ho (IJ (Ic hd _))) ((K0 ..).trans hc) (by rw[Ic hd];simp) (Ik ..) (.inl ⟨b1,⟨_,_,rfl⟩,e⟩)
 ·show GW _ _ (Qu (.ref T)>>=_) _ _ st;refine Gz (Ka b3 b4 ?_);have hp:∃ j:Nat,pl[i]?=some j/\j<es.size:=by
   have:i<pl.length:=by rw[b5.length_eq];simpa using hlt
   exact⟨pl[i],GF this,by simpa using (b5.mem_iff.mp (KB this))⟩
  obtain⟨j,j1,j2⟩:=hp;have hpl:(pl.map λj:Nat=>JV j).toArray[i]?=some (.int j 0):=by simp[j1,JV]
  show GW _ _ (match (pl.map λj:Nat=>JV j).toArray[LA (i:Int)]? with|some (.int place _)=>_|some _=>_|none=>_) _ _ _;rw[IA,hpl];dsimp only;refine Gz ?_;unfold setNextDrawn;refine Gz (IU hS hob hf ?_);dsimp only;have hxx:es[j]?=some es[j]:=by simp[j2]
  have hxe:x=es[j].2:=by
   rw[e] at hx;simp[j1,hxx] at hx;exact hx.symm
  simp only[IA,MR,Iv,JU,hxx];refine GD ?_;rw[<- hxe];exact fin1 _ _ _ ho hc hd (MJ _ _) (.inr (.inl ⟨b1,b2,rfl,oT,nT,pl,b3,b4,b5,e⟩))
 ·show GW _ _ (P9 S (LA (f6 tb.place i:Int)) (LA (i:Int)) (LA (ep:Int))>>=_) _ _ st;refine Gz ?_;unfold P9;refine Gz (IU hS hob hf ?_);dsimp only;refine Gz (fB ?_);rw[Hu (by rw[b1];simp)];show GW _ _ (if(!tb.plain&&decide (es.size>1))=true then _ else _) _ _ _;rw[Hu (by rw[b2];simp)];refine Gz ?_;show GW _ _ (if(!tb.led&&!es.isEmpty)=true then _ else(pure ():Sem Unit)) _ _ _;rw[Hu (by rw[b3];simp)];refine GD ?_;have bs:=mB (pl:=tb.place) b4 (i:=i) (by rw[b5];lia);have p1:es[i]?=some es[i]:=by simp[hlt]
  have hlp:i<tb.place.size:=by rw[b5];exact hlt
  have p2:tb.place[i]?=some tb.place[i]:=by simp[hlp]
  have p3:x=es[i].2:=by
   rw[e] at hx;simp[hlt] at hx;exact hx.symm
  have p4:f6 tb.place (i+1)=tb.place[i]+1:=by simp[f6,Ps,hlp]
  simp only[IA,bs,p1,p2];refine GD ?_;rw[<- p3];refine Gz (Jd ho hd (by simp) ?_);exact fin1 _ _ (JV ((tb.place[i]+1:Nat):Int)) (HF _ ho (IJ (Ic hd _))) ((K0 ..).trans hc) (by rw[Ic hd];simp) (Ik ..)
   (.inr (.inr ⟨b1,b2,b3,b4,b5,by rw[p4];rfl,e⟩))
end
section
variable {pr:Hv}{wo:IN}{Ar:IR}{Ex:GH->GJ->Prop}{st:GJ}
theorem zZ {ep:Nat}{i:Nat} (hh:Ar.handled=none)
  (h:Ae wo st.heap I S T ob es ep tb vs i)(hob:ob.data=.set es ep tb)(hf:tb.fits es.size=true)(hx:i=vs.length)
  (hQ:∀ H',MI I st.heap H'->Q none { st with heap:=H' }):
  GW (Hl pr wo) Ar (LG (.ref I)) Q Ex st:=by
 have hT:=lZ (st:=st) (H:=st.heap) h;obtain⟨hS,fi,o,ho,hc,hd,hw⟩:=h;unfold LG;refine Gz (J_ (Iy (name:=Iw "__next__") hT bS
  (IF bS hT gK ?_ (iA _))))
 show GW _ _ (fieldsOf (.ref I) >>= _) _ _ st;refine Gz (LY ho hd ?_);show GW _ _ (Pu S >>= _) _ _ st;refine Gz ?_;unfold Pu;refine Gz (IU hS hob hf ?_);refine GD ?_;dsimp only;rw [Hu (by simp)];have hlen:=p9 hw;have fin1:∀ (H1:JI) (o1:Obj) (f1:Array GH),H1.get? I=some o1->o1.data=.fields f1->f1.size=5->IH I st.heap H1 ->
   GW (Hl pr wo) Ar.in1 (do Pw (.ref I) 2 .none;let __do_lift <- Rl (Kj "StopIteration") [];(raiseNew __do_lift:Sem Fin)) (λr s'=>∃ v,r=.done (.ret v)/\GW (Hl pr wo) Ar (pure (some v)) Q Ex s') (λe s'=>GW (Hl pr wo) Ar (do if(<- Nl e (.type "StopIteration")) then pure none else throw e) Q Ex s') { st with heap:=H1 }:=by
  intro H1 o1 f1 g1 g3 g4 g5;refine Gz (Jd g1 g3 (by lia) ?_);refine Gz ?_;simp only[Rl,newTuple];refine Gz (Ig ?_ (by size_fits));refine Gz (m:=KL _ _) (L_ (a:=Ia) (by first|rfl|(simp only[KL];rfl)) ?_);refine Ig ?_ (by size_fits);simp only[raiseNew];refine Gz (OD ?_);rw[show Ar.in1.handled=none from hh];refine Gz (GD (OH ?_));refine Gz (Lk (T:="StopIteration") (b:=true) ⟨_,GL _ rfl,rfl⟩ N4 ?_);exact GD (hQ _ (((g5.trans (Ik ..)).extBut.push _).push _))
 rcases hw with ⟨b1,⟨sl,t,rfl⟩,e⟩|⟨b1,b2,rfl,oT,nT,pl,b3,b4,b5,e⟩|⟨b1,b2,b3,b4,b5,rfl,e⟩
 ·show GW _ _ (P9 S sl.toNat (LA (i:Int)) (LA (ep:Int))>>=_) _ _ st;refine Gz ?_;unfold P9;refine Gz (IU hS hob hf ?_);dsimp only;refine Gz (fB ?_);rw[Ie b1];simp only[IA,MR,Iv,JU];refine Gz ?_;unfold setWalk;refine Gz (IU hS hob hf ?_);dsimp only;refine Gz (fB ?_);rw[Ie b1];refine Gz (Lj (GD (GD ?_)));have q1:(NE (wo.params.setOrder S ep) es)[i]?=none:=by
   have:vs.length=(NE (wo.params.setOrder S ep) es).size:=by rw[e];simp
   rw[Array.getElem?_eq_none_iff];lia
  show GW _ _ (match (NE (wo.params.setOrder S ep) es)[i]?.map (λe=>(e.2,sl.toNat)) with|some (x,next)=>_|none=>_) _ _ _;rw[q1];dsimp only [Option.map];exact fin1 st.heap o _ ho hd rfl (MJ _ _)
 ·show GW _ _ (Qu (.ref T)>>=_) _ _ st;refine Gz (Ka b3 b4 ?_);have hpl:(pl.map λj:Nat=>JV j).toArray[i]?=none:=by
   have:vs.length=pl.length:=by rw[e];simp
   simp;lia
  show GW _ _ (match (pl.map λj:Nat=>JV j).toArray[LA (i:Int)]? with|some (.int place _)=>_|some _=>_|none=>_) _ _ _;rw[IA,hpl];dsimp only;refine Gz (Jd ho hd (by simp) ?_);exact fin1 _ _ _ (HF _ ho (IJ (Ic hd _))) (Ic hd _) (by simp) (Ik ..)
 ·show GW _ _ (P9 S (LA (f6 tb.place i:Int)) (LA (i:Int)) (LA (ep:Int))>>=_) _ _ st;refine Gz ?_;unfold P9;refine Gz (IU hS hob hf ?_);dsimp only;refine Gz (fB ?_);rw[Hu (by rw[b1];simp)];show GW _ _ (if(!tb.plain&&decide (es.size>1))=true then _ else _) _ _ _;rw[Hu (by rw[b2];simp)];refine Gz ?_;show GW _ _ (if(!tb.led&&!es.isEmpty)=true then _ else(pure ():Sem Unit)) _ _ _;rw[Hu (by rw[b3];simp)];refine GD ?_;have bs:=mB (pl:=tb.place) b4 (i:=i) (by rw[b5];lia);have p1:es[i]?=none:=by simp;lia
  simp only[IA,bs,p1];refine GD ?_;exact fin1 st.heap o _ ho hd rfl (MJ _ _)
theorem yp {ep:Nat}{i:Nat}
  (h:Ae wo st.heap I S T ob es ep tb vs i)(hQ:Q (.ref I) st):GW (Hl pr wo) Ar (PQ (.ref I)) Q Ex st:=by
 have hT:=lZ (st:=st) (H:=st.heap) h;refine MU hT iB (IF iB hT l7 ?_ (ng _));show GW _ _ (ret (.ref I)) _ _ st;exact GD ⟨_,rfl,"set_iterator",_,hT,bS.lookup,hQ⟩
theorem rl {ep:Nat}{i:Nat} (h:Ae wo H I S T ob es ep tb vs i)
  (k:∀ b∈[I,S,T],∀ o,H.get? b=some o->H'.get? b=some o):Ae wo H' I S T ob es ep tb vs i:=by
 obtain⟨hS,fi,o,ho,hc,hd,hw⟩:=h;exact⟨k S (by simp) _ hS,fi,o,k I (by simp) _ ho,hc,hd,mr hw λo' e=>k T (by simp) _ e⟩
theorem v5 {ep:Nat} (hh:Ar.handled=none)
  (hob:ob.data=.set es ep tb)(hf:tb.fits es.size=true)(hSI:S≠I)(hTI:T≠I):
  Walks pr wo Ar I [I,S,T] [I] vs.length (λi v=>vs[i]?=some v) (λi H=>Ae wo H I S T ob es ep tb vs i) where
 sub:=λb hb=>by simp at hb;simp[hb]
 frame:=λ_ _ _ st hk=>rl st hk
 item:=λi s Q E hi st hQ=>by
  have hx:vs[i]?=some vs[i]:=by simp[hi]
  refine yH st hob hf hSI hTI hx λh' hit' hs'=>?_
  exact hQ _ h' s.toks hx hit' λb o hb e=>hs'.extBut b o (λh=>hb (by simp[h])) e
 done:=λs Q E st hQ=>zZ hh st hob hf rfl λh' he'=>hQ h' s.toks λb o hb e=>he' b o (λh=>hb (by simp[h])) e
 self:=λ_ _ _ _ st hQ=>yp st hQ
end
section
variable {pr:Hv}{wo:IN}{Ar:IR}{Ex:GH->GJ->Prop}{st:GJ}
theorem yN {H:JI}{S:G7}{ob:Obj}(hS:st.heap.get? S=some ob)(hx:ob.ExactSet):st.TypeIs (.ref S) "set":=⟨ob,hS,hx.1⟩
theorem xZ {S:G7}{ob:Obj}{es:Array (Int × GH)}{ep:Nat}{tb:LM}{Q:GH->GJ->Prop} (hS:st.heap.get? S=some ob) (hx:ob.ExactSet)
  (hob:ob.data=.set es ep tb)(hf:tb.fits es.size=true)(ht:Tb (!p7 wo) tb)(hsz:es.size<scanBound)
  (hQ:∀ (I T:G7) (H':JI) (d:Drawn) (vs:List GH),Ae wo H' I S T ob es ep tb vs 0->T≠I->S≠I->st.heap.objs.size<=I->(∀ b o,st.heap.get? b=some o->H'.get? b=some o) ->
   (∀ b∈[I,S,T],b<H'.objs.size)->st.heap.objs.size<=H'.objs.size->(T=S\/st.heap.objs.size<=T)->Q (.ref I) { st with heap:=H',drawn:=d }) :
  GW (Hl pr wo) Ar (PQ (.ref S)) Q Ex st:=by
 have hT:=yN (st:=st) (H:=st.heap) hS hx;refine MU hT F.slot_set_iter (IF F.slot_set_iter hT kJ ?_ (F.args_set_iter_1 _));unfold Kp.«frozenset.__iter__»;have hlS:S<st.heap.objs.size:=GI hS;have hpl:tb.place.size=es.size:=by
  unfold SetTable.fits at hf;simp at hf;exact hf.1
 show GW _ _ (N7 S >>= _) _ _ st;refine Gz ?_;unfold N7 Pu;refine Gz (Gz (IU hS hob hf (GD (GD ?_))));dsimp only;have fin:∀ (fi:GH) (s1:GJ) (T:G7) (vs:List GH),s1.heap.get? S=some ob->(∀ b o,st.heap.get? b=some o->s1.heap.get? b=some o)->Cf wo s1.heap S T es ep tb vs 0 fi->T < s1.heap.objs.size->st.heap.objs.size <= s1.heap.objs.size ->
   (T=S\/st.heap.objs.size<=T)->(∃ (g:JI) (d:Drawn),s1={ st with heap:=g,drawn:=d }) ->
   GW (Hl pr wo) Ar.in1 (do let __do_lift <- setEpoch S;let __do_lift <- newFields "set_iterator" [fi,JV 0,.ref S,JV es.size,JV __do_lift];ret __do_lift)
    (λr s'=>∃ v,r=.done (.ret v)/\∃ T' r,s'.TypeIs v T'/\QM (.type T') "__next__"=pure (some r)/\Q v s') Ex s1:=by
  intro fi s1 T vs h1 h2 h3 h4 h5 h6 ⟨g,d,h7⟩;subst h7;unfold setEpoch;refine Gz (Gz (IU h1 hob hf (GD ?_)));dsimp only;refine Gz (Ig (GD ⟨_,rfl,"set_iterator",_,⟨_,GL _ rfl,rfl⟩,bS.lookup,?_⟩));have h4:T<g.objs.size:=h4;have h5:st.heap.objs.size<=g.objs.size:=h5;refine hQ g.objs.size T _ d vs ⟨GC _ h1,fi,_,GL _ rfl,rfl,rfl,mr h3 λo e=>GC _ e⟩ (Hk h4) (Hk (G8 hlS h5)) h5
   (λb o e=>GC _ (h2 b o e)) (λb hb=>?_) (by rw[II];exact Nat.le_succ_of_le h5) h6
  rw[II];simp only[GR,Hq,Js] at hb;rcases hb with rfl|rfl|rfl
  ·exact JS _
  ·exact KZ (G8 hlS h5)
  ·exact KZ h4
 refine Gz ?_;unfold setDrawn;refine Gz (IU hS hob hf ?_);dsimp only;refine Gz (fB (GD ?_));show GW _ _ (if(!p7 wo&&(!tb.plain&&decide (es.size>1)))=true then _ else _) _ _ _;cases b1:p7 wo with
 |true=>
  simp only[Bool.not_true,JH,Iv,JU];refine Gz (GD ?_);exact fin (JV 0) st S _ hS (λ_ _ e=>e) (.inl ⟨b1,⟨_,_,rfl⟩,rfl⟩) hlS (GM _) (.inl rfl) ⟨_,_,rfl⟩
 |false=>
  cases b2:(!tb.plain&&decide (es.size>1)) with
  |false=>
   simp only[NS,Iv,JU];refine Gz (GD ?_);refine fin (JV 0) st S _ hS (λ_ _ e=>e) (.inr (.inr ⟨b1,b2,?_,ht.1,hpl,rfl,rfl⟩)) hlS (GM _) (.inl rfl) ⟨_,_,rfl⟩;rw[ht.2,b1];rfl
  |true=>
   simp only[Bool.not_false,LJ,K5];refine Gz (xE es.size (IQ es.size) _ _ ML λys d hp=>?_);refine Gz (N5 ?_ (by rw[GG,hp.length_eq,ML];unfold scanBound at hsz;rw[Ji];lia));refine fin (.ref st.heap.objs.size) _ st.heap.objs.size _ (GC _ hS) (λ_ _ e=>GC _ e) (.inr (.inl ⟨b1,b2,rfl,_,0,ys,GL _ rfl,rfl,hp,rfl⟩))
    (by rw[II];exact JS _) (by rw[II];exact Ow _) (.inr (GM _)) ⟨_,_,rfl⟩
end
section
variable {pr:Hv}{wo:IN}{Ar:IR}{Ex:GH->GJ->Prop}{st:GJ}
theorem yt (hT:st.TypeIs (.ref S) "set")(h:Q false st):GW (Hl pr wo) Ar (Nm (.ref S)) Q Ex st:=by
 unfold Nm;refine Gz (MB hT F.slot_set_len.lookup ?_);show GW _ _ (Nl (.ref S) (.type "set")>>=_) _ _ _;refine Gz (Lk hT sub_set_self ?_);refine wpAny_ite_split (λhab=>absurd hab (by decide)) (λ_=>?_);refine wpAny_ite_split (λ_=>?_) (λhab=>absurd (by decide +kernel) hab);refine Gz (wpAny_typeOf hT ?_);exact GD h
theorem uo (h:ItemsOf (λi v=>vs[i]?=some v) acc vs.length):acc.toList=vs:=by
 apply Od;intro i;cases e:acc.toList[i]? with
 |none=>
  rw[NZ] at e;have:=h.1
  symm
  rw[NZ];simp at e;lia
 |some v=>exact(h.2 i v (by simpa using e)).symm
theorem qt {ep:Nat} (hh:Ar.handled=none) (hS:st.heap.get? S=some ob) (hx:ob.ExactSet)
  (hob:ob.data=.set es ep tb)(hf:tb.fits es.size=true)(ht:Tb (!p7 wo) tb)(hsz:es.size<scanBound)
  (hQ:∀ (g:JI) (d:Drawn) (tk:Nat) (vs:List GH),(∀ b o,st.heap.get? b=some o->g.get? b=some o)->st.heap.objs.size<g.objs.size->st.toks<=tk->vs.Perm (es.toList.map (·.2))->Q vs { st with heap:=g,drawn:=d,toks:=tk }):
  GW (Hl pr wo) Ar (collect (.ref S)) Q Ex st:=by
 have hlS:S<st.heap.objs.size:=GI hS;unfold collect;refine Gz (PR (Ke F.entry_proto_collect ?_));rw[JN N_ _];show GW _ Ar.in1 (P8 []>>=λl=>again (.builtin "list.__iadd__" ⟨[l,.ref S],[]⟩)) _ _ st;refine Gz (Ig ?_);refine GD ⟨Nj LP _,Ke F.entry_list_iadd ?_⟩;rw[JN LP _];show GW _ Ar.in1 (Lx (.ref st.heap.objs.size) (.ref S) (.ref st.heap.objs.size)) _ _ _;unfold Lx;have hS1:(st.heap.push { cls:=.type "list",data:=.seq ([]:List GH).toArray }).get? S=some ob:=GC _ hS;have hL1:(st.heap.push { cls:=.type "list",data:=.seq ([]:List GH).toArray }).get? st.heap.objs.size=some { cls:=.type "list",data:=.seq ([]:List GH).toArray }:=GL _ rfl;have hsz1:(st.heap.push { cls:=.type "list",data:=.seq ([]:List GH).toArray }).objs.size=st.heap.objs.size+1:=II _ _;have up1:∀ b o,st.heap.get? b=some o->(st.heap.push { cls:=.type "list",data:=.seq ([]:List GH).toArray }).get? b=some o:=λb o e=>GC _ e
 generalize st.heap.push { cls:=.type "list",data:=.seq ([]:List GH).toArray }=g1 at hS1 hL1 hsz1 up1 ⊢;refine Gz (wpAny_typeOf (T:="set") ⟨ob,hS1,hx.1⟩ ?_);have hSL:st.heap.objs.size≠S:=JB hlS;have h1:N8 (.ref st.heap.objs.size) (.ref S)=false:=by simp[N8,hSL]
 have h2:(Kj "set"==Kj "list")=false:=by decide
 have h3:(Kj "set"==Kj "tuple")=false:=by decide
 simp only[h1,h2,h3,Bool.or_false,Iv,JU];refine Gz (xZ (st:={ st with heap:=g1 }) hS1 hx hob hf ht hsz λI T g2 d vs ws hTI hSI hI up2 lt2 pX hT2=>?_);refine Gz (Ij (yt ⟨ob,ws.1,hx.1⟩ ?_));have hlen:vs.length=es.size:=by obtain⟨_,_,_,_,_,_,hw⟩:=ws;exact p9 hw
 have hper:vs.Perm (es.toList.map (·.2)):=by obtain⟨_,_,_,_,_,_,hw⟩:=ws;exact wO hw
 show GW _ Ar.in1 (rule "list.extend.makes-room">>=λ_=>Builtin.List.listTouch (.ref st.heap.objs.size)>>=λ_=>
  again (.builtin "list.extend.loop" ⟨[.ref st.heap.objs.size,.ref I,.ref st.heap.objs.size],[]⟩)) _ _ _
 refine Gz (LN ?_);have hI':st.heap.objs.size+1<=I:=by rw[<- hsz1];exact hI
 have hLI:st.heap.objs.size≠I:=Hk hI';have hLT:st.heap.objs.size≠T:=by
  rcases hT2 with rfl|q
  ·exact hSL
  ·have q:g1.objs.size<=T:=q;rw[hsz1] at q;exact Hk q
 have hSf:st.heap.objs.size∉[I,S,T]:=by simp[hLI,hSL,hLT]
 have hS2:=up2 _ _ hL1;refine Gz ?_;show GW _ Ar.in1 (updateSeq st.heap.objs.size (·.push .none)>>=λ_=>updateSeq st.heap.objs.size (·.pop)) _ _ _;refine Gz (wpAny_updateSeq hS2 rfl ?_);have hS₂:=HF (JO (·.push Ia)) hS2 rfl;refine wpAny_updateSeq hS₂ rfl ?_;have hS₃:=HF (JO (·.pop)) hS₂ rfl;have oth:∀ b o,b≠st.heap.objs.size->g2.get? b=some o->((g2.update st.heap.objs.size (JO (·.push Ia))).update st.heap.objs.size (JO (·.pop))).get? b=some o:=
  λb o hb e=>(Hx _ _ (Jj hb)).trans ((Hx _ _ (Jj hb)).trans e)
 have W:=(v5 (pr:=pr) (wo:=wo) (Ar:=Ar.in1) (I:=I) (S:=S) (T:=T) (ep:=ep) (tb:=tb) (vs:=vs) (by simp[hh]) hob hf hSI hTI).toS;refine GD ⟨Nj F.plain_extend_loop _,codeAny_extend_loopS W (by rw[hlen,Ji];unfold scanBound at hsz;lia) _ hSf _ vs.length 0 _ _ _ rfl (Iz _)
  (rl ws λb hb o e=>oth b o (λq=>hSf (q▸hb)) e) hS₃ (ItemsOf.nil _) λs' acc' c' hm hS' hacc=>?_⟩
 show GW _ Ar (load st.heap.objs.size>>=_) _ _ s';refine Gz (Px hS' ?_);refine GD ?_;rw[uo hacc];obtain⟨g3,gn,dn,tk,os⟩:=s';have e1:gn=st.gens:=hm.gens;have e2:dn=d:=hm.drawn;have e3:os=st.os:=hm.os;subst e1;subst e2;subst e3;refine hQ g3 dn tk vs (λb o e=>?_) (GI hS') hm.toks hper;have lb:=GI e;have nb:b≠st.heap.objs.size:=Hk lb;have nI:b≠I:=Hk (G8 lb (KY hI'));exact hm.heap b o (by simp[nb,nI]) (oth b o nb (up2 b o (up1 b o e)))
end
theorem Bg:∀ {ks ns:List Int},ks.Nodup->(∀ k∈ks,k∈ns)->ns.length=ks.length->ns.Perm ks:=by
 intro ks
 induction ks with
 |nil=>intro ns _ _ hl;cases ns with
  |nil=>exact NX _
  |cons a l=>cases hl
 |cons k ks ih=>
  intro ns hn hm hl;have hk:=hm k (by simp);have pe:=List.perm_cons_erase hk;have hn':=Jv.mp hn;refine pe.trans ((ih hn'.2 (λx hx=>?_) ?_).cons k)
  ·have:=hm x (GK _ hx);exact(List.mem_erase_of_ne (λe:x=k=>hn'.1 (e▸hx))).mpr this
  ·have:=pe.length_eq;simp at this hl;lia
theorem A0:∀ {vs:List GH},(∀ v∈vs,∃ k t,v=.int k t)->∃ ns,L7 vs ns/\ns.length=vs.length/\∀ k t,LW k t∈vs->k∈ns:=by
 intro vs
 induction vs with
 |nil=>intro _;exact⟨[],.nil,rfl,λ_ _ h=>by cases h⟩
 |cons v vs ih=>
  intro h;obtain⟨k,t,rfl⟩:=h v (by simp);obtain⟨ns,a1,a2,a3⟩:=ih λw hw=>h w (GK _ hw)
  refine⟨k::ns,.cons k t a1,by simp[a2],λk' t' hk=>?_⟩;rcases GR.mp hk with e|e
  ·cases e;simp
  ·exact GK _ (a3 _ _ e)
theorem fS {n:Nat}(ho:h.get? a=some (K6 "list" vs.toArray n)):∃ m,(QK h a vs out).get? a=some (K6 "list" out m):=by
 have ha:=GI ho;unfold QK;have e1:=NC ho (λ_=>#[]);have e2:(((h.update a (JO λ_=>#[])).push (K6 "tuple" vs.toArray 0)).push (K6 "list" #[] 0)).get? a=_:=GC _ (GC _ e1);exact⟨_,NC e2 (λ_=>out)⟩
theorem e_ (hb:a≠b)(e:h.get? b=some o):(QK h a vs out).get? b=some o:=by
 unfold QK;rw[Hx _ _ hb];exact GC _ (GC _ ((Hx _ _ hb).trans e))
section
variable {pr:Hv}{wo:IN}{Ar:IR}{Ex:GH->GJ->Prop}{st:GJ}
theorem sK (hh:Ar.handled=none) (hu:eG pr wo (!p7 wo) st.heap S ks) (h64:ks.length < 64)
  (h:∀ (L:G7) (g:JI) (d:Drawn) (tk:Nat) (its:Array GH) (ns:List Int) (n:Nat),st.heap.objs.size<=L->g.get? L=some (K6 "list" its n)->L7 its.toList ns->ns.Perm ks->ns.Pairwise (·<=·) ->
   (∀ b o,st.heap.get? b=some o->g.get? b=some o)->st.toks<=tk->Q (.ref L) { st with heap:=g,drawn:=d,toks:=tk }) :
  GW (Hl pr wo) Ar (call (.builtin "sorted") [.ref S]) Q Ex st:=by
 obtain⟨ob,xs,ep,tb,g1,g2,g3,g4,g5,g6,g7,g8,g9,g10⟩:=hu;refine NU kind_sorted plain_sorted entry_sorted (args_sorted1 _) ?_;unfold Kp.«sorted»;refine Gz (m:=checkCount "sorted" 1 1 _) (GD ?_);refine Gz (qt (by simp[hh]) g1 g2 g3 g7 g10 g6 λg d tk vs up le lt hp=>?_);refine Gz (OF ?_ (by rw[hp.length_eq,Ji];simp;lia));have hv:∀ v∈vs,∃ k t,v=LW k t:=λv hv=>by
  obtain⟨e,he,rfl⟩:=HH.mp (hp.mem_iff.mp hv);obtain⟨⟨k,q,_⟩,_⟩:=g4 e he;obtain⟨t,q'⟩:=Om q;exact⟨k,t,q'⟩
 obtain⟨ns,i1,i2,i3⟩:=A0 hv;have hl:vs.length=ks.length:=by rw[hp.length_eq];simp[g8]
 have hns:ns.Perm ks:=Bg g9 (λk hk=>by
  obtain⟨e,he,q⟩:=(g5 k).mp hk;obtain⟨t,q'⟩:=Om q;exact i3 k t (q'▸hp.mem_iff.mpr (HH.mpr ⟨e,he,rfl⟩))) (by lia)
 have hoL:(g.push (K6 "list" vs.toArray 0)).get? g.objs.size=some (K6 "list" vs.toArray 0):=GL _ rfl;refine Gz (Ij (IF slot_list_sort ⟨_,hoL,rfl⟩ entry_list_sort (list_sort_tree hoL i1 (by lia) λout ns' a1 a2 a3=>⟨_,rfl,?_⟩) (args_list_sort _)));obtain⟨m,hm⟩:=fS (out:=out) hoL;refine GD ⟨_,rfl,h g.objs.size _ d tk out ns' m (Kc le) hm a1 (a2.trans hns) a3 (λb o e=>?_) lt⟩;exact e_ (JB (GI (up b o e))) (GC _ (up b o e))
end
def met (ns:List Int):List Int:=ns.foldl (λks k=>if k∈ks then ks else ks++[k]) []
theorem wW (ns:List Int)(k:Int):met (ns++[k])=if k∈met ns then met ns else met ns++[k]:=by
 unfold met;rw[List.foldl_append];rfl
theorem pO (ns:List Int):(met ns).length<=ns.length:=by
 have go:∀ (ns ks:List Int),(ns.foldl (λks k=>if k∈ks then ks else ks++[k]) ks).length<=ks.length+ns.length:=by
  intro ns
  induction ns with
  |nil=>intro ks;exact GM _
  |cons a ns ih=>
   intro ks;refine GV (ih _) ?_;dsimp only
   split<;>simp<;>lia
 have:=go ns []
 simpa [met] using this
theorem Bb (ns:List Int)(x:Int):x∈met ns↔x∈ns:=by
 have go:∀ (ns ks:List Int),x∈ns.foldl (λks k=>if k∈ks then ks else ks++[k]) ks↔x∈ks\/x∈ns:=by
  intro ns
  induction ns with
  |nil=>intro ks;simp
  |cons a ns ih=>
   intro ks;rw[List.foldl_cons,ih]
   split
   ·rename_i h
    constructor
    ·rintro(q|q)
     ·exact .inl q
     ·exact .inr (GK _ q)
    ·rintro(q|q)
     ·exact .inl q
     ·rcases GR.mp q with rfl|q
      ·exact .inl h
      ·exact .inr q
   ·simp only[Hy,GR,Hq,Js,or_assoc]
 rw[met,go];simp
section
variable {pr:Hv}{wo:IN}{Ar:IR}{Ex:GH->GJ->Prop}{st:GJ}
theorem mH (h:eG pr wo led H a ks)(k:∀ o,H.get? a=some o->H'.get? a=some o):eG pr wo led H' a ks:=by
 obtain⟨ob,xs,ep,tb,g1,r⟩:=h;exact⟨ob,xs,ep,tb,k _ g1,r⟩
theorem yE (hh:Ar.handled=none) (hlI:l ≠ I) (hSI:S ≠ I) (hSl:S ≠ l) (hi:L7 its.toList ns) (hb:ns.length + 1 < scanBound)
  (hR:∀ g tk,eG pr wo led g S (met ns)->(∀ b o,b≠S->b≠I->st.heap.get? b=some o->g.get? b=some o)->st.toks<=tk->R (.ok (.ret .none)) { st with heap:=g,toks:=tk }):
  ∀ (k i:Nat) (g:JI) (tk:Nat),ns.length-i=k->i<=ns.length->g.IsListIter I l i->g.IsList l its->eG pr wo led g S (met (ns.take i)) ->
   (∀ b o,b≠S->b≠I->st.heap.get? b=some o->g.get? b=some o)->st.toks<=tk ->
   Ky (Hl pr wo) Ar (.builtin "set.update.loop" ⟨[.ref S,.ref I],[]⟩) R { st with heap:=g,toks:=tk }:=by
 have hlen:its.toList.length=ns.length:=IntsAre.length hi;have hsz:its.size=ns.length:=by simpa using hlen
 intro k
 induction k with
 |zero=>
  intro i g tk hk hi' hit hl hu up le;have hin:i=ns.length:=by lia
  refine Ke Ot ?_;rw[JN Mj _];show GW _ Ar.in1 (LG (.ref I)>>=_) _ _ _;refine Gz (wpAny_pyNext_list_end (by simp[hh]) hit hl (by simp;lia) λg' ext=>?_);rw[hin,ON] at hu;exact GD (hR g' tk (mH hu λo e=>ext S o hSI e) (λb o h1 h2 e=>ext b o h2 (up b o h1 h2 e)) le)
 |succ k ih=>
  intro i g tk hk hi' hit hl hu up le;have hlt:i<ns.length:=by lia
  obtain⟨v,hv⟩:∃ v,its[i]?=some v:=⟨its[i]'(by lia),by simp[hsz,hlt]⟩
  obtain⟨t,rfl⟩:=IntsAre.int_at hi i v (by rw[I_];exact hv);refine Ke Ot ?_;rw[JN Mj _];show GW _ Ar.in1 (LG (.ref I)>>=_) _ _ _;refine Gz (OX hit hl hv λg' hit' sb=>?_);show GW _ Ar.in1 (holding [LW (ns.getD i 0) t] (setAdd S (.int (ns.getD i 0) t))>>=_) _ _ _;refine Gz (Ij ?_);unfold setAdd;refine Ij (Gz ((Lg pr wo).pyHash (k:=ns.getD i 0) (intKind_is _ _ _ _) ?_));have hu':eG pr wo led g' S (met (ns.take i)):=mH hu λo e=>by rw[sb.2 S hSI];exact e
  have hroom:(met (ns.take i)).length+1<scanBound:=by
   have:=pO (ns.take i);rw[Ib] at this;lia
  refine vT hu' hroom λg2 sb2 hu2=>?_
  have et:met (ns.take (i+1))=if ns.getD i 0∈met (ns.take i) then met (ns.take i) else met (ns.take i)++[ns.getD i 0]:=by
   rw[<- wW]
   congr 1
   rw[List.take_succ];simp[hlt,O7]
  rw[<- et] at hu2;refine GD ⟨Nj Mj _,ih (i+1) g2 (tk+1) (by lia) hlt ?_ ?_ hu2 (λb o h1 h2 e=>?_) (Nat.le_succ_of_le le)⟩
  ·obtain⟨o,q,r⟩:=hit';exact⟨o,by rw[sb2.2 I (Jj hSI)];exact q,r⟩
  ·obtain⟨o,q,r⟩:=hl;exact⟨o,by rw[sb2.2 l (Jj hSl)];rw[show g'.get? l=g.get? l from sb.2 l hlI];exact q,r⟩
  ·rw[sb2.2 b h1];show g'.get? b=some o;rw[sb.2 b h2];exact up b o h1 h2 e
theorem wu (a:GH)
  (h:Q₁ (.ref st.heap.objs.size) { st with heap:=st.heap.push { cls:=.type "set",dict:=none,data:=.set #[] 0 (.fresh 0 0 (!p7 wo)) } }):
  Ky (Hl pr wo) Ar (.call (.builtin "set.__new__") ⟨[.type "set",a],[]⟩) (wants Q₁ Ex) st:=by
 refine Pn ?_;show GW _ Ar.in1 (do checkBuiltinCall "set.__new__" ⟨[.type "set",a],[]⟩;again (.builtin "set.__new__" ⟨[.type "set",a],[]⟩)) _ _ st;refine Gz (L_ (F.newCall_set_1 a) (GD ⟨Nj F.plain_set_new _,Ke F.entry_set_new ?_⟩));rw[JN F.plain_set_new _];unfold Kp.«set.__new__» Builtin.Frozenset.newClass;have hsub:=sub_set_self;dsimp only
 wp_walk
 refine Lj (GD ?_);dsimp only;simp only[newObj];refine Gz (wpAny_alloc (GD ?_));exact GD h
theorem qu (h:H.get? a=some { cls:=.type "set",dict:=none,data:=.set #[] 0 (.fresh 0 0 led) }):eG pr wo led H a []:=
 ⟨_,#[],0,_,h,⟨rfl,rfl,rfl⟩,rfl,λe he=>by simp at he,λk=>by simp,by decide,by cases led<;>decide,rfl,N0,Oc,rfl⟩
end
section
variable {pr:Hv}{wo:IN}{Ar:IR}{Ex:GH->GJ->Prop}{st:GJ}
theorem xY (hh:Ar.handled=none) (hl:st.heap.IsList l its) (hi:L7 its.toList ns) (hb:ns.length + 1 < scanBound)
  (h:∀ (g:JI) (tk:Nat),eG pr wo (!p7 wo) g st.heap.objs.size (met ns)->(∀ b o,st.heap.get? b=some o->g.get? b=some o)->st.toks<=tk->Q (.ref st.heap.objs.size) { st with heap:=g,toks:=tk }):
  GW (Hl pr wo) Ar (call (.type "set") [.ref l]) Q Ex st:=by
 obtain⟨c,tl,hmro⟩:=Lz.mro;have hmade:=Lz.made;have hsub:=Lz.sub;refine Mf (Pn ?_);show GW _ _ (callAny (.type "set") _) _ _ _;refine GD ⟨Qa _ (by decide +kernel),Ke F.entry_type_call ?_⟩;rw[Around.under_plain (weight_type_call_type "set" [.ref l] []) rfl];have h1:=Lz.notType;have h2:=Lz.canCreate;have hct:=F.typeCall_set_1 (.ref l)
 repeat (any_goals (first|assumption|wp_step))
 refine K9 (wu (pr:=pr) (wo:=wo) (Ex:=Ex) (.ref l) (Q₁:=λobj s₁=>obj=.ref st.heap.objs.size/\s₁={ st with heap:=st.heap.push { cls:=.type "set",dict:=none,data:=.set #[] 0 (.fresh 0 0 (!p7 wo)) } }) ⟨rfl,rfl⟩) λr s₁ hr=>?_
 cases r with
 |error e=>exact hr
 |ok fl=>
  cases fl with
  |ret obj=>
   obtain⟨rfl,rfl⟩:=hr;have hS:(st.heap.push { cls:=.type "set",dict:=none,data:=.set #[] 0 (.fresh 0 0 (!p7 wo)) }).get? st.heap.objs.size=some { cls:=.type "set",dict:=none,data:=.set #[] 0 (.fresh 0 0 (!p7 wo)) }:=GL _ rfl;have hz:(st.heap.push { cls:=.type "set",dict:=none,data:=.set #[] 0 (.fresh 0 0 (!p7 wo)) }).objs.size=st.heap.objs.size+1:=II _ _;have up0:∀ b o,st.heap.get? b=some o->(st.heap.push { cls:=.type "set",dict:=none,data:=.set #[] 0 (.fresh 0 0 (!p7 wo)) }).get? b=some o:=λb o e=>GC _ e
   generalize st.heap.push { cls:=.type "set",dict:=none,data:=.set #[] 0 (.fresh 0 0 (!p7 wo)) }=g1 at hS hz up0 ⊢;have hT:Qp { st with heap:=g1 } (.ref st.heap.objs.size) "set":=⟨_,hS,rfl⟩
   have hli:=Lz.init.lookup;have hbi:=Lz.init.bind (.ref st.heap.objs.size)
   repeat (any_goals (first|assumption|wp_step))
   refine K9 (KQ (R:=wants (fun r s₂=>r=.none/\∃ g tk,s₂={ st with heap:=g,toks:=tk }/\eG pr wo (!p7 wo) g st.heap.objs.size (met ns) /\
     (∀ b o,st.heap.get? b=some o->g.get? b=some o)/\st.toks<=tk) Ex) Lz.init.plain F.entry_set_init (check_set_init_1 hT ?_)) λr₂ s₂ hr₂=>?_
   ·have hl1:g1.IsList l its:=by obtain⟨o,q,r⟩:=hl;exact⟨o,up0 _ _ q,r⟩
    have hlS:l<st.heap.objs.size:=by obtain⟨o,q,r⟩:=hl;exact GI q
    obtain⟨ol,hol,hcl,nl,hdl⟩:=id hl1;obtain⟨ocls,odict,odata,oslots⟩:=ol;simp only at hcl hdl;subst hcl;subst hdl;have hsls:=F.sub_list_set;have hslf:=F.sub_list_frozenset;have hne:(Kj "list"==Kj "dict")=false:=by decide
    unfold Kp.«set.__init__» noKeywords Builtin.Frozenset.updateFrom;generalize hPI:PQ=PI
    wp_walk
    subst hPI;refine J7 hl1 ?_;refine Gz (PR ?_);have up1:∀ b o,g1.get? b=some o->(g1.push { cls:=.type "list_iterator",data:=.fields #[.ref l,.int 0 0] }).get? b=some o:=λb o e=>GC _ e
    have hl1s:l<g1.objs.size:=by rw[hz];exact KZ hlS
    have hSs:st.heap.objs.size<g1.objs.size:=by rw[hz];exact JS _
    refine yE (st:={ st with heap:=g1 }) (l:=l) (I:=g1.objs.size) (S:=st.heap.objs.size) (led:=!p7 wo) (by simp[hh]) (Hk hl1s) (Hk hSs) (JB hlS) hi hb (λg tk a1 a2 a3=>?_)
     (ns.length-0) 0 _ st.toks rfl (Iz _) ⟨_,GL _ rfl,rfl,rfl⟩ (hl1.push _) (qu (up1 _ _ hS)) (λb o _ _ e=>up1 b o e) (GM _)
    show GW _ _ _ _ _ _;refine GD ?_;show GW _ _ (ret Ia) _ _ _;refine GD ⟨rfl,g,tk,rfl,a1,λb o e=>?_,a3⟩;have lb:=GI e;exact a2 b o (Hk lb) (Hk (Nat.lt_trans lb hSs)) (up0 b o e)
   ·cases r₂ with
    |error e=>exact hr₂
    |ok fl₂=>
     cases fl₂ with
     |ret r=>
      obtain⟨rfl,g,tk,rfl,a1,a2,a3⟩:=hr₂
      repeat (any_goals (first|assumption|wp_step))
      exact h _ _ a1 a2 a3
     |_=>exact hr₂.elim
  |_=>exact hr.elim
end
open L2
theorem ou:∀ {ns:List Int}{us:List GH},aI (ns.map V.int) us->L7 us ns:=by
 intro ns
 induction ns with
 |nil=>intro us r;cases r;exact .nil
 |cons a ns ih=>
  intro us r;cases r with
  |cons h t=>obtain⟨k,rfl⟩:=h;exact .cons a k (ih t)
theorem eY:∀ {ns:List Int}{us:List GH},L7 us ns->aI (ns.map V.int) us:=by
 intro ns us h
 induction h with
 |nil=>exact .nil
 |cons n t _ ih=>exact .cons ⟨t,rfl⟩ ih
theorem vh (ns:List Int):(met ns).Nodup:=by
 have go:∀ (ns ks:List Int),ks.Nodup->(ns.foldl (λks k=>if k∈ks then ks else ks++[k]) ks).Nodup:=by
  intro ns
  induction ns with
  |nil=>intro ks h;exact h
  |cons a ns ih=>
   intro ks h;refine ih _ ?_;dsimp only
   split
   ·exact h
   ·rename_i hn
    exact QA.mpr ⟨h,by simp,λx hx y hy=>by
     rw[G5] at hy;subst hy;exact λq=>hn (q▸hx)⟩
 exact go ns [] N0
theorem vf {ns:List Int}(h1:ns.Pairwise (·<=·))(h2:ns.Nodup):ns.Pairwise (·<·):=by
 induction ns with
 |nil=>exact .nil
 |cons a l ih=>
  have p:=Lr.mp h1;have n:=Jv.mp h2;refine Lr.mpr ⟨λx hx=>?_,ih p.2 n.2⟩;have:=p.1 x hx;have ne:a≠x:=λe=>n.1 (e▸hx)
  lia
section
variable {X:Cx}{K:GB}{pins:List (G7×Obj)}{σ:L2.St}{H:Hp}{s:GJ}
theorem vL (I:aw X pins σ H s)(d:Drawn):aw X pins σ H { s with drawn:=d }:=⟨I.ok,I.os,I.bare,I.base,I.loc,I.cell,I.free,I.freeC,I.pin,I.hok,I.len⟩
def Gi (K:GB)(ta:TA):TE:=λσ H Q=>ta σ H λvs H1=>∃ (q:G7) (ns:List Int),vs=[.ref q]/\bg K H1 q (ns.map V.int)/\ns.length<64 /\
 ∀ (L:G7) (ns':List Int),H1 L=none->ns'.Pairwise (·<·)->(∀ x:Int,x∈ns'↔x∈ns)->ns'.length<=ns.length->Q (.ref L) (upd H1 L (.lst (ns'.map V.int)))
theorem ky (hK:X.K=K) {e:JG}{ta:TA}{p p2 pos pos2:Pos} (hc:X.calm=true) (hg:Gl X "sorted") (hm:X.mg "sorted"=none) (hg2:Gl X "set") (hm2:X.mg "set"=none) (ha:WA X [e] ta)
  (hs:G9 [e] X.env=(false,KH e X.env)::G9 [] X.env:=by rfl)(hs2:(Lh pos2 (G9 [] X.env)).any (·.1)=false:=by rfl)
  (hs3:G9 [Expr.Call (.Name "set" p2) [e] [] pos2] X.env=[(false,KH (.Call (.Name "set" p2) [e] [] pos2) X.env)]:=by rfl):
  WE X (.Call (.Name "sorted" p) [.Call (.Name "set" p2) [e] [] pos2] [] pos) (Gi K ta):=by
 have ha:=ha.go;refine⟨?_⟩;subst hK;intro pins s σ H Q I h;refine Kk (fc I hg hm j9 ?_);refine M2 ?_ hs3 rfl;rw[hs3];show GW _ _ (spliced ((false,KH (.Call (.Name "set" p2) [e] [] pos2) X.env)::[])) _ _ s;refine Kg ?_;refine Call_ (fc I hg2 hm2 BM (Jk (bf (ha pos2 pins s σ H _ I h) λus s1 ⟨vs,H1,I1,r1,q1⟩=>?_) hs hs2));obtain⟨q,ns,rfl,hq,hl,k⟩:=q1;cases r1 with
 |cons ru rt=>
 cases rt;cases ru;obtain⟨its,rv,⟨o,n,po,pc,pd,pdat⟩,hsz⟩:=I1.list hq;refine xY (I1.ok.hd hc) ⟨o,po,pc,n,pdat⟩ (ou rv) (by unfold scanBound;lia) λg tk hu up le=>N9 ?_
 refine sK (st:={ s1 with heap:=g,toks:=tk }) (I1.ok.hd hc) hu (by have:=pO ns;lia) λL g2 d tk2 out ns' m hL hgL io pe sr up2 pX=>?_
 have lL:s1.heap.objs.size<=L:=GV (Kc (by obtain⟨_,_,_,_,w,_⟩:=hu;exact GI w)) hL;have fL:=I1.hok.fresh lL;have FL:=I1.fpOk lL fL;have J0:aw X pins σ H1 { s1 with heap:=g2,toks:=tk2,drawn:=d }:=vL (I1.kept (t':=tk2) λb o e=>up2 b o (up b o e)) d;have ln:ns'.length<=ns.length:=by rw[pe.length_eq];exact pO ns
 have J1:=hV (o:=.lst (ns'.map V.int)) J0 fL (GV I1.sz lL) FL.2.1 FL.2.2.2.2.1 FL.2.2.2.2.2 ⟨by rw[GG,Ji];lia,out.toList,m,eY io,hgL⟩;exact⟨.ref L,_,J1,rfl,k L ns' fL (vf sr (pe.nodup_iff.mpr (vh ns))) (λx=>by rw[pe.mem_iff,Bb]) ln⟩
def uN (K:GB):List V->Hp->VK->Prop:=λvs H Q=>∃ (q:G7) (ns:List Int),vs=[.ref q]/\bg K H q (ns.map V.int)/\ns.length<64 /\
 ∀ (L:G7) (ns':List Int),H L=none->ns'.Pairwise (·<=·)->ns'.Perm ns->Q (.ref L) (upd H L (.lst (ns'.map V.int)))
theorem qx:br X (.builtin "sorted") (uN X.K):=by
 intro pins s σ H vs us Q I r h;obtain⟨q,ns,rfl,hq,hl,k⟩:=h;cases r with
 |cons ru rt=>
 cases rt;cases ru;obtain⟨its,rv,⟨o,n,po,pc,pd,pdat⟩,hsz⟩:=I.list hq;have hln:its.length=ns.length:=by have:=aI.length rv;simpa using this.symm
 refine sorted_ints (vs:=its) (ns:=ns) ⟨o,po,pc,n,pdat⟩ (ou rv) (by lia) λout ns' a1 a2 a3=>?_
 have hz:((s.heap.push (K6 "list" #[] 0)).update s.heap.objs.size (JO (·++its.toArray))).objs.size=s.heap.objs.size+1:=by rw[OJ,size_push']
 have hoL:(((s.heap.push (K6 "list" #[] 0)).update s.heap.objs.size (JO (·++its.toArray))).push (K6 "list" its.toArray 0)).get? (s.heap.objs.size+1)=some (K6 "list" its.toArray 0):=by
  rw[<- hz];exact GL _ rfl
 have up:∀ b o,s.heap.get? b=some o->(sortedAll s.heap its out).get? b=some o:=λb o e=>by
  have lb:=GI e;unfold sortedAll;refine e_ (JB (KZ lb)) (GC _ ?_);rw[Hx _ _ (JB lb)];exact GC _ e
 obtain⟨m,hm⟩:=fS (out:=out) hoL;have lL:s.heap.objs.size<=s.heap.objs.size+1:=Ow _;have fL:=I.hok.fresh lL;have FL:=I.fpOk lL fL;have J0:aw X pins σ H { s with heap:=sortedAll s.heap its out }:=I.kept (t':=s.toks) up;have ln:ns'.length=ns.length:=a2.length_eq;have J1:=hV (o:=.lst (ns'.map V.int)) J0 fL (GV I.sz lL) FL.2.1 FL.2.2.2.2.1 FL.2.2.2.2.2 ⟨by rw[GG,Ji];lia,out.toList,m,eY a1,hm⟩;exact⟨.ref (s.heap.objs.size+1),_,J1,rfl,k _ ns' fL a3 a2⟩
theorem yh (e:X.K=K):br X (.builtin "sorted") (uN K):=by subst e;exact qx
end
theorem kE {g:TG}{tt:TT}{te:TE}{σ0:L2.St}{Fin:List V->Hp->Prop}{H1:Hp}{lo:Int}{t r:G7}{n:Nat}{m:Int} (tw:bI H1 t r) (hl:n <= 1000)
  (he:∀ (i:Nat) (H:Hp),i<n->bI H t r->Mv [t,r] H1 H->j_ g tt te σ0 (.int (lo+i)) H λy H'=>∃ k:Int,y=.int k/\0<=k/\k<=m/\bI H' t r/\Mv [t,r] H H')
  (hd:∀ (ks:List Int) (H:Hp),ks.length=n->(∀ k∈ks,0<=k/\k<=m)->bI H t r->Mv [t,r] H1 H->Fin (ks.map V.int) H):dO (yd lo n) g tt te σ0 Fin H1:=by
 refine iO (λi ys H=>bI H t r/\Mv [t,r] H1 H/\∃ ks:List Int,ks.length=i/\(∀ k∈ks,0<=k/\k<=m)/\ys=ks.map V.int) ⟨tw,Mv.refl,[],rfl,λ_ h=>(Hq h).elim,rfl⟩ hl (λi ys H hi p=>?_) (λi ys H hi p=>?_) (λys H p=>?_)
 ·obtain⟨_,_,ks,e,_,rfl⟩:=p;rw[GG,e];exact GM _
 ·obtain⟨tw2,mv2,ks,e,hk,rfl⟩:=p;intro R kk S;refine he i H hi tw2 mv2 R (λy H' hy=>?_) S;obtain⟨k,rfl,k0,k1,wA,mv3⟩:=hy;refine kk _ _ ⟨wA,mv2.trans mv3,ks++[k],by simp[e],λx hx=>?_,by simp⟩;rcases Hy.mp hx with h|h
  ·exact hk x h
  ·rw[G5] at h;subst h;exact⟨k0,k1⟩
 ·obtain⟨tw2,mv2,ks,e,hk,rfl⟩:=p;exact hd ks H e hk tw2 mv2
theorem uB (ps:List Pt):iq (ps.map h_)=true:=by
 induction ps with
 |nil=>rfl
 |cons p ps ih=>rw[G_];simp only[iq,G6];exact⟨rfl,ih⟩
theorem uG {K:GB}{H:Hp}:∀ {ns:List Int}{ys:List V},aE K H (ns.map IG) ys->ys=ns.map V.int
 |[],_,.nil=>rfl
 |_::_,_,.cons (.int _) q=>by rw[uG q];rfl
theorem zd (xs:List V)(n:Nat)(h:1<=n):ni xs none (some ((n:Int)-1))=xs.take (n-1):=by
 unfold ni;have e:((n:Int)-1)=((n-1:Nat):Int):=by lia
 rw[e,HT.sIx_none,HT.sIx_nat,PM,QX];apply Od;intro i;rw[NL,NL]
 by_cases h1:i<n-1
 ·by_cases h2:i<xs.length
  ·rw[Ie (by lia),Ie h1]
  ·rw[Hu (by lia),Ie h1,M1 (by lia)]
 ·rw[Hu (by lia),Hu h1]
structure Pl (last:Int)(ns:List Int):Prop where
 up:ns.Pairwise (·<·)
 z:ns[0]?=some 0
 l:ns.getLast?=some last
 inn:∀ x∈ns,0<=x/\x<=last
 two:2<=ns.length
 few:ns.length<=12
theorem lW {R:Int->Int->Prop}{ns:List Int}(h:ns.Pairwise R){i j:Nat}{a b:Int}(hij:i<j)(ea:ns[i]?=some a)(eb:ns[j]?=some b):R a b:=by
 obtain⟨hi,rfl⟩:=GU.mp ea;obtain⟨hj,rfl⟩:=GU.mp eb;exact LU.mp h i j hi hj hij
theorem qg {ns:List Int}{a:Int}(h:ns.getLast?=some a):ns[ns.length-1]?=some a:=by
 rw[Ja] at h;exact h
theorem Ee {last:Int}{ns:List Int}(h1:1<=last)(up:ns.Pairwise (·<·))(m0:0∈ns)(ml:last∈ns)(inn:∀ x∈ns,0<=x/\x<=last)(few:ns.length<=12):Pl last ns:=by
 obtain⟨i,hi,ei⟩:=IP m0;obtain⟨j,hj,ej⟩:=IP ml;have ei':ns[i]?=some 0:=by rw[GF hi,ei]
 have ej':ns[j]?=some last:=by rw[GF hj,ej]
 have i0:i=0:=by
  by_cases h:i=0
  ·exact h
  ·have h0:ns[0]?=some ns[0]:=GF (by lia);have a:=lW up (by lia) h0 ei';have b:=(inn ns[0] (KB _)).1;lia
 have jl:j=ns.length-1:=by
  by_cases h:j=ns.length-1
  ·exact h
  ·have hl:ns[ns.length-1]?=some ns[ns.length-1]:=GF (by lia);have a:=lW up (by lia) ej' hl;have b:=(inn ns[ns.length-1] (KB _)).2;lia
 have ne:i≠j:=λe=>by subst e;rw[ei'] at ej';injection ej';lia
 subst i0;refine⟨up,ei',by rw[Ja,<- jl];exact ej',inn,by lia,few⟩
theorem Dj {last:Int}{ns:List Int}{m:Nat}(h:Pl last ns)(m1:1<m)(m2:m<=ns.length):Pl last (ns.take (m-1)++[last])/\(ns.take (m-1)++[last]).length=m:=by
 have len:(ns.take (m-1)++[last]).length=m:=by rw[IB,Ib];simp;lia
 refine⟨⟨?_,?_,by simp,?_,by lia,by have:=h.few;lia⟩,len⟩
 ·refine PH.mpr ⟨h.up.sublist (Og _ _),List.pairwise_singleton _ _,λa ha b hb=>?_⟩;rw[G5] at hb;subst hb;obtain⟨i,hi,rfl⟩:=IP ha;rw[Ib] at hi;rw[Of];exact lW h.up (i:=i) (j:=ns.length-1) (by lia) (GF (by lia)) (qg h.l)
 ·rw[KJ (by rw[Ib];lia),NL,Ie (by lia)];exact h.z
 ·intro x hx;rcases Hy.mp hx with q|q
  ·exact h.inn x (PF q)
  ·rw[G5] at q;subst q;exact h.inn _ (KO h.l)
theorem B6 {last:Int}(h:1<=last):Pl last [0,last]:=⟨by simp;lia,rfl,rfl,λx hx=>by simp at hx;lia,by simp,by simp⟩
theorem tS {last:Int}{ns vs:List Int}(h:Pl last ns)(l1:last<=1000)(hv:vs.Pairwise (·<=·))(iv:∀ x∈vs,0<=x/\x<=1000)(hl:vs.length=ns.length):pM (ns.zip vs)/\∃ z,(ns.zip vs).getLast?=some z/\z.1=last:=by
 have len:(ns.zip vs).length=ns.length:=by rw[Nr];lia
 have two:=h.two;have few:=h.few;refine⟨⟨by lia,by lia,λp hp=>?_,λp hp=>?_,λi p q e1 e2=>?_⟩,?_⟩
 ·have:=(Ip.mp hp).1;rw[h.z] at this;injection this with e
  exact e.symm
 ·obtain⟨a,b⟩:=KW (a:=p.1) (b:=p.2) hp;have:=h.inn _ a;have:=iv _ b;exact⟨by lia,by lia,by lia,by lia⟩
 ·obtain⟨a1,b1⟩:=Ip.mp e1;obtain⟨a2,b2⟩:=Ip.mp e2;exact⟨lW h.up (JS i) a1 a2,lW hv (JS i) b1 b2⟩
 ·have e:=qg h.l;have hb:ns.length-1<vs.length:=by lia
  refine⟨(last,vs[ns.length-1]),?_,rfl⟩;rw[Ja,len];exact Ip.mpr ⟨e,GF hb⟩
def ov (B:Int)(r:Rat):Int:=r.num*(B/(r.den:Int))
structure K2 (K:GB)(ps:List Pt)(H:Hp)(t r:G7)(v:V):Prop where
 tw:bI H t r
 cv:tZ K (cut [t,r] H) ps v
def HB (k:Nat)(d:Il):Prop:=∀ ds,d=.tuple ds->ds.length<=1000/\∀ q,rD q∈ds->Bq k q
theorem yV {l m:Int}(h:j5 l m d=true):∃ n:Int,d=.int n/\l<=n/\n<=m:=by
 cases d with
 |int n=>
  have h:(decide (l<=n)&&decide (n<=m))=true:=h;rw[G6,Io,Io] at h;exact⟨n,rfl,h.1,h.2⟩
 |_=>cases h
def zG:Il->Pt
 |.tuple [.int a,.int b]=>(a,b)
 |_=>(0,0)
theorem AS (p:Pt):zG (h_ p)=p:=rfl
def BJ (ps:List Pt):Bool:=((ps.zip (ps.drop 1)).map λz=>decide (z.1.1<z.2.1)&&decide (z.1.2<=z.2.2)).all id
def kf (ps:List Pt):Bool:=decide ((ps.getD 0 (0,0)).1=0)
def sj:Il->Bool
 |.list ds=>decide (2<=ds.length)&&(decide (ds.length<=12)&&((ds.map (kG 2 0 1000)).all id&&(kf (ds.map zG)&&BJ (ds.map zG))))
 |_=>false
theorem Fz (h:kG 2 0 1000 d=true):∃ p:Pt,d=h_ p/\p.In:=by
 cases d with
 |tuple ds=>
  have h:(decide ((ds.length:Int)=2)&&(ds.map (j5 0 1000)).all id)=true:=h;rw[G6,Io] at h;obtain⟨hl,h⟩:=h
  match ds,hl,h with
  |[x,y],_,h=>
   have h:(j5 0 1000 x&&(j5 0 1000 y&&true))=true:=h;simp only[G6,LJ] at h;obtain⟨h1,h2⟩:=h;obtain⟨n,rfl,n0,n1⟩:=yV h1;obtain⟨m,rfl,m0,m1⟩:=yV h2;exact⟨(n,m),rfl,n0,n1,m0,m1⟩
 |_=>cases h
theorem Ci:∀ {ds:List Il},(ds.map (kG 2 0 1000)).all id=true->∃ ps:List Pt,ds=ps.map h_/\∀ p∈ps,p.In
 |[],_=>⟨[],rfl,λ_ h=>by cases h⟩
 |d::ds,h=>by
  have h:(kG 2 0 1000 d&&(ds.map (kG 2 0 1000)).all id)=true:=h;rw[G6] at h;obtain⟨p,rfl,ip⟩:=Fz h.1;obtain⟨ps,rfl,is⟩:=Ci h.2;refine⟨p::ps,rfl,λr hr=>?_⟩;rcases GR.mp hr with rfl|hr
  ·exact ip
  ·exact is r hr
theorem Di (ps:List Pt):(ps.map h_).map zG=ps:=by
 rw[Ks];exact(PZ (λp _=>AS p)).trans (List.map_id ps)
theorem AB (h:BJ ps=true):∀ (i:Nat) (p q:Pt),ps[i]?=some p->ps[i+1]?=some q->p.1<q.1/\p.2<=q.2:=λi p q e1 e2=>by
 unfold BJ at h;rw[M0,Hz] at h;have m:(p,q)∈ps.zip (ps.drop 1):=GS (i:=i) ((Ip (z:=(p,q))).mpr ⟨e1,by rw[KD,Pa];exact e2⟩);have:=h _ m;simp only[Rx,id,G6,Io] at this;exact this
theorem xO (h:sj d=true):∃ ps,d=pq ps/\pM ps:=by
 cases d with
 |list ds=>
  have h:(decide (2<=ds.length)&&(decide (ds.length<=12)&&((ds.map (kG 2 0 1000)).all id&&(kf (ds.map zG)&&BJ (ds.map zG)))))=true:=h;simp only[G6,Io] at h;obtain⟨h1,h2,h3,h4,h5⟩:=h;obtain⟨ps,rfl,is⟩:=Ci h3;rw[Di] at h4 h5;rw[GG] at h1 h2;refine⟨ps,rfl,h1,h2,λp e=>?_,is,AB h5⟩;unfold kf at h4;have h4:=IY h4;rw[show ps.getD 0 (0,0)=p by simp[O7,e]] at h4;exact h4
 |_=>cases h
theorem zX (h:∀ ds,d≠.list ds):sj d=false:=by
 cases d<;>first|rfl|exact absurd rfl (h _)
def iL (elt:JG)(gens:List Mi)(scope:LF)(pos:Pos)(acc:GH)(env:Env)(d:Nat):Sem Unit:=match gens[d+1]? with
 |some g'=>do
  let x <- KH g'.iter env
  QL g'.iter.pos
  let x <- if g'.is_async != 0 then foldedIterable g'.iter x else Jc g'.iter env x
  let _ <- runOwn (.compStart (.ListComp elt gens scope pos) (d+1) (<- holding [x] (if g'.is_async != 0 then asyncIter x else PQ x)) acc env) env
 |none=>do let _ <- call (.builtin "list.append") [acc,<- KH elt env]
theorem kc {d:Nat} (h:gens[d]?=some ⟨target,iter,ifs,0⟩) :
  Ra (.ListComp elt gens scope pos) d it acc env=(do
   QL iter.pos
   match <- LG it with
   |none=>pure (.done .next)
   |some v=>
    Kw target it v
    assign target env v
    let mut ok:=true
    for c in ifs do
     if ok then ok <- Rk c env (KH c env)
    if ok then
     iL elt gens scope pos acc env d
    again (.compLoop (.ListComp elt gens scope pos) d it acc env)):=by
 unfold Ra iL;dsimp only;rw[h];cases hg:gens[d+1]? with
 |none=>rfl
 |some g'=>
  dsimp only;have z0:((0:Nat) != 0)=false:=rfl
  by_cases hz:(g'.is_async != 0)=true
  ·simp only[hz,z0,bind_assoc,K5,Iv,JU];rfl
  ·have hz:(g'.is_async != 0)=false:=by simpa using hz
   simp only[hz,z0,bind_assoc,K5,Iv,JU];rfl
theorem kh {d:Nat} (hd:gens[d]?=some ⟨target,iter,ifs,0⟩) (I:Nat->GJ->Prop)
  (eS:∀ n s,I n s->GW (Hl prog w) A (LG it) (λr s₁=>match r with
   |none=>R (.ok .next) s₁
   | some v=>GW (Hl prog w) A (Kw target it v) (fun _ s₁'=>GW (Hl prog w) A (assign target env v) (fun _ s₂=>
     GW (Hl prog w) A (forIn ifs true λc r=>if r=true then do let ok <- Rk c env (KH c env);pure (JJ ok) else pure (JJ r)) (λok s₃=>
      if ok=true then GW (Hl prog w) A (iL elt gens scope pos acc env d) (λ_ s₅=>∃ m,m<n/\I m s₅) (λ_ _=>False) s₃
      else ∃ m,m<n/\I m s₃) (λ_ _=>False) s₂) (λ_ _=>False) s₁') (λ_ _=>False) s₁) (λ_ _=>False) s)
  (n:Nat)(h:I n s):Ky (Hl prog w) A (.compLoop (.ListComp elt gens scope pos) d it acc env) R s:=by
 refine codeAny_loop rfl I (λn s hI=>?_) n h;show GW _ A ((Ra (.ListComp elt gens scope pos) d it acc env).onRaise (λx=>do M5 x env;Pq x)) _ _ s;refine wpAny_noted ?_;rw[kc hd];refine Gz (Jr (Gz (Hm (eS n s hI) (λr s₁ h₁=>?_) λ_ _ z=>z.elim)));cases r with
 |none=>exact GD h₁
 |some v=>
  refine Gz (Hm h₁ (λ_ s₁' h₁'=>?_) λ_ _ z=>z.elim);refine Gz (Hm h₁' (λ_ s₂ h₂=>Gz (Hm h₂ (λok s₃ h₃=>?_) λ_ _ z=>z.elim)) λ_ _ z=>z.elim);cases ok with
  |false=>exact GD ⟨rfl,h₃⟩
  |true=>exact Gz (Hm h₃ (λ_ s₅ h₅=>GD ⟨rfl,h₅⟩) λ_ _ z=>z.elim)
theorem pJ {d:Nat} (hd:gens[d]?=some ⟨target,iter,ifs,0⟩)
  (h0:Ky (Hl prog w) A (.compLoop (.ListComp elt gens scope pos) d it acc env) R s)
  (h:GW (Hl prog w) A (PQ it) (λit' s'=>Ky (Hl prog w) A (.compLoop (.ListComp elt gens scope pos) d it' acc env) R s')
   (notedBy (Hl prog w) A env λx s'=>R (.error x) s') s) :
  Ky (Hl prog w) A (.compStart (.ListComp elt gens scope pos) d it acc env) R s:=by
 refine Pn ?_;show GW _ _ ((compStart (.ListComp elt gens scope pos) d it acc env).onRaise (λx=>do M5 x env;QL theWindowsPlace)) _ _ s;refine wpAny_notedAt ?_;have hd':(clausesOf (.ListComp elt gens scope pos))[d]?=some ⟨target,iter,ifs,0⟩:=hd;unfold compStart;rw[hd'];show GW _ _ (ask>>=_) _ _ s;refine Gz (Lj (wpAny_ite ?_))
 split
 ·first
   |exact Gz (GD (GD (Rb rfl h0)))
   |exact GD (Rb rfl h0)
 ·first
   |exact Gz (LN (Gz (Jr (Gz (Hm h (λit' s' h'=>GD (Rb rfl h')) λ_ _ x=>x)))))
   |(refine Gz (LN ?_);show GW _ _ (QL iter.pos>>=_) _ _ s;exact Gz (Jr (Gz (Hm h (λit' s' h'=>GD (Rb rfl h')) λ_ _ x=>x))))
abbrev TB:=L2.St->Hp->List V->(L2.St->Hp->List V->Prop)->Prop
def sB (its:List GH)(n:Nat):Obj:={ cls:=.type "list",data:=.seq its.toArray n }
def E5 (X:Cx)(pins:List (G7×Obj))(D:G7):Prop:=
 D≠X.env.locals/\(D∈X.ex\/X.s₀.heap.objs.size<=D)/\(∀ x c,X.env.cells.lookup x=some c->c≠D)/\∀ p∈X.pn++pins,p.1≠D
def PB (X:Cx)(elt:JG)(gens:List Mi)(scope:LF)(pos:Pos)(d:Nat)(t:TB):Prop:=
 ∀ (D:G7) (pins:List (G7×Obj)) (s:GJ) (σ:L2.St) (H:Hp) (ys:List V) (its:List GH) (n:Nat) (Q:L2.St->Hp->List V->Prop),aw X ((D,sB its n)::pins) σ H s->E5 X pins D->aI ys its->t σ H ys Q ->
  GW (Hl X.prog X.w) X.A (iL elt gens scope pos (.ref D) X.env d) (λ_ s'=>∃ σ' H' ys' its' n',aw X ((D,sB its' n')::pins) σ' H' s'/\aI ys' its'/\Q σ' H' ys') (λ_ _=>False) s
structure WB (X:Cx)(elt:JG)(gens:List Mi)(scope:LF)(pos:Pos)(d:Nat)(t:TB):Prop where
 go:PB X elt gens scope pos d t
section
variable {X:Cx}{elt:JG}{gens:List Mi}{scope:LF}{pos:Pos}{d:Nat}
def uI (te:TE):TB:=λσ H ys Q=>ys.length<GZ/\te σ H λy H'=>Q σ H' (ys++[y])
theorem uO (hx:X.xe=λ_ _=>False)(hd:gens[d+1]?=none)(he:PE X elt te):PB X elt gens scope pos d (uI te):=by
 intro D pins s σ H ys its n Q I hD rv h;obtain⟨hz,h⟩:=h;unfold iL;rw[hd];dsimp only;have he':=he _ s σ H _ I h;rw[hx] at he';refine Gz (bf he' λy s8 h8=>?_);obtain⟨yv,H8,I8,r8,q8⟩:=h8;have pD:=I8.pin (D,sB its n) (GO _ GX);have hsz:its.toArray.size<=GZ:=by
  have:=rv.length;rw[Hi,<- this];exact Kc hz
 refine Gz (append_at (hsz:=hsz) pD.1 λh9 hs9 hD9=>GD ?_);have J8:aw X pins σ H8 s8:=I8.pins_of λp hp=>I8.pin p (GO _ (GK _ hp))
 have J9:aw X pins σ H8 { s8 with heap:=h9 }:=J8.turned (it:=D) (t':=s8.toks) (λb o hb e=>hs9.extBut b o hb e) pD.2.1 hD.1 hD.2.1 hD.2.2.1 hD.2.2.2;refine⟨σ,H8,ys++[yv],its++[y],n+1,J9.pins_of λp hp=>?_,rv.append (.cons r8 .nil),q8⟩;rcases GR.mp hp with rfl|hp
 ·have e9:({ cls:=.type "list",data:=.seq (its.toArray.push y) (n+1) }:Obj)=sB (its++[y]) (n+1):=by unfold sB;rw[QB]
  exact⟨by rw[<- e9];exact hD9,pD.2.1,pD.2.2.1,pD.2.2.2.1,λv z=>nomatch z⟩
 ·exact J9.pin p (GO _ hp)
def DA (wi:TI)(g:TG)(tt:TT)(tb:TB):TB:=λσ H ys Q=>wi σ H λJ H1=>∃ W:Nat->Nat->L2.St->Hp->List V->Prop,(∃ m,W 0 m σ H1 ys)/\∀ i m σ2 H2 ys2,W i m σ2 H2 ys2 ->
 (J.stop i H2/\Q σ2 H2 ys2) \/
 (J.go i H2/\∀ x H3,J.yld i H2 x H3->g x σ2 H3 λσ3 H4=>tt σ3 H4 λb H5=>if b=true then tb σ3 H5 ys2 λσ' H' ys'=>∃ m',m'<m/\W (i+1) m' σ' H' ys' else ∃ m',m'<m/\W (i+1) m' σ3 H5 ys2)
theorem qN (hx:X.xe=fun _ _=>False) (hc:X.calm=true) (hd:gens[d + 1]?=some ⟨tg,iter,ifs,0⟩) (hi:WI X tg iter wi) (hg:WG X tg g) (ht:zI X ifs tt) (hb:WB X elt gens scope pos (d + 1) tb)
  (hs:∀ x,Jc iter X.env x=pure x:=by intro _;rfl):WB X elt gens scope pos d (DA wi g tt tb):=by
 have hi:=hi.go;have hg:=hg.go;have ht:=ht.go;have hb:=hb.go;refine ⟨?_⟩;intro D pins s σ H ys its n Q I hD rv h;unfold iL;rw [hd];dsimp only;have hi':=hi _ s σ H _ I h;rw [hx] at hi';refine Gz (bf hi' fun v s1 h1=>?_);refine Gz (Jr ?_);show GW _ _ (Jc iter X.env v >>= fun x=>holding [x] (PQ x) >>= fun it=>runOwn (.compStart (.ListComp elt gens scope pos) (d + 1) it (.ref D) X.env) X.env >>= fun _=>pure ()) _ _ s1;rw [hs];refine Gz (GD (Gz (Ij (bf h1 fun itv s2 h2=>?_))));obtain ⟨it,fp,tn,J,H2,rfl,I2,T,st2,f2,W,⟨m0,w0⟩,eS⟩:=h2;refine Gz (wpAny_runOwn ?_);have loop:Ky (Hl X.prog X.w) X.A (.compLoop (.ListComp elt gens scope pos) (d + 1) (.ref it) (.ref D) X.env) (fun r s'=>match r with
   |.ok _=>GW (Hl X.prog X.w) X.A (pure ()) (λ_ s'=>∃ σ' H' ys' its' n',aw X ((D,sB its' n')::pins) σ' H' s'/\aI ys' its'/\Q σ' H' ys') (λ_ _=>False) s'
   |.error e=>cameBackBy (Hl X.prog X.w) X.A X.env (λ_ _=>False) e s') s2:=by
  refine kh hd (λk s'=>∃ i σ' H' ys' its' n',aw X ((D,sB its' n')::pins) σ' H' s'/\tn i s'.heap/\(∀ b∈fp,H' b=none)/\aI ys' its'/\W i k σ' H' ys') ?_ m0
   ⟨0,σ,H2,ys,its,n,I2,st2,λb hb=>(f2 b hb).1,rv,w0⟩
  rintro k s' ⟨i,σ',H',ys',its',n',I',tn',fr',rv',w'⟩;have fpOk:∀ {H':Hp}{o:Obj},(∀ b∈fp,H' b=none)->∀ b∈fp,eN X ((D,o)::pins) H' b:=λ{H' o} hn b hb=>by
   obtain⟨_,g1,g2,g3,g4,g5⟩:=f2 b hb;refine⟨hn b hb,g1,g2,g3,g4,λp hp=>?_⟩;rcases Hy.mp hp with hp|hp
   ·exact g5 p (Jf _ hp)
   ·rcases GR.mp hp with rfl|hp
    ·exact g5 (D,sB its n) (GO _ GX)
    ·exact g5 p (GO _ (GK _ hp))
  rcases eS i k σ' H' ys' w' with ⟨stop,fin⟩|⟨go,step⟩
  ·refine Hm (T.done X rfl rfl rfl hc i _ s' σ' H' (λ_ _=>False) I' (fpOk fr') tn' stop) (λr s1 hr=>?_) λ_ _ z=>z
   obtain⟨rfl,I1⟩:=hr;exact GD ⟨σ',H',ys',its',n',I1,rv',fin⟩
  ·refine Hm (T.item X rfl rfl rfl hc i _ s' σ' H' (λ_ _=>False) I' (fpOk fr') tn' go) (λr s4 hr=>?_) λ_ _ z=>z
   obtain⟨u,rfl,h4⟩:=hr;refine Hm h4 (λ_ s5 h5=>?_) λ_ _ z=>z
   obtain⟨x,H5,I5,r5,y5,tn5,fr5⟩:=h5;have I5':=I5.pinned (fpOk fr5) (T.obj _ _ tn5);have hg':=hg _ s5 σ' H5 x u _ I5' r5 (step x H5 y5);rw[hx] at hg';refine bf hg' λ_ s6 h6=>?_
   obtain⟨σ6,H6,I6,q6⟩:=h6;have ht':=ht _ s6 σ6 H6 _ I6 q6;rw[hx] at ht';refine bf ht' λok s7 h7=>?_
   obtain⟨H7,I7,q7⟩:=h7;have weak:∀ {s8:GJ}{σ8:L2.St}{H8:Hp}{its8:List GH}{n8:Nat},aw X ((D,sB its8 n8)::(pins++bV fp s5.heap)) σ8 H8 s8->aw X ((D,sB its8 n8)::pins) σ8 H8 s8/\tn (i+1) s8.heap/\∀ b∈fp,H8 b=none:=λ{s8 σ8 H8 its8 n8} I8=>by
    refine⟨I8.pins_of λp hp=>I8.pin p (GO _ ?_),T.keep _ _ _ tn5 λb hb o e=>(I8.pin (b,o) (GO _ (GK _ (GO _ (bH hb e))))).1,λb hb=>?_⟩
    ·rcases GR.mp hp with rfl|hp
     ·exact GX
     ·exact GK _ (Jf _ hp)
    ·obtain⟨o,e,_⟩:=T.obj _ _ tn5 b hb;exact(I8.pin (b,o) (GO _ (GK _ (GO _ (bH hb e))))).2.1
   cases ok with
   |false=>
    obtain⟨m',hm,w8⟩:=q7;obtain⟨a,b,c⟩:=weak I7;exact⟨m',hm,i+1,σ6,H7,ys',its',n',a,b,c,rv',w8⟩
   |true=>
    have D7:E5 X (pins++bV fp s5.heap) D:=⟨hD.1,hD.2.1,hD.2.2.1,λp hp=>by
     rcases Hy.mp hp with hp|hp
     ·exact hD.2.2.2 p (Jf _ hp)
     ·rcases Hy.mp hp with hp|hp
      ·exact hD.2.2.2 p (GO _ hp)
      ·exact λz=>(f2 _ (gT hp).1).2.2.2.2.2 (D,sB its n) (GO _ GX) z.symm⟩
    refine Hm (hb D _ s7 σ6 H7 ys' its' n' _ I7 D7 rv' q7) (λ_ s8 h8=>?_) λ_ _ z=>z
    obtain⟨σ8,H8,ys8,its8,n8,I8,rv8,m',hm,w8⟩:=h8;obtain⟨a,b,c⟩:=weak I8;exact⟨m',hm,i+1,σ8,H8,ys8,its8,n8,a,b,c,rv8,w8⟩
 exact pJ hd loop (T.self _ 0 _ _ _ st2 loop)
end
def tU (J:It)(g:TG)(tt:TT)(tb:TB)(σ0:L2.St)(Fin:List V->Hp->Prop)(H1:Hp):Prop:=∃ W:Nat->Nat->List V->Hp->Prop,(∃ m,W 0 m [] H1)/\∀ i m ys H2,W i m ys H2 ->
 (J.stop i H2/\ys.length<=GZ/\Fin ys H2) \/
 (J.go i H2/\∀ x H3,J.yld i H2 x H3->g x σ0 H3 λσ' H4=>tt σ' H4 λb H5=>if b=true then tb σ' H5 ys λ_ H6 ys'=>∃ m',m'<m/\W (i+1) m' ys' H6 else ∃ m',m'<m/\W (i+1) m' ys H5)
section
variable {X:Cx}{pins:List (G7×Obj)}{σ:L2.St}{H H2:Hp}{s s2:GJ}
theorem kD {N:List Str}{scope:LF}{elt tg iter:JG}{ifs:List JG}{cR:List Mi}{pos:Pos}{it:G7}{fp:List G7}{tn:Nat->JI->Prop}{J:It}{g:TG}{tt:TT}{tb:TB}{σ0:L2.St}{Fin:List V->Hp->Prop}
  {E:GH->GJ->Prop}{RR:GH->G7->Ql->GJ->Prop}(hc:X.calm=true)(I:aw X pins σ H2 s2)(S:jN X scope)
  (hcap:fQ X scope N σ σ0)(hlen:σ0.length=N.length)(f2:∀ b∈fp,eN X pins H2 b)(T:kW X.prog X.w X.K tg J fp it tn)(st2:tn 0 s2.heap)
  (hg:∀ C,PG (aA X N scope (ar X scope C) C s2 H2 fp pins) tg g)(ht:∀ C,Dt (aA X N scope (ar X scope C) C s2 H2 fp pins) ifs tt)(he:∀ C,PB (aA X N scope (ar X scope C) C s2 H2 fp pins) elt (⟨tg,iter,ifs,0⟩::cR) scope pos 0 tb)(hw:tU J g tt tb σ0 Fin H2)
  (hRR:∀ (D C:G7) (s':GJ) (H':Hp) (ys:List V),aw X pins σ (upd H' D (.lst ys)) s'->H' D=none->Fin ys H'->(∃ m,s'.heap.Ns C m)->H' C=none->D≠C->s2.heap.objs.size<=C->RR (.ref D) C (.ok .next) s'):
  GW (Hl X.prog X.w) X.A (P8 []) (λacc s₃=>GW (Hl X.prog X.w) X.A (LX scope X.env.globals (uV X.env.cells scope.names []) [] X.env.qual none .none (some X.env)) (λcenv s₄=>
   Ky (Hl X.prog X.w) X.A (.compStart (.ListComp elt (⟨tg,iter,ifs,0⟩::cR) scope pos) 0 (.ref it) acc { cenv with scope:=relabel scope X.env }) (RR acc cenv.locals) s₄) E s₃) E s2:=by
 obtain⟨W,⟨m0,w0⟩,eS⟩:=hw;refine Ig (mI λh1 hns1 own1 kk1=>?_);dsimp only at hns1 own1 kk1 ⊢;generalize hG:s2.heap.push { cls:=.type "list",dict:=none,data:=.seq ([]:List GH).toArray }=G at hns1 own1 kk1 ⊢;have hC:G.objs.size=s2.heap.objs.size+1:=by rw[<- hG,II]
 have hDC:s2.heap.objs.size≠G.objs.size:=by rw[hC];exact Hk (JS _)
 have below:∀ b,b<s2.heap.objs.size->b≠G.objs.size:=λb hb=>by rw[hC];exact Hk (KZ hb)
 have old:∀ b o,s2.heap.get? b=some o->h1.get? b=some o:=λb o e=>kk1 b o (hG▸GC _ e)
 have hacc:h1.get? s2.heap.objs.size=some { cls:=.type "list",data:=.seq ([]:List GH).toArray 0 }:=kk1 _ _ (hG▸GL _ rfl);have cellLt:∀ x c,X.env.cells.lookup x=some c->c<s2.heap.objs.size:=λx c e=>by
  obtain⟨v,q⟩:=I.cell x c e;exact q.lt
 have big:∀ c:G7,G.objs.size+1<=c->s2.heap.objs.size+2<=c:=λc h=>by rw[hC] at h;exact h
 have fo:∀ b∈fp,∃ o,s2.heap.get? b=some o:=λb hb=>let ⟨o,e,_⟩:=T.obj 0 _ st2 b hb;⟨o,e⟩
 have fpLt:∀ b∈fp,b<s2.heap.objs.size:=λb hb=>let ⟨o,e⟩:=fo b hb;GI e
 have st1:tn 0 h1:=T.keep 0 _ _ st2 λb _ o e=>old b o e
 have hCle:s2.heap.objs.size<=G.objs.size:=by rw[hC];exact Ow _
 have I0:∀ tk,aw (aA X N scope (ar X scope G.objs.size) G.objs.size s2 H2 fp pins) [(s2.heap.objs.size,{ cls:=.type "list",data:=.seq ([]:List GH).toArray 0 })] σ0 H2 { s2 with heap:=h1,toks:=tk }:=λtk=>
  qD I S hcap hlen f2 fo hCle (GM _) hDC old hns1 hacc (λv z=>nomatch z) λx c e l=>(own1 x c e).resolve_left λz=>by
   rcases cX S.free z with z|⟨_,z⟩
   ·cases z
   ·exact absurd (cellLt x c z) (H_.mpr (GV (JR _ 2) (big c l)))
 have fpOk:∀ {H':Hp}{o:Obj},(∀ b∈fp,H' b=none)->∀ b∈fp,eN (aA X N scope (ar X scope G.objs.size) G.objs.size s2 H2 fp pins) [(s2.heap.objs.size,o)] H' b:=λ{H' o} hn b hb=>by
  obtain⟨_,g1,g2,g3,g4,g5⟩:=f2 b hb;refine⟨hn b hb,below b (fpLt b hb),fq I g1 g2,.inl hb,λx c e=>?_,λp hp=>?_⟩;rcases bF S e with ⟨e,_⟩|⟨l,_⟩
  ·exact g4 x c e
  ·exact λz=>absurd (fpLt b hb) (H_.mpr (z▸GV (JR _ 2) (big c l)))
  rcases Hy.mp hp with hp|hp
  ·exact g5 p hp
  ·cases G5.mp hp;exact λz=>absurd (z▸fpLt b hb) (Ii _)
 have loop:∀ s3:GJ,s3.heap=h1->s3.gens=s2.gens->s3.os=s2.os->aw (aA X N scope (ar X scope G.objs.size) G.objs.size s2 H2 fp pins) [(s2.heap.objs.size,{ cls:=.type "list",data:=.seq ([]:List GH).toArray 0 })] σ0 H2 s3 ->
   Ky (Hl X.prog X.w) X.A (.compLoop (.ListComp elt (⟨tg,iter,ifs,0⟩::cR) scope pos) 0 (.ref it) (.ref s2.heap.objs.size) (Lu scope (ar X scope G.objs.size) G.objs.size X.env)) (RR (.ref s2.heap.objs.size) G.objs.size) s3:=by
  intro s3 e3 _ _ I3;refine kh (d:=0) rfl (λk s'=>∃ i ys its n H',aw (aA X N scope (ar X scope G.objs.size) G.objs.size s2 H2 fp pins) [(s2.heap.objs.size,{ cls:=.type "list",data:=.seq (its:List GH).toArray n })] σ0 H' s'/\tn i s'.heap/\(∀ b∈fp,H' b=none)/\aI ys its/\W i k ys H') ?_ m0
   ⟨0,[],[],0,H2,I3,by rw[e3];exact st1,λb hb=>(f2 b hb).1,.nil,w0⟩
  rintro k s' ⟨i,ys,its,n,H',I',tn',fr',rv,w'⟩;rcases eS i k ys H' w' with ⟨stop,hz,fin⟩|⟨go,step⟩
  ·refine Hm (T.done (aA X N scope (ar X scope G.objs.size) G.objs.size s2 H2 fp pins) rfl rfl rfl hc i _ s' σ0 H' (λ_ _=>False) I' (fpOk fr') tn' stop) (λr s1 hr=>?_) λ_ _ z=>z
   obtain⟨rfl,I1⟩:=hr;obtain⟨m,hn,_⟩:=id I1.loc;exact hRR _ _ s1 H' ys (qf I f2 (GM _) I1 rv hz) (I1.pin _ (GO _ GX)).2.1 fin ⟨m,hn⟩ I1.free hDC hCle
  ·refine Hm (T.item (aA X N scope (ar X scope G.objs.size) G.objs.size s2 H2 fp pins) rfl rfl rfl hc i _ s' σ0 H' (λ_ _=>False) I' (fpOk fr') tn' go) (λr s4 hr=>?_) λ_ _ z=>z
   obtain⟨u,rfl,h4⟩:=hr;refine Hm h4 (λ_ s5 h5=>?_) λ_ _ z=>z
   obtain⟨x,H5,I5,r5,y5,tn5,fr5⟩:=h5;have I5':=I5.pinned (fpOk fr5) (T.obj _ _ tn5);refine bf (hg G.objs.size _ s5 σ0 H5 x u _ I5' r5 (step x H5 y5)) λ_ s6 h6=>?_
   obtain⟨σ6,H6,I6,q6⟩:=h6;refine bf (ht G.objs.size _ s6 σ6 H6 _ I6 q6) λok s7 h7=>?_
   obtain ⟨H7,I7,q7⟩:=h7;have weak:∀ {s8:GJ}{σ8:L2.St}{H8:Hp}{its':List GH}{n':Nat},aw (aA X N scope (ar X scope G.objs.size) G.objs.size s2 H2 fp pins) ([(s2.heap.objs.size,{ cls:=.type "list",data:=.seq its'.toArray n' })] ++ bV fp s5.heap) σ8 H8 s8 ->
     aw (aA X N scope (ar X scope G.objs.size) G.objs.size s2 H2 fp pins) [(s2.heap.objs.size,{ cls:=.type "list",data:=.seq its'.toArray n' })] σ0 H8 s8/\tn (i+1) s8.heap/\∀ b∈fp,H8 b=none:=λ{s8 σ8 H8 its' n'} I8=>by
    have st8:tn (i+1) s8.heap:=T.keep _ _ _ tn5 λb hb o e=>(I8.pin (b,o) (GO _ (GO _ (bH hb e)))).1
    have fr8:∀ b∈fp,H8 b=none:=λb hb=>by
     obtain⟨o,e,d⟩:=T.obj _ _ tn5 b hb;exact(I8.pin (b,o) (GO _ (GO _ (bH hb e)))).2.1
    refine⟨?_,st8,fr8⟩;obtain⟨m8,hn8,_⟩:=id I8.loc;have J:=I8.unpinned;exact⟨J.ok,J.os,J.bare,J.base,⟨m8,hn8,λj y v e1 e2 _=>by
     obtain⟨m00,_,hm00⟩:=(I0 0).loc;obtain⟨u',r',l'⟩:=hm00 j y v e1 e2 (by
      obtain⟨_,_,_,_,_,z⟩:=hcap j y v e1 e2;exact .inr z)
     obtain⟨j',j1,j2,j3,jf,j4⟩:=hcap j y v e1 e2;rcases l' with ⟨k',_⟩|⟨k',c,ec,z⟩
     ·exfalso;have k'':(Lu scope [] 0 X.env).kindOf y=some .local:=k';rcases j4 with q|q<;>(rw[q] at k'';cases k'')
     ·have eo:X.env.cells.lookup y=some c:=by
       rcases bF S ec with ⟨e,_⟩|⟨_,k2⟩
       ·exact e
       ·rw[jf] at k2;cases k2
      refine⟨u',r',.inr ⟨k',c,ec,?_⟩⟩;obtain⟨oc,hoc,hd⟩:=z;have hlt:c<s2.heap.objs.size:=by
       obtain⟨v',q⟩:=I.cell y c eo;exact q.lt
      have hoc2:s2.heap.get? c=some oc:=by
       obtain⟨v',o',q',d'⟩:=I.cell y c eo;have e':=old c o' q';have hoc':h1.get? c=some oc:=hoc;rw[e'] at hoc';cases hoc';exact q'
      have nfp:c∉fp:=λz=>(f2 c z).2.2.2.2.1 y c eo rfl
      by_cases hfs:c∈dX X.stack
      ·obtain⟨sl,q⟩:=J.base.slot c oc hoc2 (I.freeC y c eo) hfs nfp;exact⟨_,q,hd⟩
      ·exact⟨oc,J.base.keep c oc hoc2 (I.freeC y c eo) hfs nfp,hd⟩⟩,J.cell,J.free,J.freeC,J.pin,J.hok,hlen⟩
   cases ok with
   |false=>
    obtain⟨m',hm,w8⟩:=q7;obtain⟨I8,st8,fr8⟩:=weak I7;exact⟨m',hm,i+1,ys,its,n,H7,I8,st8,fr8,rv,w8⟩
   |true=>
    have D7:E5 (aA X N scope (ar X scope G.objs.size) G.objs.size s2 H2 fp pins) (bV fp s5.heap) s2.heap.objs.size:=by
     refine⟨hDC,.inr (GM _),λx c e z=>?_,λp hp z=>?_⟩
     ·rcases bF S e with ⟨e,_⟩|⟨l,_⟩
      ·exact absurd (z▸cellLt x c e) (Ii _)
      ·exact absurd (GV (JR _ 1) (big c l)) (by rw[z];exact PJ _)
     ·rcases Hy.mp hp with hp|hp
      ·exact absurd (z▸GI (I.pin p hp).1) (Ii _)
      ·exact absurd (z▸fpLt _ (gT hp).1) (Ii _)
    refine Hm (he G.objs.size _ (bV fp s5.heap) s7 σ6 H7 ys its n _ I7 D7 rv q7) (λ_ s8 h8=>?_) λ_ _ z=>z
    obtain⟨σ8,H8,ys8,its8,n8,I8,rv8,m',hm,w8⟩:=h8;obtain⟨L1,L2',L3⟩:=weak I8;exact⟨m',hm,i+1,ys8,its8,n8,H8,L1,L2',L3,rv8,w8⟩
 exact OU (loop _ rfl rfl rfl (I0 _)) (T.self _ 0 _ _ _ st1 (loop _ rfl rfl rfl (I0 _)))
end
section
variable {X:Cx}{pos:Pos}
def De (wi:TI)(g:TG)(tt:TT)(tb:TB)(mk:L2.St->L2.St):TE:=λσ H Q=>wi σ H λJ H1=>tU J g tt tb (mk σ) (λys H2=>∀ D,H2 D=none->Q (.ref D) (upd H2 D (.lst ys))) H1
theorem we {N:List Str}{cR:List Mi}{scope:LF}{elt tg iter:JG}{ifs:List JG}{wi:TI}{g:TG}{tt:TT}{tb:TB}{mk:L2.St->L2.St} (hc:X.calm=true) (hi:WI X tg iter wi) (S:jN X scope) (hcap:∀ σ,σ.length=X.N.length->fQ X scope N σ (mk σ)/\(mk σ).length=N.length)
  (hg:∀ C s0 H0 fp pn,WG (aA X N scope (ar X scope C) C s0 H0 fp pn) tg g)(ht:∀ C s0 H0 fp pn,zI (aA X N scope (ar X scope C) C s0 H0 fp pn) ifs tt)(he:∀ C s0 H0 fp pn,WB (aA X N scope (ar X scope C) C s0 H0 fp pn) elt (⟨tg,iter,ifs,0⟩::cR) scope pos 0 tb)
  (hs:∀ x,Jc iter X.env x=pure x:=by intro _;rfl):WE X (.ListComp elt (⟨tg,iter,ifs,0⟩::cR) scope pos) (De wi g tt tb mk):=by
 have hi:=hi.go;have hg:=λC s0 H0 fp pn=>(hg C s0 H0 fp pn).go
 have ht:=λC s0 H0 fp pn=>(ht C s0 H0 fp pn).go
 have he:=λC s0 H0 fp pn=>(he C s0 H0 fp pn).go
 refine⟨?_⟩;intro pins s σ H Q I h;rw[eval_ListComp];refine Kl (use:=none) rfl hs (l9 S.free) S.kind (λy hy e=>by rw[S.once y hy,e]) ?_;refine bf (hi pins s σ H _ I h) λv s1 h1=>bf h1 λitv s2 h2=>?_
 obtain⟨it,fp,tn,J,H2,rfl,I2,T,st2,f2,hw⟩:=h2;have hcp:=hcap σ I2.len;refine kD hc I2 S hcp.1 hcp.2 f2 T st2 (λC=>hg C _ _ _ _) (λC=>ht C _ _ _ _) (λC=>he C _ _ _ _) hw ?_;intro D C s' H' ys I' hD fin hm hC hDC hle;obtain⟨m,hn⟩:=hm;refine⟨m,hn,λh' hs'=>⟨.ref D,_,?_,rfl,fin D hD⟩⟩;exact I'.turned (it:=C) (t':=s'.toks) (λb o hb e=>hs'.extBut b o hb e) (by rw[ap (Jj hDC)];exact hC) (λz=>absurd (z▸I2.lt) (H_.mpr hle)) (.inr (GV I2.sz hle))
  (λx c e z=>by
   obtain⟨v',q⟩:=I2.cell x c e;exact absurd (z▸q.lt) (H_.mpr hle))
  (λp hp z=>absurd (z▸GI (I2.pin p hp).1) (H_.mpr hle))
end
section
variable {X:Cx}{pins:List (G7×Obj)}{σ:L2.St}{H H2:Hp}{s s2:GJ}
theorem mQ {N:List Str}{scope:LF}{elt tg iter:JG}{ifs:List JG}{pos:Pos}{it:G7}{fp:List G7}{tn:Nat->JI->Prop}{J:It}{g:TG}{tt:TT}{te:TE}{σ0:L2.St}{Fin:List V->Hp->Prop}
  {E:GH->GJ->Prop}{RR:GH->G7->Ql->GJ->Prop}(hc:X.calm=true)(I:aw X pins σ H2 s2)(S:jN X scope)
  (hcap:fQ X scope N σ σ0)(hlen:σ0.length=N.length)(f2:∀ b∈fp,eN X pins H2 b)(T:kW X.prog X.w X.K tg J fp it tn)(st2:tn 0 s2.heap)
  (hg:∀ C,PG (aA X N scope (ar X scope C) C s2 H2 fp pins) tg g)(ht:∀ C,Dt (aA X N scope (ar X scope C) C s2 H2 fp pins) ifs tt)(he:∀ C,PE (aA X N scope (ar X scope C) C s2 H2 fp pins) elt te)(hw:dO J g tt te σ0 Fin H2)
  (hRR:∀ (D C:G7) (s':GJ) (H':Hp) (ys:List V),aw X pins σ (upd H' D (.lst ys)) s'->H' D=none->Fin ys H'->(∃ m,s'.heap.Ns C m)->H' C=none->D≠C->s2.heap.objs.size<=C->RR (.ref D) C (.ok .next) s'):
  GW (Hl X.prog X.w) X.A (P8 []) (λacc s₃=>GW (Hl X.prog X.w) X.A (LX scope X.env.globals (uV X.env.cells scope.names []) [] X.env.qual none .none (some X.env)) (λcenv s₄=>
   Ky (Hl X.prog X.w) X.A (.compStart (.ListComp elt [⟨tg,iter,ifs,0⟩] scope pos) 0 (.ref it) acc { cenv with scope:=relabel scope X.env }) (RR acc cenv.locals) s₄) E s₃) E s2:=by
 obtain⟨W,h0,eS⟩:=hw;refine kD (cR:=[]) (tb:=uI te) hc I S hcap hlen f2 T st2 hg ht (λC=>uO rfl rfl (he C)) ⟨W,h0,λi m ys H w=>?_⟩ hRR;rcases eS i m ys H w with h|⟨h1,h2,h3⟩
 ·exact .inl h
 ·refine .inr ⟨h1,λx H3 y=>?_⟩;have:=h3 x H3 y
  simpa only [uI,h2,true_and] using this
end
section
variable {X:Cx}{pos:Pos}
def Bz (wi:TI)(g:TG)(tt:TT)(te:TE)(mk:L2.St->L2.St):TE:=λσ H Q=>wi σ H λJ H1=>dO J g tt te (mk σ) (λys H2=>∀ D,H2 D=none->Q (.ref D) (upd H2 D (.lst ys))) H1
theorem xR (hc:X.calm=true) (hi:WI X tg iter wi) (S:jN X scope) (hcap:∀ σ,σ.length=X.N.length->fQ X scope N σ (mk σ)/\(mk σ).length=N.length)
  (hg:∀ C s0 H0 fp pn,WG (aA X N scope (ar X scope C) C s0 H0 fp pn) tg g)(ht:∀ C s0 H0 fp pn,zI (aA X N scope (ar X scope C) C s0 H0 fp pn) ifs tt)(he:∀ C s0 H0 fp pn,WE (aA X N scope (ar X scope C) C s0 H0 fp pn) elt te)
  (hs:∀ x,Jc iter X.env x=pure x:=by intro _;rfl):WE X (.ListComp elt [⟨tg,iter,ifs,0⟩] scope pos) (Bz wi g tt te mk):=by
 have hi:=hi.go;have hg:=λC s0 H0 fp pn=>(hg C s0 H0 fp pn).go
 have ht:=λC s0 H0 fp pn=>(ht C s0 H0 fp pn).go
 have he:=λC s0 H0 fp pn=>(he C s0 H0 fp pn).go
 refine⟨?_⟩;intro pins s σ H Q I h;rw[eval_ListComp];refine Kl (use:=none) rfl hs (l9 S.free) S.kind (λy hy e=>by rw[S.once y hy,e]) ?_;refine bf (hi pins s σ H _ I h) λv s1 h1=>bf h1 λitv s2 h2=>?_
 obtain⟨it,fp,tn,J,H2,rfl,I2,T,st2,f2,hw⟩:=h2;have hcp:=hcap σ I2.len;refine mQ hc I2 S hcp.1 hcp.2 f2 T st2 (λC=>hg C _ _ _ _) (λC=>ht C _ _ _ _) (λC=>he C _ _ _ _) hw ?_;intro D C s' H' ys I' hD fin hm hC hDC hle;obtain⟨m,hn⟩:=hm;refine⟨m,hn,λh' hs'=>⟨.ref D,_,?_,rfl,fin D hD⟩⟩;exact I'.turned (it:=C) (t':=s'.toks) (λb o hb e=>hs'.extBut b o hb e) (by rw[ap (Jj hDC)];exact hC) (λz=>absurd (z▸I2.lt) (H_.mpr hle)) (.inr (GV I2.sz hle))
  (λx c e z=>by
   obtain⟨v',q⟩:=I2.cell x c e;exact absurd (z▸q.lt) (H_.mpr hle))
  (λp hp z=>absurd (z▸GI (I2.pin p hp).1) (H_.mpr hle))
end
section
variable {X:Cx}{pos:Pos}
def tm (i:Nat)(wi:TI)(g:TG)(tt:TT)(te:TE)(mk:L2.St->L2.St):TS:=λE σ H=>wi σ H λJ H1=>dO J g tt te (mk σ) (λys H2=>∀ D,H2 D=none->E.nx (σ.set i (some (.ref D))) (upd H2 D (.lst ys))) H1
theorem qO {i:Nat} (hc:X.calm=true) (hN:X.N.Nodup) (hi':X.N[i]?=some y) (hy:X.env.scope.names.lookup y=some .local)
  (hi:WI X tg iter wi)(S:jN X scope)(hcap:∀ σ,σ.length=X.N.length->fQ X scope N σ (mk σ)/\(mk σ).length=N.length)
  (hg:∀ C s0 H0 fp pn,WG (aA X N scope (ar X scope C) C s0 H0 fp pn) tg g)(ht:∀ C s0 H0 fp pn,zI (aA X N scope (ar X scope C) C s0 H0 fp pn) ifs tt)(he:∀ C s0 H0 fp pn,WE (aA X N scope (ar X scope C) C s0 H0 fp pn) elt te)
  (hsw:NF (.ListComp elt [⟨tg,iter,ifs,0⟩] scope pos) (some (.Name y py)) spos.line X.env=pure true:=by rfl)
  (hs:∀ x,Jc iter X.env x=pure x:=by intro _;rfl):WS X (.Assign [.Name y py] (.ListComp elt [⟨tg,iter,ifs,0⟩] scope pos) spos) (tm i wi g tt te mk):=by
 have hi:=hi.go;have hg:=λC s0 H0 fp pn=>(hg C s0 H0 fp pn).go
 have ht:=λC s0 H0 fp pn=>(ht C s0 H0 fp pn).go
 have he:=λC s0 H0 fp pn=>(he C s0 H0 fp pn).go
 refine⟨?_⟩;intro pins s σ H E I h;rw[exec_Assign_Name_used _ _ _ _ hsw];refine Gz (Jr (Gz ?_));show GW _ X.A (do let _ <- comprehension (.ListComp elt [⟨tg,iter,ifs,0⟩] scope pos) scope X.env _ (P8 []) false (KH iter X.env) (some (assign (.Name y py) X.env))) _ _ s;refine Gz (Hm (Kl (use:=some (assign (.Name y py) X.env)) (Q:=λ_ s'=>SP X pins E .next s') rfl hs (l9 S.free) S.kind (λy hy e=>by rw[S.once y hy,e]) ?_) (λ_ s' hq=>GD (GD hq)) λ_ _ e=>e);refine bf (hi pins s σ H _ I h) λv s1 h1=>bf h1 λitv s2 h2=>?_
 obtain⟨it,fp,tn,J,H2,rfl,I2,T,st2,f2,hw⟩:=h2;have hcp:=hcap σ I2.len;refine mQ hc I2 S hcp.1 hcp.2 f2 T st2 (λC=>hg C _ _ _ _) (λC=>ht C _ _ _ _) (λC=>he C _ _ _ _) hw ?_;intro D C s' H' ys I' hD fin hm hC hDC hle;obtain⟨m,hn⟩:=hm;have neC:X.env.locals≠C:=λz=>absurd (z▸I2.lt) (H_.mpr hle)
 have upC:(upd H' D (.lst ys)) C=none:=by rw[ap (Jj hDC)];exact hC
 show GW _ X.A (assign (.Name y py) X.env (.ref D)) _ _ s';refine Oo (j7 I' hN hi' (.inl hy) (v:=.ref D) (u:=.ref D) rfl (λs3 I3 ⟨a,sb,ha⟩=>?_) (.inr hy));have aC:C≠a:=by
  rcases ha with e|e
  ·rw[e];exact Jj neC
  ·intro z;obtain⟨v',q⟩:=I2.cell y a e;exact absurd (z▸q.lt) (H_.mpr hle)
 refine⟨m,hn.sameBut sb aC,λh' hs'=>⟨_,_,?_,fin D hD⟩⟩;exact I3.turned (it:=C) (t':=s3.toks) (λb o hb e=>hs'.extBut b o hb e) upC (Jj neC) (.inr (GV I2.sz hle))
  (λx c e z=>by
   obtain⟨v',q⟩:=I2.cell x c e;exact absurd (z▸q.lt) (H_.mpr hle))
  (λp hp z=>absurd (z▸GI (I2.pin p hp).1) (H_.mpr hle))
end
end TR
namespace L2
open PySem PySem.Spec PyProof.Rows
section
variable {κ:Type}[DecidableEq κ]
def i_ (kvs:List (κ×V))(k:κ):Option V:=(kvs.find? λkv=>decide (kv.1=k)).map (·.2)
def fk (kvs:List (κ×V))(k:κ)(v:V):List (κ×V):=
 if(kvs.any λkv=>decide (kv.1=k))=true then kvs.map (λkv=>if kv.1=k then(kv.1,v) else kv) else kvs++[(k,v)]
theorem jH {p:κ×V}{r:List (κ×V)}{k:κ}(e:p.1=k):i_ (p::r) k=some p.2:=by simp[i_,KU,e]
theorem gu {p:κ×V}{r:List (κ×V)}{k:κ}(e:¬ p.1=k):i_ (p::r) k=i_ r k:=by simp[i_,KU,e]
theorem md (k:κ):∀ kvs:List (κ×V),(kvs.any λkv=>decide (kv.1=k))=(i_ kvs k).isSome
 |[]=>rfl
 |p::r=>by
  rw[Qd]
  by_cases e:p.1=k
  ·simp only[jH e,GP e,Bool.true_or,Qg]
  ·rw[gu e,Hr e,Bool.false_or];exact md k r
theorem gJ (kvs:List (κ×V))(k:κ)(v:V):(fk kvs k v).length<=kvs.length+1:=by
 unfold fk
 split
 ·rw[GG];lia
 ·rw[IB,HR,Mo];lia
theorem zr {kvs:List (κ×V)}{k:κ}(v:V)(h:i_ kvs k=none):fk kvs k v=kvs++[(k,v)]:=by
 unfold fk;rw[md,h];exact Hu (by decide)
theorem ij.isSome_eq (r:ij o u):o.isSome=u.isSome:=by
 cases o with
 |none=>cases u with
  |none=>rfl
  |some _=>exact(show False from r).elim
 |some _=>cases u with
  |none=>exact(show False from r).elim
  |some _=>rfl
theorem KV.val {kvs:List (κ×V)}{vs:List (κ×GH)}(r:KV kvs vs)(k:κ):ij (i_ kvs k) (QN vs k):=by
 unfold KV at r
 induction r with
 |nil=>exact True.intro
 |@cons p q ps qs h t ih=>
  obtain⟨h1,h2⟩:=h
  by_cases e:p.1=k
  ·have e':q.1=k:=h1.symm.trans e;have b:QN (q::qs) k=some q.2:=by simp[QN,KU,e']
   rw[jH e,b];exact h2
  ·have e':¬ q.1=k:=λz=>e (h1.trans z)
   have b:QN (q::qs) k=QN qs k:=by simp[QN,KU,e']
   rw[gu e,b];exact ih
theorem KV.any (r:KV kvs vs)(k:κ):(kvs.any λkv=>decide (kv.1=k))=vs.any λkv=>decide (kv.1=k):=by
 unfold KV at r
 induction r with
 |nil=>rfl
 |cons h t ih=>rw[Qd,Qd,ih,h.1]
theorem KV.repl (r:KV kvs vs) (k:κ) (ry:RelV y u) :
  KV (kvs.map λkv=>if kv.1=k then(kv.1,y) else kv) (vs.map λkv=>if kv.1=k then(kv.1,u) else kv):=by
 unfold KV at r ⊢
 induction r with
 |nil=>exact .nil
 |@cons p q ps qs h t ih=>
  rw[G_,G_];refine .cons ?_ ih;obtain⟨h1,h2⟩:=h
  by_cases e:p.1=k
  ·rw[Ie e,Ie (h1.symm.trans e)];exact⟨h1,ry⟩
  ·rw[Hu e,Hu (λz=>e (h1.trans z))];exact⟨h1,h2⟩
theorem KV.put (r:KV kvs vs)(k:κ)(ry:RelV y u):KV (fk kvs k y) (stored vs k u):=by
 unfold fk stored;rw[r.any k]
 by_cases e:(vs.any λkv=>decide (kv.1=k))=true
 ·rw[Ie e,Ie e];exact r.repl k ry
 ·rw[Hu e,Hu e];exact Paired.snoc r ⟨rfl,ry⟩
theorem KV.length (r:KV kvs vs):kvs.length=vs.length:=Mq r
end
theorem yW (r:RelV (kV k) u):(bi P w).is k u=true:=by
 cases k with
 |inl i=>obtain⟨t,e⟩:=(show ∃ t,u=LW i t from r);subst e;exact rW P w i t
 |inr x=>obtain⟨t,e⟩:=(show ∃ t,u=Pm x t from r);subst e;exact rB P w x t
theorem nW:∀ {ks:List cS}{us:List GH},aI (ks.map kV) us->ItemsAre (bi P w) ks us
 |[],_,r=>by rw[NM] at r;cases r;exact .nil
 |k::ks,_,r=>by
  rw[G_] at r;cases r with
  |cons h t=>exact .cons (yW h) (nW t)
abbrev KT (H:Hp):List (List cS×V)->List (List cS×G7×GH)->Prop:=PP λp q=>p.1=q.1/\H q.2.1=some (.tup (p.1.map kV))/\RelV p.2 q.2.2
theorem KT.val {H:Hp}{kvs:List (List cS×V)}{xs:List (List cS×G7×GH)}(r:KT H kvs xs)(k:List cS):ij (i_ kvs k) ((atKey xs k).map (·.2)):=by
 induction r with
 |nil=>exact True.intro
 |@cons p q ps qs h t ih=>
  obtain⟨h1,_,h2⟩:=h
  by_cases e:p.1=k
  ·have e':q.1=k:=h1.symm.trans e;have b:atKey (q::qs) k=some q.2:=by simp[atKey,KU,e']
   rw[jH e,b];exact h2
  ·have e':¬ q.1=k:=λz=>e (h1.trans z)
   have b:atKey (q::qs) k=atKey qs k:=by simp[atKey,KU,e']
   rw[gu e,b];exact ih
theorem KT.repl (r:KT H kvs xs) (k:List cS) (ry:RelV y u) :
  KT H (kvs.map λkv=>if kv.1=k then(kv.1,y) else kv) (xs.map (putAt k u)):=by
 induction r with
 |nil=>exact .nil
 |@cons p q ps qs h t ih=>
  rw[G_,G_];refine .cons ?_ ih;obtain⟨h1,h2,h3⟩:=h;unfold putAt
  by_cases e:p.1=k
  ·rw[Ie e,Ie (h1.symm.trans e)];exact⟨h1,h2,ry⟩
  ·rw[Hu e,Hu (λz=>e (h1.trans z))];exact⟨h1,h2,h3⟩
theorem KT.put (r:KT H kvs xs) (k:List cS) (hb:H b=some (.tup (k.map kV))) (ry:RelV y u) :
  KT H (fk kvs k y) (storedH xs k b u):=by
 have e:(kvs.any λkv=>decide (kv.1=k))=(atKey xs k).isSome:=by
  rw[md,(r.val k).isSome_eq,Option.isSome_map]
 unfold fk storedH;rw[e]
 by_cases q:(atKey xs k).isSome=true
 ·rw[Ie q,Ie q];exact r.repl k ry
 ·rw[Hu q,Hu q];exact Paired.snoc r ⟨rfl,hb,ry⟩
theorem KT.keeps (r:KT H kvs xs)(ht:∀ b ys,H b=some (.tup ys)->H' b=some (.tup ys)):KT H' kvs xs:=
 Paired.mapP r λ_ _ z=>⟨z.1,ht _ _ z.2.1,z.2.2⟩
section
variable {P:Hv}{w:IN}{H:Hp}{h:JI}{a:G7}
theorem BF (ok:il P w H h)(e:Rd H a u):bc P w H h a u:=e.ok ok
theorem xM (ok:il P w H h)(e:Rd H a (.dK kvs)):kvs.length<=GZ/\(a==JQ)=false/\∃ vs,KV kvs vs/\h.DictOf (bi P w) a vs:=
 show bc P w H h a (.dK kvs) from BF ok e
theorem Dy (ok:il P w H h)(e:H a=some (.dK kvs)):kvs.length<=GZ/\(a==JQ)=false/\∃ vs,KV kvs vs/\h.DictOf (bi P w) a vs:=xM ok (.inl e)
theorem lV (ok:il P w H h)(e:H a=some (.tup (ks.map kV))):(LH (bi P w)).is h ks a:=by
 obtain⟨_,its,r,o,h1,h2,n,h3⟩:=(show bc P w H h a (.tup (ks.map kV)) from ok a _ e)
 exact⟨o,its.toArray,n,h1,h2,h3,by simpa using nW r⟩
theorem kB (ok:il P w H h) (e:Rd H a (.dT kvs)):kvs.length <= GZ/\(a == JQ)=false /\
  ∃ xs,KT H kvs xs/\h.DictOfH (LH (bi P w)) a xs:=by
 obtain⟨z,y,xs,r,o,es,ep,h1,h2,h3,h4,h5⟩:=(show bc P w H h a (.dT kvs) from BF ok e)
 refine⟨z,y,xs,r,o,es,ep,h1,h2,h3,h4,λx hx=>?_,h5⟩;have all:∀ {l:List (List cS×V)}{m:List (List cS×G7×GH)},KT H l m->∀ x∈m,(LH (bi P w)).is h x.1 x.2.1:=by
  intro l m q
  induction q with
  |nil=>intro x hx;exact nomatch hx
  |@cons p q ps qs hq t ih=>
   intro x hx;rcases GR.mp hx with e|hx
   ·subst e;exact lV ok (by rw[<- hq.1];exact hq.2.1)
   ·exact ih x hx
 exact all r x hx
theorem Bp (ok:il P w H h) (e:H a=some (.dT kvs)):kvs.length <= GZ/\(a == JQ)=false /\
  ∃ xs,KT H kvs xs/\h.DictOfH (LH (bi P w)) a xs:=kB ok (.inl e)
end
def qA (H:Hp)(a:G7)(y:V)(r:Option V):Prop:=
 (∃ kvs k,Rd H a (.dK kvs)/\y=kV k/\r=i_ kvs k)\/∃ kvs k b,Rd H a (.dT kvs)/\y=.ref b/\H b=some (.tup (k.map kV))/\r=i_ kvs k
def yO (H:Hp)(a:G7)(y v:V)(H':Hp):Prop:=
 (∃ kvs k,H a=some (.dK kvs)/\y=kV k/\kvs.length<GZ/\H'=upd H a (.dK (fk kvs k v))) \/
 ∃ kvs k b,H a=some (.dT kvs)/\y=.ref b/\H b=some (.tup (k.map kV))/\kvs.length<GZ/\H'=upd H a (.dT (fk kvs k v))
theorem qA.t {H:Hp}{a b:G7}{kvs:List (List cS×V)}{k:List cS}(e:H a=some (.dT kvs))(eb:H b=some (.tup (k.map kV))):qA H a (.ref b) (i_ kvs k):=.inr ⟨kvs,k,b,.inl e,rfl,eb,rfl⟩
theorem yO.t {H:Hp}{a b:G7}{kvs:List (List cS × V)}{k:List cS}{v:V} (e:H a=some (.dT kvs)) (eb:H b=some (.tup (k.map kV))) (hl:kvs.length < GZ) :
  yO H a (.ref b) v (upd H a (.dT (fk kvs k v))):=.inr ⟨kvs,k,b,e,rfl,eb,hl,rfl⟩
section
variable {X:Cx}{pins:List (G7×Obj)}{σ:St}{H:Hp}{s:GJ}{a:G7}{y v:V}{u r:GH}{o:Option V}{A:IR}{E:GH->GJ->Prop}
theorem aw.big (I:aw X pins σ H s):JQ<s.heap.objs.size:=by
 have h:G4<s.heap.objs.size:=(I.mod.glob.keeps I.bk).lt;exact Nat.lt_trans (by decide) h
theorem vP (hu:A.units + 1 < cLine) (I:aw X pins σ H s) (g:qA H a y (some v)) (ry:RelV y u) (h:∀ w' s',aw X pins σ H s'->RelV v w'->Q w' s') :
  GW (Hl X.prog X.w) A (Rj (.ref a) u) Q E s:=by
 rcases g with ⟨kvs,k,e,ey,l⟩|⟨kvs,k,b,e,ey,eb,l⟩
 ·subst ey;obtain⟨z,hd,vs,rel,dd⟩:=xM I.hok e;obtain⟨w',hw,rw'⟩:=ij.some_of (v:=v) (o:=QN vs k) (by rw[l];exact rel.val k);exact wpAny_getItem_of (yW ry) dd.mapOf hw (h w' _ (I.tok _) rw')
 ·subst ey;cases(show u=Ht b from ry);obtain⟨z,hd,xs,rel,dd⟩:=kB I.hok e;obtain⟨w',hw,rw'⟩:=ij.some_of (v:=v) (o:=(atKey xs k).map (·.2)) (by rw[l];exact rel.val k);obtain⟨p,hp,hp2⟩:=Hj.mp hw;refine wpAny_getItem_heap (tupleKind_room_in1 hu) (lV I.hok eb) dd hp ?_;rw[hp2];exact h w' _ (I.tok _) rw'
theorem pL {t':Nat} (I:aw X pins σ H s) (mu:EG (H a)) (hs:IH a s.heap h') (he:∃ q,h'.get? a=some q) (new:bc X.prog X.w (upd H a ob) h' a ob) :
  aw X pins σ (upd H a ob) { s with heap:=h',toks:=t' }:=
 I.write (x:=a) (e:=a) mu (.inl rfl) (λb q hb z=>(hs.2 b hb).trans z) he new
theorem B' (z:kvs.length <= GZ) (hd:(a == JQ)=false) (rel:KV kvs vs) (dd:h'.DictOf (bi P w) a vs) :
  bc P w H' h' a (.dK kvs):=⟨z,hd,vs,rel,dd⟩
theorem wn (hu:A.units + 1 < cLine) (I:aw X pins σ H s) (g:yO H a y v H') (ry:RelV y u) (rv:RelV v r) (h:∀ s',aw X pins σ H' s'->Q () s') :
  GW (Hl X.prog X.w) A (setItem (.ref a) u r) Q E s:=by
 rcases g with ⟨kvs,k,e,ey,l,eH⟩|⟨kvs,k,b,e,ey,eb,l,eH⟩
 ·subst ey eH;obtain⟨z,hd,vs,rel,dd⟩:=Dy I.hok e;have hz:vs.length<=GZ:=by rw[<- rel.length];exact z
  have hl:(fk kvs k v).length<=GZ:=by have:=gJ kvs k v;lia
  refine wpAny_setItem_pairs (hsz:=hz) (yW ry) dd λh' dd' hs=>h _ ?_
  have he:∃ q,h'.get? a=some q:=let ⟨q,_,_,hq,_⟩:=dd';⟨q,hq⟩
  exact pL I (by rw[e];exact True.intro) hs he (B' hl hd (rel.put k rv) dd')
 ·subst ey eH;cases(show u=Ht b from ry);obtain⟨z,hd,xs,rel,dd⟩:=Bp I.hok e;have hz:xs.length<=GZ:=by rw[<- Mq rel];exact z
  have hl:(fk kvs k v).length<=GZ:=by have:=gJ kvs k v;lia
  refine wpAny_setItem_heap (hsz:=hz) (tupleKind_room_in1 hu) (lV I.hok eb) dd λh' dd' hs=>h _ ?_
  obtain⟨q,es,ep,hq,h2,h3,h4,_,h5⟩:=dd';refine pL I (by rw[e];exact True.intro) hs ⟨q,hq⟩ ⟨hl,hd,_,(rel.put k eb rv).keeps λc ys ec=>?_,q,es,ep,hq,h2,h3,h4,h5⟩;rw[ap (yT ec e (λz=>nomatch z))];exact ec
end
def Dw (i:JG):Prop:=∀ ov iv,subscripted i false ov iv=operate [ov,iv] (Rj ov iv)
theorem A_ {prog:Hv}{w:IN}{A:IR}{E:GH->GJ->Prop}{s:GJ}{env:Env}{value slice:JG}{pos:Pos}{T id:String}{Q:GH->GJ->Prop}
  (hl:QM (.type T) "__getitem__"=pure (some (.builtin id)))(hs:Dw slice)
  (h:GW (Hl prog w) A (KH value env) (λo s₁=>GW (Hl prog w) A (KH slice env) (λi s₂=>s₂.TypeIs o T/\GW (Hl prog w) A (Rj o i) Q E s₂) E s₁) E s):
  GW (Hl prog w) A (KH (.Subscript value slice pos) env) Q E s:=by
 refine Subscript_ (Hm h (λo s₁ h₁=>Hm h₁ (λi s₂ h₂=>?_) λ_ _ x=>x) λ_ _ x=>x);obtain⟨hT,h₂⟩:=h₂;unfold Qv;refine Gz ?_;rw[getitemInPython_of_ne hT.not_modules];refine Gz (MB hT hl ?_);have fin:GW (Hl prog w) A (subscripted slice false o i) (λr s₃=>GW (Hl prog w) A (letTemporaryGo value o r>>=λ_=>pure r) Q E s₃) E s₂:=by
  rw[hs o i];exact wpAny_operating (Hm h₂ (λr s₃ h₃=>Gz (wpAny_letTemporaryGo (GD h₃))) λ_ _ x=>x)
 first
  |exact GD (Gz fin)
  |exact Gz (GD (Gz fin))
  |exact Gz fin
theorem rn (I:aw X pins σ H s)(g:qA H a y o):s.TypeIs (.ref a) "dict":=by
 rcases g with ⟨kvs,k,e,_,_⟩|⟨kvs,k,b,e,_,_,_⟩
 ·obtain⟨_,_,vs,_,dd⟩:=xM I.hok e;exact dd.typeIs
 ·obtain⟨_,_,xs,_,dd⟩:=kB I.hok e;exact dd.typeIs
def Ek (td ty:TE):TE:=λσ H Q=>td σ H λx H1=>ty σ H1 λy H2=>∃ a v,x=.ref a/\qA H2 a y (some v)/\Q v H2
def EL (td ty tv:TE):TS:=λD σ H=>tv σ H λv H1=>td σ H1 λx H2=>ty σ H2 λy H3=>∃ a H4,x=.ref a/\yO H3 a y v H4/\D.nx σ H4
section
variable {X:Cx}{o i e value:JG}{pos pos' tpos:Pos}{td ty tv:TE}
theorem lY (hu:X.A.units+1<cLine)(ho:WE X o td)(hi:WE X i ty)(hs:Dw i):WE X (.Subscript o i pos) (Ek td ty):=by
 have ho:=ho.go;have hi:=hi.go;refine⟨?_⟩;intro pins s σ H Q I h;refine A_ PySem.F.slot_dict_getitem.lookup hs (bf (ho pins s σ H _ I h) λu s1 ⟨x,H1,I1,rx,q1⟩=>bf (hi pins s1 σ H1 _ I1 q1) λiv s2 ⟨y,H2,I2,ry,a,v,ex,g,q2⟩=>?_);subst ex;obtain rfl:u=Ht a:=rx;exact⟨rn I2 g,vP hu I2 g ry λw' s3 I3 rw'=>⟨v,H2,I3,rw',q2⟩⟩
theorem yU (hu:X.A.units + 1 < cLine) (ho:WE X o td) (hi:WE X i ty) (hv:WE X value tv) (hs:NF value (some (.Subscript o i pos')) pos.line X.env=pure false) :
  WS X (.Assign [.Subscript o i pos'] value pos) (EL td ty tv):=by
 have ho:=ho.go;have hi:=hi.go;have hv:=hv.go;refine⟨?_⟩;intro pins s σ H D I h;refine wpAny_Assign_Subscript (bf (hv pins s σ H _ I h) λr s1 ⟨v,H1,I1,rv,q1⟩=>bf (ho pins s1 σ H1 _ I1 q1) λu s2 ⟨x,H2,I2,rx,q2⟩=>bf (hi pins s2 σ H2 _ I2 q2) λiv s3 ⟨y,H3,I3,ry,a,H4,ex,g,q3⟩=>?_) hs;subst ex;obtain rfl:u=Ht a:=rx;exact wn hu I3 g ry rv λs4 I4=>⟨σ,H4,I4,q3⟩
end
theorem rL (h:JI)(hb:JQ<h.objs.size):bc P w H (h.push { cls:=.type "dict",data:=.dict #[] }) h.objs.size (.dT []):=
 ⟨Iz _,Jn.mpr (Jj (Hk hb)),[],.nil,_,#[],0,GL _ rfl,⟨rfl,rfl,rfl⟩,rfl,rfl,N0⟩
def Ch:TE:=λ_ H Q=>∀ p,H p=none->Q (.ref p) (upd H p (.dT []))
section
variable {X:Cx}{pos:Pos}
theorem vO:WE X (.Dict [] [] pos) Ch:=by
 exact⟨λpins s σ H Q I h=>
 wpAny_Dict_empty ⟨.ref s.heap.objs.size,_,I.laid (a:=s.heap.objs.size) (o:=.dT []) (t':=s.toks) (λ_ _ q=>GC _ q) (GM _) (rL s.heap I.big),rfl,h _ (I.hok.fresh (GM _))⟩⟩
end
def aW (H:Hp)(a:G7):Prop:=(∃ kvs,Rd H a (.dK kvs))\/∃ kvs,Rd H a (.dT kvs)
end L2
namespace PySem
section
variable {prog:Hv}{w:IN}{K:Type}[DecidableEq K]{knd:HeapKind prog w K}{A:IR}{E:GH->GJ->Prop}{s:GJ}
theorem kM (knd:HeapKind prog w K) (d:G7) (hd:(d == JQ)=false) :
  MeetsIn prog w (Kp.«dict.__len__» ⟨[.ref d],[]⟩) (λ_ R s=>∃ xs,s.heap.DictOfH knd d xs/\R (.ok (.ret (.int xs.length s.toks))) { s with toks:=s.toks+1 }):=
 .of_wp λA R s ⟨xs,hm,h⟩=>by
  obtain⟨o,es,ep,ho,hc,hdat,he,hi,hn⟩:=hm;show GW _ _ (dictSize d>>=_) _ _ s;unfold dictSize;refine Gz (Gz (Jq ho hdat (GD ?_)));show GW _ _ (Builtin.Dict.pendingCount d>>=_) _ _ s;refine Gz (wpAny_pendingCount_other hd ?_);refine wpAny_ret_mkInt ?_;rw[Nat.add_zero,Pp he];exact h
theorem vY {d:G7}{xs:List (K × G7 × GH)}{Q:GH->GJ->Prop} (hd:(d == JQ)=false) (hm:s.heap.DictOfH knd d xs) (hfit:(xs.length:Int) < 2 ^ 63)
  (h:Q (.int xs.length (s.toks+1)) { s with toks:=s.toks+1+1 }):GW (Hl prog w) A (Kp.«len» ⟨[.ref d],[]⟩) (λfin s'=>∃ r,fin=.done (.ret r)/\Q r s') E s:=by
 unfold Kp.«len»;refine Gz (m:=oneArg "len" _) (GD ?_);refine Gz (m:=callSpecial? (.ref d) (Iw "__len__")) (Iy (name:=Iw "__len__") hm.typeIs F.slot_dict_len
  (call_meetsIn F.slot_dict_len hm.typeIs F.entry_dict_len (F.args_dict_len_1 _) (kM knd d hd) ⟨xs,hm,?_⟩))
 show GW _ _ _ _ _ { s with toks:=s.toks+1 };refine Gz (Ij (GD ?_));refine Gz (OE ?_);show GW _ _ (if((xs.length:Nat):Int)<0 then _ else _) _ _ _;rw[Hu (by lia)];show GW _ _ (if((xs.length:Nat):Int)>=2^63 then _ else _) _ _ _;rw[Hu (by lia)];exact Gz (wpAny_mkInt (GD ⟨_,rfl,h⟩))
theorem vg (hd:(d == JQ)=false) (hm:s.heap.DictOfH knd d xs) (hfit:(xs.length:Int) < 2 ^ 63)
  (h:Q (.int xs.length (s.toks+1)) { s with toks:=s.toks+1+1 }):GW (Hl prog w) A (call (.builtin "len") [.ref d]) Q E s:=
 NU kind_len plain_len entry_len (args_len1 _) (vY hd hm hfit h)
theorem ki:∀ (l:List Ly) (h:Int),(l.map (·.hash)).Nodup->(l.filter (·.hash==h)).length<=1
 |[],_,_=>Iz _
 |e::r,h,hn=>by
  rw[G_,Jv] at hn;rw[List.filter_cons]
  by_cases q:(e.hash==h)=true
  ·rw[Ie q];have q':e.hash=h:=by simpa using q
   have z:r.filter (·.hash==h)=[]:=List.filter_eq_nil_iff.mpr λa ha y=>hn.1 (by
    have y':a.hash=h:=by simpa using y
    rw[q',<- y'];exact HH.mpr ⟨a,ha,rfl⟩)
   rw[z];exact GM _
  ·rw[Hu q];exact ki r h hn.2
theorem ua {id:String}{d:G7}{o:Obj}{es:Array Ly}{ep:Nat}{Q:Array Ly->GJ->Prop} (ho:s.heap.get? d=some o) (hd:o.data=.dict es ep)
  (hk:∀ e∈es.toList,∃ a,e.key=.ref a/\s.TypeIs (.ref a) "tuple")(hn:(es.toList.map (·.hash)).Nodup)(h:Q es s):GW (Hl prog w) A (Ng id d) Q E s:=by
 unfold Ng;refine Gz (Jq ho hd ?_);refine Gz ?_;rw[<- Array.forIn_toList];refine wpAny_forIn_list _ (λcR _ s'=>s'=s/\∀ e∈cR,e∈es.toList) _ ?_ ?_ _ _ ⟨rfl,λe q=>q⟩
 ·rintro e cR b s' ⟨rfl,hr⟩;obtain⟨a,ha,hT⟩:=hk e (hr e GX);have hf:¬ (es.filter (·.hash==e.hash)).size>1:=by
   have z:=ki es.toList e.hash hn;have z2:(es.filter (·.hash==e.hash)).size=(es.toList.filter (·.hash==e.hash)).length:=by
    rw[<- HD,Array.toList_filter]
   lia
  have q:GW (Hl prog w) A (Py e.key) (λr s''=>r=false/\s''=s') E s':=by
   rw[ha];unfold Py;exact Gz (MB hT F.slot_tuple_eq.lookup (GD ⟨by decide,rfl⟩))
  refine Gz (Hm q (λr s'' hq=>?_) λ_ _ z=>z);obtain⟨rfl,rfl⟩:=hq;rw[Ie (by decide),Hu hf];exact GD ⟨rfl,λe q=>hr e (GK _ q)⟩
 ·rintro b s' ⟨rfl,_⟩;exact GD h
theorem zn (hdo:d ≠ o) (hoS:(o == JQ)=false) (hd:s.heap.DictOfH knd d []) (ho:s.heap.DictOfH knd o xs)
  (hT:∀ x∈xs,s.TypeIs (.ref x.2.1) "tuple")(hh:(xs.map λx=>knd.hash x.1).Nodup)(hsz:xs.length<=GZ)(hne0:xs≠[])
  (hQ:∀ h',h'.DictOfH knd d xs->IH d s.heap h'->Q () { s with heap:=h' }):GW (Hl prog w) A (OQ nm d o) Q E s:=by
 obtain⟨od,esd,epd,hod,hcd,hdd,hed,hid,hnd⟩:=id hd;obtain⟨oo,eso,epo,hoo,hco,hdo',heo,hio,hno⟩:=id ho;have e0:esd=#[]:=by
  have z:=Pp hed;exact Array.eq_empty_of_size_eq_zero z
 subst e0;have hzo:eso.size=xs.length:=Pp heo;unfold OQ;rw[Hu (by simpa using hdo)];unfold Lw;rw[Hu (by rw[hoS];exact Hn)];refine Gz (GD ?_);refine Gz (Jq hoo hdo' ?_);dsimp only;cases xs with
 |nil=>exact absurd rfl hne0
 |cons x r=>
  have hfew:(decide (eso.size<=8)&&eso.all λe=>(keyPart e.key).isSome)=false:=by
   have z:(eso.all λe=>(keyPart e.key).isSome)=false:=by
    rw[<- Array.all_toList,heo,G_,K_];rfl
   rw[z,NS]
  rw[hfew,Ie (by decide)];refine Gz (Jq hod hdd ?_);rw[Ie (by decide)];refine Gz (ua hoo hdo' (λe q=>?_) ?_ ?_)
  ·rw[heo] at q;obtain⟨y,hy,rfl⟩:=HH.mp q;exact⟨_,rfl,hT y hy⟩
  ·rw[heo,Ks];exact hh
  ·have hne:¬ eso.isEmpty=true:=λz=>by
    rw[Array.isEmpty_iff.mp z] at hzo;cases hzo
   rw[Ie (by simpa using hne)];have hto:eso.size<=GZ+1:=by lia
   refine Gz (wpAny_updateDictKeysTo hod hdd (GD (hQ _ ⟨_,_,epd+1,HF _ hod (Obj.isFreed_of_dict (PK hdd _)),hcd.mapDictKeys _,
    PK hdd _,heo,λy hy=>knd.keeps (hio y hy) hod hdd (Ik ..),hno⟩ (Ik ..))) hto)
theorem zU (hoS:(o == JQ)=false) (ho:s.heap.DictOfH knd o xs) (hsz:xs.length <= GZ) (hne0:xs ≠ [])
  (hT:∀ x∈xs,s.TypeIs (.ref x.2.1) "tuple")(hh:(xs.map λx=>knd.hash x.1).Nodup)(hpush:∀ x∈xs,knd.is (s.heap.push { cls:=.type "dict",data:=.dict #[] }) x.1 x.2.1)
  (h:∀ h',h'.DictOfH knd s.heap.objs.size xs->IH s.heap.objs.size (s.heap.push { cls:=.type "dict",data:=.dict #[] }) h'->Q (.ref s.heap.objs.size) { s with heap:=h' }):
  GW (Hl prog w) A (call (.type "dict") [.ref o]) Q E s:=by
 refine callType_codes (Q₁:=λobj s₁=>obj=.ref s.heap.objs.size/\s₁={ s with heap:=s.heap.push { cls:=.type "dict",data:=.dict #[] } }) F.kt_called_dict (F.kt_typeCall_dict_1 _) F.entry_dict_init (kt_code_dict_new _ ⟨rfl,rfl⟩) ?_;rintro obj s₁ ⟨rfl,rfl⟩;have hnew:(s.heap.push { cls:=.type "dict",data:=.dict #[] }).DictOfH knd s.heap.objs.size []:=Heap.DictOfH.new s.heap;have hdo:s.heap.objs.size≠o:=by
  obtain⟨_,_,_,hg,_⟩:=ho;exact λe=>absurd (GI hg) (by rw[e];exact Ii _)
 have ho':(s.heap.push { cls:=.type "dict",data:=.dict #[] }).DictOfH knd o xs:=by
  obtain⟨oo,es,ep,h1,h2,h3,h4,h5,h6⟩:=ho;exact⟨oo,es,ep,GC _ h1,h2,h3,h4,hpush,h6⟩
 refine⟨hnew.typeIs,F.args_dict_init_2 _ _,?_⟩;unfold Kp.«dict.__init__»;refine Gz ?_;unfold Builtin.Dict.selfAndRest;refine Gz (M6 hnew.typeIs ?_);show GW _ _ (pure (s.heap.objs.size,[Ht o])) _ _ _;refine GD ?_;show GW _ _ (Oq "dict.__init__" s.heap.objs.size (.ref o) [] .none) _ _ _;unfold Oq;refine Gz (wpAny_typeOf ho'.typeIs ?_);rw[Hu (by decide)];refine Gz ?_;unfold Builtin.Dict.merge;refine Gz ?_;unfold Builtin.Dict.readDirectly;refine Gz (Lk ho'.typeIs isSubtype_dict_dict ?_);simp only[Bool.not_true,Iv,JU];refine Gz (MB ho'.typeIs OI.lookup (GD ?_));simp only[L4,K5];refine Gz (GD ?_);refine zn hdo hoS hnew ho' (λx hx=>?_) hh hsz hne0 λh' hd' hs'=>?_
 ·obtain⟨oo,e,c⟩:=hT x hx;exact⟨oo,GC _ e,c⟩
 show GW _ _ (Builtin.Dict.addKeywords s.heap.objs.size []>>=_) _ _ _;exact Gz (GD (GD ⟨rfl,h h' hd' hs'⟩))
end
end PySem
namespace TR
open PySem PySem.Spec PyProof.Rows L2
section
variable {X:Cx}
theorem wc:br X (.builtin "len") (λxs H Q=>∃ p kvs,xs=[.ref p]/\Rd H p (.dT kvs)/\Q (.int kvs.length) H):=by
 intro pins s σ H xs us Q I r h;obtain⟨p,kvs,rfl,e,q⟩:=h;obtain⟨u,rfl,rx⟩:=fR r;cases rx;obtain⟨z,hd,vs,rel,dd⟩:=kB I.hok e;have hn:=iX;have hl:kvs.length=vs.length:=rel.length;exact vg hd dd (by lia) ⟨.int kvs.length,H,I.tok _,⟨_,by rw[hl]⟩,q⟩
end
def xN (kvs:List (List cS×V)):Prop:=∀ (P:Hv) (w:IN),(kvs.map λkv=>(LH (bi P w)).hash kv.1).Nodup
section
variable {X:Cx}
theorem zV (r:L2.KT H kvs xs) :
  (kvs.map λkv=>(LH (bi P w)).hash kv.1)=xs.map λx=>(LH (bi P w)).hash x.1:=by
 induction r with
 |nil=>rfl
 |cons h t ih=>rw[G_,G_,ih,h.1]
theorem A2 (r:L2.KT H kvs xs):∀ x∈xs,H x.2.1=some (.tup (x.1.map kV)):=by
 induction r with
 |nil=>intro x hx;exact nomatch hx
 |@cons p q ps qs h t ih=>
  intro x hx;rcases GR.mp hx with rfl|hx
  ·rw[<- h.1];exact h.2.1
  ·exact ih x hx
theorem t6:br X (.type "dict") (λxs H Q=>∃ p kvs,xs=[.ref p]/\Rd H p (.dT kvs)/\kvs≠[]/\xN kvs/\∀ a,H a=none->Q (.ref a) (upd H a (.dT kvs))):=by
 intro pins s σ H xs us Q I r h;obtain⟨p,kvs,rfl,e,hne,hh,q⟩:=h;obtain⟨u,rfl,rx⟩:=fR r;cases rx;obtain⟨z,hd,vs,rel,dd⟩:=kB I.hok e;have hl:kvs.length=vs.length:=rel.length;have hk:=A2 rel;have is0:∀ x∈vs,(LH (bi X.prog X.w)).is s.heap x.1 x.2.1:=λx hx=>lV I.hok (hk x hx)
 refine zU hd dd (by lia) (λz0=>?_) (λx hx=>(is0 x hx).typeIs) (by rw[<- zV rel];exact hh _ _) (λx hx=>?_) λh' hm hs=>?_
 ·rw[z0] at hl;exact hne (Mn.mp hl)
 ·obtain⟨o,its,n,h1,h2,h3,h4⟩:=is0 x hx;exact⟨o,its,n,GC _ h1,h2,h3,h4⟩
 ·have kk:∀ b u,s.heap.get? b=some u->h'.get? b=some u:=λb u e=>(hs.2 b (Hk (GI e))).trans (GC _ e)
  obtain⟨oo,es,ep,g1,g2,g3,g4,g5,g6⟩:=hm;have fr:=I.hok.fresh (GM s.heap.objs.size);refine⟨.ref s.heap.objs.size,_,I.laid (a:=s.heap.objs.size) (o:=.dT kvs) (t':=s.toks) kk (GM _) ⟨z,Jn.mpr (Jj (Hk I.big)),vs,?_,oo,es,ep,g1,g2,g3,g4,g6⟩,rfl,q _ fr⟩;exact Paired.mapP rel λa b c=>⟨c.1,by rw[ap (aV c.2.1 fr)];exact c.2.1,c.2.2⟩
end
def bv (t:Nat×Nat×Nat):List cS:=[.inl (t.1:Int),.inl (t.2.1:Int),.inl (t.2.2:Int)]
def az (k:Nat):List (Nat×Nat×Nat):=(IQ k).flatMap λa=>(IQ k).flatMap λb=>(IQ k).map λc=>(a,b,c)
def me (t:Nat×Nat×Nat):Int:=reduceHash (Builtin.Tuple.tupleHashOf [hashInt (t.1:Int),hashInt (t.2.1:Int),hashInt (t.2.2:Int)])
theorem wL (P:Hv)(w:IN)(t:Nat×Nat×Nat):(LH (bi P w)).hash (bv t)=me t:=by
 show tupleKeyHash (bi P w) (bv t)=me t;unfold tupleKeyHash bv me;simp only[G_,NM];rfl
set_option maxRecDepth 1000000 in
theorem AA:((az 7).map me).Nodup:=by decide +kernel
theorem Bt:∀ {l:List α},(l.map f).Nodup->∀ {a b:α},a∈l->b∈l->f a=f b->a=b
 |[],_,_,_,h,_,_=>nomatch h
 |x::r,hn,a,b,ha,hb,e=>by
  rw[G_,Jv] at hn;rcases GR.mp ha with za|ha
  ·rcases GR.mp hb with zb|hb
   ·rw[za,zb]
   ·exact absurd (HH.mpr ⟨b,hb,by rw[<- e,za]⟩) hn.1
  ·rcases GR.mp hb with zb|hb
   ·exact absurd (HH.mpr ⟨a,ha,by rw[e,zb]⟩) hn.1
   ·exact Bt hn.2 ha hb e
theorem bx {k:Nat}:t∈az k↔t.1<k/\t.2.1<k/\t.2.2<k:=by
 obtain⟨a,b,c⟩:=t;unfold az;simp only[OM,HH,Ju,Prod.mk.injEq];constructor
 ·rintro⟨x,hx,y,hy,z,hz,rfl,rfl,rfl⟩;exact⟨hx,hy,hz⟩
 ·rintro⟨hx,hy,hz⟩;exact⟨a,hx,b,hy,c,hz,rfl,rfl,rfl⟩
theorem v4 (ht:t∈az 7)(hu:u∈az 7)(e:me t=me u):t=u:=Bt AA ht hu e
theorem zh {h:List cS->Int}{g:Nat×Nat×Nat->Int}(hg:∀ t,h (bv t)=g t):∀ {kvs:List (List cS×V)}{ts:List (Nat×Nat×Nat)},kvs.map (·.1)=ts.map bv->(kvs.map λkv=>h kv.1)=ts.map g
 |[],[],_=>rfl
 |[],_::_,e=>nomatch e
 |_::_,[],e=>nomatch e
 |p::r,t::q,e=>by
  rw[G_,G_] at e;injection e with e1 e2
  rw[G_,G_,zh hg e2,e1,hg]
theorem qP {g:Nat×Nat×Nat->Int}{l:List (Nat×Nat×Nat)}(hg:∀ {t u},t∈l->u∈l->g t=g u->t=u):∀ {ts:List (Nat×Nat×Nat)},ts.Nodup->(∀ t∈ts,t∈l)->(ts.map g).Nodup
 |[],_,_=>N0
 |t::r,hn,hb=>by
  rw[Jv] at hn;rw[G_,Jv];refine⟨λz=>?_,qP hg hn.2 λu hu=>hb u (GK _ hu)⟩;obtain⟨u,hu,e⟩:=HH.mp z;have:=hg (hb u (GK _ hu)) (hb t GX) e;exact hn.1 (this▸hu)
theorem AY {h:List cS->Int}{g:Nat × Nat × Nat->Int}{l:List (Nat × Nat × Nat)} (h1:∀ t,h (bv t)=g t) (h2:∀ {t u},t ∈ l->u ∈ l->g t=g u->t=u) {kvs:List (List cS × V)}{ts:List (Nat × Nat × Nat)}
  (hk:kvs.map (·.1)=ts.map bv)(hn:ts.Nodup)(hb:∀ t∈ts,t∈l):(kvs.map λkv=>h kv.1).Nodup:=by
 rw[zh h1 hk];exact qP h2 hn hb
theorem qG {kvs:List (List cS×V)}{ts:List (Nat×Nat×Nat)}(hk:kvs.map (·.1)=ts.map bv)(hn:ts.Nodup)(hb:∀ t∈ts,t∈az 7):xN kvs:=
 λP w=>AY (h:=(LH (bi P w)).hash) (g:=me) (l:=az 7) (wL P w) v4 hk hn hb
end TR
namespace PySem
def Heap.RawD (h:JI)(d:G7)(es:Array Ly)(ep:Nat):Prop:=∃ o,h.get? d=some o/\o.ExactDict/\o.data=.dict es ep
section
variable {prog:Hv}{w:IN}{A:IR}{E:GH->GJ->Prop}{s:GJ}{d v:G7}{es:Array Ly}{ep:Nat}
theorem Heap.RawD.typeIs (hm:s.heap.RawD d es ep):s.TypeIs (.ref d) "dict":=by obtain⟨o,ho,hc,_⟩:=hm;exact⟨o,ho,hc.1⟩
theorem Heap.RawD.of {K:Type}[DecidableEq K]{knd:HeapKind prog w K}{xs:List (K×G7×GH)}(hm:s.heap.DictOfH knd d xs):∃ es ep,s.heap.RawD d es ep/\es.toList=xs.map (entryOfKey knd):=by
 obtain⟨o,es,ep,h1,h2,h3,h4,_⟩:=hm;exact⟨es,ep,⟨o,h1,h2,h3⟩,h4⟩
theorem ve (d:G7) (hd:(d == JQ)=false) :
  MeetsIn prog w (Kp.«dict.items» ⟨[.ref d],[]⟩) (λ_ R s=>(∃ es ep,s.heap.RawD d es ep) /\
   R (.ok (.ret (.ref s.heap.objs.size))) { s with heap:=s.heap.push { cls:=.type "dict_items",data:=.fields #[.ref d] } }):=
 .of_wp λA R s ⟨⟨es,ep,hm⟩,h⟩=>by
  unfold Kp.«dict.items» Builtin.Dict.noArgs;refine Gz (Gz (M6 hm.typeIs (GD ?_)));unfold Lw;rw[Hu (by rw[hd];exact Hn)];exact Gz (GD (Gz (Ig (GD ⟨_,rfl,h⟩))))
theorem wZ (hv:s.heap.IsItemsView v d) (hm:s.heap.RawD d es ep)
  (hQ:Q (.ref s.heap.objs.size) { s with heap:=s.heap.push { cls:=.type "dict_itemiterator",data:=.fields #[.none,.bool false,.ref d,.int 0 0,.int es.size 0,.int ep 0,.none,.none] } }):
  GW (Hl prog w) A (PQ (.ref v)) Q E s:=by
 obtain⟨ov,hov,hcv,hdv⟩:=id hv;obtain⟨o,ho,hc,hdat⟩:=id hm;refine MU hv.typeIs OR (IF OR hv.typeIs F.entry_dict_items_iter ?_ (F.args_dict_items_iter_1 _));unfold Kp.«dict_items.__iter__» Rm QP;refine Gz (GD (Gz (Gz (IS hov hdv (x:=.ref d) rfl (GD ?_)))));refine Gz (Gz (Jq ho hdat (Gz (LI ho hdat ?_))));have hown:JE "dict_itemiterator"=true:=by decide
 simp only[hown,K5];refine Ig (GD ⟨_,rfl,"dict_itemiterator",_,⟨_,GL _ rfl,rfl⟩,Jy.lookup,?_⟩)
  (by simp only[sizeOk,L5,Hi,IB,HR,Mo,Ji];lia)
 simpa [JV,L5] using hQ
end
section
variable {prog:Hv}{w:IN}{A:IR}{E:GH->GJ->Prop}{s:GJ}{d it:G7}{es:Array Ly}{i ep:Nat}{ok ov:GH}
theorem Bf (hh:A.handled=none) (hit:MK s.heap it d i es.size ep ok ov) (hm:s.heap.RawD d es ep) (hx:es.size <= i)
  (hQ:∀ h',MI it s.heap h'->Q none { s with heap:=h' }):GW (Hl prog w) A (LG (.ref it)) Q E s:=by
 obtain⟨od,hod,hcd,hdd⟩:=id hm;have hT:s.TypeIs (.ref it) "dict_itemiterator":=⟨_,hit,rfl⟩
 have hown:JE "dict_itemiterator"=true:=by decide
 unfold LG;refine Gz (J_ (Iy (name:=Iw "__next__") hT Jy
  (IF Jy hT MZ ?_ (MH _))))
 refine Gz (GD (Gz (Gz ?_)))
 first|refine Gz (Kf hT (GD ?_))|refine Gz (KM hT (GD ?_))
 refine Gz (LY hit rfl ?_);simp only[hown,K5];show GW _ _ (if(Ht d==Ia)=true then _ else _) _ _ s;rw[Hu (show ¬ ((Ht d==Ia)=true) from Hn)];refine Gz (GD (Gz (Jq hod hdd ?_)));rw[Hu (by simp)];refine Gz (GD (Gz (LI hod hdd ?_)));rw[Hu (by simp)];refine GD ?_;simp only[show ¬ ((i:Int)<0) from by lia,JU,IA,OP hx];refine Gz ?_
 first|refine Gz (Kf hT (GD ?_))|refine Gz (KM hT (GD ?_))
 show GW _ _ (Pw (.ref it) 2 .none>>=_) _ _ s;refine Gz (Jd hit rfl (by simp) ?_);show GW _ _ (Rl (.type "StopIteration") []>>=_) _ _ _;refine Gz ?_;simp only[Rl,newTuple];refine Gz (Ig ?_ (by size_fits));refine Gz (m:=KL _ _) (L_ (a:=Ia) (by first|rfl|(simp only[KL];rfl)) ?_);refine Ig ?_ (by size_fits);simp only[raiseNew];refine Gz (OD ?_);rw[show A.in1.handled=none from hh];refine Gz (GD (OH ?_));refine Gz (Lk (T:="StopIteration") (b:=true) ⟨_,GL _ rfl,rfl⟩ N4 ?_);exact GD (hQ _ (((Ik ..).extBut.push _).push _))
theorem wC (hit:MK s.heap it d i es.size ep ok ov) (hm:s.heap.RawD d es ep) (hx:es[i]?=some e)
  (hQ:∀ h',Qc h' it d (i+1) es.size ep e.key e.val s.heap.objs.size->h'.get? s.heap.objs.size=some { cls:=.type "tuple",data:=.seq #[e.key,e.val] }->h'.objs.size=s.heap.objs.size+1 ->
   (∀ b o,b≠it->s.heap.get? b=some o->h'.get? b=some o)->Q (some (.ref s.heap.objs.size)) { s with heap:=h' }):GW (Hl prog w) A (LG (.ref it)) Q E s:=by
 obtain⟨hp,g,dr,tk,os⟩:=s;obtain⟨od,hod,hcd,hdd⟩:=id hm;have hT:Qp ⟨hp,g,dr,tk,os⟩ (.ref it) "dict_itemiterator":=⟨_,hit,rfl⟩
 have hown:JE "dict_itemiterator"=true:=by decide
 unfold LG;refine Gz (J_ (Iy (name:=Iw "__next__") hT Jy
  (IF Jy hT MZ ?_ (MH _))))
 refine Gz (GD (Gz (Gz ?_)))
 first|refine Gz (Kf hT (GD ?_))|refine Gz (KM hT (GD ?_))
 refine Gz (LY hit rfl ?_);simp only[hown,K5];show GW _ _ (if(Ht d==Ia)=true then _ else _) _ _ _;rw[Hu (show ¬ ((Ht d==Ia)=true) from Hn)];refine Gz (GD (Gz (Jq hod hdd ?_)));rw[Hu (by simp)];refine Gz (GD (Gz (LI hod hdd ?_)));rw[Hu (by simp)];refine GD ?_;simp only[show ¬ ((i:Int)<0) from by lia,JU,IA,hx];refine Gz ?_
 first|refine Gz (Kf hT (GD ?_))|refine Gz (KM hT (GD ?_))
 refine Gz (MF hT ?_);show GW _ _ (Pw (.ref it) 3 (JV ((i:Int)+1))>>=_) _ _ ⟨hp,g,dr,tk,os⟩;refine Gz (IZ hit (by simp) λh₁ he₁ hs₁=>?_);replace hs₁:IH it hp h₁:=hs₁;replace he₁:MK h₁ it d (i+1) es.size ep ok ov:=by
  have e:((i+1:Nat):Int)=(i:Int)+1:=by lia
  unfold MK;rw[e];simpa [JV] using he₁
 have hT₁:Qp ⟨h₁,g,dr,tk,os⟩ (.ref it) "dict_itemiterator":=⟨_,he₁,rfl⟩
 refine Gz (Ij (Gz (MF hT₁ (Gz (MF hT₁ ?_)))));show GW _ _ (MC (.ref it) 6 e.key e.val) _ _ ⟨h₁,g,dr,tk,os⟩;unfold MC;refine Gz (N5 ?_);have hz₁:h₁.objs.size=hp.objs.size:=hs₁.1;have hil:it<hp.objs.size:=GI hit;have up:∀ b o,b≠it->hp.get? b=some o->(h₁.push { cls:=.type "tuple",data:=.seq #[e.key,e.val] }).get? b=some o:=λb o hb q=>GC _ (hs₁.extBut b o hb q)
 have he₂:MK (h₁.push { cls:=.type "tuple",data:=.seq #[e.key,e.val] }) it d (i+1) es.size ep ok ov:=GC _ he₁;have ht₂:(h₁.push { cls:=.type "tuple",data:=.seq #[e.key,e.val] }).get? hp.objs.size=some { cls:=.type "tuple",data:=.seq #[e.key,e.val] }:=by rw[<- hz₁];exact GL _ rfl
 have hz₂:(h₁.push { cls:=.type "tuple",data:=.seq #[e.key,e.val] }).objs.size=hp.objs.size+1:=by rw[II,hz₁]
 rw[hz₁];generalize h₁.push { cls:=.type "tuple",data:=.seq #[e.key,e.val] }=h₂ at up he₂ ht₂ hz₂ ⊢;show GW _ _ (L6 (.ref it)>>=_) _ _ ⟨h₂,g,dr,tk,os⟩;clear he₁ hs₁ hT₁ hz₁ h₁;refine Gz ?_;unfold L6;refine Gz (IS he₂ rfl (x:=.none) rfl (GD ?_));simp only[K5];refine Gz (IS he₂ rfl (x:=ok) rfl (Gz (IS he₂ rfl (x:=ov) rfl ?_)));refine Gz (IZ he₂ (by simp) λh₃ he₃ hs₃=>?_);replace hs₃:IH it h₂ h₃:=hs₃;replace he₃:MK h₃ it d (i+1) es.size ep e.key ov:=he₃;refine Gz (IZ he₃ (by simp) λh₄ he₄ hs₄=>?_);replace hs₄:IH it h₃ h₄:=hs₄;replace he₄:MK h₄ it d (i+1) es.size ep e.key e.val:=he₄;refine Gz (IZ he₄ (by simp) λh₅ he₅ hs₅=>?_);replace hs₅:IH it h₄ h₅:=hs₅;replace he₅:Qc h₅ it d (i+1) es.size ep e.key e.val hp.objs.size:=he₅;refine Gz (IZ he₅ (by simp) λh₆ he₆ hs₆=>?_);replace hs₆:IH it h₅ h₆:=hs₆;replace he₆:Qc h₆ it d (i+1) es.size ep e.key e.val hp.objs.size:=he₆;have all:∀ b o,b≠it->h₂.get? b=some o->h₆.get? b=some o:=λb o hb q=>hs₆.extBut b o hb (hs₅.extBut b o hb (hs₄.extBut b o hb (hs₃.extBut b o hb q)))
 refine Gz (OE (GD (GD ⟨_,rfl,GD (hQ h₆ he₆ (all _ _ (JB hil) ht₂) ?_ λb o hb q=>all b o hb (up b o hb q))⟩)));show h₆.objs.size=hp.objs.size+1;rw[hs₆.1,hs₅.1,hs₄.1,hs₃.1,hz₂]
end
end PySem
namespace TR
open PySem PySem.Spec PyProof.Rows L2
section
variable {X:Cx}{pins:List (G7×Obj)}{σ:L2.St}{H:Hp}{s:GJ}{d:G7}{u u':HO}
theorem sf (I:aw X pins σ H s)(e:H d=some u)(nt:∀ xs,u≠.tup xs)(no:∀ x,u≠.own x)(ntb:∀ ps,u≠.tbl ps)(nf:∀ o w,X.H₀ d≠some (.frz o w))(new:bc X.prog X.w (upd H d u') s.heap d u'):aw X pins σ (upd H d u') s:=by
 have ne:∀ b,H b=none->b≠d:=λb z q=>by rw[q,e] at z;cases z
 have fr:∀ b,H b=none->upd H d u' b=none:=λb z=>by rw[ap (ne b z)];exact z
 refine⟨I.ok,I.os,I.bare,⟨I.base.keep,I.base.slot,λb o q n hx=>fr b (I.base.free b o q n hx),I.base.there,λb xs q=>?_,λb o w q=>?_,λb ps q=>?_⟩,I.loc,I.cell,fr _ I.free,λx c q=>fr _ (I.freeC x c q),λp hp=>?_,λb o q=>?_,I.len⟩
 ·have z:=I.base.tups b xs q;rw[ap (λk=>nt xs (by rw[k,e] at z;exact GN z))];exact z
 ·have z:=I.base.frzs b o w q;rw[ap (λk=>nf o w (by rw[<- k];exact q))];exact z
 ·obtain⟨more,z⟩:=I.base.tbls b ps q;exact⟨more,by rw[ap (λk=>ntb _ (by rw[k,e] at z;exact GN z))];exact z⟩
 ·obtain⟨a1,a2,a3⟩:=I.pin p hp;exact⟨a1,fr _ a2,a3⟩
 ·by_cases hb:b=d
  ·subst hb;rw[af] at q;cases q;exact new
  ·rw[ap hb] at q;refine(I.hok b o q).stay (λ_ _ _ z=>z) (λc z=>?_) λc xs z=>?_
   ·rw[ap (λk=>no b (by rw[k,e] at z;exact GN z))];exact z
   ·rw[ap (λk=>nt xs (by rw[k,e] at z;exact GN z))];exact z
theorem mP (I:aw X pins σ H s)(e:H d=some (.dT kvs)):∃ o,s.heap.get? d=some o/\aw X pins σ (upd H d (.frz o (.dT kvs))) s:=by
 have ok:=I.hok d _ e;obtain⟨_,_,_,_,o,es,ep,g1,_⟩:=id ok;refine⟨o,g1,sf I e (λ_ z=>nomatch z) (λ_ z=>nomatch z) (λ_ z=>nomatch z) (λob w z=>?_) ⟨g1,?_⟩⟩
 ·have:=I.base.frzs d ob w z;rw[e] at this;cases this
 ·exact(show bc X.prog X.w H s.heap d (.dT kvs) from ok).stay (λ_ _ _ z=>z) (λc z=>by
   by_cases k:c=d
   ·rw[k,e] at z;cases z
   ·rw[ap k];exact z) λc xs z=>by
   by_cases k:c=d
   ·rw[k,e] at z;cases z
   ·rw[ap k];exact z
theorem xU (I:aw X pins σ H s)(e:H d=some (.frz o (.dT kvs)))(nf:∀ o w,X.H₀ d≠some (.frz o w)):aw X pins σ (upd H d (.dT kvs)) s:=by
 have ok:=I.hok d _ e;obtain⟨_,ok⟩:=(show s.heap.get? d=some o/\bc X.prog X.w H s.heap d (.dT kvs) from ok)
 refine sf I e (λ_ z=>nomatch z) (λ_ z=>nomatch z) (λ_ z=>nomatch z) nf (ok.stay (λ_ _ _ z=>z) (λc z=>?_) λc xs z=>?_)
 ·by_cases k:c=d
  ·rw[k,e] at z;cases z
  ·rw[ap k];exact z
 ·by_cases k:c=d
  ·rw[k,e] at z;cases z
  ·rw[ap k];exact z
end
section
variable {X:Cx}
def D_ (t:TE):TE:=λσ H Q=>t σ H λv H'=>∃ d o kvs,H d=some (.dT kvs)/\H' d=some (.frz o (.dT kvs))/\Q v (upd H' d (.dT kvs))
theorem qY (h:WE X e t):WE X e (D_ t):=by
 have h:=h.go;refine⟨?_⟩;intro pins s σ H Q I q;refine bf (h pins s σ H _ I q) λu s1 h1=>?_
 obtain⟨v,H1,I1,r1,d,o,kvs,e0,e1,q1⟩:=h1;exact⟨v,_,xU I1 e1 λo w z=>(by
  have:=I.base.frzs d o w z;rw[e0] at this;cases this),r1,q1⟩
end
def FU (d:G7)(o:Obj)(kvs:List (List cS×V)):It:=
 ⟨λi H=>H d=some (.frz o (.dT kvs))/\i<kvs.length,
  λi H v H'=>∃ (k:List cS) (x:V) (ka T:G7),kvs[i]?=some (k,x)/\H ka=some (.tup (k.map kV))/\H T=none/\v=.ref T/\H'=upd H T (.tup [.ref ka,x]),
  λi H=>H d=some (.frz o (.dT kvs))/\kvs.length<=i⟩
theorem jM:∀ {l₁:List α}{l₂:List β}{i:Nat}{a:α},PP F l₁ l₂->l₁[i]?=some a->∃ b,l₂[i]?=some b/\F a b
 |_,_,_,_,.nil,e=>by simp at e
 |_,_,0,_,.cons r _,e=>by simp at e;subst e;exact⟨_,rfl,r⟩
 |_,_,i+1,x,.cons _ t,e=>by
  obtain⟨u,h1,h2⟩:=jM (i:=i) (a:=x) t (by simpa using e);exact⟨u,by simpa using h1,h2⟩
theorem lG {ep:Nat} (hd:o.data=.dict es ep) (ok:bc P w H h d (.frz o (.dT kvs))) :
  h.RawD d es ep/\es.size=kvs.length/\∀ (i:Nat) (k:List cS) (x:V),kvs[i]?=some (k,x)->∃ (e:Ly) (ka:G7) (u:GH),es[i]?=some e/\e.key=.ref ka/\e.val=u/\H ka=some (.tup (k.map kV))/\RelV x u:=by
 obtain⟨g1,_,_,xs,pr,o',es',ep',g2,ex,dd,ee,_⟩:=ok;rw[g1] at g2;cases g2;rw[hd] at dd;cases dd;refine⟨⟨_,g1,ex,hd⟩,?_,λi k x hx=>?_⟩
 ·have z:=KG Ou ee;rw[GG,HD] at z;rw[z];exact pr.length.symm
 ·obtain⟨⟨k',ka,u⟩,h1,h2,h3,h4⟩:=jM pr hx;refine⟨entryOfKey (LH (bi P w)) (k',ka,u),ka,u,?_,rfl,rfl,h3,h4⟩;rw[<- I_,ee,GQ,h1];rfl
theorem tN {P:Hv}{w:IN}{K:GB}{elts:List JG}{tk:Nat}{pos:Pos}{it d:G7}{o:Obj}{kvs:List (List cS × V)}{es:Array Ly}{ep:Nat} (hd:o.data=.dict es ep) :
  kW P w K (.Tuple elts tk pos) (FU d o kvs) [it] it (λi h=>∃ ok ov,MK h it d i es.size ep ok ov) where
 mem:=by simp
 obj:=λi h st b hb=>by
  obtain⟨ok,ov,e⟩:=st;cases G5.mp hb;exact⟨_,e,λv z=>nomatch z⟩
 keep:=λi h h' st k=>by
  obtain⟨ok,ov,e⟩:=st;exact⟨ok,ov,k it (by simp) _ e⟩
 item:=by
  intro X hP hw hK hc i pins s σ H E I hf st hg;subst hP hw hK;obtain⟨ok,ov,hit⟩:=st;obtain⟨hH,hi⟩:=hg;obtain⟨raw,hsz,at_⟩:=lG hd (I.hok d _ hH);obtain⟨e,ka,u,e1,e2,e3,e4,e5⟩:=at_ i _ _ (GF hi);refine wC hit raw e1 λh' hit' hT hz kk=>⟨_,rfl,?_⟩
  refine wpAny_letOwnedTupleGo_items hit' λg' z' sb=>?_
  have nit:it<s.heap.objs.size:=GI hit;have tz:s.heap.objs.size≠it:=JB nit;have k2:∀ b o,b≠it->s.heap.get? b=some o->g'.get? b=some o:=λb o hb e=>sb.extBut b o hb (kk b o hb e)
  have fit:=hf it (by simp);have I1:aw X pins σ H { s with heap:=g' }:=I.turned (it:=it) (t':=s.toks) k2 fit.1 fit.2.1 fit.2.2.2.1 fit.2.2.2.2.1 fit.2.2.2.2.2;have hT':g'.get? s.heap.objs.size=some { cls:=.type "tuple",data:=.seq #[e.key,e.val] }:=sb.extBut _ _ tz hT;have fT:H s.heap.objs.size=none:=I.hok.fresh (GM _);have F:=I.fpOk (b:=s.heap.objs.size) (H':=H) (GM _) fT;have I2:aw X pins σ (upd H s.heap.objs.size (.tup [.ref ka,kvs[i].2])) { s with heap:=g' }:=hV I1 fT I.sz F.2.1 F.2.2.2.2.1 F.2.2.2.2.2
   ⟨by show 2<=GZ;decide,[e.key,e.val],.cons (by rw[e2];rfl) (.cons (by rw[e3];exact e5) .nil),⟨_,hT',rfl,_,rfl⟩⟩
  exact⟨.ref s.heap.objs.size,_,I2,rfl,⟨kvs[i].1,kvs[i].2,ka,s.heap.objs.size,GF hi,e4,fT,rfl,rfl⟩,⟨_,_,z'⟩,λb hb=>by
   cases G5.mp hb;rw[ap (Jj tz)];exact fit.1⟩
 done:=by
  intro X hP hw hK hc i pins s σ H E I hf st hg;subst hP hw hK;obtain⟨ok,ov,hit⟩:=st;obtain⟨hH,hi⟩:=hg;obtain⟨raw,hsz,_⟩:=lG hd (I.hok d _ hH);have fit:=hf it (by simp);exact Bf (I.ok.hd hc) hit raw (by lia) λh' ex=>⟨rfl,I.turned (it:=it) (t':=s.toks) (λb o hb e=>ex b o hb e) fit.1 fit.2.1 fit.2.2.2.1 fit.2.2.2.2.1 fit.2.2.2.2.2⟩
 self:=λ_ _ _ _ _ st h=>by
  obtain⟨ok,ov,hit⟩:=st;exact PySem.W.kcp_self hit h
section
variable {X:Cx}
def CM (to:TE):TI:=λσ H R=>to σ H λx H1=>∃ d kvs,x=.ref d/\H1 d=some (.dT kvs)/\∀ o,R (FU d o kvs) (upd H1 d (.frz o (.dT kvs)))
theorem vI {o:JG}{to:TE}{apos cpos tpos:Pos}{elts:List JG}{tk:Nat} (ho:WE X o to)
  (hbase:Mx o "items" X.env (KH o X.env)=KH o X.env:=by rfl)(hline:(apos.endLine==cpos.line)=true:=by rfl):WI X (.Tuple elts tk tpos) (.Call (.Attribute o "items" apos) [] [] cpos) (CM to):=by
 have ho:=ho.go;refine⟨?_⟩;intro pins s σ H R I h;refine wpAny_Call_method0_late hbase hline (bf (ho pins s σ H _ I h) λv s1 ⟨x,H1,I1,r1,q1⟩=>?_);obtain⟨d,kvs,rfl,hH,q⟩:=q1;obtain⟨h1,h2⟩:=yJ (T:="dict") I1 r1 (.inr (.inr (.inl ⟨rfl,.inr ⟨kvs,hH⟩⟩)));cases r1;refine⟨"dict","dict.items",PySem.F.plainAttrs_dict,Oy,PySem.F.type_dict_items,h1,h2,MD rfl (PySem.evalArgs_none ?_)⟩;obtain⟨z,hd,vs,rel,dd⟩:=kB I1.hok (.inl hH);obtain⟨es,ep,raw,hes⟩:=Heap.RawD.of dd;refine call_meetsIn Oy h1 PySem.F.entry_dict_items (PySem.F.args_dict_items_1 _) (ve d hd) ⟨⟨es,ep,raw⟩,?_⟩;obtain⟨ob,g1,I2⟩:=mP I1 hH;obtain⟨o',g1',_,gd⟩:=id raw;rw[g1] at g1';cases g1';have k1:∀ b u,s1.heap.get? b=some u->(s1.heap.push { cls:=.type "dict_items",data:=.fields #[.ref d] }).get? b=some u:=λb u e=>GC _ e
 have I3:=I2.kept (t':=s1.toks) k1;have raw3:(s1.heap.push { cls:=.type "dict_items",data:=.fields #[.ref d] }).RawD d es ep:=by
  obtain⟨o',a1,a2,a3⟩:=raw;exact⟨o',k1 _ _ a1,a2,a3⟩
 have hv:(s1.heap.push { cls:=.type "dict_items",data:=.fields #[.ref d] }).IsItemsView s1.heap.objs.size d:=⟨_,GL _ rfl,rfl,rfl⟩
 refine wZ (s:={ s1 with heap:=s1.heap.push { cls:=.type "dict_items",data:=.fields #[.ref d] } }) hv raw3 ?_;generalize s1.heap.push { cls:=.type "dict_items",data:=.fields #[.ref d] }=g at I3 raw3 hv ⊢;refine⟨g.objs.size,[g.objs.size],_,_,_,rfl,I3.kept (t':=s1.toks) λb u e=>GC _ e,tN gd,⟨_,_,GL _ rfl⟩,λb hb=>?_,q ob⟩;cases G5.mp hb;exact I3.fpOk (GM _) (I3.hok.fresh (GM _))
end
end TR
namespace TR
open PySem PySem.Spec PyProof.Rows
def qR (n:Nat):List Int:=(IQ n).map λ(i:Nat)=>(i:Int)
theorem C6 {n i:Nat}(h:i<n):(qR n)[i]?=some (i:Int):=by unfold qR;simp[h]
theorem jd (n:Nat):(qR n).length=n:=by unfold qR;simp
theorem CW {n:Nat}(hl:vs.length=n)(h:∀ (i:Nat) (v:GH),vs[i]?=some v->∃ t,v=LW (i:Int) t):L7 vs (qR n):=by
 have go:∀ (vs:List GH) (k:Nat),(∀ (i:Nat) (v:GH),vs[i]?=some v->∃ t,v=LW ((k+i:Nat):Int) t)->L7 vs ((P0 k vs.length).map λ(i:Nat)=>(i:Int)):=by
  intro vs
  induction vs with
  |nil=>intro k _;exact .nil
  |cons v vs ih=>
   intro k h;obtain⟨t,e⟩:=h 0 v rfl;subst e;rw[HR,List.range'_succ,G_];refine .cons _ t (ih (k+1) λi v hv=>?_);obtain⟨t',e⟩:=h (i+1) v (by simpa using hv);exact⟨t',by rw[e];congr 1;lia⟩
 have:=go vs 0 λi v hv=>by simpa using h i v hv
 rw[<- List.range_eq_range',hl] at this;exact this
open L2
theorem jG:∀ {vs:List GH}{ns:List Int},L7 vs ns->aI (ns.map V.int) vs
 |_,_,.nil=>.nil
 |_,_,.cons n t h=>.cons ⟨t,rfl⟩ (jG h)
section
variable {X:Cx}
def E8 (ta:TA):TE:=λσ H Q=>ta σ H λvs H1=>∃ n:Nat,vs=[.int n]/\n<=1000/\∀ p,H1 p=none->Q (.ref p) (upd H1 p (.rng 0 n))
theorem AQ (hg:Gl X "range")(hm:X.mg "range"=none)(ha:WA X [a] ta)(hs:G9 [a] X.env=[(false,KH a X.env)]:=by rfl):WE X (.Call (.Name "range" p) [a] [] pos) (E8 ta):=by
 have ha:=ha.go;refine⟨?_⟩;intro pins s σ H Q I h;refine Call_ (fc I hg hm boot_range (Jk (bf (ha pos pins s σ H _ I h) λus s1 ⟨vs,H1,I1,r1,q1⟩=>?_) hs rfl));obtain⟨n,rfl,hn,q⟩:=q1;cases r1 with
 |cons r rr=>
  cases rr;obtain⟨t,rfl⟩:=r;exact call_range_1 ⟨.ref s1.heap.objs.size,_,I1.laid (a:=s1.heap.objs.size) (o:=.rng 0 n) (t':=_) (λb o e=>GC _ e) (GM _) ⟨_,_,_,GL _ rfl⟩,rfl,q _ (I1.hok.fresh (GM _))⟩
def wJ:List V->Hp->VK->Prop:=λxs H Q=>∃ (p:G7) (n:Nat),xs=[.ref p]/\H p=some (.rng 0 n)/\n<=1000/\∀ l,H l=none->Q (.ref l) (upd H l (.lst ((qR n).map V.int)))
theorem pZ (hc:X.calm=true):br X (.type "list") wJ:=by
 intro pins s σ H xs us Q I r h;obtain⟨p,n,rfl,hp,hn,q⟩:=h;obtain⟨u,rfl,ru⟩:=fR r;cases ru;obtain⟨t,u,v,e⟩:=(show bc X.prog X.w H s.heap p (.rng 0 n) from I.hok _ _ hp)
 refine call_list_range (n:=n) (I.ok.hd hc) e (small_one (a:=0) (b:=n) (by lia) (by lia) (by lia) (by lia)) (by rw[rangeSize_one];split<;>lia) (by lia) λh' tk acc c hk hD hI=>?_
 have hv:L7 acc.toList (qR n):=CW (by rw[HD];exact hI.1) λi v hv=>by
  obtain⟨t',e⟩:=hI.2 i v (by rw[<- I_];exact hv);exact⟨t',by rw[e];congr 1;lia⟩
 refine⟨.ref s.heap.objs.size,_,I.laid (a:=s.heap.objs.size) (o:=.lst ((qR n).map V.int)) (t':=tk) hk (GM _) ⟨?_,acc.toList,c,jG hv,by rw[Array.toArray_toList];exact hD⟩,rfl,q _ (I.hok.fresh (GM _))⟩;rw[GG,jd];exact cP hn
end
abbrev Bn (q:Str):HO:=.tbl #[.str q 0]
def Af (Tb:G7->Option Str)(own:Bool)(a:G7)(o:Obj)(ns:List Int):Hp:=λb=>match Tb b with
 |some q=>some (Bn q)
 |none=>if own=true/\b=a then some (.frz o (.lst (ns.map V.int))) else none
theorem vk {P:Hv}{w:IN}{K:GB}{mg mb:Str->Option GH}{CX:jE}{k:Nat}{fa a:G7}{fd:KN}{x:Str}{sp:Sp}{s₁:GJ}{vs:List GH}{ns:List Int} (Tb:G7->Option Str)
  (KX:K.In s₁.heap)(hns:s₁.heap.Ns G4 mg)(hb:s₁.heap.Ns MS mb)(hbb:∀ x:Str,x≠"__name__"->mb x=IM x)(hlim:s₁.heap.NoLimit)(hg:s₁.gens=#[])
  (hbm:∃ bm o,mg "__builtins__"=some (.ref bm)/\bm≠MS/\s₁.heap.get? bm=some o/\o.cls=.type "module"/\o.dict=some MS/\o.data=.plain)
  (hT:∀ b q,Tb b=some q->s₁.heap.get? b=some { cls:=.none,data:=.fields #[] }/\isCodeTable s₁.heap b/\K.lookup b=none)
  (ha:s₁.heap.get? a=some { cls:=.type "list",data:=.seq vs.toArray })(hi:L7 vs ns)(hl:ns.length<=GZ)(hr:Room k Ri)
  (F:∀ base:JI,K.In base->base.Ns G4 mg->i9 P w K mg base CX k fa fd [x] sp)(hbind:∀ (s:GJ) (u:GH),Rc s fd ⟨[u],[]⟩ [(x,u)])
  (hsp:∀ H:Hp,(∀ b q,Tb b=some q->H b=some (Bn q))->bg K H a (ns.map V.int)->sp [.ref a] H (λv _=>v=.bl true) λ_ _ _=>False)
  (hCX:∀ H e s',CX [] H s₁ (λ_ _ _=>False) e s'->False):
  Ky (Hl P w) Ri (.call (.ref fa) ⟨[.ref a],[]⟩) (λr s'=>r=.ok (.ret (.bool true))/\OldK s₁.heap s'.heap/\s'.os=s₁.os/\OY s'.gens) s₁:=by
 have rv:=eY hi;have nTa:Tb a=none:=by
  cases q:Tb a with
  |none=>rfl
  |some z=>
   have:=(hT a z q).1;rw[ha] at this;cases this
 obtain⟨own,hown⟩:∃ own:Bool,own=(K.lookup a).isNone:=⟨_,rfl⟩
 let H:Hp:=Af Tb own a { cls:=.type "list",data:=.seq vs.toArray } ns
 have HT:∀ b q,Tb b=some q->H b=some (Bn q):=λb q e=>by
  show(match Tb b with|some q=>some (Bn q)|none=>_)=_;rw[e]
 have cases_:∀ b u,H b=some u->(∃ q,Tb b=some q/\u=Bn q)\/(own=true/\b=a/\u=.frz { cls:=.type "list",data:=.seq vs.toArray } (.lst (ns.map V.int))):=λb u e=>by
  have e':(match Tb b with|some q=>some (Bn q)|none=>if own=true/\b=a then some (HO.frz { cls:=.type "list",data:=.seq vs.toArray } (.lst (ns.map V.int))) else none)=some u:=e;cases q:Tb b with
  |some z=>
   rw[q] at e';exact .inl ⟨z,rfl,(GN e').symm⟩
  |none=>
   rw[q] at e';dsimp only at e'
   split at e'
   ·rename_i hc
    exact .inr ⟨hc.1,hc.2,(GN e').symm⟩
   ·cases e'
 have ok:il P w H s₁.heap:=λb u e=>by
  rcases cases_ b u e with ⟨q,hq,rfl⟩|⟨_,rfl,rfl⟩
  ·exact⟨#[],(hT b q hq).1,trivial,q,0,rfl,λpos cv z=>nomatch z⟩
  ·exact⟨ha,by rw[GG];exact hl,vs,_,rv,ha⟩
 have hS:bg K H a (ns.map V.int):=by
  cases hk:K.lookup a with
  |some o=>
   have e:=KX a o hk;rw[ha] at e;cases e;exact .inr ⟨_,vs.toArray,_,hk,rfl,rfl,rfl,by rw[Hi,hi.length];exact hl,by simpa using rv⟩
  |none=>
   refine .inl (.inr ⟨{ cls:=.type "list",data:=.seq vs.toArray },?_⟩);show(match Tb a with|some q=>some (Bn q)|none=>if own=true/\a=a then some (HO.frz { cls:=.type "list",data:=.seq vs.toArray } (.lst (ns.map V.int))) else none)=_;rw[nTa];dsimp only;rw[Ie ⟨by rw[hown,hk];rfl,rfl⟩]
 have un:∀ {b:G7}{o:Obj},s₁.heap.get? b=some o->(∀ its n,o.data≠.seq its n)->(∀ ws,o.data≠.fields ws)->H b=none:=λ{b o} e h1 h2=>by
  cases q:H b with
  |none=>rfl
  |some u=>
   rcases cases_ b u q with ⟨z,hz,_⟩|⟨_,rfl,_⟩
   ·have:=(hT b z hz).1;rw[e] at this;cases this;exact absurd rfl (h2 _)
   ·rw[ha] at e;cases e;exact absurd rfl (h1 _ _)
 have nsK:∀ {b:G7}{m:Str->Option GH},s₁.heap.Ns b m->(rJ s₁.heap H).Ns b m:=λ{b m} ⟨o,es,ep,e,d,r⟩=>⟨o,es,ep,mi e (un e (λ_ _ z=>by rw[d] at z;cases z) λ_ z=>by rw[d] at z;cases z),d,r⟩
 have hKb:K.In (rJ s₁.heap H):=λb o e=>mi (KX b o e) (by
  cases q:H b with
  |none=>rfl
  |some u=>
   rcases cases_ b u q with ⟨z,hz,_⟩|⟨ho,rfl,_⟩
   ·rw[(hT b z hz).2.2] at e;cases e
   ·rw[hown,e] at ho;cases ho)
 have hM:Mod K mg (rJ s₁.heap H):=⟨hKb,nsK hns,⟨mb,nsK hb,hbb⟩,let ⟨mc,h1,h2⟩:=hlim;⟨mc,nsK h1,h2⟩,by
  obtain⟨bm,o,b1,b2,b3,b4,b5,b6⟩:=hbm;exact⟨bm,o,b1,b2,mi b3 (un b3 (λ_ _ z=>by rw[b6] at z;cases z) λ_ z=>by rw[b6] at z;cases z),b4,b5,b6⟩⟩
 have e0:tV P w K mg (rJ s₁.heap H) Ri [] s₁ H:=⟨rfl,hM,λb o e=>zY e,Nat.le_of_eq (v9 _ _),trivial,λb hb=>absurd (show b∈([]:List G7) from hb) (by simp),ok,.of_eq hg⟩
 refine K9 ((F _ hKb (nsK hns)).run Ri [] s₁ H ⟨[.ref a],[]⟩ [.ref a] [.ref a] _ _ hr e0 (hbind s₁ (.ref a)) (.cons rfl .nil) (hsp H HT hS)) λr s' h=>?_
 cases r with
 |error e=>exact(hCX H e s' h).elim
 |ok fl=>
  cases fl with
  |next=>exact Kh h
  |brk=>exact Kh h
  |cont=>exact Kh h
  |ret u=>
   obtain⟨v,H',os,bare,un',hok',r',q⟩:=h;have q':v=.bl true:=q;subst q';obtain rfl:u=Nk true:=r';have old:∀ b o,s₁.heap.get? b=some o->asItWas s₁.heap s'.heap b o:=λb o e=>by
    cases z:H b with
    |none=>exact .inl (un'.keep b o e z (by intro z;exact absurd (show b∈([]:List G7) from z) (by simp)) (by simp))
    |some u=>
     rcases cases_ b u z with ⟨n,hn,rfl⟩|⟨_,rfl,rfl⟩
     ·obtain⟨more,z2⟩:=un'.tbls b _ z;obtain⟨ps,e2,_⟩:=(show bc P w H' s'.heap b (.tbl _) from hok' b _ z2)
      obtain⟨e1,ct,_⟩:=hT b n hn;rw[e] at e1;cases e1;exact .inr (.inl ⟨ct,rfl,#[],ps,rfl,by simpa using e2⟩)
     ·have z2:=un'.frzs _ _ _ z;obtain⟨e2,_⟩:=(show s'.heap.get? _=some _/\_ from hok' _ _ z2)
      rw[ha] at e;cases e;exact .inl e2
   refine⟨rfl,⟨old,λb o e=>?_⟩,os,bare⟩;rcases old b o e with x|⟨_,_,_,_,_,x⟩|⟨_,_,⟨o',_,_,x,_⟩,_⟩
   ·exact⟨_,x⟩
   ·exact⟨_,x⟩
   ·exact⟨_,x⟩
def Bu (K:GB)(x:Str)(P:G7):Prop:=∃ (f:G7) (oc:GH) (od:Option G7) (fd:KN) (sl:Array (Option GH)) (c:G7),Ho K G4 x=some (some (.ref f))/\K.lookup f=some ⟨oc,od,.func fd,sl⟩/\fd.code=.ref c /\
 (∀ h:JI,K.In h->PySem.W.CodeHd h c P)/\fd.qualname=x
def Go (K:GB)(x:Str)(H:Hp):Prop:=∃ P,Bu K x P/\H P=some (Bn (x++".<locals>."++"<lambda>"))
def yy (ts:List (Str×G7))(b:G7):Option Str:=(ts.find? λp=>p.2==b).map λp=>p.1++".<locals>."++"<lambda>"
structure oJ (K:GB)(tA:List G7)(ts:List (Str×G7)):Prop where
 nodup:(ts.map (·.2)).Nodup
 tab:∀ p∈ts,p.2∈tA/\K.lookup p.2=none/\(∀ h:JI,K.In h->isCodeTable h p.2)/\Bu K p.1 p.2
theorem yu (h:yy ts b=some q):∃ p∈ts,p.2=b/\q=p.1++".<locals>."++"<lambda>":=by
 unfold yy at h;obtain⟨p,e,rfl⟩:=Hj.mp h;exact⟨p,List.mem_of_find?_eq_some e,eq_of_beq (List.find?_some (p:=λr:Str×G7=>r.2==b) e),rfl⟩
theorem zW {ts:List (Str×G7)}{p:Str×G7}(hn:(ts.map (·.2)).Nodup)(hp:p∈ts):yy ts p.2=some (p.1++".<locals>."++"<lambda>"):=by
 unfold yy;have e:ts.find? (λr=>r.2==p.2)=some p:=by
  induction ts with
  |nil=>nomatch hp
  |cons r ts ih=>
   rw[G_,Jv] at hn;rw[KU];rcases GR.mp hp with rfl|hp
   ·rw[L4]
   ·have:(r.2==p.2)=false:=Jn.mpr λz=>hn.1 (z▸HH.mpr ⟨p,hp,rfl⟩)
    rw[this];exact ih hn.2 hp
 rw[e];rfl
theorem yg {l:Pc}{k:Nat}{q:Hv}{loose:List Str}{XP:(Str->Option GH)->JI->Prop}{YP:IN->JI->Prop}{d:DefRec}{K:Params->GB}{CX:IN->jE}{x:Str}{sp:List Str->GB->Sp}{tA:List G7}
  (hn:l.most=some 63)(hdf:d.params.defaults=[])(hr:Room k Ri)
  (hY:∀ (w:IN) (h:JI),YP w h->(K w.params).In h)(hY2:∀ (w:IN) (h:JI),YP w h->∀ P∈tA,h.get? P=some { cls:=.none,data:=.fields #[] })
  (F:∀ (w:IN) (mg:Str->Option GH) (fa:G7) (h:JI),(K w.params).In h->h.Ns G4 mg->mg d.name=some (.ref fa) ->
   ∃ (ts:List (Str×G7)) (fd:KN),oJ (K w.params) tA ts/\(∀ (s:GJ) (u:GH),Rc s fd ⟨[u],[]⟩ [(x,u)]) /\
    ∀ base:JI,(K w.params).In base->base.Ns G4 mg->i9 l.prog w (K w.params) mg base (CX w) k fa fd [x] (sp (ts.map (·.1)) (K w.params)))
  (hsp:∀ (xs:List Str) (K:GB) (H:Hp) (a:G7) (ns:List Int),ns.length<=63->bg K H a (ns.map V.int)->(∀ x∈xs,Go K x H)->sp xs K [.ref a] H (λv _=>v=.bl true) λ_ _ _=>False)
  (hCX:∀ (w:IN) (H:Hp) (s:GJ) (e:GH) (s':GJ),CX w [] H s (λ_ _ _=>False) e s'->False):
  PySem.W.WalkO q loose XP YP l.row.toRowW d [] (λf vs=>Rs f vs):=by
 refine Att.attach_call hn hdf λw s₀ s₁ mg mb fa o pm cd doc a vs ns G Y ho hd hcd hmg hobj hints hlen hg=>?_
 have KX:=hY w _ Y;obtain⟨ts,fd,tk,hb,hF⟩:=F w mg fa _ KX G.T.g hmg;refine vk (K:=K w.params) (yy ts) KX G.T.g G.T.b G.T.builtins G.T.nolimit hg G.T.bmain (λb z e=>?_) hobj hints (GV hlen (by decide)) hr hF hb (λH hH hS=>hsp _ _ H a ns hlen hS λy hy=>?_) λH e s'=>hCX w H s₁ e s'
 ·obtain⟨p,m,rfl,rfl⟩:=yu e;obtain⟨t1,t2,t3,_⟩:=tk.tab p m;exact⟨hY2 w _ Y _ t1,t3 _ KX,t2⟩
 ·obtain⟨p,m,rfl⟩:=HH.mp hy;exact⟨p.2,(tk.tab p m).2.2.2,hH _ _ (zW tk.nodup m)⟩
theorem _root_.L2.Room.u1 {k:Nat}(r:Room k A):A.units+1<cLine:=Mp (by lia) r.units
abbrev Kn:=Nat×Nat×Nat
def zJ (t:Kn):Il:=.tuple [.int t.1,.int t.2.1,.int t.2.2]
def zF (t:Kn):List V:=[.int t.1,.int t.2.1,.int t.2.2]
theorem jU (t:Kn):(bv t).map kV=zF t:=rfl
theorem u7 {K:GB}{H:Hp}{t:Kn}{v:V}(h:aW K H (zJ t) v):∃ a,v=.ref a/\H a=some (.tup (zF t)):=by
 cases h with
 |tup h q=>
  cases q with
  |cons q1 q=>
   cases q1;cases q with
   |cons q2 q=>
    cases q2;cases q with
    |cons q3 q=>
     cases q3;cases q;exact⟨_,rfl,h⟩
theorem ug {K:GB}{H:Hp}{t:Kn}{a:G7}(h:H a=some (.tup (zF t))):aW K H (zJ t) (.ref a):=.tup h (.cons (.int _) (.cons (.int _) (.cons (.int _) .nil)))
theorem nU (h:bv t=bv u):t=u:=by
 obtain⟨a,b,c⟩:=t;obtain⟨x,y,z⟩:=u;have h:[M' (a:Int),M' (b:Int),M' (c:Int)]=([M' (x:Int),M' (y:Int),M' (z:Int)]:List cS):=h;injection h with h1 h
 injection h with h2 h
 injection h with h3 h
 injection h1 with h1
 injection h2 with h2
 injection h3 with h3
 have e1:a=x:=by lia
 have e2:b=y:=by lia
 have e3:c=z:=by lia
 rw[e1,e2,e3]
def d_:List Kn->List V->List (List cS×V)
 |t::ts,v::vs=>(bv t,v)::d_ ts vs
 |_,_=>[]
theorem iW:∀ {ts:List Kn}{vs:List V},ts.length=vs.length->(d_ ts vs).length=ts.length
 |[],[],_=>rfl
 |[],_::_,h=>by simp at h
 |_::_,[],h=>by simp at h
 |t::ts,v::vs,h=>by
  rw[d_,HR,iW (by simpa using h),HR]
theorem ut:∀ {ts:List Kn}{vs:List V},ts.length=vs.length->(d_ ts vs).map (·.1)=ts.map bv
 |[],[],_=>rfl
 |[],_::_,h=>by simp at h
 |_::_,[],h=>by simp at h
 |t::ts,v::vs,h=>by
  rw[d_,G_,ut (by simpa using h),G_]
theorem wR:∀ {ts:List Kn}{vs:List V}{i:Nat}{k:List cS}{v:V},(d_ ts vs)[i]?=some (k,v)->∃ t,ts[i]?=some t/\k=bv t/\vs[i]?=some v
 |[],_,_,_,_,h=>by simp[d_] at h
 |_::_,[],_,_,_,h=>by simp[d_] at h
 |t::ts,w::vs,0,k,v,h=>by
  have h:some (bv t,w)=some (k,v):=h;cases h;exact⟨t,rfl,rfl,rfl⟩
 |t::ts,w::vs,i+1,k,v,h=>by
  obtain⟨u,a,b,c⟩:=wR (ts:=ts) (vs:=vs) (i:=i) (by simpa [d_] using h);exact⟨u,by simpa using a,b,by simpa using c⟩
theorem tY {K:GB}{H:Hp}{f:Kn->Il}{t:Kn}:∀ {ts:List Kn}{vs:List V},aE K H (ts.map f) vs->t∈ts->∃ v,i_ (d_ ts vs) (bv t)=some v/\aW K H (f t) v
 |[],_,_,m=>nomatch m
 |u::ts,vs,h,m=>by
  cases h with
  |@cons d v ds vs h1 h2=>
   by_cases e:u=t
   ·subst e;exact⟨v,jH (p:=(bv u,v)) rfl,h1⟩
   ·rcases GR.mp m with z|m
    ·exact absurd z.symm e
    ·obtain⟨w,a,b⟩:=tY h2 m;exact⟨w,by rw[d_,gu (p:=(bv u,v)) (λz=>e (nU z))];exact a,b⟩
theorem u9:∀ {ts:List Kn}{vs:List V},t∉ts->i_ (d_ ts vs) (bv t)=none
 |[],_,_=>rfl
 |_::_,[],_=>rfl
 |u::ts,v::vs,m=>by
  rw[d_,gu (p:=(bv u,v)) (λz=>m (by rw[nU z];exact GX))];exact u9 λz=>m (GK _ z)
theorem yf:∀ {ts:List Kn}{vs:List V}{t:Kn}{v:V},ts.length=vs.length->d_ (ts++[t]) (vs++[v])=d_ ts vs++[(bv t,v)]
 |[],[],_,_,_=>rfl
 |[],_::_,_,_,h=>by simp at h
 |_::_,[],_,_,h=>by simp at h
 |u::ts,w::vs,t,v,h=>by
  rw[KA,KA,d_,d_,yf (by simpa using h),KA]
theorem yq (hl:ts.length=vs.length)(h:t∉ts):fk (d_ ts vs) (bv t) v=d_ (ts++[t]) (vs++[v]):=by
 rw[zr v (u9 h),yf hl]
def wD (r:R3):Il:=vD false r
structure R3.Wt (r:R3):Prop where
 a0:0<=r.a
 a1:r.a<=1000
 b0:0<=r.b
 b1:r.b<=1000
 c0:0<=r.c
 c1:r.c<=1000
def nZ (K:GB)(H:Hp)(ts:List Kn)(f:Kn->R3)(d:G7):Prop:=∃ vs,H d=some (.dT (d_ ts vs))/\aE K H (ts.map λt=>wD (f t)) vs
def Gr (K:GB)(H:Hp)(n:Nat)(f:Kn->R3)(d:G7):Prop:=∃ ts,ts.Perm (az n)/\nZ K H ts f d
def zL (n:Nat)(f:Kn->R3):Prop:=∀ t∈az n,(f t).Wt
theorem uu {f:Kn->R3}:∀ ts:List Kn,iq (ts.map λt=>wD (f t))=true
 |[]=>rfl
 |t::ts=>by
  rw[G_,iq,uu ts];rfl
theorem nZ.len {K:GB}{ts:List Kn}{f:Kn->R3}{H:Hp}{vs:List V}(h:aE K H (ts.map λt=>wD (f t)) vs):ts.length=vs.length:=by
 have:=h.length
 rwa [GG] at this
theorem nZ.same {K:GB}{H H':Hp}{ts:List Kn}{f:Kn->R3}{d:G7}(h:nZ K H ts f d)(s:ah H H'):nZ K H' ts f d:=by obtain⟨vs,a,b⟩:=h;exact⟨vs,s _ _ a,aE.same s b⟩
theorem Gr.same {K:GB}{H H':Hp}{n:Nat}{f:Kn->R3}{d:G7}(h:Gr K H n f d)(s:ah H H'):Gr K H' n f d:=by obtain⟨ts,p,g⟩:=h;exact⟨ts,p,g.same s⟩
theorem nZ.mv {K:GB}{T:List G7}{H H':Hp}{ts:List Kn}{f:Kn->R3}{d:G7}(h:nZ K H ts f d)(m:Mv T H H')(l:gH H T):nZ K H' ts f d:=by
 obtain⟨vs,a,b⟩:=h;exact⟨vs,m _ _ a (l.not a λ_ z=>nomatch z),aE.mv m l (uu ts) b⟩
theorem xJ {K:GB}{H:Hp}{n:Nat}{f:Kn->R3}{d b:G7}{t:Kn}(h:Gr K H n f d)(ht:t∈az n)(hb:H b=some (.tup (zF t))):∃ v,qA H d (.ref b) (some v)/\aW K H (wD (f t)) v:=by
 obtain⟨ts,p,vs,a,q⟩:=h;obtain⟨v,e,hv⟩:=tY (f:=λt=>wD (f t)) q (p.mem_iff.mpr ht);refine⟨v,?_,hv⟩;have:=qA.t (k:=bv t) a (by rw[jU];exact hb)
 rwa [e] at this
theorem mz {n:Nat}(h:n<=7):(az n).Nodup:=by
 match n,h with
 |0,_=>decide +kernel
 |1,_=>decide +kernel
 |2,_=>decide +kernel
 |3,_=>decide +kernel
 |4,_=>decide +kernel
 |5,_=>decide +kernel
 |6,_=>decide +kernel
 |7,_=>decide +kernel
theorem bo {n:Nat}:(az n).length=n^3:=by
 unfold az;have h1:∀ (m:Nat) {α:Type} (g:Nat->List α) (k:Nat),(∀ i,(g i).length=k)->((IQ m).flatMap g).length=m*k:=λm α g k hg=>by
  induction m with
  |zero=>simp
  |succ m ih=>rw[Nt,Nq,IB,ih];simp[hg,NN]
 rw[h1 n _ (n*n) λi=>by rw[h1 n _ n λj=>by simp]];rw[QW,Nat.pow_two,QV n (n*n)]
theorem wg {n:Nat}(h:n<=7)(m:t∈az n):t∈az 7:=by
 rw[bx] at m ⊢;lia
theorem AU {n:Nat}(h:n<=7)(p:ts.Perm (az n))(hl:ts.length=vs.length):xN (d_ ts vs):=
 qG (ut hl) (p.nodup_iff.mpr (mz h)) λt ht=>wg h (p.mem_iff.mp ht)
def vX (K:GB)(H:Hp)(n:Nat)(f:Kn->R3)(v:V):Prop:=∃ a C dx d,v=.ref a/\bt K "Grid" C/\H a=some (.ins C dx [("knots",.int n),("table",.ref d)])/\Gr K H n f d
theorem vX.same {K:GB}{H H':Hp}{n:Nat}{f:Kn->R3}{v:V}(h:vX K H n f v)(s:ah H H'):vX K H' n f v:=by obtain⟨a,C,dx,d,h1,h2,h3,h4⟩:=h;exact⟨a,C,dx,d,h1,h2,s _ _ h3,h4.same s⟩
section
variable {K:GB}{g:TG}{tt:TT}{te:TE}{σ0:L2.St}{Fin:List V->Hp->Prop}{H1:Hp}
theorem tT {d:G7}{o:Obj}{kvs:List (List cS × V)}{bs:List Bool} (hH:H1 d=some (.frz o (.dT kvs))) (hlb:bs.length=kvs.length) (hl:kvs.length <= 1000)
  (he:∀ (i:Nat) (k:List cS) (x:V) (ka T:G7) (b:Bool) (H:Hp),kvs[i]?=some (k,x)->bs[i]?=some b->ah H1 H->H ka=some (.tup (k.map kV))->H T=some (.tup [.ref ka,x])->j_ g tt te σ0 (.ref T) H λy H'=>ah H H'/\y=.bl b)
  (hd:∀ H,ah H1 H->Fin (bs.map V.bl) H):dO (FU d o kvs) g tt te σ0 Fin H1:=by
 refine⟨λi m ys H=>m=kvs.length-i/\i<=kvs.length/\ah H1 H/\ys=(bs.take i).map V.bl,⟨kvs.length,by lia,Iz _,ah.refl _,rfl⟩,?_⟩;rintro i m ys H ⟨rfl,hi,s,rfl⟩;have hyl:((bs.take i).map V.bl).length<=1000:=by rw[GG,Ib];lia
 by_cases hlt:i<kvs.length
 ·refine .inr ⟨⟨s _ _ hH,hlt⟩,bL hyl,λv H3 y3=>?_⟩;obtain⟨k,x,ka,T,e1,e2,e3,rfl,rfl⟩:=y3;have sT:ah H (upd H T (.tup [.ref ka,x])):=ah.new e3;have hb:bs[i]?=some bs[i]:=by simp[show i<bs.length by lia]
  refine he i k x ka T bs[i] _ e1 hb (s.trans sT) (sT _ _ e2) af _ (λy H' ⟨s',hy⟩=>⟨kvs.length-(i+1),by lia,rfl,hlt,(s.trans sT).trans s',?_⟩) λH5=>∃ m',m'<kvs.length-i/\(m'=kvs.length-(i+1)/\i+1<=kvs.length/\ah H1 H5/\(bs.take i).map V.bl=(bs.take (i+1)).map V.bl)
  rw[cC hb,JL,hy];rfl
 ·have e:i=kvs.length:=by lia
  subst e;refine .inl ⟨⟨s _ _ hH,GM _⟩,cP hyl,?_⟩;rw[IE (by lia)];exact hd H s
end
section
variable {K:GB}{g:TG}{tt:TT}{tb:TB}{σ0:L2.St}
theorem vE {a:G7}{b:Bool}{xs:List V}{Fin:List V->Hp->Prop}{H1:Hp} (Pv:Nat->List V->Hp->Prop) (h0:Pv 0 [] H1) (hsrc:∀ i ys H,i <= xs.length->Pv i ys H->cq K H a xs b)
  (he:∀ i x ys H,xs[i]?=some x->Pv i ys H->∀ R:L2.St->Hp->List V->Prop,(∀ σ' H' ys',Pv (i+1) ys' H'->R σ' H' ys')->∀ S:Hp->Prop,g x σ0 H λσ' H4=>tt σ' H4 λc H5=>if c=true then tb σ' H5 ys R else S H5)
  (hd:∀ ys H,Pv xs.length ys H->ys.length<=1000/\Fin ys H):tU (pC K a b) g tt tb σ0 Fin H1:=by
 refine⟨λi m ys H=>m=xs.length-i/\i<=xs.length/\Pv i ys H,⟨xs.length,by lia,Iz _,h0⟩,?_⟩;rintro i m ys H ⟨rfl,hi,p⟩;have q:=hsrc i ys H hi p
 by_cases hlt:i<xs.length
 ·have go:(pC K a b).go i H:=by
   cases b with
   |true=>exact⟨xs,xs[i],q,by simp[hlt]⟩
   |false=>exact⟨xs,xs[i],q,by simp[hlt]⟩
  refine .inr ⟨go,λx H3 y3=>?_⟩;have e3:H3=H/\xs[i]?=some x:=by
   cases b with
   |true=>exact⟨y3.1,y3.2 xs q⟩
   |false=>exact⟨y3.1,y3.2 xs q⟩
  obtain⟨rfl,hx⟩:=e3;exact he i x ys _ hx p _ (λσ' H' ys' p'=>⟨xs.length-(i+1),by lia,rfl,hlt,p'⟩) λH5=>∃ m',m'<xs.length-i/\(m'=xs.length-(i+1)/\i+1<=xs.length/\Pv (i+1) ys H5)
 ·have e:i=xs.length:=by lia
  subst e;have stop:(pC K a b).stop xs.length H:=by
   cases b with
   |true=>exact⟨xs,q,GM _⟩
   |false=>exact⟨xs,q,GM _⟩
  exact .inl ⟨stop,cP (hd ys H p).1,(hd ys H p).2⟩
theorem qQ {a:G7}{b:Bool}{xs:List V}{σ:L2.St}{H:Hp}{ys:List V}{Q:L2.St->Hp->List V->Prop} (Pv:Nat->L2.St->List V->Hp->Prop) (h0:Pv 0 σ ys H) (hsrc:∀ i σ ys H,i <= xs.length->Pv i σ ys H->cq K H a xs b)
  (he:∀ i x σ ys H,xs[i]?=some x->Pv i σ ys H->∀ R:L2.St->Hp->List V->Prop,(∀ σ' H' ys',Pv (i+1) σ' ys' H'->R σ' H' ys')->∀ S:L2.St->Hp->Prop,g x σ H λσ' H4=>tt σ' H4 λc H5=>if c=true then tb σ' H5 ys R else S σ' H5)
  (hd:∀ σ ys H,Pv xs.length σ ys H->Q σ H ys):∃ W:Nat->Nat->L2.St->Hp->List V->Prop,(∃ m,W 0 m σ H ys)/\∀ i m σ2 H2 ys2,W i m σ2 H2 ys2 ->
   ((pC K a b).stop i H2/\Q σ2 H2 ys2) \/
   ((pC K a b).go i H2/\∀ x H3,(pC K a b).yld i H2 x H3->g x σ2 H3 λσ3 H4=>tt σ3 H4 λb H5=>if b=true then tb σ3 H5 ys2 λσ' H' ys'=>∃ m',m'<m/\W (i+1) m' σ' H' ys' else ∃ m',m'<m/\W (i+1) m' σ3 H5 ys2):=by
 refine⟨λi m σ H ys=>m=xs.length-i/\i<=xs.length/\Pv i σ ys H,⟨xs.length,by lia,Iz _,h0⟩,?_⟩;rintro i m σ H ys ⟨rfl,hi,p⟩;have q:=hsrc i σ ys H hi p
 by_cases hlt:i<xs.length
 ·have go:(pC K a b).go i H:=by
   cases b with
   |true=>exact⟨xs,xs[i],q,by simp[hlt]⟩
   |false=>exact⟨xs,xs[i],q,by simp[hlt]⟩
  refine .inr ⟨go,λx H3 y3=>?_⟩;have e3:H3=H/\xs[i]?=some x:=by
   cases b with
   |true=>exact⟨y3.1,y3.2 xs q⟩
   |false=>exact⟨y3.1,y3.2 xs q⟩
  obtain⟨rfl,hx⟩:=e3;exact he i x σ ys _ hx p _ (λσ' H' ys' p'=>⟨xs.length-(i+1),by lia,rfl,hlt,p'⟩) λσ5 H5=>∃ m',m'<xs.length-i/\(m'=xs.length-(i+1)/\i+1<=xs.length/\Pv (i+1) σ5 ys H5)
 ·have e:i=xs.length:=by lia
  subst e;have stop:(pC K a b).stop xs.length H:=by
   cases b with
   |true=>exact⟨xs,q,GM _⟩
   |false=>exact⟨xs,q,GM _⟩
  exact .inl ⟨stop,hd σ ys H p⟩
end
theorem e6 {K:GB}{H:Hp}:∀ {ns:List Int}{ys:List V},aE K H (ns.map IG) ys->ys=ns.map V.int
 |[],_,h=>by cases h;rfl
 |n::ns,_,h=>by
  cases h with
  |cons h1 h2=>
   cases h1;rw[e6 h2];rfl
def nX (a b k:Nat):List Kn:=(IQ k).map λc=>(a,b,c)
def mS (n a j:Nat):List Kn:=(IQ j).flatMap λb=>nX a b n
def mW (n i:Nat):List Kn:=(IQ i).flatMap λa=>mS n a n
theorem As (n:Nat):mW n n=az n:=rfl
theorem rR (a b k:Nat):nX a b (k+1)=nX a b k++[(a,b,k)]:=by unfold nX;rw[Nt,JL];rfl
theorem mE (n a j:Nat):mS n a (j+1)=mS n a j++nX a j n:=by unfold mS;rw[Nt,Nq];simp
theorem my (n i:Nat):mW n (i+1)=mW n i++mS n i n:=by unfold mW;rw[Nt,Nq];simp
theorem uZ (a b k:Nat):(nX a b k).length=k:=by unfold nX;simp
theorem oM (n a:Nat):∀ j,(mS n a j).length=j*n
 |0=>by simp[mS]
 |j+1=>by rw[mE,IB,oM n a j,uZ,NN]
theorem uv (n:Nat):∀ i,(mW n i).length=i*(n*n)
 |0=>by simp[mW]
 |i+1=>by rw[my,IB,uv n i,oM,NN]
theorem uM {a b k:Nat}:t∈nX a b k↔t.1=a/\t.2.1=b/\t.2.2<k:=by
 obtain⟨x,y,z⟩:=t;unfold nX;simp only[HH,Ju,Prod.mk.injEq];constructor
 ·rintro⟨c,hc,rfl,rfl,rfl⟩;exact⟨rfl,rfl,hc⟩
 ·rintro⟨h1,h2,h3⟩;exact⟨z,h3,h1.symm,h2.symm,rfl⟩
theorem uT {n a j:Nat}:t∈mS n a j↔t.1=a/\t.2.1<j/\t.2.2<n:=by
 unfold mS;simp only[OM,Ju,uM];constructor
 ·rintro⟨b,hb,h1,h2,h3⟩;exact⟨h1,by lia,h3⟩
 ·rintro⟨h1,h2,h3⟩;exact⟨t.2.1,h2,h1,rfl,h3⟩
theorem zM {n i:Nat}:t∈mW n i↔t.1<i/\t.2.1<n/\t.2.2<n:=by
 unfold mW;simp only[OM,Ju,uT];constructor
 ·rintro⟨b,hb,h1,h2,h3⟩;exact⟨by lia,h2,h3⟩
 ·rintro⟨h1,h2,h3⟩;exact⟨t.1,h1,rfl,h2,h3⟩
theorem yC {n i j k:Nat}(h:n<=7)(hi:i<n)(hj:j<n)(hk:k<=n):(mW n i++mS n i j++nX i j k).length<=343:=by
 rw[IB,IB,uv,oM,uZ];have h1:n*n<=49:=N1 h h;have h2:i*(n*n)<=6*49:=N1 (by lia) h1;have h3:j*n<=6*7:=N1 (by lia) h;lia
theorem pG {n i:Nat}{x:V}(h:((qR n).map V.int)[i]?=some x):i<n/\x=.int (i:Int):=by
 rw[GQ] at h;obtain⟨z,e,rfl⟩:=Hj.mp h;have hi:i<(qR n).length:=(GU.mp e).1;rw[jd] at hi;rw[C6 hi] at e;cases e;exact⟨hi,rfl⟩
theorem Gs:[a,b,c,d].length<=GZ:=by show 4<=GZ;decide
def dS (H H':Hp):Prop:=∀ b o,H b=some o->(∀ kvs,o≠.dT kvs)->H' b=some o
theorem dS.put (h:H d=some (.dT kvs)):dS H (upd H d (.dT kvs')):=λb o e n=>by
 rw[ap (λz=>by rw[z,h] at e;cases e;exact n _ rfl)];exact e
theorem dS.cut (h:dS H H'):dS (TR.cut T H) (TR.cut T H'):=λb o e n=>by
 unfold TR.cut at e ⊢
 split at e
 ·cases e
 ·rename_i nb
  rw[Hu nb];exact h b o e n
theorem Rd.sameD (e:dS H H')(h:Rd H a (.lst xs)):Rd H' a (.lst xs):=by
 rcases h with h|⟨o,h⟩
 ·exact .inl (e _ _ h λ_ z=>nomatch z)
 ·exact .inr ⟨o,e _ _ h λ_ z=>nomatch z⟩
mutual
theorem aW.sameD {K:GB}{H H':Hp}(e:dS H H'):∀ {d:Il}{v:V},aW K H d v->aW K H' d v
 |_,_,.non=>.non
 |_,_,.bl b=>.bl b
 |_,_,.int i=>.int i
 |_,_,.str x=>.str x
 |_,_,.lst h q=>.lst (Rd.sameD e h) (aE.sameD e q)
 |_,_,.tup h q=>.tup (e _ _ h λ_ z=>nomatch z) (aE.sameD e q)
 |_,_,.dct h=>.dct (e _ _ h λ_ z=>nomatch z)
theorem aE.sameD {K:GB}{H H':Hp}(e:dS H H'):∀ {ds:List Il}{vs:List V},aE K H ds vs->aE K H' ds vs
 |_,_,.nil=>.nil
 |_,_,.cons h q=>.cons (aW.sameD e h) (aE.sameD e q)
end
theorem bI.sameD (h:bI H t r)(e:dS H H'):bI H' t r:=by
 obtain⟨c,k,h1,h2,h3,h4⟩:=h;exact⟨c,k,e _ _ h1 (λ_ z=>nomatch z),e _ _ h2 (λ_ z=>nomatch z),h3,h4⟩
theorem Mv.wide (m:Mv [t,r] H H'):Mv [t,r,d] H H':=λb o e n=>m b o e λz=>n (by
 simp only[GR,Hq,Js] at z ⊢;rcases z with z|z
 ·exact .inl z
 ·exact .inr (.inl z))
theorem B1 (i j:Int):(if j<i then j else i)=min i j:=by
 by_cases h:j<i
 ·rw[Ie h];lia
 ·rw[Hu h];lia
end TR
namespace TR
open PySem PySem.Spec PyProof.Rows L2
def un:Nat->Kn
 |0=>(1,0,0)
 |1=>(0,1,0)
 |_=>(0,0,1)
structure Dv (n:Nat)(x:Rat):Prop where
 n2:2<=n
 n7:n<=7
 lo:0<=x
 hi:x<=((60:Int):Rat)
section
variable {n:Nat}{x:Rat}(h:Dv n x)
include h
end
def EF (x y z:Rat):Nat->Rat
 |0=>x
 |1=>y
 |_=>z
def Q3.lst (q:Q3):Il:=.list q.ds
theorem yQ (s:ah H0 H)(h:H0 F=none):ah H0 (upd H F o):=λb o' e=>by
 rw[ap (λz=>by rw[z,h] at e;cases e)];exact s _ _ e
def Gy (o:Nat×Nat×Nat):Nat->Nat
 |0=>o.1
 |1=>o.2.1
 |_=>o.2.2
theorem rf:∀ ns:List Int,PyData.eqvAll (ns.map IG) (ns.map IG)=true
 |[]=>rfl
 |n::ns=>by
  rw[G_,PyData.eqvAll,rf ns];simp[QE]
def CL (o:Nat×Nat×Nat)(k:Nat):Nat:=if o.1=k then 0 else if o.2.1=k then 1 else 2
end TR
namespace PySem
section
variable {prog:Hv}{w:IN}{A:IR}{E:GH->GJ->Prop}{s:GJ}{d it:G7}{es:Array Ly}{i ep:Nat}
theorem qH (hh:A.handled=none) (hit:s.heap.IsKeyIter it d i es.size ep) (hm:s.heap.RawD d es ep) (hx:es.size <= i)
  (hQ:∀ h',MI it s.heap h'->Q none { s with heap:=h' }):GW (Hl prog w) A (LG (.ref it)) Q E s:=by
 obtain⟨o,ho,hc,hd⟩:=id hit;obtain⟨od,hod,hcd,hdd⟩:=id hm;have hown:JE "dict_keyiterator"=false:=by decide
 unfold LG;refine Gz (J_ (Iy (name:=Iw "__next__") hit.typeIs JF
  (IF JF hit.typeIs M7 ?_ (MY _))))
 refine Gz (GD (Gz (Gz ?_)))
 first|refine Gz (Ko hit.typeIs (GD ?_))|refine Gz (K8 hit.typeIs (GD ?_))
 refine Gz (LY ho hd ?_);simp only[hown,Iv,JU];show GW _ _ (if(Ht d==Ia)=true then _ else _) _ _ s;rw[Hu (show ¬ ((Ht d==Ia)=true) from Hn)];refine Gz (GD (Gz (Jq hod hdd ?_)));rw[Hu (by simp)];refine Gz (GD (Gz (LI hod hdd ?_)));rw[Hu (by simp)];refine GD ?_;simp only[show ¬ ((i:Int)<0) from by lia,JU,IA,OP hx];refine Gz ?_
 first|refine Gz (Ko hit.typeIs (GD ?_))|refine Gz (K8 hit.typeIs (GD ?_))
 show GW _ _ (Pw (.ref it) 0 .none>>=_) _ _ s;refine Gz (Jd ho hd (by simp) ?_);show GW _ _ (Rl (.type "StopIteration") []>>=_) _ _ _;refine Gz ?_;simp only[Rl,newTuple];refine Gz (Ig ?_ (by size_fits));refine Gz (m:=KL _ _) (L_ (a:=Ia) (by first|rfl|(simp only[KL];rfl)) ?_);refine Ig ?_ (by size_fits);simp only[raiseNew];refine Gz (OD ?_);rw[show A.in1.handled=none from hh];refine Gz (GD (OH ?_));refine Gz (Lk (T:="StopIteration") (b:=true) ⟨_,GL _ rfl,rfl⟩ N4 ?_);exact GD (hQ _ (((Ik ..).extBut.push _).push _))
theorem uQ (hit:s.heap.IsKeyIter it d i es.size ep) (hm:s.heap.RawD d es ep) (hx:es[i]?=some e)
  (hQ:∀ h',h'.IsKeyIter it d (i+1) es.size ep->IH it s.heap h'->Q (some e.key) { s with heap:=h' }):GW (Hl prog w) A (LG (.ref it)) Q E s:=by
 obtain⟨o,ho,hc,hd⟩:=id hit;obtain⟨od,hod,hcd,hdd⟩:=id hm;have hown:JE "dict_keyiterator"=false:=by decide
 unfold LG;refine Gz (J_ (Iy (name:=Iw "__next__") hit.typeIs JF
  (IF JF hit.typeIs M7 ?_ (MY _))))
 refine Gz (GD (Gz (Gz ?_)))
 first|refine Gz (Ko hit.typeIs (GD ?_))|refine Gz (K8 hit.typeIs (GD ?_))
 refine Gz (LY ho hd ?_);simp only[hown,Iv,JU];show GW _ _ (if(Ht d==Ia)=true then _ else _) _ _ s;rw[Hu (show ¬ ((Ht d==Ia)=true) from Hn)];refine Gz (GD (Gz (Jq hod hdd ?_)));rw[Hu (by simp)];refine Gz (GD (Gz (LI hod hdd ?_)));rw[Hu (by simp)];refine GD ?_;simp only[show ¬ ((i:Int)<0) from by lia,JU,IA,hx];refine Gz ?_
 first|refine Gz (Ko hit.typeIs (GD ?_))|refine Gz (K8 hit.typeIs (GD ?_))
 refine Gz (wpAny_isOneOf_keyiter hit.typeIs ?_);show GW _ _ (Pw (.ref it) 1 (JV ((i:Int)+1))>>=_) _ _ s;refine Gz (Jd ho hd (by simp) ?_);have hit':(s.heap.update it (IC (·.setIfInBounds 1 (JV ((i:Int)+1))))).IsKeyIter it d (i+1) es.size ep:=
  ⟨_,HF _ ho (IJ (Ic hd _)),(K0 ..).trans hc,by rw[Ic hd];simp[JV]⟩
 refine Gz (Ij ?_);refine Gz (wpAny_isOneOf_keyiter (s:={ s with heap:=s.heap.update it (IC (·.setIfInBounds 1 (JV ((i:Int)+1)))) }) hit'.typeIs ?_);show GW _ _ (pure e.key) _ _ _;exact GD (GD ⟨_,rfl,GD (hQ _ hit' (Ik ..))⟩)
end
section
variable {prog:Hv}{w:IN}{A:IR}{E:GH->GJ->Prop}{s:GJ}{d:G7}{es:Array Ly}{ep:Nat}
theorem nH (hd:(d == JQ)=false) (hm:s.heap.RawD d es ep)
  (hQ:Q (.ref s.heap.objs.size) { s with heap:=s.heap.push { cls:=.type "dict_keyiterator",data:=.fields #[.ref d,.int 0 0,.int es.size 0,.int ep 0] } }):GW (Hl prog w) A (PQ (.ref d)) Q E s:=by
 obtain⟨o,ho,hc,hdat⟩:=id hm;have hT:s.TypeIs (.ref d) "dict":=hm.typeIs;refine MU hT OI (IF OI hT F.entry_dict_iter ?_ (F.args_dict_iter_1 _));unfold Kp.«dict.__iter__»;refine Gz ?_;unfold Builtin.Dict.dictSlotNone;refine Gz (M6 hT ?_);show GW _ _ (pure (Ht d)) _ _ s;refine GD ?_;show GW _ _ (Lw d>>=_) _ _ s;unfold Lw;rw[Hu (by rw[hd];exact Hn)];refine Gz (GD (Gz (Jq ho hdat (Gz (LI ho hdat ?_)))));refine Gz (Ig (GD ⟨_,rfl,"dict_keyiterator",_,⟨_,GL _ rfl,rfl⟩,JF.lookup,?_⟩))
 simpa [JV] using hQ
end
end PySem
namespace TR
open PySem PySem.Spec PyProof.Rows L2
def FV (d:G7)(o:Obj)(kvs:List (List cS×V)):It:=
 ⟨λi H=>H d=some (.frz o (.dT kvs))/\i<kvs.length,
  λi H v H'=>∃ (k:List cS) (x:V) (ka:G7),kvs[i]?=some (k,x)/\H ka=some (.tup (k.map kV))/\v=.ref ka/\H'=H,
  λi H=>H d=some (.frz o (.dT kvs))/\kvs.length<=i⟩
theorem v7 {P:Hv}{w:IN}{K:GB}{tg:JG}{it d:G7}{o:Obj}{kvs:List (List cS × V)}{es:Array Ly}{ep:Nat} (hd:o.data=.dict es ep) :
  kW P w K tg (FV d o kvs) [it] it (λi h=>h.IsKeyIter it d i es.size ep) where
 mem:=by simp
 obj:=λi h st b hb=>by
  cases G5.mp hb;obtain⟨o,e,c,dd⟩:=st;exact⟨o,e,λv z=>by rw[dd] at z;cases z⟩
 keep:=λi h h' st k=>by
  obtain⟨o,e,c,dd⟩:=st;exact⟨o,k it (by simp) o e,c,dd⟩
 item:=by
  intro X hP hw hK hc i pins s σ H E I hf st hg;subst hP hw hK;obtain⟨hH,hi⟩:=hg;obtain⟨raw,hsz,at_⟩:=lG hd (I.hok d _ hH);obtain⟨e,ka,u,e1,e2,e3,e4,e5⟩:=at_ i _ _ (GF hi);obtain⟨f0,f1,f2,f3,f4,f5⟩:=hf it (by simp);refine uQ st raw e1 λh' st' sb=>?_
  have I1:aw X pins σ H { s with heap:=h' }:=I.turned (t':=s.toks) (λb o hb e=>(sb.2 b hb).trans e) f0 f1 f3 f4 f5;obtain⟨oi,ei,c,dd⟩:=id st';refine⟨e.key,rfl,qe (s:={ s with heap:=h' }) ei c dd (by decide) ⟨.ref ka,H,I1,by rw[e2];rfl,⟨kvs[i].1,kvs[i].2,ka,GF hi,e4,rfl,rfl⟩,st',λb hb=>(hf b hb).1⟩⟩
 done:=by
  intro X hP hw hK hc i pins s σ H E I hf st hg;subst hP hw hK;obtain⟨hH,hi⟩:=hg;obtain⟨raw,hsz,_⟩:=lG hd (I.hok d _ hH);have fit:=hf it (by simp);exact qH (I.ok.hd hc) st raw (by lia) λh' ex=>⟨rfl,I.turned (it:=it) (t':=s.toks) (λb o hb e=>ex b o hb e) fit.1 fit.2.1 fit.2.2.2.1 fit.2.2.2.2.1 fit.2.2.2.2.2⟩
 self:=λ_ _ _ _ _ st h=>wpAny_pyIter_keyiter st h
section
variable {X:Cx}
def DL (to:TE):TI:=λσ H R=>to σ H λx H1=>∃ d kvs,x=.ref d/\H1 d=some (.dT kvs)/\∀ o,R (FV d o kvs) (upd H1 d (.frz o (.dT kvs)))
theorem xH {tg o:JG}{to:TE}(ho:WE X o to):WI X tg o (DL to):=by
 have ho:=ho.go;refine⟨?_⟩;intro pins s σ H R I h;refine bf (ho pins s σ H _ I h) λv s1 ⟨x,H1,I1,r1,q1⟩=>?_
 obtain⟨d,kvs,rfl,hH,q⟩:=q1;cases r1;obtain⟨z,hd,vs,rel,dd⟩:=kB I1.hok (.inl hH);obtain⟨es,ep,raw,hes⟩:=Heap.RawD.of dd;obtain⟨ob,g1,I2⟩:=mP I1 hH;obtain⟨o',g1',_,gd⟩:=id raw;rw[g1] at g1';cases g1';refine nH hd raw ?_;refine⟨s1.heap.objs.size,[s1.heap.objs.size],_,_,_,rfl,I2.kept (t':=s1.toks) λb u e=>GC _ e,v7 gd,⟨_,GL _ rfl,rfl,rfl⟩,λb hb=>?_,q ob⟩;cases G5.mp hb;exact I2.fpOk (GM _) (I2.hok.fresh (GM _))
end
def Cr (t:Kn):Nat->Nat
 |0=>t.1
 |1=>t.2.1
 |_=>t.2.2
def eS (o:Nat×Nat×Nat)(t:Kn):Kn:=(Cr t o.1,Cr t o.2.1,Cr t o.2.2)
def FT (o:Nat×Nat×Nat):Nat×Nat×Nat:=(CL o 0,CL o 1,CL o 2)
def fT (o:Nat×Nat×Nat)(f:Kn->R3)(t:Kn):R3:=f (eS (FT o) t)
theorem nZ.more {K:GB}{H:Hp}{ts:List Kn}{f:Kn->R3}{d:G7}{t:Kn}{v:V}{vs:List V}(hd:H d=some (.dT (d_ ts vs)))(h:aE K H (ts.map λt=>wD (f t)) vs)(nt:t∉ts)(hv:aW K H (wD (f t)) v):nZ K (upd H d (.dT (fk (d_ ts vs) (bv t) v))) (ts++[t]) f d:=by
 have hlen:=nZ.len h;rw[yq hlen nt];refine⟨_,af,?_⟩;rw[JL];exact(aE.sameD (dS.put hd) h).snoc (aW.sameD (dS.put hd) hv)
theorem Gb {M:V->Hp->Prop}{I:V->Hp->Prop}{G:Prop}(cR:∀ v H,I v H->M v H)(main:(∀ v H,I v H->M v H)->G):G:=main cR
section
variable {X:Cx}{pins:List (G7×Obj)}{σ:L2.St}{H H2:Hp}{s s2:GJ}
theorem vQ {tk:Nat} (I:aw X pins σ H2 s2) (S:jN X scope)
  (hcap:fQ X scope N σ σ0)(hlen:σ0.length=N.length)(f2:∀ b∈fp,eN X pins H2 b)(fo:∀ b∈fp,∃ o,s2.heap.get? b=some o)(hC:s2.heap.objs.size<=C)
  (old:∀ b o,s2.heap.get? b=some o->h1.get? b=some o)(hnC:∃ m,h1.Ns C m)(own:∀ x c,(ar X scope C).lookup x=some c->C+1<=c->h1.IsCell c none):
  aw (aA X N scope (ar X scope C) C s2 H2 fp pins) [] σ0 H2 { s2 with heap:=h1,toks:=tk }:=by
 have ltne:∀ b,b<s2.heap.objs.size->b≠C:=λb hb z=>absurd (z▸hb) (H_.mpr hC)
 have cellLt:∀ x c,X.env.cells.lookup x=some c->c<s2.heap.objs.size:=λx c e=>by
  obtain⟨v,q⟩:=I.cell x c e;exact q.lt
 have big:∀ c:G7,C+1<=c->s2.heap.objs.size<=c:=λc h=>GV hC (KY h)
 refine⟨⟨I.ok.mod,S.kind,I.ok.glob,I.ok.blt,hC,?_,?_,?_,I.ok.hd,I.ok.frames,.inl rfl,?_,?_,?_,?_,?_,I.stack,I.stkFree⟩,rfl,I.bare,Un.kept old,?_,?_,?_,?_,?_,I.hok.kept old,hlen⟩
 ·intro x y c e1 e2;exact zx S e1 e2 I.ok.inj λx c e=>G8 (cellLt x c e) hC
 ·intro x hx;exact pQ S hx
 ·intro x c hf e;rcases bF S e with ⟨_,k⟩|⟨l,_⟩
  ·have hf:(scope.names.lookup x==some Jg)=true:=hf;rw[k] at hf;cases hf
  ·exact big c l
 ·intro b hb;obtain⟨o,ho⟩:=fo b hb;refine⟨ltne b (GI ho),λx c e=>?_⟩;rcases bF S e with ⟨e,_⟩|⟨l,_⟩
  ·exact(f2 b hb).2.2.2.2.1 x c e
  ·exact λz=>absurd (GI ho) (H_.mpr (z▸big c l))
 ·exact λb o e=>I.bs b o e
 ·exact GV I.ok.bsz I.sz
 ·intro b o e hb;rcases(f2 b hb).2.2.2.1 with z|z
  ·exact I.ok.noex b o e z
  ·exact absurd (G8 (GI e) (GV I.ok.bsz z)) (Ii _)
 ·intro b hb;exact fq I (f2 b hb).2.1 (f2 b hb).2.2.1
 ·obtain⟨m1,hm1⟩:=hnC;refine⟨m1,hm1,λi x v e1 e2 _=>?_⟩;obtain⟨j,j1,j2,j3,jf,j4⟩:=hcap i x v e1 e2;obtain⟨m,hn,hl⟩:=I.loc;have vis:Cn X.env.scope x:=by
   rcases j3 with z|z
   ·exact .inr (.inl z)
   ·exact .inr (.inr z)
  obtain⟨u,r,l⟩:=hl j x v j1 j2 vis;refine⟨u,r,.inr ⟨j4,?_⟩⟩;obtain⟨c,hc⟩:=pQ S (C:=C) j4;rcases l with ⟨k,_⟩|⟨_,c',e',z'⟩
  ·exfalso;rcases j3 with z|z<;>(rw[z] at k;cases k)
  ·rcases bF S hc with ⟨e,_⟩|⟨_,k⟩
   ·rw[e'] at e;cases e;exact⟨_,hc,z'.keeps old⟩
   ·rw[jf] at k;cases k
 ·intro x c e;rcases bF S e with ⟨e,_⟩|⟨l,_⟩
  ·obtain⟨v,q⟩:=I.cell x c e;exact⟨v,q.keeps old⟩
  ·exact⟨_,own x c e l⟩
 ·exact I.hok.fresh hC
 ·intro x c e;rcases bF S e with ⟨e,_⟩|⟨l,_⟩
  ·exact I.freeC x c e
  ·exact I.hok.fresh (big c l)
 ·intro p hp;rw[O5] at hp;obtain⟨q1,q2,q3,q4,q5⟩:=I.pin p hp;exact⟨old _ _ q1,q2,ltne _ (GI q1),fq I q3 q4,q5⟩
theorem nV (I:aw X pins σ H2 s2)
  (f2:∀ b∈fp,eN X pins H2 b)(J:aw (aA X N scope (ar X scope C) C s2 H2 fp pins) pl σ0 H' s'):aw X pins σ H' s':=by
 refine I.call' (ch:=fp) J.os J.base J.hok J.bare λb hb=>?_
 obtain⟨_,g1,_,g3,g4,g5⟩:=f2 b hb;exact⟨g3,g1,g4,g5⟩
theorem v6 (hu:A.units < cLine) (I:aw X pins σ H s) (e:H a=some (.dT kvs)) (ey:y=.ref b) (eb:H b=some (.tup (k.map kV))) (l:kvs.length < GZ) (eH:H'=upd H a (.dT (fk kvs k v))) (ry:RelV y u) (rv:RelV v r) (h:∀ s',aw X pins σ H' s'->Q () s') :
  GW (Hl X.prog X.w) A (dictSet a u r) Q E s:=by
 subst ey eH;cases(show u=Ht b from ry);obtain⟨z,hd,xs,rel,dd⟩:=Bp I.hok e;have hz:xs.length<=GZ:=by rw[<- Mq rel];exact z
 have hl:(fk kvs k v).length<=GZ:=by have:=gJ kvs k v;lia
 refine wpAny_dictSet_heap (hsz:=hz) hu (lV I.hok eb) dd λh' dd' hs=>h _ ?_
 obtain⟨q,es,ep,hq,h2,h3,h4,_,h5⟩:=dd';refine pL I (by rw[e];exact True.intro) hs ⟨q,hq⟩ ⟨hl,hd,_,(rel.put k eb rv).keeps λc ys ec=>?_,q,es,ep,hq,h2,h3,h4,h5⟩;rw[ap (yT ec e (λz=>nomatch z))];exact ec
def sJ (J:It)(g:TG)(tt:TT)(tk tv:TE)(D:G7)(σ0:L2.St)(Fin:Hp->Prop)(H1:Hp):Prop:=∃ W:Nat->Nat->Hp->Prop,(∃ m,W 0 m H1)/\∀ i m H2,W i m H2 ->
 (J.stop i H2/\Fin H2) \/
 (J.go i H2/\∀ x H3,J.yld i H2 x H3->g x σ0 H3 λσ' H4=>tt σ' H4 λb H5=>if b=true then tk σ' H5 λk H6=>tv σ' H6 λv H7=>∃ kvs ks b,H7 D=some (.dT kvs)/\k=.ref b/\H7 b=some (.tup (ks.map kV))/\kvs.length<GZ/\∃ m',m'<m/\W (i+1) m' (upd H7 D (.dT (fk kvs ks v))) else ∃ m',m'<m/\W (i+1) m' H5)
end
section
variable {X:Cx}{pos:Pos}
def Ck (wi:TI)(g:TG)(tt:TT)(tk tv:TE)(mk:L2.St->L2.St):TE:=λσ H Q=>wi σ H λJ H1=>∀ D,H1 D=none->sJ J g tt tk tv D (mk σ) (λH2=>Q (.ref D) H2) (upd H1 D (.dT []))
end
structure Rw where
 w:Int
 x:Int
 y:Int
 z:Int
def Rw.ns (r:Rw):List Int:=[r.w,r.x,r.y,r.z]
def Rw.d (r:Rw):Il:=.tuple (r.ns.map IG)
structure Rw.In (r:Rw)(m:Int):Prop where
 w0:-m<=r.w
 w1:r.w<=m
 x0:-m<=r.x
 x1:r.x<=m
 y0:-m<=r.y
 y1:r.y<=m
 z0:-m<=r.z
 z1:r.z<=m
def EW (i:Int):Int:=min (max i 0) 1000
def Rw.at (r:Rw)(t:Kn):Int:=EW (r.w+(r.x*(t.1:Int)+(r.y*(t.2.1:Int)+r.z*(t.2.2:Int))))
def R3.sub (r s:R3):R3:=⟨r.a-s.a,r.b-s.b,r.c-s.c⟩
structure Rw.Lo (r:Rw):Prop where
 w0:0<=r.w
 w1:r.w<100
 x0:0<=r.x
 x1:r.x<40
 y0:0<=r.y
 y1:r.y<40
 z0:0<=r.z
 z1:r.z<40
def Kn.Lo (t:Kn):Prop:=t.1<=2/\t.2.1<=2/\t.2.2<=2
theorem Ba (h:∀ x,d≠.str x):bn (E2 d) "str"=some false:=by
 cases d with
 |none=>exact(show bn "NoneType" "str"=some false by decide +kernel)
 |bool b=>exact(show bn "bool" "str"=some false by decide +kernel)
 |int i=>exact(show bn "int" "str"=some false by decide +kernel)
 |list ds=>exact(show bn "list" "str"=some false by decide +kernel)
 |tuple ds=>exact(show bn "tuple" "str"=some false by decide +kernel)
 |dict kvs=>exact(show bn "dict" "str"=some false by decide +kernel)
 |str x=>exact absurd rfl (h x)
theorem wA {l m a b c:Int}(ha:l<=a/\a<=m)(hb:l<=b/\b<=m)(hc:l<=c/\c<=m):kG 3 l m (.tuple [.int a,.int b,.int c])=true:=by
 show((decide (l<=a)&&decide (a<=m))&&((decide (l<=b)&&decide (b<=m))&&((decide (l<=c)&&decide (c<=m))&&true)))=true;rw[GP ha.1,GP ha.2,GP hb.1,GP hb.2,GP hc.1,GP hc.2];rfl
open PySem.W PySem.Calls
section
variable {prog:Hv}{w:IN}{d:G7}{es:Array Ly}{ep:Nat}
theorem RawD.kept {h h':JI}(hm:h.RawD d es ep)(k:∀ o,h.get? d=some o->h'.get? d=some o):h'.RawD d es ep:=by
 obtain⟨o,ho,r⟩:=hm;exact⟨o,k o ho,r⟩
theorem RawD.lt {h:JI}(hm:h.RawD d es ep):d<h.objs.size:=by
 obtain⟨o,ho,r⟩:=hm;exact GI ho
theorem vA {A:IR} (hh:A.handled=none) (I:G7) (hne:d ≠ I) :
  Walks prog w A I [I,d] [I] es.size (λi v=>∃ e,es[i]?=some e/\v=e.key) (λi h=>h.IsKeyIter I d i es.size ep/\h.RawD d es ep) where
 sub:=λb hb=>by simp at hb;simp[hb]
 frame:=λ_ _ _ st hk=>⟨st.1.at λo e=>hk I (by simp) o e,RawD.kept st.2 λo e=>hk d (by simp) o e⟩
 item:=λi s Q E hi st hQ=>uQ st.1 st.2 (LR hi) λh' hit' hs'=>hQ _ h' s.toks ⟨_,LR hi,rfl⟩ ⟨hit',RawD.kept st.2 λo e=>hs'.extBut d o hne e⟩ λb o hb e=>hs'.extBut b o (λh=>hb (by simp[h])) e
 done:=λs Q E st hQ=>qH hh st.1 st.2 (GM _) λh' he'=>hQ h' s.toks λb o hb e=>he' b o (λh=>hb (by simp[h])) e
 self:=λ_ _ _ _ st hQ=>wpAny_pyIter_keyiter st.1 hQ
theorem Ad (lo:(d==JQ)=false):KdlSrc prog w "dict" d d es.size (λi v=>∃ e,es[i]?=some e/\v=e.key) (λh=>h.RawD d es ep) where
 type:=λ_ hm=>hm.typeIs
 there:=λ_ hm=>⟨RawD.lt hm,RawD.lt hm⟩
 keep:=λ_ _ hm hk=>RawD.kept hm λo e=>hk d (.inl rfl) o e
 notList:=by decide
 notTuple:=by decide
 hint:=λ_ _ _ _ hm hq=>kdl_hint_dict hm.typeIs hq
 iter:=λ_ _ hh hm=>⟨_,_,(λ_ _ hq=>nH lo hm hq),vA hh _ (Hk (RawD.lt hm)),⟨⟨_,GL _ rfl,rfl,rfl⟩,RawD.kept hm λo e=>GC _ e⟩⟩
end
section
variable {prog:Hv}{w:IN}{A:IR}{E:GH->GJ->Prop}{κ:SortKind}{it:Array Keyed}
theorem wQ:∀ (f a:Nat),1<=a->(∀ i,a<=i->i<a+f->∀ C:Bool->GJ->Prop,C false s->kas_cmp prog w A κ it (p.getD i 0) (p.getD (i-1) 0) C s)->G (a+f) s->(kas_asc p f a).kasWp (kas_cmp prog w A κ it) G s
 |0,a,_,_,hG=>hG
 |f+1,a,ha,hc,hG=>by
  refine hc a (GM _) (by lia) _ ?_;show(if false=true then KasT.ret a else kas_asc p f (a+1)).kasWp (kas_cmp prog w A κ it) G s;rw[Hu (by simp)];exact wQ f (a+1) (by lia) (λi h1 h2=>hc i (by lia) (by lia)) (by rw[show a+1+f=a+(f+1) by lia];exact hG)
theorem xK {r:Nat} (hz:it.size=r + 2) (hm:minRun' (r + 2) (r + 2) 0 <= r + 2)
  (hc:∀ i,i+1<r+2->∀ C:Bool->GJ->Prop,C false s->kas_cmp prog w A κ it (i+1) i C s)
  (hQ:∀ st',arrOf st'=it->failedOf st'=none->Q () st' s):kasC (Hl prog w) A E sortRuns' Q (Rt κ it #[] 7 none) s:=by
 have hr:(Kb (IQ (r+2))).map (kas_item it)=it:=by rw[<- hz];exact kas_range it
 have e0:Rt κ it #[] 7 none=kas_st κ it (Kb (IQ (r+2))):=by
  show _=Rt κ ((Kb (IQ (r+2))).map (kas_item it)) #[] 7 none;rw[hr]
 rw[e0,sortRuns'_eq];have hg:∀ i,i<r+2->(Kb (IQ (r+2))).getD i 0=i:=λi hi=>by simp[Ps,hi]
 refine kasC_bind (kasC_get ?_);have hs:(arrOf (kas_st κ it (Kb (IQ (r+2))))).size=r+2:=by
  show((Kb (IQ (r+2))).map (kas_item it)).size=_;rw[hr,hz]
 dsimp only;simp only[hs];refine kasC_bind (kasC_range ?_);show kasC _ _ _ (forIn (0::1::P0 2 r) _ _) _ _ _;refine kasC_cons ?_;dsimp only;rw[Hu (by lia)];simp only[QX];refine kasC_bind (kas_count_ (G:=λx s'=>x=(r+2,Kb (IQ (r+2)))/\s'=s) (by lia) (by simp) (λm p' s' _ _ _ hx=>?_) ?_)
 ·obtain⟨hx,rfl⟩:=hx;cases hx;dsimp only;rw[Hu (H_.mpr hm)];refine kasC_bind (kasC_get ?_);rw[show(pendingOf (kas_st κ it (Kb (IQ (r+2))))).back?=none from rfl];dsimp only;refine kasC_bind (kasC_modify (kasC_pure ?_));show kasC _ _ _ (forIn (1::P0 2 r) _ _) _ _ _;refine kasC_cons ?_;dsimp only;rw[Ie (by lia)];refine kasC_pure ?_;dsimp only;refine kasC_bind (kasC_range ?_);show kasC _ _ _ (forIn (0::1::P0 2 r) _ _) _ _ _;refine kasC_cons ?_;refine kasC_bind (kasC_get ?_);rw[Ie (show(pendingOf (setPending (kas_st κ it (Kb (IQ (r+2)))) ((pendingOf (kas_st κ it (Kb (IQ (r+2))))).push (0,r+2,0)))).size<=1 from GM 1)];refine kasC_pure ?_;dsimp only;exact kasC_pure (hQ _ hr rfl)
 ·unfold kas_count;rw[KasT.kasWp_bind];refine wQ _ 1 (GM _) (λi h1 h2 C hC=>?_) ?_
  ·have e1:i-1+1=i:=by lia
   rw[hg i (by lia),hg (i-1) (by lia)];have:=hc (i-1) (by lia) C hC;rw[e1] at this;exact this
  ·rw[show 1+(r+2-1)=r+2 by lia,Ie (L4 _)];exact⟨rfl,rfl⟩
theorem xD {s:GJ}{a:G7}{vs:List GH}{n r:Nat}{P:PySem.Fin->GJ->Prop} (ho:s.heap.get? a=some (K6 "list" vs.toArray n)) (hl:vs.length=r + 2) (hL:r + 2 <= GZ) (hm:minRun' (r + 2) (r + 2) 0 <= r + 2)
  (hk:∀ h',(∀ b o,b≠a->s.heap.get? b=some o->h'.get? b=some o)->∀ Q:SortKind->GJ->Prop,Q κ { s with heap:=h' }->GW (Hl prog w) A (keyKind' vs.toArray) Q (λ_ _=>False) { s with heap:=h' })
  (hc:∀ h',(∀ b o,b≠a->s.heap.get? b=some o->h'.get? b=some o)->∀ i x y,vs[i]?=some x->vs[i+1]?=some y->∀ C:Bool->GJ->Prop,C false { s with heap:=h' }->GW (Hl prog w) A (keyLt' κ y x) C (λ_ _=>False) { s with heap:=h' })
  (h:∀ h' c,(∀ b o,b≠a->s.heap.get? b=some o->h'.get? b=some o)->h'.get? a=some (K6 "list" vs.toArray c)->s.heap.objs.size<=h'.objs.size->P (.done (.ret .none)) { s with heap:=h' }):
  GW (Hl prog w) A (Kp.«list.sort» ⟨[.ref a],[]⟩) P E s:=by
 have ha:a<s.heap.objs.size:=GI ho;obtain⟨e1,ho1⟩:∃ e1,(s.heap.update a (JO λ_=>(#[]:Array GH))).get? a=some (K6 "list" #[] e1):=⟨_,NC ho λ_=>#[]⟩
 rw[list_sort_plain];refine Gz (listItems_at ho rfl ?_);refine Gz (listUpdate_at ho rfl ?_ (by rw[Hi,hl];exact hL) (Iz _));refine Gz (seqEpoch_at ho1 rfl ?_);refine Gz (N5 ?_ (by show vs.length<=_;rw[hl];exact hL));refine Gz (OF ?_ (Iz _));refine Ij ?_;show GW (Hl prog w) A _ P E { s with heap:=((s.heap.update a (JO λ_=>(#[]:Array GH))).push (K6 "tuple" vs.toArray 0)).push (K6 "list" #[] 0) };have keep:∀ b o,b≠a->s.heap.get? b=some o->(((s.heap.update a (JO λ_=>(#[]:Array GH))).push (K6 "tuple" vs.toArray 0)).push (K6 "list" #[] 0)).get? b=some o:=λb o nb e=>
  GC _ (GC _ ((Ik s.heap a _).extBut b o nb e))
 have ho2:=GC (K6 "list" #[] 0) (GC (K6 "tuple" vs.toArray 0) ho1);have sz:s.heap.objs.size<=(((s.heap.update a (JO λ_=>(#[]:Array GH))).push (K6 "tuple" vs.toArray 0)).push (K6 "list" #[] 0)).objs.size:=by
  rw[size_push',size_push',OJ];lia
 generalize ((s.heap.update a (JO λ_=>(#[]:Array GH))).push (K6 "tuple" vs.toArray 0)).push (K6 "list" #[] 0)=h1 at keep ho2 sz ⊢;dsimp only;have hn2:¬ vs.toArray.size<2:=by rw[Hi,hl];lia
 rw[Hu hn2,Hu hn2];refine Gz (Hm (hk h1 keep (λk s'=>k=κ/\s'={ s with heap:=h1 }) ⟨rfl,rfl⟩) (λk s' hks=>?_) λ_ _ x=>x.elim);obtain⟨rfl,rfl⟩:=hks;refine Gz (Hm (xK (it:=vs.toArray.zip vs.toArray) (Q:=λ_ st' s'=>arrOf st'=vs.toArray.zip vs.toArray/\failedOf st'=none/\s'={ s with heap:=h1 }) (by simp[hl]) hm (λi hi C hC=>?_) (λst' x1 x2=>⟨x1,x2,rfl⟩)) ?_ λ_ _ e=>e)
 ·unfold kas_cmp;rw[kat_item rfl,kat_item rfl];refine hc h1 keep i _ _ ?_ ?_ C hC
  ·rw[LO,GF (by lia)];rfl
  ·rw[LO,GF (by lia)];rfl
 rintro⟨⟨⟩,st'⟩ s' ⟨har,hf,rfl⟩;dsimp only at har hf ⊢;have hout:(arrOf st').map (·.2)=vs.toArray:=by
  rw[har];apply Kz.mp;rw[Array.toList_map,Array.toList_zip];show(List.zip vs vs).map _=vs;exact List.map_snd_zip (GM _)
 rw[hout];refine Gz (seqEpoch_at ho2 rfl ?_);refine Gz (listUpdate_at ho2 rfl ?_ (Iz _) (by rw[Hi,hl];lia));rw[hf];simp only[MR,Iv,JU];exact GD (h _ _ (λb o nb e=>(Ik h1 a _).extBut b o nb (keep b o nb e)) (NC ho2 λ_=>vs.toArray) (by rw[OJ];exact sz))
end
def um (t u:Kn):Prop:=¬ (t.1<u.1\/(t.1=u.1/\(t.2.1<u.2.1\/(t.2.1=u.2.1/\t.2.2<u.2.2))))
section
variable {prog:Hv}{w:IN}{A:IR}{E:GH->GJ->Prop}{s:GJ}
theorem zl {n k:Nat} (hx:s.heap.get? x=some ox) (dx:ox.data=.seq #[.int t.1 k1,.int t.2.1 k2,.int t.2.2 k3] n) (hy:s.heap.get? y=some oy) (dy:oy.data=.seq #[.int u.1 k4,.int u.2.1 k5,.int u.2.2 k6] k)
  (hn:um t u)(h:Q false s):GW (Hl prog w) A (keyLt' (tuples' true) (.ref x) (.ref y)) Q E s:=by
 refine kat_lt hx dx hy dy ?_;unfold um at hn;show KatLex prog w A true false Q [(.int t.1 k1,.int u.1 k4),(.int t.2.1 k2,.int u.2.1 k5),(.int t.2.2 k3,.int u.2.2 k6)] 0 s;refine kat_cons (M_ (kat_go (λe=>?_) λe=>?_))
 ·have e1:(t.1:Int)=u.1:=by simpa using e
  refine kat_yes (kat_cons (M_ (kat_go (λe=>?_) λe=>?_)))
  ·have e2:(t.2.1:Int)=u.2.1:=by simpa using e
   refine kat_yes (kat_cons (M_ (kat_go (λe=>kat_yes (kat_nil h)) λe=>?_)));refine kat_no (kat_one _ _ (wpAny_lt_int ?_));show Q (decide ((t.2.2:Int)<u.2.2)) s;rw[Hr (by lia)];exact h
  ·refine kat_no (kat_one _ _ (wpAny_lt_int ?_));show Q (decide ((t.2.1:Int)<u.2.1)) s;rw[Hr (by lia)];exact h
 ·refine kat_no (oneLt_int ?_);rw[Hr (by lia)];exact h
def Do (h:JI)(t:Kn)(v:GH):Prop:=∃ (a:G7) (o:Obj) (k1 k2 k3:Tok) (n:Nat),v=.ref a/\h.get? a=some o/\o.cls=.type "tuple"/\o.data=.seq #[.int t.1 k1,.int t.2.1 k2,.int t.2.2 k3] n
theorem qv:∀ {ts:List Kn}{vs:List GH},PP (Do h) ts vs->∃ fs,KatTups h vs fs/\fs.length=vs.length/\∀ v∈fs,Looks M h (typeOf v) (.type "int")
 |_,_,.nil=>⟨[],.nil,rfl,λ_ h=>nomatch h⟩
 |_,_,.cons (a:=t) r p=>by
  obtain⟨a,o,k1,k2,k3,n,rfl,ho,hc,hd⟩:=r;obtain⟨fs,h1,h2,h3⟩:=qv (M:=M) p;refine⟨.int t.1 k1::fs,KatTups.cons ho hc hd rfl h1,by rw[HR,h2,HR],λv hv=>?_⟩;rcases GR.mp hv with rfl|hv
  ·exact Looks.of_pure rfl
  ·exact h3 v hv
end
theorem zu:∀ {ts:List Kn}{vs:List V}{i:Nat},ts[i]?=some t->vs[i]?=some v->(d_ ts vs)[i]?=some (bv t,v)
 |[],_,_,h,_=>by simp at h
 |_::_,[],_,_,h=>by simp at h
 |a::ts,b::vs,0,h,h'=>by
  cases GN h;cases GN h';rfl
 |a::ts,b::vs,i+1,h,h'=>by
  have e:=zu (ts:=ts) (vs:=vs) (i:=i) (by simpa using h) (by simpa using h');show((bv a,b)::d_ ts vs)[i+1]?=_
  simpa using e
theorem om:∀ {l:List α}{m:List β},l.length=m.length->(∀ (i:Nat) a b,l[i]?=some a->m[i]?=some b->F a b)->PP F l m
 |[],[],_,_=>.nil
 |a::l,b::m,h,f=>.cons (f 0 a b rfl rfl) (om (by simpa using h) λi x y h1 h2=>f (i+1) x y (by simpa using h1) (by simpa using h2))
 |[],_::_,h,_=>by simp at h
 |_::_,[],h,_=>by simp at h
theorem rj:∀ {l:List GH},(∀ v∈l,RelV (f v) v)->aI (l.map f) l
 |[],_=>.nil
 |v::l,h=>.cons (h v GX) (rj λx hx=>h x (GK _ hx))
theorem rg {n:Nat} (K:KdlSrc prog w T r d n P OK) (hh:A.handled=none) (hok:OK s.heap) (hn:n <= GZ)
  (h:∀ (h':JI) (tk:Nat) (acc:Array GH),(∀ b o,s.heap.get? b=some o->h'.get? b=some o)->s.heap.objs.size<=h'.objs.size->ItemsOf P acc n->R acc.toList { s with heap:=h',toks:=tk }):
  GW (Hl prog w) A (collect (.ref r)) R E s:=by
 have hlt:=K.there _ hok;unfold collect;refine Gz (PR (Ke entry_proto_collect' ?_));rw[JN N_ _];show GW _ A.in1 (P8 []>>=λl=>again (.builtin "list.__iadd__" ⟨[l,.ref r],[]⟩)) _ _ s;refine Gz (Ig (GD ⟨Nj LP _,Ke entry_list_iadd' ?_⟩));rw[JN LP _];have S0:(s.heap.push { cls:=.type "list",data:=.seq ([]:List GH).toArray }).get? s.heap.objs.size=some { cls:=.type "list",data:=.seq #[] }:=GL _ rfl;show GW _ A.in1 (Lx (.ref s.heap.objs.size) (.ref r) (.ref s.heap.objs.size)) _ _ _;have key:=kdl_extend (A:=A) (s:={ s with heap:=s.heap.push { cls:=.type "list",data:=.seq ([]:List GH).toArray } })
  (R:=λ(q:Ql) (s':GJ)=>∃ (h':JI) (tk:Nat) (acc:Array GH) (c:Nat),q=.ok (.ret (.ref s.heap.objs.size))/\s'={ s with heap:=h',toks:=tk } /\
   (∀ b o,s.heap.get? b=some o->h'.get? b=some o)/\h'.get? s.heap.objs.size=some { cls:=.type "list",dict:=none,data:=.seq acc c,slots:=#[] }/\ItemsOf P acc n)
  K hh (K.keep _ _ hok λb _ o e=>GC _ e) s.heap.objs.size (JB hlt.1) (JB hlt.2) (.ref s.heap.objs.size) 0 S0
  (λh' tk acc c hk hS ha=>⟨h',tk,acc,c,rfl,rfl,λb o e=>hk b o (Hk (GI e)) (GC _ e),hS,ha⟩) hn
 refine Hm key (λfin s' x=>?_) λe s' x=>?_
 ·cases fin with
  |done f=>
   obtain⟨h',tk,acc,c,e,rfl,hk,hS,ha⟩:=x;cases e;exact Gz (Px hS (GD (h h' tk acc hk (Kc (GI hS)) ha)))
  |again c₁=>
   refine⟨x.1,K9 x.2 λq s₂ y=>?_⟩;obtain⟨h',tk,acc,c,rfl,rfl,hk,hS,ha⟩:=y;exact Gz (Px hS (GD (h h' tk acc hk (Kc (GI hS)) ha)))
 ·obtain⟨_,_,_,_,e',_⟩:=x;cases e'
section
variable {X:Cx}
def Dg:List V->Hp->VK->Prop:=λxs H Q=>∃ (d:G7) (ts:List Kn) (ys:List V) (r:Nat),xs=[.ref d]/\Rd H d (.dT (d_ ts ys))/\ts.length=ys.length/\ts.length=r+2/\minRun' (r+2) (r+2) 0<=r+2/\(∀ (i:Nat) (t u:Kn),ts[i]?=some t->ts[i+1]?=some u->um u t) /\
 ∀ (D:G7) (ks:List V),H D=none->ks.length=ts.length->(∀ (i:Nat) (t:Kn),ts[i]?=some t->∃ ka,ks[i]?=some (.ref ka)/\H ka=some (.tup (zF t)))->Q (.ref D) (upd H D (.lst ks))
theorem oH (hc:X.calm=true):br X (.builtin "sorted") Dg:=by
 intro pins s σ H xs us Q I r h;obtain⟨d,ts,ys,n,rfl,e,hl,hn,hm,hlt,q⟩:=h;obtain⟨u,rfl,rx⟩:=fR r;cases rx;obtain⟨z,hd,zs,rel,dd⟩:=kB I.hok e;obtain⟨es,ep,raw,hes⟩:=Heap.RawD.of dd;have hz:es.size=n+2:=by
  have y:=KG Ou hes;rw[GG,HD,<- Mq rel,iW hl,hn] at y;exact y
 have hline:n+2<=GZ:=by rw[<- hn,<- iW hl];exact z
 have key:∀ (i:Nat) (t:Kn),ts[i]?=some t->∃ ka,es[i]?.map (·.key)=some (.ref ka)/\H ka=some (.tup (zF t))/\Do s.heap t (.ref ka):=λi t ht=>by
  have hi:i<ys.length:=by rw[<- hl];exact(GU.mp ht).1
  have ek:(d_ ts ys)[i]?=some (bv t,ys[i]):=zu ht (GF hi);obtain⟨⟨k',ka,u⟩,h1,h2,h3,h4⟩:=jM rel ek;refine⟨ka,?_,by rw[<- jU];exact h3,?_⟩
  ·rw[<- I_,hes,GQ,h1];rfl
  ·obtain⟨_,its,rv,o,g1,g2,m,g3⟩:=(show bc X.prog X.w H s.heap ka (.tup (zF t)) from I.hok ka _ (by rw[<- jU];exact h3))
   obtain⟨_,_,_,rfl,⟨k1,rfl⟩,⟨k2,rfl⟩,k3,rfl⟩:=Dr rv;exact⟨ka,o,k1,k2,k3,m,rfl,g1,g2,g3⟩
 refine call_function_entry kind_sorted plain_sorted entry_sorted (args_sorted1 _) ?_;unfold Kp.«sorted»;refine Gz (m:=checkCount "sorted" 1 1 _) (GD ?_);refine Gz (rg (A:=X.A.in1) (Ad hd) (I.ok.hd hc) raw (by rw[hz];exact hline) λh1 tk acc hk fr hacc=>?_);have ha:acc.toList.length=n+2:=by rw[HD];exact hacc.1.trans hz
 have tri:∀ (i:Nat) (t:Kn),ts[i]?=some t->∃ ka,acc.toList[i]?=some (.ref ka)/\H ka=some (.tup (zF t))/\Do s.heap t (.ref ka):=λi t ht=>by
  obtain⟨ka,g1,g2,g3⟩:=key i t ht;have hi:i<acc.toList.length:=by rw[ha,<- hn];exact(GU.mp ht).1
  obtain⟨x,y1,y2⟩:=hacc.2 i acc.toList[i] (by rw[<- I_];exact GF hi);rw[y1] at g1;refine⟨ka,?_,g2,g3⟩;rw[GF hi,y2];exact g1
 have pr:PP (Do s.heap) ts acc.toList:=om (by rw[ha,hn]) λi t v h1 h2=>by
  obtain⟨ka,g1,_,g3⟩:=tri i t h1;rw[g1] at h2;cases h2;exact g3
 refine Gz (OF ?_ (by rw[ha];exact hline));have ho:(h1.push (K6 "list" acc.toList.toArray 0)).get? h1.objs.size=some (K6 "list" acc.toList.toArray 0):=GL _ rfl;have k2:∀ b o,s.heap.get? b=some o->(h1.push (K6 "list" acc.toList.toArray 0)).get? b=some o:=λb o e=>GC _ (hk b o e)
 have nb:∀ b o,s.heap.get? b=some o->b≠h1.objs.size:=λb o e=>Hk (G8 (GI e) fr)
 show GW _ _ _ _ _ { s with heap:=h1.push (K6 "list" acc.toList.toArray 0),toks:=tk };refine Gz (Ij (IF slot_list_sort ⟨_,ho,rfl⟩ entry_list_sort (xD (κ:=tuples' true) ho ha hline hm (λh' kp Q hQ=>?_) (λh' kp i x y hx hy C hC=>?_) (λh' c kp hD hs=>?_)) (args_list_sort _)))
 ·have pr':PP (Do h') ts acc.toList:=Paired.mapP pr λt v ⟨a,o,k1,k2',k3,m,e,ho,r⟩=>⟨a,o,k1,k2',k3,m,e,kp a o (nb a o ho) (k2 a o ho),r⟩
  obtain⟨fs,f1,f2,f3⟩:=qv (M:=Hl X.prog X.w) pr';exact kat_kind (T:=.type "int") f1 (by rw[f2,ha];lia) f3 rfl hQ
 ·have hi1:i<ts.length:=by rw[hn,<- ha];exact(GU.mp hx).1
  have hi2:i+1<ts.length:=by rw[hn,<- ha];exact(GU.mp hy).1
  obtain⟨ka,g1,_,a1,o1,k1,k2',k3,m1,e1,ho1,_,hd1⟩:=tri i _ (GF hi1);obtain⟨kb,g2,_,a2,o2,k4,k5,k6,m2,e2,ho2,_,hd2⟩:=tri (i+1) _ (GF hi2);cases e1;cases e2;rw[g1] at hx;rw[g2] at hy;cases hx;cases hy;exact zl (kp _ _ (nb _ _ ho2) (k2 _ _ ho2)) hd2 (kp _ _ (nb _ _ ho1) (k2 _ _ ho1)) hd1 (hlt i _ _ (GF hi1) (GF hi2)) hC
 ·refine⟨_,rfl,GD ⟨_,rfl,?_⟩⟩;have fD:H h1.objs.size=none:=I.hok.fresh fr;obtain⟨ks,hks,hv⟩:∃ ks:List V,aI ks acc.toList/\∀ (i:Nat) (t:Kn),ts[i]?=some t->∃ ka,ks[i]?=some (.ref ka)/\H ka=some (.tup (zF t)):=by
   refine⟨acc.toList.map (λv=>match v with|.ref a=>V.ref a|_=>.non),?_,λi t ht=>?_⟩
   ·refine rj λv hv=>?_
    obtain⟨i,hi,rfl⟩:=IP hv;obtain⟨ka,g1,_⟩:=tri i _ (GF (by rw[hn,<- ha];exact hi));rw[GF hi] at g1;rw[GN g1];rfl
   ·obtain⟨ka,g1,g2,_⟩:=tri i t ht;exact⟨ka,by rw[GQ,g1];rfl,g2⟩
  have hkl:ks.length=n+2:=by rw[<- ha];exact Mq hks
  exact⟨.ref h1.objs.size,upd H h1.objs.size (.lst ks),I.laid (λb o e=>kp b o (nb b o e) (k2 b o e)) fr ⟨by rw[hkl];exact hline,acc.toList,c,hks,hD⟩,rfl,q _ ks fD (hkl.trans hn.symm) hv⟩
end
instance {t u:Kn}:Decidable (um t u):=by unfold um;infer_instance
def uh (l:List Kn):Bool:=(IQ l.length).all λi=>match l[i]?,l[i+1]? with
 |some t,some u=>decide (um u t)
 |_,_=>true
theorem zN (h:uh l=true){i:Nat}(ht:l[i]?=some t)(hu:l[i+1]?=some u):um u t:=by
 unfold uh at h;have hi:i<l.length:=(GU.mp ht).1;have:=Hz.mp h i (Ju.mpr hi);rw[ht,hu] at this;exact IY this
theorem tK {n:Nat}(h2:2<=n)(h4:n<=4):uh (az n)=true/\∃ r,(az n).length=r+2/\minRun' (r+2) (r+2) 0<=r+2:=by
 match n,h2,h4 with
 |2,_,_=>exact⟨by decide +kernel,6,by decide +kernel,by decide +kernel⟩
 |3,_,_=>exact⟨by decide +kernel,25,by decide +kernel,by decide +kernel⟩
 |4,_,_=>exact⟨by decide +kernel,62,by decide +kernel,by decide +kernel⟩
def Rw.co (r:Rw):Nat->Int
 |0=>r.x
 |1=>r.y
 |_=>r.z
structure C3 where
 p:List Pt
 q:List Pt
 r:List Pt
def C3.at (P:C3):Nat->List Pt
 |0=>P.p
 |1=>P.q
 |_=>P.r
def C3.In (P:C3)(cap:Int):Prop:=∀ i,i<3->pM (P.at i)/\∃ y z,(P.at i)[0]?=some y/\(P.at i).getLast?=some z/\z.1=60/\z.2<=cap
def S9.cp (s:S9):S9:=⟨true,true,true,true,s.x,s.y,s.z⟩
def S9.row (s:S9):Nat->R3
 |0=>s.x
 |1=>s.y
 |_=>s.z
def AtD (K:GB)(x:Str)(st:K4):Prop:=∃ f oc od osl kV doc pm an cdv ct,Ho K G4 x=some (some (.ref f))/\K.lookup f=some ⟨oc,od,.func (Ih x x (aZ st) (aU st) (ai st) .none kV doc pm an cdv ct),osl⟩/\Jb K cdv x=true/\IK K (.ref f)=true
def AtM (K:GB)(x m qual:Str)(st:K4):Prop:=∃ C f oc od osl kV doc pm an cdv ct,Ho K G4 x=some (some (.ref C))/\Hw K (.ref C) m=some (some (.ref f))/\K.lookup f=some ⟨oc,od,.func (Ih m qual (aZ st) (aU st) (ai st) .none kV doc pm an cdv ct),osl⟩/\Jb K cdv qual=true/\IK K (.ref f)=true/\M4 K (.ref f)=true
theorem AtD.of {K:GB}{x:Str}{st:K4}{f:G7}{oc kV doc pm cdv ct:GH}{od an:Option G7}{osl:Array (Option GH)}(h1:Ho K G4 x=some (some (.ref f)))(h2:K.lookup f=some ⟨oc,od,.func (Ih x x (aZ st) (aU st) (ai st) .none kV doc pm an cdv ct),osl⟩)(h3:Jb K cdv x=true)(h4:IK K (.ref f)=true):AtD K x st:=⟨_,_,_,_,_,_,_,_,_,_,h1,h2,h3,h4⟩
theorem AtM.of {K:GB}{x m qual:Str}{st:K4}{C f:G7}{oc kV doc pm cdv ct:GH}{od an:Option G7}{osl:Array (Option GH)}(h1:Ho K G4 x=some (some (.ref C)))(h2:Hw K (.ref C) m=some (some (.ref f)))(h3:K.lookup f=some ⟨oc,od,.func (Ih m qual (aZ st) (aU st) (ai st) .none kV doc pm an cdv ct),osl⟩)(h4:Jb K cdv qual=true)(h5:IK K (.ref f)=true)(h6:M4 K (.ref f)=true):AtM K x m qual st:=⟨_,_,_,_,_,_,_,_,_,_,_,h1,h2,h3,h4,h5,h6⟩
theorem gOf {K:GB}{x:Str}{i:Int}{t:Tok}(h:Ho K G4 x=some (some (.int i t))):∃ t,Ho K G4 x=some (some (.int i t)):=⟨t,h⟩
section
variable {K:GB}{mg:Str->Option GH}{x m qual:Str}{st:K4}{ps fs:List Str}{h:JI}
theorem AtD.dfn (a:AtD K x st)(X:K.In h)(G:h.Ns G4 mg)(hb:∀ kV doc pm an cdv ct us,us.length=ps.length->Kr (Ih x x (aZ st) (aU st) (ai st) .none kV doc pm an cdv ct) ⟨us,[]⟩=pure (ps.zip us)):cW K mg x st ps []:=by
 obtain⟨_,_,_,_,_,_,_,_,_,_,h1,h2,h3,h4⟩:=a;exact CF h2 h3 h4 (J' X G h1) (hb _ _ _ _ _ _)
theorem AtM.dfn (a:AtM K x m qual st)(X:K.In h)(G:h.Ns G4 mg)(hc:ig K x fs=true)(hb:∀ kV doc pm an cdv ct us,us.length=ps.length->Kr (Ih m qual (aZ st) (aU st) (ai st) .none kV doc pm an cdv ct) ⟨us,[]⟩=pure (ps.zip us)):kX K mg x m qual st ps []:=by
 obtain⟨_,_,_,_,_,_,_,_,_,_,_,h1,h2,h3,h4,h5,h6⟩:=a;exact A4 h3 h4 h5 h6 h1 h2 hc (J' X G h1) (hb _ _ _ _ _ _)
theorem EU {P:List GH->Prop}{us:List GH}{n:Nat}(h:us.length=n+1)(k:∀ a vs,vs.length=n->P (a::vs)):P us:=by
 cases us with
 |nil=>cases h
 |cons a vs=>exact k a vs (Nat.succ.inj h)
theorem Gk {P:List GH->Prop}{us:List GH}(h:us.length=0)(k:P []):P us:=by
 cases us with
 |nil=>exact k
 |cons a vs=>cases h
theorem FP {P:List GH->Prop}{us:List GH}(h:us.length=1)(k:∀ a,P [a]):P us:=EU h λa _ h=>Gk (P:=λv=>P (a::v)) h (k a)
theorem FH {P:List GH->Prop}{us:List GH}(h:us.length=2)(k:∀ a b,P [a,b]):P us:=EU h λa _ h=>FP (P:=λv=>P (a::v)) h (k a)
theorem Fo {P:List GH->Prop}{us:List GH}(h:us.length=3)(k:∀ a b c,P [a,b,c]):P us:=EU h λa _ h=>FH (P:=λv=>P (a::v)) h (k a)
theorem Gm {P:List GH->Prop}{us:List GH}(h:us.length=4)(k:∀ a b c d,P [a,b,c,d]):P us:=EU h λa _ h=>Fo (P:=λv=>P (a::v)) h (k a)
theorem AtD.d1 {p:Str}(a:AtD K x st)(X:K.In h)(G:h.Ns G4 mg)(hb:∀ kV doc pm an cdv ct a,Kr (Ih x x (aZ st) (aU st) (ai st) .none kV doc pm an cdv ct) ⟨[a],[]⟩=pure (([p]:List Str).zip [a])):cW K mg x st [p] []:=a.dfn X G λ_ _ _ _ _ _ us hl=>FP (P:=λus=>Kr _ ⟨us,[]⟩=pure ([p].zip us)) hl (hb _ _ _ _ _ _)
theorem AtM.d1 {p:Str}(a:AtM K x m qual st)(X:K.In h)(G:h.Ns G4 mg)(hc:ig K x fs=true)(hb:∀ kV doc pm an cdv ct a,Kr (Ih m qual (aZ st) (aU st) (ai st) .none kV doc pm an cdv ct) ⟨[a],[]⟩=pure (([p]:List Str).zip [a])):kX K mg x m qual st [p] []:=a.dfn X G hc λ_ _ _ _ _ _ us hl=>FP (P:=λus=>Kr _ ⟨us,[]⟩=pure ([p].zip us)) hl (hb _ _ _ _ _ _)
theorem AtD.d2 {p q:Str}(a:AtD K x st)(X:K.In h)(G:h.Ns G4 mg)(hb:∀ kV doc pm an cdv ct a b,Kr (Ih x x (aZ st) (aU st) (ai st) .none kV doc pm an cdv ct) ⟨[a,b],[]⟩=pure (([p,q]:List Str).zip [a,b])):cW K mg x st [p,q] []:=a.dfn X G λ_ _ _ _ _ _ us hl=>FH (P:=λus=>Kr _ ⟨us,[]⟩=pure ([p,q].zip us)) hl (hb _ _ _ _ _ _)
theorem AtM.d2 {p q:Str}(a:AtM K x m qual st)(X:K.In h)(G:h.Ns G4 mg)(hc:ig K x fs=true)(hb:∀ kV doc pm an cdv ct a b,Kr (Ih m qual (aZ st) (aU st) (ai st) .none kV doc pm an cdv ct) ⟨[a,b],[]⟩=pure (([p,q]:List Str).zip [a,b])):kX K mg x m qual st [p,q] []:=a.dfn X G hc λ_ _ _ _ _ _ us hl=>FH (P:=λus=>Kr _ ⟨us,[]⟩=pure ([p,q].zip us)) hl (hb _ _ _ _ _ _)
theorem AtD.d3 {p q r:Str}(a:AtD K x st)(X:K.In h)(G:h.Ns G4 mg)(hb:∀ kV doc pm an cdv ct a b c,Kr (Ih x x (aZ st) (aU st) (ai st) .none kV doc pm an cdv ct) ⟨[a,b,c],[]⟩=pure (([p,q,r]:List Str).zip [a,b,c])):cW K mg x st [p,q,r] []:=a.dfn X G λ_ _ _ _ _ _ us hl=>Fo (P:=λus=>Kr _ ⟨us,[]⟩=pure ([p,q,r].zip us)) hl (hb _ _ _ _ _ _)
theorem AtM.d3 {p q r:Str}(a:AtM K x m qual st)(X:K.In h)(G:h.Ns G4 mg)(hc:ig K x fs=true)(hb:∀ kV doc pm an cdv ct a b c,Kr (Ih m qual (aZ st) (aU st) (ai st) .none kV doc pm an cdv ct) ⟨[a,b,c],[]⟩=pure (([p,q,r]:List Str).zip [a,b,c])):kX K mg x m qual st [p,q,r] []:=a.dfn X G hc λ_ _ _ _ _ _ us hl=>Fo (P:=λus=>Kr _ ⟨us,[]⟩=pure ([p,q,r].zip us)) hl (hb _ _ _ _ _ _)
theorem AtD.d4 {p q r u:Str}(a:AtD K x st)(X:K.In h)(G:h.Ns G4 mg)(hb:∀ kV doc pm an cdv ct a b c d,Kr (Ih x x (aZ st) (aU st) (ai st) .none kV doc pm an cdv ct) ⟨[a,b,c,d],[]⟩=pure (([p,q,r,u]:List Str).zip [a,b,c,d])):cW K mg x st [p,q,r,u] []:=a.dfn X G λ_ _ _ _ _ _ us hl=>Gm (P:=λus=>Kr _ ⟨us,[]⟩=pure ([p,q,r,u].zip us)) hl (hb _ _ _ _ _ _)
theorem CI {i:Int}(X:K.In h)(G:h.Ns G4 mg)(a:∃ t,Ho K G4 x=some (some (.int i t))):∃ t,mg x=some (.int i t):=by obtain⟨t,e⟩:=a;exact⟨t,J' X G e⟩
end
theorem dY (a:sc.kind=.function:=by rfl)(b:sc.isCoroutine=false:=by rfl)(c:sc.isGenerator=false:=by rfl)(d:N.Nodup:=by decide +kernel)(e:N.take P.length=P:=by rfl)(f:∀ x∈P,sc.names.lookup x=some .local\/sc.names.lookup x=some .cell:=by decide +kernel)(g:∀ y∈sc.names,y.2≠.free:=by decide +kernel):aD N P sc:=⟨a,b,c,d,e,f,g⟩
theorem dz (hp:H p=none)(e:upd H p o=H1):ah H H1:=e▸ah.new hp
theorem cu (e:upd H p o=H1):H1 p=some o:=e▸af
theorem y6 (ha:H a=none)(hd:H dx=none)(hn:dx≠a)(e:upd (upd H dx o1) a o=H1):ah H H1:=e▸(ah.new hd).trans (ah.new (by rw[ap hn.symm];exact ha))
def Q3.at (q:Q3):Nat->Rat:=EF q.a q.b q.c
def nw (q:Rat):Int:=(2*q.num+(q.den:Int)).fdiv (2*(q.den:Int))
def hq (q:Q3):R3:=⟨EW (nw q.a),EW (nw q.b),EW (nw q.c)⟩
section
variable {X:Cx}{K:GB}
def zS:V->List V->Hp->VK->Prop:=λx xs H Q=>∃ a b:Str,x=.str a/\xs=[.str b]/\Q (.bl (Ln a b)) H
theorem v_:EV X "str.startswith" zS:=by
 intro pins s σ H x xs v us Q I rx rv h;obtain⟨a,b,rfl,rfl,q⟩:=h;obtain⟨t,rfl⟩:=rx;obtain⟨u,rfl,ru⟩:=rv.one;obtain⟨t',rfl⟩:=ru;exact SC.startswith ⟨.bl _,H,I,rfl,q⟩
theorem u5:∀ {ts:List Str}{us:List GH},aI (ts.map V.str) us->∃ l:List (Str×Tok),us=strValues l/\l.map (·.1)=ts
 |[],_,h=>by cases h;exact⟨[],rfl,rfl⟩
 |x::ts,_,h=>by
  cases h with
  |cons h1 h2=>
   obtain⟨t,rfl⟩:=h1;obtain⟨l,rfl,e⟩:=u5 h2;exact⟨(x,t)::l,rfl,by rw[G_,e]⟩
theorem n9:∀ {ts:List Str}{l:List (Str×Tok)},l.map (·.1)=ts->aI (ts.map V.str) (strValues l)
 |_,[],e=>by subst e;exact .nil
 |_,(x,t)::l,e=>by subst e;exact .cons ⟨t,rfl⟩ (n9 rfl)
def DN (K:GB):V->List V->Hp->VK->Prop:=λx xs H Q=>∃ (a:Str) (D:G7) (ts:List Str),x=.str a/\xs=[.ref D]/\bg K H D (ts.map V.str)/\JoinOk a ts=true/\Q (.str (Kq a ts)) H
theorem eD (hK:X.K=K):EV X "str.join" (DN K):=by
 subst hK;intro pins s σ H x xs v us Q I rx rv h;obtain⟨a,D,ts,rfl,rfl,hD,hj,q⟩:=h;obtain⟨t,rfl⟩:=rx;obtain⟨u,rfl,ru⟩:=rv.one;cases ru;obtain⟨its,r,pl,hz⟩:=I.list hD;obtain⟨l,rfl,e⟩:=u5 r;exact SC.join pl.isList e hj λt' k=>⟨.str _,H,I.tok k,⟨_,rfl⟩,q⟩
def C0:V->List V->Hp->VK->Prop:=λx xs H Q=>∃ a b:Str,x=.str a/\xs=[.str b]/\(b.length==0)=false/\a.length+2<=GZ/\∀ D,H D=none->Q (.ref D) (upd H D (.lst ((IW a b).map V.str)))
theorem gY (a b:Str):(IW a b).length<=a.length+2:=by
 unfold IW;have e1:=Pk a b 0 a.length (a.length+1)
 split
 ·show 1<=_;lia
 ·split
  ·show 1<=_;lia
  ·rw[length_partsBetween];lia
theorem mM:EV X "str.split" C0:=by
 intro pins s σ H x xs v us Q I rx rv h;obtain⟨a,b,rfl,rfl,hb,hz,q⟩:=h;obtain⟨t,rfl⟩:=rx;obtain⟨u,rfl,ru⟩:=rv.one;obtain⟨t',rfl⟩:=ru;have fin:∀ (l:List (Str×Tok)) (k:Nat),l.map (·.1)=IW a b->EP X pins σ Q (.ref s.heap.objs.size) { s with heap:=s.heap.push { cls:=.type "list",data:=.seq (strValues l).toArray },toks:=k }:=λl k e=>
  ⟨.ref s.heap.objs.size,_,I.lnew (n9 e) (by rw[GG];have:=gY a b;lia),rfl,q _ I.fresh⟩
 have hn:(Mb a (Jp a b 0 a.length (a.length+1)) b.length).length<=GZ:=by
  have e1:=Pk a b 0 a.length (a.length+1);rw[length_partsBetween];lia
 cases h1:(decide (a.length<b.length)||decide (K' a<K' b))
 ·cases hf:(Jp a b 0 a.length (a.length+1)).isEmpty
  ·refine Md Kv (Me _ _ _) N' (NK _ _) (meets_str_split_sep a b t t' h1 hb hf (by lia) hn) ?_;show wants _ _ _ { s with toks:=_,heap:=s.heap.push { cls:=.type "list",data:=.seq (strsFrom s.toks (Mb a (Jp a b 0 a.length (a.length+1)) b.length)).toArray } };rw[strsFrom_eq];exact fin (numbered s.toks _) _ ((numbered_texts _ _).trans ((Hu (ND h1)).trans (Hu (ND hf))).symm)
  ·exact Md Kv (Me _ _ _) N' (NK _ _) (meets_str_split_not_found a b t t' h1 hb hf)
    (fin [(a,t)] s.toks ((Hu (ND h1)).trans (Ie hf)).symm)
 ·exact Md Kv (Me _ _ _) N' (NK _ _) (meets_str_split_cannot_occur a b t t' h1)
   (fin [(a,t)] s.toks (Ie h1).symm)
def EJ:List V->Hp->VK->Prop:=λxs H Q=>∃ (x:Str) (n:Int),xs=[.str x]/\N3 x=some n/\x.length<=640/\Q (.int n) H
theorem vN:br X (.type "int") EJ:=by
 intro pins s σ H xs us Q I r h;obtain⟨x,n,rfl,hn,hl,q⟩:=h;obtain⟨u,rfl,t,rfl⟩:=fR r;exact PySem.W.KIN.call_text hn hl ⟨.int n,H,I.tok _,⟨_,rfl⟩,q⟩
def E4 (x:Str):It:=⟨λi _=>i<x.cps.size,λi H v H'=>H'=H/\∃ c,x.cps[i]?=some c/\v=.str ⟨#[c]⟩,λi _=>x.cps.size<=i⟩
theorem rO {P:Hv}{w:IN}{K:GB}{tg:JG}(it:G7)(T:String)(x:Str)(t:Tok)(hT:T="str_ascii_iterator"\/T="str_iterator"):kW P w K tg (E4 x) [it] it (λi h=>h.IsStrIter it T x t i) where
 mem:=by simp
 obj:=λi h st b hb=>by
  have e:b=it:=by simpa using hb
  subst e;obtain⟨o,e,c,d⟩:=st;exact⟨o,e,λv z=>by rw[d] at z;cases z⟩
 keep:=λi h h' st k=>let ⟨o,ho,r⟩:=st;⟨o,k it (by simp) o ho,r⟩
 item:=by
  intro X hP hw hK hc i pins s σ H E I hf st hg;subst hP hw hK;have hg:i<x.cps.size:=hg;obtain⟨f0,f1,f2,f3,f4,f5⟩:=hf it (by simp);have fin:∀ h',h'.IsStrIter it T x t (i+1)->IH it s.heap h'->∃ u,some (Pm ⟨#[x.cps[i]]⟩ s.toks)=some u/\GW (Hl X.prog X.w) X.A (Kw tg (.ref it) u) (λ_ s2=>∃ x' H',aw X pins σ H' s2/\RelV x' u/\(E4 x).yld i H x' H'/\(λi h=>h.IsStrIter it T x t i) (i+1) s2.heap/\∀ b∈[it],H' b=none) E { s with heap:=h',toks:=s.toks+1 }:=λh' st' sb=>by
   have I1:aw X pins σ H { s with heap:=h',toks:=s.toks+1 }:=I.turned (t':=s.toks+1) (λb o hb e=>(sb.2 b hb).trans e) f0 f1 f3 f4 f5;obtain⟨o,e,c,d⟩:=id st';exact⟨_,rfl,qe (s:={ s with heap:=h',toks:=s.toks+1 }) e c d (by rcases hT with rfl|rfl<;>decide) ⟨.str ⟨#[x.cps[i]]⟩,H,I1,⟨_,rfl⟩,⟨rfl,_,by simp[hg],rfl⟩,st',λb hb=>(hf b hb).1⟩⟩
  rcases hT with rfl|rfl
  ·exact wpAny_pyNext_ascii_item st (c:=x.cps[i]) (by simp[hg]) fin
  ·exact wpAny_pyNext_wide_item st (c:=x.cps[i]) (by simp[hg]) fin
 done:=by
  intro X hP hw hK hc i pins s σ H E I hf st hg;subst hP hw hK;have hg:x.cps.size<=i:=hg;obtain⟨f0,f1,f2,f3,f4,f5⟩:=hf it (by simp);rcases hT with rfl|rfl
  ·exact wpAny_pyNext_ascii_end (I.ok.hd hc) st (by simp;lia) λh' eb=>⟨rfl,I.turned (t':=s.toks) (λb o hb e=>eb b o hb e) f0 f1 f3 f4 f5⟩
  ·exact wpAny_pyNext_wide_end (I.ok.hd hc) st (by simp;lia) λh' eb=>⟨rfl,I.turned (t':=s.toks) (λb o hb e=>eb b o hb e) f0 f1 f3 f4 f5⟩
 self:=λ_ _ _ _ _ st h=>by
  rcases hT with rfl|rfl
  ·exact wpAny_pyIter_striter_ascii st h
  ·exact wpAny_pyIter_striter_wide st h
def FS (tl:TE):TI:=λσ H R=>tl σ H λx H1=>∃ a,x=.str a/\R (E4 a) H1
theorem zQ {tg l:JG}{tl:TE}(hl:WE X l tl):WI X tg l (FS tl):=by
 have hl:=hl.go;refine⟨?_⟩;intro pins s σ H R I h;refine bf (hl pins s σ H _ I h) λv s1 ⟨x,H1,I1,r1,q1⟩=>?_
 obtain⟨a,rfl,q⟩:=q1;obtain⟨t,rfl⟩:=r1;have fp:∀ c∈[s1.heap.objs.size],eN X pins H1 c:=λc hc=>by
  cases G5.mp hc;exact I1.fpOk (GM _) (I1.hok.fresh (GM _))
 cases ha:a.cps.all (·<128)
 ·exact wpAny_pyIter_wide ha ⟨s1.heap.objs.size,[s1.heap.objs.size],_,_,H1,rfl,I1.kept (t':=s1.toks) λb o e=>GC _ e,rO _ "str_iterator" a t (.inr rfl),⟨_,GL _ rfl,rfl,rfl⟩,fp,q⟩
 ·exact wpAny_pyIter_ascii ha ⟨s1.heap.objs.size,[s1.heap.objs.size],_,_,H1,rfl,I1.kept (t':=s1.toks) λb o e=>GC _ e,rO _ "str_ascii_iterator" a t (.inl rfl),⟨_,GL _ rfl,rfl,rfl⟩,fp,q⟩
def FB:V->Option Int->Option Int->Hp->VK->Prop:=λx lo hi H Q=>∃ a,x=.str a/\a.length<=GZ/\Q (.str (LV a lo hi)) H
theorem tW:ET X FB:=by
 intro pins s σ H x v vl vu lo hi sl Q I rx hs pl pu h;obtain⟨a,rfl,hz,q⟩:=h;obtain⟨t,rfl⟩:=rx;have part:∀ {v:GH}{o:Option Int},IsPart v o->∃ l:Option (Int×Tok),v=partValue l/\l.map (·.1)=o:=λ{v o} h=>by
  cases h with
  |none=>exact⟨none,rfl,rfl⟩
  |int i t=>exact⟨some (i,t),rfl,rfl⟩
 obtain⟨l,rfl,rfl⟩:=part pl;obtain⟨u,rfl,rfl⟩:=part pu;exact⟨"str",_,F.slot_str_getitem.lookup,Me _ _ _,wpAny_getItem_str_slice (l:=l) (u:=u) (st:=none) hs rfl (post_val_or_str ⟨GV (Txt.slice_le a _ _) hz,λt' k=>⟨.str _,H,I.tok k,⟨_,rfl⟩,q⟩⟩)⟩
def FZ (te:TE):TE:=λσ H Q=>te σ H λv H1=>(∃ i:Int,v=.int i/\i.natAbs.log2<1920/\Q (.str (toString i)) H1)\/(∃ x:Str,v=.str x/\x.length<=GZ/\Q (.str x) H1)
theorem vc {e:JG}{te:TE}{pos:Pos}(he:WE X e te):WE X (.FormattedValue e (-1) none pos) (FZ te):=by
 have he:=he.go;refine⟨?_⟩;intro pins s σ H Q I h;refine wpAny_FormattedValue_plain (bf (he pins s σ H _ I h) λv s1 ⟨x,H1,I1,r1,q1⟩=>?_);rcases q1 with ⟨i,rfl,hi,q⟩|⟨x,rfl,hx,q⟩
 ·obtain⟨t,rfl⟩:=r1;exact wpAny_formatField_int hi ⟨.str _,H1,I1.tok _,⟨_,rfl⟩,q⟩
 ·obtain⟨t,rfl⟩:=r1;exact wpAny_formatField_str ⟨.str _,H1,I1,⟨_,rfl⟩,q⟩ ⟨.str _,H1,I1.tok _,⟨_,rfl⟩,q⟩ hx
theorem empty_app (d:Str):Qq++d=d:=PySem.W.KT.empty_app d
def Gu (ta tb:TE):TE:=λσ H Q=>ta σ H λv H1=>∃ x:Str,v=.str x/\x.length<=GZ/\tb σ H1 λu H2=>∃ y:Str,u=.str y/\x.length+y.length<=GZ/\Q (.str (x++y)) H2
theorem nG {a b:JG}{ta tb:TE}{pos:Pos}(ha:WE X a ta)(hb:WE X b tb)(hs:evalEach [a,b] X.env=[KH a X.env,KH b X.env]:=by rfl):WE X (.JoinedStr [a,b] pos) (Gu ta tb):=by
 have ha:=ha.go;have hb:=hb.go;refine⟨?_⟩;intro pins s σ H Q I h;refine wpAny_JoinedStr ?_;rw[hs];refine bf (ha pins s σ H _ I h) λv s1 ⟨x,H1,I1,r1,x',e1,hx,q1⟩=>?_
 subst e1;obtain⟨t,rfl⟩:=r1;have go:GW (Hl X.prog X.w) X.A (KH b X.env) (λv s₂=>∃ y t,v=.str y t/\(x'++y).length<=GZ/\((x'++y).length<=GZ/\EP X pins σ Q (.str (x'++y) s₂.toks) { s₂ with toks:=s₂.toks+1 })) X.xe s1:=by
  refine bf (hb pins s1 σ H1 _ I1 q1) λu s2 ⟨y,H2,I2,r2,y',e2,hz,q2⟩=>?_
  subst e2;obtain⟨t2,rfl⟩:=r2;have hz':(x'++y').length<=GZ:=by rw[Hs];exact hz
  exact⟨y',t2,rfl,hz',hz',.str _,H2,I2.tok _,⟨_,rfl⟩,q2⟩
 refine⟨x',t,rfl,?_,?_⟩
 ·rw[empty_app];exact hx
 ·rw[empty_app];exact go
theorem wK {x z:Str}{pos:Pos}(hg:Gl X x)(hm:∃ t,X.mg x=some (.str z t))(hd:(x==("__debug__":Str))=false:=by decide):WE X (.Name x pos) (tC (.str z)):=by
 refine⟨?_⟩;obtain⟨t,e⟩:=hm;exact u_ hg e ⟨t,rfl⟩ hd
def DO (K:GB)(t:Bj):TG:=λv σ H Q=>∃ a x xs,v=.ref a/\bg K H a (x::xs)/\xs.length<=16383/\∀ D,H D=none->t [x,.ref D] σ (upd H D (.lst xs)) Q
theorem zi {e1 e2:JG}{es:List JG}{k:Nat}{pos:Pos}{t:Bj} (hK:X.K=K) (hc:X.calm=true) (h:Dm X [e1,e2] t) (hn:(JP es X.env).length=2:=by rfl) (hst:(JP es X.env).findIdx? (·.1)=some 1:=by rfl)
  (hm:(JP es X.env).map (·.2)=(JP [e1,e2] X.env).map (·.2):=by rfl):WG X (.Tuple es k pos) (DO K t):=by
 have h:=h.go;refine⟨?_⟩;subst hK;intro pins s σ H v u Q I r hw;obtain⟨a,x,xs,rfl,hq,hl,hw⟩:=hw;cases r;obtain⟨its,rv,pl,hz⟩:=I.list hq;cases rv with
 |@cons _ u0 _ us r0 rs=>
 have hl':=pl.isList;have hlen:us.length<=16383:=by rw[<- rs.length];exact hl
 rw[assign_Tuple];refine Gz (Jr ?_);unfold unpack;rw[hn,hst];refine Gz (Ij ?_);have hlt:a≠s.heap.objs.size:=by obtain⟨o,ho,_⟩:=hl';exact Hk (GI ho)
 unfold unpackItems;refine Gz ?_;unfold notIterableAtAll;refine Gz (MB hl'.typeIs slot_list_iter.lookup ?_);refine GD ?_;simp only[Iv,JU];refine Gz (Ij (J7 hl' ?_));refine Gz (Ij (PySem.W.kun_draw hlt 1 0 _ _ ⟨_,GL _ rfl,rfl,rfl⟩ (hl'.push _) (by simp) λh₁ hit₁ hs₁=>?_));have hl₁:h₁.IsList a (u0::us).toArray:=(hl'.push _).extBut hs₁.extBut hlt;rw[Nat.zero_add] at hit₁;have hit₁':=hit₁;obtain⟨oi,hoi,_⟩:=hit₁';have hl₁':=hl₁;obtain⟨ol,hol,_⟩:=hl₁';rw[PM];rw[Hu (show ¬ (((u0::us).toArray.toList.take 1).length<1) by simp)];refine Gz (Ij (PySem.W.kun_collect (s:={ s with heap:=h₁ }) (T:="list_iterator") (.inr (.inr (.inl rfl))) (Walks.list (A:=X.A.in1) (I.ok.hd hc) s.heap.objs.size a hlt (u0::us).toArray) (λj u st=>st.1.typeIs) (k:=1) (by simp) ⟨hit₁,hl₁⟩ (GI hoi) (GI hol) (λh₂ tk hk=>?_) (by rw[Ji];simp;lia)));show GW _ _ (if us.length<0 then _ else _) _ _ _;rw[Hu (Nat.not_lt_zero _)];show GW _ _ (P8 (us.take (us.length-0))>>=λd=>pure ([u0]++[d]++us.drop (us.length-0))) _ _ _;rw[QX,ON,List.drop_length];have he:MI s.heap.objs.size s.heap h₂:=λb o hb e=>hk b o hb (hs₁.extBut b o hb (GC _ e))
 have I1:aw X pins σ H { s with heap:=h₂,toks:=tk }:=I.kept (t':=tk) λb o e=>he b o (Hk (GI e)) e
 refine Gz (OF ?_ ?_)
 ·refine GD ?_;rw[hm];have I2:=I1.lnew (t':=tk) rs (by rw[Ji];lia);exact h pins _ σ _ _ _ Q I2 (.cons r0 (.cons (show L2.RelV (V.ref h₂.objs.size) (Ht h₂.objs.size) from rfl) .nil)) (hw _ I1.fresh)
 ·rw[Ji];lia
end
theorem gOfS {K:GB}{x z:Str}{t:Tok}(h:Ho K G4 x=some (some (.str z t))):∃ t,Ho K G4 x=some (some (.str z t)):=⟨t,h⟩
theorem Gv {K:GB}{mg:Str->Option GH}{h:JI}{x z:Str}(X:K.In h)(G:h.Ns G4 mg)(a:∃ t,Ho K G4 x=some (some (.str z t))):∃ t,mg x=some (.str z t):=by obtain⟨t,e⟩:=a;exact⟨t,J' X G e⟩
def kO (h:JI)(e C T:G7):Prop:=∃ oe vs oT ts v,h.get? e=some oe/\oe.cls=.ref C/\oe.data=.fields vs/\vs[1]?=some (.ref T)/\T≠e/\h.get? T=some oT/\oT.data=.fields ts/\ts[3]?=some v
def yo (l:List Env)(e:G7)(T:Option G7)(h h':JI):Prop:=(∀ b o,h.get? b=some o->b∉dX l->b≠e->T≠some b->h'.get? b=some o)/\∀ b o,h.get? b=some o->b∈dX l->∃ sl,h'.get? b=some { o with slots:=sl }
section
variable {M:Model}{A:IR}{E:GH->GJ->Prop}{s:GJ}
theorem jT {base:JI}{env env':Env}{outer:List Env}{L e C:G7}{oe:Obj}{vs:Array GH}{head:GH}{hadNext:Bool}{Q:Unit->GJ->Prop} (hfr:A.frames=some (env :: outer)) (hl:s.heap.FunFrames base (env :: outer)) (hf:env.frame=some L) (hf':env'.frame=some L)
  (he:s.heap.get? e=some oe)(hc:oe.cls=.ref C)(hd:oe.data=.fields vs)(hsz:1<vs.size)(h:∀ h' T',yo (env::outer) e none s.heap h'->kO h' e C T'->s.heap.get? T'=none->Q () { s with heap:=h' }):
  GW M A (do let a <- OB env';let pl <- entryPlaceOf L hadNext;let b <- PV head a .none (JV L) .none pl;Pw (.ref e) 1 b) Q E s:=by
 have hene:e∉(env::outer).filterMap (·.frame):=λhm=>by
  obtain⟨_,o,ho,hnf⟩:=hl.mem hm;rw[he] at ho;injection ho with ho;subst ho;exact hnf vs hd
 have ef:OB env'=OB env:=by unfold OB;rw[hf',hf]
 rw[ef];refine Gz (wpAny_frameOf_fun hfr hl hf λh₁ hs₁=>?_);refine Gz (wpAny_entryPlaceOf λpl hpl=>?_);unfold PV newFields;refine Gz (Ig ?_ (hpl.sizeOk5 _ _ _ _ _));have he₁:h₁.get? e=some oe:=(hs₁.2.1 e hene).trans he;have he₂:=GC (h:=h₁) { cls:=.type "traceback",dict:=none,data:=.fields ([head,.ref L,.none,JV L,.none]++(if pl.isEmpty then GY 6 Ia else pl)).toArray } he₁;refine Jd he₂ hd hsz ?_;have hTe:h₁.objs.size≠e:=JB (GI he₁);have hd₃:=Ic hd (·.setIfInBounds 1 (Ht h₁.objs.size));have he₃:=HF (IC (·.setIfInBounds 1 (Ht h₁.objs.size))) he₂ (IJ hd₃);have hT₃:=(Hx (h₁.push { cls:=.type "traceback",dict:=none,data:=.fields ([head,.ref L,.none,JV L,.none]++(if pl.isEmpty then GY 6 Ia else pl)).toArray })
  (IC (·.setIfInBounds 1 (Ht h₁.objs.size))) (Jj hTe)).trans (GL h₁ rfl)
 have keep:∀ b o,b≠e->h₁.get? b=some o->((h₁.push { cls:=.type "traceback",dict:=none,data:=.fields ([head,.ref L,.none,JV L,.none]++(if pl.isEmpty then GY 6 Ia else pl)).toArray }).update e (IC (·.setIfInBounds 1 (Ht h₁.objs.size)))).get? b=some o:=λb o hbe hb=>by
  rw[Hx _ _ (Jj hbe)];exact GC _ hb
 refine h _ h₁.objs.size ⟨λb o q n ne _=>keep b o ne ((hs₁.2.1 b n).trans q),λb o q m=>?_⟩ ⟨_,_,_,_,JV L,he₃,(K0 _ _).trans hc,hd₃,by simp[hsz],hTe,hT₃,rfl,?_⟩ ?_
 ·obtain⟨sl,hs⟩:=hs₁.2.2 b o q;exact⟨sl,keep b _ (λz=>hene (z▸m)) hs⟩
 ·rcases hpl with rfl|⟨_,_,_,_,_,_,_,rfl⟩<;>simp
 ·cases q:s.heap.get? h₁.objs.size with
  |none=>rfl
  |some o=>
   have:=GI q;rw[hs₁.1] at this;exact absurd this (Ii _)
theorem o9 {h:JI}{e C T:G7}{v:GH}(x:kO h e C T):kO (h.update T (IC (·.setIfInBounds 3 v))) e C T/\(v=.none->mR (h.update T (IC (·.setIfInBounds 3 v))) e C (some T)):=by
 obtain⟨oe,vs,oT,ts,u,he,hc,hd,h1,hTe,hT,hdT,h3⟩:=x;have sz:3<ts.size:=(Iu.mp h3).1;have d3:=Ic hdT (·.setIfInBounds 3 v);have e1:(h.update T (IC (·.setIfInBounds 3 v))).get? e=some oe:=(Hx _ _ hTe).trans he;have e2:=HF (IC (·.setIfInBounds 3 v)) hT (IJ d3);exact⟨⟨oe,vs,_,_,v,e1,hc,hd,h1,hTe,e2,d3,by simp[sz]⟩,λev=>⟨oe,vs,e1,hc,hd,h1,hTe,_,_,e2,d3,by simp[sz,ev]⟩⟩
theorem w_ {base:JI}{env env':Env}{outer:List Env}{L e C:G7}{T:Option G7}{Q:Unit->GJ->Prop} (hfr:A.frames=some (env :: outer)) (hl:s.heap.FunFrames base (env :: outer)) (hf:env.frame=some L) (hf':env'.frame=some L) (x:mR s.heap e C T)
  (h:∀ h' T',yo (env::outer) e T s.heap h'->kO h' e C T'->s.heap.get? T'=none->Q () { s with heap:=h' }):GW M A (M5 (.ref e) env') Q E s:=by
 obtain⟨oe,vs,he,hc,hd,hT⟩:=x;unfold M5;simp only[hf'];cases T with
 |none=>
  refine Gz (IS he hd hT ?_);rw[Hu (by decide)];exact jT hfr hl hf hf' he hc hd (Iu.mp hT).1 h
 |some T=>
  obtain⟨h1,hTe,oT,ts,hoT,hdT,h3⟩:=hT;refine Gz (IS he hd h1 ?_);rw[Ie (show(Ht T != Ia)=true from by simp)];refine Gz (IS hoT hdT h3 ?_);rw[Hu (show ¬ ((Ia==JV L)=true) from by simp[JV])];refine Gz (Jd hoT hdT (Iu.mp h3).1 ?_);have other:∀ b,b≠T->(s.heap.update T (IC (·.setIfInBounds 3 Ia))).get? b=s.heap.get? b:=λb hb=>Hx _ _ (Jj hb)
  have noRecord:∀ b o,s.heap.get? b=some o->(∀ vs,o.data≠.fields vs)->b≠T:=λb o hb hnf q=>by
   rw[q,hoT] at hb;injection hb with hb;subst hb;exact hnf ts hdT
  have nTf:T∉dX (env::outer):=λm=>by
   obtain⟨_,o,ho,hnf⟩:=hl.mem m;rw[hoT] at ho;injection ho with ho;subst ho;exact hnf ts hdT
  refine jT (s:={ s with heap:=s.heap.update T (IC (·.setIfInBounds 3 Ia)) }) hfr (hl.of_keeps λb o hb hnf=>⟨o,(other b (noRecord b o hb hnf)).trans hb,rfl⟩) hf hf' ((other e (Jj hTe)).trans he) hc hd (Iu.mp h1).1 λh' T' k x' nT=>?_
  refine h h' T' ⟨λb o q n ne nt=>k.1 b o ((other b (λz=>nt (by rw[z]))).trans q) n ne (λz=>nomatch z),λb o q m=>k.2 b o ((other b (λz=>nTf (z▸m))).trans q) m⟩ x' ?_
  by_cases z:T'=T
  ·subst z;exfalso;have e2:=HF (IC (·.setIfInBounds 3 Ia)) hoT (IJ (Ic hdT _));have nT':(s.heap.update T' (IC (·.setIfInBounds 3 Ia))).get? T'=none:=nT;rw[e2] at nT';cases nT'
  ·exact(other T' z).symm.trans nT
theorem BV {base:JI}{env:Env}{outer:List Env}{L e C T:G7}{Q:Unit->GJ->Prop} (hfr:A.frames=some (env :: outer)) (hl:s.heap.FunFrames base (env :: outer)) (hf:env.frame=some L) (x:kO s.heap e C T)
  (h:∀ h' T',yo (env::outer) e (some T) s.heap h'->mR h' e C (some T')->(s.heap.get? T'=none\/T=T')->Q () { s with heap:=h' }):GW M A (leaving env (.ref e)) Q E s:=by
 obtain⟨oe,vs,oT,ts,v,he,hc,hd,h1,hTe,hT,hdT,h3⟩:=id x;have sz:3<ts.size:=(Iu.mp h3).1;have other:∀ (u:GH) b,b≠T->(s.heap.update T (IC (·.setIfInBounds 3 u))).get? b=s.heap.get? b:=λu b hb=>Hx _ _ (Jj hb)
 have nTf:T∉dX (env::outer):=λm=>by
  obtain⟨_,o,ho,hnf⟩:=hl.mem m;rw[hT] at ho;injection ho with ho;subst ho;exact hnf ts hdT
 have noRecord:∀ b o,s.heap.get? b=some o->(∀ vs,o.data≠.fields vs)->b≠T:=λb o hb hnf q=>by
  rw[q,hT] at hb;injection hb with hb;subst hb;exact hnf ts hdT
 unfold leaving M5;simp only[hf];refine Gz (Gz (IS he hd h1 ?_));rw[Ie (show(Ht T != Ia)=true from by simp)];refine Gz (IS hT hdT h3 ?_)
 by_cases z:(v==JV L)=true
 ·rw[Ie z];refine GD ?_;refine Nd he hd h1 hT hdT sz ?_;exact h _ T ⟨λb o q _ _ nt=>(other _ b (λz=>nt (by rw[z]))).trans q,λb o q m=>⟨o.slots,(other _ b (λz=>nTf (z▸m))).trans q⟩⟩ ((o9 (v:=.none) x).2 rfl) (.inr rfl)
 ·rw[Hu z];refine Gz (Jd hT hdT sz ?_);refine jT (s:={ s with heap:=s.heap.update T (IC (·.setIfInBounds 3 Ia)) }) hfr (hl.of_keeps λb o hb hnf=>⟨o,(other _ b (noRecord b o hb hnf)).trans hb,rfl⟩) hf hf ((other _ e (Jj hTe)).trans he) hc hd (Iu.mp h1).1 λh' T' k x' nT=>?_
  obtain⟨oe',vs',oT',ts',v',he',hc',hd',h1',hTe',hT',hdT',h3'⟩:=id x';refine Nd he' hd' h1' hT' hdT' (Iu.mp h3').1 ?_;have other':∀ b,b≠T'->(h'.update T' (IC (·.setIfInBounds 3 Ia))).get? b=h'.get? b:=λb hb=>Hx _ _ (Jj hb)
  have e2:=HF (IC (·.setIfInBounds 3 Ia)) hT (IJ (Ic hdT _));have nT1:(s.heap.update T (IC (·.setIfInBounds 3 Ia))).get? T'=none:=nT;have zT:T'≠T:=λz=>by rw[z,e2] at nT1;cases nT1
  have nT2:s.heap.get? T'=none:=(other _ T' zT).symm.trans nT1;have nb:∀ b o,s.heap.get? b=some o->b≠T':=λb o q z=>by rw[z,nT2] at q;cases q
  refine h _ T' ⟨λb o q n ne nt=>(other' b (nb b o q)).trans (k.1 b o ((other _ b (λz=>nt (by rw[z]))).trans q) n ne (λz=>nomatch z)),λb o q m=>?_⟩ ((o9 (v:=.none) x').2 rfl) (.inl nT2);obtain⟨sl,q'⟩:=k.2 b o ((other _ b (λz=>nTf (z▸m))).trans q) m;exact⟨sl,(other' b (nb b o q)).trans q'⟩
end
def AK (X:Cx)(W:L2.St->G7->Hp->Prop):Prop:=∀ (pins:List (G7×Obj)) (σ:L2.St) (H:Hp) (s:GJ) (e C T:G7),aw X pins σ H s->kO s.heap e C T->eA X pins H e->eA X pins H T->W σ C H->X.xe (.ref e) s
theorem qZ {P:Hv}{w:IN}{K:GB}{mg:Str->Option GH}{base:JI}{N:List Str}{qual:Str}{scope:LF}{f:G7}{cd:GH}{A:IR}{outer:List Env}{s:GJ}{H:Hp}{E:XK} :
  AK (lQ (cE P w) P w K mg base N qual scope f cd A outer s H E) (λ_ C H'=>E (.ref C) none H'):=by
 intro pins σ H' s' e C T I x oe oT q;have fl:=I.stack;show GW _ _ (leaving _ _) _ _ _;refine BV (base:=base) I.ok.frames fl rfl x λh' T' ⟨keep,slot⟩ x' nT=>?_
 have sz:∀ b o,s.heap.get? b=some o->b≠s.heap.objs.size:=λb o e=>Hk (GI e)
 have nf:∀ b o,s.heap.get? b=some o->b∉dX outer->b∉dX (envOfC qual scope s.heap.objs.size f cd::outer):=λb o e n m=>by
  obtain⟨env,he,hf⟩:=IV.mp m;rcases GR.mp he with rfl|he
  ·exact sz b o e (GN hf).symm
  ·exact n (IV.mpr ⟨env,he,hf⟩)
 have inn:∀ b,b∈dX outer->b∈dX (envOfC qual scope s.heap.objs.size f cd::outer):=λb m=>by
  obtain⟨env,he,hf⟩:=IV.mp m;exact IV.mpr ⟨env,GK _ he,hf⟩
 have ne:∀ b o,s.heap.get? b=some o->b≠e:=λb o q z=>by rw[z] at q;rw[show s.heap.get? e=none from oe.new] at q;cases q
 have nt:∀ b o,s.heap.get? b=some o->some T≠some b:=λb o q z=>by cases z;rw[show s.heap.get? T=none from oT.new] at q;cases q
 have hT':s.heap.get? T'=none/\H' T'=none:=by
  rcases nT with nT|nT
  ·constructor
   ·cases q:s.heap.get? T' with
    |none=>rfl
    |some o=>
     obtain⟨o',q'⟩:=I.base.there T' o q (by intro z;exact absurd (show T'∈([]:List G7) from z) (by simp));rw[nT] at q';cases q'
   ·cases q:H' T' with
    |none=>rfl
    |some u=>
     have lt:=I.hok T' u q;obtain⟨o,q'⟩:∃ o,s'.heap.get? T'=some o:=eI lt;rw[nT] at q';cases q'
  ·subst nT;exact⟨oT.new,oT.free⟩
 refine⟨e,C,some T',H',rfl,I.os,I.bare,⟨λb o q n m z=>?_,λb o q n m z=>?_,λb o q n z=>I.base.free b o q n z,λb o q z=>?_,I.base.tups,I.base.frzs,I.base.tbls⟩,gO I.hok λb u o hb q=>?_,x',⟨oe.new,oe.free⟩,λt et=>by cases et;exact hT',q⟩
 ·exact keep b o (I.base.keep b o q n m z) (nf b o q m) (ne b o q) (nt b o q)
 ·obtain⟨sl,q2⟩:=I.base.slot b o q n m z;obtain⟨sl2,q3⟩:=slot b _ q2 (inn b m);exact⟨sl2,q3⟩
 ·obtain⟨o',q2⟩:=I.base.there b o q z
  by_cases m:b∈dX (envOfC qual scope s.heap.objs.size f cd::outer)
  ·obtain⟨sl,q3⟩:=slot b o' q2 m;exact⟨_,q3⟩
  ·exact⟨o',keep b o' q2 m (ne b o q) (nt b o q)⟩
 ·refine keep b o q (λm=>?_) (λz=>?_) (λz=>?_)
  ·rw[I.stkFree b m] at hb;cases hb
  ·rw[z,oe.free] at hb;cases hb
  ·cases z;rw[oT.free] at hb;cases hb
theorem qX {X:Cx}{pins:List (G7×Obj)}{σ:L2.St}{H:Hp}{s:GJ}{b:G7}(hex:X.ex=[])(I:aw X pins σ H s)(n1:s.heap.get? b=none):eA X pins H b:=by
 have ne:∀ c o,s.heap.get? c=some o->c≠b:=λc o q z=>by rw[z,n1] at q;cases q
 refine⟨?_,?_,λz=>?_,λy c q z=>?_,λp hp z=>?_⟩
 ·cases q:X.s₀.heap.get? b with
  |none=>rfl
  |some o=>
   obtain⟨o',q'⟩:=I.base.there b o q (by rw[hex];simp);rw[n1] at q';cases q'
 ·cases q:H b with
  |none=>rfl
  |some u=>
   obtain⟨o,q'⟩:=eI (I.hok b u q);rw[n1] at q';cases q'
 ·obtain⟨m,hn,_⟩:=I.loc;obtain⟨o,_,_,ho,_⟩:=hn;exact ne _ o ho z.symm
 ·obtain⟨v,o,ho,_⟩:=I.cell y c q;exact ne _ o ho z
 ·exact ne _ _ (I.pin p hp).1 z
theorem BB {X:Cx}{W:L2.St->G7->Hp->Prop}{pins:List (G7 × Obj)}{σ:L2.St}{H:Hp}{s:GJ}{e C T:G7}{what:String}{env:Env}{Q:GH->GJ->Prop} (hT:AK X W) (I:aw X pins σ H s) (x:kO s.heap e C T) (oe:eA X pins H e) (oT:eA X pins H T) (q:W σ C H) :
  GW (Hl X.prog X.w) X.A (PySem.passOn what (.ref e) env:Sem GH) Q X.xe s:=by
 obtain⟨o1,vs,o2,ts,v,a1,a2,a3,a4,a5,a6,a7,a8⟩:=id x;unfold PySem.passOn;refine Gz (IS a1 a3 a4 ?_);rw[Hu (show ¬ ((Ht T==Ia)=true) from by simp)];unfold setFlight;refine Gz (Gz (IS a1 a3 a4 ?_));rw[Ie (show(Ht T != Ia)=true from by simp)];refine Jd a6 a7 (Iu.mp a8).1 ?_;refine OH ?_;have J:aw X pins σ H { s with heap:=s.heap.update T (IC (·.setIfInBounds 3 (env.frame.elim .none λf=>JV f))) }:=aw.flown (L:=[T]) I (λb hb=>by cases G5.mp hb;exact oT)
  (λb o q' _ n=>(Hx _ _ (λz=>n (by rw[z];simp))).trans q') λb o q' m=>⟨o.slots,(Hx _ _ (λz=>by
   obtain⟨_,o',ho,hnf⟩:=I.stack.mem m;rw[<- z,a6] at ho;cases ho;exact hnf ts a7)).trans q'⟩
 exact hT pins σ H _ e C T J (o9 x).1 oe oT q
def E6 (X:Cx)(N:List Str)(scope:LF)(C:G7)(s2:GJ)(H2:Hp)(fp:List G7)(pins:List (G7×Obj))(Wh:G7->Hp->Prop):GH->GJ->Prop:=λv s'=>∃ e Cl T pl σ' H',v=.ref e/\aw (aA X N scope (ar X scope C) C s2 H2 fp pins) pl σ' H' s'/\mR s'.heap e Cl T /\
 (((s2.heap.get? e=none\/e∈fp)/\H' e=none/\e≠C)/\∀ t,T=some t->(s2.heap.get? t=none\/t∈fp)/\H' t=none/\t≠C)/\Wh Cl H'
def kP (X:Cx)(N:List Str)(scope:LF)(C:G7)(s2:GJ)(H2:Hp)(fp:List G7)(pins:List (G7×Obj))(Wh:G7->Hp->Prop):Cx:={ aA X N scope (ar X scope C) C s2 H2 fp pins with xe:=E6 X N scope C s2 H2 fp pins Wh }
theorem Ec {X:Cx}{pins:List (G7 × Obj)}{σ:L2.St}{H2:Hp}{s2 s':GJ}{N:List Str}{scope:LF}{C:G7}{fp:List G7}{Wh:G7->Hp->Prop}{outs:List Env}{L0:G7}{v:GH}{RR:G7->Ql->GJ->Prop} (hst:X.stack=X.env :: outs) (hfr0:X.env.frame=some L0) (hex:X.ex=[]) (I:aw X pins σ H2 s2) (f2:∀ b ∈ fp,eN X pins H2 b) (hC:s2.heap.objs.size <= C) (fpLt:∀ b ∈ fp,b < s2.heap.objs.size)
  (hRE:∀ (C:G7) (s':GJ) (H':Hp) (e Cl T:G7),aw X pins σ H' s'->kO s'.heap e Cl T->eA X pins H' e->eA X pins H' T->Wh Cl H'->(∃ m,s'.heap.Ns C m)->H' C=none->e≠C->T≠C->s2.heap.objs.size<=C->RR C (.error (.ref e)) s')
  (hx:E6 X N scope C s2 H2 fp pins Wh v s'):notedBy (Hl X.prog X.w) X.A (Lu scope (ar X scope C) C X.env) (λe s'=>RR C (.error e) s') v s':=by
 obtain⟨e,Cl,T,pl,σ',H',rfl,J,x,⟨oe,oT⟩,q⟩:=hx;have I':aw X pins σ H' s':=nV I f2 J;have ours:∀ b,(s2.heap.get? b=none\/b∈fp)/\H' b=none/\b≠C->eA X pins H' b:=λb ⟨z,n2,_⟩=>by
  rcases z with z|z
  ·have o:=qX hex I z;exact⟨o.new,n2,o.loc,o.cell,o.pin⟩
  ·obtain⟨_,g1,_,g3,g4,g5⟩:=f2 b z;refine⟨?_,n2,g1,g4,g5⟩;rcases g3 with g3|g3
   ·rw[hex] at g3;cases g3
   ·exact PC g3
 have fr:=I'.ok.frames;rw[hst] at fr;have fl:=I'.stack;rw[hst] at fl;obtain⟨m,hn,_⟩:=id J.loc;obtain⟨oC,es,ep,hoC,rC⟩:=id hn;have cF:C∉dX (X.env::outs):=λz=>by
  have fl2:=I.stack;rw[hst] at fl2;obtain⟨_,o,ho,_⟩:=fl2.mem z;exact absurd (GI ho) (H_.mpr hC)
 show GW _ _ (M5 _ _) _ _ _;refine w_ fr fl hfr0 (show(Lu scope (ar X scope C) C X.env).frame=some L0 from hfr0) x λh' T' ⟨keep,slot⟩ x' nT=>?_
 have J2:aw X pins σ H' { s' with heap:=h' }:=aw.flown (L:=e::T.toList) I' (λb hb=>by
  rcases GR.mp hb with rfl|hb
  ·exact ours _ oe
  ·exact ours _ (oT b (MN.mp hb))) (λb o q' n nl=>keep b o q' (by rw[<- hst];exact n) (λz=>nl (by simp[z])) (λz=>nl (by simp[z]))) λb o q' mm=>slot b o q' (by rw[<- hst];exact mm)
 have oT':eA X pins H' T':=qX hex I' nT;refine hRE C _ H' e Cl T' J2 x' (ours e oe) oT' q ⟨m,oC,es,ep,keep C oC hoC cF oe.2.2.symm (λz=>(oT C z).2.2 rfl),rC⟩ J.free oe.2.2 (λz=>?_) hC;rw[z] at nT;rw[show s'.heap.get? C=some oC from hoC] at nT;cases nT
section
variable {X:Cx}{N:List Str}{scope:LF}{C:G7}{s2:GJ}{H2:Hp}{fp:List G7}{pn:List (G7×Obj)}{Wh:G7->Hp->Prop}{k:Nat}{ps:List Str}{sp:Sp}{dvs:List V}{x:Str}{p pos:Pos}{e:JG}{es:List JG}{t:TA}
theorem qo (Cc:du X.prog X.w X.K X.mg X.base (cE X.prog X.w) k x ps dvs sp) (hr:Room k X.A) (hg:Gl (kP X N scope C s2 H2 fp pn Wh) x) (ha:WA (kP X N scope C s2 H2 fp pn Wh) (e :: es) t) (hdb:(x == ("__debug__":Str))=false:=by decide)
  (he:G9 (e::es) (kP X N scope C s2 H2 fp pn Wh).env=(false,KH e (kP X N scope C s2 H2 fp pn Wh).env)::G9 es (kP X N scope C s2 H2 fp pn Wh).env:=by rfl)(hpl:(Lh pos (G9 es (kP X N scope C s2 H2 fp pn Wh).env)).any (·.1)=false:=by rfl):
  WE (kP X N scope C s2 H2 fp pn Wh) (.Call (.Name x p) (e::es) [] pos) (wV sp dvs (λ_ Cl H'=>Wh Cl H') t):=by
 have ha:=ha.go;refine⟨?_⟩;obtain⟨f,fd,ds,F,hm,hk,hb,hv⟩:=Cc.ex;intro pins s σ H Q I h;refine Kk (eM I hg hm ?_ hdb);refine Ls (h₀:=X.base) I.ok.mod.kin hk (bf (ha pos pins s σ H _ I h) λus s1 ⟨vs,H1,I1,r,q⟩=>⟨I1.kIn,?_⟩) he hpl;have rr:aI (vs++dvs) (us++ds):=aI.append r hv;have hn:(us++ds).length=ps.length:=rr.length.symm.trans (F.len _ _ _ _ q);refine Mf (K9 (F.run X.A X.stack s1 H1 ⟨us,[]⟩ (us++ds) (vs++dvs) Q _ hr I1.env0 (hb s1 us I1.kIn hn) rr q) λz s' hz=>?_)
 match z,hz with
 |.error v,hz=>
  obtain⟨a,Cl,T,H',rfl,os,bare,un,hok,xx,⟨e1,e2⟩,hT,C',eC,q'⟩:=hz;cases eC;have I':aw (kP X N scope C s2 H2 fp pn Wh) pins σ H' s':=I1.call' os un hok bare λb z=>absurd z (by simp)
  have J:aw (aA X N scope (ar X scope C) C s2 H2 fp pn) pins σ H' s':=aw.ctx (A':=X.A) (c':=X.calm) (pn':=X.pn++pn) (xe':=λ_ _=>False) I' rfl (λz=>I'.ok.hd z) λp hp=>hp
  have own:∀ b,s1.heap.get? b=none->H' b=none->(s2.heap.get? b=none\/b∈fp)/\H' b=none/\b≠C:=λb n1 n2=>by
   refine⟨?_,n2,λz=>?_⟩
   ·by_cases m:b∈fp
    ·exact .inr m
    ·left
     cases qq:s2.heap.get? b with
     |none=>rfl
     |some o=>
      obtain⟨o',q''⟩:=I1.base.there b o qq m;rw[n1] at q'';cases q''
   ·obtain⟨m,⟨o,_,_,ho,_⟩,_⟩:=I1.loc;rw[z] at n1;rw[show s1.heap.get? C=some o from ho] at n1;cases n1
  exact⟨a,Cl,T,pins,σ,H',rfl,J,xx,⟨own a e1 e2,λt et=>own t (hT t et).1 (hT t et).2⟩,q'⟩
 |.ok (.ret u),hz=>exact I1.after hz
end
section
variable {X:Cx}{pins:List (G7×Obj)}{σ:L2.St}{H H2:Hp}{s s2:GJ}
theorem nA {prog:Hv}{w:IN}{A:IR}{R:Ql->GJ->Prop}{kx vx target iter:JG}{ifs:List JG}{scope:LF}{pos:Pos}{it:GH}{D:G7}{env:Env}{s:GJ} (I:Nat->GJ->Prop)
  (eS:∀ n s,I n s->GW (Hl prog w) A (LG it) (λr s₁=>match r with
   |none=>R (.ok .next) s₁
   | some v=>GW (Hl prog w) A (Kw target it v) (fun _ s₁'=>GW (Hl prog w) A (assign target env v) (fun _ s₂=>
     GW (Hl prog w) A (forIn ifs true λc r=>if r=true then do let ok <- Rk c env (KH c env);pure (JJ ok) else pure (JJ r)) (λok s₃=>
      if ok=true then GW (Hl prog w) A (KH kx env) (λkv s₄=>GW (Hl prog w) A (KH vx env) (λvv s₅=>
       GW (Hl prog w) A (dictSet D kv vv) (λ_ s₆=>∃ m,m<n/\I m s₆) (λ_ _=>False) s₅) (notedBy (Hl prog w) A env λe s'=>R (.error e) s') s₄) (λ_ _=>False) s₃
      else ∃ m,m<n/\I m s₃) (λ_ _=>False) s₂) (λ_ _=>False) s₁') (λ_ _=>False) s₁) (λ_ _=>False) s)
  (n:Nat)(h:I n s):Ky (Hl prog w) A (.compLoop (.DictComp kx vx [⟨target,iter,ifs,0⟩] scope pos) 0 it (.ref D) env) R s:=by
 refine codeAny_loop rfl I (λn s hI=>?_) n h;show GW _ A ((Ra (.DictComp kx vx [⟨target,iter,ifs,0⟩] scope pos) 0 it (.ref D) env).onRaise (λx=>do M5 x env;Pq x)) _ _ s;refine wpAny_noted ?_;rw[compTurn_dict];refine Gz (Jr (Gz (Hm (eS n s hI) (λr s₁ h₁=>?_) λ_ _ z=>z.elim)));cases r with
 |none=>exact GD h₁
 |some v=>
  refine Gz (Hm h₁ (λ_ s₁' h₁'=>?_) λ_ _ z=>z.elim);refine Gz (Hm h₁' (λ_ s₂ h₂=>Gz (Hm h₂ (λok s₃ h₃=>?_) λ_ _ z=>z.elim)) λ_ _ z=>z.elim);cases ok with
  |false=>exact GD ⟨rfl,h₃⟩
  |true=>
   exact Gz (Gz (Hm h₃ (λkv s₄ h₄=>Gz (Ij (Hm h₄ (λvv s₅ h₅=>Gz (Jr (Ij (Hm h₅ (λ_ s₆ h₆=>GD ⟨rfl,h₆⟩) λ_ _ z=>z.elim)))) λ_ _ z=>z))) λ_ _ z=>z.elim))
theorem pN {N:List Str}{scope:LF}{kx vx tg iter:JG}{ifs:List JG}{pos:Pos}{it D:G7}{fp:List G7}{tn:Nat->JI->Prop}{J:It}{g:TG}{tt:TT}{tk tv:TE}{σ0:L2.St}{Fin:Hp->Prop}
  {E:GH->GJ->Prop}{RR:G7->Ql->GJ->Prop}{Wh:G7->Hp->Prop}{outs:List Env}{L0:G7}(hst:X.stack=X.env::outs)(hfr0:X.env.frame=some L0)(hex:X.ex=[])(hc:X.calm=true)(hu:X.A.units<cLine)(I:aw X pins σ H2 s2)(S:jN X scope)
  (hcap:fQ X scope N σ σ0)(hlen:σ0.length=N.length)(f2:∀ b∈fp,eN X pins H2 b)(T:kW X.prog X.w X.K tg J fp it tn)(st2:tn 0 s2.heap)
  (hg:∀ C,PG (aA X N scope (ar X scope C) C s2 H2 fp pins) tg g)(ht:∀ C,Dt (aA X N scope (ar X scope C) C s2 H2 fp pins) ifs tt)(hk:∀ C,PE (aA X N scope (ar X scope C) C s2 H2 fp pins) kx tk)(hv:∀ C,PE (kP X N scope C s2 H2 fp pins Wh) vx tv)(hw:sJ J g tt tk tv D σ0 Fin H2)
  (hRR:∀ (C:G7) (s':GJ) (H':Hp),aw X pins σ H' s'->Fin H'->(∃ m,s'.heap.Ns C m)->H' C=none->s2.heap.objs.size<=C->RR C (.ok .next) s')
  (hRE:∀ (C:G7) (s':GJ) (H':Hp) (e Cl T:G7),aw X pins σ H' s'->kO s'.heap e Cl T->eA X pins H' e->eA X pins H' T->Wh Cl H'->(∃ m,s'.heap.Ns C m)->H' C=none->e≠C->T≠C->s2.heap.objs.size<=C->RR C (.error (.ref e)) s'):
  GW (Hl X.prog X.w) X.A (LX scope X.env.globals (uV X.env.cells scope.names []) [] X.env.qual none .none (some X.env)) (λcenv s₄=>
   Ky (Hl X.prog X.w) X.A (.compStart (.DictComp kx vx [⟨tg,iter,ifs,0⟩] scope pos) 0 (.ref it) (.ref D) { cenv with scope:=relabel scope X.env }) (RR cenv.locals) s₄) E s2:=by
 obtain⟨W,⟨m0,w0⟩,eS⟩:=hw;refine mI λh1 hns1 own1 kk1=>?_
 have below:∀ b,b<s2.heap.objs.size->b≠s2.heap.objs.size:=λb hb=>Hk hb
 have old:∀ b o,s2.heap.get? b=some o->h1.get? b=some o:=λb o e=>kk1 b o e
 have cellLt:∀ x c,X.env.cells.lookup x=some c->c<s2.heap.objs.size:=λx c e=>by
  obtain⟨v,q⟩:=I.cell x c e;exact q.lt
 have fo:∀ b∈fp,∃ o,s2.heap.get? b=some o:=λb hb=>let ⟨o,e,_⟩:=T.obj 0 _ st2 b hb;⟨o,e⟩
 have fpLt:∀ b∈fp,b<s2.heap.objs.size:=λb hb=>let ⟨o,e⟩:=fo b hb;GI e
 have st1:tn 0 h1:=T.keep 0 _ _ st2 λb _ o e=>old b o e
 have I0:∀ tk,aw (aA X N scope (ar X scope s2.heap.objs.size) s2.heap.objs.size s2 H2 fp pins) [] σ0 H2 { s2 with heap:=h1,toks:=tk }:=λtk=>
  vQ I S hcap hlen f2 fo (GM _) old hns1 λx c e l=>(own1 x c e).resolve_left λz=>by
   rcases cX S.free z with z|⟨_,z⟩
   ·cases z
   ·exact absurd (cellLt x c z) (H_.mpr (GV (JR _ 1) l))
 have fpOk:∀ {H':Hp},(∀ b∈fp,H' b=none)->∀ b∈fp,eN (aA X N scope (ar X scope s2.heap.objs.size) s2.heap.objs.size s2 H2 fp pins) [] H' b:=λ{H'} hn b hb=>by
  obtain⟨_,g1,g2,g3,g4,g5⟩:=f2 b hb;refine⟨hn b hb,below b (fpLt b hb),fq I g1 g2,.inl hb,λx c e=>?_,λp hp=>?_⟩;rcases bF S e with ⟨e,_⟩|⟨l,_⟩
  ·exact g4 x c e
  ·exact λz=>absurd (fpLt b hb) (H_.mpr (z▸GV (JR _ 1) l))
  rw[O5] at hp;exact g5 p hp
 have loop:∀ s3:GJ,s3.heap=h1->s3.gens=s2.gens->s3.os=s2.os->aw (aA X N scope (ar X scope s2.heap.objs.size) s2.heap.objs.size s2 H2 fp pins) [] σ0 H2 s3 ->
   Ky (Hl X.prog X.w) X.A (.compLoop (.DictComp kx vx [⟨tg,iter,ifs,0⟩] scope pos) 0 (.ref it) (.ref D) (Lu scope (ar X scope s2.heap.objs.size) s2.heap.objs.size X.env)) (RR s2.heap.objs.size) s3:=by
  intro s3 e3 _ _ I3;refine nA (λk s'=>∃ i H',aw (aA X N scope (ar X scope s2.heap.objs.size) s2.heap.objs.size s2 H2 fp pins) [] σ0 H' s'/\tn i s'.heap/\(∀ b∈fp,H' b=none)/\W i k H') ?_ m0
   ⟨0,H2,I3,by rw[e3];exact st1,λb hb=>(f2 b hb).1,w0⟩
  rintro k s' ⟨i,H',I',tn',fr',w'⟩;rcases eS i k H' w' with ⟨stop,fin⟩|⟨go,step⟩
  ·refine Hm (T.done (aA X N scope (ar X scope s2.heap.objs.size) s2.heap.objs.size s2 H2 fp pins) rfl rfl rfl hc i _ s' σ0 H' (λ_ _=>False) I' (fpOk fr') tn' stop) (λr s1 hr=>?_) λ_ _ z=>z
   obtain⟨rfl,I1⟩:=hr;obtain⟨m,hn,_⟩:=id I1.loc;exact hRR _ s1 H' (nV I f2 I1) fin ⟨m,hn⟩ I1.free (GM _)
  ·refine Hm (T.item (aA X N scope (ar X scope s2.heap.objs.size) s2.heap.objs.size s2 H2 fp pins) rfl rfl rfl hc i _ s' σ0 H' (λ_ _=>False) I' (fpOk fr') tn' go) (λr s4 hr=>?_) λ_ _ z=>z
   obtain⟨u,rfl,h4⟩:=hr;refine Hm h4 (λ_ s5 h5=>?_) λ_ _ z=>z
   obtain⟨x,H5,I5,r5,y5,tn5,fr5⟩:=h5;have I5':=I5.pinned (fpOk fr5) (T.obj _ _ tn5);refine bf (hg s2.heap.objs.size _ s5 σ0 H5 x u _ I5' r5 (step x H5 y5)) λ_ s6 h6=>?_
   obtain⟨σ6,H6,I6,q6⟩:=h6;refine bf (ht s2.heap.objs.size _ s6 σ6 H6 _ I6 q6) λok s7 h7=>?_
   obtain ⟨H7,I7,q7⟩:=h7;have weak:∀ {s8:GJ}{H8:Hp},aw (aA X N scope (ar X scope s2.heap.objs.size) s2.heap.objs.size s2 H2 fp pins) ([] ++ bV fp s5.heap) σ6 H8 s8 ->
     aw (aA X N scope (ar X scope s2.heap.objs.size) s2.heap.objs.size s2 H2 fp pins) [] σ0 H8 s8/\tn (i+1) s8.heap/\∀ b∈fp,H8 b=none:=λ{s8 H8} I8=>by
    have st8:tn (i+1) s8.heap:=T.keep _ _ _ tn5 λb hb o e=>(I8.pin (b,o) (GO _ (GO _ (bH hb e)))).1
    have fr8:∀ b∈fp,H8 b=none:=λb hb=>by
     obtain⟨o,e,d⟩:=T.obj _ _ tn5 b hb;exact(I8.pin (b,o) (GO _ (GO _ (bH hb e)))).2.1
    refine⟨?_,st8,fr8⟩;obtain⟨m8,hn8,_⟩:=id I8.loc;have J:=I8.unpinned;exact⟨J.ok,J.os,J.bare,J.base,⟨m8,hn8,λj y v e1 e2 _=>by
     obtain⟨m00,_,hm00⟩:=(I0 0).loc;obtain⟨u',r',l'⟩:=hm00 j y v e1 e2 (by
      obtain⟨_,_,_,_,_,z⟩:=hcap j y v e1 e2;exact .inr z)
     obtain⟨j',j1,j2,j3,jf,j4⟩:=hcap j y v e1 e2;rcases l' with ⟨k',_⟩|⟨k',c,ec,z⟩
     ·exfalso;have k'':(Lu scope [] 0 X.env).kindOf y=some .local:=k';rcases j4 with q|q<;>(rw[q] at k'';cases k'')
     ·have eo:X.env.cells.lookup y=some c:=by
       rcases bF S ec with ⟨e,_⟩|⟨_,k2⟩
       ·exact e
       ·rw[jf] at k2;cases k2
      refine⟨u',r',.inr ⟨k',c,ec,?_⟩⟩;obtain⟨oc,hoc,hd⟩:=z;have hoc2:s2.heap.get? c=some oc:=by
       obtain⟨v',o',q',d'⟩:=I.cell y c eo;have e':=old c o' q';have hoc':h1.get? c=some oc:=hoc;rw[e'] at hoc';cases hoc';exact q'
      have nfp:c∉fp:=λz=>(f2 c z).2.2.2.2.1 y c eo rfl
      by_cases hfs:c∈dX X.stack
      ·obtain⟨sl,q⟩:=J.base.slot c oc hoc2 (I.freeC y c eo) hfs nfp;exact⟨_,q,hd⟩
      ·exact⟨oc,J.base.keep c oc hoc2 (I.freeC y c eo) hfs nfp,hd⟩⟩,J.cell,J.free,J.freeC,J.pin,J.hok,hlen⟩
   cases ok with
   |false=>
    obtain⟨m',hm,w8⟩:=q7;obtain⟨I8,st8,fr8⟩:=weak I7;exact⟨m',hm,i+1,H7,I8,st8,fr8,w8⟩
   |true=>
    refine bf (hk s2.heap.objs.size _ s7 σ6 H7 _ I7 q7) λkv s8 h8=>?_
    obtain⟨kk,H8,I8,r8,q8⟩:=h8;refine Hm (hv s2.heap.objs.size _ s8 σ6 H8 _ (aw.ctx (A':=X.A) (c':=X.calm) (pn':=X.pn++pins) (xe':=E6 X N scope s2.heap.objs.size s2 H2 fp pins Wh) I8 rfl (λz=>I8.ok.hd z) λp hp=>hp) q8) (λvv s9 h9=>?_) λv s9 hx=>Ec hst hfr0 hex I f2 (GM _) fpLt hRE hx
    obtain⟨yv,H9,I9,r9,kvs,ks,b,e1,e2,e3,e4,m',hm,w9⟩:=h9;replace I9:aw (aA X N scope (ar X scope s2.heap.objs.size) s2.heap.objs.size s2 H2 fp pins) ([]++bV fp s5.heap) σ6 H9 s9:=aw.ctx (A':=X.A) (c':=X.calm) (pn':=X.pn++pins) (xe':=λ_ _=>False) I9 rfl (λz=>I9.ok.hd z) λp hp=>hp
    refine v6 (X:=aA X N scope (ar X scope s2.heap.objs.size) s2.heap.objs.size s2 H2 fp pins) hu I9 e1 e2 e3 e4 rfl r8 r9 λs10 I10=>?_
    obtain⟨L1,L2',L3⟩:=weak I10;exact⟨m',hm,i+1,_,L1,L2',L3,w9⟩
 exact codeAny_compStart_dict (loop _ rfl rfl rfl (I0 _)) (T.self _ 0 _ _ _ st1 (loop _ rfl rfl rfl (I0 _)))
end
section
variable {X:Cx}{pos:Pos}
theorem ub {N:List Str}{scope:LF}{kx vx tg iter:JG}{ifs:List JG}{wi:TI}{g:TG}{tt:TT}{tk tv:TE}{mk:L2.St->L2.St}{Wh:G7->Hp->Prop}{outs:List Env}{L0:G7} (hst:X.stack=X.env :: outs) (hfr0:X.env.frame=some L0) (hex:X.ex=[]) (hTA:AK X fun _ Cl H=>Wh Cl H) (hc:X.calm=true) (hu:X.A.units + 1 < cLine) (hi:WI X tg iter wi) (S:jN X scope) (hcap:∀ σ,σ.length=X.N.length->fQ X scope N σ (mk σ)/\(mk σ).length=N.length)
  (hg:∀ C s0 H0 fp pn,WG (aA X N scope (ar X scope C) C s0 H0 fp pn) tg g)(ht:∀ C s0 H0 fp pn,zI (aA X N scope (ar X scope C) C s0 H0 fp pn) ifs tt)(hk:∀ C s0 H0 fp pn,WE (aA X N scope (ar X scope C) C s0 H0 fp pn) kx tk)(hv:∀ C s0 H0 fp pn,WE (kP X N scope C s0 H0 fp pn Wh) vx tv)
  (hs:∀ x,Jc iter X.env x=pure x:=by intro _;rfl):WE X (.DictComp kx vx [⟨tg,iter,ifs,0⟩] scope pos) (Ck wi g tt tk tv mk):=by
 have hi:=hi.go;have hg:=λC s0 H0 fp pn=>(hg C s0 H0 fp pn).go
 have ht:=λC s0 H0 fp pn=>(ht C s0 H0 fp pn).go
 have hk:=λC s0 H0 fp pn=>(hk C s0 H0 fp pn).go
 have hv:=λC s0 H0 fp pn=>(hv C s0 H0 fp pn).go
 refine⟨?_⟩;intro pins s σ H Q I h;rw[arm_eval_DictComp];refine Kl (use:=none) rfl hs (l9 S.free) S.kind (λy hy e=>by rw[S.once y hy,e]) ?_;refine bf (hi pins s σ H _ I h) λv s1 h1=>bf h1 λitv s2 h2=>?_
 obtain⟨it,fp,tn,J,H2,rfl,I2,T,st2,f2,hw⟩:=h2;have hcp:=hcap σ I2.len;refine Ig ?_;have fr:H2 s2.heap.objs.size=none:=I2.hok.fresh (GM _);have I3:=I2.laid (a:=s2.heap.objs.size) (o:=.dT []) (t':=s2.toks) (λ_ _ q=>GC _ q) (GM _) (rL s2.heap I2.big);have fpLt:∀ b∈fp,b<s2.heap.objs.size:=λb hb=>let ⟨o,e,_⟩:=T.obj 0 _ st2 b hb;GI e
 refine pN hst hfr0 hex hc (Nat.lt_of_succ_lt hu) I3 S hcp.1 hcp.2 (λb hb=>?_) T (T.keep 0 _ _ st2 λb _ o e=>GC _ e) (λC=>hg C _ _ _ _) (λC=>ht C _ _ _ _) (λC=>hk C _ _ _ _) (λC=>hv C _ _ _ _) (hw _ fr) ?_ ?_
 ·obtain⟨g0,g⟩:=f2 b hb;exact⟨by rw[ap (Hk (fpLt b hb))];exact g0,g⟩
 ·intro C s' H' I' fin hm hC hle;obtain⟨m,hn⟩:=hm;refine⟨m,hn,λh' hs'=>⟨.ref s2.heap.objs.size,_,?_,rfl,fin⟩⟩;exact I'.turned (it:=C) (t':=s'.toks) (λb o hb e=>hs'.extBut b o hb e) hC (λz=>absurd (z▸I3.lt) (H_.mpr hle)) (.inr (GV I3.sz hle))
   (λx c e z=>by
    obtain⟨v',q⟩:=I3.cell x c e;exact absurd (z▸q.lt) (H_.mpr hle))
   (λp hp z=>absurd (z▸GI (I3.pin p hp).1) (H_.mpr hle))
 ·intro C s' H' e Cl T I' x oe oT q hm hC heC hTC hle;obtain⟨m,hn⟩:=hm;refine⟨m,hn,λh' hs' cenv _=>?_⟩;have I4:aw X pins σ H' { s' with heap:=h' }:=I'.turned (it:=C) (t':=s'.toks) (λb o hb e=>hs'.extBut b o hb e) hC (λz=>absurd (z▸I3.lt) (H_.mpr hle)) (.inr (GV I3.sz hle))
   (λx c e z=>by
    obtain⟨v',q⟩:=I3.cell x c e;exact absurd (z▸q.lt) (H_.mpr hle))
   (λp hp z=>absurd (z▸GI (I3.pin p hp).1) (H_.mpr hle))
  have x4:kO h' e Cl T:=by
   obtain⟨o1,vs,o2,ts,v,a1,a2,a3,a4,a5,a6,a7,a8⟩:=x;exact⟨o1,vs,o2,ts,v,hs'.extBut _ _ heC a1,a2,a3,a4,a5,hs'.extBut _ _ hTC a6,a7,a8⟩
  exact BB hTA I4 x4 oe oT q
end
theorem Aa {X:Cx}{st:K4}{t:TS}(h:WS X.nox st t):WS X st t:=by
 have h:=h.go;exact⟨λpins s σ H D I hw=>Hm (h pins s σ H D (I.wish _) hw) (λ_ _ q=>q.unwish) λ_ _ z=>Kh z⟩
def zj (K:GB)(x:Str):Bool:=(f7 K x).any λC=>Jx K (.ref C) (.type "str")==some false
def FF (K:GB)(x:Str):List V->Hp->VK->Prop:=λxs H Q=>∃ a C dx fs,xs=[.ref a,.ty "str"]/\bt K x C/\H a=some (.ins C dx fs)/\Q (.bl false) H
theorem BC {X:Cx}{K:GB}{x:Str}{fs0:List Str}(hK:X.K=K)(hc:ig K x fs0=true)(hi:Dn K x=true)(hn:zj K x=true):br X (.builtin "isinstance") (FF K x):=by
 subst hK;intro pins s σ H xs us Q I r h;obtain⟨a,D',dx,fs,rfl,hD',ha,h⟩:=h;obtain⟨u,w,rfl,rx,rw'⟩:=jy r;cases(show w=Kj "str" from rw');obtain⟨D,cf⟩:=jY hc;cases bw hD' cf.at_;obtain⟨E,e,q⟩:=bR hi;rw[cn hD'] at e;cases e;simp only[G6,Jh,Hz] at q;obtain⟨⟨⟨⟨q1,q2⟩,q3⟩,q4⟩,q5⟩:=q;obtain⟨E1,e1,n1⟩:=bR hn;rw[cn hD'] at e1;cases e1;exact gU I rx (.ins ha cf.cls q1 q2 q3 q4) (Jh.mp n1) λtk=>⟨.bl false,H,I.tok tk,rfl,h⟩
theorem uF (i j:Str):(i.cps.toList==j.cps.toList)=decide (i=j):=by
 by_cases h:i=j
 ·subst h;simp
 ·rw[Hr h];refine Jn.mpr λz=>h ?_
  cases i;cases j;simp only at z;rw[show _=_ from Kz.mp z]
def Fl:R2:=λx y H Q=>∃ i j:Str,x=.str i/\y=.str j/\Q (.bl (decide (i=j))) H
theorem yr {X:Cx}:fU X (Jo .Eq) Fl:=by
 intro pins s σ H x y v u Q I rx ry h;obtain⟨i,j,rfl,rfl,q⟩:=h;obtain⟨t,rfl⟩:=rx;obtain⟨t',rfl⟩:=ry;exact P.eq_str ⟨.bl _,H,I,by rw[uF];rfl,q⟩
def E9:R2:=λx y H Q=>∃ i j:Str,x=.str i/\y=.str j/\Q (.bl (!decide (i=j))) H
theorem jR {X:Cx}:fU X (Jo .NotEq) E9:=by
 intro pins s σ H x y v u Q I rx ry h;obtain⟨i,j,rfl,rfl,q⟩:=h;obtain⟨t,rfl⟩:=rx;obtain⟨t',rfl⟩:=ry;exact P.ne_str ⟨.bl _,H,I,by rw[bne,uF];rfl,q⟩
def Br (to:TE)(a b:Str):TE:=λσ H Q=>to σ H λx H1=>∃ z:Str,x=.str z/\z.length<=1048576/\b.length<=14/\(a==b)=false/\Q (.str (P6 z a b)) H1
def i7 (ns:List Int):Str:=Kq " " (ns.map λn=>Iw (toString n))
theorem fE {K:GB}{H:Hp}:∀ {ts:List Str}{vs:List V},aE K H (ts.map Ll) vs->vs=ts.map V.str
 |[],_,h=>by cases h;rfl
 |t::ts,_,h=>by
  cases h with
  |cons h1 h2=>
   cases h1;rw[fE h2];rfl
theorem jC {K:GB}{H:Hp}:∀ (ts:List Str),aE K H (ts.map Ll) (ts.map V.str)
 |[]=>.nil
 |t::ts=>.cons (.str t) (jC ts)
theorem dA {n:Int}(h:0<=n/\n<10^4):(Iw (toString n)).length<=10:=PySem.W.KT.len_num h.1 (by lia)
theorem l8 {ts:List Str}{B:Nat}(h:∀ t∈ts,t.length<=B):(ts.map (·.length)).sum<=ts.length*B:=by
 induction ts with
 |nil=>exact Iz _
 |cons t ts ih=>
  have h1:=h t (by simp);have h2:=ih λx hx=>h x (by simp[hx])
  simp only[G_,Qf,HR,NN];lia
theorem BP {sep:Str}{ts:List Str}{B:Nat}(h:∀ t∈ts,t.length<=B)(hs:sep.length<=2)(hn:ts.length*(B+2)<=1000000):JoinOk sep ts=true:=by
 refine joinOk_of ?_;have h1:=l8 h;have h2:ts.length*sep.length<=ts.length*2:=P2 _ hs;rw[Nat.mul_add] at hn;lia
theorem sk {p:Prop}[Decidable p](h:¬ p):V.bl (decide p)=V.bl false:=by rw[Hr h]
theorem iP {n:Int}(h:0<=n/\n<10^4):n.natAbs.log2<1920:=by
 by_cases z:n.natAbs=0
 ·rw[z];decide
 ·have h1:n.natAbs<2^14:=by lia
  have:=(Rf z).mpr h1;lia
theorem dB {ns:List Int}(hl:ns.length<=3)(hn:∀ n∈ns,0<=n/\n<10^4):(i7 ns).length<=60:=by
 unfold i7 Kq;rw[On];have h1:=l8 (ts:=ns.map λn=>Iw (toString n)) (B:=10) λt ht=>by
  obtain⟨n,hm,rfl⟩:=HH.mp ht;exact dA (hn n hm)
 rw[GG] at h1 ⊢;have h2:(ns.length-1)*IT " "<=2*1:=N1 (by lia) (by decide);lia
def nB (c:Nat):Bool:=!(Jp "0123456789" ⟨#[c]⟩ 0 (IT "0123456789") 1).isEmpty
def cN (w:Str):Bool:=decide (1<=w.length)&&decide (w.length<=4)&&w.cps.toList.all nB&&(decide (w="0")||!decide (w.cps[0]?=some 48))
theorem yD {w:Str}(h:cN w=true):w.length<=4:=by
 unfold cN at h;simp only[G6,Io] at h;exact h.1.1.2
theorem mf:∀ {a b:List Int},a.map IG=b.map IG->a=b
 |[],[],_=>rfl
 |[],_::_,h=>by cases h
 |_::_,[],h=>by cases h
 |x::a,y::b,h=>by
  injection h with h1 h2
  injection h1 with h1
  rw[h1,mf h2]
def nj (t:Str):List Str:=IW t " "
def bN (t:Str):Option (List Int):=if(nj t).all cN then(nj t).mapM N3 else none
theorem g_ {a b:Str}:∀ w∈IW a b,w.length<=a.length:=λw h=>part_short h
section
variable {K:GB}{g:TG}{tt:TT}{tk tv:TE}{σ0:L2.St}
theorem vn {a1 a2 D:G7}{b1 b2:Bool}{xs ys:List V}{Fin:Hp->Prop}{H1:Hp} (Pv:Nat->Hp->Prop) (h0:Pv 0 H1) (hle:xs.length=ys.length) (hsrc:∀ i H,Pv i H->cq K H a1 xs b1/\cq K H a2 ys b2)
  (he:∀ i x y T H,xs[i]?=some x->ys[i]?=some y->Pv i H->H T=none->∀ R:Hp->Prop,(∀ H',Pv (i+1) H'->R H')->∀ S:Hp->Prop,g (.ref T) σ0 (upd H T (.tup [x,y])) λσ' H4=>tt σ' H4 λc H5=>if c=true then tk σ' H5 λk H6=>tv σ' H6 λv H7=>∃ kvs ks b,H7 D=some (.dT kvs)/\k=.ref b/\H7 b=some (.tup (ks.map kV))/\kvs.length<GZ/\R (upd H7 D (.dT (fk kvs ks v))) else S H5)
  (hd:∀ H,Pv xs.length H->Fin H):sJ (E7 K b1 b2 a1 a2) g tt tk tv D σ0 Fin H1:=by
 refine⟨λi m H=>m=xs.length-i/\i<=xs.length/\Pv i H,⟨xs.length,by lia,Iz _,h0⟩,?_⟩;rintro i m H ⟨rfl,hi,pv⟩;obtain⟨q1,q2⟩:=hsrc i H pv
 by_cases hlt:i<xs.length
 ·have hlt2:i<ys.length:=by lia
  refine .inr ⟨⟨xs,ys,xs[i],ys[i],q1,q2,by simp[hlt],by simp[hlt2]⟩,λv H3 y3=>?_⟩;obtain⟨x,y,T,k1,k2,kT,rfl,rfl⟩:=y3;exact he i x y T H (k1 xs q1) (k2 ys q2) pv kT (λH'=>∃ m',m'<xs.length-i/\(m'=xs.length-(i+1)/\i+1<=xs.length/\Pv (i+1) H')) (λH' p'=>⟨xs.length-(i+1),by lia,rfl,hlt,p'⟩) λH5=>∃ m',m'<xs.length-i/\(m'=xs.length-(i+1)/\i+1<=xs.length/\Pv (i+1) H5)
 ·have e:i=xs.length:=by lia
  subst e;exact .inl ⟨⟨xs,ys,q1,q2,.inl (GM _)⟩,hd H pv⟩
end
theorem mx {α β:Type}{f:α->Option β}:∀ {l:List α}{r:List β},l.mapM f=some r->r.length=l.length/\∀ (i:Nat) (x:α) (y:β),l[i]?=some x->r[i]?=some y->f x=some y
 |[],r,h=>by
  simp at h;subst h;exact⟨rfl,λi x y h=>by simp at h⟩
 |a::l,r,h=>by
  simp only[MV] at h;cases ha:f a with
  |none=>rw[ha] at h;simp at h
  |some b=>
   cases hl:l.mapM f with
   |none=>rw[ha,hl] at h;simp at h
   |some bs=>
    rw[ha,hl] at h;simp at h;subst h;obtain⟨h1,h2⟩:=mx hl;refine⟨by simp[h1],λi x y hx hy=>?_⟩;cases i with
    |zero=>simp at hx hy;subst hx hy;exact ha
    |succ i=>exact h2 i x y (by simpa using hx) (by simpa using hy)
section
variable {K:GB}{g:TG}{tt:TT}{te:TE}{σ0:L2.St}{Fin:List V->Hp->Prop}{H1:Hp}
theorem yI {x:Str}{f:Nat->V} (hl:x.length <= 1000)
  (he:∀ (c:Nat) (H:Hp),c∈x.cps.toList->ah H1 H->∀ (Y:VK) (S:Hp->Prop),(∀ H',ah H H'->Y (f c) H')->g (.str ⟨#[c]⟩) σ0 H λσ' H4=>tt σ' H4 λb H5=>if b=true then te σ' H5 Y else S H5)
  (hd:∀ H,ah H1 H->Fin (x.cps.toList.map f) H):dO (E4 x) g tt te σ0 Fin H1:=by
 have hz:x.cps.size=x.cps.toList.length:=by simp
 have hl':x.cps.size<=1000:=hl;refine⟨λi m ys H=>m=x.cps.size-i/\i<=x.cps.size/\ah H1 H/\ys=(x.cps.toList.take i).map f,⟨_,rfl,Iz _,ah.refl _,rfl⟩,?_⟩;rintro i m ys H ⟨rfl,hi,s,rfl⟩
 by_cases hlt:i<x.cps.size
 ·refine .inr ⟨hlt,bL (by rw[GG,Ib];lia),λv H3 y3=>?_⟩;obtain⟨rfl,c,hc,rfl⟩:=y3;have hc':x.cps.toList[i]?=some c:=by rw[I_];exact hc
  refine he c _ (GS hc') s _ _ λH' s'=>⟨x.cps.size-(i+1),by lia,rfl,hlt,s.trans s',?_⟩
  rw[List.take_add_one,hc',JL];rfl
 ·have e:i=x.cps.size:=by lia
  subst e;refine .inl ⟨GM _,cP (by rw[GG,Ib];lia),?_⟩;rw[IE (by lia)];exact hd H s
end
theorem nh {prog:Hv}{w:IN}{A:IR}{R:Ql->GJ->Prop}{elt target iter:JG}{ifs:List JG}{scope:LF}{pos:Pos}{it acc:GH}{env:Env}{s:GJ} (I:Nat->GJ->Prop)
  (eS:∀ n s,I n s->GW (Hl prog w) A (LG it) (λr s₁=>match r with
   |none=>R (.ok .next) s₁
   | some v=>GW (Hl prog w) A (Kw target it v) (fun _ s₁'=>GW (Hl prog w) A (assign target env v) (fun _ s₂=>
     GW (Hl prog w) A (forIn ifs true λc r=>if r=true then do let ok <- Rk c env (KH c env);pure (JJ ok) else pure (JJ r)) (λok s₃=>
      if ok=true then GW (Hl prog w) A (KH elt env) (λy s₄=>GW (Hl prog w) A (call (.builtin "list.append") [acc,y]) (λ_ s₅=>∃ m,m<n/\I m s₅) (λ_ _=>False) s₄) (notedBy (Hl prog w) A env λe s'=>R (.error e) s') s₃
      else ∃ m,m<n/\I m s₃) (λ_ _=>False) s₂) (λ_ _=>False) s₁') (λ_ _=>False) s₁) (λ_ _=>False) s)
  (n:Nat)(h:I n s):Ky (Hl prog w) A (.compLoop (.ListComp elt [⟨target,iter,ifs,0⟩] scope pos) 0 it acc env) R s:=by
 refine codeAny_loop rfl I (λn s hI=>?_) n h;show GW _ A ((Ra (.ListComp elt [⟨target,iter,ifs,0⟩] scope pos) 0 it acc env).onRaise (λx=>do M5 x env;Pq x)) _ _ s;refine wpAny_noted ?_;rw[kc (d:=0) rfl];refine Gz (Jr (Gz (Hm (eS n s hI) (λr s₁ h₁=>?_) λ_ _ z=>z.elim)));cases r with
 |none=>exact GD h₁
 |some v=>
  refine Gz (Hm h₁ (λ_ s₁' h₁'=>?_) λ_ _ z=>z.elim);refine Gz (Hm h₁' (λ_ s₂ h₂=>Gz (Hm h₂ (λok s₃ h₃=>?_) λ_ _ z=>z.elim)) λ_ _ z=>z.elim);cases ok with
  |false=>exact GD ⟨rfl,h₃⟩
  |true=>
   unfold iL;exact Gz (Gz (Hm h₃ (λy s₄ h₄=>Gz (Hm h₄ (λ_ s₅ h₅=>GD (GD ⟨rfl,h₅⟩)) λ_ _ z=>z.elim)) λ_ _ z=>z))
section
variable {X:Cx}{pins:List (G7×Obj)}{σ:L2.St}{H H2:Hp}{s s2:GJ}
theorem qp {N:List Str}{scope:LF}{elt tg iter:JG}{ifs:List JG}{pos:Pos}{it:G7}{fp:List G7}{tn:Nat->JI->Prop}{J:It}{g:TG}{tt:TT}{te:TE}{σ0:L2.St}{Fin:List V->Hp->Prop}
  {E:GH->GJ->Prop}{RR:GH->G7->Ql->GJ->Prop}{Wh:G7->Hp->Prop}{outs:List Env}{L0:G7}(hst:X.stack=X.env::outs)(hfr0:X.env.frame=some L0)(hex:X.ex=[])(hc:X.calm=true)(I:aw X pins σ H2 s2)(S:jN X scope)
  (hcap:fQ X scope N σ σ0)(hlen:σ0.length=N.length)(f2:∀ b∈fp,eN X pins H2 b)(T:kW X.prog X.w X.K tg J fp it tn)(st2:tn 0 s2.heap)
  (hg:∀ C,PG (aA X N scope (ar X scope C) C s2 H2 fp pins) tg g)(ht:∀ C,Dt (aA X N scope (ar X scope C) C s2 H2 fp pins) ifs tt)(he:∀ C,PE (kP X N scope C s2 H2 fp pins Wh) elt te)(hw:dO J g tt te σ0 Fin H2)
  (hRR:∀ (D C:G7) (s':GJ) (H':Hp) (ys:List V),aw X pins σ (upd H' D (.lst ys)) s'->H' D=none->Fin ys H'->(∃ m,s'.heap.Ns C m)->H' C=none->D≠C->s2.heap.objs.size<=C->RR (.ref D) C (.ok .next) s')
  (hRE:∀ (acc:GH) (C:G7) (s':GJ) (H':Hp) (e Cl T:G7),aw X pins σ H' s'->kO s'.heap e Cl T->eA X pins H' e->eA X pins H' T->Wh Cl H'->(∃ m,s'.heap.Ns C m)->H' C=none->e≠C->T≠C->s2.heap.objs.size<=C->RR acc C (.error (.ref e)) s'):
  GW (Hl X.prog X.w) X.A (P8 []) (λacc s₃=>GW (Hl X.prog X.w) X.A (LX scope X.env.globals (uV X.env.cells scope.names []) [] X.env.qual none .none (some X.env)) (λcenv s₄=>
   Ky (Hl X.prog X.w) X.A (.compStart (.ListComp elt [⟨tg,iter,ifs,0⟩] scope pos) 0 (.ref it) acc { cenv with scope:=relabel scope X.env }) (RR acc cenv.locals) s₄) E s₃) E s2:=by
 obtain⟨W,⟨m0,w0⟩,eS⟩:=hw;refine Ig (mI λh1 hns1 own1 kk1=>?_);dsimp only at hns1 own1 kk1 ⊢;generalize hG:s2.heap.push { cls:=.type "list",dict:=none,data:=.seq ([]:List GH).toArray }=G at hns1 own1 kk1 ⊢;have hC:G.objs.size=s2.heap.objs.size+1:=by rw[<- hG,II]
 have hDC:s2.heap.objs.size≠G.objs.size:=by rw[hC];exact Hk (JS _)
 have below:∀ b,b<s2.heap.objs.size->b≠G.objs.size:=λb hb=>by rw[hC];exact Hk (KZ hb)
 have old:∀ b o,s2.heap.get? b=some o->h1.get? b=some o:=λb o e=>kk1 b o (hG▸GC _ e)
 have hacc:h1.get? s2.heap.objs.size=some { cls:=.type "list",data:=.seq ([]:List GH).toArray 0 }:=kk1 _ _ (hG▸GL _ rfl);have cellLt:∀ x c,X.env.cells.lookup x=some c->c<s2.heap.objs.size:=λx c e=>by
  obtain⟨v,q⟩:=I.cell x c e;exact q.lt
 have big:∀ c:G7,G.objs.size+1<=c->s2.heap.objs.size+2<=c:=λc h=>by rw[hC] at h;exact h
 have fo:∀ b∈fp,∃ o,s2.heap.get? b=some o:=λb hb=>let ⟨o,e,_⟩:=T.obj 0 _ st2 b hb;⟨o,e⟩
 have fpLt:∀ b∈fp,b<s2.heap.objs.size:=λb hb=>let ⟨o,e⟩:=fo b hb;GI e
 have st1:tn 0 h1:=T.keep 0 _ _ st2 λb _ o e=>old b o e
 have hCle:s2.heap.objs.size<=G.objs.size:=by rw[hC];exact Ow _
 have I0:∀ tk,aw (aA X N scope (ar X scope G.objs.size) G.objs.size s2 H2 fp pins) [(s2.heap.objs.size,{ cls:=.type "list",data:=.seq ([]:List GH).toArray 0 })] σ0 H2 { s2 with heap:=h1,toks:=tk }:=λtk=>
  qD I S hcap hlen f2 fo hCle (GM _) hDC old hns1 hacc (λv z=>nomatch z) λx c e l=>(own1 x c e).resolve_left λz=>by
   rcases cX S.free z with z|⟨_,z⟩
   ·cases z
   ·exact absurd (cellLt x c z) (H_.mpr (GV (JR _ 2) (big c l)))
 have fpOk:∀ {H':Hp}{o:Obj},(∀ b∈fp,H' b=none)->∀ b∈fp,eN (aA X N scope (ar X scope G.objs.size) G.objs.size s2 H2 fp pins) [(s2.heap.objs.size,o)] H' b:=λ{H' o} hn b hb=>by
  obtain⟨_,g1,g2,g3,g4,g5⟩:=f2 b hb;refine⟨hn b hb,below b (fpLt b hb),fq I g1 g2,.inl hb,λx c e=>?_,λp hp=>?_⟩;rcases bF S e with ⟨e,_⟩|⟨l,_⟩
  ·exact g4 x c e
  ·exact λz=>absurd (fpLt b hb) (H_.mpr (z▸GV (JR _ 2) (big c l)))
  rcases Hy.mp hp with hp|hp
  ·exact g5 p hp
  ·cases G5.mp hp;exact λz=>absurd (z▸fpLt b hb) (Ii _)
 have loop:∀ s3:GJ,s3.heap=h1->s3.gens=s2.gens->s3.os=s2.os->aw (aA X N scope (ar X scope G.objs.size) G.objs.size s2 H2 fp pins) [(s2.heap.objs.size,{ cls:=.type "list",data:=.seq ([]:List GH).toArray 0 })] σ0 H2 s3 ->
   Ky (Hl X.prog X.w) X.A (.compLoop (.ListComp elt [⟨tg,iter,ifs,0⟩] scope pos) 0 (.ref it) (.ref s2.heap.objs.size) (Lu scope (ar X scope G.objs.size) G.objs.size X.env)) (RR (.ref s2.heap.objs.size) G.objs.size) s3:=by
  intro s3 e3 _ _ I3;refine nh (λk s'=>∃ i ys its n H',aw (aA X N scope (ar X scope G.objs.size) G.objs.size s2 H2 fp pins) [(s2.heap.objs.size,{ cls:=.type "list",data:=.seq (its:List GH).toArray n })] σ0 H' s'/\tn i s'.heap/\(∀ b∈fp,H' b=none)/\aI ys its/\W i k ys H') ?_ m0
   ⟨0,[],[],0,H2,I3,by rw[e3];exact st1,λb hb=>(f2 b hb).1,.nil,w0⟩
  rintro k s' ⟨i,ys,its,n,H',I',tn',fr',rv,w'⟩;rcases eS i k ys H' w' with ⟨stop,hz,fin⟩|⟨go,hz,step⟩
  ·refine Hm (T.done (aA X N scope (ar X scope G.objs.size) G.objs.size s2 H2 fp pins) rfl rfl rfl hc i _ s' σ0 H' (λ_ _=>False) I' (fpOk fr') tn' stop) (λr s1 hr=>?_) λ_ _ z=>z
   obtain⟨rfl,I1⟩:=hr;obtain⟨m,hn,_⟩:=id I1.loc;exact hRR _ _ s1 H' ys (qf I f2 (GM _) I1 rv hz) (I1.pin _ (GO _ GX)).2.1 fin ⟨m,hn⟩ I1.free hDC hCle
  ·refine Hm (T.item (aA X N scope (ar X scope G.objs.size) G.objs.size s2 H2 fp pins) rfl rfl rfl hc i _ s' σ0 H' (λ_ _=>False) I' (fpOk fr') tn' go) (λr s4 hr=>?_) λ_ _ z=>z
   obtain⟨u,rfl,h4⟩:=hr;refine Hm h4 (λ_ s5 h5=>?_) λ_ _ z=>z
   obtain⟨x,H5,I5,r5,y5,tn5,fr5⟩:=h5;have I5':=I5.pinned (fpOk fr5) (T.obj _ _ tn5);refine bf (hg G.objs.size _ s5 σ0 H5 x u _ I5' r5 (step x H5 y5)) λ_ s6 h6=>?_
   obtain⟨σ6,H6,I6,q6⟩:=h6;refine bf (ht G.objs.size _ s6 σ6 H6 _ I6 q6) λok s7 h7=>?_
   obtain ⟨H7,I7,q7⟩:=h7;have weak:∀ {s8:GJ}{σ8:L2.St}{H8:Hp}{its':List GH}{n':Nat},aw (aA X N scope (ar X scope G.objs.size) G.objs.size s2 H2 fp pins) ([(s2.heap.objs.size,{ cls:=.type "list",data:=.seq its'.toArray n' })] ++ bV fp s5.heap) σ8 H8 s8 ->
     aw (aA X N scope (ar X scope G.objs.size) G.objs.size s2 H2 fp pins) [(s2.heap.objs.size,{ cls:=.type "list",data:=.seq its'.toArray n' })] σ0 H8 s8/\tn (i+1) s8.heap/\∀ b∈fp,H8 b=none:=λ{s8 σ8 H8 its' n'} I8=>by
    have st8:tn (i+1) s8.heap:=T.keep _ _ _ tn5 λb hb o e=>(I8.pin (b,o) (GO _ (GO _ (bH hb e)))).1
    have fr8:∀ b∈fp,H8 b=none:=λb hb=>by
     obtain⟨o,e,d⟩:=T.obj _ _ tn5 b hb;exact(I8.pin (b,o) (GO _ (GO _ (bH hb e)))).2.1
    refine⟨?_,st8,fr8⟩;obtain⟨m8,hn8,_⟩:=id I8.loc;have J:=I8.unpinned;exact⟨J.ok,J.os,J.bare,J.base,⟨m8,hn8,λj y v e1 e2 _=>by
     obtain⟨m00,_,hm00⟩:=(I0 0).loc;obtain⟨u',r',l'⟩:=hm00 j y v e1 e2 (by
      obtain⟨_,_,_,_,_,z⟩:=hcap j y v e1 e2;exact .inr z)
     obtain⟨j',j1,j2,j3,jf,j4⟩:=hcap j y v e1 e2;rcases l' with ⟨k',_⟩|⟨k',c,ec,z⟩
     ·exfalso;have k'':(Lu scope [] 0 X.env).kindOf y=some .local:=k';rcases j4 with q|q<;>(rw[q] at k'';cases k'')
     ·have eo:X.env.cells.lookup y=some c:=by
       rcases bF S ec with ⟨e,_⟩|⟨_,k2⟩
       ·exact e
       ·rw[jf] at k2;cases k2
      refine⟨u',r',.inr ⟨k',c,ec,?_⟩⟩;obtain⟨oc,hoc,hd⟩:=z;have hlt:c<s2.heap.objs.size:=by
       obtain⟨v',q⟩:=I.cell y c eo;exact q.lt
      have hoc2:s2.heap.get? c=some oc:=by
       obtain⟨v',o',q',d'⟩:=I.cell y c eo;have e':=old c o' q';have hoc':h1.get? c=some oc:=hoc;rw[e'] at hoc';cases hoc';exact q'
      have nfp:c∉fp:=λz=>(f2 c z).2.2.2.2.1 y c eo rfl
      by_cases hfs:c∈dX X.stack
      ·obtain⟨sl,q⟩:=J.base.slot c oc hoc2 (I.freeC y c eo) hfs nfp;exact⟨_,q,hd⟩
      ·exact⟨oc,J.base.keep c oc hoc2 (I.freeC y c eo) hfs nfp,hd⟩⟩,J.cell,J.free,J.freeC,J.pin,J.hok,hlen⟩
   cases ok with
   |false=>
    obtain⟨m',hm,w8⟩:=q7;obtain⟨I8,st8,fr8⟩:=weak I7;exact⟨m',hm,i+1,ys,its,n,H7,I8,st8,fr8,rv,w8⟩
   |true=>
    have D7:E5 (aA X N scope (ar X scope G.objs.size) G.objs.size s2 H2 fp pins) (bV fp s5.heap) s2.heap.objs.size:=by
     refine⟨hDC,.inr (GM _),λx c e z=>?_,λp hp z=>?_⟩
     ·rcases bF S e with ⟨e,_⟩|⟨l,_⟩
      ·exact absurd (z▸cellLt x c e) (Ii _)
      ·exact absurd (GV (JR _ 1) (big c l)) (by rw[z];exact PJ _)
     ·rcases Hy.mp hp with hp|hp
      ·exact absurd (z▸GI (I.pin p hp).1) (Ii _)
      ·exact absurd (z▸fpLt _ (gT hp).1) (Ii _)
    refine Hm (he G.objs.size _ s7 σ6 H7 _ (aw.ctx (A':=X.A) (c':=X.calm) (pn':=X.pn++pins) (xe':=E6 X N scope G.objs.size s2 H2 fp pins Wh) I7 rfl (λz=>I7.ok.hd z) λp hp=>hp) q7) (λy s8 h8=>?_) λv s9 hx=>Ec (RR:=RR (.ref s2.heap.objs.size)) hst hfr0 hex I f2 hCle fpLt (hRE _) hx
    obtain⟨yv,H8,I8,r8,m',hm,w8⟩:=h8;replace I8:aw (aA X N scope (ar X scope G.objs.size) G.objs.size s2 H2 fp pins) ((s2.heap.objs.size,sB its n)::bV fp s5.heap) σ6 H8 s8:=aw.ctx (A':=X.A) (c':=X.calm) (pn':=X.pn++pins) (xe':=λ_ _=>False) I8 rfl (λz=>I8.ok.hd z) λp hp=>hp
    have pD:=I8.pin (s2.heap.objs.size,sB its n) (GO _ GX);have hsz:its.toArray.size<=GZ:=by
     have:=rv.length;rw[Hi,<- this];exact Kc hz
    refine append_at (hsz:=hsz) pD.1 λh9 hs9 hD9=>?_
    have J8:aw (aA X N scope (ar X scope G.objs.size) G.objs.size s2 H2 fp pins) (bV fp s5.heap) σ6 H8 s8:=I8.pins_of λp hp=>I8.pin p (GO _ (GK _ hp))
    have J9:aw (aA X N scope (ar X scope G.objs.size) G.objs.size s2 H2 fp pins) (bV fp s5.heap) σ6 H8 { s8 with heap:=h9 }:=J8.turned (it:=s2.heap.objs.size) (t':=s8.toks) (λb o hb e=>hs9.extBut b o hb e) pD.2.1 D7.1 D7.2.1 D7.2.2.1 D7.2.2.2;have J10:aw (aA X N scope (ar X scope G.objs.size) G.objs.size s2 H2 fp pins) ([(s2.heap.objs.size,{ cls:=.type "list",data:=.seq (its++[y]).toArray (n+1) })]++bV fp s5.heap) σ6 H8 { s8 with heap:=h9 }:=J9.pins_of λp hp=>by
     rcases GR.mp hp with rfl|hp
     ·have e9:({ cls:=.type "list",data:=.seq (its.toArray.push y) (n+1) }:Obj)=sB (its++[y]) (n+1):=by unfold sB;rw[QB]
      refine⟨?_,pD.2.1,pD.2.2.1,pD.2.2.2.1,λv z=>nomatch z⟩;show h9.get? _=some (sB (its++[y]) (n+1));rw[<- e9];exact hD9
     ·exact J9.pin p (GO _ hp)
    obtain⟨L1,L2',L3⟩:=weak J10;exact⟨m',hm,i+1,ys++[yv],its++[y],n+1,H8,L1,L2',L3,rv.append (.cons r8 .nil),w8⟩
 exact OU (loop _ rfl rfl rfl (I0 _)) (T.self _ 0 _ _ _ st1 (loop _ rfl rfl rfl (I0 _)))
end
section
variable {X:Cx}{pos:Pos}
theorem p_ {i:Nat}{y:Str}{py spos:Pos}{N:List Str}{scope:LF}{elt tg iter:JG}{ifs:List JG}{wi:TI}{g:TG}{tt:TT}{te:TE}{mk:L2.St->L2.St}{Wh:G7->Hp->Prop}{outs:List Env}{L0:G7} (hst:X.stack=X.env :: outs) (hfr0:X.env.frame=some L0) (hex:X.ex=[]) (hTA:AK X fun _ Cl H=>Wh Cl H) (hc:X.calm=true) (hN:X.N.Nodup) (hi':X.N[i]?=some y) (hy:X.env.scope.names.lookup y=some .local)
  (hi:WI X tg iter wi)(S:jN X scope)(hcap:∀ σ,σ.length=X.N.length->fQ X scope N σ (mk σ)/\(mk σ).length=N.length)
  (hg:∀ C s0 H0 fp pn,WG (aA X N scope (ar X scope C) C s0 H0 fp pn) tg g)(ht:∀ C s0 H0 fp pn,zI (aA X N scope (ar X scope C) C s0 H0 fp pn) ifs tt)(he:∀ C s0 H0 fp pn,WE (kP X N scope C s0 H0 fp pn Wh) elt te)
  (hsw:NF (.ListComp elt [⟨tg,iter,ifs,0⟩] scope pos) (some (.Name y py)) spos.line X.env=pure true:=by rfl)
  (hs:∀ x,Jc iter X.env x=pure x:=by intro _;rfl):WS X (.Assign [.Name y py] (.ListComp elt [⟨tg,iter,ifs,0⟩] scope pos) spos) (tm i wi g tt te mk):=by
 have hi:=hi.go;have hg:=λC s0 H0 fp pn=>(hg C s0 H0 fp pn).go
 have ht:=λC s0 H0 fp pn=>(ht C s0 H0 fp pn).go
 have he:=λC s0 H0 fp pn=>(he C s0 H0 fp pn).go
 refine⟨?_⟩;intro pins s σ H E I h;rw[exec_Assign_Name_used _ _ _ _ hsw];refine Gz (Jr (Gz ?_));show GW _ X.A (do let _ <- comprehension (.ListComp elt [⟨tg,iter,ifs,0⟩] scope pos) scope X.env _ (P8 []) false (KH iter X.env) (some (assign (.Name y py) X.env))) _ _ s;refine Gz (Hm (Kl (use:=some (assign (.Name y py) X.env)) (Q:=λ_ s'=>SP X pins E .next s') rfl hs (l9 S.free) S.kind (λy hy e=>by rw[S.once y hy,e]) ?_) (λ_ s' hq=>GD (GD hq)) λ_ _ e=>e);refine bf (hi pins s σ H _ I h) λv s1 h1=>bf h1 λitv s2 h2=>?_
 obtain⟨it,fp,tn,J,H2,rfl,I2,T,st2,f2,hw⟩:=h2;have hcp:=hcap σ I2.len;refine qp hst hfr0 hex hc I2 S hcp.1 hcp.2 f2 T st2 (λC=>hg C _ _ _ _) (λC=>ht C _ _ _ _) (λC=>he C _ _ _ _) hw ?_ ?_
 rotate_left
 ·intro acc C s' H' e Cl T I' x oe oT q hm hC heC hTC hle;obtain⟨m,hn⟩:=hm;refine⟨m,hn,λh' hs' cenv _=>?_⟩;have I4:aw X pins σ H' { s' with heap:=h' }:=I'.turned (it:=C) (t':=s'.toks) (λb o hb e=>hs'.extBut b o hb e) hC (λz=>absurd (z▸I2.lt) (H_.mpr hle)) (.inr (GV I2.sz hle))
   (λx c e z=>by
    obtain⟨v',q⟩:=I2.cell x c e;exact absurd (z▸q.lt) (H_.mpr hle))
   (λp hp z=>absurd (z▸GI (I2.pin p hp).1) (H_.mpr hle))
  have x4:kO h' e Cl T:=by
   obtain⟨o1,vs,o2,ts,v,a1,a2,a3,a4,a5,a6,a7,a8⟩:=x;exact⟨o1,vs,o2,ts,v,hs'.extBut _ _ heC a1,a2,a3,a4,a5,hs'.extBut _ _ hTC a6,a7,a8⟩
  exact BB hTA I4 x4 oe oT q
 intro D C s' H' ys I' hD fin hm hC hDC hle;obtain⟨m,hn⟩:=hm;have neC:X.env.locals≠C:=λz=>absurd (z▸I2.lt) (H_.mpr hle)
 have upC:(upd H' D (.lst ys)) C=none:=by rw[ap (Jj hDC)];exact hC
 show GW _ X.A (assign (.Name y py) X.env (.ref D)) _ _ s';refine Oo (j7 I' hN hi' (.inl hy) (v:=.ref D) (u:=.ref D) rfl (λs3 I3 ⟨a,sb,ha⟩=>?_) (.inr hy));have aC:C≠a:=by
  rcases ha with e|e
  ·rw[e];exact Jj neC
  ·intro z;obtain⟨v',q⟩:=I2.cell y a e;exact absurd (z▸q.lt) (H_.mpr hle)
 refine⟨m,hn.sameBut sb aC,λh' hs'=>⟨_,_,?_,fin D hD⟩⟩;exact I3.turned (it:=C) (t':=s3.toks) (λb o hb e=>hs'.extBut b o hb e) upC (Jj neC) (.inr (GV I2.sz hle))
  (λx c e z=>by
   obtain⟨v',q⟩:=I2.cell x c e;exact absurd (z▸q.lt) (H_.mpr hle))
  (λp hp z=>absurd (z▸GI (I2.pin p hp).1) (H_.mpr hle))
end
theorem sI {X:Cx}:Bm X (λ_ _ _=>False):=λ_ _ _ _ _ _ _ _ _ _ _ q=>q.elim
def Cd (K:GB)(x:Str):Bool:=(f7 K x).any λC=>Hw K (.ref C) "__ne__"==some (some (.builtin "object.__ne__"))&&Hw K (.ref C) "__eq__"==some (some (.builtin "object.__eq__"))&&ID K (.type "str") (.ref C)==some false&&ID K (.ref C) (.type "object")==some true
section
variable {prog:Hv}{w:IN}{A:IR}{E:GH->GJ->Prop}{s:GJ}{K:GB}{x C:G7}{ox:Obj}{od:Option Obj}
theorem mq {M:Model}{name:Str}{id:String}{args:List GH}{Q:Option GH->GJ->Prop} (X:K.In s.heap) (I:MX s.heap x ox C od) (hs:Hw K (.ref C) name=some (some (.builtin id))) (hb:bindSpecial (.builtin id) (.ref x)=pure (.builtin id,[.ref x]))
  (h:GW M A (call (.builtin id) (.ref x::args)) (λv=>Q (some v)) E s):GW M A (callSpecialIfBound? (.ref x) name args) Q E s:=by
 simp only[callSpecialIfBound?,bindSpecialIfBound?];refine Ij (Gz (Gz (Gz (I.type.here ((KP X hs).here ?_)))));refine Gz (Lj (wpAny_ite ?_));have fin:GW M A (call (.builtin id) ([.ref x]++args)>>=λv=>pure (some v)) Q E s:=Gz (Hm h (λv s' h'=>GD h') λ_ _ h'=>h')
 split
 ·exact Gz (L_ hb (GD (by exact fin)))
 ·exact wpAny_tryCatch (Gz (L_ hb (GD (by exact fin))))
theorem vW {M:Model}{j:Str}{t:Tok}{Q:Fin->GJ->Prop}(hq:Q (.done (.ret .notImplemented)) s):GW M A (Kp.«object.__eq__» ⟨[.ref x,.str j t],[]⟩) Q E s:=by
 unfold Kp.«object.__eq__»;refine Gz (GD ?_);refine Gz (m:=isSame (.ref x) (.str j t)) (GD ?_);exact GD hq
theorem instObj {M:Model}(X:K.In s.heap)(I:MX s.heap x ox C od)(ho:ID K (.ref C) (.type "object")=some true):JM M s.heap (Nl (.ref x) (.type "object")) true:=I.type.andThen (P5 X ho)
theorem vF {j:Str}{t:Tok}{Q:Option GH->GJ->Prop} (X:K.In s.heap) (I:MX s.heap x ox C od) (hn:Hw K (.ref C) "__ne__"=some (some (.builtin "object.__ne__"))) (he:Hw K (.ref C) "__eq__"=some (some (.builtin "object.__eq__")))
  (ho:ID K (.ref C) (.type "object")=some true)(hu:A.units+1<cLine)(hq:Q none s):GW (Hl prog w) A (tryCompare (.ref x) "__ne__" (.str j t)) Q E s:=by
 unfold tryCompare;refine Gz (mq X I hn (Mr.ne.bind _) ?_);refine Mf (KQ Mr.ne.plain PySem.F.cmpEntry_ne ?_);refine @NO (Hl prog w) A.in1 _ s "object.__ne__" "object" "__ne__" (.ref x) [.str j t] [] _ PySem.F.cmpKind_ne PySem.F.cmpSplit_ne (instObj X I ho) (PySem.F.cmpArgs_ne _ _) ?_;unfold Kp.«object.__ne__»;refine Gz (GD ?_);refine Gz (wpAny_cRoomFor (A:=A.in1) hu ?_);refine Gz (mq X I he (Mr.eq.bind _) ?_);refine Mf (KQ Mr.eq.plain PySem.F.cmpEntry_eq ?_);refine @NO (Hl prog w) A.in1.in1 _ s "object.__eq__" "object" "__eq__" (.ref x) [.str j t] [] _ PySem.F.cmpKind_eq PySem.F.cmpSplit_eq (instObj X I ho) (PySem.F.cmpArgs_eq _ _) ?_;refine vW ?_;exact GD (GD hq)
theorem wq {dx:G7}(j:Str)(t:Tok):Meets (Kp.«str.__ne__» ⟨[.str j t,.ref x],[]⟩) (λ_ R s=>s.heap.get? x=some (Jw C dx)/\R (.ok (.ret .notImplemented)) s):=
 .of_wp λprog w A R s h=>by
  obtain⟨hp,g,d,tk,os⟩:=s;obtain⟨hl,h⟩:=h;unfold Jw at hl
  wp_walk using AutoSeq1.wpAny_loadPart' hl,Px hl
  exact⟨_,rfl,h⟩
theorem vM {dx:G7}{j:Str}{t:Tok}{Q:GH->GJ->Prop} (X:K.In s.heap) (I:MX s.heap x (Jw C dx) C od) (hn:Hw K (.ref C) "__ne__"=some (some (.builtin "object.__ne__"))) (he:Hw K (.ref C) "__eq__"=some (some (.builtin "object.__eq__")))
  (hs:ID K (.type "str") (.ref C)=some false)(ho:ID K (.ref C) (.type "object")=some true)(hu:A.units+1<cLine)(hq:Q (.bool true) s):GW (Hl prog w) A (Jo .NotEq (.ref x) (.str j t)) Q E s:=by
 show GW _ _ (richCompare .NotEq (.ref x) (.str j t)) _ _ _;unfold richCompare;simp only[oneThing_ref];refine Ij (Gz (wpAny_cRoomFor (Nat.lt_of_succ_lt hu) ?_));refine Gz (I.type.here (Gz (GD ?_)));rw[Ie (show(Ht C != Kj "str")=true from rfl)];refine Gz ((P5 X hs).here ?_);simp only[Iv,JU];refine Gz (vF X I hn he ho hu ?_);simp only[Bool.not_false,K5];refine Gz (wpAny_tryCompare_declines (Me s j t) Oh ?_);refine Md Oh (Me s j t) PySem.F.entry_str_ne (PySem.F.args_str_ne_2 _ _) (wq j t) ⟨I.at_,⟨rfl,?_⟩⟩;dsimp only;refine Gz (LN (Gz (m:=isSame (.ref x) (.str j t)) (GD (GD hq))))
end
def FG (K:GB)(x:Str):R2:=λv y H Q=>(∃ i j:Str,v=.str i/\y=.str j/\Q (.bl (!decide (i=j))) H)\/(∃ (a C dx:G7) (fs:List (Str×V)) (j:Str),v=.ref a/\bt K x C/\H a=some (.ins C dx fs)/\y=.str j/\Q (.bl true) H)
theorem CY {X:Cx}{K:GB}{x:Str}(hK:X.K=K)(hc:Cd K x=true)(hu:X.A.units+1<cLine):fU X (Jo .NotEq) (FG K x):=by
 subst hK;intro pins s σ H v y u u' Q I rx ry h;rcases h with h|⟨a,C,dx,fs,j,rfl,hC,ha,rfl,q⟩
 ·exact jR pins s σ H v y u u' Q I rx ry h
 ·obtain⟨t,rfl⟩:=ry;cases(show u=Ht a from rx);obtain⟨D,e,q'⟩:=bR hc;rw[cn hC] at e;cases e;simp only[G6,Jh] at q';obtain⟨⟨⟨q1,q2⟩,q3⟩,q4⟩:=q';obtain⟨mA,O,_⟩:=jh I.hok ha;obtain⟨od,J,_⟩:=O.look;exact vM I.kIn J q1 q2 q3 q4 hu ⟨.bl true,H,I,rfl,q⟩
def EQ (X:Cx)(es:List JG)(t:TA):Prop:=
 ∀ (pos:Pos) (pins:List (G7×Obj)) (s:GJ) (σ:L2.St) (H:Hp) (Q:List V->Hp->Prop),1<=s.toks->aw X pins σ H s->t σ H Q->GW (Hl X.prog X.w) X.A (spliced (Lh pos (G9 es X.env))) (AP X pins σ Q) X.xe s
section
variable {X:Cx}{e o:JG}{es:List JG}{te to:TE}{t:TA}{a b c:Str}{j0 j1 j2:Nat}{p0 p1 p2 bpos apos cpos:Pos}
theorem rV (ha:PE X e te)(hr:EQ X es t)(hs:G9 (e::es) X.env=(false,KH e X.env)::G9 es X.env):EQ X (e::es) (eZ te t):=by
 intro pos pins s σ H Q h1 I h;rw[hs];show GW _ _ (spliced ((false,KH e X.env)::Lh pos (G9 es X.env))) _ _ s;refine Kg (Pr h1 (Hm (ha pins s σ H _ I h) (λu s1 ⟨x,H1,I1,r1,q1⟩ hn=>?_) λ_ _ z _=>z));exact bf (hr pos pins s1 σ H1 _ hn I1 q1) λus s2 ⟨xs,H2,I2,r2,q2⟩=>⟨x::xs,H2,I2,.cons r1 r2,q2⟩
theorem xA (ho:PE X o to) (hr:PA X es t) (hs:G9 (.Call (.Attribute o "replace" apos) [.Constant (.str a) j1 p1,.Constant (.str b) j2 p2] [] cpos :: es) X.env=(false,KH (.Call (.Attribute o "replace" apos) [.Constant (.str a) j1 p1,.Constant (.str b) j2 p2] [] cpos) X.env) :: G9 es X.env)
  (hbase:Mx o "replace" X.env (KH o X.env)=KH o X.env)
  (hfew:((Lh cpos (G9 [.Constant (.str a) j1 p1,.Constant (.str b) j2 p2] X.env)).all (λx=>!x.1)&&(backToKw cpos (P7 [] X.env)).all (λx=>x.1.isSome)
   &&decide ([Expr.Constant (.str a) j1 p1,.Constant (.str b) j2 p2].length+([]:List Np).length+(if([]:List Np).isEmpty then 0 else 1)<30))=true)
  (hline:(apos.endLine==cpos.line)=true)(hs2:Lh cpos (G9 [.Constant (.str a) j1 p1,.Constant (.str b) j2 p2] X.env)=[(false,KH (.Constant (.str a) j1 p1) X.env),(false,KH (.Constant (.str b) j2 p2) X.env)]):
  EQ X (.Call (.Attribute o "replace" apos) [.Constant (.str a) j1 p1,.Constant (.str b) j2 p2] [] cpos::es) (eZ (Br to a b) t):=by
 intro pos pins s σ H Q h1 I h;rw[hs];show GW _ _ (spliced ((false,KH (.Call (.Attribute o "replace" apos) [.Constant (.str a) j1 p1,.Constant (.str b) j2 p2] [] cpos) X.env)::Lh pos (G9 es X.env))) _ _ s;refine Kg ?_;refine OW hbase hfew hline hs2 ?_;refine Pr h1 ?_;refine Hm (ho pins s σ H _ I h) (λv s1 ⟨x,H1,I1,r1,q1⟩ hn=>?_) λ_ _ z _=>z
 obtain⟨z,rfl,hz,hb,hab,q⟩:=q1;obtain⟨t,rfl⟩:=r1;refine⟨"str","str.replace",Iq,F.slot_str_replace,F.type_str_replace,Me _ _ _,λ_ e=>(nomatch e),?_⟩;refine MD rfl (Na ?_);refine Kg (Mh ?_);refine Kg (Mh ?_);refine N9 ?_;refine SC.replaceW (by show s1.toks≠0;lia) (by show s1.toks+1≠0;lia) (by show s1.toks≠s1.toks+1;lia) hab hz hb λt' k=>?_
 exact bf (hr pos pins _ σ H1 _ (I1.tok k) q) λus s2 ⟨xs,H2,I2,r2,q2⟩=>⟨.str (P6 z a b)::xs,H2,I2,.cons ⟨_,rfl⟩ r2,q2⟩
theorem vC (ho:PE X o to) (hr:EQ X es t) (hs:G9 (.BinOp o .Add (.Constant (.str c) j0 p0) bpos :: es) X.env=(false,KH (.BinOp o .Add (.Constant (.str c) j0 p0) bpos) X.env) :: G9 es X.env) :
  PA X (.BinOp o .Add (.Constant (.str c) j0 p0) bpos::es) (eZ (CQ (λx y H Q=>∃ i j,x=.str i/\y=.str j/\i.length+j.length<=GZ/\Q (.str (i++j)) H) to (tC (.str c))) t):=by
 intro pos pins s σ H Q I h;rw[hs];show GW _ _ (spliced ((false,KH (.BinOp o .Add (.Constant (.str c) j0 p0) bpos) X.env)::Lh pos (G9 es X.env))) _ _ s;refine Kg (wpAny_BinOp (bf (ho pins s σ H _ I h) λv s1 ⟨x,H1,I1,r1,q1⟩=>?_));refine Mh ?_;refine Pr (n:=1) (Nat.le_add_left 1 _) (Hm (bG pins _ σ H1 x (.str c) v _ (λy H2=>t σ H2 λxs H3=>Q (y::xs) H3) (I1.tok _) r1 ⟨_,rfl⟩ q1) (λu s2 ⟨y,H2,I2,r2,q2⟩ hn=>?_) λ_ _ z _=>z);exact bf (hr pos pins s2 σ H2 _ hn I2 q2) λus s3 ⟨xs,H3,I3,r3,q3⟩=>⟨y::xs,H3,I3,.cons r2 r3,q3⟩
end
section
variable {X:Cx}{e0 e3 e4 o oR:JG}{es:List JG}{t0 t3 t4 to tR:TE}{t:TA}{a b c:Str}{j0 j1 j2:Nat}{p0 p1 p2 bpos apos cpos:Pos}
theorem rN (h0:WE X e0 t0) (ho:WE X o to) (h3:WE X e3 t3) (h4:WE X e4 t4) (hR:WE X oR tR) (hr:WA X es t)
  (s0:G9 (e0::.BinOp o .Add (.Constant (.str c) j0 p0) bpos::e3::e4::.Call (.Attribute oR "replace" apos) [.Constant (.str a) j1 p1,.Constant (.str b) j2 p2] [] cpos::es) X.env=(false,KH e0 X.env)::G9 (.BinOp o .Add (.Constant (.str c) j0 p0) bpos::e3::e4::.Call (.Attribute oR "replace" apos) [.Constant (.str a) j1 p1,.Constant (.str b) j2 p2] [] cpos::es) X.env:=by rfl)
  (s1:G9 (.BinOp o .Add (.Constant (.str c) j0 p0) bpos::e3::e4::.Call (.Attribute oR "replace" apos) [.Constant (.str a) j1 p1,.Constant (.str b) j2 p2] [] cpos::es) X.env=(false,KH (.BinOp o .Add (.Constant (.str c) j0 p0) bpos) X.env)::G9 (e3::e4::.Call (.Attribute oR "replace" apos) [.Constant (.str a) j1 p1,.Constant (.str b) j2 p2] [] cpos::es) X.env:=by rfl)
  (s2:G9 (e3::e4::.Call (.Attribute oR "replace" apos) [.Constant (.str a) j1 p1,.Constant (.str b) j2 p2] [] cpos::es) X.env=(false,KH e3 X.env)::G9 (e4::.Call (.Attribute oR "replace" apos) [.Constant (.str a) j1 p1,.Constant (.str b) j2 p2] [] cpos::es) X.env:=by rfl)
  (s3:G9 (e4::.Call (.Attribute oR "replace" apos) [.Constant (.str a) j1 p1,.Constant (.str b) j2 p2] [] cpos::es) X.env=(false,KH e4 X.env)::G9 (.Call (.Attribute oR "replace" apos) [.Constant (.str a) j1 p1,.Constant (.str b) j2 p2] [] cpos::es) X.env:=by rfl)
  (s4:G9 (.Call (.Attribute oR "replace" apos) [.Constant (.str a) j1 p1,.Constant (.str b) j2 p2] [] cpos::es) X.env=(false,KH (.Call (.Attribute oR "replace" apos) [.Constant (.str a) j1 p1,.Constant (.str b) j2 p2] [] cpos) X.env)::G9 es X.env:=by rfl)
  (hbase:Mx oR "replace" X.env (KH oR X.env)=KH oR X.env:=by rfl)
  (hfew:((Lh cpos (G9 [.Constant (.str a) j1 p1,.Constant (.str b) j2 p2] X.env)).all (λx=>!x.1)&&(backToKw cpos (P7 [] X.env)).all (λx=>x.1.isSome)
   &&decide ([Expr.Constant (.str a) j1 p1,.Constant (.str b) j2 p2].length+([]:List Np).length+(if([]:List Np).isEmpty then 0 else 1)<30))=true:=by rfl)
  (hline:(apos.endLine==cpos.line)=true:=by rfl)(hs2:Lh cpos (G9 [.Constant (.str a) j1 p1,.Constant (.str b) j2 p2] X.env)=[(false,KH (.Constant (.str a) j1 p1) X.env),(false,KH (.Constant (.str b) j2 p2) X.env)]:=by rfl):
  WA X (e0::.BinOp o .Add (.Constant (.str c) j0 p0) bpos::e3::e4::.Call (.Attribute oR "replace" apos) [.Constant (.str a) j1 p1,.Constant (.str b) j2 p2] [] cpos::es)
   (eZ t0 (eZ (CQ (λx y H Q=>∃ i j,x=.str i/\y=.str j/\i.length+j.length<=GZ/\Q (.str (i++j)) H) to (tC (.str c))) (eZ t3 (eZ t4 (eZ (Br tR a b) t))))):=by
 have h0:=h0.go;have ho:=ho.go;have h3:=h3.go;have h4:=h4.go;have hR:=hR.go;have hr:=hr.go;exact⟨uJ h0 (vC ho (rV h3 (rV h4 (xA hR hr s4 hbase hfew hline hs2) s3) s2) s1) s0⟩
end
def AT (c:Nat)(ts:List Str):Prop:=∀ t∈ts,c∉t.cps.toList
theorem yn {c:Nat}:∀ {a b p q:List Nat},c∉a->c∉b->a++c::p=b++c::q->a=b/\p=q
 |[],[],_,_,_,_,h=>by injection h with _ h;exact⟨rfl,h⟩
 |[],y::b,_,_,_,hb,h=>by
  injection h with h1 _
  exact absurd (show c∈y::b by rw[h1];exact GX) hb
 |x::a,[],_,_,ha,_,h=>by
  injection h with h1 _
  exact absurd (show c∈x::a by rw[<- h1];exact GX) ha
 |x::a,y::b,_,_,ha,hb,h=>by
  injection h with h1 h2
  obtain⟨e1,e2⟩:=yn (λz=>ha (GK _ z)) (λz=>hb (GK _ z)) h2;exact⟨by rw[h1,e1],e2⟩
theorem dE (sep x y:Str)(r:List Str):(Mw sep (x::y::r)).cps.toList=x.cps.toList++(sep.cps.toList++(Mw sep (y::r)).cps.toList):=by
 show(x++sep++Mw sep (y::r)).cps.toList=_;rw[JY,JY,Ku]
theorem qh {c:Nat}{r:List Nat}{sep:Str}(hs:sep.cps.toList=c::r):∀ {ws ts:List Str},ws≠[]->ts≠[]->AT c ws->AT c ts->Mw sep ws=Mw sep ts->ws=ts
 |[],_,h,_,_,_,_=>absurd rfl h
 |_::_,[],_,h,_,_,_=>absurd rfl h
 |[w],[t],_,_,_,_,h=>by rw[show w=t from h]
 |[w],t::t2::ts,_,_,fw,_,h=>by
  have e:=KG (λz:Str=>z.cps.toList) (show w=Mw sep (t::t2::ts) from h);rw[dE,hs] at e;exact absurd (by rw[e];simp) (fw w GX)
 |w::w2::ws,[t],_,_,_,ft,h=>by
  have e:=KG (λz:Str=>z.cps.toList) (show Mw sep (w::w2::ws)=t from h);rw[dE,hs] at e;exact absurd (by rw[<- e];simp) (ft t GX)
 |w::w2::ws,t::t2::ts,_,_,fw,ft,h=>by
  have e:=KG (λz:Str=>z.cps.toList) h;rw[dE,dE,hs,KA,KA] at e;obtain⟨e1,e2⟩:=yn (fw w GX) (ft t GX) e;have e3:=List.append_cancel_left e2;have ew:w=t:=Q9 (Kz.mp e1);rw[ew,qh hs (by simp) (by simp) (λz hz=>fw z (GK _ hz)) (λz hz=>ft z (GK _ hz)) (Q9 (Kz.mp e3))]
theorem qr (x y:Str):IW x y≠[]:=λe=>by
 have:=split_pos x y;rw[e] at this;exact absurd this (by decide)
theorem qj {c:Nat}{r:List Nat}{sep:Str}{ts:List Str}(hs:sep.cps.toList=c::r)(hn:ts≠[])(hf:AT c ts)(hp:AT c (IW (Kq sep ts) sep)):IW (Kq sep ts) sep=ts:=by
 refine qh hs (qr _ _) hn hp hf ?_;rw[Qr];exact KE sep ts
theorem kq {c:Nat}{ts:List Str}(hn:ts≠[])(hf:AT c ts):IW (Kq ⟨#[c]⟩ ts) ⟨#[c]⟩=ts:=qj (r:=[]) rfl hn hf (StrLaws.split_free _ c)
theorem kz (x y:Str):Kq y (IW x y)=x:=(KE y _).trans (Qr x y)
def BD (l:List Nat):Prop:=∀ k,l[k]?=some 44->l[k+1]?=some 32
theorem yP {l:List Nat}(h:44∉l):BD l:=λk e=>absurd (GS e) h
theorem AC {t J:List Nat}(h:44∉t)(hJ:BD J):BD (t++(44::32::J)):=λk e=>by
 by_cases h1:k<t.length
 ·rw[KJ h1] at e;exact absurd (GS e) h
 ·have h1:=Nat.le_of_not_lt h1;rw[JT h1] at e;rw[JT (by lia)];obtain⟨j,rfl⟩:=Nat.exists_eq_add_of_le h1;rw[show t.length+j-t.length=j by lia] at e;rw[show t.length+j+1-t.length=j+1 by lia]
  match j,e with
  |0,_=>rfl
  |1,e=>exact absurd e (by simp)
  |j+2,e=>exact hJ j e
theorem rA:∀ {ts:List Str},AT 44 ts->BD (Mw ", " ts).cps.toList
 |[],_=>λk e=>by simp[Mw,Qq] at e
 |[t],h=>yP (h t GX)
 |t::u::ts,h=>by
  rw[dE];exact AC (h t GX) (rA λz hz=>h z (GK _ hz))
theorem BE {x:Str}(hx:BD x.cps.toList){k:Nat}(h:x.cps.toList[k]?=some 44):Ru x ", " x.length k:=by
 have h2:=hx k h;have hl:x.cps.toList.length=x.length:=HD;have l2:=(GU.mp h2).1;have ls:(IT ", ")=2:=by decide
 refine⟨by rw[ls];lia,?_⟩;rw[Q8,ls];have e:(x.cps.toList.drop k).take 2=[44,32]:=by
  obtain⟨k1,e1⟩:=GU.mp h;obtain⟨k2,e2⟩:=GU.mp h2;rw[NY k1,NY k2,e1,e2];rfl
 rw[e];rfl
theorem jV {x:Str}(hx:BD x.cps.toList){a b:Nat}(hn:∀ k,a<=k->k<b->¬ Ru x ", " x.length k):44∉(Builtin.Str.strSub x a b).cps.toList:=by
 intro hm;rw[StrLaws.strSub_toList] at hm;obtain⟨j,hj⟩:=PD hm;have hlt:j<b-a:=by
  have h1:j<((x.cps.toList.drop a).take (b-a)).length:=(GU.mp hj).1;simp at h1;lia
 rw[Oe hlt,KD] at hj;exact hn (a+j) (by lia) (by lia) (BE hx hj)
theorem kA {x:Str}(hx:BD x.cps.toList):∀ (cuts:List Nat) (a f:Nat),StrLaws.ChainG x ", " x.length a cuts f->(∀ k,f<=k->¬ Ru x ", " x.length k)->AT 44 (StrLaws.partsFrom x (IT ", ") a cuts)
 |[],a,f,h,hn,p,hp=>by
  have e:f=a:=h;subst e;rw[G5.mp hp];exact jV hx λk h1 _=>hn k h1
 |d::r,a,f,h,hn,p,hp=>by
  rcases GR.mp hp with rfl|hp'
  ·exact jV hx h.2.2.1
  ·exact kA hx r _ f h.2.2.2 hn p hp'
theorem qT {x:Str}(hx:BD x.cps.toList):AT 44 (IW x ", "):=by
 obtain⟨f,hG,hn⟩:=StrLaws.occ_tight x ", " (by decide);unfold IW
 split
 ·rename_i hc
  intro p hp;rw[G5.mp hp];intro hm;obtain⟨j,hj⟩:=PD hm;have hA:=BE hx hj;rw[Mg,Io,Io] at hc;rcases hc with h|h
  ·have:=hA.1;lia
  ·have e1:K' ", "=1:=by decide +kernel
   have e2:1<=K' x:=by
    unfold K'
    split
    ·decide
    ·split<;>decide
   lia
 ·split
  ·rename_i he
   intro p hp;rw[G5.mp hp];have e0:Jp x ", " 0 x.length (x.length+1)=[]:=List.isEmpty_iff.mp he;rw[e0] at hG;have ef:f=0:=hG;subst ef;rw[<- StrLaws.sub_whole x];exact jV hx λk h1 _=>hn k h1
  ·rw[StrLaws.partsBetween_eq];exact kA hx _ 0 f hG hn
theorem qS {ts:List Str}(hn:ts≠[])(hf:AT 44 ts):IW (Kq ", " ts) ", "=ts:=by
 refine qj (c:=44) (r:=[32]) rfl hn hf ?_;rw[show Kq ", " ts=Mw ", " ts from KE _ _];exact qT (rA hf)
theorem oB:(Iw "0123456789").cps.toList=[48,49,50,51,52,53,54,55,56,57]:=by decide +kernel
theorem uW (c:Nat):nB c=true↔48<=c/\c<=57:=by
 unfold nB;constructor
 ·intro h;rcases Q7 "0123456789" ⟨#[c]⟩ 1 (GM 1) with ⟨e,_⟩|⟨i,r,e,hA,_⟩
  ·rw[e] at h;cases h
  ·have hm:=GS ((QI _ c i).mp hA);rw[oB] at hm;simp only[GR,Hq,Js] at hm;rcases hm with rfl|rfl|rfl|rfl|rfl|rfl|rfl|rfl|rfl|rfl<;>decide
 ·intro h;rcases Q7 "0123456789" ⟨#[c]⟩ 1 (GM 1) with ⟨_,hn⟩|⟨i,r,e,_,_⟩
  ·refine absurd ((QI _ c (c-48)).mpr ?_) (hn (c-48));rw[oB];obtain⟨k,hk,rfl⟩:∃ k,k<10/\c=48+k:=⟨c-48,by lia,by lia⟩
   rw[Nat.add_sub_cancel_left]
   match k,hk with
   |0,_|1,_|2,_|3,_|4,_|5,_|6,_|7,_|8,_|9,_=>rfl
  ·rw[e];rfl
def km (n:Int):Str:=Iw (toString n)
theorem rE:∀ {cs:List Nat},MM cs->(cs.map Char.ofNat).map Char.toNat=cs
 |[],_=>rfl
 |c::cs,h=>by
  have hc:=h.head;rw[G_,G_,rE h.tail];obtain⟨k,hk,rfl⟩:∃ k,k<10/\c=48+k:=⟨c-48,by lia,by lia⟩
  match k,hk with
  |0,_|1,_|2,_|3,_|4,_|5,_|6,_|7,_|8,_|9,_=>rfl
theorem yb:∀ (n:Nat) {cs:List Nat},cs.length=n->MM cs->QC cs<10^n
 |0,cs,hl,_=>by
  rw[Mn.mp hl];decide
 |n+1,cs,hl,h=>by
  have hne:cs≠[]:=by intro e;rw[e] at hl;simp at hl
  have e:=List.dropLast_concat_getLast hne;generalize cs.dropLast=ini at e;generalize cs.getLast hne=c at e;subst e;have hc:=h c (GO _ (G5.mpr rfl));have ih:=yb n (cs:=ini) (by rw[IB,O_] at hl;lia) λd hd=>h d (Jf _ hd)
  rw[NumText.digitsVal_snoc,QW];lia
theorem CS {w:Str}(h:cN w=true):∃ n:Int,(0<=n/\n<10^4)/\w=km n:=by
 unfold cN at h;simp only[G6,Io,Hz,Mg,N6,decide_eq_false_iff_not] at h;obtain⟨⟨⟨h1,h2⟩,h3⟩,h4⟩:=h;have hl:w.cps.toList.length=w.length:=HD;have hd:MM w.cps.toList:=λc hc=>(uW c).mp (h3 c hc)
 refine⟨(QC w.cps.toList:Nat),⟨by lia,?_⟩,?_⟩
 ·have:=yb _ rfl hd;have:10^w.cps.toList.length<=10^4:=LQ (by decide) (by lia);lia
 ·refine Q9 (Kz.mp ?_);unfold km;rw[M3];have go:(w.cps.toList.length-1=0\/∃ c r,w.cps.toList=c::r/\49<=c):=by
   rcases h4 with h4|h4
   ·left;rw[h4];decide
   ·right
    cases e:w.cps.toList with
    |nil=>rw[e] at hl;simp at hl;lia
    |cons c r=>
     refine⟨c,r,rfl,?_⟩;have hc:=hd c (by rw[e];exact GX);have:c≠48:=λz=>h4 (by rw[<- I_,e,z];rfl)
     lia
  rw[NumText.toDigits_digitsVal (w.cps.toList.length-1) _ (by lia) hd go,rE hd]
theorem Bl:∀ (n:Nat),0<n->(LC 10 n).head?≠some '0':=λn=>by
 induction n using Nat.strongRecOn with
 |_ n ih=>
  intro h0
  by_cases h:n<10
  ·rw[Nat.toDigits_of_lt_base h]
   match n,h,h0 with
   |1,_,_|2,_,_|3,_,_|4,_,_|5,_,_|6,_,_|7,_,_|8,_,_|9,_,_=>decide
  ·have hm:n%10<10:=Nat.mod_lt n (by decide);have t:LC 10 (n/10)++LC 10 (n%10)=LC 10 (10*(n/10)+n%10):=Nat.toDigits_append_toDigits (by decide) (by lia) hm;rw[Nat.div_add_mod] at t;rw[<- t];have i:=ih (n/10) (by lia) (by lia);cases e:LC 10 (n/10) with
   |nil=>exact absurd e (P3)
   |cons a r=>rw[e] at i;exact i
theorem lS {n:Int}(h:0<=n):MM (km n).cps.toList:=by
 obtain⟨m,rfl⟩:=JK h;intro c hc;unfold km at hc;rw[M3] at hc;obtain⟨ch,hch,e⟩:=HH.mp hc;rw[<- e];exact digit_range (Nat.isDigit_of_mem_toDigits (by decide) (by decide) hch)
theorem zg {n:Int}(h:0<=n/\n<10^4):cN (km n)=true:=by
 have hd:=lS h.1;have h4:(km n).length<=4:=toString_length_le h.1 (by decide) h.2;obtain⟨m,rfl⟩:=JK h.1;have e:(km (m:Int)).cps.toList=(LC 10 m).map Char.toNat:=M3 m;have hl:(km (m:Int)).cps.toList.length=(km (m:Int)).length:=HD;have h1:1<=(km (m:Int)).length:=by
  rw[<- hl,e,GG];cases z:LC 10 m with
  |nil=>exact absurd z P3
  |cons a r=>simp
 unfold cN;rw[GP h1,GP h4,IX,IX,G6];refine⟨Hz.mpr λc hc=>(uW c).mpr (hd c hc),?_⟩;rw[Mg]
 by_cases z:m=0
 ·left
  subst z;exact GP (by decide +kernel)
 ·right
  rw[N6,decide_eq_false_iff_not];intro q;rw[<- I_,e] at q;have hz:=Bl m (by lia);cases y:LC 10 m with
  |nil=>rw[y] at q;simp at q
  |cons a r=>
   rw[y] at q hz;have q':a.toNat=48:=by simpa using q
   refine hz ?_;show some a=some '0';exact KG some (Char.toNat_inj.mp q')
theorem vi {n:Int}(h:0<=n/\n<10^4):N3 (km n)=some n:=PySem.W.KIN.num_reads h.1 (by lia)
theorem lM {n:Int}(h:0<=n){c:Nat}(hc:c<48\/57<c):c∉(km n).cps.toList:=λz=>by have:=lS h c z;lia
theorem tL (ns:List Int):i7 ns=Kq " " (ns.map km):=rfl
theorem Ap {ns:List Int}(hn:ns≠[])(h:∀ n∈ns,0<=n/\n<10^4):nj (i7 ns)=ns.map km:=by
 refine kq (c:=32) (by simpa using hn) λt ht=>?_
 obtain⟨n,hm,rfl⟩:=HH.mp ht;exact lM (h n hm).1 (by decide)
theorem lX:∀ {ns:List Int},(∀ n∈ns,0<=n/\n<10^4)->(ns.map km).mapM N3=some ns
 |[],_=>rfl
 |n::ns,h=>by
  rw[G_,MV,vi (h n GX),lX λx hx=>h x (GK _ hx)];rfl
theorem lN {ns:List Int}(hn:ns≠[])(h:∀ n∈ns,0<=n/\n<10^4):bN (i7 ns)=some ns:=by
 unfold bN;rw[Ap hn h,lX h,Ie];refine Hz.mpr λt ht=>?_
 obtain⟨n,hm,rfl⟩:=HH.mp ht;exact zg (h n hm)
theorem qJ:∀ {ws:List Str},ws.all cN=true->∃ ns:List Int,ws=ns.map km/\∀ n∈ns,0<=n/\n<10^4
 |[],_=>⟨[],rfl,λ_ h=>nomatch h⟩
 |w::ws,h=>by
  rw[K_,G6] at h;obtain⟨n,hn,rfl⟩:=CS h.1;obtain⟨ns,rfl,hs⟩:=qJ h.2;refine⟨n::ns,rfl,λx hx=>?_⟩;rcases GR.mp hx with rfl|hx
  ·exact hn
  ·exact hs x hx
theorem gf {t:Str}(h:(nj t).all cN=true):∃ ns,bN t=some ns/\i7 ns=t/\∀ n∈ns,0<=n/\n<10^4:=by
 obtain⟨ns,e,hs⟩:=qJ h;refine⟨ns,?_,?_,hs⟩
 ·unfold bN;rw[Ie h,e,lX hs]
 ·rw[tL,<- e];exact kz t " "
theorem tI {t:Str}{ns:List Int}(h:bN t=some ns):i7 ns=t/\∀ n∈ns,0<=n/\n<10^4:=by
 have ha:(nj t).all cN=true:=by
  unfold bN at h
  split at h
  ·assumption
  ·cases h
 obtain⟨ms,e,e2⟩:=gf ha;rw[h] at e;cases e;exact e2
theorem iS (x:Str){a:Nat}(ha:a<=x.length):(LV x (some (a:Int)) none).cps.toList=x.cps.toList.drop a:=by
 have hl:x.cps.toList.length=x.length:=HD;have e:Ir (some (a:Int)) none 1 x.length=Ir (some (a:Int)) (some (x.length:Int)) 1 x.length:=by
  have hc:¬ ((x.length:Int)<0):=by lia
  have e2:max (0:Int) (min (x.length:Int) (x.length:Int))=x.length:=by lia
  simp only[Ir,hc,JU,show((1:Int)>0)=True from by simp,K5,e2]
 unfold LV;rw[e]
 split
 ·rename_i h
  have h2:(Ir (some (a:Int)) (some (x.length:Int)) 1 x.length).length=x.length:=by simpa using h
  rw[M8 ha (GM _),GG,ML] at h2;have:a=0\/x.length=0:=by lia
  rcases this with rfl|z
  ·rfl
  ·have:x.cps.toList=[]:=Mn.mp (by lia);rw[this,List.drop_nil]
 ·show(Kb _).toList=_;rw[PL x ha (GM _)];exact IE (by rw[Km];lia)
theorem vS (a b:Str):LV (a++b) (some (a.length:Int)) none=b:=by
 refine Q9 (Kz.mp ?_);have la:a.cps.toList.length=a.length:=HD;rw[iS _ (by rw[Hs];lia),JY,<- la,List.drop_left]
theorem vZ {x a:Str}(h:Ln x a=true):a++LV x (some (a.length:Int)) none=x:=by
 unfold Ln at h;simp only[G6,Io] at h;obtain⟨h1,h2⟩:=h;refine Q9 (Kz.mp ?_);rw[JY,iS _ (by lia)];rw[Q8,PM] at h2;rw[<- eq_of_beq h2];exact List.take_append_drop _ _
theorem WW.pt {X:Cx}{e:JG}{t:TT}(h:WW X e t):WT X e t:=⟨PW.pt h.go⟩
set_option autoImplicit true
set_option relaxedAutoImplicit true
section
variable {X:Cx}{st:K4}{K:GB}
theorem ag (ha:WE X e te)(hr:WA X es t)(hs:G9 (e::es) X.env=(false,KH e X.env)::G9 es X.env:=by rfl):WA X (e::es) (eZ te t):=⟨uJ ha.go hr.go hs⟩
theorem ao (i:Nat)(hN:X.N[i]?=some x:=by rfl)(hv:Cn X.env.scope x:=by first|exact Rr rfl|exact QY (Rr rfl)|exact QY (QY rfl))(hd:(x==("__debug__":Str))=false:=by decide)(hcd:(x==("__classdict__":Str))=false:=by decide):WE X (.Name x pos) (Cs i):=⟨pv i hN hv hd hcd⟩
theorem wF (hx:X.xe=λ_ _=>False)(hd:gens[d+1]?=none)(he:WE X elt te):WB X elt gens scope pos d (uI te):=⟨uO hx hd he.go⟩
end
theorem uC {X:Cx}{K:GB}{x n:Str}{i:Nat}{np hpos pos:Pos}{body suite:List K4}{b0:K4}{tb:WX->TS}{th:TS} (hK:X.K=K) (hN:X.N.Nodup) (hi:X.N[i]?=some n) (hl:X.env.scope.names.lookup n=some .local)
  (hex:X.ex=[])(hf:X.env.frame=some X.env.locals)(hstk:X.stack=X.env::X.outer)(hg:Gl X x)
  (hb:∀ pn' xe' W,Bm { X with pn:=pn',xe:=xe' } W->cD { X with pn:=pn',xe:=xe' } body (tb W))
  (hh:∀ e,cD { X with A:=X.A.mark (some (.ref e)),calm:=false,xe:=λ_ _=>False } (b0::suite) th)(hdb:(x==("__debug__":Str))=false:=by decide):
  WS X (.Try body [.ExceptHandler (some (.Name x np)) (some n) (b0::suite) hpos] [] [] pos) (Du K x i tb th):=⟨CC hK hN hi hl hex hf hstk hg (λa b c d=>(hb a b c d).go) (λe=>(hh e).go) hdb⟩
section
variable {X:Cx}
theorem au (i:Nat){x:Str}{e:JG}{te:TE}{pos pos':Pos}(hN:X.N.Nodup)(he:WE X e te)(hi:X.N[i]?=some x:=by rfl)(hx:C4 X.env.scope x:=by first|exact Rr rfl|exact QY rfl)(hs:NF e (some (.Name x pos')) pos.line X.env=pure false:=by rfl)(hf:X.fn x=true\/X.env.scope.names.lookup x=some .local:=by first|exact .inl rfl|exact .inr rfl|assumption):WS X (.Assign [.Name x pos'] e pos) (Df te (ux i)):=Aj hN hi hx he hs hf
theorem am (i:Nat){x:Str}{pos:Pos}(hN:X.N.Nodup)(hi:X.N[i]?=some x:=by rfl)(hx:C4 X.env.scope x:=by first|exact Rr rfl|exact QY rfl)(hf:X.fn x=true\/X.env.scope.names.lookup x=some .local:=by first|exact .inl rfl|exact .inr rfl|assumption):WG X (.Name x pos) (ux i):=yR hN hi hx hf
theorem aH (K:GB){a b:JG}{ta tb:TE}{pos:Pos}(ha:WE X a ta)(hb:WE X b tb)(e:X.K=K:=by rfl)(hs:uL b:=by intro _ _;rfl):WE X (.Subscript a b pos) (CQ (Am K) ta tb):=wI (Fx e) ha hb hs
theorem aj {CX:jE}{k j:Nat}{x:Str}{ps:List Str}{sp:Sp}{dvs:List V}{p pos:Pos}{e:JG}{es:List JG}{t:TA}(hX:CU CX)(C:du X.prog X.w X.K X.mg X.base CX k x ps dvs sp)(hr:Room j X.A)(ha:WA X (e::es) t)(hj:k<=j:=by decide)(hg:Gl X x:=by rfl)(hdb:(x==("__debug__":Str))=false:=by decide)(he:G9 (e::es) X.env=(false,KH e X.env)::G9 es X.env:=by rfl)(hpl:(Lh pos (G9 es X.env)).any (·.1)=false:=by rfl):WE X (.Call (.Name x p) (e::es) [] pos) (yB sp dvs E0 t):=zO hX C (hr.mono hj) hg ha hdb he hpl
theorem aB {e:JG}{te:TE}(h:WE X e te)(hs:G9 [e] X.env=(false,KH e X.env)::G9 [] X.env:=by rfl):WA X [e] (eZ te Bk):=ag h aY hs
theorem aM {e f:JG}{te tf:TE}(h:WE X e te)(g:WE X f tf)(hs:G9 [e,f] X.env=(false,KH e X.env)::G9 [f] X.env:=by rfl)(gs:G9 [f] X.env=(false,KH f X.env)::G9 [] X.env:=by rfl):WA X [e,f] (eZ te (eZ tf Bk)):=ag h (ag g aY gs) hs
theorem aS {scope:LF}{elt tg iter:JG}{ifs:List JG}{wi:TI}{g:TG}{tt:TT}{te:TE}{pos:Pos}(ts cs:List Str)(js:List Nat)(k:Nat)(hi:WI X tg iter wi)(hg:(ts++cs).Nodup->∀ {C s0 H0 fp pn},WG (aA X (ts++cs) scope (ar X scope C) C s0 H0 fp pn) tg g)(ht:∀ {C s0 H0 fp pn},zI (aA X (ts++cs) scope (ar X scope C) C s0 H0 fp pn) ifs tt)(he:∀ {C s0 H0 fp pn},WE (aA X (ts++cs) scope (ar X scope C) C s0 H0 fp pn) elt te)(nd:(ts++cs).Nodup:=by decide +kernel)(hc:X.calm=true:=by rfl)(h1:lj scope=true:=by decide +kernel)(h2:(scope.names.all λy=>!(y.2==.free)||(X.env.cells.lookup y.1).isSome)=true:=by rfl)(h3:jq X scope cs js=true:=by rfl)(h4:cs.length=js.length:=by rfl)(h5:ts.length=k:=by rfl)(hs:∀ x,Jc iter X.env x=pure x:=by intro _;rfl):WE X (.ListComp elt [⟨tg,iter,ifs,0⟩] scope pos) (Bz wi g tt te (vU k js)):=xR hc hi (i' h1 h2) (mo (ts:=ts) h3 h4 h5) (λ_ _ _ _ _=>hg nd) (λ_ _ _ _ _=>ht) (λ_ _ _ _ _=>he) hs
theorem cI (i:Nat){y:Str}{py spos:Pos}{scope:LF}{elt tg iter:JG}{ifs:List JG}{wi:TI}{g:TG}{tt:TT}{te:TE}{pos:Pos}(ts cs:List Str)(js:List Nat)(k:Nat)(hN:X.N.Nodup)(hi:WI X tg iter wi)(hg:(ts++cs).Nodup->∀ {C s0 H0 fp pn},WG (aA X (ts++cs) scope (ar X scope C) C s0 H0 fp pn) tg g)(ht:∀ {C s0 H0 fp pn},zI (aA X (ts++cs) scope (ar X scope C) C s0 H0 fp pn) ifs tt)(he:∀ {C s0 H0 fp pn},WE (aA X (ts++cs) scope (ar X scope C) C s0 H0 fp pn) elt te)(nd:(ts++cs).Nodup:=by decide +kernel)(hc:X.calm=true:=by rfl)(hi':X.N[i]?=some y:=by rfl)(hy:X.env.scope.names.lookup y=some .local:=by rfl)(h1:lj scope=true:=by decide +kernel)(h2:(scope.names.all λy=>!(y.2==.free)||(X.env.cells.lookup y.1).isSome)=true:=by rfl)(h3:jq X scope cs js=true:=by rfl)(h4:cs.length=js.length:=by rfl)(h5:ts.length=k:=by rfl)(hsw:NF (.ListComp elt [⟨tg,iter,ifs,0⟩] scope pos) (some (.Name y py)) spos.line X.env=pure true:=by rfl)(hs:∀ x,Jc iter X.env x=pure x:=by intro _;rfl):WS X (.Assign [.Name y py] (.ListComp elt [⟨tg,iter,ifs,0⟩] scope pos) spos) (tm i wi g tt te (vU k js)):=qO hc hN hi' hy hi (i' h1 h2) (mo (ts:=ts) h3 h4 h5) (λ_ _ _ _ _=>hg nd) (λ_ _ _ _ _=>ht) (λ_ _ _ _ _=>he) hsw hs
end
end TR
set_option Elab.async false
set_option linter.all false
set_option maxRecDepth 100000
set_option maxHeartbeats 8000000
namespace TR
open PySem PySem.Spec PyProof.Rows L2
set_option autoImplicit false
abbrev gV:List Str:=["thing"]
abbrev uA0:List Str:=["_law_town_here","_law_last","_law_cap","_law_climbs"]
abbrev uA1:List Str:=["thing","many","least","most"]
abbrev uA2:List Str:=["thing","knots"]
abbrev uA3:List Str:=["_law_script"]
abbrev uA4:List Str:=["one","other"]
abbrev uA5:List Str:=["_law_town_here","_law_some"]
abbrev uA6:List Str:=["_law_town_here","_law_cap"]
abbrev uA7:List Str:=["self","place"]
abbrev uA8:List Str:=["top","below"]
abbrev uA9:List Str:=["thing","least","most"]
abbrev uB0:List Str:=["self","knots","table"]
abbrev uB1:List Str:=["_law_town_here","_law_many"]
abbrev uB2:List Str:=["_law_town_here","_law_size"]
abbrev uB3:List Str:=["one","least","most"]
abbrev uB4:List Str:=["low","high"]
abbrev uB5:List Str:=["_law_kind","_law_text"]
abbrev uB6:List Str:=["_law_w","_law_x","_law_y","_law_z"]
abbrev uB7:List Str:=["text"]
abbrev uB8:List Str:=["_law_one","_law_two"]
abbrev uB9:List Str:=["a","b","c","numbers"]
abbrev uC0:List Str:=["self","points"]
abbrev uC1:List Str:=["_law_k"]
abbrev uC2:List Str:=["low","high","at"]
abbrev uC3:List Str:=["numbers"]
def dZ (i:Nat):K4:=PySem.Challenge.pw_tintroads_k28_whole_texts.main.body.getD i (.Pass ⟨0,0,0,0⟩)
abbrev iY:K4:=dZ 15
abbrev cJ:K4:=dZ 16
abbrev cO:K4:=dZ 17
abbrev cx:K4:=dZ 18
abbrev iJ:K4:=dZ 19
abbrev dD:K4:=dZ 21
abbrev jX:K4:=dZ 23
abbrev ge:K4:=dZ 24
abbrev iN:K4:=dZ 30
abbrev f_:K4:=dZ 31
abbrev fX:K4:=dZ 32
abbrev fG:K4:=dZ 33
abbrev jZ:K4:=dZ 34
abbrev cy:K4:=jj (dZ 35) 0
abbrev dF:K4:=jj (dZ 35) 5
abbrev dc:K4:=jj (dZ 35) 1
abbrev iQ:K4:=dZ 45
abbrev jW:K4:=dZ 46
abbrev iT:K4:=dZ 47
abbrev iU:K4:=dZ 49
abbrev dN:K4:=dZ 51
abbrev cQ:K4:=jj (dZ 57) 0
abbrev eP:K4:=jj (dZ 57) 1
abbrev cT:K4:=dZ 58
abbrev cY:K4:=dZ 62
abbrev dM:K4:=dZ 63
abbrev gh:K4:=dZ 64
abbrev dH:K4:=dZ 65
abbrev gq:K4:=dZ 66
abbrev fe:K4:=dZ 67
abbrev gg:K4:=dZ 68
abbrev fA:K4:=dZ 69
abbrev fV:K4:=dZ 70
abbrev f8:K4:=dZ 71
abbrev fm:K4:=dZ 72
abbrev fH:K4:=dZ 73
abbrev gz:K4:=dZ 75
abbrev gk:K4:=dZ 76
abbrev gi:K4:=dZ 77
abbrev dL:K4:=dZ 78
abbrev iR:K4:=dZ 79
abbrev fF:K4:=dZ 80
abbrev eO:K4:=dZ 81
abbrev fY:K4:=dZ 82
abbrev f9:K4:=dZ 83
abbrev jr:K4:=dZ 84
structure de (K:GB)(mg:Str->Option GH)(w:IN):Prop where
 xt:Cd K "Grid"=true
 x5:ig K "Curve" ["points"]=true
 x3:ig K "Grid" ["knots","table"]=true
 xe:∃ t,mg "FEWEST_KNOTS"=some (.int 2 t)
 xf:∃ t,mg "FEWEST_POINTS"=some (.int 2 t)
 xu:∃ t,mg "FIGURES"=some (.str "0123456789" t)
 xg:∃ t,mg "GREATEST_curves"=some (.int 1000 t)
 xh:∃ t,mg "GREATEST_grids"=some (.int 1000 t)
 xv:∃ t,mg "MOST_FIGURES"=some (.int 4 t)
 xi:∃ t,mg "MOST_KNOTS"=some (.int 7 t)
 xj:∃ t,mg "MOST_POINTS"=some (.int 12 t)
 xk:Dn K "Curve"=true
 xa:Dn K "Grid"=true
 xw:zj K "Curve"=true
 xx:zj K "Grid"=true
 xy:mg "ValueError"=none
 xl:mg "abs"=none
 x6:mg "all"=none
 xz:mg "bool"=none
 xm:mg "dict"=none
 xn:mg "int"=none
 x0:mg "isinstance"=none
 x2:mg "len"=none
 x8:mg "list"=none
 x10:mg "max"=none
 xc:mg "min"=none
 x4:mg "range"=none
 xo:mg "set"=none
 xb:mg "sorted"=none
 x7:mg "str"=none
 x9:mg "tuple"=none
 xd:mg "zip"=none
 x1:wk K=true
 x11:cW K mg "is_whole" iY gV []
 x12:cW K mg "is_whole_within" cJ uA9 []
 xp:cW K mg "is_tuple_within" cO uA1 []
 x13:cW K mg "greatest_measure" cx uA4 []
 x14:cW K mg "is_share" iJ gV []
 x25:cW K mg "share" dD uA8 []
 x26:cW K mg "share" dD uA8 [.int 1]
 x15:cW K mg "is_less" jX uA4 []
 x16:cW K mg "is_within" ge uB3 []
 xq:cW K mg "is_point" iN gV []
 x17:cW K mg "is_onward" f_ uB4 []
 xr:cW K mg "is_points" fX gV []
 x18:cW K mg "stretch_to" fG ["pairs","at"] []
 x19:cW K mg "on_line" jZ uC2 []
 x1a:kX K mg "Curve" "__init__" "Curve.__init__" cy uC0 []
 x1b:kX K mg "Curve" "last" "Curve.last" dF ["self"] []
 x1c:kX K mg "Curve" "value" "Curve.value" dc uA7 []
 x1d:cW K mg "is_knots" iQ gV []
 x1e:cW K mg "is_knot" jW uA2 []
 xs:cW K mg "is_worth" iT gV []
 x1f:cW K mg "is_table" iU uA2 []
 x1g:cW K mg "places_below" dN ["many"] []
 x1h:kX K mg "Grid" "__init__" "Grid.__init__" cQ uB0 []
 x1i:kX K mg "Grid" "knot" "Grid.knot" eP uA7 []
 x1j:cW K mg "refuse_no_grid" cT gV []
 x1k:cW K mg "refuse_no_text" cY gV []
 x1l:cW K mg "numbers_text" dM uC3 []
 x1m:cW K mg "is_number" gh ["word"] []
 x1n:cW K mg "numbers_read" dH uB7 []
 x1o:cW K mg "knots_row" gq ["knots"] []
 x1p:cW K mg "knots_read" fe ["row"] []
 x1q:cW K mg "row_start" gg ["place"] []
 x1r:cW K mg "worth_read" fA ["row","place"] []
 x1s:cW K mg "grid_text" fV ["grid"] []
 x1t:cW K mg "grid_read" f8 uB7 []
 x1u:cW K mg "curve_text" fm ["curve"] []
 x1v:cW K mg "curve_read" fH uB7 []
 x1w:cW K mg "_law_town" gz uA3 []
 x1x:cW K mg "_law_draw" gk uB1 []
 x1y:cW K mg "_law_pick" gi uA5 []
 x1z:cW K mg "_law_refusal" dL ["_law_caught"] []
 x20:cW K mg "_law_low" iR uB8 []
 x21:cW K mg "_law_share" fF uA6 []
 x22:cW K mg "_law_points" eO uA0 []
 x23:cW K mg "_law_grid" fY uB2 []
 x24:cW K mg "_law_read" f9 uB5 []
section
variable {P:Hv}{w:IN}{K:GB}{mg:Str->Option GH}{base:JI}
theorem rX:aD gV gV (ai iY):=dY
inductive rT (K:GB)(vs:List V)(H:Hp)(Q:VK)(_:XK):Prop
 |mk (x T) (_:vs=[x]) (_:Ty K H x T) (_:Q (.bl (tX x)) H)
theorem c8 (T:de K mg w):du P w K mg base (cE P w) 1 "is_whole" gV [] (rT K):=by
  refine T.x11.cal rX (bb:=λ_ _ _ _ _ H vs Q E hr h=>?_);obtain⟨x,S,rfl,ty,q⟩:=h;refine⟨_,(cD.go (ae (av (lB (ak (kC (K:=K) rfl) (by rfl) T.x0 ax (aM (ao 0) (ck (v:=.ty "int") rfl T.xn yS rfl))) (jm (AG (ak (kC (K:=K) rfl) (by rfl) T.x0 ax (aM (ao 0) (ck (v:=.ty "bool") rfl T.xz Aq rfl))))))))),?_⟩;obtain⟨b,e1,e2⟩:=Da ty;refine⟨_,rfl,_,_,_,b,rfl,ty,e1,b,rfl,?_⟩;cases b with
  |false=>
   refine aX ?_;rw[show tX x=false from e2] at q;exact q
  |true=>
   obtain⟨c,e3,e4⟩:=(show ∃ c,bn S "bool"=some c/\tX x=!c from e2)
   refine aP ⟨_,rfl,_,_,_,c,rfl,ty,e3,c,rfl,?_⟩;rw[e4] at q;exact q
theorem iG:aD uA9 uA9 (ai cJ):=dY
inductive iM (K:GB)(vs:List V)(H:Hp)(Q:VK)(_:XK):Prop
 |mk (x d l m) (_:vs=[x,.int l,.int m]) (_:aW K H d x) (_:Q (.bl (j5 l m d)) H)
theorem cA (T:de K mg w):du P w K mg base (cE P w) 2 "is_whole_within" uA9 [] (iM K):=by
  refine T.x12.cal iG (bb:=λ_ _ _ _ _ H vs Q E hr h=>?_);obtain⟨x,d,l,m,rfl,hx,q⟩:=h;refine⟨_,(cD.go (ae (av (lB (aj aN (c8 T) hr (aB (ao 0))) (jm (nM gC gC (ao 1) (ao 0) (ao 2))))))),?_⟩;refine⟨_,rfl,_,_,rfl,hx.ty,_,rfl,?_⟩;cases hx with
  |int i=>
   refine aP ⟨_,rfl,_,rfl,_,_,rfl,rfl,decide (l<=i),rfl,?_⟩;refine eB (λhc=>?_) (λhc=>?_)
   ·refine⟨_,rfl,_,_,rfl,rfl,?_⟩;have q:Q (.bl (decide (l<=i)&&decide (i<=m))) H:=q;rw[hc,IX] at q;exact q
   ·have hc:decide (l<=i)=false:=by simpa using hc
    have q:Q (.bl (decide (l<=i)&&decide (i<=m))) H:=q;rw[hc,JH] at q;exact q
  |non=>exact aX q
  |bl b=>exact aX q
  |str z=>exact aX q
  |lst h1 h2=>exact aX q
  |tup h1 h2=>exact aX q
  |dct h1=>exact aX q
theorem dI:aD uA1 uA1 (ai cO):=dY
inductive iV (K:GB)(vs:List V)(H:Hp)(Q:VK)(_:XK):Prop
 |mk (x:V) (ns:List Int) (n l m:Int) (_:vs=[x,.int n,.int l,.int m]) (_:aW K H (.tuple (ns.map IG)) x) (_:n=ns.length) (_:ns.length<=1000) (_:∀ H',ah H H'->Q (.bl (ns.all λk=>decide (l<=k)&&decide (k<=m))) H')
theorem cw (T:de K mg w):du P w K mg base (cE P w) 3 "is_tuple_within" uA1 [] (iV K):=by
  refine T.xp.cal dI (bb:=λ_ _ _ _ _ H vs Q E hr h=>?_);obtain⟨x,ns,n,l,m,rfl,hx,rfl,hl,q⟩:=h;refine⟨_,(cD.go (aa (aR (WW.pt (bZ (aO (aQ (ak (kC (K:=K) rfl) (by rfl) T.x0 ax (aM (ao 0) (ck (v:=.ty "tuple") rfl T.x9 gB rfl))))) (bP (aG gy (ak (di (K:=K) rfl) (by rfl) T.x2 bK (aB (ao 0))) (ao 1) (aL _))))) (ae (av bO)) aF)
   (ae (av (ak (jA (K:=K) rfl rfl) (by rfl) T.x6 fj (aB (aS ["number"] ["least","most"] [2,3] 1 (bA (K:=K) rfl (ao 0)) (λnd=>(am 0 nd)) aJ (aj aN (cA T) hr (ag (ao 0) (ag (ao 1) (ag (ao 2) aY))))))))))),?_⟩
  refine⟨_,rfl,_,_,_,true,rfl,hx.ty,(show bn "tuple" "tuple"=some true by decide +kernel),_,rfl,aX ?_⟩;obtain⟨a,xs,rfl,ha,hds⟩:=bU (b:=false) hx;have hlen:=hds.length;rw[GG] at hlen;refine⟨_,rfl,a,_,rfl,uq ha,_,rfl,_,_,rfl,rfl,false,by show V.bl (!decide ((xs.length:Int)=ns.length))=_;rw[GP (by lia)];rfl,aX ?_⟩;refine⟨_,rfl,a,false,rfl,⟨_,ha⟩,jt (f:=λd=>.bool (j5 l m d)) ha hds (by rw[GG];exact hl) (λi d x H2 hd s2 hx2 R kk S=>?_) (λys H2 s2 hys D hD=>?_)⟩
  ·exact aP (B:=S H2) ⟨_,rfl,_,rfl,_,rfl,x,d,l,m,rfl,hx2,kk _ _ ⟨ah.refl _,.bl _⟩⟩
  ·have hys:aE K H2 (((ns.map IG).map (j5 l m)).map Le) ys:=by rw[Ks];exact hys
   have e:=da hys;subst e;refine⟨D,_,rfl,bg.of af,?_⟩;have e:((ns.map IG).map (j5 l m)).all id=ns.all λk=>decide (l<=k)&&decide (k<=m):=by
    rw[Ks,M0];rfl
   rw[e];exact q _ (s2.trans (ah.new hD))
inductive gM (K:GB)(vs:List V)(H:Hp)(Q:VK)(_:XK):Prop
 |mk (x:V) (d:Il) (n l m:Int) (_:vs=[x,.int n,.int l,.int m]) (_:yG K H d x) (_:n<=1000) (_:∀ H',ah H H'->Q (.bl (kG n l m d)) H')
theorem c9 (T:de K mg w):du P w K mg base (cE P w) 3 "is_tuple_within" uA1 [] (gM K):=by
  refine T.xp.cal dI (bb:=λ_ _ _ _ _ H vs Q E hr h=>?_);obtain⟨x,d,n,l,m,rfl,hx,hn,q⟩:=h;refine⟨_,(cD.go (aa (aR (WW.pt (bZ (aO (aQ (ak (C5 (K:=K) rfl) (by rfl) T.x0 ax (aM (ao 0) (ck (v:=.ty "tuple") rfl T.x9 gB rfl))))) (bP (aG gy (ak (di (K:=K) rfl) (by rfl) T.x2 bK (aB (ao 0))) (ao 1) (aL _))))) (ae (av bO)) aF)
   (ae (av (ak (jA (K:=K) rfl rfl) (by rfl) T.x6 fj (aB (aS ["number"] ["least","most"] [2,3] 1 (bA (K:=K) rfl (ao 0)) (λnd=>(am 0 nd)) aJ (aj aN (cA T) hr (ag (ao 0) (ag (ao 1) (ag (ao 2) aY))))))))))),?_⟩
  rcases zq hx with ⟨a,ds,xs,rfl,rfl,ha,hds⟩|⟨hx,e1,e2⟩
  ·refine⟨_,rfl,.inr ⟨a,xs,rfl,ha,_,rfl,aX ?_⟩⟩;have hlen:=hds.length;refine⟨_,rfl,a,_,rfl,.inr ha,_,rfl,_,_,rfl,rfl,_,rfl,?_⟩;refine eB (λhc=>?_) (λhc=>?_)
   ·have hc:¬ ((xs.length:Int)=n):=NR (by simpa using hc);rw[show kG n l m (.tuple ds)=false by show(decide ((ds.length:Int)=n)&&_)=false;rw[Hr (by lia)];rfl] at q;exact q _ (ah.refl _)
   ·have hc:(xs.length:Int)=n:=by simpa using hc
    refine⟨_,rfl,a,false,rfl,⟨_,ha⟩,jt (f:=λd=>.bool (j5 l m d)) (show cq K H a xs false from ha) hds (by lia) (λi d x H2 hd s2 hx2 R kk S=>?_) (λys H2 s2 hys D hD=>?_)⟩
    ·exact aP (B:=S H2) ⟨_,rfl,_,rfl,_,rfl,x,d,l,m,rfl,hx2,kk _ _ ⟨ah.refl _,.bl _⟩⟩
    ·have hys:aE K H2 ((ds.map (j5 l m)).map Le) ys:=by rw[Ks];exact hys
     have e:=da hys;subst e;refine⟨D,_,rfl,bg.of af,?_⟩;rw[show kG n l m (.tuple ds)=(ds.map (j5 l m)).all id by show(decide ((ds.length:Int)=n)&&_)=_;rw[GP (by lia),IX]] at q;exact q _ (s2.trans (ah.new hD))
  ·refine⟨_,rfl,.inl ⟨_,_,_,false,rfl,hx.ty,e1,_,rfl,aP (aP ?_)⟩⟩;rw[C8 e2] at q;exact q _ (ah.refl _)
theorem b_:aD uA4 uA4 (ai cx):=dY
inductive ik (_:GB)(vs:List V)(H:Hp)(Q:VK)(_:XK):Prop
 |mk (a b) (_:vs=[.int a,.int b]) (_:Q (.int (Jt a b)) H)
theorem dh (T:de K mg w):du P w K mg base (cE P w) 1 "greatest_measure" uA4 [] (ik K):=by
  refine T.x13.cal b_ (bb:=λ_ _ _ _ _ H vs Q E hr h=>?_);obtain⟨a,b,rfl,q⟩:=h;refine⟨_,(cD.go (aa (jJ (i:=0) (j:=1) rfl b_.nd rfl rfl (by decide) rfl rfl (aM (ak qy (by rfl) T.xl ye (aB (ao 0))) (ak qy (by rfl) T.xl ye (aB (ao 1)))) rfl)
   (aa (j8 Kd (aG uH (ao 1) ac (aL _)) (ae (jJ (i:=0) (j:=1) rfl b_.nd rfl rfl (by decide) rfl rfl (aM (ao 1) (aq gx (ao 0) (ao 1))) rfl)))
   (ae (av (ao 0)))))),?_⟩
  refine⟨_,rfl,_,rfl,_,rfl,_,rfl,_,_,rfl,?_⟩;refine⟨λm σ H'=>∃ x y:Int,σ=[some (.int x),some (.int y)]/\H'=H/\0<=x/\0<=y/\Jt x y=Jt a b/\m=y.toNat,⟨_,_,_,rfl,rfl,?_,?_,?_,rfl⟩,?_⟩
  ·split<;>lia
  ·split<;>lia
  ·rw[uS]
  ·rintro m σ H' ⟨x,y,rfl,rfl,hx,hy,hg,rfl⟩;refine⟨_,rfl,_,_,rfl,rfl,_,rfl,?_⟩;refine eB (λhc=>?_) (λhc=>?_)
   ·have hc:=IY hc;refine⟨_,λ_ _ z=>z,?_⟩;refine⟨_,rfl,_,rfl,_,rfl,_,_,rfl,rfl,hc,_,_,rfl,?_⟩;have h1:=KR x (show y≠0 by lia);have h2:=Ki x hc;exact⟨(x%y).toNat,by lia,y,x%y,rfl,rfl,hy,h1,by rw[r_ hx hc];exact hg,rfl⟩
   ·have hc:¬ (0<y):=λz=>hc (GP z)
    have hy0:y=0:=by lia
    subst hy0;refine⟨_,rfl,?_⟩;have e:x=(Jt a b:Int):=by
     rw[<- hg,Qb];lia
    rw[e];exact q
theorem gl:aD ["thing","top","below"] gV (ai iJ):=dY
inductive qL (K:GB)(vs:List V)(H:Hp)(Q:VK)(_:XK):Prop
 |mk (x d) (_:vs=[x]) (_:aW K H d x) (_:Q (.bl (shB d)) H)
theorem sw (T:de K mg w):du P w K mg base (cE P w) 2 "is_share" gV [] (qL K):=by
  refine T.x14.cal gl (bb:=λ_ _ _ _ _ H vs Q E hr h=>?_);obtain⟨x,d,rfl,hd,q⟩:=h;refine⟨_,(cD.go (aa (aR (WW.pt (bZ (aO (aQ (ak (kC (K:=K) rfl) (by rfl) T.x0 ax (aM (ao 0) (ck (v:=.ty "tuple") rfl T.x9 gB rfl))))) (bP (aG gy (ak (di (K:=K) rfl) (by rfl) T.x2 bK (aB (ao 0))) ac (aL _))))) (ae (av bO)) aF)
   (aa (gQ (ao 0) (gG (K:=K) (n:=2) rfl rfl (aK (am 1 gl.nd) (aK (am 2 gl.nd) bX))))
   (aa (aR (WW.pt (bZ (aO (aQ (aj aN (c8 T) hr (aB (ao 1))))) (bZ (aO (aQ (aj aN (c8 T) hr (aB (ao 2))))) (bP (aG rS (ao 2) ac (aL _)))))) (ae (av bO)) aF)
   (ae (av (c6 ff (aj aN (dh T) hr (aM (ao 1) (ao 2))) ac (aL _)))))))),?_⟩
  cases hd with
  |non=>exact⟨_,rfl,_,_,_,false,rfl,.non,by decide +kernel,_,rfl,aP (aP q)⟩
  |bl b=>exact⟨_,rfl,_,_,_,false,rfl,.bl b,by decide +kernel,_,rfl,aP (aP q)⟩
  |int i=>exact⟨_,rfl,_,_,_,false,rfl,.int i,by decide +kernel,_,rfl,aP (aP q)⟩
  |str z=>exact⟨_,rfl,_,_,_,false,rfl,.str z,by decide +kernel,_,rfl,aP (aP q)⟩
  |dct h1=>exact⟨_,rfl,_,_,_,false,rfl,.dK h1,(show bn "dict" "tuple"=some false by decide +kernel),_,rfl,aP (aP q)⟩
  |lst h1 h2=>exact⟨_,rfl,_,_,_,false,rfl,(aW.lst h1 h2).ty,(show bn "list" "tuple"=some false by decide +kernel),_,rfl,aP (aP q)⟩
  |@tup p xs ds h1 h2=>
   refine⟨_,rfl,_,_,_,true,rfl,.tup h1,by decide +kernel,_,rfl,aX ?_⟩;refine⟨_,rfl,p,xs,rfl,.inr (fM.of h1),_,_,rfl,rfl,_,rfl,?_⟩;have hl:=h2.length;refine eB (λhc=>?_) (λhc=>?_)
   ·have hc:¬ ((xs.length:Int)=2):=NR (by simpa using hc);have e:shB (.tuple ds)=false:=Aw (by lia);rw[e] at q;exact q
   ·have hc:(xs.length:Int)=2:=by simpa using hc
    cases h2 with
    |nil=>simp at hc
    |@cons d1 x1 _ _ g1 g2=>
     cases g2 with
     |nil=>simp at hc
     |@cons d2 x2 _ _ g3 g4=>
      cases g4 with
      |cons _ _=>simp at hc;lia
      |nil=>
       refine⟨_,rfl,p,_,rfl,fM.of h1,rfl,_,_,rfl,_,_,rfl,rfl,?_⟩;refine⟨_,rfl,_,_,rfl,g1.ty,_,rfl,?_⟩;refine eB (λhc=>?_) (λhc=>?_)
       ·refine aP ?_;have e:tX x1=false:=by simpa using hc
        rw[EA g1 e] at q;exact q
       ·have e1:tX x1=true:=by simpa using hc
        refine⟨_,rfl,_,_,rfl,g3.ty,_,rfl,?_⟩;refine eB (λhc=>?_) (λhc=>?_)
        ·refine aP ?_;have e:tX x2=false:=by simpa using hc
         rw[DY g3 e] at q;exact q
        ·have e2:tX x2=true:=by simpa using hc
         obtain⟨n,rfl,rfl⟩:=uP g1 e1;obtain⟨m,rfl,rfl⟩:=uP g3 e2;refine⟨_,rfl,_,_,rfl,rfl,_,rfl,?_⟩;have e:shB (Bw n m)=(decide (1<=m)&&decide (Jt n m=1)):=rfl;refine eB (λhc=>?_) (λhc=>?_)
         ·have hc:m<1:=IY hc;rw[e,Hr (show ¬ (1<=m) by lia)] at q;exact q
         ·have hc:¬ (m<1):=NR (by simpa using hc);refine⟨_,rfl,_,rfl,n,m,rfl,_,_,rfl,rfl,?_⟩;rw[e,GP (show 1<=m by lia),IX] at q;have e3:decide ((Jt n m:Int)=1)=decide (Jt n m=1):=by
           by_cases z:Jt n m=1
           ·rw[GP z,GP (by lia)]
           ·rw[Hr z,Hr (by lia)]
          show Q (.bl (decide ((Jt n m:Int)=1))) H;rw[e3];exact q
theorem mw:aD ["top","below","measure"] uA8 (ai dD):=dY
inductive yZ (K:GB)(vs:List V)(H:Hp)(Q:VK)(_:XK):Prop
 |mk (t b:Int) (_:vs=[.int t,.int b]) (_:b≠0) (_:Sm 8000 b) (_:Sh K H t b Q)
theorem qw (T:de K mg w) {dvs:List V} (D:cW K mg "share" dD uA8 dvs):du P w K mg base (cE P w) 2 "share" uA8 dvs (yZ K):=by
  refine D.cal mw (bb:=λ_ _ _ _ _ H vs Q E hr h=>?_);obtain⟨t,b,rfl,hb,sb,q⟩:=h;refine⟨_,(cD.go (aa (aR (WW.pt (bZ (aO (aQ (aj aN (c8 T) hr (aB (ao 0))))) (bP (aO (aQ (aj aN (c8 T) hr (aB (ao 1)))))))) (ae b7) aF)
   (aa (aR (aG ff (ao 1) ac (aL _)) (ae b7) aF)
   (aa (au 2 mw.nd (aj aN (dh T) hr (aM (ao 0) (ao 1))))
   (aa (aR (aG rS (ao 1) ac (aL _)) (ae (au 2 mw.nd (pF pR (ao 2)))) aF)
   (ae (av (eF (aM (aq c7 (ao 0) (ao 2)) (aq c7 (ao 1) (ao 2))))))))))),?_⟩
  refine⟨_,rfl,_,_,rfl,.int t,_,rfl,aX ?_⟩;refine⟨_,rfl,_,_,rfl,.int b,_,rfl,aX ?_⟩;refine⟨_,rfl,_,_,rfl,rfl,_,rfl,?_⟩;refine eB (λhc=>absurd (IY hc) hb) (λ_=>?_);refine⟨_,rfl,_,rfl,t,b,rfl,?_⟩;refine⟨_,rfl,_,_,rfl,rfl,_,rfl,?_⟩;have gb:Sm 8000 (Jt t b:Int):=sb.le (xV hb);have gn:(Jt t b:Int)≠0:=by
   have:=Lq t hb;lia
  refine eB (λhc=>?_) (λhc=>?_)
  ·have hc:=IY hc;refine⟨_,rfl,_,rfl,?_⟩;refine⟨_,rfl,_,rfl,_,_,rfl,rfl,⟨by lia,gb.neg⟩,_,rfl,_,rfl,_,_,rfl,rfl,⟨by lia,gb.neg⟩,pX,λp hp=>?_⟩;exact q _ _ _ _ (ah.new hp) (rY af) (sH hb rfl (by rw[Ie hc]))
  ·have hc:¬ (b<0):=λz=>hc (GP z)
   refine⟨_,rfl,_,rfl,_,_,rfl,rfl,⟨gn,gb⟩,_,rfl,_,rfl,_,_,rfl,rfl,⟨gn,gb⟩,pX,λp hp=>?_⟩;exact q _ _ _ _ (ah.new hp) (rY af) (sH hb rfl (by rw[Hu hc]))
theorem ul:aD uA4 uA4 (ai jX):=dY
inductive uc (K:GB)(vs:List V)(H:Hp)(Q:VK)(_:XK):Prop
 |mk (x y:V) (p q:Rat) (_:vs=[x,y]) (_:aW K H (rD p) x) (_:aW K H (rD q) y) (_:Bq 3900 p) (_:Bq 3900 q) (_:Q (.bl (decide (p<q))) H)
theorem tu (T:de K mg w):du P w K mg base (cE P w) 1 "is_less" uA4 [] (uc K):=by
  refine T.x15.cal ul (bb:=λ_ _ _ _ _ H vs Q E hr h=>?_);obtain⟨x,y,p,r,rfl,hx,hy,ox,oy,q⟩:=h;obtain⟨a,rfl,ha⟩:=cG hx;obtain⟨b,rfl,hb⟩:=cG hy;refine⟨_,(cD.go (ae (av (c6 rS (aq bu (aH K (ao 0) ac) (aH K (ao 1) ac)) (aq bu (aH K (ao 1) ac) (aH K (ao 0) ac)) (aL _))))),?_⟩;have c:∀ {i j:Int},Sm 3900 i->Sm 3900 j->Bv i j:=λh1 h2=>.inl ⟨h1.mono (by decide),h2.mono (by decide)⟩
  refine⟨_,rfl,eU ha ⟨_,rfl,ju hb ⟨_,_,rfl,rfl,c ox.sn oy.sd,?_⟩⟩⟩;refine⟨_,rfl,eU hb ⟨_,rfl,ju ha ⟨_,_,rfl,rfl,c oy.sn ox.sd,_,_,rfl,rfl,?_⟩⟩⟩;rw[show decide (p<r)=decide (p.num*(r.den:Int)<r.num*(p.den:Int)) from decide_eq_decide.mpr (Rat.lt_iff p r)] at q;exact q
theorem oK:aD uB3 uB3 (ai ge):=dY
inductive oS (K:GB)(vs:List V)(H:Hp)(Q:VK)(_:XK):Prop
 |mk (x:V) (p:Rat) (l m:Int) (_:vs=[x,.int l,.int m]) (_:aW K H (rD p) x) (_:Bq 3900 p) (_:Sm 60 l) (_:Sm 60 m) (_:Q (.bl (decide (l*(p.den:Int)<=p.num)&&decide (p.num<=m*(p.den:Int)))) H)
theorem oV (T:de K mg w):du P w K mg base (cE P w) 1 "is_within" uB3 [] (oS K):=by
  refine T.x16.cal oK (bb:=λ_ _ _ _ _ H vs Q E hr h=>?_);obtain⟨x,p,l,m,rfl,hx,ox,sl,sm,q⟩:=h;obtain⟨a,rfl,ha⟩:=cG hx;refine⟨_,(cD.go (ae (av (nM gC gC (aq bu (ao 1) (aH K (ao 0) ac)) (aH K (ao 0) ac) (aq bu (ao 2) (aH K (ao 0) ac)))))),?_⟩;refine⟨_,rfl,_,rfl,ju ha ⟨_,_,rfl,rfl,.inr (sl.mono (by decide)),_,rfl,eU ha ⟨_,_,rfl,rfl,_,rfl,?_⟩⟩⟩;cases hc:decide (l*(p.den:Int)<=p.num) with
  |true=>
   rw[hc,IX] at q;exact aP ⟨_,rfl,_,rfl,ju ha ⟨_,_,rfl,rfl,.inr (sm.mono (by decide)),_,_,rfl,rfl,q⟩⟩
  |false=>
   rw[hc,JH] at q;exact aX q
theorem ko:aD gV gV (ai iN):=dY
inductive rP (K:GB)(vs:List V)(H:Hp)(Q:VK)(_:XK):Prop
 |mk (x:V) (p:Pt) (_:vs=[x]) (_:aW K H (h_ p) x) (_:p.In) (_:∀ H',ah H H'->Q (.bl true) H')
theorem rq (T:de K mg w):du P w K mg base (cE P w) 4 "is_point" gV [] (rP K):=by
  refine T.xq.cal ko (bb:=λ_ _ _ _ _ H vs Q E hr h=>?_);obtain⟨x,p,rfl,hx,ip,q⟩:=h;refine⟨_,(cD.go (ae (av (aj aN (cw T) hr (ag (ao 0) (ag ac (ag ac (ag (bM rfl T.xg) aY)))))))),?_⟩;refine⟨_,rfl,x,[p.1,p.2],2,0,1000,rfl,hx,rfl,by show 2<=1000;decide,λH' s=>?_⟩;have e:([p.1,p.2].all λk=>decide (0<=k)&&decide (k<=1000))=true:=by
   show((decide (0<=p.1)&&decide (p.1<=1000))&&((decide (0<=p.2)&&decide (p.2<=1000))&&true))=true;rw[GP ip.a1,GP ip.a2,GP ip.b1,GP ip.b2];rfl
  rw[e];exact q _ s
inductive nc (K:GB)(vs:List V)(H:Hp)(Q:VK)(_:XK):Prop
 |mk (x:V) (d:Il) (_:vs=[x]) (_:aW K H d x) (_:∀ H',ah H H'->Q (.bl (kG 2 0 1000 d)) H')
theorem mV (T:de K mg w):du P w K mg base (cE P w) 4 "is_point" gV [] (nc K):=by
  refine T.xq.cal ko (bb:=λ_ _ _ _ _ H vs Q E hr h=>?_);obtain⟨x,d,rfl,hx,q⟩:=h;refine⟨_,(cD.go (ae (av (aj aN (c9 T) hr (ag (ao 0) (ag ac (ag ac (ag (bM rfl T.xg) aY)))))))),?_⟩;exact⟨_,rfl,x,d,2,0,1000,rfl,.inl hx,by decide,q⟩
theorem oG:aD uB4 uB4 (ai f_):=dY
inductive pH (K:GB)(vs:List V)(H:Hp)(Q:VK)(_:XK):Prop
 |mk (x y:V) (p q:Pt) (_:vs=[x,y]) (_:aW K H (h_ p) x) (_:aW K H (h_ q) y) (_:Q (.bl (decide (p.1<q.1)&&decide (p.2<=q.2))) H)
theorem i8 (T:de K mg w):du P w K mg base (cE P w) 1 "is_onward" uB4 [] (pH K):=by
  refine T.x17.cal oG (bb:=λ_ _ _ _ _ H vs Q E hr h=>?_);obtain⟨x,y,p,r,rfl,hx,hy,q⟩:=h;obtain⟨a,rfl,ha⟩:=cG hx;obtain⟨b,rfl,hb⟩:=cG hy;refine⟨_,(cD.go (ae (av (lB (c6 rS (aH K (ao 0) ac) (aH K (ao 1) ac) (aL _)) (jm (c6 gC (aH K (ao 0) ac) (aH K (ao 1) ac) (aL _))))))),?_⟩;refine⟨_,rfl,eU ha ⟨_,rfl,eU hb ⟨_,_,rfl,rfl,decide (p.1<r.1),rfl,?_⟩⟩⟩;cases hc:decide (p.1<r.1) with
  |true=>
   rw[hc,IX] at q;exact aP ⟨_,rfl,ju ha ⟨_,rfl,ju hb ⟨_,_,rfl,rfl,q⟩⟩⟩
  |false=>
   rw[hc,JH] at q;exact aX q
theorem jb:aD gV gV (ai fX):=dY
inductive oX (K:GB)(vs:List V)(H:Hp)(Q:VK)(_:XK):Prop
 |mk (x:V) (ps:List Pt) (_:vs=[x]) (_:aW K H (pq ps) x) (_:pM ps) (_:∀ H',ah H H'->Q (.bl true) H')
theorem pK (T:de K mg w):du P w K mg base (cE P w) 5 "is_points" gV [] (oX K):=by
  refine T.xr.cal jb (bb:=λ_ _ _ _ _ H vs Q E hr h=>?_);obtain⟨x,ps,rfl,hx,hp,q⟩:=h;refine⟨_,(cD.go (aa (aR (WW.pt (bZ (aO (aQ (ak (kC (K:=K) rfl) (by rfl) T.x0 ax (aM (ao 0) (ck (v:=.ty "list") rfl T.x8 jv rfl))))) (bP (aO (j6 gC gC (bM rfl T.xf) (ak (di (K:=K) rfl) (by rfl) T.x2 bK (aB (ao 0))) (bM rfl T.xj)))))) (ae (av bO)) aF)
   (aa (aR (WW.pt (bZ (aO (aQ (ak (jA (K:=K) rfl rfl) (by rfl) T.x6 fj (aB (aS ["point"] [] [] 1 (bA (K:=K) rfl (ao 0)) (λnd=>(am 0 nd)) aJ (aj aN (rq T) hr (aB (ao 0)))))))) (bP (aG gy (aH K (aH K (ao 0) ac) ac) ac (aL _))))) (ae (av bO)) aF)
   (ae (av (ak (jA (K:=K) rfl rfl) (by rfl) T.x6 fj (aB (aS uB4 [] [] 2 (t_ (K:=K) rfl rfl T.xd (aM (ao 0) (cV (Ab (K:=K) rfl) (ao 0) (dQ ac) dR))) (λnd=>(gG (K:=K) (n:=2) rfl rfl (aK (am 0 nd) (aK (am 1 nd) bX)))) aJ (aj aN (i8 T) hr (aM (ao 0) (ao 1))))))))))),?_⟩
  refine⟨_,rfl,_,_,_,true,rfl,hx.ty,(show bn "list" "list"=some true by decide +kernel),_,rfl,aX ?_⟩;obtain⟨l,xs,rfl,hl,hds⟩:=bU (b:=true) hx;have hlen:=hds.length;rw[GG] at hlen;have two:=hp.two;have few:=hp.few;refine⟨_,rfl,l,_,rfl,uq hl,?_⟩;refine⟨_,_,rfl,rfl,true,fC (by lia),aP ⟨_,_,rfl,rfl,true,fC (by lia),aX ?_⟩⟩;have tr:∀ n:Nat,(GY n true).all id=true:=λn=>by induction n with
   |zero=>rfl
   |succ n ih=>rw[JW,K_,ih];rfl
  refine⟨_,rfl,l,true,rfl,⟨_,hl⟩,jt (f:=λ_=>.bool true) hl hds (by rw[GG];lia) (λi d x H2 hd s2 hx2 R kk S=>?_) (λys H2 s2 hys D hD=>?_)⟩
  ·rw[GQ] at hd;cases e:ps[i]? with
   |none=>rw[e] at hd;cases hd
   |some p=>
    rw[e] at hd;cases hd;exact aP (B:=S H2) ⟨_,rfl,x,p,rfl,hx2,hp.inn p (GS e),λH3 s3=>kk _ _ ⟨s3,.bl _⟩⟩
  have hys:aE K H2 ((GY ps.length true).map Le) ys:=by
   have e:(ps.map h_).map (λ_=>Le true)=(GY ps.length true).map Le:=by
    rw[Ks,Qe];exact List.eq_replicate_iff.mpr ⟨by simp,λb hb=>by obtain⟨_,_,h⟩:=HH.mp hb;exact h.symm⟩
   rw[<- e];exact hys
  have e:=da hys;subst e;refine⟨D,_,rfl,bg.of af,_,rfl,?_⟩;rw[tr];refine aX ?_;have s3:ah H (upd H2 D (.lst ((GY ps.length true).map V.bl))):=s2.trans (ah.new hD);generalize upd H2 D (.lst ((GY ps.length true).map V.bl))=H3 at s3 ⊢;clear hys s2 hD;have e0:ps[0]?=some ps[0]:=GF (by lia);obtain⟨v0,ev0,hv0⟩:=je (aE.same s3 hds) e0;obtain⟨p0,rfl,hp0⟩:=cG hv0;refine⟨_,rfl,Ed (i:=0) (cq.same s3 hl) ev0 (eU hp0 ⟨_,_,rfl,rfl,_,rfl,By (hp.zero _ e0) ?_⟩)⟩;have l3:=cq.same s3 hl;refine⟨_,rfl,_,rfl,1,rfl,l,xs,rfl,l3,λL hL=>?_⟩;rw[rd xs (by lia)];have sL:ah H3 (upd H3 L (.lst (xs.drop 1))):=ah.new hL;have hL1:cq K (upd H3 L (.lst (xs.drop 1))) L (xs.drop 1) true:=bg.of af;generalize upd H3 L (.lst (xs.drop 1))=H4 at sL hL1 ⊢;have d4:=aE.same (s3.trans sL) hds;have d5:=aE.drop 1 d4;refine⟨l,L,true,true,rfl,⟨_,cq.same sL l3⟩,⟨_,hL1⟩,?_⟩;refine oz (fs:=GY (ps.length-1) (.bool true)) (cq.same sL l3) hL1 d4 d5 (by simp) (by simp) (by simp;lia) (λi d e f x y Z H5 hd he hf s5 hx5 hy5 hZ R kk S=>?_) (λzs H5 s5 hzs D2 hD2=>?_)
  ·have hf:f=.bool true:=(List.mem_replicate.mp (GS hf)).2;subst hf;rw[GQ] at hd;rw[KD,GQ] at he;cases e1:ps[i]? with
   |none=>rw[e1] at hd;cases hd
   |some p=>
    cases e2:ps[1+i]? with
    |none=>rw[e2] at he;cases he
    |some r=>
     rw[e1] at hd;rw[e2] at he;cases hd;cases he;obtain⟨u1,u2⟩:=hp.up i p r e1 (by rw[Pa];exact e2);refine⟨Z,_,rfl,fM.of hZ,rfl,_,_,rfl,_,_,rfl,rfl,?_⟩;refine aP (B:=S H5) ⟨_,rfl,_,rfl,x,y,p,r,rfl,hx5,hy5,?_⟩;rw[GP u1,GP u2];exact kk _ _ ⟨ah.refl _,.bl _⟩
  ·have hzs:aE K H5 ((GY (ps.length-1) true).map Le) zs:=by rw[Qe];exact hzs
   have e:=da hzs;subst e;refine⟨D2,_,rfl,bg.of af,?_⟩;rw[tr];exact q _ (((s3.trans sL).trans s5).trans (ah.new hD2))
theorem B3 {K:GB}{H:Hp}{d:Il}{x:V}(h:aW K H d x):(∃ ds,d=.list ds)\/(bn (E2 d) "list"=some false/\∀ ds,d≠.list ds):=by
 cases d with
 |list ds=>exact .inl ⟨ds,rfl⟩
 |none=>exact .inr ⟨(show bn "NoneType" "list"=some false by decide +kernel),λ_ z=>nomatch z⟩
 |bool b=>exact .inr ⟨(show bn "bool" "list"=some false by decide +kernel),λ_ z=>nomatch z⟩
 |int b=>exact .inr ⟨(show bn "int" "list"=some false by decide +kernel),λ_ z=>nomatch z⟩
 |str b=>exact .inr ⟨(show bn "str" "list"=some false by decide +kernel),λ_ z=>nomatch z⟩
 |tuple b=>exact .inr ⟨(show bn "tuple" "list"=some false by decide +kernel),λ_ z=>nomatch z⟩
 |dict b=>exact .inr ⟨(show bn "dict" "list"=some false by decide +kernel),λ_ z=>nomatch z⟩
inductive lU (K:GB)(vs:List V)(H:Hp)(Q:VK)(_:XK):Prop
 |mk (x:V) (d:Il) (_:vs=[x]) (_:aW K H d x) (_:∀ H',ah H H'->Q (.bl (sj d)) H')
theorem mJ (T:de K mg w):du P w K mg base (cE P w) 5 "is_points" gV [] (lU K):=by
  refine T.xr.cal jb (bb:=λ_ _ _ _ _ H vs Q E hr h=>?_);obtain⟨x,d,rfl,hx,q⟩:=h;refine⟨_,(cD.go (aa (aR (WW.pt (bZ (aO (aQ (ak (kC (K:=K) rfl) (by rfl) T.x0 ax (aM (ao 0) (ck (v:=.ty "list") rfl T.x8 jv rfl))))) (bP (aO (j6 gC gC (bM rfl T.xf) (ak (di (K:=K) rfl) (by rfl) T.x2 bK (aB (ao 0))) (bM rfl T.xj)))))) (ae (av bO)) aF)
   (aa (aR (WW.pt (bZ (aO (aQ (ak (jA (K:=K) rfl rfl) (by rfl) T.x6 fj (aB (aS ["point"] [] [] 1 (bA (K:=K) rfl (ao 0)) (λnd=>(am 0 nd)) aJ (aj aN (mV T) hr (aB (ao 0)))))))) (bP (aG gy (aH K (aH K (ao 0) ac) ac) ac (aL _))))) (ae (av bO)) aF)
   (ae (av (ak (jA (K:=K) rfl rfl) (by rfl) T.x6 fj (aB (aS uB4 [] [] 2 (t_ (K:=K) rfl rfl T.xd (aM (ao 0) (cV (Ab (K:=K) rfl) (ao 0) (dQ ac) dR))) (λnd=>(gG (K:=K) (n:=2) rfl rfl (aK (am 0 nd) (aK (am 1 nd) bX)))) aJ (aj aN (i8 T) hr (aM (ao 0) (ao 1))))))))))),?_⟩
  rcases B3 hx with ⟨ds,rfl⟩|⟨e1,e2⟩
  rotate_left
  ·rw[zX e2] at q;exact⟨_,rfl,_,_,_,false,rfl,hx.ty,e1,_,rfl,aP (aP (q _ (ah.refl _)))⟩
  refine⟨_,rfl,_,_,_,true,rfl,hx.ty,(show bn "list" "list"=some true by decide +kernel),_,rfl,aX ?_⟩;obtain⟨l,xs,rfl,hl,hds⟩:=bU (b:=true) hx;have hlen:=hds.length;have q:∀ H',ah H H'->Q (.bl (decide (2<=ds.length)&&(decide (ds.length<=12)&&((ds.map (kG 2 0 1000)).all id&&(kf (ds.map zG)&&BJ (ds.map zG)))))) H':=q;refine⟨_,rfl,l,_,rfl,uq hl,?_⟩
  by_cases h2:2<=ds.length
  rotate_left
  ·rw[Hr h2,JH] at q;refine⟨_,_,rfl,rfl,false,?_,aX ⟨_,rfl,aP (q _ (ah.refl _))⟩⟩;show V.bl (decide ((2:Int)<=(xs.length:Int)))=_;rw[Hr (by lia)]
  refine⟨_,_,rfl,rfl,true,fC (by lia),aP ?_⟩
  by_cases h12:ds.length<=12
  rotate_left
  ·rw[GP h2,Hr h12,IX,JH] at q;refine⟨_,_,rfl,rfl,false,?_,aP (q _ (ah.refl _))⟩;show V.bl (decide ((xs.length:Int)<=12))=_;rw[Hr (by lia)]
  rw[GP h2,GP h12,IX,IX] at q;refine⟨_,_,rfl,rfl,true,fC (by lia),aX ?_⟩;refine⟨_,rfl,l,true,rfl,⟨_,hl⟩,jt (f:=λd=>.bool (kG 2 0 1000 d)) hl hds (by lia) (λi d x H2 hd s2 hx2 R kk S=>?_) (λys H2 s2 hys D hD=>?_)⟩
  ·exact aP (B:=S H2) ⟨_,rfl,x,d,rfl,hx2,λH3 s3=>kk _ _ ⟨s3,.bl _⟩⟩
  have hys:aE K H2 ((ds.map (kG 2 0 1000)).map Le) ys:=by rw[Ks];exact hys
  have e:=da hys;subst e;refine⟨D,_,rfl,bg.of af,_,rfl,?_⟩;have s3:ah H (upd H2 D (.lst ((ds.map (kG 2 0 1000)).map V.bl))):=s2.trans (ah.new hD);generalize upd H2 D (.lst ((ds.map (kG 2 0 1000)).map V.bl))=H3 at s3 ⊢;clear hys s2 hD;cases hall:(ds.map (kG 2 0 1000)).all id with
  |false=>
   rw[hall,JH] at q;exact aP (aP (q _ s3))
  |true=>
  rw[hall,IX] at q;refine aX ?_;obtain⟨ps,rfl,inn⟩:=Ci hall;rw[Di] at q;rw[GG] at hlen h2 h12;have e0:ps[0]?=some ps[0]:=GF (by lia);obtain⟨v0,ev0,hv0⟩:=je (aE.same s3 hds) e0;obtain⟨p0,rfl,hp0⟩:=cG hv0;have eh:kf ps=decide ((ps[0]).1=0):=by unfold kf;rw[show ps.getD 0 (0,0)=ps[0] by simp[O7,e0]]
  have l3:=cq.same s3 hl;refine⟨_,rfl,Ed (i:=0) l3 ev0 (eU hp0 ⟨_,_,rfl,rfl,_,rfl,?_⟩)⟩
  by_cases hz:(ps[0]).1=0
  rotate_left
  ·rw[eh,Hr hz,JH] at q;refine eB (λ_=>q _ s3) (λhc=>absurd ?_ hc);simp[hz]
  rw[eh,GP hz,IX] at q;refine By hz ?_;refine⟨_,rfl,_,rfl,1,rfl,l,xs,rfl,l3,λL hL=>?_⟩;rw[rd xs (by lia)];have sL:ah H3 (upd H3 L (.lst (xs.drop 1))):=ah.new hL;have hL1:cq K (upd H3 L (.lst (xs.drop 1))) L (xs.drop 1) true:=bg.of af;generalize upd H3 L (.lst (xs.drop 1))=H4 at sL hL1 ⊢;have d4:=aE.same (s3.trans sL) hds;have d5:=aE.drop 1 d4;refine⟨l,L,true,true,rfl,⟨_,cq.same sL l3⟩,⟨_,hL1⟩,?_⟩;refine oz (fs:=((ps.zip (ps.drop 1)).map λz=>decide (z.1.1<z.2.1)&&decide (z.1.2<=z.2.2)).map Le) (cq.same sL l3) hL1 d4 d5 (by simp) (by simp) (by simp;lia) (λi d e f x y Z H5 hd he hf s5 hx5 hy5 hZ R kk S=>?_) (λzs H5 s5 hzs D2 hD2=>?_)
  ·rw[GQ] at hd;rw[KD,GQ] at he;cases e1:ps[i]? with
   |none=>rw[e1] at hd;cases hd
   |some p=>
    cases e2:ps[1+i]? with
    |none=>rw[e2] at he;cases he
    |some r=>
     rw[e1] at hd;rw[e2] at he;cases hd;cases he;have hf:f=.bool (decide (p.1<r.1)&&decide (p.2<=r.2)):=by
      rw[Ks,GQ,(Ip (z:=(p,r))).mpr ⟨e1,by rw[KD];exact e2⟩] at hf;cases hf;rfl
     subst hf;refine⟨Z,_,rfl,fM.of hZ,rfl,_,_,rfl,_,_,rfl,rfl,?_⟩;exact aP (B:=S H5) ⟨_,rfl,_,rfl,x,y,p,r,rfl,hx5,hy5,kk _ _ ⟨ah.refl _,.bl _⟩⟩
  ·have e:=da hzs;subst e;exact⟨D2,_,rfl,bg.of af,q _ (((s3.trans sL).trans s5).trans (ah.new hD2))⟩
theorem eT:aD ["pairs","at","k"] ["pairs","at"] (ai fG):=dY
inductive nk (K:GB)(vs:List V)(H:Hp)(Q:VK)(_:XK):Prop
 |mk (x y:V) (ps:List Pt) (a:Rat) (z:Pt) (_:vs=[x,y]) (_:aW K H (pq ps) x) (_:aW K H (rD a) y) (_:2<=ps.length) (_:(∀ p∈ps,p.In)) (_:Bq 600 a) (_:ps.getLast?=some z) (_:a<=(z.1:Rat)) (_:∀ (v:V) (k:Nat) (p q:Pt) (H':Hp),ah H H'->vq ps a k p q->aW K H' (.tuple [h_ p,h_ q]) v->Q v H')
theorem nv (T:de K mg w):du P w K mg base (cE P w) 3 "stretch_to" ["pairs","at"] [] (nk K):=by
  refine T.x18.cal eT (bb:=λ_ _ _ _ _ H vs Q E hr h=>?_);obtain⟨x,y,ps,a,z,rfl,hx,hy,two,inn,oa,hz,ha,q⟩:=h;obtain⟨l,xs,rfl,hl,hds⟩:=bU (b:=true) hx;refine⟨_,(cD.go (aa (au 2 eT.nd ac)
   (aa (j8 Kd (aQ (aj aN (tu T) hr (aM (aj aN (qw T T.x26) hr (aB (aH K (aH K (ao 0) (ao 2)) ac))) (ao 1)))) (ae (AO (i:=2) eT.nd rfl (by first|exact Rr rfl|exact QY rfl) ac BY)))
   (ae (av (eF (aM (aH K (ao 0) (aq fu (ao 2) ac)) (aH K (ao 0) (ao 2))))))))),?_⟩
  have hlast:ps[ps.length-1]?=some z:=by rw[<- Ja];exact hz
  refine⟨λm σ H'=>∃ k:Nat,σ=[some (.ref l),some y,some (.int k)]/\ah H H'/\1<=k/\k<ps.length/\(k=1\/∃ p,ps[k-1]?=some p/\(p.1:Rat)<a)/\m=ps.length-k,⟨_,1,rfl,ah.refl _,by decide,by lia,.inl rfl,rfl⟩,?_⟩;rintro m σ H1 ⟨k,rfl,s1,k1,k2,hk,rfl⟩;have e1:ps[k]?=some ps[k]:=GF k2;obtain⟨v,ev,hv⟩:=je (aE.same s1 hds) e1;obtain⟨pa,rfl,hpa⟩:=cG hv;have ip:=inn _ (GS e1);have l1:=cq.same s1 hl;have st:Sm 20 (ps[k]).1:=by have:=ip.a1;have:=ip.a2;unfold Sm;lia
  refine⟨_,rfl,_,rfl,Ed l1 ev (eU hpa ⟨_,_,rfl,by decide,Sm.mono (k:=4) (by unfold Sm;decide) (by decide),Dl.sh (by decide) λv2 H2 s2 hv2=>?_⟩)⟩;have e2:((ps[k]).1:Rat)/((1:Int):Rat)=((ps[k]).1:Rat):=by
   rw[show((1:Int):Rat)=1 from rfl];grind
  rw[e2] at hv2;refine⟨_,rfl,v2,y,_,a,rfl,hv2,aW.same (s1.trans s2) hy,?_,oa.mono (by decide),_,rfl,?_⟩
  ·show Ok 3900 (((ps[k]).1:Rat)).num ((((ps[k]).1:Rat)).den:Int);rw[Pj,Ph];exact⟨by decide,by simp,st.mono (by decide),Sm.mono (k:=4) (by unfold Sm;decide) (by decide)⟩
  refine eB (λhc=>?_) (λhc=>?_)
  ·have hc:((ps[k]).1:Rat)<a:=IY hc;have kn:k+1<ps.length:=by
    by_cases e:k=ps.length-1
    ·exfalso;have ez:ps[k]?=some z:=by rw[e];exact hlast
     rw[e1] at ez;rw[GN ez] at hc;grind
    ·lia
   refine⟨_,λ_ _ w=>w,?_⟩;refine⟨_,rfl,_,_,rfl,rfl,?_⟩;exact⟨ps.length-(k+1),by lia,k+1,rfl,s1.trans s2,by lia,kn,.inr ⟨ps[k],by rw[Nat.add_sub_cancel];exact e1,hc⟩,rfl⟩
  ·have hc:¬ ((ps[k]).1:Rat)<a:=λw=>hc (GP w)
   have e0:ps[k-1]?=some ps[k-1]:=GF (by lia);obtain⟨v0,ev0,hv0⟩:=je (aE.same (s1.trans s2) hds) e0;have l2:=cq.same s2 l1;have ek:((k:Nat):Int)-1=((k-1:Nat):Int):=by lia
   refine⟨_,rfl,_,rfl,_,_,rfl,rfl,?_⟩;dsimp only;rw[ek];refine Ed l2 ev0 ⟨_,rfl,_,rfl,Ed l2 ev ⟨pX,λr hr=>?_⟩⟩;have sr:=s2.trans (ah.new (o:=.tup [v0,.ref pa]) hr);refine q _ (k-1) ps[k-1] ps[k] _ (s1.trans sr) ⟨e0,by rw[Nat.sub_add_cancel k1];exact e1,?_,by grind⟩ (aW.tupN hr (.cons hv0 (.cons (aW.same s2 hv) .nil)));rcases hk with w|⟨p,w1,w2⟩
   ·exact .inl (by lia)
   ·rw[e0] at w1;cases w1;exact .inr w2
theorem dP:aD ["low","high","at","run","rise","top","below"] uC2 (ai jZ):=dY
inductive ur (K:GB)(vs:List V)(H:Hp)(Q:VK)(_:XK):Prop
 |mk (x y z:V) (p q:Pt) (a:Rat) (_:vs=[x,y,z]) (_:aW K H (h_ p) x) (_:aW K H (h_ q) y) (_:aW K H (rD a) z) (_:p.In) (_:q.In) (_:p.1<q.1) (_:Bq 600 a) (_:Dl K H (EY p q a) Q)
theorem ui (T:de K mg w):du P w K mg base (cE P w) 3 "on_line" uC2 [] (ur K):=by
  refine T.x19.cal dP (bb:=λ_ _ _ _ _ H vs Q E hr h=>?_);obtain⟨x,y,z,p,r,c,rfl,hx,hy,hz,ip,ir,hlt,oc,q⟩:=h;obtain⟨a,rfl,ha⟩:=cG hx;obtain⟨b,rfl,hb⟩:=cG hy;obtain⟨d,rfl,hd⟩:=cG hz;refine⟨_,(cD.go (aa (au 3 dP.nd (aq fu (aH K (ao 1) ac) (aH K (ao 0) ac)))
   (aa (au 4 dP.nd (aq fu (aH K (ao 1) ac) (aH K (ao 0) ac)))
   (aa (gQ (ao 2) (gG (K:=K) (n:=2) rfl rfl (aK (am 5 dP.nd) (aK (am 6 dP.nd) bX))))
   (ae (av (aj aN (qw T T.x25) hr (aM (aq bW (aq bu (aq bu (aH K (ao 0) ac) (ao 3)) (ao 6)) (aq bu (aq fu (ao 5) (aq bu (aH K (ao 0) ac) (ao 6))) (ao 4))) (aq bu (ao 3) (ao 6)))))))))),?_⟩
  have s11:∀ {i:Int},0<=i->i<=1000->Sm 10 i:=λh1 h2=>by unfold Sm;lia
  have s12:∀ {i j:Int},0<=i->i<=1000->0<=j->j<=1000->Sm 11 (i-j):=λh1 h2 h3 h4=>by unfold Sm;lia
  refine⟨_,rfl,eU hb ⟨_,rfl,eU ha ⟨_,_,rfl,rfl,?_⟩⟩⟩;refine⟨_,rfl,ju hb ⟨_,rfl,ju ha ⟨_,_,rfl,rfl,?_⟩⟩⟩;refine⟨_,rfl,d,_,rfl,fM.of hd,rfl,_,_,rfl,_,_,rfl,rfl,?_⟩;have sr:Sm 11 (r.1-p.1):=s12 ir.a1 ir.a2 ip.a1 ip.a2;have su:Sm 11 (r.2-p.2):=s12 ir.b1 ir.b2 ip.b1 ip.b2;refine⟨_,rfl,ju ha ⟨_,rfl,_,_,rfl,rfl,.inr ((s11 ip.b1 ip.b2).mono (by decide)),?_⟩⟩;refine⟨_,rfl,_,_,rfl,rfl,.inr (((s11 ip.b1 ip.b2).mul sr).mono (by decide)),?_⟩;refine⟨_,rfl,_,rfl,eU ha ⟨_,rfl,_,_,rfl,rfl,.inr ((s11 ip.a1 ip.a2).mono (by decide)),_,_,rfl,rfl,_,rfl,?_⟩⟩;refine⟨_,_,rfl,rfl,.inl ⟨?_,su.mono (by decide)⟩,_,_,rfl,rfl,?_⟩
  ·exact((oc.sn.mono (show 600<=610 by decide)).sub ((s11 ip.a1 ip.a2).mul oc.sd)).mono (by decide)
  refine⟨_,rfl,_,rfl,_,_,rfl,rfl,.inr (sr.mono (by decide)),_,_,rfl,?_,?_,?_⟩
  ·exact Int.mul_ne_zero (by lia) (by exact_mod_cast c.den_nz)
  ·exact(sr.mul oc.sd).mono (by decide)
  ·rw[BX hlt] at q;exact Dl.sh (Int.mul_ne_zero (by lia) (by exact_mod_cast c.den_nz)) q
theorem ie:aD uC0 uC0 (ai cy):=dY
inductive ic (K:GB)(vs:List V)(H:Hp)(Q:VK)(_:XK):Prop
 |mk (a C dx:G7) (x:V) (ps:List Pt) (_:vs=[.ref a,x]) (_:bt K "Curve" C) (_:H a=some (.ins C dx [])) (_:aW K H (pq ps) x) (_:pM ps) (_:∀ H',Mv [a] H H'->tZ K H' ps (.ref a)->(∀ T,gH H T->tZ K (cut T H') ps (.ref a))->Q .non H')
theorem ce (T:de K mg w):pp P w K mg base (cE P w) 6 "Curve" "__init__" uC0 [] (ic K):=by
  refine T.x1a.cal ie (bb:=λ_ _ _ _ _ H vs Q E hr h=>?_);obtain⟨a,C,dx,x,ps,rfl,hC,hH,hx,hp,q⟩:=h;refine⟨_,(cD.go (aa (aR (aO (aQ (aj aN (pK T) hr (aB (ao 1))))) (ae b7) aF)
   (ae (mj (K:=K) (x:="Curve") rfl T.x5 (.head _) (ao 0) (bh (rM (K:=K) rfl) (by rfl) T.x8 jv (aB (ao 1))))))),?_⟩
  refine⟨_,rfl,x,ps,rfl,hx,hp,λH1 s1=>⟨_,rfl,aX ?_⟩⟩;have hx1:=aW.same s1 hx;obtain⟨l,xs,rfl,hl,hds⟩:=bU (b:=true) hx1;refine⟨_,rfl,l,xs,rfl,.inl hl,λL hL=>?_⟩;have sL:ah H1 (upd H1 L (.lst xs)):=ah.new hL;have ha:=sL _ _ (s1 _ _ hH);refine⟨_,rfl,a,C,dx,[],rfl,hC,ha,by decide,?_⟩;have na:L≠a:=λz=>by rw[z,s1 _ _ hH] at hL;cases hL
  have mv:Mv [a] (upd H1 L (.lst xs)) (upd (upd H1 L (.lst xs)) a (.ins C dx (dC "points" (.ref L) []))):=λb o e nb=>by rw[ap (λz=>nb (by simp[z]))];exact e
  have tup:∀ p∈ps.map h_,nE p=true:=λp hp=>by obtain⟨r,_,rfl⟩:=HH.mp hp;rfl
  have keep:∀ {ds:List Il}{ys:List V},(∀ p∈ds,∃ r:Pt,p=h_ r)->aE K (upd H1 L (.lst xs)) ds ys->aE K (upd (upd H1 L (.lst xs)) a (.ins C dx (dC "points" (.ref L) []))) ds ys:=λ{ds ys} hd h=>by
   induction ds generalizing ys with
   |nil=>cases h;exact .nil
   |cons d ds ih=>
    cases h with
    |cons h1 h2=>
     refine .cons ?_ (ih (λp hp=>hd p (GK _ hp)) h2);obtain⟨r,rfl⟩:=hd d (GX ..);obtain⟨pa,rfl,hpa⟩:=cG h1;exact rY (mv _ _ hpa (λz=>by rw[G5.mp z,ha] at hpa;cases hpa))
  have kd:=keep (ds:=ps.map h_) (λp hp=>by obtain⟨r,_,rfl⟩:=HH.mp hp;exact⟨r,rfl⟩) (aE.same sL hds);have gL:upd (upd H1 L (.lst xs)) a (.ins C dx (dC "points" (.ref L) [])) L=some (.lst xs):=by rw[ap na];exact af
  refine q _ (λb o e nb=>mv b o (sL _ _ (s1 _ _ e)) nb) ⟨a,C,dx,L,rfl,hC,af,.lst (.inl gL) kd⟩ λT lT=>?_
  have aT:a∉T:=lT.not hH λ_ z=>nomatch z
  have LT:L∉T:=λm=>by
   obtain⟨ys,e⟩:=lT L m;rw[s1 _ _ e] at hL;cases hL
  have lT':gH (upd (upd H1 L (.lst xs)) a (.ins C dx (dC "points" (.ref L) []))) T:=λb m=>by
   obtain⟨ys,e⟩:=lT b m;exact⟨ys,mv _ _ (sL _ _ (s1 _ _ e)) (λz=>aT (G5.mp z▸m))⟩
  exact⟨a,C,dx,L,rfl,hC,by rw[pW aT];exact af,.lst (.inl (by rw[pW LT];exact gL)) (aE.cutT lT' (uB ps) kd)⟩
theorem kL:aD ["self"] ["self"] (ai dF):=dY
inductive lf (K:GB)(vs:List V)(H:Hp)(Q:VK)(_:XK):Prop
 |mk (v:V) (ps:List Pt) (z:Pt) (_:vs=[v]) (_:tZ K H ps v) (_:ps.getLast?=some z) (_:Q (.int z.1) H)
theorem kI (T:de K mg w):pp P w K mg base (cE P w) 1 "Curve" "last" ["self"] [] (lf K):=by
  refine T.x1b.cal kL (bb:=λ_ _ _ _ _ H vs Q E hr h=>?_);obtain⟨v,ps,z,rfl,⟨a,C,dx,l,rfl,hC,hH,hd⟩,hz,q⟩:=h;refine⟨_,(cD.go (ae (av (aH K (aH K (dJ (K:=K) (x:="Curve") rfl T.x5 (.head _) (ao 0)) (pF pR ac)) ac)))),?_⟩;obtain⟨l',xs,e,hl,hds⟩:=bU (b:=true) hd;cases e;obtain⟨u,eu,hu⟩:=qC hds hz;obtain⟨pa,rfl,hpa⟩:=cG hu;exact⟨_,rfl,a,C,dx,_,_,rfl,hC,hH,rfl,_,rfl,.inl ⟨l,xs,_,_,rfl,rfl,hl,mO eu,eU hpa q⟩⟩
theorem cU:aD ["self","place","low","high"] uA7 (ai dc):=dY
inductive jL (K:GB)(vs:List V)(H:Hp)(Q:VK)(_:XK):Prop
 |mk (v x:V) (ps:List Pt) (a:Rat) (z:Pt) (_:vs=[v,x]) (_:tZ K H ps v) (_:aW K H (rD a) x) (_:pM ps) (_:Bq 600 a) (_:ps.getLast?=some z) (_:0<=a) (_:a<=(z.1:Rat)) (_:∀ (w:V) (c:Rat) (H':Hp),ah H H'->Fc ps a c->aW K H' (rD c) w->Q w H')
theorem eX (T:de K mg w):pp P w K mg base (cE P w) 4 "Curve" "value" uA7 [] (jL K):=by
  refine T.x1c.cal cU (bb:=λ_ _ _ _ _ H vs Q E hr h=>?_);obtain⟨v,x,ps,c,z,rfl,hv,hx,hp,oc,hz,c0,cz,q⟩:=h;refine⟨_,(cD.go (aa (aR (WW.pt (bZ (aO (aQ (aj aN (sw T) hr (aB (ao 1))))) (bP (aO (aQ (aj aN (oV T) hr (ag (ao 1) (ag ac (ag (wE (K:=K) rfl aN (kI T) (hr.mono (by decide)) (ao 0)) aY))))))))) (ae b7) aF)
   (aa (gQ (aj aN (nv T) hr (aM (dJ (K:=K) (x:="Curve") rfl T.x5 (.head _) (ao 0)) (ao 1))) (gG (K:=K) (n:=2) rfl rfl (aK (am 2 cU.nd) (aK (am 3 cU.nd) bX))))
   (ae (av (aj aN (ui T) hr (ag (ao 2) (ag (ao 3) (ag (ao 1) aY))))))))),?_⟩
  refine⟨_,rfl,x,_,rfl,hx,_,rfl,?_⟩;rw[A1];refine aX ?_;obtain⟨a,C,dx,l,rfl,hC,hH,hd⟩:=id hv;have iz:=hp.inn z (KO hz);refine⟨_,rfl,_,rfl,a,C,dx,_,rfl,hC,hH,rfl,.ref a,ps,z,rfl,hv,hz,x,c,0,z.1,rfl,hx,oc.mono (by decide),?_,?_,?_⟩
  ·unfold Sm;decide
  ·refine Sm.mono (k:=20) ?_ (by decide);have:=iz.a1;have:=iz.a2;unfold Sm;lia
  have e1:decide (0*(c.den:Int)<=c.num)=true:=GP (by rw[Int.zero_mul];exact Rat.num_nonneg.mpr c0);have e2:decide (c.num<=z.1*(c.den:Int))=true:=GP (by
   have h:=(Rat.le_iff c (z.1:Rat)).mp cz;rw[Pj,Ph] at h
   simpa using h)
  rw[e1,e2];refine⟨_,rfl,aX ?_⟩;refine⟨_,rfl,a,C,dx,_,_,rfl,hC,hH,rfl,_,rfl,.ref l,x,ps,c,z,rfl,hd,hx,hp.two,hp.inn,oc,hz,cz,λu k p r H1 s1 st hu=>?_⟩;obtain⟨tp,ys,rfl,ht,hys⟩:=bU (b:=false) hu;obtain⟨y0,y1,rfl,g0,g1⟩:∃ y0 y1,ys=[y0,y1]/\aW K H1 (h_ p) y0/\aW K H1 (h_ r) y1:=by
   cases hys with
   |cons h1 h2=>
    cases h2 with
    |cons h3 h4=>
     cases h4;exact⟨_,_,rfl,h1,h3⟩
  refine⟨tp,_,rfl,ht,rfl,_,_,rfl,_,_,rfl,rfl,?_⟩;have hlt:=(hp.up k p r st.lo st.hi).1;refine⟨_,rfl,_,rfl,_,rfl,y0,y1,x,p,r,c,rfl,g0,g1,aW.same s1 hx,hp.inn p (GS st.lo),hp.inn r (GS st.hi),hlt,oc,λw H2 s2 hw=>?_⟩;exact q w _ H2 (s1.trans s2) ⟨k,p,r,st,rfl⟩ hw
theorem qi:aD gV gV (ai iQ):=dY
inductive ss (K:GB)(vs:List V)(H:Hp)(Q:VK)(_:XK):Prop
 |mk (x:V) (d:Il) (_:vs=[x]) (_:aW K H d x) (_:Q (.bl (j5 2 7 d)) H)
theorem rc (T:de K mg w):du P w K mg base (cE P w) 3 "is_knots" gV [] (ss K):=by
  refine T.x1d.cal qi (bb:=λ_ _ _ _ _ H vs Q E hr h=>?_);obtain⟨x,d,rfl,hx,q⟩:=h;refine⟨_,(cD.go (ae (av (aj aN (cA T) hr (ag (ao 0) (ag (bM rfl T.xe) (ag (bM rfl T.xi) aY))))))),?_⟩;exact⟨_,rfl,x,d,2,7,rfl,hx,q⟩
theorem ud:aD uA2 uA2 (ai jW):=dY
inductive tO (K:GB)(vs:List V)(H:Hp)(Q:VK)(_:XK):Prop
 |mk (x:V) (ns:List Int) (n:Int) (_:vs=[x,.int n]) (_:aW K H (.tuple (ns.map IG)) x) (_:ns.length=3) (_:∀ H',ah H H'->Q (.bl (ns.all λk=>decide (0<=k)&&decide (k<=n-1))) H')
theorem l_ (T:de K mg w):du P w K mg base (cE P w) 4 "is_knot" uA2 [] (tO K):=by
  refine T.x1e.cal ud (bb:=λ_ _ _ _ _ H vs Q E hr h=>?_);obtain⟨x,ns,n,rfl,hx,hl,q⟩:=h;refine⟨_,(cD.go (ae (av (aj aN (cw T) hr (ag (ao 0) (ag ac (ag ac (ag (aq fu (ao 1) ac) aY)))))))),?_⟩;exact⟨_,rfl,_,rfl,_,_,rfl,rfl,x,ns,3,0,n-1,rfl,hx,by lia,by lia,q⟩
theorem ke:aD gV gV (ai iT):=dY
inductive si (K:GB)(vs:List V)(H:Hp)(Q:VK)(_:XK):Prop
 |mk (x:V) (ns:List Int) (_:vs=[x]) (_:aW K H (.tuple (ns.map IG)) x) (_:ns.length=3) (_:∀ H',ah H H'->Q (.bl (ns.all λk=>decide (0<=k)&&decide (k<=1000))) H')
theorem rz (T:de K mg w):du P w K mg base (cE P w) 4 "is_worth" gV [] (si K):=by
  refine T.xs.cal ke (bb:=λ_ _ _ _ _ H vs Q E hr h=>?_);obtain⟨x,ns,rfl,hx,hl,q⟩:=h;refine⟨_,(cD.go (ae (av (aj aN (cw T) hr (ag (ao 0) (ag ac (ag ac (ag (bM rfl T.xh) aY)))))))),?_⟩;exact⟨_,rfl,x,ns,3,0,1000,rfl,hx,by lia,by lia,q⟩
inductive mZ (K:GB)(vs:List V)(H:Hp)(Q:VK)(_:XK):Prop
 |mk (x:V) (d:Il) (_:vs=[x]) (_:yG K H d x) (_:∀ H',ah H H'->Q (.bl (kG 3 0 1000 d)) H')
theorem mU (T:de K mg w):du P w K mg base (cE P w) 4 "is_worth" gV [] (mZ K):=by
  refine T.xs.cal ke (bb:=λ_ _ _ _ _ H vs Q E hr h=>?_);obtain⟨x,d,rfl,hx,q⟩:=h;refine⟨_,(cD.go (ae (av (aj aN (c9 T) hr (ag (ao 0) (ag ac (ag ac (ag (bM rfl T.xh) aY)))))))),?_⟩;exact⟨_,rfl,x,d,3,0,1000,rfl,hx,by decide,q⟩
theorem rQ:aD uA2 uA2 (ai iU):=dY
inductive qB (K:GB)(vs:List V)(H:Hp)(Q:VK)(_:XK):Prop
 |mk (d:G7) (n:Nat) (f:Kn->R3) (_:vs=[.ref d,.int n]) (_:Gr K H n f d) (_:zL n f) (_:n<=7) (_:∀ H',ah H H'->Q (.bl true) H')
theorem qm (T:de K mg w):du P w K mg base (cE P w) 5 "is_table" uA2 [] (qB K):=by
  refine T.x1f.cal rQ (bb:=λ_ _ _ _ _ H vs Q E hr h=>?_);obtain⟨d,n,f,rfl,hg,hw,h7,q⟩:=h;obtain⟨ts,pm,vs,hd,hvs⟩:=hg;have hlen:=nZ.len hvs;have kl:(d_ ts vs).length=n^3:=by rw[iW hlen,pm.length_eq,bo]
  have n3:n^3<=7^3:=JX h7 3;refine⟨_,(cD.go (aa (aR (WW.pt (bZ (aO (aQ (ak (kC (K:=K) rfl) (by rfl) T.x0 ax (aM (ao 0) (ck (v:=.ty "dict") rfl T.xm uy rfl))))) (bP (aG gy (ak wc (by rfl) T.x2 bK (aB (ao 0))) (aq xT (ao 1) ac) (aL _))))) (ae (av bO)) aF)
   (ae (av (ak (jA (K:=K) rfl rfl) (by rfl) T.x6 fj (aB (qY (aS ["place","worth"] ["knots"] [1] 2 (vI (ao 0)) (λnd=>(gG (K:=K) (n:=2) rfl rfl (aK (am 0 nd) (aK (am 1 nd) bX)))) aJ (lB (aj aN (l_ T) hr (aM (ao 0) (ao 2))) (jm (aj aN (rz T) hr (aB (ao 1))))))))))))),?_⟩
  refine⟨_,rfl,_,_,_,true,rfl,.dT hd,(show bn "dict" "dict"=some true by decide +kernel),_,rfl,aX ?_⟩;refine⟨_,rfl,d,_,rfl,.inl hd,_,rfl,_,_,rfl,rfl,⟨by decide,by decide,by lia⟩,_,_,rfl,rfl,false,?_,aX ?_⟩
  ·show V.bl (!decide (((d_ ts vs).length:Int)=(n:Int)^(3:Int).toNat))=_;rw[kl,GP (by show((n^3:Nat):Int)=(n:Int)^3;simp)];rfl
  refine⟨_,rfl,d,_,rfl,hd,λo=>tT (d:=d) (bs:=GY (d_ ts vs).length true) af (by simp) (by lia) (λi k x ka T b H1 hk hb s1 hka hT R kk S=>?_) (λH1 s1 D hD=>?_)⟩
  ·obtain⟨t,e1,rfl,e2⟩:=wR hk;have hb:b=true:=by
    rw[Mm] at hb
    split at hb
    ·exact(GN hb).symm
    ·cases hb
   subst hb;have ht:t∈az n:=pm.mem_iff.mp (GS e1);have hm:=bx.mp ht;have wt:=hw t ht;have hx:aW K H1 (wD (f t)) x:=by
    obtain⟨dd,ed,hx⟩:=hvs.get e2;rw[GQ,e1] at ed;cases ed;have hT':aW K (upd H d (.frz o (.dT (d_ ts vs)))) (wD (f t)) x:=by
     obtain⟨a,xs,rfl,ha,hxs⟩:=bU (b:=false) (ds:=(f t).ds) hx;have hx':aW K H (.tuple (f t).ds) (.ref a):=hx;cases hx' with
     |tup h1 h2=>exact .tup (by rw[ap (λz=>by rw[z,hd] at h1;cases h1)];exact h1) (by cases gX h2;exact .cons (.int _) (.cons (.int _) (.cons (.int _) .nil)))
    exact aW.same s1 hT'
   have e3:([(t.1:Int),(t.2.1:Int),(t.2.2:Int)].all λk=>decide (0<=k)&&decide (k<=(n:Int)-1))=true:=by
    simp only[K_,QU,LJ,G6,Io];lia
   have e4:([(f t).a,(f t).b,(f t).c].all λk=>decide (0<=k)&&decide (k<=1000))=true:=by
    obtain⟨a0,a1,b0,b1,c0,c1⟩:=wt;simp only[K_,QU,LJ,G6,Io];lia
   refine⟨T,_,rfl,fM.of hT,rfl,_,_,rfl,_,_,rfl,rfl,aP (B:=S H1) ?_⟩;refine⟨_,rfl,_,rfl,.ref ka,[(t.1:Int),(t.2.1:Int),(t.2.2:Int)],n,rfl,ug hka,rfl,λH2 s2=>⟨true,by rw[e3],aP ?_⟩⟩;exact⟨_,rfl,x,[(f t).a,(f t).b,(f t).c],rfl,aW.same s2 hx,rfl,λH3 s3=>by rw[e4];exact kk _ _ ⟨s2.trans s3,rfl⟩⟩
  ·have nd:D≠d:=λz=>by rw[z,s1 _ _ af] at hD;cases hD
   refine⟨d,o,d_ ts vs,hd,by rw[ap (Jj nd)];exact s1 _ _ af,D,_,rfl,bg.of (by rw[ap nd];exact af),?_⟩;rw[show(GY (d_ ts vs).length true).all id=true by simp];refine q _ λb u e=>?_
   by_cases hb:b=d
   ·subst hb;rw[hd] at e;cases e;exact af
   ·rw[ap hb];have e':=s1 b u (by rw[ap hb];exact e);rw[ap (λz=>by rw[z,hD] at e';cases e')];exact e'
theorem fI:aD ["many","numbers"] ["many"] (ai dN):=dY
inductive lh (K:GB)(vs:List V)(H:Hp)(Q:VK)(_:XK):Prop
 |mk (n:Nat) (_:vs=[.int n]) (_:n<=7) (_:∀ (D:G7) (ys:List V) (H':Hp),ah H H'->H' D=some (.lst ys)->aE K H' ((az n).map zJ) ys->Q (.ref D) H')
theorem fP (T:de K mg w):du P w K mg base (cE P w) 1 "places_below" ["many"] [] (lh K):=by
  refine T.x1g.cal fI (bb:=λ_ _ _ _ _ H vs Q E hr h=>?_);obtain⟨n,rfl,h7,q⟩:=h;refine⟨_,(cD.go (aa (au 1 fI.nd (bh (pZ rfl) (by rfl) T.x8 jv (ag (AQ rfl T.x4 (aB (ao 0))) aY)))
   (ae (av (we rfl (bA (K:=K) rfl (ao 1)) (i' (by decide +kernel) (by rfl)) (mo (ts:=["a","b","c"]) (cs:=uC3) (js:=[1]) (k:=3) (by rfl) rfl rfl) (λ_ _ _ _ _=>(am 0 (show Ob (α:=Str) uB9 by decide +kernel))) (λ_ _ _ _ _=>aJ) (λ_ _ _ _ _=>(qN rfl rfl rfl (bA (K:=K) rfl (ao 3)) (am 1 (show Ob (α:=Str) uB9 by decide +kernel)) aJ (qN rfl rfl rfl (bA (K:=K) rfl (ao 3)) (am 2 (show Ob (α:=Str) uB9 by decide +kernel)) aJ (wF rfl rfl (eF (ag (ao 0) (ag (ao 1) (ag (ao 2) aY))))))))))))),?_⟩
  refine⟨_,rfl,n,rfl,by lia,λp hp=>⟨p,n,rfl,af,by lia,λl hl=>?_⟩⟩;have s0:ah H (upd (upd H p (.rng 0 n)) l (.lst ((qR n).map V.int))):=(ah.new hp).trans (ah.new hl);have hl0:cq K (upd (upd H p (.rng 0 n)) l (.lst ((qR n).map V.int))) l ((qR n).map V.int) true:=bg.of af;generalize upd (upd H p (.rng 0 n)) l (.lst ((qR n).map V.int))=H0 at s0 hl0 ⊢;refine⟨_,rfl,l,true,rfl,⟨_,hl0⟩,vE (xs:=(qR n).map V.int) (λi ys H'=>ah H0 H'/\aE K H' ((mW n i).map zJ) ys) ⟨ah.refl _,.nil⟩ (λi ys H' _ p=>cq.same p.1 hl0) (λi x ys H1 hx p R kk S=>?_) (λys H1 p=>?_)⟩
  ·obtain⟨hi,rfl⟩:=pG hx;obtain⟨s1,d1⟩:=p;refine aP (B:=S H1) ⟨_,rfl,l,true,rfl,⟨_,cq.same s1 hl0⟩,qQ (xs:=(qR n).map V.int) (λj σ ys' H'=>(∃ o1 o2,σ=[some (.int i),o1,o2,some (.ref l)])/\ah H0 H'/\aE K H' ((mW n i++mS n i j).map zJ) ys') ⟨⟨none,none,rfl⟩,s1,by simpa [mS] using d1⟩ (λj σ ys' H' _ p=>cq.same p.2.1 hl0) (λj x σ ys' H2 hx p R2 kk2 S2=>?_) (λσ ys' H2 p=>?_)⟩
   ·obtain⟨hj,rfl⟩:=pG hx;obtain⟨⟨o1,o2,rfl⟩,s2,d2⟩:=p;refine aP (B:=S2 [some (.int i),some (.int j),o2,some (.ref l)] H2) ⟨_,rfl,l,true,rfl,⟨_,cq.same s2 hl0⟩,qQ (xs:=(qR n).map V.int) (λk σ ys'' H'=>(∃ o2,σ=[some (.int i),some (.int j),o2,some (.ref l)])/\ah H0 H'/\aE K H' ((mW n i++mS n i j++nX i j k).map zJ) ys'') ⟨⟨o2,rfl⟩,s2,by simpa [nX] using d2⟩ (λj σ ys' H' _ p=>cq.same p.2.1 hl0) (λk x σ ys'' H3 hx p R3 kk3 S3=>?_) (λσ ys'' H3 p=>?_)⟩
    ·obtain⟨hk,rfl⟩:=pG hx;obtain⟨⟨o3,rfl⟩,s3,d3⟩:=p;have hlen:=d3.length;rw[GG] at hlen;refine aP (B:=S3 [some (.int i),some (.int j),some (.int k),some (.ref l)] H3) ⟨bL (by rw[<- hlen];exact GV (yC h7 hi hj (Kc hk)) (by decide)),_,rfl,_,rfl,_,rfl,Cp,λp hp=>kk3 _ _ _ ⟨⟨_,rfl⟩,s3.trans (ah.new hp),?_⟩⟩;rw[rR,<- Ku,JL];exact(aE.same (ah.new hp) d3).snoc (ug (t:=(i,j,k)) af)
    ·obtain⟨⟨o3,rfl⟩,s3,d3⟩:=p;rw[GG,jd] at d3;exact kk2 _ _ _ ⟨⟨_,_,rfl⟩,s3,by rw[mE,<- Ku];exact d3⟩
   ·obtain⟨⟨o1,o2,rfl⟩,s2,d2⟩:=p;rw[GG,jd] at d2;exact kk _ _ _ ⟨s2,by rw[my];exact d2⟩
  ·obtain⟨s1,d1⟩:=p;rw[GG,jd,As] at d1;have hlen:=d1.length;rw[GG,bo] at hlen;refine⟨?_,λD hD=>q D ys _ ((s0.trans s1).trans (ah.new hD)) af (aE.same (ah.new hD) d1)⟩;have:n^3<=7^3:=JX h7 3;lia
theorem iK:aD uB0 uB0 (ai cQ):=dY
inductive iI (K:GB)(vs:List V)(H:Hp)(Q:VK)(_:XK):Prop
 |mk (a C dx d:G7) (n:Nat) (f:Kn->R3) (_:vs=[.ref a,.int n,.ref d]) (_:bt K "Grid" C) (_:H a=some (.ins C dx [])) (_:Gr K H n f d) (_:zL n f) (_:2<=n) (_:n<=7) (_:∀ (H':Hp) (L:G7),Mv [a] H H'->H' a=some (.ins C dx [("knots",.int n),("table",.ref L)])->Gr K H' n f L->H L=none->Q .non H')
theorem dW (T:de K mg w):pp P w K mg base (cE P w) 6 "Grid" "__init__" uB0 [] (iI K):=by
  refine T.x1h.cal iK (bb:=λ_ _ _ _ _ H vs Q E hr h=>?_);obtain⟨a,C,dx,d,n,f,rfl,hC,ha,hg,hw,h2,h7,q⟩:=h;refine⟨_,(cD.go (aa (aR (aO (aQ (aj aN (rc T) hr (aB (ao 1))))) (ae b7) aF)
   (aa (aR (aO (aQ (aj aN (qm T) hr (aM (ao 2) (ao 1))))) (ae b7) aF)
   (aa (mj (K:=K) (x:="Grid") rfl T.x3 (.head _) (ao 0) (ao 1))
   (ae (mj (K:=K) (x:="Grid") rfl T.x3 (.tail _ (.head _)) (ao 0) (bh t6 (by rfl) T.xm uy (aB (ao 2))))))))),?_⟩
  have e1:j5 2 7 (.int (n:Int))=true:=by
   show(decide ((2:Int)<=n)&&decide ((n:Int)<=7))=true;rw[GP (show(2:Int)<=n by lia),GP (show(n:Int)<=7 by lia)];rfl
  refine⟨_,rfl,.int n,.int n,rfl,.int _,true,by rw[e1],aX ?_⟩;refine⟨_,rfl,_,rfl,d,n,f,rfl,hg,hw,h7,λH1 s1=>⟨_,rfl,aX ?_⟩⟩;have ha1:=s1 _ _ ha;have hg1:=hg.same s1;refine⟨_,rfl,_,rfl,a,C,dx,[],rfl,hC,ha1,by decide,?_⟩;obtain⟨ts,pm,vs,hd,hvs⟩:=id hg1;have hlen:=nZ.len hvs;have na:d≠a:=λz=>by rw[z,ha1] at hd;cases hd
  have mv1:Mv [a] H1 (upd H1 a (.ins C dx (dC "knots" (.int n) []))):=λb o e nb=>by rw[ap (λz=>nb (by simp[z]))];exact e
  have ne:d_ ts vs≠[]:=λz=>by
   have:=KG Ou z;rw[iW hlen,pm.length_eq,bo] at this;have:0<n^3:=Nat.pow_pos (by lia);rw[Mo] at *;lia
  refine⟨_,rfl,d,_,rfl,.inl (mv1 _ _ hd (by simp[na])),ne,AU h7 pm hlen,λL hL=>?_⟩;refine⟨_,rfl,a,C,dx,_,rfl,hC,by rw[ap (λz=>by rw[<- z,af] at hL;cases hL)];exact af,by show 1<1000;decide,?_⟩;have La:L≠a:=λz=>by rw[z,af] at hL;cases hL
  have mv2:Mv [a] H1 (upd (upd (upd H1 a (.ins C dx (dC "knots" (.int n) []))) L (.dT (d_ ts vs))) a (.ins C dx (dC "table" (.ref L) (dC "knots" (.int n) [])))):=λb o e nb=>by
   have nb:b≠a:=λz=>nb (by simp[z])
   rw[ap nb,ap (λz=>by rw[<- z,ap nb,e] at hL;cases hL),ap nb];exact e
  have wkeep:∀ {ts:List Kn}{ws:List V}{H':Hp},Mv [a] H1 H'->aE K H1 (ts.map λt=>wD (f t)) ws->aE K H' (ts.map λt=>wD (f t)) ws:=λ{ts ws H'} m h=>by
   induction ts generalizing ws with
   |nil=>cases h;exact .nil
   |cons t ts ih=>
    cases h with
    |cons h1 h2=>
     refine .cons ?_ (ih h2);have h1':aW K H1 (.tuple (f t).ds) _:=h1;cases h1' with
     |tup k1 k2=>
      cases gX k2;exact .tup (m _ _ k1 (λz=>by rw[G5.mp z,ha1] at k1;cases k1)) (.cons (.int _) (.cons (.int _) (.cons (.int _) .nil)))
  refine q _ L (λb o e nb=>mv2 b o (s1 _ _ e) nb) af ⟨ts,pm,vs,?_,wkeep mv2 hvs⟩ ?_
  ·rw[ap La];exact af
  ·cases z:H L with
   |none=>rfl
   |some o=>
    rw[ap La,s1 _ _ z] at hL;cases hL
theorem mh:aD uA7 uA7 (ai eP):=dY
inductive lO (K:GB)(vs:List V)(H:Hp)(Q:VK)(_:XK):Prop
 |mk (v x:V) (n:Nat) (f:Kn->R3) (t:Kn) (_:vs=[v,x]) (_:vX K H n f v) (_:aW K H (zJ t) x) (_:t∈az n) (_:∀ (w:V) (H':Hp),ah H H'->aW K H' (wD (f t)) w->Q w H')
theorem gj (T:de K mg w):pp P w K mg base (cE P w) 5 "Grid" "knot" uA7 [] (lO K):=by
  refine T.x1i.cal mh (bb:=λ_ _ _ _ _ H vs Q E hr h=>?_);obtain⟨v,x,n,f,t,rfl,hv,hx,ht,q⟩:=h;obtain⟨a,C,dx,d,rfl,hC,ha,hg⟩:=id hv;refine⟨_,(cD.go (aa (aR (aO (aQ (aj aN (l_ T) hr (aM (ao 1) (dJ (K:=K) (x:="Grid") rfl T.x3 (.head _) (ao 0)))))) (ae b7) aF)
   (ae (av (lY hr.u1 (dJ (K:=K) (x:="Grid") rfl T.x3 (.tail _ (.head _)) (ao 0)) (ao 1) (λ_ _=>rfl)))))),?_⟩
  have hm:=bx.mp ht;have e:([(t.1:Int),(t.2.1:Int),(t.2.2:Int)].all λk=>decide (0<=k)&&decide (k<=(n:Int)-1))=true:=by
   simp only[K_,QU,LJ,G6,Io];lia
  refine⟨_,rfl,_,rfl,a,C,dx,_,_,rfl,hC,ha,rfl,x,[(t.1:Int),(t.2.1:Int),(t.2.2:Int)],n,rfl,hx,rfl,λH1 s1=>⟨true,by rw[e],aX ?_⟩⟩;obtain⟨b,rfl,hb⟩:=u7 (aW.same s1 hx);obtain⟨w,g1,g2⟩:=xJ (hg.same s1) ht hb;exact⟨_,rfl,a,C,dx,_,_,rfl,hC,s1 _ _ ha,rfl,_,rfl,d,w,rfl,g1,q _ _ s1 g2⟩
theorem jB:aD gV gV (ai cT):=dY
inductive jF (K:GB)(vs:List V)(H:Hp)(Q:VK)(_:XK):Prop
 |mk (v:V) (n:Nat) (f:Kn->R3) (_:vs=[v]) (_:vX K H n f v) (_:Q .non H)
theorem jK (T:de K mg w):du P w K mg base (cE P w) 1 "refuse_no_grid" gV [] (jF K):=by
  refine T.x1j.cal jB (bb:=λ_ _ _ _ _ H vs Q E hr h=>?_);obtain⟨v,n,f,rfl,hv,q⟩:=h;obtain⟨a,C,dx,d,rfl,hC,ha,hg⟩:=id hv;refine⟨_,(cD.go (ae (aR (aO (aQ (ak (u6 (K:=K) (x:="Grid") rfl T.x3 T.xa) (by rfl) T.x0 ax (aM (ao 0) (bJ (K:=K) (x:="Grid") rfl rfl (gN T.x3)))))) (ae b7) aF))),?_⟩;refine⟨_,rfl,λD hD=>?_⟩;have e:=bw hC hD;subst e;exact⟨_,_,rfl,hD,.inl ⟨a,dx,_,rfl,ha,_,rfl,aX q⟩⟩
theorem jo:aD gV gV (ai cY):=dY
def BL (K:GB)(H:Hp)(v:V):Prop:=(∃ d,aW K H d v/\∀ i,d≠.str i)\/∃ a C dx fs,v=.ref a/\(bt K "Grid" C\/bt K "Curve" C)/\H a=some (.ins C dx fs)
inductive im (K:GB)(vs:List V)(H:Hp)(Q:VK)(E:XK):Prop
 |mk (v:V) (_:vs=[v]) (_:((∃ s:Str,v=.str s/\Q .non H)\/(BL K H v/\Rz K 10 H E)))
theorem dk (T:de K mg w):du P w K mg base (cE P w) 1 "refuse_no_text" gV [] (im K):=by
  refine T.x1k.calX jo (bb:=λ_ _ _ _ _ H vs Q E hr h=>?_);obtain⟨v,rfl,h⟩:=h;refine⟨_,(cD.go (ae (aR (aO (aQ (ak (br.or (BC (K:=K) (x:="Curve") rfl T.x5 T.xk T.xw) (br.or (BC (K:=K) (x:="Grid") rfl T.x3 T.xa T.xx) (kC (K:=K) rfl))) (by rfl) T.x0 ax (aM (ao 0) (ck (v:=.ty "str") rfl T.x7 iH rfl))))) (ae (c5 (K:=K) rfl cH rfl rfl rfl (fh T.x1 (i:=10) rfl) (aB ay))) aF))),?_⟩;rcases h with ⟨i,rfl,q⟩|⟨⟨d,hd,ns⟩|⟨a,C,dx,fs,rfl,hC,ha⟩,qz⟩
  ·exact⟨_,rfl,.inr (.inr ⟨_,_,_,true,rfl,.str i,(show bn "str" "str"=some true by decide +kernel),_,rfl,aX q⟩)⟩
  ·exact⟨_,rfl,.inr (.inr ⟨_,_,_,false,rfl,hd.ty,Ba ns,_,rfl,aP ⟨uk,qz.now (ah.refl _) rfl⟩⟩)⟩
  ·rcases hC with hC|hC
   ·exact⟨_,rfl,.inr (.inl ⟨a,C,dx,fs,rfl,hC,ha,_,rfl,aP ⟨uk,qz.now (ah.refl _) rfl⟩⟩)⟩
   ·exact⟨_,rfl,.inl ⟨a,C,dx,fs,rfl,hC,ha,_,rfl,aP ⟨uk,qz.now (ah.refl _) rfl⟩⟩⟩
theorem li:aD uC3 uC3 (ai dM):=dY
inductive kH (K:GB)(vs:List V)(H:Hp)(Q:VK)(_:XK):Prop
 |mk (x:V) (ns:List Int) (_:vs=[x]) (_:aW K H (.tuple (ns.map IG)) x) (_:ns.length<=3) (_:(∀ n∈ns,0<=n/\n<10^4)) (_:∀ H',ah H H'->Q (.str (i7 ns)) H')
theorem df (T:de K mg w):du P w K mg base (cE P w) 1 "numbers_text" uC3 [] (kH K):=by
  refine T.x1l.cal li (bb:=λ_ _ _ _ _ H vs Q E hr h=>?_);obtain⟨x,ns,rfl,hx,hl,hn,q⟩:=h;refine⟨_,(cD.go (ae (av (cB Iq Jl Jm (eD (K:=K) rfl) ay (aB (aS ["number"] [] [] 1 (bA (K:=K) rfl (ao 0)) (λnd=>(am 0 nd)) aJ (bh b9 (by rfl) T.x7 iH (aB (ao 0))))))))),?_⟩;obtain⟨a,xs,rfl,ha,hxs⟩:=bU (b:=false) (ds:=ns.map IG) hx;refine⟨rfl,_,rfl,a,false,rfl,⟨_,ha⟩,bB (b:=false) (ds:=ns.map IG) (es:=(ns.map λn=>Iw (toString n)).map Ll) ha hxs (by simp) (by rw[GG];lia) (λj dj ej u H2 hdj hej s2 hu R kk S=>?_) (λzs H2 s2 hzs D hD=>?_)⟩
  ·rw[GQ] at hdj hej;rw[GQ] at hej;obtain⟨n,en,rfl⟩:=Hj.mp hdj;rw[en] at hej;cases hej;cases hu;have hb:=hn n (GS en);exact aP (B:=S H2) ⟨_,rfl,n,rfl,iP hb,kk _ _ ⟨ah.refl _,.str _⟩⟩
  ·have e:=fE hzs;subst e;refine⟨_,D,_,rfl,rfl,bg.of af,BP (B:=10) (λt ht=>?_) (by decide) (by rw[GG];lia),q _ (s2.trans (ah.new hD))⟩;obtain⟨n,hm,rfl⟩:=HH.mp ht;exact dA (hn n hm)
theorem pf:aD ["word"] ["word"] (ai gh):=dY
inductive o7 (K:GB)(vs:List V)(H:Hp)(Q:VK)(_:XK):Prop
 |mk (w:Str) (_:vs=[.str w]) (_:w.length<=GZ) (_:∀ H',ah H H'->Q (.bl (cN w)) H')
theorem oU (T:de K mg w):du P w K mg base (cE P w) 1 "is_number" ["word"] [] (o7 K):=by
  refine T.x1m.cal pf (bb:=λ_ _ _ _ _ H vs Q E hr h=>?_);obtain⟨w,rfl,hz,q⟩:=h;refine⟨_,(cD.go (aa (aR (WW.pt (bZ (aO (j6 gC gC ac (ak fb (by rfl) T.x2 bK (aB (ao 0))) (bM rfl T.xv))) (bP (aO (aQ (ak (jA (K:=K) rfl rfl) (by rfl) T.x6 fj (aB (aS ["sign"] [] [] 1 (zQ (ao 0)) (λnd=>(am 0 nd)) aJ (c6 vy (ao 0) (wK rfl T.xu) rfl))))))))) (ae (av bO)) aF)
   (ae (av (BS (c6 yr (ao 0) ay (aL _)) (jm (c6 jR (wI xB (ao 0) ac (λ_ _=>rfl)) ay (aL _)))))))),?_⟩
  by_cases h1:1<=w.length
  rotate_left
  ·have e:cN w=false:=by unfold cN;rw[Hr h1];rfl
   rw[e] at q;exact⟨_,rfl,w,rfl,hz,_,_,rfl,rfl,false,sk (by lia),aX ⟨_,rfl,aP (q _ (ah.refl _))⟩⟩
  by_cases h2:w.length<=4
  rotate_left
  ·have e:cN w=false:=by unfold cN;rw[Hr h2,NS];rfl
   rw[e] at q;exact⟨_,rfl,w,rfl,hz,_,_,rfl,rfl,true,fC (by lia),aP ⟨_,_,rfl,rfl,false,sk (by lia),aP (q _ (ah.refl _))⟩⟩
  refine⟨_,rfl,w,rfl,hz,_,_,rfl,rfl,true,fC (by lia),aP ⟨_,_,rfl,rfl,true,fC (by lia),aX ?_⟩⟩;refine⟨_,rfl,w,rfl,yI (f:=λc=>.bl (nB c)) (by lia) (λc H2 hc s2 Y S hY=>?_) (λH2 s2 D hD=>?_)⟩
  ·exact aP (B:=S H2) ⟨_,rfl,_,_,rfl,rfl,hY _ (ah.refl _)⟩
  have em:w.cps.toList.map (λc=>V.bl (nB c))=(w.cps.toList.map nB).map V.bl:=by rw[Ks];rfl
  rw[em];refine⟨D,_,rfl,bg.of af,_,rfl,?_⟩;generalize e0:upd H2 D _=H3;have s3:=s2.trans (dz hD e0);clear e0;have ea:(w.cps.toList.map nB).all id=w.cps.toList.all nB:=by rw[M0];rfl
  rw[ea];have en:cN w=(w.cps.toList.all nB&&(decide (w="0")||!decide (w.cps[0]?=some 48))):=by
   unfold cN;rw[GP h1,GP h2,IX,IX]
  rw[en] at q;cases ef:w.cps.toList.all nB with
  |false=>rw[ef] at q;exact aP (q _ s3)
  |true=>
   rw[ef,IX] at q;refine aX ⟨_,rfl,w,"0",rfl,rfl,?_⟩;refine⟨_,rfl,eB (λhc=>?_) (λhc=>?_)⟩
   ·rw[hc,Bool.true_or] at q;exact q _ s3
   ·rw[MG.mpr hc,Bool.false_or] at q;obtain⟨c,ec⟩:∃ c,w.cps[0]?=some c:=⟨_,LR (show 0<w.cps.size from h1)⟩
    refine⟨_,rfl,w,0,c,rfl,rfl,hz,?_,_,_,rfl,rfl,?_⟩
    ·exact fv (by rw[I_];exact ec)
    ·have e:decide ((⟨#[c]⟩:Str)="0")=decide (w.cps[0]?=some 48):=by
      rw[ec];refine decide_eq_decide.mpr ⟨λz=>?_,λz=>?_⟩
      ·have z':(⟨#[c]⟩:Str)=⟨#[48]⟩:=z;injection z' with z'
       have:=KG (·[0]?) z';exact this
      ·cases z;rfl
     rw[e];exact q _ s3
theorem fK:aD ["text","words"] uB7 (ai dH):=dY
inductive jz (K:GB)(vs:List V)(H:Hp)(Q:VK)(E:XK):Prop
 |mk (t:Str) (_:vs=[.str t]) (_:t.length<=900) (_:((((nj t).all cN=false)/\Rz K 10 H E)\/∃ ns,bN t=some ns/\∀ (v:V) (H':Hp),ah H H'->aW K H' (.tuple (ns.map IG)) v->Q v H'))
theorem eJ (T:de K mg w):du P w K mg base (cE P w) 2 "numbers_read" uB7 [] (jz K):=by
  refine T.x1n.calX fK (bb:=λ_ _ _ _ _ H vs Q E hr h=>?_);obtain⟨t,rfl,hz,h⟩:=h;refine⟨_,(cD.go (aa (au 1 fK.nd (cB Iq Kv ME mM (ao 0) (aB ay)))
   (aa (aR (aO (aQ (ak (jA (K:=K) rfl rfl) (by rfl) T.x6 fj (aB (aS ["word"] [] [] 1 (bA (K:=K) rfl (ao 1)) (λnd=>(am 0 nd)) aJ (aj aN (oU T) hr (aB (ao 0)))))))) (ae (c5 (K:=K) rfl cH rfl rfl rfl (fh T.x1 (i:=10) rfl) (aB ay))) aF)
   (ae (av (bh (vd (K:=K) rfl) (by rfl) T.x9 gB (aB (aS ["word"] [] [] 1 (bA (K:=K) rfl (ao 1)) (λnd=>(am 0 nd)) aJ (bh vN (by rfl) T.xn yS (aB (ao 0))))))))))),?_⟩
  have hz':t.length+2<=GZ:=GV (show t.length+2<=902 by lia) (by decide);refine⟨_,rfl,rfl,t," ",rfl,rfl,rfl,hz',λL hL=>?_⟩;generalize e0:upd H L _=H1;have s1:=dz hL e0;have g1:H1 L=some (.lst ((nj t).map V.str)):=cu e0;clear e0;have lw:(nj t).length<=902:=GV (gY t " ") (by lia);refine⟨_,rfl,L,true,rfl,⟨_,bg.of g1⟩,bB (b:=true) (ds:=(nj t).map Ll) (es:=((nj t).map cN).map Le) (bg.of g1) (jC _) (by simp) (by rw[GG];lia) (λj dj ej u H2 hdj hej s2 hu R kk S=>?_) (λzs H2 s2 hzs D hD=>?_)⟩
  ·rw[GQ] at hdj hej;rw[GQ] at hej;obtain⟨x,en,rfl⟩:=Hj.mp hdj;rw[en] at hej;cases hej;cases hu;have hl:=g_ x (GS en);exact aP (B:=S H2) ⟨_,rfl,x,rfl,GV (show x.length<=900 by lia) (by decide),λH3 s3=>kk _ _ ⟨s3,.bl _⟩⟩
  have e:=da hzs;subst e;generalize e0:upd H2 D _=H3;have s3:=s2.trans (dz hD e0);have g3:=cu e0;clear e0;refine⟨D,_,rfl,bg.of g3,_,rfl,?_⟩;have ea:((nj t).map cN).all id=(nj t).all cN:=by rw[M0];rfl
  rw[ea];rcases h with ⟨hf,qz⟩|⟨ns,hn,q⟩
  ·rw[hf];exact aP ⟨uk,qz.now (s1.trans s3) rfl⟩
  unfold bN at hn
  by_cases ha:(nj t).all cN=true
  rotate_left
  ·rw[Hu ha] at hn;cases hn
  rw[Ie ha] at hn;rw[ha];refine aX ?_;replace g1:=s3 _ _ g1;have hm:=mx hn;refine⟨_,rfl,L,true,rfl,⟨_,bg.of g1⟩,bB (b:=true) (ds:=(nj t).map Ll) (es:=ns.map IG) (bg.of g1) (jC _) (by rw[GG,GG];exact hm.1) (by rw[GG];lia) (λj dj ej u H4 hdj hej s4 hu R kk S=>?_) (λzs H4 s4 hzs D2 hD2=>?_)⟩
  ·rw[GQ] at hdj hej;obtain⟨x,en,rfl⟩:=Hj.mp hdj;obtain⟨n,em,rfl⟩:=Hj.mp hej;cases hu;have hl:=g_ x (GS en);exact aP (B:=S H4) ⟨_,rfl,x,n,rfl,hm.2 j x n en em,GV (yD (Hz.mp ha x (GS en))) (by decide),kk _ _ ⟨ah.refl _,.int _⟩⟩
  ·refine⟨D2,_,rfl,.inl ⟨bg.of af,λy hy=>?_⟩⟩;exact q _ _ (((s1.trans s3).trans s4).trans ((ah.new hD2).trans (ah.new hy))) (.tup af (aE.same ((ah.new hD2).trans (ah.new hy)) hzs))
theorem pU:aD ["knots"] ["knots"] (ai gq):=dY
def iZ (n:Nat):Str:="knots "++Iw (toString (n:Int))
inductive pY (K:GB)(vs:List V)(H:Hp)(Q:VK)(_:XK):Prop
 |mk (n:Nat) (_:vs=[.int n]) (_:n<=7) (_:Q (.str (iZ n)) H)
theorem jp (T:de K mg w):du P w K mg base (cE P w) 1 "knots_row" ["knots"] [] (pY K):=by
  refine T.x1o.cal pU (bb:=λ_ _ _ _ _ H vs Q E hr h=>?_);obtain⟨n,rfl,h7,q⟩:=h;refine⟨_,(cD.go (ae (av (nG ay (vc (ao 0)))))),?_⟩;have hb:0<=(n:Int)/\(n:Int)<10^4:=by lia
  have hl:=dA hb;exact⟨_,rfl,by decide,_,rfl,.inl ⟨n,rfl,iP hb,_,rfl,GV (show(IT "knots ")+(Iw (toString (n:Int))).length<=6+10 from MW (by decide) hl) (by decide),q⟩⟩
theorem ix:aD ["row","knots"] ["row"] (ai fe):=dY
inductive kU (K:GB)(vs:List V)(H:Hp)(Q:VK)(E:XK):Prop
 |mk (row:Str) (_:vs=[.str row]) (_:(∀ n:Nat,2<=n->n<=7->row=iZ n->Q (.int n) H)) (_:((∀ n:Nat,2<=n->n<=7->row≠iZ n)->Rz K 10 H E))
theorem lg (T:de K mg w):du P w K mg base (cE P w) 2 "knots_read" ["row"] [] (kU K):=by
  refine T.x1p.calX ix (bb:=λ_ _ _ _ _ H vs Q E hr h=>?_);obtain⟨row,rfl,q,qz⟩:=h;refine⟨_,(cD.go (aa (Aa (ia Kd rfl (sY rfl T.x4 (aM (bM rfl T.xe) (aq bW (bM rfl T.xi) ac))) (am 1 ix.nd) (ae (aR (aG yr (ao 0) (aj aN (jp T) hr (aB (ao 1))) (aL _)) (ae (av (ao 1))) aF))))
   (ae (c5 (K:=K) rfl cH rfl rfl rfl (fh T.x1 (i:=10) rfl) (aB ay))))),?_⟩
  refine⟨_,_,rfl,rfl,2,8,rfl,by decide,ib (lo:=2) (n:=6) (λk σ H'=>(∃ o,σ=[some (.str row),o])/\H'=H/\∀ m:Nat,2<=m->m<2+k->row≠iZ m) ⟨⟨_,rfl⟩,rfl,λm h1 h2=>by lia⟩ ?_ ?_⟩
  ·rintro k σ H1 hk ⟨⟨o,rfl⟩,rfl,hm⟩;refine⟨_,rfl,_,rfl,2+k,rfl,by lia,row,iZ (2+k),rfl,rfl,_,rfl,eB (λhc=>?_) (λhc=>?_)⟩
   ·exact⟨_,rfl,q (2+k) (by lia) (by lia) (IY hc)⟩
   ·refine⟨⟨_,rfl⟩,rfl,λm h1 h2=>?_⟩
    by_cases z:m=2+k
    ·subst z;exact λe=>hc (GP e)
    ·exact hm m h1 (by lia)
  ·rintro σ H1 ⟨⟨o,rfl⟩,rfl,hm⟩;exact⟨uk,(qz λn h2 h7=>hm n h2 (by lia)).now (ah.refl _) rfl⟩
theorem oZ:aD ["place"] ["place"] (ai gg):=dY
def sy (t:Kn):Str:=i7 [(t.1:Int),(t.2.1:Int),(t.2.2:Int)]++": "
theorem uY {t:Kn}(ht:t∈az 7):(sy t).length<=62:=by
 have hm:=bx.mp ht;have hl:=dB (ns:=[(t.1:Int),(t.2.1:Int),(t.2.2:Int)]) (by show 3<=3;lia) λn hn=>by
  simp only[GR,Hq,Js] at hn;lia
 unfold sy;rw[Hs];have:IT ": "=2:=by decide
 lia
inductive pP (K:GB)(vs:List V)(H:Hp)(Q:VK)(_:XK):Prop
 |mk (x:V) (t:Kn) (_:vs=[x]) (_:aW K H (zJ t) x) (_:t∈az 7) (_:∀ H',ah H H'->Q (.str (sy t)) H')
theorem jw (T:de K mg w):du P w K mg base (cE P w) 2 "row_start" ["place"] [] (pP K):=by
  refine T.x1q.cal oZ (bb:=λ_ _ _ _ _ H vs Q E hr h=>?_);obtain⟨x,t,rfl,hx,ht,q⟩:=h;refine⟨_,(cD.go (ae (av (nG (vc (aj aN (df T) hr (aB (ao 0)))) ay)))),?_⟩;have hm:=bx.mp ht;have hn:∀ n∈[(t.1:Int),(t.2.1:Int),(t.2.2:Int)],0<=n/\n<10^4:=λn hn=>by
   simp only[GR,Hq,Js] at hn;lia
  have hl:=dB (ns:=[(t.1:Int),(t.2.1:Int),(t.2.2:Int)]) (by show 3<=3;lia) hn;generalize hN:i7 [(t.1:Int),(t.2.1:Int),(t.2.2:Int)]=N at hl;have h1:N.length<=GZ:=GV hl (by decide);refine⟨_,rfl,x,[(t.1:Int),(t.2.1:Int),(t.2.2:Int)],rfl,hx,by show 3<=3;lia,hn,λH1 s1=>.inr ⟨_,rfl,by rw[hN];exact h1,_,rfl,by rw[hN];exact h1,_,rfl,by rw[hN];exact GV (show N.length+IT ": "<=60+2 from MW hl (by decide)) (by decide),q _ s1⟩⟩
theorem eR:aD ["row","place","start","worth"] ["row","place"] (ai fA):=dY
def iF (row:Str)(t:Kn):Str:=LV row (some ((sy t).length:Int)) none
def mT (row:Str)(t:Kn):Option R3:=if Ln row (sy t)=true then match bN (iF row t) with
 |some [a,b,c]=>if kG 3 0 1000 (.tuple [.int a,.int b,.int c])=true then some ⟨a,b,c⟩ else none
 |_=>none
 else none
inductive kZ (K:GB)(vs:List V)(H:Hp)(Q:VK)(E:XK):Prop
 |mk (row:Str) (x:V) (t:Kn) (_:vs=[.str row,x]) (_:aW K H (zJ t) x) (_:t∈az 7) (_:row.length<=900) (_:((nj (iF row t)).all cN=true->∃ ns,bN (iF row t)=some ns)) (_:(mT row t=none->Rz K 10 H E)) (_:∀ r:R3,mT row t=some r->∀ (v:V) (H':Hp),ah H H'->aW K H' (wD r) v->Q v H')
theorem kY (T:de K mg w):du P w K mg base (cE P w) 5 "worth_read" ["row","place"] [] (kZ K):=by
  refine T.x1r.calX eR (bb:=λ_ _ _ _ _ H vs Q E hr h=>?_);obtain⟨row,x,t,rfl,hx,ht,hz,hns,qz,q⟩:=h;refine⟨_,(cD.go (aa (au 2 eR.nd (aj aN (jw T) hr (aB (ao 1))))
   (aa (aR (aO (aQ (cB Iq PySem.F.slot_str_startswith PySem.F.type_str_startswith v_ (ao 0) (aB (ao 2))))) (ae (c5 (K:=K) rfl cH rfl rfl rfl (fh T.x1 (i:=10) rfl) (aB ay))) aF)
   (aa (au 3 eR.nd (bY cH rfl (eJ T) (hr.mono (by decide)) rfl (aB (cV tW (ao 0) (dQ (ak fb (by rfl) T.x2 bK (aB (ao 2)))) dR))))
   (aa (aR (aO (aQ (aj aN (mU T) hr (aB (ao 3))))) (ae (c5 (K:=K) rfl cH rfl rfl rfl (fh T.x1 (i:=10) rfl) (aB ay))) aF)
   (ae (av (ao 3)))))))),?_⟩
  have hz':row.length<=GZ:=GV hz (by decide);refine⟨_,rfl,x,t,rfl,hx,ht,λH1 s1=>?_⟩;refine⟨_,rfl,rfl,_,rfl,row,sy t,rfl,rfl,_,rfl,?_⟩;cases hs:Ln row (sy t) with
  |false=>exact aP ⟨uk,(qz (by unfold mT;rw[Hu (by rw[hs];exact Hn)])).now s1 rfl⟩
  |true=>
   have hsl:(iF row t).length<=900:=GV (Txt.slice_le row _ _) hz;have hst:(sy t).length<=GZ:=by
    have:(sy t).length<=row.length:=by
     unfold Ln at hs;simp only[G6,Io] at hs;lia
    lia
   refine aX ⟨_,rfl,_,rfl,_,rfl,hst,_,rfl,row,rfl,hz',iF row t,rfl,hsl,?_⟩
   by_cases ha:(nj (iF row t)).all cN=true
   ·obtain⟨ns,hn⟩:=hns ha;refine .inr ⟨ns,hn,λv H2 s2 hv=>?_⟩;refine⟨_,rfl,v,_,rfl,.inl hv,λH3 s3=>⟨_,rfl,?_⟩⟩;cases hw:kG 3 0 1000 (.tuple (ns.map IG)) with
    |false=>
     refine aP ⟨uk,(qz ?_).now ((s1.trans s2).trans s3) rfl⟩;unfold mT;rw[Ie hs,hn]
     match ns,hw with
     |[a,b,c],hw=>exact Hu (by rw[show kG 3 0 1000 (.tuple [.int a,.int b,.int c])=false from hw];exact Hn)
     |[],_=>rfl
     |[_],_=>rfl
     |[_,_],_=>rfl
     |_::_::_::_::_,_=>rfl
    |true=>
     obtain⟨r,er,_⟩:=DP hw;have en:ns=[r.a,r.b,r.c]:=by
      have e2:(ns.map IG)=([r.a,r.b,r.c]:List Int).map IG:=by injection er
      exact mf e2
     subst en;refine aX ⟨_,rfl,q r ?_ v H3 ((s1.trans s2).trans s3) (aW.same s3 hv)⟩;unfold mT;rw[Ie hs,hn];exact Ie hw
   ·have ha:(nj (iF row t)).all cN=false:=MG.mpr ha;refine .inl ⟨ha,(qz ?_).out s1⟩;unfold mT bN;rw[Ie hs,ha];rfl
theorem jg:aD ["grid","rows"] ["grid"] (ai fV):=dY
def sF (n:Nat)(f:Kn->R3):Str:=Kq "\n" (iZ n::(az n).map λt=>sy t++i7 [(f t).a,(f t).b,(f t).c])
inductive o_ (K:GB)(vs:List V)(H:Hp)(Q:VK)(_:XK):Prop
 |mk (v:V) (n:Nat) (f:Kn->R3) (_:vs=[v]) (_:vX K H n f v) (_:zL n f) (_:2<=n) (_:n<=7) (_:∀ H',ah H H'->Q (.str (sF n f)) H')
theorem jD (T:de K mg w):du P w K mg base (cE P w) 6 "grid_text" ["grid"] [] (o_ K):=by
  refine T.x1s.cal jg (bb:=λ_ _ _ _ _ H vs Q E hr h=>?_);obtain⟨v,n,f,rfl,hv,hw,h2,h7,q⟩:=h;refine⟨_,(cD.go (aa (jn (aj aN (jK T) hr (aB (ao 0))))
   (aa (cI 1 ["place"] ["grid"] [0] 1 jg.nd (bA (K:=K) rfl (aj aN (fP T) hr (aB (dJ (K:=K) (x:="Grid") rfl T.x3 (.head _) (ao 0))))) (λnd=>(am 0 nd)) aJ (aq bG (aj aN (jw T) hr (aB (ao 0))) (aj aN (df T) hr (aB (lI (K:=K) rfl aN (gj T) (hr.mono (by decide)) (ao 1) (aB (ao 0)))))))
   (ae (av (cB Iq Jl Jm (eD (K:=K) rfl) ay (aB (aq fZ (a_ (aB (aj aN (jp T) hr (aB (dJ (K:=K) (x:="Grid") rfl T.x3 (.head _) (ao 0)))))) (ao 1))))))))),?_⟩
  obtain⟨a,C,dx,d,rfl,hC,ha,hg⟩:=id hv;refine⟨_,rfl,.ref a,n,f,rfl,hv,?_⟩;refine⟨_,rfl,a,C,dx,_,_,rfl,hC,ha,rfl,n,rfl,h7,λD ys H1 s1 hD hys=>?_⟩;have few:(az n).length<=343:=by
   rw[bo];exact JX h7 3
  refine⟨D,true,rfl,⟨_,bg.of hD⟩,bB (b:=true) (ds:=(az n).map zJ) (es:=((az n).map λt=>sy t++i7 [(f t).a,(f t).b,(f t).c]).map Ll) (bg.of hD) hys (by simp) (by rw[GG];lia) (λj dj ej u H2 hdj hej s2 hu R kk S=>?_) (λzs H2 s2 hzs Z hZ=>?_)⟩
  ·rw[GQ] at hdj hej;rw[GQ] at hej;obtain⟨t,et,rfl⟩:=Hj.mp hdj;rw[et] at hej;cases hej;have htm:=GS et;have k7:t∈az 7:=by
    have:=bx.mp htm;exact bx.mpr (by lia)
   have wt:=hw t htm;have hn:∀ n∈[(f t).a,(f t).b,(f t).c],0<=n/\n<10^4:=λn hn=>by
    obtain⟨w1,w2,w3,w4,w5,w6⟩:=wt;simp only[GR,Hq,Js] at hn;lia
   refine aP (B:=S H2) ⟨_,rfl,u,t,rfl,hu,k7,λH3 s3=>?_⟩;have s13:=(s1.trans s2).trans s3;refine⟨_,rfl,a,C,dx,_,rfl,hC,s13 _ _ ha,rfl,_,rfl,.ref a,u,n,f,t,rfl,hv.same s13,aW.same s3 hu,htm,λw H4 s4 hw4=>?_⟩;refine⟨w,[(f t).a,(f t).b,(f t).c],rfl,hw4,by show 3<=3;lia,hn,λH5 s5=>⟨_,_,rfl,rfl,?_,kk _ _ ⟨(s3.trans s4).trans s5,.str _⟩⟩⟩;have l1:=uY k7;have l2:=dB (ns:=[(f t).a,(f t).b,(f t).c]) (by show 3<=3;lia) hn;exact GV (MW l1 l2) (by decide)
  have e:=fE hzs;subst e;generalize e0:upd H2 Z _=H3;have s3:=s2.trans (dz hZ e0);have g3:=cu e0;clear e0;have s13:=s1.trans s3;refine⟨rfl,_,rfl,a,C,dx,_,_,rfl,hC,s13 _ _ ha,rfl,n,rfl,h7,uk,λY hY=>?_⟩;generalize e0:upd H3 Y _=H4;have s4:=dz hY e0;have g4:=cu e0;clear e0;refine⟨_,rfl,Y,Z,_,_,rfl,rfl,g4,s4 _ _ g3,?_,λW hW=>?_⟩
  ·rw[GG,GG];exact GV (show 1+(az n).length<=344 by lia) (by decide)
  generalize e0:upd H4 W _=H5;have s5:=dz hW e0;have g5:H5 W=some (.lst ((iZ n::(az n).map λt=>sy t++i7 [(f t).a,(f t).b,(f t).c]).map V.str)):=cu e0;refine⟨_,W,_,rfl,rfl,bg.of g5,BP (B:=130) (λx hx=>?_) (by decide) ?_,q _ ((s13.trans s4).trans s5)⟩
  ·rcases GR.mp hx with rfl|hx
   ·have hl:=dA (n:=(n:Int)) (by lia);unfold iZ;rw[Hs];have:IT "knots "=6:=by decide
    lia
   ·obtain⟨t,ht,rfl⟩:=HH.mp hx;have k7:t∈az 7:=by
     have:=bx.mp ht;exact bx.mpr (by lia)
    have wt:=hw t ht;have l1:=uY k7;have l2:=dB (ns:=[(f t).a,(f t).b,(f t).c]) (by show 3<=3;lia) λn hn=>by
     obtain⟨w1,w2,w3,w4,w5,w6⟩:=wt;simp only[GR,Hq,Js] at hn;lia
    rw[Hs];lia
  ·rw[HR,GG];lia
theorem cM:aD ["text","first","rows","knots","places"] uB7 (ai f8):=dY
theorem B5 {row:Str}{t:Kn}{r:R3}(h:mT row t=some r):r.Wt:=by
 unfold mT at h
 split at h
 ·split at h
  ·split at h
   ·next hw=>
    cases h;obtain⟨r,er,b1,b2,b3⟩:=DP hw;cases er;exact⟨b1.1,b1.2,b2.1,b2.2,b3.1,b3.2⟩
   ·cases h
  ·cases h
 ·cases h
theorem qK {α β:Type}[BEq α][LawfulBEq α]:∀ {ks:List α}{rs:List β}{i:Nat}{t:α}{r:β},ks.Pairwise (·≠·)->ks[i]?=some t->rs[i]?=some r->(ks.zip rs).lookup t=some r
 |[],_,_,_,_,_,h,_=>by simp at h
 |_::_,[],_,_,_,_,_,h=>by simp at h
 |k::ks,r'::rs,0,t,r,_,h1,h2=>by
  simp at h1 h2;subst h1 h2;simp[LB]
 |k::ks,r'::rs,i+1,t,r,nd,h1,h2=>by
  cases nd with
  |cons nd1 nd2=>
  have h1:ks[i]?=some t:=by simpa using h1
  have ne:t≠k:=(nd1 t (GS h1)).symm;have:(t==k)=false:=Jn.mpr ne;simp only[List.zip_cons_cons,LB,this];exact qK nd2 h1 (by simpa using h2)
def Ey (n:Nat)(rows:List Str):Prop:=∀ (i:Nat) (row:Str) (t:Kn),rows[i]?=some row->(az n)[i]?=some t->(nj (iF row t)).all cN=true->∃ ns,bN (iF row t)=some ns
inductive mG (K:GB)(vs:List V)(H:Hp)(Q:VK)(E:XK):Prop
 |mk (v:V) (_:vs=[v]) (_:((BL K H v/\Rz K 10 H E)\/∃ (text first:Str) (rows:List Str),v=.str text/\text.length<=900/\IW text "\n"=first::rows/\((∀ n:Nat,2<=n->n<=7->first≠iZ n)->Rz K 10 H E)/\∀ n:Nat,2<=n->n<=7->first=iZ n->(rows.length≠n^3->Rz K 10 H E)/\(rows.length=n^3->Ey n rows/\(∀ (i:Nat) (row:Str) (t:Kn),rows[i]?=some row->(az n)[i]?=some t->mT row t=none->Rz K 10 H E)/\∀ f:Kn->R3,(∀ (i:Nat) (row:Str) (t:Kn),rows[i]?=some row->(az n)[i]?=some t->mT row t=some (f t))->zL n f->∀ (g C dx L:G7) (H':Hp),ah H H'->H L=none->bt K "Grid" C->H' g=some (.ins C dx [("knots",.int n),("table",.ref L)])->Gr K H' n f L->Q (.ref g) H')))
theorem dU (T:de K mg w):du P w K mg base (cE P w) 8 "grid_read" uB7 [] (mG K):=by
  refine T.x1t.calX cM (bb:=λ_ _ _ _ _ H vs Q E hr h=>?_);obtain⟨v,rfl,h⟩:=h;refine⟨_,(cD.go (aa (jn (bY cH rfl (dk T) (hr.mono (by decide)) rfl (aB (ao 0))))
   (aa (gQ (cB Iq Kv ME mM (ao 0) (aB ay)) (zi (K:=K) rfl rfl (aK (am 1 cM.nd) (aK (am 2 cM.nd) bX))))
   (aa (au 3 cM.nd (bY cH rfl (lg T) (hr.mono (by decide)) rfl (aB (ao 1))))
   (aa (au 4 cM.nd (aj aN (fP T) hr (aB (ao 3))))
   (aa (aR (aG gy (ak (di (K:=K) rfl) (by rfl) T.x2 bK (aB (ao 2))) (ak (di (K:=K) rfl) (by rfl) T.x2 bK (aB (ao 4))) (aL _)) (ae (c5 (K:=K) rfl cH rfl rfl rfl (fh T.x1 (i:=10) rfl) (aB ay))) aF)
   (ae (av (ja (K:=K) rfl aN (dW T) (hr.mono (by decide)) rfl (aM (ao 3) (ub rfl rfl rfl qZ rfl hr.u1 (t_ (K:=K) rfl rfl T.xd (aM (ao 4) (ao 2))) (i' (by decide +kernel) (by rfl)) (mo (ts:=["place","row"]) (cs:=[]) (js:=[]) (k:=2) (by rfl) rfl rfl) (λ_ _ _ _ _=>(gG (K:=K) (n:=2) rfl rfl (aK (am 0 (show Ob (α:=Str) ["place","row"] by decide +kernel)) (aK (am 1 (show Ob (α:=Str) ["place","row"] by decide +kernel)) bX)))) (λ_ _ _ _ _=>aJ) (λ_ _ _ _ _=>(ao 0)) (λ_ _ _ _ _=>(qo (kY T) (hr.mono (by decide)) rfl (aM (ao 1) (ao 0))))))))))))))),?_⟩
  rcases h with ⟨nt,qz⟩|⟨text,first,rows,rfl,hz,hsp,qk,h⟩
  ·exact⟨_,rfl,v,rfl,.inr ⟨nt,qz.out (ah.refl _)⟩⟩
  refine⟨_,rfl,.str text,rfl,.inl ⟨text,rfl,?_⟩⟩;refine⟨_,rfl,rfl,text,"\n",rfl,rfl,rfl,GV (show text.length+2<=902 by lia) (by decide),λL0 hL0=>?_⟩;rw[hsp];generalize e0:upd H L0 _=H1;have s1:=dz hL0 e0;have g1:=cu e0;clear e0;have lr:rows.length<=902:=by
   have:=gY text "\n";rw[hsp,HR] at this;lia
  refine⟨L0,.str first,rows.map V.str,rfl,bg.of g1,by rw[GG];lia,λR0 hR0=>⟨_,_,rfl,_,_,rfl,rfl,?_⟩⟩;generalize e0:upd H1 R0 _=H2;have s2:=s1.trans (dz hR0 e0);have g2:=cu e0;clear e0 g1;refine⟨_,rfl,first,rfl,λn n2 n7 hf=>?_,λhf=>(qk hf).out s2⟩;obtain⟨hlen,hgo⟩:=h n n2 n7 hf;refine⟨_,rfl,n,rfl,n7,λP ps H3 s3 hP hps=>?_⟩;have lp:=hps.length;rw[GG,bo] at lp;have g3:=s3 _ _ g2;refine⟨_,rfl,R0,_,rfl,.inl (bg.of g3),_,rfl,P,_,rfl,.inl (bg.of hP),_,_,rfl,rfl,?_⟩;have el:((rows.map V.str).length:Int)=rows.length:=by rw[GG]
  rw[el]
  by_cases hr:rows.length=n^3
  rotate_left
  ·refine⟨true,?_,aP ⟨uk,(hlen hr).now (s2.trans s3) rfl⟩⟩;show V.bl (!decide ((rows.length:Int)=(ps.length:Int)))=_;rw[Hr (by lia)];rfl
  refine⟨false,by show V.bl (!decide ((rows.length:Int)=(ps.length:Int)))=_;rw[GP (by lia)];rfl,aX ?_⟩;obtain⟨ok,qz,q⟩:=hgo hr;have few:(az n).length<=343:=by
   rw[bo];exact JX n7 3
  let f:Kn->R3:=λt=>(((az n).zip rows).lookup t).elim ⟨0,0,0⟩ λrow=>(mT row t).getD ⟨0,0,0⟩
  have hf:∀ (i:Nat) (row:Str) (t:Kn),rows[i]?=some row->(az n)[i]?=some t->f t=(mT row t).getD ⟨0,0,0⟩:=λi row t h1 h2=>by
   show(((az n).zip rows).lookup t).elim _ _=_;rw[qK (mz n7) h2 h1];rfl
  clear_value f
  refine⟨_,rfl,_,rfl,_,rfl,P,R0,true,true,rfl,⟨_,bg.of hP⟩,⟨_,bg.of g3⟩,λD hD=>?_⟩;refine vn (xs:=ps) (ys:=rows.map V.str) (λi H'=>ah H3 H'/\nZ K H' ((az n).take i) f D/\∀ (j:Nat) (row:Str) (t:Kn),j<i->rows[j]?=some row->(az n)[j]?=some t->mT row t=some (f t)) ⟨ah.new hD,⟨[],af,.nil⟩,λj _ _ z=>absurd z (Nat.not_lt_zero _)⟩ (by rw[GG];lia) (λi H' p=>⟨bg.of (p.1 _ _ hP),bg.of (p.1 _ _ g3)⟩) (λi x y T H4 ex ey p hT R kk S=>?_) (λH4 p=>?_)
  ·obtain⟨s4,⟨ws,e4,hws⟩,al⟩:=p;obtain⟨dd,ed,hd⟩:=hps.get ex;rw[GQ] at ed ey;obtain⟨t,et,rfl⟩:=Hj.mp ed;obtain⟨row,er,rfl⟩:=Hj.mp ey;have htm:=GS et;have fresh:t∉(az n).take i:=λz=>by
    obtain⟨j,hj,ej⟩:=IP z;rw[Ib] at hj;rw[Of] at ej;obtain⟨hi,ei⟩:=GU.mp et;exact LU.mp (mz n7) j i (by lia) hi (by lia) (ej.trans ei.symm)
   generalize e0:upd H4 T _=H5;have s5:=dz hT e0;have g5:=cu e0;clear e0;have hx5:=aW.same (s4.trans s5) hd;obtain⟨ka,rfl,hka⟩:=u7 hx5;have hrl:row.length<=900:=by
    have m:row∈IW text "\n":=by rw[hsp];exact GK _ (GS er)
    exact GV (g_ row m) hz
   have s25:=(s2.trans s3).trans (s4.trans s5);refine⟨T,_,rfl,fM.of g5,rfl,_,_,rfl,_,_,rfl,rfl,aP (B:=S H5) ⟨_,rfl,_,rfl,_,rfl,row,.ref ka,t,rfl,hx5,wg n7 htm,hrl,ok i row t er et,λhw=>(qz i row t er et hw).out s25,λr hr v H6 s6 hv=>?_⟩⟩;have ef:f t=r:=by rw[hf i row t er et,hr];rfl
   have s46:=s5.trans s6;refine⟨_,bv t,ka,s46 _ _ e4,rfl,by rw[jU];exact s6 _ _ hka,by rw[iW (nZ.len hws),Ib];exact bL (by lia),kk _ ⟨yQ (s4.trans s46) hD,?_,λj row' t' hj h1 h2=>?_⟩⟩
   ·rw[cC et];exact nZ.more (s46 _ _ e4) (aE.same s46 hws) fresh (by rw[ef];exact hv)
   ·by_cases z:j=i
    ·subst z;rw[er] at h1;rw[et] at h2;cases h1;cases h2;rw[ef];exact hr
    ·exact al j row' t' (by lia) h1 h2
  ·obtain⟨s4,g4,al⟩:=p;have lk:ps.length=(az n).length:=by rw[bo];lia
   rw[lk,IE (GM _)] at g4;have all_:∀ (i:Nat) (row:Str) (t:Kn),rows[i]?=some row->(az n)[i]?=some t->mT row t=some (f t):=λi row t h1 h2=>al i row t (by rw[lk];exact(GU.mp h2).1) h1 h2
   have wt:zL n f:=λt ht=>by
    obtain⟨i,hi,ei⟩:=IP ht;have e1:(az n)[i]?=some t:=by rw[GF hi,ei]
    have hi':i<rows.length:=by rw[hr,<- bo];exact hi
    exact B5 (all_ i rows[i] t (GF hi') e1)
   refine λC g dx hC hg hdx hne=>?_
   generalize e0:upd (upd H4 dx _) g _=H5;have s5:=y6 hg hdx hne e0;have gv:=cu e0;refine⟨g,C,dx,D,n,f,rfl,hC,gv,⟨_,.refl _,g4.same s5⟩,wt,n2,n7,λH6 L mv6 hg6 gL hL=>⟨rfl,?_⟩⟩;have s6:ah H4 H6:=λb o e=>mv6 _ _ (s5 _ _ e) (λz=>by rw[G5.mp z,hg] at e;cases e)
   refine q f all_ wt g C dx L H6 (((s2.trans s3).trans s4).trans s6) ?_ hC hg6 gL;cases eL:H L with
   |none=>rfl
   |some o=>rw[s5 _ _ (((s2.trans s3).trans s4) _ _ eL)] at hL;cases hL
theorem mY:aD ["curve"] ["curve"] (ai fm):=dY
def wy (ps:List Pt):Str:=Kq ", " (ps.map λp=>i7 [p.1,p.2])
inductive mX (K:GB)(vs:List V)(H:Hp)(Q:VK)(_:XK):Prop
 |mk (v:V) (ps:List Pt) (_:vs=[v]) (_:tZ K H ps v) (_:pM ps) (_:∀ H',ah H H'->Q (.str (wy ps)) H')
theorem iC (T:de K mg w):du P w K mg base (cE P w) 2 "curve_text" ["curve"] [] (mX K):=by
  refine T.x1u.cal mY (bb:=λ_ _ _ _ _ H vs Q E hr h=>?_);obtain⟨v,ps,rfl,hv,hp,q⟩:=h;refine⟨_,(cD.go (aa (aR (aO (aQ (ak (u6 (K:=K) (x:="Curve") rfl T.x5 T.xk) (by rfl) T.x0 ax (aM (ao 0) (bJ (K:=K) (x:="Curve") rfl rfl (gN T.x5)))))) (ae b7) aF)
   (ae (av (cB Iq Jl Jm (eD (K:=K) rfl) ay (aB (aS ["point"] [] [] 1 (bA (K:=K) rfl (dJ (K:=K) (x:="Curve") rfl T.x5 (.head _) (ao 0))) (λnd=>(am 0 nd)) aJ (aj aN (df T) hr (aB (ao 0)))))))))),?_⟩
  obtain⟨a,C,dx,l,rfl,hC,ha,hl⟩:=id hv;refine⟨_,rfl,λD hD=>?_⟩;cases bw hD hC;refine⟨_,_,rfl,hC,.inl ⟨a,dx,_,rfl,ha,_,rfl,aX ?_⟩⟩;obtain⟨l',xs,el,hl',hxs⟩:=bU (b:=true) hl;cases el;have few:=hp.few;refine⟨rfl,_,rfl,a,C,dx,_,_,rfl,hC,ha,rfl,l,true,rfl,⟨_,hl'⟩,bB (b:=true) (es:=(ps.map λp=>i7 [p.1,p.2]).map Ll) hl' hxs (by simp) (by rw[GG];lia) (λj dj ej u H2 hdj hej s2 hu R kk S=>?_) (λzs H2 s2 hzs Z hZ=>?_)⟩
  ·rw[GQ] at hdj hej;rw[GQ] at hej;obtain⟨p,ep,rfl⟩:=Hj.mp hdj;rw[ep] at hej;cases hej;have ip:=hp.inn p (GS ep);have:=ip.a1;have:=ip.a2;have:=ip.b1;have:=ip.b2;refine aP (B:=S H2) ⟨_,rfl,u,[p.1,p.2],rfl,hu,by show 2<=3;lia,λn hn=>?_,λH3 s3=>kk _ _ ⟨s3,.str _⟩⟩;simp only[GR,Hq,Js] at hn;lia
  ·have e:=fE hzs;subst e;refine⟨_,Z,_,rfl,rfl,bg.of af,BP (B:=60) (λt ht=>?_) (by decide) (by rw[GG];lia),q _ (s2.trans (ah.new hZ))⟩;obtain⟨p,hm,rfl⟩:=HH.mp ht;have ip:=hp.inn p hm;have:=ip.a1;have:=ip.a2;have:=ip.b1;have:=ip.b2;refine dB (by show 2<=3;lia) λn hn=>?_
   simp only[GR,Hq,Js] at hn;lia
theorem iy:aD ["text","points"] uB7 (ai fH):=dY
theorem nO {α β:Type}{f:α->Option β}:∀ {l:List α}{r:List β}{x:α}{y:β},l.mapM f=some r->f x=some y->(l++[x]).mapM f=some (r++[y])
 |[],r,x,y,h,e=>by
  simp at h;subst h;simp[e]
 |a::l,r,x,y,h,e=>by
  simp only[KA,MV] at h ⊢;cases ha:f a with
  |none=>rw[ha] at h;simp at h
  |some b=>
   cases hl:l.mapM f with
   |none=>rw[ha,hl] at h;simp at h
   |some bs=>
    rw[ha,hl] at h;simp at h;subst h;rw[nO hl e];rfl
theorem on {α β:Type}{f:α->Option β}:∀ {l:List α}{x:α},x∈l->f x=none->l.mapM f=none
 |[],_,m,_=>nomatch m
 |a::l,x,m,e=>by
  rw[MV];rcases GR.mp m with rfl|m
  ·rw[e];rfl
  ·rw[on m e];cases f a<;>rfl
def nD (nss:List (List Int)):Il:=.list (nss.map λns=>.tuple (ns.map IG))
def EH:List Int->Pt
 |[a,b]=>(a,b)
 |_=>(0,0)
def yY (text:Str):Option (List Pt):=match (IW text ", ").mapM bN with
 |some nss=>if sj (nD nss)=true then some (nss.map EH) else none
 |none=>none
theorem Bc {text w:Str}(hm:w∈IW text ", ")(h:(nj w).all cN=false):yY text=none:=by
 unfold yY;rw[on hm (by unfold bN;rw[Hu (by rw[h];exact Hn)])]
theorem Bh {text:Str}{nss:List (List Int)}(e:(IW text ", ").mapM bN=some nss)(h:sj (nD nss)=false):yY text=none:=by
 unfold yY;rw[e];exact Hu (by rw[h];exact Hn)
theorem BK:∀ {nss:List (List Int)}{ps:List Pt},(nss.map λns=>PyData.tuple (ns.map IG))=ps.map h_->nss.map EH=ps
 |[],[],_=>rfl
 |[],_::_,h=>by cases h
 |_::_,[],h=>by cases h
 |ns::nss,p::ps,h=>by
  rw[G_,G_] at h;injection h with h1 h2
  injection h1 with h1
  have e:ns=[p.1,p.2]:=mf h1;rw[G_,BK h2,e];rfl
theorem rk {text:Str}{nss:List (List Int)}{ps:List Pt}(e:(IW text ", ").mapM bN=some nss)(hb:sj (nD nss)=true)(h:nD nss=pq ps):yY text=some ps:=by
 unfold yY;rw[e];injection h with h
 exact(Ie hb).trans (KG some (BK h))
theorem B8 {ps:List Pt}(h:∀ (i:Nat) (p q:Pt),ps[i]?=some p->ps[i+1]?=some q->p.1<q.1/\p.2<=q.2):BJ ps=true:=by
 unfold BJ;rw[M0,Hz];rintro⟨p,q⟩ hz;obtain⟨i,hi⟩:=List.mem_iff_getElem?.mp hz;rw[Ip,KD,Pa] at hi;have:=h i p q hi.1 hi.2;simp only[Rx,id,G6,Io];exact this
theorem An {ps:List Pt}(h:pM ps):sj (pq ps)=true:=by
 show(decide (2<=(ps.map h_).length)&&(decide ((ps.map h_).length<=12)&&(((ps.map h_).map (kG 2 0 1000)).all id&&(kf ((ps.map h_).map zG)&&BJ ((ps.map h_).map zG)))))=true;rw[Di,GG,GP h.two,GP h.few,B8 h.up,IX,IX,LJ,G6];constructor
 ·rw[Ks,M0,Hz];intro p hp;have i:=h.inn p hp;show(decide (((2:Nat):Int)=2)&&(j5 0 1000 (.int p.1)&&(j5 0 1000 (.int p.2)&&true)))=true;have e1:j5 0 1000 (.int p.1)=true:=by
   show(decide ((0:Int)<=p.1)&&decide (p.1<=1000))=true;rw[GP i.a1,GP i.a2];rfl
  have e2:j5 0 1000 (.int p.2)=true:=by
   show(decide ((0:Int)<=p.2)&&decide (p.2<=1000))=true;rw[GP i.b1,GP i.b2];rfl
  rw[e1,e2];rfl
 ·unfold kf;refine GP ?_;have:=h.two;obtain⟨p,e⟩:∃ p,ps[0]?=some p:=⟨_,GF (by lia)⟩
  rw[show ps.getD 0 (0,0)=p by simp[O7,e]];exact h.zero p e
theorem rG {ps:List Pt}(h:pM ps){p:Pt}(hp:p∈ps):∀ n∈[p.1,p.2],0<=n/\n<10^4:=λn hn=>by
 have i:=h.inn p hp;have:=i.a1;have:=i.a2;have:=i.b1;have:=i.b2;simp only[GR,Hq,Js] at hn;lia
theorem lJ {ns:List Int}(h:∀ n∈ns,0<=n){c:Nat}(hc:c<48\/57<c)(h32:c≠32):c∉(i7 ns).cps.toList:=by
 rw[tL,show Kq " " (ns.map km)=Mw " " (ns.map km) from KE _ _]
 induction ns with
 |nil=>intro z;simp[Mw,Qq] at z
 |cons n ns ih=>
  have f:=lM (h n GX) hc;have i:=ih λm hm=>h m (GK _ hm)
  cases ns with
  |nil=>exact f
  |cons m ns=>
   rw[G_,G_,dE,Hy,Hy];rintro(z|z|z)
   ·exact f z
   ·have z:c∈[32]:=z;exact h32 (G5.mp z)
   ·exact i z
theorem wM {ps:List Pt}(h:pM ps):yY (wy ps)=some ps:=by
 have hs:IW (wy ps) ", "=ps.map λp=>i7 [p.1,p.2]:=by
  refine qS ?_ λt ht=>?_
  ·intro z;have:=h.two;rw[List.map_eq_nil_iff.mp z] at this;exact absurd this (by decide)
  ·obtain⟨p,hp,rfl⟩:=HH.mp ht;exact lJ (λn hn=>(rG h hp n hn).1) (by decide) (by decide)
 have em:∀ {qs:List Pt},(∀ p∈qs,p∈ps)->(qs.map λp=>i7 [p.1,p.2]).mapM bN=some (qs.map λp=>[p.1,p.2]):=λ{qs}=>by
  induction qs with
  |nil=>intro _;rfl
  |cons p qs ih=>
   intro hq;rw[G_,MV,lN (by simp) (rG h (hq p GX)),ih λx hx=>hq x (GK _ hx)];rfl
 have e:(IW (wy ps) ", ").mapM bN=some (ps.map λp=>[p.1,p.2]):=by rw[hs];exact em λ_ z=>z
 have ed:nD (ps.map λp=>[p.1,p.2])=pq ps:=by
  unfold nD pq;rw[Ks];rfl
 exact rk e (by rw[ed];exact An h) ed
inductive kQ (K:GB)(vs:List V)(H:Hp)(Q:VK)(E:XK):Prop
 |mk (v:V) (_:vs=[v]) (_:((BL K H v/\Rz K 10 H E)\/∃ (text:Str),v=.str text/\text.length<=900/\(yY text=none->Rz K 10 H E)/\∀ ps,yY text=some ps->pM ps->∀ (v:V) (H':Hp),ah H H'->tZ K H' ps v->Q v H'))
theorem cr (T:de K mg w):du P w K mg base (cE P w) 8 "curve_read" uB7 [] (kQ K):=by
  refine T.x1v.calX iy (bb:=λ_ _ _ _ _ H vs Q E hr h=>?_);obtain⟨v,rfl,h⟩:=h;refine⟨_,(cD.go (aa (jn (bY cH rfl (dk T) (hr.mono (by decide)) rfl (aB (ao 0))))
   (aa (p_ (i:=1) rfl rfl rfl qZ rfl iy.nd rfl rfl (bA (K:=K) rfl (cB Iq Kv ME mM (ao 0) (aB ay))) (i' (by decide +kernel) (by rfl)) (mo (ts:=["point"]) (cs:=[]) (js:=[]) (k:=1) (by rfl) rfl rfl) (λ_ _ _ _ _=>(am 0 (show Ob (α:=Str) ["point"] by decide +kernel))) (λ_ _ _ _ _=>aJ) (λ_ _ _ _ _=>(qo (eJ T) (hr.mono (by decide)) rfl (aB (ao 0)))))
   (aa (aR (aO (aQ (aj aN (mJ T) hr (aB (ao 1))))) (ae (c5 (K:=K) rfl cH rfl rfl rfl (fh T.x1 (i:=10) rfl) (aB ay))) aF)
   (ae (av (ja (K:=K) rfl aN (ce T) (hr.mono (by decide)) rfl (aB (ao 1))))))))),?_⟩
  rcases h with ⟨nt,qz⟩|⟨text,rfl,hz,qz,q⟩
  ·exact⟨_,rfl,v,rfl,.inr ⟨nt,qz.out (ah.refl _)⟩⟩
  refine⟨_,rfl,.str text,rfl,.inl ⟨text,rfl,?_⟩⟩;refine⟨_,rfl,rfl,text,", ",rfl,rfl,rfl,GV (show text.length+2<=902 by lia) (by decide),λL hL=>?_⟩;generalize e0:upd H L _=H1;have s1:=dz hL e0;have g1:H1 L=some (.lst ((IW text ", ").map V.str)):=cu e0;clear e0;have lw:=gY text ", ";refine⟨L,true,rfl,⟨_,bg.of g1⟩,vJ (b:=true) (xs:=(IW text ", ").map V.str) (λi ys H'=>ah H1 H'/\∃ nss:List (List Int),((IW text ", ").take i).mapM bN=some nss/\aE K H' (nss.map λns=>.tuple (ns.map IG)) ys) ⟨ah.refl _,[],rfl,.nil⟩ (by rw[GG];lia) (λi ys H' _ p=>⟨bg.of (p.1 _ _ g1),?_⟩) (λi x ys H2 ex p R S kR kS=>?_) (λys H2 p D hD=>?_)⟩
  ·obtain⟨_,nss,em,hds⟩:=p;have h1:=hds.length;have h2:=(mx em).1;rw[GG] at h1;rw[Ib] at h2;lia
  ·obtain⟨s2,nss,em,hds⟩:=p;rw[GQ] at ex;obtain⟨w,ew,rfl⟩:=Hj.mp ex;have hm:=GS ew;have hl:=g_ w hm;refine aP (B:=S H2) ⟨_,rfl,w,rfl,by lia,?_⟩
   by_cases ha:(nj w).all cN=true
   ·obtain⟨ns,en,_⟩:=gf ha;refine .inr ⟨ns,en,λv H3 s3 hv=>kR _ _ ⟨s2.trans s3,nss++[ns],?_,?_⟩⟩
    ·rw[cC ew];exact nO em en
    ·rw[JL];exact aE.snoc (aE.same s3 hds) hv
   ·have ha:(nj w).all cN=false:=MG.mpr ha;exact .inl ⟨ha,(qz (Bc hm ha)).out (s1.trans s2)⟩
  ·obtain⟨s2,nss,em,hds⟩:=p;rw[GG,IE (GM _)] at em;generalize e0:upd H2 D _=H3;have s3:=s2.trans (dz hD e0);have g3:aW K H3 (nD nss) (.ref D):=.lst (.inl (cu e0)) (aE.same (dz hD e0) hds);refine⟨_,rfl,.ref D,_,rfl,g3,λH4 s4=>⟨_,rfl,?_⟩⟩;cases hp:sj (nD nss) with
   |false=>exact aP ⟨uk,(qz (Bh em hp)).now ((s1.trans s3).trans s4) rfl⟩
   |true=>
    obtain⟨ps,ed,hP⟩:=xO hp;have hc:=rk em hp ed;refine aX ⟨_,rfl,λC v dx hC hv hdx hne=>?_⟩;generalize e0:upd (upd H4 dx _) v _=H9;have s9:=y6 hv hdx hne e0;have gv:=cu e0;refine⟨v,C,dx,_,ps,rfl,hC,gv,by rw[<- ed];exact aW.same (s4.trans s9) g3,hP,λH10 mv10 hx10 cv=>⟨rfl,?_⟩⟩;have sA:ah H4 H10:=λb o e=>mv10 _ _ (s9 _ _ e) (λz=>by rw[G5.mp z,hv] at e;cases e)
    exact q ps hc hP _ _ (((s1.trans s3).trans s4).trans sA) hx10
theorem ph:aD uA3 uA3 (ai gz):=dY
inductive pT (K:GB)(vs:List V)(H:Hp)(Q:VK)(_:XK):Prop
 |mk (a:G7) (ns:List Int) (_:vs=[.ref a]) (_:bg K H a (ns.map V.int)) (_:ns.length<=63) (_:∀ t r H',ah H H'->H t=none->H r=none->bI H' t r->Q (.ref t) H')
theorem pI (T:de K mg w):du P w K mg base (cE P w) 1 "_law_town" uA3 [] (pT K):=by
  refine T.x1w.cal ph (bb:=λ_ _ _ _ _ H vs Q E hr h=>?_);obtain⟨a,ns,rfl,hS,hl,q⟩:=h;refine⟨_,(cD.go (ae (av (a_ (aM (cZ (aG (A7 (K:=K) rfl hr.units) (ao 0) (a_ aY) (aL _)) (bh (rM (K:=K) rfl) (by rfl) T.x8 jv (aB (ao 0))) (a_ (aB ac))) ac))))),?_⟩;refine⟨_,rfl,by decide,λp hp=>⟨a,p,ns,rfl,rfl,(ah.new hp).seq hS,af,_,rfl,?_⟩⟩;have s1:ah H (upd H p (.lst [])):=ah.new hp
  by_cases hn:ns=[]
  ·rw[GP hn];refine aX ⟨by decide,λr hr=>⟨pX,λt ht=>?_⟩⟩;have s2:=s1.trans (ah.new (o:=.lst [.int 0]) hr);exact q t r _ (s2.trans (ah.new ht)) (s2.free ht) (s1.free hr) ⟨[0],0,af,by rw[ap (aV af ht)];exact af,by decide,by decide⟩
  ·rw[Hr hn];refine aP ⟨_,rfl,a,ns.map V.int,rfl,.inl (s1.seq hS),λr hr=>⟨pX,λt ht=>?_⟩⟩;have s2:=s1.trans (ah.new (o:=.lst (ns.map V.int)) hr);exact q t r _ (s2.trans (ah.new ht)) (s2.free ht) (s1.free hr) ⟨ns,0,af,by rw[ap (aV af ht)];exact af,hn,hl⟩
theorem b8:aD ["_law_town_here","_law_many","_law_row","_law_at","_law_cell","_law_mixed"] uB1 (ai gk):=dY
inductive qd (_:GB)(vs:List V)(H:Hp)(Q:VK)(_:XK):Prop
 |mk (t r:G7) (many:Int) (_:vs=[.ref t,.int many]) (_:bI H t r) (_:0<many) (_:Sm 8000 many) (_:∀ (d:Int) (H':Hp),0<=d->d<many->bI H' t r->Mv [t,r] H H'->Q (.int d) H')
theorem ba (T:de K mg w):du P w K mg base (cE P w) 1 "_law_draw" uB1 [] (qd K):=by
  refine T.x1x.cal b8 (bb:=λ_ _ _ _ _ H vs Q E hr h=>?_);obtain⟨t,r,many,rfl,tw,hm,sm,q⟩:=h;have htr:=tw.ne;obtain⟨cells,k,ht,hw,hne,hlen⟩:=tw;refine⟨_,(cD.go (aa (au 2 b8.nd (aH K (ao 0) ac))
   (aa (gQ (aq bW (aH K (ao 0) ac) ac) (uw (ao 0) ac rZ))
   (aa (au 3 b8.nd (aq gx (aH K (ao 0) ac) (ak (di (K:=K) rfl) (by rfl) T.x2 bK (aB (ao 2)))))
   (aa (au 4 b8.nd (aH K (ao 2) (ao 3)))
   (aa (aR (aG DX (ao 4) ac (aL _)) (aa (gQ (aq c7 (ao 4) (ao 1)) (uw (ao 2) (ao 3) rZ))
   (ae (av (aq gx (ao 4) (ao 1))))) aF)
   (aa (au 5 b8.nd (aq gx (aq bW (ao 4) (aq bu ac (aH K (ao 0) ac))) ac))
   (aa (au 5 b8.nd (aq gx (aq xT (ao 5) ac) ac))
   (ae (av (aq gx (aq c7 (aq gx (aq bW (aq bu (aq c7 (ao 5) ac) ac) (ao 5)) ac) ac) (ao 1)))))))))))),?_⟩
  have nz:0<cells.length:=PY.mpr hne;have hw1:∀ o,upd H t o r=some (.lst (cells.map V.int)):=λo=>by rw[ap htr.symm];exact hw
  refine⟨_,rfl,Cq ht ?_⟩;refine⟨_,rfl,uf ht ⟨_,_,rfl,rfl,_,rfl,t,_,1,1,rfl,rfl,ht,rfl,?_⟩⟩;refine⟨_,rfl,uf (x:=.ref r) (y:=.int (k+1)) af ⟨_,rfl,r,cells.map V.int,rfl,.inl (bg.of (hw1 _)),_,_,rfl,rfl,?_,?_⟩⟩
  ·show(0:Int)<((cells.map V.int).length:Int);rw[GG];lia
  have e0:((cells.map V.int).length:Int)=(cells.length:Int):=by rw[GG]
  obtain⟨j,hj⟩:∃ j:Nat,(k+1)%((cells.map V.int).length:Int)=(j:Int):=⟨_,(Int.toNat_of_nonneg (KR _ (by lia))).symm⟩
  have hjl:j<cells.length:=by
   have:=Ki (k+1) (show 0<((cells.map V.int).length:Int) by lia);lia
  simp only[hj];refine⟨_,rfl,_,rfl,.inl ⟨r,_,_,.int cells[j],rfl,rfl,bg.of (hw1 _),fv (by simp[hjl]),?_⟩⟩;generalize cells[j]=c;refine⟨_,rfl,_,_,rfl,rfl,_,rfl,?_⟩;refine eB (λhc=>?_) (λhc=>?_)
  ·refine⟨_,rfl,_,rfl,_,_,rfl,rfl,⟨by lia,sm⟩,_,rfl,_,rfl,r,_,_,j,rfl,rfl,hw1 _,?_,?_⟩
   ·rw[GG];unfold wz;rw[Ie (show(0:Int)<=(j:Int) by lia),Ie (show(j:Int)<(cells.length:Int) by lia)];rfl
   refine⟨_,rfl,_,rfl,_,_,rfl,rfl,hm,?_⟩;refine q _ _ (KR _ (by lia)) (Ki _ hm) ⟨cells.set j (c.fdiv many),k+1,?_,?_,?_,?_⟩ ?_
   ·rw[ap htr];exact af
   ·rw[af,List.map_set]
   ·intro z;have:=KG Ou z;rw[O9] at this;exact absurd this (by rw[Mo];lia)
   ·rw[O9];exact hlen
   ·exact(Mv.upd (by simp)).trans (Mv.upd (by simp))
  ·refine⟨_,rfl,_,rfl,uf (x:=.ref r) (y:=.int (k+1)) af ⟨_,_,rfl,rfl,.inr (by unfold Sm;decide),_,_,rfl,rfl,_,_,rfl,rfl,(by show(0:Int)<4294967291;decide),?_⟩⟩;dsimp only;have b1:=KR (c+104729*(k+1)) (show(4294967291:Int)≠0 by decide);have b2:=Ki (c+104729*(k+1)) (show(0:Int)<4294967291 by decide);generalize (c+104729*(k+1))%4294967291=m1 at b1 b2 ⊢;refine⟨_,rfl,_,_,rfl,rfl,⟨by decide,by decide,by lia⟩,_,_,rfl,rfl,(by show(0:Int)<4294967279;decide),?_⟩;dsimp only;have b3:=KR (m1^(5:Int).toNat) (show(4294967279:Int)≠0 by decide);have b4:=Ki (m1^(5:Int).toNat) (show(0:Int)<4294967279 by decide);generalize m1^(5:Int).toNat%4294967279=m2 at b3 b4 ⊢;have b5:Sm 64 (m2.fdiv 64):=by
    rw[NH _ (by decide)];unfold Sm;lia
   refine⟨_,rfl,_,_,rfl,rfl,⟨by decide,by unfold Sm;decide⟩,_,_,rfl,rfl,.inr b5,_,rfl,_,_,rfl,rfl,_,_,rfl,rfl,(by show(0:Int)<4294967231;decide),_,_,rfl,rfl,⟨by decide,by unfold Sm;decide⟩,_,rfl,_,_,rfl,rfl,hm,?_⟩;exact q _ _ (KR _ (by lia)) (Ki _ hm) ⟨cells,k+1,af,hw1 _,hne,hlen⟩ (Mv.upd (by simp))
theorem qc:aD uA5 uA5 (ai gi):=dY
inductive oN (K:GB)(vs:List V)(H:Hp)(Q:VK)(_:XK):Prop
 |mk (t r p:G7) (xs:List V) (_:vs=[.ref t,.ref p]) (_:bI H t r) (_:H p=some (.lst xs)) (_:p≠t) (_:p≠r) (_:xs≠[]) (_:xs.length<=1000) (_:∀ (i:Nat) (v:V) (H':Hp),xs[i]?=some v->bI H' t r->Mv [t,r] H H'->Q v H')
theorem cK (T:de K mg w):du P w K mg base (cE P w) 2 "_law_pick" uA5 [] (oN K):=by
  refine T.x1y.cal qc (bb:=λ_ _ _ _ _ H vs Q E hr h=>?_);obtain⟨t,r,p,xs,rfl,tw,hp,n1,n2,hne,hl,q⟩:=h;refine⟨_,(cD.go (ae (av (aH K (ao 1) (aj aN (ba T) hr (aM (ao 0) (ak (di (K:=K) rfl) (by rfl) T.x2 bK (aB (ao 1))))))))),?_⟩;have nz:0<xs.length:=PY.mpr hne;refine⟨_,rfl,_,rfl,_,rfl,p,xs,rfl,.inl (bg.of hp),t,r,_,rfl,tw,by lia,?_,λd H' h0 h1 tw' mv=>?_⟩
  ·refine Sm.mono (k:=64) ?_ (by decide);unfold Sm;lia
  obtain⟨j,rfl⟩:=JK h0;have hj:j<xs.length:=by lia
  exact .inl ⟨p,xs,_,xs[j],rfl,rfl,bg.of (mv p _ hp (by simp[n1,n2])),fv (by simp[hj]),q j _ _ (by simp[hj]) tw' mv⟩
theorem bC:aD ["_law_caught","_law_kinds","_law_words"] ["_law_caught"] (ai dL):=dY
inductive kK (K:GB)(vs:List V)(H:Hp)(Q:VK)(_:XK):Prop
 |mk (v:V) (i:Nat) (x:Str) (_:vs=[v]) (_:Ei K H i v) (_:jI[i]?=some x) (_:∀ H',ah H H'->Q (.str x) H')
theorem rb {i:Nat}(h:i<11):([V.bl (i==0),V.bl (i==1),V.bl (i==2)]++[V.bl (i==3),V.bl (i==4),V.bl (i==5)]++[V.bl (i==6),V.bl (i==7),V.bl (i==8)]++[V.bl (i==9),V.bl (i==10)]).countP (λz=>L2.eqV z (V.bl true))=1:=by
 match i,h with
 |0,_=>rfl
 |1,_=>rfl
 |2,_=>rfl
 |3,_=>rfl
 |4,_=>rfl
 |5,_=>rfl
 |6,_=>rfl
 |7,_=>rfl
 |8,_=>rfl
 |9,_=>rfl
 |10,_=>rfl
theorem r6 {i:Nat} (h:i < 11):(∃ a,([V.bl (i == 0),V.bl (i == 1),V.bl (i == 2)] ++ [V.bl (i == 3),V.bl (i == 4),V.bl (i == 5)] ++ [V.bl (i == 6),V.bl (i == 7),V.bl (i == 8)] ++ [V.bl (i == 9),V.bl (i == 10)])[i]?=some a/\L2.eqV a (V.bl true)=true) /\
  ∀ m a,m<i->([V.bl (i==0),V.bl (i==1),V.bl (i==2)]++[V.bl (i==3),V.bl (i==4),V.bl (i==5)]++[V.bl (i==6),V.bl (i==7),V.bl (i==8)]++[V.bl (i==9),V.bl (i==10)])[m]?=some a->L2.eqV a (V.bl true)=false:=by
 have at':∀ m a,([V.bl (i==0),V.bl (i==1),V.bl (i==2)]++[V.bl (i==3),V.bl (i==4),V.bl (i==5)]++[V.bl (i==6),V.bl (i==7),V.bl (i==8)]++[V.bl (i==9),V.bl (i==10)])[m]?=some a->a=V.bl (i==m):=λm a e=>by
  match m,e with
  |0,e=>exact(GN e).symm
  |1,e=>exact(GN e).symm
  |2,e=>exact(GN e).symm
  |3,e=>exact(GN e).symm
  |4,e=>exact(GN e).symm
  |5,e=>exact(GN e).symm
  |6,e=>exact(GN e).symm
  |7,e=>exact(GN e).symm
  |8,e=>exact(GN e).symm
  |9,e=>exact(GN e).symm
  |10,e=>exact(GN e).symm
  |m+11,e=>simp at e
 refine⟨⟨V.bl (i==i),?_,by simp[eqV]⟩,λm a hm e=>?_⟩
 ·match i,h with
  |0,_=>rfl
  |1,_=>rfl
  |2,_=>rfl
  |3,_=>rfl
  |4,_=>rfl
  |5,_=>rfl
  |6,_=>rfl
  |7,_=>rfl
  |8,_=>rfl
  |9,_=>rfl
  |10,_=>rfl
 ·rw[at' m a e,show(i==m)=false by simp;lia];rfl
theorem fJ (T:de K mg w):du P w K mg base (cE P w) 1 "_law_refusal" ["_law_caught"] [] (kK K):=by
  refine T.x1z.cal bC (bb:=λ_ _ _ _ _ H vs Q E hr h=>?_);obtain⟨v,i,x,rfl,⟨e,C,rfl,hk,hH⟩,hx,q⟩:=h;refine⟨_,(cD.go (aa (au 1 bC.nd (a_ (ag (ak (eV (K:=K) rfl) (by rfl) T.x0 ax (aM (ao 0) (bJ (K:=K) rfl rfl (bD T.x1 (i:=0) rfl)))) (ag (ak (eV (K:=K) rfl) (by rfl) T.x0 ax (aM (ao 0) (bJ (K:=K) rfl rfl (bD T.x1 (i:=1) rfl)))) (ag (ak (eV (K:=K) rfl) (by rfl) T.x0 ax (aM (ao 0) (bJ (K:=K) rfl rfl (bD T.x1 (i:=2) rfl)))) aY)))))
   (aa (au 1 bC.nd (aq fZ (ao 1) (a_ (ag (ak (eV (K:=K) rfl) (by rfl) T.x0 ax (aM (ao 0) (bJ (K:=K) rfl rfl (bD T.x1 (i:=3) rfl)))) (ag (ak (eV (K:=K) rfl) (by rfl) T.x0 ax (aM (ao 0) (bJ (K:=K) rfl rfl (bD T.x1 (i:=4) rfl)))) (ag (ak (eV (K:=K) rfl) (by rfl) T.x0 ax (aM (ao 0) (bJ (K:=K) rfl rfl (bD T.x1 (i:=5) rfl)))) aY))))))
   (aa (au 1 bC.nd (aq fZ (ao 1) (a_ (ag (ak (eV (K:=K) rfl) (by rfl) T.x0 ax (aM (ao 0) (bJ (K:=K) rfl rfl (bD T.x1 (i:=6) rfl)))) (ag (ak (eV (K:=K) rfl) (by rfl) T.x0 ax (aM (ao 0) (bJ (K:=K) rfl rfl (bD T.x1 (i:=7) rfl)))) (ag (ak (eV (K:=K) rfl) (by rfl) T.x0 ax (aM (ao 0) (bJ (K:=K) rfl rfl (bD T.x1 (i:=8) rfl)))) aY))))))
   (aa (au 1 bC.nd (aq fZ (ao 1) (a_ (aM (ak (eV (K:=K) rfl) (by rfl) T.x0 ax (aM (ao 0) (bJ (K:=K) rfl rfl (bD T.x1 (i:=9) rfl)))) (ak (eV (K:=K) rfl) (by rfl) T.x0 ax (aM (ao 0) (bJ (K:=K) rfl rfl (bD T.x1 (i:=10) rfl))))))))
   (aa (aR (WW.pt (bZ (aG gy (cB Ms Oz PySem.F.type_list_count y_ (ao 1) (aB bO)) ac (aL _)) (bZ (aO (aQ (ak (eV (K:=K) rfl) (by rfl) T.x0 ax (aM (ao 0) (bJ (K:=K) rfl rfl (AI T.x1)))))) (bP (aO (aQ (ak (eV (K:=K) rfl) (by rfl) T.x0 ax (aM (ao 0) (ck (v:=.ty "ValueError") rfl T.xy nr rfl))))))))) (ae (av ay)) aF)
   (aa (au 2 bC.nd (a_ (ag ay (ag ay (ag ay (ag ay (ag ay (ag ay (ag ay (ag ay (ag ay (ag ay (ag ay aY)))))))))))))
   (ae (av (aH K (ao 2) (cB Ms OA PySem.F.type_list_index wP (ao 1) (aB bO)))))))))))),?_⟩
  have R:=T.x1;obtain⟨_,_,_,_,_,tab⟩:=dG R;have ex:=(tab i C hk).1;have hi:i<11:=(GU.mp hx).1;clear tab;refine⟨_,rfl,λD0 k0=>⟨e,C,_,_,_,rfl,hH,ex,.inl ⟨_,rfl,rfl⟩,cL R hk (j:=0) ⟨_,rfl,k0⟩,?_⟩⟩;refine⟨_,rfl,λD1 k1=>⟨e,C,_,_,_,rfl,hH,ex,.inl ⟨_,rfl,rfl⟩,cL R hk (j:=1) ⟨_,rfl,k1⟩,?_⟩⟩;refine⟨_,rfl,λD2 k2=>⟨e,C,_,_,_,rfl,hH,ex,.inl ⟨_,rfl,rfl⟩,cL R hk (j:=2) ⟨_,rfl,k2⟩,?_⟩⟩;refine⟨Cp,λl0 h0=>?_⟩;have z0:ah H (upd H l0 (.lst [V.bl (i==0),V.bl (i==1),V.bl (i==2)])):=ah.new h0;have g0:(upd H l0 (.lst [V.bl (i==0),V.bl (i==1),V.bl (i==2)])) l0=some (.lst [V.bl (i==0),V.bl (i==1),V.bl (i==2)]):=af;have hH:=z0 _ _ hH;generalize upd H l0 (.lst [V.bl (i==0),V.bl (i==1),V.bl (i==2)])=G0 at z0 g0 hH ⊢;refine⟨_,rfl,?_⟩;refine⟨_,rfl,λD3 k3=>⟨e,C,_,_,_,rfl,hH,ex,.inl ⟨_,rfl,rfl⟩,cL R hk (j:=3) ⟨_,rfl,k3⟩,?_⟩⟩;refine⟨_,rfl,λD4 k4=>⟨e,C,_,_,_,rfl,hH,ex,.inl ⟨_,rfl,rfl⟩,cL R hk (j:=4) ⟨_,rfl,k4⟩,?_⟩⟩;refine⟨_,rfl,λD5 k5=>⟨e,C,_,_,_,rfl,hH,ex,.inl ⟨_,rfl,rfl⟩,cL R hk (j:=5) ⟨_,rfl,k5⟩,?_⟩⟩;refine⟨Cp,λm1 hm1=>?_⟩;have y1:ah G0 (upd G0 m1 (.lst [V.bl (i==3),V.bl (i==4),V.bl (i==5)])):=ah.new hm1;have f1:(upd G0 m1 (.lst [V.bl (i==3),V.bl (i==4),V.bl (i==5)])) m1=some (.lst [V.bl (i==3),V.bl (i==4),V.bl (i==5)]):=af;have g0:=y1 _ _ g0;have hH:=y1 _ _ hH;generalize upd G0 m1 (.lst [V.bl (i==3),V.bl (i==4),V.bl (i==5)])=F1 at y1 f1 g0 hH ⊢;refine⟨l0,m1,_,_,rfl,rfl,g0,f1,by show 6<=GZ;decide,λl1 h1=>?_⟩;have x1:ah F1 (upd F1 l1 (.lst ([V.bl (i==0),V.bl (i==1),V.bl (i==2)]++[V.bl (i==3),V.bl (i==4),V.bl (i==5)]))):=ah.new h1;have g1:(upd F1 l1 (.lst ([V.bl (i==0),V.bl (i==1),V.bl (i==2)]++[V.bl (i==3),V.bl (i==4),V.bl (i==5)]))) l1=some (.lst ([V.bl (i==0),V.bl (i==1),V.bl (i==2)]++[V.bl (i==3),V.bl (i==4),V.bl (i==5)])):=af;have hH:=x1 _ _ hH;have z1:=z0.trans (y1.trans x1);generalize upd F1 l1 (.lst ([V.bl (i==0),V.bl (i==1),V.bl (i==2)]++[V.bl (i==3),V.bl (i==4),V.bl (i==5)]))=G1 at x1 g1 hH z1 ⊢;refine⟨_,rfl,?_⟩;refine⟨_,rfl,λD6 k6=>⟨e,C,_,_,_,rfl,hH,ex,.inl ⟨_,rfl,rfl⟩,cL R hk (j:=6) ⟨_,rfl,k6⟩,?_⟩⟩;refine⟨_,rfl,λD7 k7=>⟨e,C,_,_,_,rfl,hH,ex,.inl ⟨_,rfl,rfl⟩,cL R hk (j:=7) ⟨_,rfl,k7⟩,?_⟩⟩;refine⟨_,rfl,λD8 k8=>⟨e,C,_,_,_,rfl,hH,ex,.inl ⟨_,rfl,rfl⟩,cL R hk (j:=8) ⟨_,rfl,k8⟩,?_⟩⟩;refine⟨Cp,λm2 hm2=>?_⟩;have y2:ah G1 (upd G1 m2 (.lst [V.bl (i==6),V.bl (i==7),V.bl (i==8)])):=ah.new hm2;have f2:(upd G1 m2 (.lst [V.bl (i==6),V.bl (i==7),V.bl (i==8)])) m2=some (.lst [V.bl (i==6),V.bl (i==7),V.bl (i==8)]):=af;have g1:=y2 _ _ g1;have hH:=y2 _ _ hH;generalize upd G1 m2 (.lst [V.bl (i==6),V.bl (i==7),V.bl (i==8)])=F2 at y2 f2 g1 hH ⊢;refine⟨l1,m2,_,_,rfl,rfl,g1,f2,by show 9<=GZ;decide,λl2 h2=>?_⟩;have x2:ah F2 (upd F2 l2 (.lst (([V.bl (i==0),V.bl (i==1),V.bl (i==2)]++[V.bl (i==3),V.bl (i==4),V.bl (i==5)])++[V.bl (i==6),V.bl (i==7),V.bl (i==8)]))):=ah.new h2
  have g2:(upd F2 l2 (.lst (([V.bl (i==0),V.bl (i==1),V.bl (i==2)]++[V.bl (i==3),V.bl (i==4),V.bl (i==5)])++[V.bl (i==6),V.bl (i==7),V.bl (i==8)]))) l2=some (.lst (([V.bl (i==0),V.bl (i==1),V.bl (i==2)]++[V.bl (i==3),V.bl (i==4),V.bl (i==5)])++[V.bl (i==6),V.bl (i==7),V.bl (i==8)])):=af;have hH:=x2 _ _ hH;have z2:=z1.trans (y2.trans x2);generalize upd F2 l2 (.lst (([V.bl (i==0),V.bl (i==1),V.bl (i==2)]++[V.bl (i==3),V.bl (i==4),V.bl (i==5)])++[V.bl (i==6),V.bl (i==7),V.bl (i==8)]))=G2 at x2 g2 hH z2 ⊢;refine⟨_,rfl,?_⟩;refine⟨_,rfl,λD9 k9=>⟨e,C,_,_,_,rfl,hH,ex,.inl ⟨_,rfl,rfl⟩,cL R hk (j:=9) ⟨_,rfl,k9⟩,?_⟩⟩;refine⟨_,rfl,λD10 k10=>⟨e,C,_,_,_,rfl,hH,ex,.inl ⟨_,rfl,rfl⟩,cL R hk (j:=10) ⟨_,rfl,k10⟩,?_⟩⟩;refine⟨pX,λm3 hm3=>?_⟩;have y3:ah G2 (upd G2 m3 (.lst [V.bl (i==9),V.bl (i==10)])):=ah.new hm3;have f3:(upd G2 m3 (.lst [V.bl (i==9),V.bl (i==10)])) m3=some (.lst [V.bl (i==9),V.bl (i==10)]):=af;have g2:=y3 _ _ g2;have hH:=y3 _ _ hH;generalize upd G2 m3 (.lst [V.bl (i==9),V.bl (i==10)])=F3 at y3 f3 g2 hH ⊢;refine⟨l2,m3,_,_,rfl,rfl,g2,f3,by show 11<=GZ;decide,λl3 h3=>?_⟩;have x3:ah F3 (upd F3 l3 (.lst ((([V.bl (i==0),V.bl (i==1),V.bl (i==2)]++[V.bl (i==3),V.bl (i==4),V.bl (i==5)])++[V.bl (i==6),V.bl (i==7),V.bl (i==8)])++[V.bl (i==9),V.bl (i==10)]))):=ah.new h3;have g3:(upd F3 l3 (.lst ((([V.bl (i==0),V.bl (i==1),V.bl (i==2)]++[V.bl (i==3),V.bl (i==4),V.bl (i==5)])++[V.bl (i==6),V.bl (i==7),V.bl (i==8)])++[V.bl (i==9),V.bl (i==10)]))) l3=some (.lst ((([V.bl (i==0),V.bl (i==1),V.bl (i==2)]++[V.bl (i==3),V.bl (i==4),V.bl (i==5)])++[V.bl (i==6),V.bl (i==7),V.bl (i==8)])++[V.bl (i==9),V.bl (i==10)])):=af;have hH:=x3 _ _ hH;have z3:=z2.trans (y3.trans x3);generalize upd F3 l3 (.lst ((([V.bl (i==0),V.bl (i==1),V.bl (i==2)]++[V.bl (i==3),V.bl (i==4),V.bl (i==5)])++[V.bl (i==6),V.bl (i==7),V.bl (i==8)])++[V.bl (i==9),V.bl (i==10)]))=G3 at x3 g3 hH z3 ⊢;have fl:((([V.bl (i==0),V.bl (i==1),V.bl (i==2)]++[V.bl (i==3),V.bl (i==4),V.bl (i==5)])++[V.bl (i==6),V.bl (i==7),V.bl (i==8)])++[V.bl (i==9),V.bl (i==10)]).all fO=true:=rfl;refine⟨_,rfl,.inl ⟨rfl,_,bg.of g3⟩,l3,_,_,rfl,rfl,g3,rfl,fl,_,_,rfl,rfl,_,rfl,?_⟩;rw[rb hi];refine aX ?_;refine⟨_,rfl,λDT kT=>⟨e,C,_,_,_,rfl,hH,ex,.inl ⟨_,rfl,rfl⟩,yk R hk kT,_,rfl,aX ?_⟩⟩;refine⟨_,rfl,e,C,_,_,_,rfl,hH,ex,.inr ⟨_,rfl,rfl⟩,wH R hk,_,rfl,aX ?_⟩;refine⟨by show 11<=GZ;decide,λwl hw=>?_⟩;obtain⟨hit,hno⟩:=r6 hi;have zw:ah G3 (upd G3 wl (.lst (jI.map V.str))):=ah.new hw;have g3:=zw _ _ g3;refine⟨_,rfl,_,rfl,.inl ⟨rfl,_,bg.of g3⟩,l3,_,_,i,rfl,rfl,g3,rfl,fl,by show 11<=1000;decide,hit,hno,?_⟩;refine .inl ⟨wl,_,_,_,rfl,rfl,bg.of af,fv (v:=V.str x) ?_,q _ (z3.trans zw)⟩;show(jI.map V.str)[i]?=some (.str x);rw[GQ,hx];rfl
theorem eE:aD ["_law_one","_law_two","_law_a","_law_b"] uB8 (ai iR):=dY
inductive rp (K:GB)(vs:List V)(H:Hp)(Q:VK)(_:XK):Prop
 |mk (t b:Int) (_:vs=[.int t,.int b]) (_:b≠0) (_:Sm 8000 b) (_:Sh K H t b Q)
theorem q9 (T:de K mg w):du P w K mg base (cE P w) 1 "_law_low" uB8 [] (rp K):=by
  refine T.x20.cal eE (bb:=λ_ _ _ _ _ H vs Q E hr h=>?_);obtain⟨t,b,rfl,hb,sb,q⟩:=h;refine⟨_,(cD.go (aa (aR (aG rS (ao 1) ac (aL _)) (ae (jJ (i:=0) (j:=1) rfl eE.nd rfl rfl (by decide) rfl rfl (aM (aq fu ac (ao 0)) (aq fu ac (ao 1))) rfl)) aF)
   (aa (jJ (i:=2) (j:=3) rfl eE.nd rfl rfl (by decide) rfl rfl (aM (ak (vt rfl) (by rfl) T.x10 Dc (aM (ao 0) (aq fu ac (ao 0)))) (ao 1)) rfl)
   (aa (j8 Kd (aG uH (ao 3) ac (aL _)) (ae (jJ (i:=2) (j:=3) rfl eE.nd rfl rfl (by decide) rfl rfl (aM (ao 3) (aq gx (ao 2) (ao 3))) rfl)))
   (ae (av (eF (aM (aq c7 (ao 0) (ao 2)) (aq c7 (ao 1) (ao 2)))))))))),?_⟩
  have core:∃ t' b':Int,(b<0->t'=0-t/\b'=0-b)/\(¬ b<0->t'=t/\b'=b)/\0<b'/\Sm 8000 b'/\∀ n d,yj t' b' n d->yj t b n d:=by
   by_cases hc:b<0
   ·refine⟨0-t,0-b,λ_=>⟨rfl,rfl⟩,λz=>absurd hc z,by lia,by rw[QT];exact sb.neg,λn d z=>⟨z.1,z.2.1,?_⟩⟩;have:=z.2.2;rw[QT,QT,Re,Int.neg_mul] at this;lia
   ·exact⟨t,b,λz=>absurd z hc,λ_=>⟨rfl,rfl⟩,by lia,sb,λ_ _ z=>z⟩
  obtain⟨t',b',c1,c2,hb',sb',lw⟩:=core;refine⟨_,rfl,_,_,rfl,rfl,_,rfl,?_⟩
  suffices cR:Ep _ _ _ [some (.int t'),some (.int b'),none,none] H by
   refine eB (λhc=>?_) (λhc=>?_)
   ·obtain⟨rfl,rfl⟩:=c1 (IY hc);exact⟨_,rfl,_,_,rfl,rfl,_,rfl,_,_,rfl,rfl,_,_,rfl,cR⟩
   ·obtain⟨rfl,rfl⟩:=c2 (λz=>hc (GP z));exact cR
  refine⟨_,rfl,_,rfl,_,_,rfl,rfl,_,_,rfl,_,rfl,_,_,rfl,?_⟩;refine⟨λm σ H'=>∃ x y:Int,σ=[some (.int t'),some (.int b'),some (.int x),some (.int y)]/\H'=H/\0<=x/\0<=y/\Jt x y=Jt t' b'/\m=y.toNat,⟨_,_,_,rfl,rfl,?_,?_,?_,rfl⟩,?_⟩
  ·split<;>lia
  ·lia
  ·rw[<- uS t' b',show(if b'<0 then -b' else b')=b' from Hu (by lia)]
   congr 1
   by_cases h1:t'<0
   ·rw[Ie h1,Ie (show 0-t'>t' by lia)];lia
   ·rw[Hu h1]
    split<;>lia
  ·rintro m σ H' ⟨x,y,rfl,rfl,hx,hy,hg,rfl⟩;refine⟨_,rfl,_,_,rfl,rfl,_,rfl,?_⟩;refine eB (λhc=>?_) (λhc=>?_)
   ·have hc:=IY hc;refine⟨_,λ_ _ z=>z,?_⟩;refine⟨_,rfl,_,rfl,_,rfl,_,_,rfl,rfl,hc,_,_,rfl,?_⟩;have h1:=KR x (show y≠0 by lia);have h2:=Ki x hc;exact⟨(x%y).toNat,by lia,y,x%y,rfl,rfl,hy,h1,by rw[r_ hx hc];exact hg,rfl⟩
   ·have hc:¬ (0<y):=λz=>hc (GP z)
    have hy0:y=0:=by lia
    subst hy0;have e:x=(Jt t' b':Int):=by
     rw[<- hg,Qb];lia
    subst e;have gb:Sm 8000 (Jt t' b':Int):=sb'.le (xV (by lia));have gn:(Jt t' b':Int)≠0:=by
     have:=Lq t' (show b'≠0 by lia);lia
    refine⟨_,rfl,_,rfl,_,_,rfl,rfl,⟨gn,gb⟩,_,rfl,_,rfl,_,_,rfl,rfl,⟨gn,gb⟩,pX,λp hp=>?_⟩;exact q _ _ _ _ (ah.new hp) (rY af) (lw _ _ (sH (by lia) rfl (by rw[Hu (by lia)])))
theorem iE:aD ["_law_town_here","_law_cap","_law_below"] uA6 (ai fF):=dY
inductive m_ (K:GB)(vs:List V)(H:Hp)(Q:VK)(_:XK):Prop
 |mk (t r:G7) (cap:Int) (_:vs=[.ref t,.int cap]) (_:bI H t r) (_:0<cap) (_:cap<=1000) (_:∀ (v:V) (q:Rat) (H':Hp),aW K H' (rD q) v->0<=q->q<=(cap:Rat)->Bq 17 q->bI H' t r->Mv [t,r] H H'->Q v H')
theorem ny (T:de K mg w):du P w K mg base (cE P w) 3 "_law_share" uA6 [] (m_ K):=by
  refine T.x21.cal iE (bb:=λ_ _ _ _ _ H vs Q E hr h=>?_);obtain⟨t,r,cap,rfl,tw,c0,c1,q⟩:=h;refine⟨_,(cD.go (aa (au 2 iE.nd (aj aN (cK T) hr (aM (ao 0) (a_ (ag ac (ag ac (ag ac (ag ac (ag ac (ag ac aY))))))))))
   (ae (av (aj aN (cK T) hr (aM (ao 0) (aq fZ (aq tD (a_ (aB (aj aN (q9 T) hr (aM (aj aN (ba T) hr (aM (ao 0) (aq bW (aq bu (ao 1) (ao 2)) ac))) (ao 2))))) ac) (a_ (aM (eF (aM ac ac)) (eF (aM (ao 1) ac))))))))))),?_⟩
  have s64:∀ {n:Int},0<n->n<100000->Sm 8000 n:=λh1 h2=>Sm.mono (k:=20) (by unfold Sm;lia) (by decide)
  refine⟨_,rfl,(by show 6<=GZ;decide),λp hp=>?_⟩;have sp:=ah.new (o:=.lst [.int 1,.int 1,.int 2,.int 3,.int 7,.int 60]) hp;have np:=tw.not hp;refine⟨t,r,p,_,rfl,tw.same sp,af,λz=>np (by simp[z]),λz=>np (by simp[z]),by simp,by show 6<=1000;decide,λj v G hv tw1 mv1=>?_⟩;obtain⟨b,rfl,b0,b1⟩:∃ b:Int,v=.int b/\0<b/\b<=60:=by
   match j,hv with
   |0,hv=>exact⟨1,(GN hv).symm,by decide,by decide⟩
   |1,hv=>exact⟨1,(GN hv).symm,by decide,by decide⟩
   |2,hv=>exact⟨2,(GN hv).symm,by decide,by decide⟩
   |3,hv=>exact⟨3,(GN hv).symm,by decide,by decide⟩
   |4,hv=>exact⟨7,(GN hv).symm,by decide,by decide⟩
   |5,hv=>exact⟨60,(GN hv).symm,by decide,by decide⟩
  have cb:cap*b<=60000:=Int.le_trans (Int.mul_le_mul_of_nonneg_right c1 (by lia)) (by lia);have cb0:0<=cap*b:=KI (by lia) (by lia);have mv1:=(Mv.of sp).trans mv1;clear hv sp np hp;refine⟨_,rfl,_,rfl,_,rfl,_,rfl,_,_,rfl,rfl,.inr ((Eh (by lia) c1).mono (by decide)),_,_,rfl,rfl,?_⟩;refine⟨t,r,_,rfl,tw1,by lia,s64 (by lia) (by lia),λd H2 d0 d1 tw2 mv2=>?_⟩;have bq:Bq 17 ((d:Rat)/(b:Rat)):=BI (by lia) (by unfold Sm;lia) (by unfold Sm;lia);have bp:(0:Rat)<(b:Rat):=Rat.intCast_pos.mpr b0;have hd0:(0:Rat)<=(d:Rat):=Qk.mpr d0;have hd1:(d:Rat)<=(cap:Rat)*(b:Rat):=by rw[<- LD];exact Rat.intCast_le_intCast.mpr (by lia)
  have nb:=CJ (n:=b) (by lia);have eq:(d:Rat)=(d:Rat)/(b:Rat)*(b:Rat):=by grind
  have q0:0<=(d:Rat)/(b:Rat):=Rat.not_lt.mp λz=>by
   have:=NB z bp;grind
  have q1:(d:Rat)/(b:Rat)<=(cap:Rat):=Rat.not_lt.mp λz=>by
   have:=NB z bp;grind
  refine⟨_,rfl,_,_,rfl,by lia,s64 (by lia) (by lia),Dl.sh (by lia) λv3 H3 s3 hv3=>?_⟩;refine⟨uk,λp1 hp1=>?_⟩;have s4:=ah.new (o:=.lst [v3]) hp1;refine AH (n:=4) rfl (by decide) af λp2 hp2=>?_
  have s5:=ah.new (o:=.lst (GY 4 v3)) hp2;refine⟨pX,λp3 hp3=>?_⟩;have s6:=ah.new (o:=.tup [.int 0,.int 1]) hp3;refine⟨_,rfl,pX,λp4 hp4=>?_⟩;have s7:=ah.new (o:=.tup [.int cap,.int 1]) hp4;refine⟨pX,λp5 hp5=>?_⟩;have s8:=ah.new (o:=.lst [.ref p3,.ref p4]) hp5;have s67:=s6.trans (s7.trans s8);refine⟨p2,p5,_,_,rfl,rfl,s67 _ _ af,af,(by show 4+2<=GZ;decide),λp6 hp6=>?_⟩;have s9:=ah.new (o:=.lst (GY 4 v3++[.ref p3,.ref p4])) hp6;have g3:=s9 _ _ (s8 _ _ (s7 _ _ (af (H:=upd (upd H3 p1 (.lst [v3])) p2 (.lst (GY 4 v3))) (a:=p3) (o:=.tup [.int 0,.int 1]))));have g4:=s9 _ _ (s8 _ _ (af (H:=upd (upd (upd H3 p1 (.lst [v3])) p2 (.lst (GY 4 v3))) p3 (.tup [.int 0,.int 1])) (a:=p4) (o:=.tup [.int cap,.int 1])));have sA:ah H3 _:=((s4.trans s5).trans s67).trans s9;have hv:=aW.same sA hv3;have twA:=(tw2.same s3).same sA;have n6:p6∉[t,r]:=((tw2.same s3).same ((s4.trans s5).trans s67)).not hp6;have mvA:=(mv1.trans mv2).trans (Mv.of (s3.trans sA));have gA:upd (upd (upd (upd (upd (upd H3 p1 (.lst [v3])) p2 (.lst (GY 4 v3))) p3 (.tup [.int 0,.int 1])) p4 (.tup [.int cap,.int 1])) p5 (.lst [.ref p3,.ref p4])) p6 (.lst (GY 4 v3++[.ref p3,.ref p4])) p6=some (.lst (GY 4 v3++[.ref p3,.ref p4])):=af;generalize upd (upd (upd (upd (upd (upd H3 p1 (.lst [v3])) p2 (.lst (GY 4 v3))) p3 (.tup [.int 0,.int 1])) p4 (.tup [.int cap,.int 1])) p5 (.lst [.ref p3,.ref p4])) p6 (.lst (GY 4 v3++[.ref p3,.ref p4]))=GA at g3 g4 sA hv twA mvA gA ⊢;refine⟨t,r,p6,_,rfl,twA,gA,λz=>n6 (by simp[z]),λz=>n6 (by simp[z]),by simp,by show 6<=1000;decide,λj v H7 hj tw7 mv7=>?_⟩;have one:∀ {n:Int}{a:G7},GA a=some (.tup [.int n,.int 1])->aW K GA (rD (n:Rat)) (.ref a):=λ{n a} h=>by rw[Cm];exact rY h
  obtain⟨z,hz,z0,z1,bz⟩:∃ z:Rat,aW K GA (rD z) v/\0<=z/\z<=(cap:Rat)/\Bq 17 z:=by
   have cp:(0:Rat)<=(cap:Rat):=Qk.mpr (by lia)
   match j,hj with
   |0,hj=>cases hj;exact⟨_,hv,q0,q1,bq⟩
   |1,hj=>cases hj;exact⟨_,hv,q0,q1,bq⟩
   |2,hj=>cases hj;exact⟨_,hv,q0,q1,bq⟩
   |3,hj=>cases hj;exact⟨_,hv,q0,q1,bq⟩
   |4,hj=>cases hj;exact⟨_,one g3,Rat.le_refl,cp,(wT (n:=0) (k:=17) (by unfold Sm;decide) (by decide))⟩
   |5,hj=>cases hj;exact⟨_,one g4,cp,Rat.le_refl,(wT (Eh (by lia) c1) (by decide)).mono (by decide)⟩
  exact q v z H7 (aW.mv mv7 twA.lists rfl hz) z0 z1 bz tw7 (mvA.trans mv7)
theorem bj:aD ["_law_town_here","_law_last","_law_cap","_law_climbs","_law_size","_law_places","_law_values"] uA0 (ai eO):=dY
inductive mF (K:GB)(vs:List V)(H:Hp)(Q:VK)(_:XK):Prop
 |mk (t r:G7) (last cap:Int) (c:Bool) (_:vs=[.ref t,.int last,.int cap,.bl c]) (_:bI H t r) (_:1<=last) (_:last<=1000) (_:1<=cap) (_:cap<=1000) (_:∀ (D:G7) (ps:List Pt) (z:Pt) (xs:List V) (H':Hp),H' D=some (.lst xs)->aE K H' (ps.map h_) xs->pM ps->ps.getLast?=some z->z.1=last->z.2<=cap->D∉[t,r]->bI H' t r->Mv [t,r] H H'->Q (.ref D) H')
theorem mn (T:de K mg w):du P w K mg base (cE P w) 2 "_law_points" uA0 [] (mF K):=by
  refine T.x22.cal bj (bb:=λ_ _ _ _ _ H vs Q E hr h=>?_);obtain⟨t,r,last,cap,c,rfl,tw,l1,l2,c1,c2,q⟩:=h;refine⟨_,(cD.go (aa (au 4 bj.nd (aq bW ac (aj aN (ba T) hr (aM (ao 0) ac))))
   (aa (au 5 bj.nd (ky (K:=K) rfl rfl (by rfl) T.xb (by rfl) T.xo (aB (aq fZ (a_ (aM ac (ao 1))) (aS uC1 ["_law_town_here","_law_last"] [0,1] 1 (bQ rfl T.x4 (aB (ao 4))) (λnd=>(am 0 nd)) aJ (aj aN (ba T) hr (aM (ao 1) (aq bW (ao 2) ac))))))))
   (aa (au 6 bj.nd (ak (yh (K:=K) rfl) (by rfl) T.xb j9 (aB (aS uC1 uA6 [0,2] 1 (bQ rfl T.x4 (aB (ak (di (K:=K) rfl) (by rfl) T.x2 bK (aB (ao 5))))) (λnd=>(am 0 nd)) aJ (aj aN (ba T) hr (aM (ao 1) (aq bW (ao 2) ac)))))))
   (aa (aR (aQ (ao 3)) (aa (au 6 bj.nd (aS uC1 ["_law_cap","_law_values"] [2,6] 1 (bQ rfl T.x4 (aB (ak (di (K:=K) rfl) (by rfl) T.x2 bK (aB (ao 5))))) (λnd=>(am 0 nd)) aJ (ak (jP rfl) (by rfl) T.xc tH (aM (ao 1) (aq bW (aH K (ao 2) (ao 0)) (ao 0))))))
   (aa (au 6 bj.nd (ky (K:=K) rfl rfl (by rfl) T.xb (by rfl) T.xo (aB (ao 6))))
   (aa (au 5 bj.nd (cZ (aG uH (ak (di (K:=K) rfl) (by rfl) T.x2 bK (aB (ao 6))) ac (aL _)) (aq fZ (cV (Ab (K:=K) rfl) (ao 5) dR (dQ (aq fu (ak (di (K:=K) rfl) (by rfl) T.x2 bK (aB (ao 6))) ac))) (a_ (aB (ao 1)))) (a_ (aM ac (ao 1)))))
   (ae (au 6 bj.nd (cZ (aG uH (ak (di (K:=K) rfl) (by rfl) T.x2 bK (aB (ao 6))) ac (aL _)) (ao 6) (a_ (aM ac (ao 2))))))))) aF)
   (ae (av (aS uC1 ["_law_places","_law_values"] [5,6] 1 (bQ rfl T.x4 (aB (ak (di (K:=K) rfl) (by rfl) T.x2 bK (aB (ao 5))))) (λnd=>(am 0 nd)) aJ (eF (aM (aH K (ao 1) (ao 0)) (aH K (ao 2) (ao 0)))))))))))),?_⟩
  have s64:∀ {n:Int},0<n->n<100000->Sm 8000 n:=λh1 h2=>Sm.mono (k:=20) (by unfold Sm;lia) (by decide)
  refine⟨_,rfl,t,r,5,rfl,tw,by decide,s64 (by decide) (by decide),λd H1 d0 d1 tw1 mv1=>⟨_,_,rfl,rfl,?_⟩⟩;refine⟨_,rfl,pX,λp hp=>?_⟩;generalize e0:upd H1 p _=H2;have sp:=dz hp e0;have gp:=cu e0;have np:=tw1.not hp;have tw2:=tw1.same sp;have mv2:=mv1.trans (Mv.of sp);refine⟨_,rfl,_,rfl,by lia,by lia,kE (t:=t) (r:=r) (lo:=0) (m:=last) tw2 (by lia) (λi H3 hi wA mv3 R kk S=>?_) (λks H3 hk hP wA mv3 D hD=>?_)⟩
  ·exact aP (B:=S H3) ⟨_,rfl,_,rfl,_,_,rfl,rfl,t,r,_,rfl,wA,by lia,s64 (by lia) (by lia),λd3 H4 a3 b3 tw4 mv4=>kk _ _ ⟨d3,rfl,a3,by lia,tw4,mv4⟩⟩
  generalize e0:upd H3 D _=H4;have sD:=dz hD e0;have gD:=cu e0;have tw4:=wA.same sD;have mv4:=(mv2.trans mv3).trans (Mv.of sD);have gp4:=sD _ _ (mv3 _ _ gp np);have hk':ks.length<=6:=by lia
  refine⟨p,D,_,_,rfl,rfl,gp4,gD,by rw[GG,Ji];simp;lia,λp5 hp5=>?_⟩;have s5:ah H4 (upd H4 p5 (.lst ([.int 0,.int last]++ks.map V.int))):=ah.new hp5;have g5:upd H4 p5 (.lst ([.int 0,.int last]++ks.map V.int)) p5=some (.lst (([0,last]++ks).map V.int)):=by rw[af,JL];rfl
  have tw5:=tw4.same s5;have mv5:=mv4.trans (Mv.of s5);generalize upd H4 p5 (.lst ([.int 0,.int last]++ks.map V.int))=H5 at s5 g5 tw5 mv5 ⊢;refine⟨p5,[0,last]++ks,rfl,bg.of g5,by simp;lia,λL ns hL up mem len=>?_⟩;have pl:Pl last ns:=Ee l1 up ((mem 0).mpr (by simp)) ((mem last).mpr (by simp)) (λx hx=>by
   have:=(mem x).mp hx;simp only[Hy,GR,Hq,Js] at this;rcases this with (e|e)|e
   ·lia
   ·lia
   ·exact hP x e) (by simp at len;lia)
  have few8:ns.length<=8:=by simp at len;lia
  generalize e0:upd H5 L _=H6;have s6:=dz hL e0;have g6:=cu e0;have nL:=tw5.not hL;have tw6:=tw5.same s6;have mv6:=mv5.trans (Mv.of s6);have two:=pl.two;have len6:(ns.map V.int).length=ns.length:=GG _;refine⟨_,rfl,L,_,rfl,.inl (bg.of g6),_,rfl,by lia,by lia,kE (t:=t) (r:=r) (lo:=0) (m:=cap) tw6 (by lia) (λi H7 hi tw7 mv7 R kk S=>?_) (λvs H7 hv iv tw7 mv7 D7 hD7=>?_)⟩
  ·exact aP (B:=S H7) ⟨_,rfl,_,rfl,_,_,rfl,rfl,t,r,_,rfl,tw7,by lia,s64 (by lia) (by lia),λd3 H4 a3 b3 tw4 mv4=>kk _ _ ⟨d3,rfl,a3,by lia,tw4,mv4⟩⟩
  have hv:vs.length=ns.length:=by lia
  generalize e0:upd H7 D7 _=H8;have s8:=dz hD7 e0;have g8:=cu e0;have tw8:=tw7.same s8;have mv8:=(mv6.trans mv7).trans (Mv.of s8);have gL8:=s8 _ _ (mv7 _ _ g6 nL);refine⟨D7,vs,rfl,bg.of g8,by lia,λL9 ws hL9 up9 pe9=>?_⟩;have lw:ws.length=ns.length:=by rw[pe9.length_eq];exact hv
  have iw:∀ x∈ws,0<=x/\x<=cap:=λx hx=>iv x (pe9.mem_iff.mp hx)
  generalize e0:upd H8 L9 _=H9;have s9:=dz hL9 e0;have g9:=cu e0;have nL9:=tw8.not hL9;have tw9:=tw8.same s9;have mv9:=mv8.trans (Mv.of s9);have gL9:=s9 _ _ gL8;have out:∀ (ps:List Pt) (z:Pt) (G:Hp) (ys:List V) (D:G7),pM ps->ps.getLast?=some z->z.1=last->z.2<=cap->bI G t r->Mv [t,r] H G->aE K G (ps.map h_) ys->G D=none->Q (.ref D) (upd G D (.lst ys)):=
   λps z G ys D h1 h2 h3 h4 twG mvG hys hD=>q D ps z ys _ af (aE.same (ah.new hD) hys) h1 h2 h3 h4 (twG.not hD) (twG.same (ah.new hD)) (mvG.trans (Mv.of (ah.new hD)))
  refine⟨_,rfl,_,rfl,?_⟩;refine eB (λhc=>?_) (λhc=>?_)
  ·let cl:List Int:=(IQ ns.length).map λk:Nat=>if ws.getD k 0+(k:Int)<cap then ws.getD k 0+(k:Int) else cap
   have icl:∀ x∈cl,0<=x/\x<=cap:=λx hx=>by
    obtain⟨k,hk,rfl⟩:=HH.mp hx;rw[Ju] at hk;have:ws.getD k 0=ws[k]:=by simp[O7,show k<ws.length by lia]
    have:=iw ws[k] (KB _)
    split<;>lia
   have lcl:cl.length=ns.length:=by simp[cl]
   refine⟨_,rfl,L,_,rfl,.inl (bg.of gL9),_,rfl,by lia,by lia,eK (K:=K) (lo:=0) (ds:=cl.map IG) (by rw[GG,lcl];lia) (by lia) (λi d G hd sG R kk S=>?_) (λys G sG hys D hD=>?_)⟩
   ·rw[GQ] at hd;obtain⟨m,em,rfl⟩:=Hj.mp hd;have hi:i<ns.length:=by have:=(GU.mp em).1;lia
    have em':m=if ws.getD i 0+(i:Int)<cap then ws.getD i 0+(i:Int) else cap:=by
     simp only[cl,GQ,List.getElem?_range hi,Option.map_some,Option.some.injEq] at em;exact em.symm
    have ew:(ws.map V.int)[i]?=some (.int (ws.getD i 0)):=by simp[O7,show i<ws.length by lia]
    exact aP (B:=S G) ⟨_,rfl,_,rfl,_,rfl,CB (sG _ _ g9) (j:=i) ew (by lia) ⟨_,rfl,_,_,rfl,rfl,_,_,rfl,kk _ _ ⟨ah.refl _,by rw[em',O4];exact .int _⟩⟩⟩
   cases uG hys;have s10:ah H9 (upd G D (.lst (cl.map V.int))):=sG.trans (ah.new hD);have g10:upd G D (.lst (cl.map V.int)) D=some (.lst (cl.map V.int)):=af;clear hys;generalize upd G D (.lst (cl.map V.int))=G at s10 g10 ⊢;refine⟨_,rfl,D,cl,rfl,bg.of g10,by lia,λL2 us hL2 up2 mem2 len2=>?_⟩;have iu:∀ x∈us,0<=x/\x<=cap:=λx hx=>icl x ((mem2 x).mp hx)
   have s11:ah H9 (upd G L2 (.lst (us.map V.int))):=s10.trans (ah.new hL2);have g11:upd G L2 (.lst (us.map V.int)) L2=some (.lst (us.map V.int)):=af;generalize upd G L2 (.lst (us.map V.int))=G at s11 g11 ⊢;have lu:(us.map V.int).length=us.length:=GG _;have gL11:=s11 _ _ gL9;refine⟨_,rfl,L2,_,rfl,.inl (bg.of g11),_,_,rfl,rfl,_,rfl,?_⟩
   by_cases hu:1<us.length
   ·rw[GP (show((us.map V.int).length:Int)>1 by lia)];refine aP ?_;refine⟨_,rfl,_,rfl,L2,_,rfl,.inl (bg.of g11),_,_,rfl,rfl,_,rfl,L,_,rfl,bg.of gL11,λp1 hp1=>⟨_,rfl,uk,λp2 hp2=>?_⟩⟩;rw[lu,zd (ns.map V.int) us.length (by lia),<- List.map_take] at hp2 ⊢;have s12:ah G (upd (upd G p1 (.lst ((ns.take (us.length-1)).map V.int))) p2 (.lst [.int last])):=(ah.new hp1).trans (ah.new hp2);have ga:upd (upd G p1 (.lst ((ns.take (us.length-1)).map V.int))) p2 (.lst [.int last]) p1=some (.lst ((ns.take (us.length-1)).map V.int)):=ah.new hp2 _ _ af;have gb:upd (upd G p1 (.lst ((ns.take (us.length-1)).map V.int))) p2 (.lst [.int last]) p2=some (.lst [.int last]):=af;generalize upd (upd G p1 (.lst ((ns.take (us.length-1)).map V.int))) p2 (.lst [.int last])=G2 at s12 ga gb ⊢;refine⟨p1,p2,_,_,rfl,rfl,ga,gb,by rw[GG,Ib,Ji];simp;lia,λp3 hp3=>?_⟩;rw[show(ns.take (us.length-1)).map V.int++[V.int last]=(ns.take (us.length-1)++[last]).map V.int by simp];obtain⟨pl2,len2'⟩:=Dj pl hu (by lia);generalize ns.take (us.length-1)++[last]=ms at pl2 len2' ⊢;have s13:ah H9 (upd G2 p3 (.lst (ms.map V.int))):=(s11.trans s12).trans (ah.new hp3);have g13:upd G2 p3 (.lst (ms.map V.int)) p3=some (.lst (ms.map V.int)):=af;have gu13:upd G2 p3 (.lst (ms.map V.int)) L2=some (.lst (us.map V.int)):=ah.new hp3 _ _ (s12 _ _ g11);generalize upd G2 p3 (.lst (ms.map V.int))=G3 at s13 g13 gu13 ⊢;have lm:(ms.map V.int).length=ms.length:=GG _;refine⟨_,rfl,L2,_,rfl,.inl (bg.of gu13),_,_,rfl,rfl,_,rfl,?_⟩;rw[GP (show((us.map V.int).length:Int)>1 by lia)];refine aP ⟨_,rfl,?_⟩;obtain⟨hp1,z,hz,ez⟩:=tS pl2 l2 (up2.imp (λh=>O2 h)) (λx hx=>by have:=iu x hx;lia) (by lia);have lz:(ms.zip us).length=ms.length:=by rw[Nr];lia
    refine⟨_,rfl,p3,_,rfl,.inl (bg.of g13),_,rfl,by lia,by lia,eK (K:=K) (lo:=0) (ds:=(ms.zip us).map h_) (by rw[GG];lia) (by lia) (λi d G' hd sG R kk S=>?_) (λys G' sG hys D hD=>?_)⟩
    ·rw[GQ] at hd;obtain⟨pt,ept,rfl⟩:=Hj.mp hd;obtain⟨ea,eb⟩:=Ip.mp ept;exact aP (B:=S G') ⟨_,rfl,_,rfl,CB (sG _ _ g13) (j:=i) (v:=.int pt.1) (by rw[GQ,ea];rfl) (by lia) ⟨_,rfl,_,rfl,CB (sG _ _ gu13) (j:=i) (v:=.int pt.2) (by rw[GQ,eb];rfl) (by lia) ⟨pX,λp hp=>kk _ _ ⟨ah.new hp,aW.tupN hp (.cons (.int _) (.cons (.int _) .nil))⟩⟩⟩⟩
    ·exact out _ z G' ys D hp1 hz ez (iu z.2 (KW (KO hz)).2).2 ((tw9.same s13).same sG) ((mv9.trans (Mv.of s13)).trans (Mv.of sG)) hys hD
   ·rw[Hr (show ¬ ((us.map V.int).length:Int)>1 by lia)];refine aX ⟨_,rfl,pX,λp1 hp1=>?_⟩;have s12:ah H9 (upd G p1 (.lst [.int 0,.int last])):=s11.trans (ah.new hp1);have g12:upd G p1 (.lst [.int 0,.int last]) p1=some (.lst ([0,last].map V.int)):=af;have gu12:upd G p1 (.lst [.int 0,.int last]) L2=some (.lst (us.map V.int)):=ah.new hp1 _ _ g11;generalize upd G p1 (.lst [.int 0,.int last])=G2 at s12 g12 gu12 ⊢;refine⟨_,rfl,L2,_,rfl,.inl (bg.of gu12),_,_,rfl,rfl,_,rfl,?_⟩;rw[Hr (show ¬ ((us.map V.int).length:Int)>1 by lia)];refine aX ⟨_,rfl,pX,λp2 hp2=>?_⟩;have s13:ah H9 (upd G2 p2 (.lst [.int 0,.int cap])):=s12.trans (ah.new hp2);have g13:upd G2 p2 (.lst [.int 0,.int cap]) p1=some (.lst ([0,last].map V.int)):=ah.new hp2 _ _ g12;have gu13:upd G2 p2 (.lst [.int 0,.int cap]) p2=some (.lst ([0,cap].map V.int)):=af;generalize upd G2 p2 (.lst [.int 0,.int cap])=G3 at s13 g13 gu13 ⊢;have lm:([0,last].map V.int).length=2:=rfl;have lm2:[0,last].length=2:=rfl;have lm3:[0,cap].length=2:=rfl;obtain⟨hp1,z,hz,ez⟩:=tS (B6 l1) l2 (show[0,cap].Pairwise (·<=·) by simp;lia) (λx hx=>by simp at hx;lia) rfl;have lz:([0,last].zip [0,cap]).length=[0,last].length:=by rw[Nr];lia
    refine⟨_,rfl,p1,_,rfl,.inl (bg.of g13),_,rfl,by lia,by lia,eK (K:=K) (lo:=0) (ds:=([0,last].zip [0,cap]).map h_) (by rw[GG];lia) (by lia) (λi d G' hd sG R kk S=>?_) (λys G' sG hys D hD=>?_)⟩
    ·rw[GQ] at hd;obtain⟨pt,ept,rfl⟩:=Hj.mp hd;obtain⟨ea,eb⟩:=Ip.mp ept;exact aP (B:=S G') ⟨_,rfl,_,rfl,CB (sG _ _ g13) (j:=i) (v:=.int pt.1) (by rw[GQ,ea];rfl) (by lia) ⟨_,rfl,_,rfl,CB (sG _ _ gu13) (j:=i) (v:=.int pt.2) (by rw[GQ,eb];rfl) (by lia) ⟨pX,λp hp=>kk _ _ ⟨ah.new hp,aW.tupN hp (.cons (.int _) (.cons (.int _) .nil))⟩⟩⟩⟩
    ·exact out _ z G' ys D hp1 hz ez (by have m:=(KW (KO hz)).2;simp at m;lia) ((tw9.same s13).same sG) ((mv9.trans (Mv.of s13)).trans (Mv.of sG)) hys hD
  ·obtain⟨hp1,z,hz,ez⟩:=tS pl l2 up9 (λx hx=>by have:=iw x hx;lia) lw;have lz:(ns.zip ws).length=ns.length:=by rw[Nr];lia
   refine⟨_,rfl,L,_,rfl,.inl (bg.of gL9),_,rfl,by lia,by lia,eK (K:=K) (lo:=0) (ds:=(ns.zip ws).map h_) (by rw[GG];lia) (by lia) (λi d G hd sG R kk S=>?_) (λys G sG hys D hD=>?_)⟩
   ·rw[GQ] at hd;obtain⟨pt,ept,rfl⟩:=Hj.mp hd;obtain⟨ea,eb⟩:=Ip.mp ept;exact aP (B:=S G) ⟨_,rfl,_,rfl,CB (sG _ _ gL9) (j:=i) (v:=.int pt.1) (by rw[GQ,ea];rfl) (by lia) ⟨_,rfl,_,rfl,CB (sG _ _ g9) (j:=i) (v:=.int pt.2) (by rw[GQ,eb];rfl) (by lia) ⟨pX,λp hp=>kk _ _ ⟨ah.new hp,aW.tupN hp (.cons (.int _) (.cons (.int _) .nil))⟩⟩⟩⟩
   ·exact out _ z G ys D hp1 hz ez (iw z.2 (KW (KO hz)).2).2 (tw9.same sG) (mv9.trans (Mv.of sG)) hys hD
theorem bd:aD ["_law_town_here","_law_size","_law_table","_law_kind","_law_rows","_law_a","_law_b","_law_c","_law_worth"] uB2 (ai fY):=dY
inductive p8 (K:GB)(vs:List V)(H:Hp)(Q:VK)(_:XK):Prop
 |mk (t r:G7) (n:Nat) (_:vs=[.ref t,.int n]) (_:bI H t r) (_:2<=n) (_:n<=7) (_:∀ (d:G7) (f:Kn->R3) (H':Hp),nZ K H' (az n) f d->zL n f->bI H' t r->Mv [t,r] H H'->H d=none->Q (.ref d) H')
structure R4 where
 w:Int
 x:Int
 y:Int
 z:Int
def R4.ds (r:R4):List Il:=[.int r.w,.int r.x,.int r.y,.int r.z]
structure R4.In (r:R4):Prop where
 w0:0<=r.w
 w1:r.w<200
 x0:0<=r.x
 x1:r.x<90
 y0:0<=r.y
 y1:r.y<90
 z0:0<=r.z
 z1:r.z<90
theorem yz {K:GB}{H:Hp}{r:R4}{v:V}(h:aW K H (.list r.ds) v):∃ a,v=.ref a/\bg K H a [.int r.w,.int r.x,.int r.y,.int r.z]:=by
 obtain⟨a,xs,rfl,ha,hx⟩:=bU (b:=true) (ds:=r.ds) h;have e:xs=[r.w,r.x,r.y,r.z].map V.int:=e6 (ns:=[r.w,r.x,r.y,r.z]) hx;subst e;exact⟨a,rfl,ha⟩
structure R3.Up (r:R3):Prop where
 a:0<=r.a
 b:0<=r.b
 c:0<=r.c
theorem DD {ds:List Il}(hl:ds.length=3)(h:∀ d∈ds,∃ i:Int,d=.int i/\0<=i):∃ r:R3,ds=r.ds/\r.Up:=by
 match ds,hl,h with
 |[x,y,z],_,h=>
  obtain⟨a,rfl,a1⟩:=h x (by simp);obtain⟨b,rfl,b1⟩:=h y (by simp);obtain⟨c,rfl,c1⟩:=h z (by simp);exact⟨⟨a,b,c⟩,rfl,a1,b1,c1⟩
structure fN (K:GB)(t r d R:G7)(rs:Il)(H1:Hp)(ts:List Kn)(H':Hp):Prop where
 tw:bI H' t r
 mv:Mv [t,r,d] H1 H'
 rs:aW K (cut [t,r] H') rs (.ref R)
 gr:∃ f,nZ K H' ts f d/\∀ u∈ts,(f u).Wt
theorem fN.same {K:GB}{t r d R:G7}{rs:Il}{H1 H2 H3:Hp}{ts:List Kn}(h:fN K t r d R rs H1 ts H2)(s:ah H2 H3):fN K t r d R rs H1 ts H3:=
 ⟨h.tw.same s,h.mv.trans (Mv.of s),aW.same (ah.cut s) h.rs,let ⟨f,a,b⟩:=h.gr;⟨f,a.same s,b⟩⟩
theorem fN.draw {K:GB}{t r d R:G7}{rs:Il}{H1 H2 H3:Hp}{ts:List Kn}(h:fN K t r d R rs H1 ts H2)(tw:bI H3 t r)(m:Mv [t,r] H2 H3):fN K t r d R rs H1 ts H3:=
 ⟨tw,h.mv.trans m.wide,aW.same m.cut h.rs,let ⟨f,a,b⟩:=h.gr;⟨f,a.mv m h.tw.lists,b⟩⟩
theorem pE (T:de K mg w):du P w K mg base (cE P w) 2 "_law_grid" uB2 [] (p8 K):=by
  refine T.x23.cal bd (bb:=λ_ _ _ _ _ H vs Q E hr h=>?_);obtain⟨t,r,n,rfl,tw,h2,h7,q⟩:=h;refine⟨_,(cD.go (aa (au 2 bd.nd vO)
   (aa (au 3 bd.nd (aj aN (ba T) hr (aM (ao 0) ac)))
   (aa (cI 4 uC1 ["_law_town_here"] [0] 1 bd.nd (bQ rfl T.x4 (aB ac)) (λnd=>(am 0 nd)) aJ (a_ (ag (aj aN (ba T) hr (aM (ao 1) ac)) (ag (aj aN (ba T) hr (aM (ao 1) ac)) (ag (aj aN (ba T) hr (aM (ao 1) ac)) (ag (aj aN (ba T) hr (aM (ao 1) ac)) aY))))))
   (aa (ia Kd rfl (bQ rfl T.x4 (aB (ao 1))) (am 5 bd.nd) (ae (ia Kd rfl (bQ rfl T.x4 (aB (ao 1))) (am 6 bd.nd) (ae (ia Kd rfl (bQ rfl T.x4 (aB (ao 1))) (am 7 bd.nd) (aa (aR (aG ff (ao 3) ac (aL _)) (ae (cI 8 uB6 ["_law_a","_law_b","_law_c"] [5,6,7] 4 bd.nd (bA (K:=K) rfl (ao 4)) (λnd=>(ya (K:=K) (n:=4) rfl rfl (aK (am 0 nd) (aK (am 1 nd) (aK (am 2 nd) (aK (am 3 nd) bX)))))) aJ (aq bW (aq bW (aq bW (ao 0) (aq bu (ao 1) (ao 4))) (aq bu (ao 2) (ao 5))) (aq bu (ao 3) (ao 6))))) (ae (aR (aG ff (ao 3) ac (aL _)) (ae (cI 8 uC1 ["_law_town_here"] [0] 1 bd.nd (bQ rfl T.x4 (aB ac)) (λnd=>(am 0 nd)) aJ (aj aN (ba T) hr (aM (ao 1) ac)))) (ae (cI 8 uB6 ["_law_a","_law_size","_law_b","_law_c"] [5,1,6,7] 4 bd.nd (bA (K:=K) rfl (ao 4)) (λnd=>(ya (K:=K) (n:=4) rfl rfl (aK (am 0 nd) (aK (am 1 nd) (aK (am 2 nd) (aK (am 3 nd) bX)))))) aJ (ak (jP rfl) (by rfl) T.xc tH (aM ac (aq bW (aq bW (aq bW (ao 0) (aq c7 (aq bu (aq bu (ao 1) (ao 4)) (ao 4)) (ao 5))) (aq bu ac (ao 6))) (aq bu ac (ao 7))))))))))
   (aa (aR (WW.pt (oW (aG ff (ao 5) (ao 6) (aL _)) (oW (aG ff (ao 6) (ao 7) (aL _)) (qI (aG ff (ao 3) ac (aL _)))))) (ae (au 8 bd.nd (aq tD (a_ (aB (aH K (ao 8) ac))) ac))) aF)
   (ae (yU hr.u1 (ao 2) (eF (ag (ao 5) (ag (ao 6) (ag (ao 7) aY)))) (bh (vd (K:=K) rfl) (by rfl) T.x9 gB (aB (aS ["_law_one"] [] [] 1 (bA (K:=K) rfl (ao 8)) (λnd=>(am 0 nd)) aJ (ak (jP rfl) (by rfl) T.xc tH (aM ac (ao 0)))))) rfl)))))))))
   (ae (av (ao 2)))))))),?_⟩
  have s64:∀ {n:Int},0<n->n<100000->Sm 8000 n:=λh1 h2=>Sm.mono (k:=20) (by unfold Sm;lia) (by decide)
  refine λd hd=>?_
  have sd:ah H (upd H d (.dT [])):=ah.new hd;have tw0:=tw.same sd;have gd0:upd H d (.dT []) d=some (.dT []):=af;generalize hH0:upd H d (.dT [])=H0 at sd tw0 gd0 ⊢;refine⟨_,rfl,t,r,3,rfl,tw0,by decide,s64 (by decide) (by decide),λkd H1 k0 k3 tw1 mv1=>?_⟩;refine⟨3,rfl,by decide,by decide,kF (K:=K) (lo:=0) (n:=3) (Pd:=λd=>∃ r:R4,d=.list r.ds/\r.In) tw1 (by decide) (λi H2 hi tw2 mv2 R kk S=>?_) (λds ys H2 hl hP tw2 mv2 hys R hR=>?_)⟩
  ·refine aP (B:=S H2) ⟨_,rfl,t,r,200,rfl,tw2,by decide,s64 (by decide) (by decide),λx1 H3 a1 b1 wA mv3=>?_⟩;refine⟨_,rfl,t,r,90,rfl,wA,by decide,s64 (by decide) (by decide),λx2 H4 a2 b2 tw4 mv4=>?_⟩;refine⟨_,rfl,t,r,90,rfl,tw4,by decide,s64 (by decide) (by decide),λx3 H5 a3 b3 tw5 mv5=>?_⟩;refine⟨_,rfl,t,r,90,rfl,tw5,by decide,s64 (by decide) (by decide),λx4 H6 a4 b4 tw6 mv6=>⟨Gs,λL hL=>?_⟩⟩;exact kk _ _ ⟨tw6.same (ah.new hL),(((mv3.trans mv4).trans mv5).trans mv6).trans (Mv.of (ah.new hL)),_,⟨⟨x1,x2,x3,x4⟩,rfl,a1,b1,a2,b2,a3,b3,a4,b4⟩,ql tw6 hL (.cons (.int _) (.cons (.int _) (.cons (.int _) (.cons (.int _) .nil))))⟩
  obtain⟨r1,r2,r3,rfl,i1,i2,i3⟩:∃ r1 r2 r3:R4,ds=[.list r1.ds,.list r2.ds,.list r3.ds]/\r1.In/\r2.In/\r3.In:=by
   match ds,hl,hP with
   |[x,y,z],_,h=>
    obtain⟨a,rfl,a1⟩:=h x (by simp);obtain⟨b,rfl,b1⟩:=h y (by simp);obtain⟨c,rfl,c1⟩:=h z (by simp);exact⟨a,b,c,rfl,a1,b1,c1⟩
  have nd:d∉[t,r]:=λm=>by
   obtain⟨xs,e⟩:=tw0.lists d m;rw[gd0] at e;cases e
  have gi0:fN K t r d R (.list [.list r1.ds,.list r2.ds,.list r3.ds]) H0 [] (upd H2 R (.lst ys)):=⟨tw2.same (ah.new hR),((mv1.trans mv2).trans (Mv.of (ah.new hR))).wide,ql tw2 hR hys,λ_=>⟨0,0,0⟩,⟨[],ah.new hR _ _ (mv2 _ _ (mv1 _ _ gd0 nd) nd),.nil⟩,λ_ m=>nomatch m⟩
  generalize upd H2 R (.lst ys)=H3 at gi0 ⊢;have lt:∀ {x:Int}{m:Nat},0<=x->x<200->m<7->Sm 64 x:=λh1 h2 _=>by unfold Sm;lia
  have inr:∀ {rr:R4},rr=r1\/rr=r2\/rr=r3->rr.In:=λh=>by rcases h with rfl|rfl|rfl<;>assumption
  refine⟨_,rfl,(n:Int),rfl,by lia,by lia,ib (lo:=0) (n:=(n:Int).toNat) (λi σ H'=>(∃ oa ob oc ow,σ=[some (.ref t),some (.int n),some (.ref d),some (.int kd),some (.ref R),oa,ob,oc,ow])/\fN K t r d R (.list [.list r1.ds,.list r2.ds,.list r3.ds]) H0 (mW n i) H')
   ⟨⟨_,_,_,_,rfl⟩,gi0⟩ ?_ ?_⟩
  ·rintro i σ H4 hi ⟨⟨oa,ob,oc,ow,rfl⟩,gi1⟩;have hi:i<n:=by lia
   refine⟨_,rfl,(n:Int),rfl,by lia,by lia,ib (lo:=0) (n:=(n:Int).toNat) (λj σ H'=>(∃ ob oc ow,σ=[some (.ref t),some (.int n),some (.ref d),some (.int kd),some (.ref R),some (.int (0+i)),ob,oc,ow])/\fN K t r d R (.list [.list r1.ds,.list r2.ds,.list r3.ds]) H0 (mW n i++mS n i j) H')
    ⟨⟨_,_,_,rfl⟩,by simpa [mS] using gi1⟩ ?_ ?_⟩
   ·rintro j σ H5 hj ⟨⟨ob,oc,ow,rfl⟩,gi2⟩;have hj:j<n:=by lia
    refine⟨_,rfl,(n:Int),rfl,by lia,by lia,ib (lo:=0) (n:=(n:Int).toNat) (λk σ H'=>(∃ oc ow,σ=[some (.ref t),some (.int n),some (.ref d),some (.int kd),some (.ref R),some (.int (0+i)),some (.int (0+j)),oc,ow])/\fN K t r d R (.list [.list r1.ds,.list r2.ds,.list r3.ds]) H0 (mW n i++mS n i j++nX i j k) H')
     ⟨⟨_,_,rfl⟩,by simpa [nX] using gi2⟩ ?_ ?_⟩
    ·rintro k σ H6 hk ⟨⟨oc,ow,rfl⟩,gi3⟩;have hk:k<n:=by lia
     obtain⟨b0,xs,eb,hb,hxs⟩:=bU (b:=true) (ds:=[.list r1.ds,.list r2.ds,.list r3.ds]) (aW.uncut gi3.rs);cases eb;apply Gb (I:=λwv H'=>∃ (W:G7) (wr:R3),wv=.ref W/\fN K t r d R (.list [.list r1.ds,.list r2.ds,.list r3.ds]) H0 (mW n i++mS n i j++nX i j k) H'/\H' W=some (.lst wr.vs)/\wr.Up)
     case main=>
      intro rest1;refine⟨_,rfl,_,_,rfl,rfl,_,rfl,eB (λhc=>?k0) (λhc=>?kx)⟩
      case' k0=>
       refine⟨_,rfl,R,true,rfl,⟨_,hb⟩,bB (es:=[.int (r1.w+r1.x*(0+i)+r1.y*(0+j)+r1.z*(0+k)),.int (r2.w+r2.x*(0+i)+r2.y*(0+j)+r2.z*(0+k)),.int (r3.w+r3.x*(0+i)+r3.y*(0+j)+r3.z*(0+k))]) hb hxs rfl (by show 3<=1000;decide) (λii dd ee u H7 hd he s7 hu RR kk S=>?_) (λzs H7 s7 hzs W hW=>?_)⟩
       ·obtain⟨rr,hrr,rfl,rfl⟩:∃ rr:R4,(rr=r1\/rr=r2\/rr=r3)/\dd=.list rr.ds/\ee=.int (rr.w+rr.x*(0+i)+rr.y*(0+j)+rr.z*(0+k)):=by
         rcases Fv hd with ⟨rfl,rfl⟩|⟨rfl,rfl⟩|⟨rfl,rfl⟩
         ·exact⟨r1,.inl rfl,rfl,(GN he).symm⟩
         ·exact⟨r2,.inr (.inl rfl),rfl,(GN he).symm⟩
         ·exact⟨r3,.inr (.inr rfl),rfl,(GN he).symm⟩
        obtain⟨w0,w1,x0,x1,y0,y1,z0,z1⟩:=inr hrr;obtain⟨ra,rfl,hra⟩:=yz hu;refine⟨ra,_,rfl,.inl hra,rfl,_,_,rfl,_,_,rfl,_,_,rfl,_,_,rfl,rfl,aP (B:=S H7) ?_⟩;exact⟨_,rfl,_,rfl,_,rfl,_,_,rfl,rfl,.inr (by unfold Sm;lia),_,_,rfl,rfl,_,rfl,_,rfl,_,_,rfl,rfl,.inr (by unfold Sm;lia),_,_,rfl,rfl,_,rfl,_,rfl,_,_,rfl,rfl,.inr (by unfold Sm;lia),_,_,rfl,rfl,kk _ _ ⟨ah.refl _,.int _⟩⟩
       have zz:=e6 (ns:=[r1.w+r1.x*(0+i)+r1.y*(0+j)+r1.z*(0+k),r2.w+r2.x*(0+i)+r2.y*(0+j)+r2.z*(0+k),r3.w+r3.x*(0+i)+r3.y*(0+j)+r3.z*(0+k)]) hzs;subst zz;have gi4:=(gi3.same s7).same (ah.new (o:=.lst ([r1.w+r1.x*(0+i)+r1.y*(0+j)+r1.z*(0+k),r2.w+r2.x*(0+i)+r2.y*(0+j)+r2.z*(0+k),r3.w+r3.x*(0+i)+r3.y*(0+j)+r3.z*(0+k)].map V.int)) hW);have pos:∀ {rr:R4},rr.In->0<=rr.w+rr.x*(0+(i:Int))+rr.y*(0+(j:Int))+rr.z*(0+(k:Int)):=λh=>by
        have p1:=KI h.x0 (show(0:Int)<=0+i by lia);have p2:=KI h.y0 (show(0:Int)<=0+j by lia);have p3:=KI h.z0 (show(0:Int)<=0+k by lia);have p4:=h.w0;lia
       obtain⟨wr,ewr,up⟩:∃ wr:R3,upd H7 W (.lst ([r1.w+r1.x*(0+i)+r1.y*(0+j)+r1.z*(0+k),r2.w+r2.x*(0+i)+r2.y*(0+j)+r2.z*(0+k),r3.w+r3.x*(0+i)+r3.y*(0+j)+r3.z*(0+k)].map V.int)) W=some (.lst wr.vs)/\wr.Up:=⟨⟨_,_,_⟩,af,pos i1,pos i2,pos i3⟩
       generalize upd H7 W (.lst ([r1.w+r1.x*(0+i)+r1.y*(0+j)+r1.z*(0+k),r2.w+r2.x*(0+i)+r2.y*(0+j)+r2.z*(0+k),r3.w+r3.x*(0+i)+r3.y*(0+j)+r3.z*(0+k)].map V.int))=H8 at gi4 ewr ⊢
      case' kx=>
       refine⟨_,rfl,_,_,rfl,rfl,_,rfl,eB (λhc1=>?k1) (λhc1=>?k2)⟩
      case' k1=>
       refine⟨3,rfl,by decide,by decide,kF (K:=K) (lo:=0) (n:=3) (Pd:=λd=>∃ i:Int,d=.int i/\0<=i) gi3.tw (by decide) (λii H7 hii tw7 mv7 RR kk S=>aP (B:=S H7) ⟨_,rfl,t,r,1001,rfl,tw7,by decide,s64 (by decide) (by decide),λx1 H9 a1 b1 tw9 mv9=>kk _ _ ⟨tw9,mv9,_,⟨x1,rfl,a1⟩,.int _⟩⟩) (λds ws H7 hl hP tw7 mv7 hws W hW=>?_)⟩;obtain⟨wr,rfl,up⟩:=DD hl hP;have zz:=gX hws;subst zz;have gi4:=(gi3.draw tw7 mv7).same (ah.new (o:=.lst wr.vs) hW);have ewr:upd H7 W (.lst wr.vs) W=some (.lst wr.vs):=af;generalize upd H7 W (.lst wr.vs)=H8 at gi4 ewr ⊢
      case' k2=>
       have e2:∃ g:R4->Int,g=λrr=>if rr.w+(rr.x*(0+(i:Int))*(0+(i:Int))).fdiv n+40*(0+(j:Int))+30*(0+(k:Int))<1000 then rr.w+(rr.x*(0+(i:Int))*(0+(i:Int))).fdiv n+40*(0+(j:Int))+30*(0+(k:Int)) else 1000:=⟨_,rfl⟩
       obtain⟨g,hg⟩:=e2;refine⟨_,rfl,R,true,rfl,⟨_,hb⟩,bB (es:=[.int (g r1),.int (g r2),.int (g r3)]) hb hxs rfl (by show 3<=1000;decide) (λii dd ee u H7 hd he s7 hu RR kk S=>?_) (λzs H7 s7 hzs W hW=>?_)⟩
       ·obtain⟨rr,hrr,rfl,rfl⟩:∃ rr:R4,(rr=r1\/rr=r2\/rr=r3)/\dd=.list rr.ds/\ee=.int (g rr):=by
         rcases Fv hd with ⟨rfl,rfl⟩|⟨rfl,rfl⟩|⟨rfl,rfl⟩
         ·exact⟨r1,.inl rfl,rfl,(GN he).symm⟩
         ·exact⟨r2,.inr (.inl rfl),rfl,(GN he).symm⟩
         ·exact⟨r3,.inr (.inr rfl),rfl,(GN he).symm⟩
        obtain⟨w0,w1,x0,x1,y0,y1,z0,z1⟩:=inr hrr;obtain⟨ra,rfl,hra⟩:=yz hu;have sx:Sm 64 (rr.x*(0+(i:Int))):=((show Sm 10 rr.x by unfold Sm;lia).mul (show Sm 10 (0+(i:Int)) by unfold Sm;lia)).mono (by decide);refine⟨ra,_,rfl,.inl hra,rfl,_,_,rfl,_,_,rfl,_,_,rfl,_,_,rfl,rfl,aP (B:=S H7) ?_⟩;refine⟨_,rfl,_,rfl,_,rfl,_,_,rfl,rfl,.inr (by unfold Sm;lia),_,rfl,_,_,rfl,rfl,.inr sx,_,rfl,_,_,rfl,rfl,⟨by lia,Sm.mono (k:=20) (by unfold Sm;lia) (by decide)⟩,_,_,rfl,rfl,_,rfl,_,_,rfl,rfl,.inr (by unfold Sm;decide),_,_,rfl,rfl,_,rfl,_,_,rfl,rfl,.inr (by unfold Sm;decide),_,_,rfl,rfl,_,_,rfl,kk _ _ ⟨ah.refl _,?_⟩⟩;rw[hg];exact .int _
       have zz:=e6 (ns:=[g r1,g r2,g r3]) hzs;subst zz;have gi4:=(gi3.same s7).same (ah.new (o:=.lst ([g r1,g r2,g r3].map V.int)) hW);have pos:∀ {rr:R4},rr.In->0<=g rr:=λ{rr} h=>by
        have p1:=KI (KI h.x0 (show(0:Int)<=0+i by lia)) (show(0:Int)<=0+i by lia);have p2:0<=(rr.x*(0+(i:Int))*(0+(i:Int))).fdiv n:=by
         rw[NH _ (by lia)];exact Int.ediv_nonneg p1 (by lia)
        have p4:=h.w0;rw[hg];dsimp only
        split<;>lia
       obtain⟨wr,ewr,up⟩:∃ wr:R3,upd H7 W (.lst ([g r1,g r2,g r3].map V.int)) W=some (.lst wr.vs)/\wr.Up:=⟨⟨_,_,_⟩,af,pos i1,pos i2,pos i3⟩
       generalize upd H7 W (.lst ([g r1,g r2,g r3].map V.int))=H8 at gi4 ewr ⊢
      all_goals
       obtain⟨wv,ewv⟩:∃ wv,wv=V.ref W:=⟨_,rfl⟩
       rw[<- ewv];exact rest1 wv H8 ⟨W,wr,ewv,gi4,ewr,up⟩
     clear gi3 hb hxs;rintro wv H8 ⟨W,wr,rfl,gi4,ewr,up⟩;apply Gb (I:=λwv H'=>∃ (W:G7) (wr:R3),wv=.ref W/\fN K t r d R (.list [.list r1.ds,.list r2.ds,.list r3.ds]) H0 (mW n i++mS n i j++nX i j k) H'/\H' W=some (.lst wr.vs)/\wr.Up)
     case main=>
      intro rest2;refine⟨_,rfl,_,rfl,_,_,rfl,rfl,_,rfl,eB (λc1=>?c1t) (λc1=>aX ?c1f)⟩
      case c1t=>
       refine⟨_,rfl,_,rfl,_,_,rfl,rfl,_,rfl,eB (λc2=>?c2t) (λc2=>aX ?c2f)⟩
       case c2t=>
        refine⟨_,rfl,_,_,rfl,rfl,_,rfl,eB (λc3=>?c3t) (λc3=>?c3f)⟩
        case c3t=>
         refine⟨_,rfl,.inl ⟨W,_,0,.int wr.a,rfl,rfl,bg.of ewr,rfl,uk,λp hp=>⟨p,3,_,rfl,rfl,af,by decide,by decide,by show 3<=GZ;decide,λp2 hp2=>?_⟩⟩⟩;have gi4:=(gi4.same (ah.new (o:=.lst [.int wr.a]) hp)).same (ah.new (o:=.lst (GY (3:Int).toNat [V.int wr.a]).flatten) hp2);have ewr2:upd (upd H8 p (.lst [.int wr.a])) p2 (.lst (GY (3:Int).toNat [V.int wr.a]).flatten) p2=some (.lst (R3.mk wr.a wr.a wr.a).vs):=af;generalize upd (upd H8 p (.lst [.int wr.a])) p2 (.lst (GY (3:Int).toNat [V.int wr.a]).flatten)=H9 at gi4 ewr2 ⊢;obtain⟨wv,ewv⟩:∃ wv,wv=V.ref p2:=⟨_,rfl⟩
         rw[<- ewv];exact rest2 wv H9 ⟨p2,_,ewv,gi4,ewr2,up.a,up.a,up.a⟩
        case c3f=>exact rest2 (.ref W) H8 ⟨W,wr,rfl,gi4,ewr,up⟩
       case c2f=>exact rest2 (.ref W) H8 ⟨W,wr,rfl,gi4,ewr,up⟩
      case c1f=>exact rest2 (.ref W) H8 ⟨W,wr,rfl,gi4,ewr,up⟩
     clear gi4 ewr up;rintro wv H8 ⟨W,wr,rfl,gi4,ewr,up⟩;refine⟨_,rfl,_,true,rfl,⟨_,bg.of ewr⟩,bB (es:=[.int (min 1000 wr.a),.int (min 1000 wr.b),.int (min 1000 wr.c)]) (K:=K) (b:=true) (bg.of ewr) (.cons (.int wr.a) (.cons (.int wr.b) (.cons (.int wr.c) .nil))) rfl (by show 3<=1000;decide) (λii dd ee u H9 hd he s9 hu RR kk S=>?_) (λzs H9 s9 hzs D9 hD9=>?_)⟩
     ·refine aP (B:=S H9) ?_;rcases Fv hd with ⟨rfl,rfl⟩|⟨rfl,rfl⟩|⟨rfl,rfl⟩<;>(cases hu;cases(GN he);exact⟨_,rfl,_,_,rfl,by rw[B1];exact kk _ _ ⟨ah.refl _,.int _⟩⟩)
     ·have zz:=e6 (ns:=[min 1000 wr.a,min 1000 wr.b,min 1000 wr.c]) hzs;subst zz;refine⟨D9,_,rfl,.inl ⟨bg.of af,λl hl=>?_⟩⟩;have wtl:(R3.mk (min 1000 wr.a) (min 1000 wr.b) (min 1000 wr.c)).Wt:=by
       obtain⟨u1,u2,u3⟩:=up;exact⟨by show 0<=min 1000 wr.a;lia,by show min 1000 wr.a<=1000;lia,by show 0<=min 1000 wr.b;lia,by show min 1000 wr.b<=1000;lia,by show 0<=min 1000 wr.c;lia,by show min 1000 wr.c<=1000;lia⟩
      have gi5:=((gi4.same s9).same (ah.new (o:=.lst ([min 1000 wr.a,min 1000 wr.b,min 1000 wr.c].map V.int)) hD9)).same (ah.new (o:=.tup ([min 1000 wr.a,min 1000 wr.b,min 1000 wr.c].map V.int)) hl);have hlt:aW K (upd (upd H9 D9 (.lst ([min 1000 wr.a,min 1000 wr.b,min 1000 wr.c].map V.int))) l (.tup ([min 1000 wr.a,min 1000 wr.b,min 1000 wr.c].map V.int))) (wD ⟨min 1000 wr.a,min 1000 wr.b,min 1000 wr.c⟩) (.ref l):=aW.tupN hl (.cons (.int _) (.cons (.int _) (.cons (.int _) .nil)));generalize upd (upd H9 D9 (.lst ([min 1000 wr.a,min 1000 wr.b,min 1000 wr.c].map V.int))) l (.tup ([min 1000 wr.a,min 1000 wr.b,min 1000 wr.c].map V.int))=Ha at gi5 hlt ⊢;generalize R3.mk (min 1000 wr.a) (min 1000 wr.b) (min 1000 wr.c)=wf at wtl hlt;refine⟨_,rfl,_,rfl,_,rfl,_,rfl,Cp,λkt hkt=>?_⟩;have ek:[V.int (0+(i:Int)),V.int (0+(j:Int)),V.int (0+(k:Int))]=(bv (i,j,k)).map kV:=by rw[O4,O4,O4];rfl
      have gi6:=gi5.same (ah.new (o:=.tup [V.int (0+(i:Int)),V.int (0+(j:Int)),V.int (0+(k:Int))]) hkt);have hlt:=aW.same (ah.new (o:=.tup [V.int (0+(i:Int)),V.int (0+(j:Int)),V.int (0+(k:Int))]) hkt) hlt;have hkt':upd Ha kt (.tup [V.int (0+(i:Int)),V.int (0+(j:Int)),V.int (0+(k:Int))]) kt=some (.tup ((bv (i,j,k)).map kV)):=by rw[<- ek];exact af
      generalize upd Ha kt (.tup [V.int (0+(i:Int)),V.int (0+(j:Int)),V.int (0+(k:Int))])=Hb at gi6 hlt hkt' ⊢;obtain⟨f,⟨vs,gd,gv⟩,gw⟩:=gi6.gr;have hlen:=nZ.len gv;have fresh:((i,j,k):Kn)∉mW n i++mS n i j++nX i j k:=λm=>by
       rcases Hy.mp m with m|m
       ·rcases Hy.mp m with m|m
        ·have:=(zM.mp m).1;exact absurd this (Ii _)
        ·have:=(uT.mp m).2.1;exact absurd this (Ii _)
       ·have:=(uM.mp m).2.2;exact absurd this (Ii _)
      refine⟨d,_,rfl,yO.t (k:=bv (i,j,k)) gd hkt' (by rw[iW hlen];exact bL (GV (yC h7 hi hj (Kc hk)) (by decide))),⟨_,_,rfl⟩,?_⟩;rw[yq hlen fresh,rR,<- Ku];have sdb:dS Hb (upd Hb d (.dT (d_ (mW n i++mS n i j++nX i j k++[(i,j,k)]) (vs++[.ref l])))):=dS.put gd;refine⟨gi6.tw.sameD sdb,gi6.mv.trans λb o e nb=>?_,aW.sameD (dS.cut sdb) gi6.rs,λu=>if u=(i,j,k) then wf else f u,⟨_,af,?_⟩,λu hu=>?_⟩
      ·rw[ap (λz=>nb (by simp[z]))];exact e
      ·rw[JL];refine(aE.sameD sdb (show aE K Hb _ _ from ?_)).snoc ?_
       ·have cg:(mW n i++mS n i j++nX i j k).map (λu=>wD (if u=(i,j,k) then wf else f u))=(mW n i++mS n i j++nX i j k).map (λu=>wD (f u)):=PZ λu hu=>by
         have nu:u≠(i,j,k):=λz=>fresh (z▸hu)
         rw[Hu nu]
        rw[cg];exact gv
       ·show aW K _ (wD (if((i,j,k):Kn)=(i,j,k) then wf else f (i,j,k))) _;rw[Ie rfl];exact aW.sameD sdb hlt
      ·show(if u=(i,j,k) then wf else f u).Wt;rcases Hy.mp hu with hu|hu
       ·have nu:u≠(i,j,k):=λz=>fresh (z▸hu)
        rw[Hu nu];exact gw u hu
       ·rw[Ie (G5.mp hu)];exact wtl
    ·rintro σ H6 ⟨⟨oc,ow,rfl⟩,gi3⟩;refine⟨⟨_,_,_,rfl⟩,?_⟩;rw[mE,<- Ku];exact gi3
   ·rintro σ H5 ⟨⟨ob,oc,ow,rfl⟩,gi2⟩;refine⟨⟨_,_,_,_,rfl⟩,?_⟩;rw[my];exact gi2
  ·rintro σ H4 ⟨⟨oa,ob,oc,ow,rfl⟩,gi1⟩;obtain⟨f,g1,g2⟩:=gi1.gr;refine⟨_,rfl,q d f H4 g1 (λu hu=>g2 u hu) gi1.tw (λb o e nb=>?_) hd⟩;refine gi1.mv b o (sd _ _ e) λz=>?_
   simp only[GR,Hq,Js] at z nb;rcases z with z|z|z
   ·exact nb (.inl z)
   ·exact nb (.inr z)
   ·rw[z,hd] at e;cases e
theorem be:aD ["_law_kind","_law_text","_law_caught","_law_told","e"] uB5 (ai f9):=dY
def ww (t:Kn)(r:R3):Str:=sy t++i7 [r.a,r.b,r.c]
theorem uR {r:R3}(h:r.Wt):∀ n∈[r.a,r.b,r.c],0<=n/\n<10^4:=λn hn=>by
 obtain⟨w1,w2,w3,w4,w5,w6⟩:=h;simp only[GR,Hq,Js] at hn;lia
theorem Er {r:R3}(h:r.Wt):kG 3 0 1000 (.tuple [.int r.a,.int r.b,.int r.c])=true:=by
 obtain⟨w1,w2,w3,w4,w5,w6⟩:=h;have e:∀ {n:Int},0<=n->n<=1000->j5 0 1000 (.int n)=true:=λ{n} h1 h2=>by
  show(decide ((0:Int)<=n)&&decide (n<=1000))=true;rw[GP h1,GP h2];rfl
 show(decide (((3:Nat):Int)=3)&&(j5 0 1000 (.int r.a)&&(j5 0 1000 (.int r.b)&&(j5 0 1000 (.int r.c)&&true))))=true;rw[e w1 w2,e w3 w4,e w5 w6];rfl
theorem AZ {t:Kn}{r:R3}(h:r.Wt):mT (ww t r) t=some r:=by
 unfold mT;have e:iF (ww t r) t=i7 [r.a,r.b,r.c]:=vS _ _;rw[Ie (show Ln (ww t r) (sy t)=true from PySem.W.KT.starts_app _ _),e,lN (by simp) (uR h)];exact Ie (Er h)
theorem Bd {row:Str}{t:Kn}{r:R3}(h:mT row t=some r):row=ww t r:=by
 unfold mT at h
 split at h
 ·rename_i hs
  split at h
  ·rename_i a b c en
   split at h
   ·cases h;unfold ww;rw[(tI en).1];exact(vZ hs).symm
   ·cases h
  ·cases h
 ·cases h
theorem Bx {n:Nat}{rows:List Str}:Ey n rows:=λ_ _ _ _ _ h=>by
 obtain⟨ns,e,_⟩:=gf h;exact⟨ns,e⟩
def cm (n:Nat)(f:Kn->R3):List Str:=(az n).map λt=>ww t (f t)
theorem oP (n:Nat)(f:Kn->R3):sF n f=Kq "\n" (iZ n::cm n f):=rfl
theorem A5 {n:Nat}{f:Kn->R3}{rows:List Str}(hl:rows.length=n^3)(h:∀ (i:Nat) (row:Str) (t:Kn),rows[i]?=some row->(az n)[i]?=some t->mT row t=some (f t)):rows=cm n f:=by
 refine Od λi=>?_
 unfold cm;rw[GQ]
 by_cases hi:i<rows.length
 ·have hk:i<(az n).length:=by rw[bo,<- hl];exact hi
  rw[GF hi,GF hk];exact KG some (Bd (h i _ _ (GF hi) (GF hk)))
 ·rw[M1 (by lia),M1 (by rw[bo,<- hl];lia)];rfl
theorem vG {x:Str}{n:Nat}{f:Kn->R3}{rows:List Str}(hs:IW x "\n"=iZ n::rows)(hl:rows.length=n^3)(h:∀ (i:Nat) (row:Str) (t:Kn),rows[i]?=some row->(az n)[i]?=some t->mT row t=some (f t)):sF n f=x:=by
 rw[oP,<- A5 hl h,<- hs];exact kz x "\n"
theorem xF {n:Nat}{c:Nat}(hc:c<48\/57<c):c∉(Iw (toString (n:Int))).cps.toList:=lM (n:=(n:Int)) (by lia) hc
theorem xX (n:Nat):10∉(iZ n).cps.toList:=by
 unfold iZ;rw[JY,Hy];rintro(z|z)
 ·exact absurd z (by decide +kernel)
 ·exact xF (by decide) z
theorem xQ {t:Kn}{r:R3}(h:r.Wt):10∉(ww t r).cps.toList:=by
 unfold ww sy;rw[JY,JY,Hy,Hy];rintro((z|z)|z)
 ·refine lJ (λn hn=>?_) (by decide) (by decide) z;simp only[GR,Hq,Js] at hn;lia
 ·exact absurd z (by decide +kernel)
 ·exact lJ (λn hn=>(uR h n hn).1) (by decide) (by decide) z
theorem vK {n:Nat}{f:Kn->R3}(h:zL n f):IW (sF n f) "\n"=iZ n::cm n f:=by
 rw[oP];refine kq (c:=10) (by simp) λt ht=>?_
 rcases GR.mp ht with rfl|ht
 ·exact xX n
 ·obtain⟨k,hk,rfl⟩:=HH.mp ht;exact xQ (h k hk)
theorem gE (n:Nat)(f:Kn->R3):(cm n f).length=n^3:=by
 unfold cm;rw[GG,bo]
theorem oh {n:Nat}{f:Kn->R3}(h:zL n f)(i:Nat)(row:Str)(t:Kn)(h1:(cm n f)[i]?=some row)(h2:(az n)[i]?=some t):mT row t=some (f t):=by
 unfold cm at h1;rw[GQ,h2] at h1;cases h1;exact AZ (h t (GS h2))
theorem Av {n m:Nat}(hn:2<=n)(hn7:n<=7)(hm:2<=m)(hm7:m<=7)(h:iZ n=iZ m):n=m:=by
 have go:(([2,3,4,5,6,7]:List Nat).all λa=>([2,3,4,5,6,7]:List Nat).all λb=>!decide (iZ a=iZ b)||decide (a=b))=true:=by decide +kernel
 have h1:=Hz.mp (Hz.mp go n (by simp only[GR,Hq,Js];lia)) m (by simp only[GR,Hq,Js];lia);rw[GP h] at h1;exact IY (by simpa using h1)
inductive oQ (K:GB)(vs:List V)(H:Hp)(Q:VK)(_:XK):Prop
 |mk (x:Str) (_:x.length<=900) (_:(∀ H',ah H H'->Q (.str "text") H')) (_:((vs=[.int 1,.str x]/\yY x=none)\/(vs=[.int 0,.str x]/\∀ (n:Nat) (f:Kn->R3) (g C dx L:G7) (H':Hp),2<=n->n<=7->zL n f->sF n f=x->ah H H'->bt K "Grid" C->H' g=some (.ins C dx [("knots",.int n),("table",.ref L)])->Gr K H' n f L->Q (.ref g) H')))
theorem ji (T:de K mg w):du P w K mg base (cE P w) 9 "_law_read" uB5 [] (oQ K):=by
 refine T.x24.cal be (λvs H Q E h=>?_) (λf cdv A outer s H vs Q E hr h=>?_)
 ·obtain⟨x,_,_,⟨rfl,_⟩|⟨rfl,_⟩⟩:=h<;>rfl
 ·obtain⟨x,hz,q,h⟩:=h;have hw:jI[10]?=some ("text":Str):=rfl;rcases h with ⟨rfl,hx⟩|⟨rfl,h⟩
  ·refine⟨_,(cD.go (aa (au 2 be.nd gP)
   (aa (au 3 be.nd gP)
   (aa (uC (K:=K) (i:=4) rfl be.nd rfl rfl rfl rfl rfl rfl (λ_ _ W hT=>(ae (au 3 be.nd (cZ (aG ff (ao 0) ac (aL _)) (bY hT rfl (dU T) (hr.mono (by decide)) rfl (aB (ao 1))) (bY hT rfl (cr T) (hr.mono (by decide)) rfl (aB (ao 1))))))) (λ_=>(ae (au 2 be.nd (ao 4)))))
   (ae (av (cZ (aG wX (ao 2) gP (aL _)) (ao 3) (aj aN (fJ T) hr (aB (ao 2)))))))))),?_⟩
   refine⟨_,rfl,_,_,rfl,rfl,false,rfl,aX ?_⟩;refine⟨_,rfl,.str x,rfl,.inr ⟨x,rfl,hz,λ_=>?_,λps e _=>by rw[hx] at e;cases e⟩⟩;refine Rz.caught T.x1 λC H1 ee hk s1 he=>?_
   refine⟨_,rfl,_,rfl,rfl,_,rfl,?_⟩;refine aX ⟨_,rfl,.ref ee,10,_,rfl,⟨ee,C,rfl,hk,af⟩,hw,λH2 s2=>?_⟩;exact q _ ((s1.trans (ah.new he)).trans s2)
  ·refine⟨_,(cD.go (aa (au 2 be.nd gP)
   (aa (au 3 be.nd gP)
   (aa (uC (K:=K) (i:=4) rfl be.nd rfl rfl rfl rfl rfl rfl (λ_ _ W hT=>(ae (au 3 be.nd (cZ (aG ff (ao 0) ac (aL _)) (bY hT rfl (dU T) (hr.mono (by decide)) rfl (aB (ao 1))) (bY hT rfl (cr T) (hr.mono (by decide)) rfl (aB (ao 1))))))) (λ_=>(ae (au 2 be.nd (ao 4)))))
   (ae (av (cZ (aG wX (ao 2) gP (aL _)) (ao 3) (aj aN (fJ T) hr (aB (ao 2)))))))))),?_⟩
   refine⟨_,rfl,_,_,rfl,rfl,true,rfl,aP ?_⟩;obtain⟨first,rows,hs⟩:∃ first rows,IW x "\n"=first::rows:=by
    cases e:IW x "\n" with
    |nil=>exact absurd e (qr _ _)
    |cons a r=>exact⟨a,r,rfl⟩
   refine⟨_,rfl,.str x,rfl,.inr ⟨x,first,rows,rfl,hz,hs,λ_=>?b1,λn n2 n7 hf=>⟨λ_=>?b2,λhl=>⟨Bx,λ_ _ _ _ _ _=>?b3,λf hrd hwt g C dx L H' s' _ hC hg hL=>?good⟩⟩⟩⟩
   case good=>
    subst hf;refine⟨_,rfl,rfl,_,rfl,aP ?_⟩;exact⟨_,rfl,h n f g C dx L H' n2 n7 hwt (vG hs hl hrd) s' hC hg hL⟩
   all_goals
    refine Rz.caught T.x1 λC H1 ee hk s1 he=>?_
    refine⟨_,rfl,_,rfl,rfl,_,rfl,?_⟩;refine aX ⟨_,rfl,.ref ee,10,_,rfl,⟨ee,C,rfl,hk,af⟩,hw,λH2 s2=>?_⟩;exact q _ ((s1.trans (ah.new he)).trans s2)
theorem bT:aD ["_law_script","_law_town_here","_law_size","_law_table","_law_rows","_law_place","_law_worth","_law_text","_law_again","_law_points_here","_law_line","_law_at","_law_sign","_law_worse","_law_found","_law_odd"] uA3 (ai jr):=dY
section
variable {K:GB}{g:TG}{tt:TT}{te:TE}{σ0:L2.St}{Fin:List V->Hp->Prop}{H1:Hp}
theorem t7 {d:G7}{o:Obj}{kvs:List (List cS × V)} (hH:H1 d=some (.frz o (.dT kvs)))
  (he:∀ (i:Nat) (k:List cS) (x:V) (ka:G7) (H:Hp),kvs[i]?=some (k,x)->ah H1 H->H ka=some (.tup (k.map kV))->∀ (Y:VK) (S:Hp->Prop),(∀ H',ah H H'->S H')->g (.ref ka) σ0 H λσ' H4=>tt σ' H4 λb H5=>if b=true then te σ' H5 Y else S H5)
  (hd:∀ H,ah H1 H->Fin [] H):dO (FV d o kvs) g tt te σ0 Fin H1:=by
 refine⟨λi m ys H=>m=kvs.length-i/\i<=kvs.length/\ah H1 H/\ys=[],⟨kvs.length,by lia,Iz _,ah.refl _,rfl⟩,?_⟩;rintro i m ys H ⟨rfl,hi,s,rfl⟩
 by_cases hlt:i<kvs.length
 ·refine .inr ⟨⟨s _ _ hH,hlt⟩,(show 0<GZ by decide),λv H3 y3=>?_⟩;obtain⟨k,x,ka,e1,e2,rfl,rfl⟩:=y3;exact he i k x ka _ e1 s e2 _ _ λH' s'=>⟨kvs.length-(i+1),by lia,rfl,hlt,s.trans s',rfl⟩
 ·have e:i=kvs.length:=by lia
  subst e;exact .inl ⟨⟨s _ _ hH,GM _⟩,Iz _,hd H s⟩
end
theorem lE {n:Int}(h:0<=n/\n<10^4):(km n).length<=4:=toString_length_le h.1 (by decide) h.2
theorem rF {a b c:Int}(h:∀ n∈[a,b,c],0<=n/\n<10^4):(i7 [a,b,c]).length<=14:=by
 rw[tL];unfold Kq;rw[On];have h1:=lE (h a (by simp));have h2:=lE (h b (by simp));have h3:=lE (h c (by simp));have e:IT " "=1:=by decide
 simp only[G_,NM,Qf,List.sum_nil,HR,Mo,e];lia
theorem o8 {t:Kn}{r:R3}(h:r.Wt)(ht:t∈az 7):(ww t r).length<=30:=by
 unfold ww sy;rw[Hs,Hs];have k7:=bx.mp ht;have h1:=rF (a:=(t.1:Int)) (b:=(t.2.1:Int)) (c:=(t.2.2:Int)) λm hm=>by
  simp only[GR,Hq,Js] at hm;lia
 have h2:=rF (uR h);have e:IT ": "=2:=by decide
 lia
theorem Ao {n:Nat}{f:Kn->R3}(h:zL n f)(n3:n<=3):(sF n f).length<=850:=by
 rw[oP];unfold Kq;rw[On,G_,Qf,HR,gE];have h1:=l8 (ts:=cm n f) (B:=30) λt ht=>by
  obtain⟨k,hk,rfl⟩:=HH.mp ht;exact o8 (h k hk) (wg (by lia) hk)
 rw[gE] at h1;have h2:n^3<=27:=JX n3 3;have h3:(iZ n).length<=10:=by
  unfold iZ;rw[Hs];have:=lE (n:=(n:Int)) (by lia);have e:IT "knots "=6:=by decide
  unfold km at this;lia
 have e:IT "\n"=1:=by decide
 rw[e];lia
theorem Fj (a b:Int):km a++" "++km b=i7 [a,b]:=(KE " " [km a,km b]).symm
theorem Ax {ps:List Pt}(h:pM ps):(wy ps).length<=900:=by
 unfold wy Kq;rw[On];have h1:=l8 (ts:=ps.map λp=>i7 [p.1,p.2]) (B:=60) λt ht=>by
  obtain⟨p,hp,rfl⟩:=HH.mp ht;exact dB (by show 2<=3;decide) (rG h hp)
 rw[GG] at h1 ⊢;have:=h.few;have e:IT ", "=2:=by decide
 rw[e];lia
theorem ze (x:Str){a:Nat}(ha:a<=x.length):(LV x none (some (a:Int))).length=a:=by
 have hl:x.cps.toList.length=x.length:=HD;have e:Ir none (some (a:Int)) 1 x.length=Ir (some ((0:Nat):Int)) (some (a:Int)) 1 x.length:=by
  have e2:max (0:Int) (min ((0:Nat):Int) (x.length:Int))=0:=by lia
  simp only[Ir,show ¬ (((0:Nat):Int)<0) by lia,JU,show((1:Int)>0)=True from by simp,K5,e2]
 unfold LV;rw[e]
 split
 ·rename_i h
  have h2:(Ir (some ((0:Nat):Int)) (some (a:Int)) 1 x.length).length=x.length:=by simpa using h
  rw[M8 (Iz _) ha,GG,ML] at h2;lia
 ·show(Kb _).size=_;rw[PL x (Iz _) ha,Hi,Ib,Km];lia
theorem uj (x:Str){a:Nat}(ha:a<=x.length):(LV x (some (a:Int)) none).length=x.length-a:=by
 have hl:x.cps.toList.length=x.length:=HD;have h2:(LV x (some (a:Int)) none).cps.toList.length=(LV x (some (a:Int)) none).length:=HD;rw[<- h2,iS x ha,Km,hl]
theorem ym {x y z:Str}(h:z.length<=y.length):(P6 x y z).length<=x.length:=by
 unfold P6
 split
 ·exact GM _
 ·have e:=KG IT (StrLaws.glued_between_self x y (x.length+1));rw[On] at e ⊢;have:=P2 ((Mb x (Jp x y 0 x.length (x.length+1)) y.length).length-1) h;lia
theorem wB {α:Type}(g:α->V)(l:List α)(lo hi:Option Int):∃ i j,ni (l.map g) lo hi=((l.drop i).take j).map g:=⟨_,_,by unfold ni;rw[List.map_take,List.map_drop]⟩
def AF:List Str:=["","0 0","0 0,5 5","0 0, 5 05","0 0, 5","0 0, 5 5 5","1 0, 5 5","0 5, 5 4"]
def A3:List Str:=["0 0, 1001 5","0 0, -5 5"," 0 0, 5 5"]
theorem zR:(AF++A3).all (λx=>decide (x.length<=900)&&(yY x).isNone)=true:=by decide +kernel
theorem B7 (T:de K mg w){f:G7}{fd:KN}(F:Ew K "law" "law" jr f fd):i9 P w K mg base (cE P w) 10 f fd uA3 (qW K):=by
 refine Ew.okX F bT (λvs H Q E h=>?_) (λcdv A outer s H vs Q E hr h=>?_)
 ·obtain⟨a,ns,rfl,_⟩:=h;rfl
 ·obtain⟨a,ns,rfl,hS,hl,q⟩:=h;refine⟨_,(cD.go (aa (au 1 bT.nd (aj aN (pI T) hr (aB (ao 0))))
   (aa (au 2 bT.nd (aj aN (cK T) hr (aM (ao 1) (a_ (ag ac (ag ac (ag ac aY)))))))
   (aa (au 3 bT.nd (aj aN (pE T) hr (aM (ao 1) (ao 2))))
   (aa (au 4 bT.nd (a_ (aB (aq bG ay (bh b9 (by rfl) T.x7 iH (aB (ao 2)))))))
   (aa (ia Kd rfl (bA (K:=K) rfl (ak (oH rfl) (by rfl) T.xb j9 (aB (ao 3)))) (am 5 bT.nd) (aa (au 6 bT.nd (lY hr.u1 (ao 3) (ao 5) (λ_ _=>rfl)))
   (ae (jn (cB Ms O0 PySem.F.type_list_append wm (ao 4) (aB (aq bG (aq bG (cB Iq Jl Jm (eD (K:=K) rfl) ay (aB (aS ["_law_one"] [] [] 1 (bA (K:=K) rfl (ao 5)) (λnd=>(am 0 nd)) aJ (bh b9 (by rfl) T.x7 iH (aB (ao 0)))))) ay) (cB Iq Jl Jm (eD (K:=K) rfl) ay (aB (aS ["_law_one"] [] [] 1 (bA (K:=K) rfl (ao 6)) (λnd=>(am 0 nd)) aJ (bh b9 (by rfl) T.x7 iH (aB (ao 0)))))))))))))
   (aa (au 7 bT.nd (aj aN (jD T) hr (aB (ja (K:=K) rfl aN (dW T) (hr.mono (by decide)) rfl (aM (ao 2) (ao 3))))))
   (aa (aR (aG jR (ao 7) (cB Iq Jl Jm (eD (K:=K) rfl) ay (aB (ao 4))) (aL _)) (ae (av bO)) aF)
   (aa (au 8 bT.nd (bY sI rfl (dU T) (hr.mono (by decide)) rfl (aB (ao 7))))
   (aa (aR (aO (aQ (ak (u6 (K:=K) (x:="Grid") rfl T.x3 T.xa) (by rfl) T.x0 ax (aM (ao 8) (bJ (K:=K) (x:="Grid") rfl rfl (gN T.x3)))))) (ae (av bO)) aF)
   (aa (aR (aG (yX (K:=K) rfl hr.units) (qY (aS ["_law_place"] ["_law_again","_law_table"] [8,3] 1 (xH (ao 3)) (λnd=>(am 0 nd)) (wG (aG (yX (K:=K) rfl hr.units) (lI (K:=K) rfl aN (gj T) (hr.mono (by decide)) (ao 1) (aB (ao 0))) (lY hr.u1 (ao 2) (ao 0) (λ_ _=>rfl)) (aL _))) (ao 0))) (a_ aY) (aL _)) (ae (av bO)) aF)
   (aa (au 9 bT.nd (aj aN (mn T) hr (ag (ao 1) (ag (aj aN (cK T) hr (aM (ao 1) (a_ (aM ac ac)))) (ag ac (ag bO aY))))))
   (aa (au 10 bT.nd (aj aN (iC T) hr (aB (ja (K:=K) rfl aN (ce T) (hr.mono (by decide)) rfl (aB (ao 9))))))
   (aa (aR (WW.pt (bZ (aG jR (ao 10) (cB Iq Jl Jm (eD (K:=K) rfl) ay (aB (aS ["_law_x","_law_y"] [] [] 2 (bA (K:=K) rfl (ao 9)) (λnd=>(gG (K:=K) (n:=2) rfl rfl (aK (am 0 nd) (aK (am 1 nd) bX)))) aJ (aq bG (aq bG (bh b9 (by rfl) T.x7 iH (aB (ao 0))) ay) (bh b9 (by rfl) T.x7 iH (aB (ao 1))))))) (aL _)) (bP (aG jR (aj aN (iC T) hr (aB (bY sI rfl (cr T) (hr.mono (by decide)) rfl (aB (ao 10))))) (ao 10) (aL _))))) (ae (av bO)) aF)
   (aa (au 5 bT.nd (aj aN (ny T) hr (aM (ao 1) (aH K (aH K (ao 9) (pF pR ac)) ac))))
   (aa (aR (aG (yX (K:=K) rfl hr.units) (lI (K:=K) rfl aN (eX T) (hr.mono (by decide)) (bY sI rfl (cr T) (hr.mono (by decide)) rfl (aB (ao 10))) (aB (ao 5))) (lI (K:=K) rfl aN (eX T) (hr.mono (by decide)) (ja (K:=K) rfl aN (ce T) (hr.mono (by decide)) rfl (aB (ao 9))) (aB (ao 5))) (aL _)) (ae (av bO)) aF)
   (aa (au 11 bT.nd (aj aN (ba T) hr (aM (ao 1) (aq bW (ak fb (by rfl) T.x2 bK (aB (ao 7))) ac))))
   (aa (au 12 bT.nd (aj aN (cK T) hr (aM (ao 1) (a_ (ag ay (ag ay (ag ay (ag ay (ag ay (ag ay aY))))))))))
   (aa (ia Kd rfl (bA (K:=K) rfl (a_ (rN (aq bG (aq bG (cV tW (ao 7) dR (dQ (ao 11))) (ao 12)) (cV tW (ao 7) (dQ (ao 11)) dR)) (ao 7) (aq bG (ao 7) ay) (cB Iq Jl Jm (eD (K:=K) rfl) ay (aB (cV (Ab (K:=K) rfl) (ao 4) dR (dQ (pF pR ac))))) (ao 7) (aB ay)))) (am 13 bT.nd) (aa (au 14 bT.nd (aj aN (ji T) hr (aM ac (ao 13))))
   (ae (aR (WW.pt (oW (aG (CY (K:=K) (x:="Grid") rfl T.xt hr.u1) (ao 14) ay (aL _)) (qI (WW.pt (bZ (aO (aQ (ak (u6 (K:=K) (x:="Grid") rfl T.x3 T.xa) (by rfl) T.x0 ax (aM (ao 14) (bJ (K:=K) (x:="Grid") rfl rfl (gN T.x3)))))) (bP (aG jR (aj aN (jD T) hr (aB (ao 14))) (ao 13) (aL _)))))))) (ae (av bO)) aF))))
   (aa (au 15 bT.nd (a_ (ag ay (ag ay (ag ay (ag ay (ag ay (ag ay (ag ay (ag ay aY))))))))))
   (aa (au 15 bT.nd (aq fZ (ao 15) (a_ (ag ay (ag ay (ag ay aY))))))
   (ae (av (c6 (Eb (K:=K) rfl hr.units) (aS ["_law_one"] [] [] 1 (bA (K:=K) rfl (ao 15)) (λnd=>(am 0 nd)) aJ (aj aN (ji T) hr (aM ac (ao 0)))) (aq tD (a_ (aB ay)) (ak (di (K:=K) rfl) (by rfl) T.x2 bK (aB (ao 15)))) (aL _))))))))))))))))))))))))),?_⟩
  have s64:∀ {n:Int},0<n->n<100000->Sm 8000 n:=λh1 h2=>Sm.mono (k:=20) (by unfold Sm;lia) (by decide)
  refine⟨_,rfl,a,ns,rfl,hS,hl,λt r H0 s0 _ _ tw0=>?_⟩;clear hS hl s0;refine⟨_,rfl,Cp,λp hp=>?_⟩;have np:=tw0.not hp;refine⟨t,r,p,_,rfl,tw0.same (ah.new hp),af,λz=>np (by simp[z]),λz=>np (by simp[z]),by simp,by show 3<=1000;decide,λi v H2 ev tw2 mv2=>?_⟩;obtain⟨n,rfl,n2,n3⟩:∃ n:Nat,v=.int n/\2<=n/\n<=3:=by
   have m:=GS ev;simp only[GR,Hq,Js] at m;rcases m with rfl|rfl|rfl
   ·exact⟨2,rfl,by decide,by decide⟩
   ·exact⟨2,rfl,by decide,by decide⟩
   ·exact⟨3,rfl,by decide,by decide⟩
  have n7:n<=7:=by lia
  clear ev mv2 np hp tw0;refine⟨_,rfl,_,rfl,t,r,n,rfl,tw2,n2,n7,λd f H3 gp wt wA mv3 nd=>?_⟩;clear mv3 nd tw2;have hb:0<=(n:Int)/\(n:Int)<10^4:=by lia
  have hln:=dA hb;refine⟨_,rfl,n,rfl,iP hb,_,_,rfl,rfl,GV (show(IT "knots ")+(Iw (toString (n:Int))).length<=6+10 from MW (by decide) hln) (by decide),uk,λR hR=>?_⟩;generalize e0:upd H3 R _=H4;have s4:=dz hR e0;have gR:H4 R=some (.lst [.str (iZ n)]):=cu e0;have nR:=wA.not hR;have tw4:=wA.same s4;replace gp:=gp.same s4;clear e0 wA hR;obtain⟨vs,hd,hvs⟩:=id gp;obtain⟨kr,rr,klen,kmin⟩:=tK n2 (by lia:n<=4);refine⟨_,rfl,d,az n,vs,rr,rfl,.inl hd,nZ.len hvs,klen,kmin,λi t u=>zN kr,λS ks hS hlen hks=>?_⟩;have SR:S≠R:=λz=>by rw[z,gR] at hS;cases hS
  generalize e0:upd H4 S _=H5;have s5:=dz hS e0;have gS:=cu e0;have tw5:=tw4.same s5;have gp5:=gp.same s5;have gR5:=s5 _ _ gR;have hks5:∀ (i:Nat) (t:Kn),(az n)[i]?=some t->∃ ka,ks[i]?=some (.ref ka)/\H5 ka=some (.tup (zF t)):=λi t ht=>by
   obtain⟨ka,h1,h2⟩:=hks i t ht;exact⟨ka,h1,s5 _ _ h2⟩
  clear e0 hks tw4 gp gR hd hvs hS s5;have lR:gH H5 [R]:=λb m=>by cases G5.mp m;exact⟨_,gR5⟩
  have few:(az n).length<=27:=by rw[bo];exact JX n3 3
  refine⟨S,true,rfl,⟨_,bg.of gS⟩,uU (K:=K) (b:=true) (xs:=ks) (λi σ H'=>(∃ o5 o6,σ=[some (.ref a),some (.ref t),some (.int n),some (.ref d),some (.ref R),o5,o6,none,none,none,none,none,none,none,none,none])/\Mv [R] H5 H'/\H' R=some (.lst ((iZ n::(cm n f).take i).map V.str)))
   ⟨⟨_,_,rfl⟩,Mv.refl,gR5⟩ (λi σ H' _ p=>bg.of (p.2.1 _ _ gS (by simpa using SR))) ?_ ?_⟩
  ·rintro i x σ H' ex ⟨⟨o5,o6,rfl⟩,m5,hR'⟩;have hi:i<(az n).length:=by rw[<- hlen];exact(GU.mp ex).1
   obtain⟨kt,ekt⟩:∃ kt,(az n)[i]?=some kt:=⟨_,GF hi⟩
   obtain⟨ka,e1,hka⟩:=hks5 i kt ekt;rw[e1] at ex;cases ex;have hm:=GS ekt;have gp':=gp5.mv m5 lR;have hka':=m5 _ _ hka (lR.not hka λ_ z=>nomatch z);obtain⟨wv,dg,hw⟩:=xJ ⟨_,.refl _,gp'⟩ hm hka';refine⟨_,rfl,_,rfl,d,wv,rfl,dg,?_⟩;have k7:=bx.mp (wg n7 hm);have hkn:∀ m∈[(kt.1:Int),(kt.2.1:Int),(kt.2.2:Int)],0<=m/\m<10^4:=λm hm=>by
    simp only[GR,Hq,Js] at hm;lia
   have hwn:=uR (wt kt hm);refine⟨_,rfl,.inl ⟨rfl,_,bg.of hR'⟩,rfl,_,rfl,ka,false,rfl,⟨_,fM.of hka'⟩,bB (b:=false) (ds:=[(kt.1:Int),(kt.2.1:Int),(kt.2.2:Int)].map IG) (es:=([(kt.1:Int),(kt.2.1:Int),(kt.2.2:Int)].map km).map Ll) (fM.of hka') (.cons (.int _) (.cons (.int _) (.cons (.int _) .nil))) rfl (by show 3<=1000;decide) (λj dj ej u H6 hdj hej s6 hu R kk S=>?_) (λzs H6 s6 hzs J1 hJ1=>?_)⟩
   ·rw[GQ] at hdj hej;rw[GQ] at hej;obtain⟨m,en,rfl⟩:=Hj.mp hdj;rw[en] at hej;cases hej;cases hu;exact aP (B:=S H6) ⟨_,rfl,m,rfl,iP (hkn m (GS en)),kk _ _ ⟨ah.refl _,.str _⟩⟩
   have ez:=fE hzs;subst ez;generalize e0:upd H6 J1 _=H7;have s7:=s6.trans (dz hJ1 e0);have gJ1:=cu e0;clear e0 hzs;have l1:=dB (ns:=[(kt.1:Int),(kt.2.1:Int),(kt.2.2:Int)]) (by show 3<=3;decide) hkn;have l2:=dB (ns:=[(f kt).a,(f kt).b,(f kt).c]) (by show 3<=3;decide) hwn;obtain⟨wa,rfl,hwa⟩:=Az (b:=false) (aW.same s7 hw);refine⟨_,J1,_,rfl,rfl,bg.of gJ1,BP (B:=10) (λx hx=>?_) (by decide) (by show 3*12<=1000000;decide),_,_,rfl,rfl,GV (show(i7 [(kt.1:Int),(kt.2.1:Int),(kt.2.2:Int)]).length+IT ": "<=60+2 from MW l1 (by decide)) (by decide),rfl,_,rfl,wa,false,rfl,⟨_,hwa⟩,bB (b:=false) (ds:=[(f kt).a,(f kt).b,(f kt).c].map IG) (es:=([(f kt).a,(f kt).b,(f kt).c].map km).map Ll) hwa (.cons (.int _) (.cons (.int _) (.cons (.int _) .nil))) rfl (by show 3<=1000;decide) (λj dj ej u H8 hdj hej s8 hu R kk S=>?_) (λzs H8 s8 hzs J2 hJ2=>?_)⟩
   ·obtain⟨m,hm,rfl⟩:=HH.mp hx;exact dA (hkn m hm)
   ·rw[GQ] at hdj hej;rw[GQ] at hej;obtain⟨m,en,rfl⟩:=Hj.mp hdj;rw[en] at hej;cases hej;cases hu;exact aP (B:=S H8) ⟨_,rfl,m,rfl,iP (hwn m (GS en)),kk _ _ ⟨ah.refl _,.str _⟩⟩
   have ez:=fE hzs;subst ez;generalize e0:upd H8 J2 _=H9;have s9:=s7.trans (s8.trans (dz hJ2 e0));have gJ2:=cu e0;clear e0 hzs;refine⟨_,J2,_,rfl,rfl,bg.of gJ2,BP (B:=10) (λx hx=>?_) (by decide) (by show 3*12<=1000000;decide),_,_,rfl,rfl,?_,R,_,_,rfl,rfl,s9 _ _ hR',?_,⟨_,_,rfl⟩,?_,?_⟩
   ·obtain⟨m,hm,rfl⟩:=HH.mp hx;exact dA (hwn m hm)
   ·rw[Hs];have e2:IT ": "=2:=by decide
    exact GV (show(i7 [(kt.1:Int),(kt.2.1:Int),(kt.2.2:Int)]).length+IT ": "+(i7 [(f kt).a,(f kt).b,(f kt).c]).length<=122 by lia) (by decide)
   ·rw[GG,HR,Ib];exact Mp (show min i (cm n f).length+1<=28 by rw[gE,<- bo];lia) (by decide)
   ·exact m5.trans ((Mv.of s9).trans λb o e nb=>by rw[ap (by simpa using nb)];exact e)
   ·have er:(cm n f)[i]?=some (ww kt (f kt)):=by unfold cm;rw[GQ,ekt];rfl
    rw[af,cC er,<- KA,JL];rfl
  rintro σ H6 ⟨⟨o5,o6,rfl⟩,m6,hR6⟩;have tw6:=bI.mvL m6 nR tw5;have gp6:=gp5.mv m6 lR;rw[hlen,show(az n).length=(cm n f).length by rw[gE,bo],ON] at hR6;clear m6 lR gp5 tw5 gS hks5 gR5 hlen SR kmin klen kr;refine⟨_,rfl,_,rfl,λC g dx hC hg hdx hne=>?_⟩;generalize e0:upd (upd H6 dx _) g _=H7;have s7:=y6 hg hdx hne e0;have gv:=cu e0;refine⟨g,C,dx,d,n,f,rfl,hC,gv,⟨_,.refl _,gp6.same s7⟩,wt,n2,n7,λH8 L mv8 hg8 gL hL=>⟨rfl,?_⟩⟩;have s8:ah H6 H8:=λb o e=>mv8 _ _ (s7 _ _ e) (λz=>by rw[G5.mp z,hg] at e;cases e)
  refine⟨.ref g,n,f,rfl,⟨g,C,dx,L,rfl,hC,hg8,gL⟩,wt,n2,n7,λH9 s9=>?_⟩;replace s8:=s8.trans s9;have tw9:=tw6.same s8;have gp9:=gp6.same s8;have gR9:=s8 _ _ hR6;have hrows:=gE n f;have h27:n^3<=27:=JX n3 3;have jk:∀ {rows:List Str},rows.length<=28->(∀ x∈rows,x=iZ n\/x∈cm n f)->JoinOk "\n" rows=true:=λ{rows} hl hr=>BP (B:=130) (λx hx=>by
   rcases hr x hx with rfl|hx
   ·unfold iZ;rw[Hs];have e:IT "knots "=6:=by decide
    lia
   ·obtain⟨k,hk,rfl⟩:=HH.mp hx;exact GV (o8 (wt k hk) (wg n7 hk)) (by decide)) (by decide) (by lia)
  clear mv8 hg8 gL hL s7 gv hg hdx hne s9 s8 hC tw6 gp6 hR6 L dx C e0 H8;refine⟨_,rfl,rfl,_,rfl,_,R,_,rfl,rfl,bg.of gR9,jk (by rw[HR];lia) (λx hx=>GR.mp hx),_,_,rfl,rfl,false,by rw[GP (oP n f)];rfl,aX ?_⟩;have hz:=Ao wt n3;refine⟨_,rfl,.str (sF n f),rfl,.inr ⟨sF n f,iZ n,cm n f,rfl,by lia,vK wt,λhk=>absurd rfl (hk n n2 n7),λm m2 m7 hm=>?_⟩⟩;cases Av n2 n7 m2 m7 hm;refine⟨λne=>absurd hrows ne,λ_=>⟨Bx,λi row kt h1 h2 h3=>absurd (oh wt i row kt h1 h2) (by rw[h3];exact λz=>nomatch z),λf' hrd hwt g' C dx L HA sA nL hC hg hL=>?_⟩⟩;have ef:∀ kt∈az n,f' kt=f kt:=λkt hk=>by
   obtain⟨i,hi,ei⟩:=IP hk;have h2:(az n)[i]?=some kt:=by rw[GF hi,ei]
   have h1:(cm n f)[i]?=some (ww kt (f kt)):=by unfold cm;rw[GQ,h2];rfl
   have:=(hrd i _ kt h1 h2).symm.trans (oh wt i _ kt h1 h2);exact GN this
  have Ld:L≠d:=λz=>by
   obtain⟨vs,hd,_⟩:=id gp9;rw[z,hd] at nL;cases nL
  have twA:=tw9.same sA;have gpA:=gp9.same sA;have gRA:=sA _ _ gR9;clear hrd hwt sA tw9 gp9 gR9;refine⟨_,rfl,λD hD=>?_⟩;cases bw hD hC;refine⟨_,_,rfl,hC,.inl ⟨g',dx,_,rfl,hg,_,rfl,aX ?_⟩⟩;obtain⟨vs,hd,hvs⟩:=id gpA;refine⟨_,rfl,d,_,rfl,hd,λob=>?_⟩;have sD:dS HA (upd HA d (.frz ob (.dT (d_ (az n) vs)))):=λb o e nd=>by
   rw[ap (λz=>by rw[z,hd] at e;cases e;exact nd _ rfl)];exact e
  have fz:upd HA d (.frz ob (.dT (d_ (az n) vs))) d=some (.frz ob (.dT (d_ (az n) vs))):=af;have gF:Gr K (upd HA d (.frz ob (.dT (d_ (az n) vs)))) n f' L:=by
   obtain⟨ts,pm,vs',a1,a2⟩:=hL;exact⟨ts,pm,vs',by rw[ap Ld];exact a1,aE.sameD sD a2⟩
  have hgF:=sD _ _ hg (λ_ z=>nomatch z);have hvF:=aE.sameD sD hvs;have back:∀ {H':Hp},ah (upd HA d (.frz ob (.dT (d_ (az n) vs)))) H'->ah HA (upd H' d (.dT (d_ (az n) vs))):=λ{H'} s b o e=>by
   by_cases hb:b=d
   ·subst hb;rw[hd] at e;cases e;exact af
   ·rw[ap hb];exact s _ _ (by rw[ap hb];exact e)
  generalize upd HA d (.frz ob (.dT (d_ (az n) vs)))=HB at sD fz gF hgF hvF back ⊢;refine t7 fz (λi k x ka HC ek sC hka Y S kS=>?_) (λHC sC D hD=>?_)
  ·obtain⟨kt,et,rfl,ex⟩:=wR ek;rw[jU] at hka;have htm:=GS et;obtain⟨xv,evx,hx⟩:=tY (f:=λt=>wD (f t)) hvF htm;refine⟨_,rfl,g',C,dx,_,rfl,hC,sC _ _ hgF,rfl,_,rfl,.ref g',.ref ka,n,f',kt,rfl,⟨g',C,dx,L,rfl,hC,sC _ _ hgF,gF.same sC⟩,ug hka,htm,λw HE sE hw=>?_⟩;have dg:qA HE d (.ref ka) (some xv):=by rw[<- evx];exact .inr ⟨d_ (az n) vs,bv kt,ka,.inr ⟨ob,(sC.trans sE) _ _ fz⟩,rfl,by rw[jU];exact sE _ _ hka,rfl⟩
   rw[ef kt htm] at hw;refine⟨_,rfl,_,rfl,d,xv,rfl,dg,_,_,hw,aW.same (sC.trans sE) hx,rfl,rfl,false,?_,aX (kS _ sE)⟩;rw[show QE (wD (f kt)) (wD (f kt))=true from rf [(f kt).a,(f kt).b,(f kt).c]];rfl
  have nDd:D≠d:=λz=>by rw[z,sC _ _ fz] at hD;cases hD
  refine⟨d,ob,_,hd,by rw[ap nDd.symm];exact sC _ _ fz,?_⟩;have sG:=back (sC.trans (ah.new (o:=.lst []) hD));have gD:upd (upd HC D (.lst [])) d (.dT (d_ (az n) vs)) D=some (.lst []):=by rw[ap nDd];exact af
  generalize upd (upd HC D (.lst [])) d (.dT (d_ (az n) vs))=HG at sG gD ⊢;have twG:=twA.same sG;have gRG:=sG _ _ gRA;clear back sC hD nDd sD fz gF hgF hvF hd hvs gpA twA gRA hC hg hL sG Ld ef;refine⟨(by show 0<=GZ;decide),λo1 ho1=>?_⟩;have so:=ah.new (o:=.lst []) ho1;refine⟨.list [],.list [],.lst (.inl (so _ _ gD)) .nil,.lst (.inl af) .nil,rfl,rfl,false,rfl,aX ?_⟩;replace twG:=twG.same so;replace gRG:=so _ _ gRG;generalize upd HG o1 (.lst [])=HI at twG gRG ⊢;clear so ho1 gD;refine⟨_,rfl,_,rfl,pX,λp hp=>?_⟩;have np:=twG.not hp;have sp:=ah.new (o:=.lst [.int 60,.int 1000]) hp;refine⟨t,r,p,_,rfl,twG.same sp,af,λz=>np (by simp[z]),λz=>np (by simp[z]),by simp,by show 2<=1000;decide,λi v HJ ev twJ mvJ=>?_⟩;obtain⟨last,rfl,l1,l2⟩:∃ last:Int,v=.int last/\1<=last/\last<=1000:=by
   have m:=GS ev;simp only[GR,Hq,Js] at m;rcases m with rfl|rfl
   ·exact⟨60,rfl,by decide,by decide⟩
   ·exact⟨1000,rfl,by decide,by decide⟩
  have gRJ:=mvJ _ _ (sp _ _ gRG) nR;clear ev mvJ sp np hp gRG twG;refine⟨t,r,last,1000,false,rfl,twJ,l1,l2,by decide,by decide,λD ps z xs HK hD hds hP hz ez zc nD twK mvK=>?_⟩;have gRK:=mvK _ _ gRJ nR;clear mvK gRJ twJ;refine⟨_,rfl,λC v dx hC hv hdx hne=>?_⟩;generalize e0:upd (upd HK dx _) v _=H9;have s9:=y6 hv hdx hne e0;have gv:=cu e0;refine⟨v,C,dx,_,ps,rfl,hC,gv,.lst (.inl (s9 _ _ hD)) (aE.same s9 hds),hP,λHL mvL hxL _=>⟨rfl,?_⟩⟩;have sL:ah HK HL:=λb o e=>mvL _ _ (s9 _ _ e) (λz=>by rw[G5.mp z,hv] at e;cases e)
  refine⟨.ref v,ps,rfl,hxL,hP,λHM sM=>?_⟩;replace sL:=sL.trans sM;have twM:=twK.same sL;have gRM:=sL _ _ gRK;have hDM:=sL _ _ hD;have hdsM:=aE.same sL hds;clear mvL hxL sM sL s9 gv hv hdx hne e0 hds hD twK gRK;have few:=hP.few;refine⟨_,rfl,rfl,_,rfl,D,true,rfl,⟨_,bg.of hDM⟩,bB (b:=true) (es:=(ps.map λp=>i7 [p.1,p.2]).map Ll) (bg.of hDM) hdsM (by simp) (by rw[GG];lia) (λj dj ej u HN hdj hej sN hu R kk S=>?_) (λzs HN sN hzs Z hZ=>?_)⟩
  ·rw[GQ] at hdj hej;rw[GQ] at hej;obtain⟨p,ep,rfl⟩:=Hj.mp hdj;rw[ep] at hej;cases hej;have hpm:=GS ep;have hn:=rG hP hpm;obtain⟨pa,ys,rfl,hpa,hys⟩:=bU (b:=false) (ds:=[p.1,p.2].map IG) hu;have ey:=e6 hys;subst ey;have ha:=hn p.1 (by simp);have hb:=hn p.2 (by simp);have la:=dA ha;have lb:=dA hb;have e1:IT " "=1:=by decide
   refine⟨pa,_,rfl,hpa,rfl,_,_,rfl,_,_,rfl,rfl,aP (B:=S HN) ⟨_,rfl,p.1,rfl,iP ha,_,_,rfl,rfl,?_,_,rfl,p.2,rfl,iP hb,_,_,rfl,rfl,?_,kk _ _ ⟨ah.refl _,?_⟩⟩⟩
   ·exact GV (show(Iw (toString p.1)).length+IT " "<=12 by lia) (by decide)
   ·rw[Hs];exact GV (show(Iw (toString p.1)).length+IT " "+(Iw (toString p.2)).length<=22 by lia) (by decide)
   ·show aW K HN (.str (i7 [p.1,p.2])) _;rw[<- Fj];exact .str _
  have ez':=fE hzs;subst ez';generalize e0:upd HN Z _=HO;have sO:=sN.trans (dz hZ e0);have gZ:=cu e0;clear e0 hzs sN hZ;have lc:=Ax hP;have hcv:=wM hP;have jc:JoinOk ", " (ps.map λp=>i7 [p.1,p.2])=true:=BP (B:=60) (λx hx=>by
   obtain⟨p,hm,rfl⟩:=HH.mp hx;exact dB (by show 2<=3;decide) (rG hP hm)) (by decide) (by rw[GG];lia)
  refine⟨_,Z,_,rfl,rfl,bg.of gZ,jc,_,_,rfl,rfl,false,by rw[GP (show wy ps=Kq ", " (ps.map λp=>i7 [p.1,p.2]) from rfl)];rfl,aX ?_⟩;refine⟨_,rfl,.str (wy ps),rfl,.inr ⟨wy ps,rfl,lc,λe=>(by rw[hcv] at e;cases e),λps' e' _ w HP sP hw=>?_⟩⟩;cases GN (hcv.symm.trans e');refine⟨w,ps,rfl,hw,hP,λHQ sQ=>⟨_,rfl,_,_,rfl,rfl,false,by rw[GP rfl];rfl,aX ?_⟩⟩;have sMQ:=(sO.trans sP).trans sQ;have twQ:=twM.same sMQ;have gRQ:=sMQ _ _ gRM;have hDQ:=sMQ _ _ hDM;have hdsQ:=aE.same sMQ hdsM;clear hw sMQ sQ sP sO gZ jc twM gRM hDM hdsM e';obtain⟨uz,euz,huz⟩:=qC hdsQ hz;obtain⟨pz,rfl,hpz⟩:=cG huz;refine⟨_,rfl,_,rfl,_,rfl,.inl ⟨D,xs,_,_,rfl,rfl,bg.of hDQ,mO euz,eU hpz ⟨t,r,z.1,rfl,twQ,by lia,by lia,λpv qq HS hq q0 q1 bq twS mvS=>?_⟩⟩⟩;have gRS:=mvS _ _ gRQ nR;have hDS:=mvS _ _ hDQ nD;have hdsS:=aE.mv mvS twQ.lists (uB ps) hdsQ;clear mvS hdsQ hDQ gRQ twQ hpz huz euz;refine⟨_,rfl,.str (wy ps),rfl,.inr ⟨wy ps,rfl,lc,λe=>(by rw[hcv] at e;cases e),λps' e' _ w HT sT hw=>?_⟩⟩;cases GN (hcv.symm.trans e');obtain⟨wa,Cw,dw,lw,rfl,hCw,hwa,hlw⟩:=id hw;refine⟨wa,Cw,dw,_,rfl,hCw,hwa,rfl,_,rfl,.ref wa,pv,ps,qq,z,rfl,hw,aW.same sT hq,hP,bq.mono (by decide),hz,q0,q1,λv1 c1 HU sU on1 h1=>?_⟩;refine⟨_,rfl,λC v dx hC hv hdx hne=>?_⟩;generalize e0:upd (upd HU dx _) v _=HV;have sV:=y6 hv hdx hne e0;have gv:=cu e0;have sSV:=(sT.trans sU).trans sV;refine⟨v,C,dx,_,ps,rfl,hC,gv,.lst (.inl (sSV _ _ hDS)) (aE.same sSV hdsS),hP,λHW mvW hxW _=>⟨rfl,?_⟩⟩;have sW:ah HU HW:=λb o e=>mvW _ _ (sV _ _ e) (λz=>by rw[G5.mp z,hv] at e;cases e)
  obtain⟨va,Cv,dv,lv,ev,hCv,hva,hlv⟩:=id hxW;cases ev;have sSW:=(sT.trans sU).trans sW;refine⟨v,Cv,dv,_,rfl,hCv,hva,rfl,_,rfl,.ref v,pv,ps,qq,z,rfl,hxW,aW.same sSW hq,hP,bq.mono (by decide),hz,q0,q1,λv2 c2 HX sX on2 h2=>?_⟩;cases yL hP on1 on2;refine⟨_,_,aW.same (sW.trans sX) h1,h2,rfl,rfl,false,by rw[SeqAt.eqv_refl _ rfl];rfl,aX ?_⟩;have sSX:=sSW.trans sX;have twX:=twS.same sSX;have gRX:=sSX _ _ gRS;clear h2 h1 on2 on1 sX sSW hva hlv hCv hxW mvW sW gv sV hv hdx hne e0 sSV sU hw hwa hlw hCw sT e' hDS hdsS gRS twS hq q0 q1 bq hcv lc hC few zc nD hz ez hP sSX l1 l2 last;have lt:(sF n f).length+1<=851:=by lia
  refine⟨_,rfl,_,rfl,_,rfl,GV hz (by decide),_,_,rfl,rfl,t,r,_,rfl,twX,by lia,s64 (by lia) (by lia),λat_ HY a0 a1 twY mvY=>?_⟩;have gRY:=mvY _ _ gRX nR;clear mvY gRX twX;refine⟨_,rfl,(by show 6<=GZ;decide),λp hp=>?_⟩;have np:=twY.not hp;refine⟨t,r,p,_,rfl,twY.same (ah.new hp),af,λz=>np (by simp[z]),λz=>np (by simp[z]),by simp,by show 6<=1000;decide,λi sv HZ ev twZ mvZ=>?_⟩;have gRZ:=mvZ _ _ (ah.new hp _ _ gRY) nR;obtain⟨sg,rfl,ls⟩:∃ sg:Str,sv=.str sg/\sg.length<=2:=by
   have m:=GS ev;simp only[GR,Hq,Js] at m;rcases m with rfl|rfl|rfl|rfl|rfl|rfl<;>exact⟨_,rfl,by decide⟩
  clear ev mvZ np hp gRY twY;have k1:∀ {m:Nat},m<=1000->m<=GZ:=λh=>GV h (by decide)
  obtain⟨ka,rfl⟩:=JK a0;have hlo:=ze (sF n f) (a:=ka) (by lia);have hhi:=uj (sF n f) (a:=ka) (by lia);have ln:IT "\n"=1:=by decide
  have l5:IT ": 5"=3:=by decide
  refine⟨_,rfl,_,rfl,(ka:Int),rfl,sF n f,rfl,k1 (by lia),_,rfl,_,_,rfl,rfl,k1 (by lia),_,rfl,_,rfl,(ka:Int),rfl,sF n f,rfl,k1 (by lia),_,_,rfl,rfl,k1 (by rw[Hs];lia),?_⟩;refine⟨_,rfl,_,_,rfl,rfl,k1 (by lia),_,rfl,_,_,rfl,rfl,k1 (by lia),rfl,_,rfl,_,rfl,-1,rfl,R,_,rfl,bg.of gRZ,λp hp=>?_⟩;obtain⟨ci,cj,ec⟩:=wB V.str (iZ n::cm n f) none (some (-1));rw[ec];generalize e0:upd HZ p _=Ha;have ga:=cu e0;clear e0 hp ec gRZ;generalize hrs:((iZ n::cm n f).drop ci).take cj=rs at ga;have hrm:∀ x∈rs,x=iZ n\/x∈cm n f:=λx hx=>by
   rw[<- hrs] at hx;exact GR.mp (List.mem_of_mem_drop (PF hx))
  have hrl:rs.length<=28:=by
   rw[<- hrs,Ib,Km,HR];lia
  have hjl:(Kq "\n" rs).length<=900:=by
   unfold Kq;rw[On,ln];have:=l8 (ts:=rs) (B:=30) λx hx=>by
    rcases hrm x hx with rfl|hx
    ·unfold iZ;rw[Hs];have e:IT "knots "=6:=by decide
     lia
    ·obtain⟨k,hk,rfl⟩:=HH.mp hx;exact o8 (wt k hk) (wg n7 hk)
   lia
  refine⟨_,p,rs,rfl,rfl,bg.of ga,jk hrl hrm,?_⟩;have hrp:=ym (x:=sF n f) (y:="knots") (z:="knot") (by decide);refine⟨_,rfl,sF n f,rfl,by lia,by decide,by decide +kernel,(by show 6<=GZ;decide),λWl hWl=>?_⟩;generalize e0:upd Ha Wl _=Hb;have gW:=cu e0;clear e0 hWl ga;refine⟨Wl,true,rfl,⟨_,bg.of gW⟩,uU (K:=K) (b:=true) (λi σ H'=>(∃ o13 o14,σ=[some (.ref a),some (.ref t),some (.int n),some (.ref d),some (.ref R),some pv,o6,some (.str (sF n f)),some (.ref g'),some (.ref D),some (.str (wy ps)),some (.int ka),some (.str sg),o13,o14,none])/\ah Hb H')
   ⟨⟨_,_,rfl⟩,ah.refl _⟩ (λi σ H' _ p=>bg.of (p.2 _ _ gW)) ?_ ?_⟩
  ·rintro i x σ H' ex ⟨⟨o13,o14,rfl⟩,sb⟩;obtain⟨wx,rfl,lx⟩:∃ wx:Str,x=.str wx/\wx.length<=900:=by
    have m:=GS ex;simp only[GR,Hq,Js] at m;rcases m with rfl|rfl|rfl|rfl|rfl|rfl
    ·exact⟨_,rfl,by rw[Hs,Hs];lia⟩
    ·exact⟨_,rfl,by rw[Hs];lia⟩
    ·exact⟨_,rfl,by rw[Hs];lia⟩
    ·exact⟨_,rfl,hjl⟩
    ·exact⟨_,rfl,by lia⟩
    ·exact⟨_,rfl,by decide⟩
   refine⟨_,rfl,wx,lx,λHc sc=>?_,.inr ⟨rfl,λm f' g2 C2 dx2 L2 Hc m2 m7 hwt ht sc hC2 hg2 hL2=>?_⟩⟩
   ·exact⟨_,rfl,.inl ⟨_,_,rfl,rfl,false,by rw[GP rfl];rfl,aX (aX ⟨⟨_,_,rfl⟩,sb.trans sc⟩)⟩⟩
   ·refine⟨_,rfl,.inr ⟨g2,C2,dx2,_,_,rfl,hC2,hg2,rfl,true,rfl,aP ⟨_,rfl,λE hE=>?_⟩⟩⟩;cases bw hE hC2;refine⟨_,_,rfl,hC2,.inl ⟨g2,dx2,_,rfl,hg2,_,rfl,aX ⟨_,rfl,.ref g2,m,f',rfl,⟨g2,_,dx2,L2,rfl,hC2,hg2,hL2⟩,hwt,m2,m7,λHd sd=>⟨_,rfl,_,_,rfl,rfl,false,by rw[ht,GP rfl];rfl,aX ⟨⟨_,_,rfl⟩,(sb.trans sc).trans sd⟩⟩⟩⟩⟩
  ·rintro σ Hc ⟨⟨o13,o14,rfl⟩,_⟩;refine⟨(by show 8<=GZ;decide),λp1 hp1=>?_⟩;generalize e0:upd Hc p1 _=Hd;have g1:Hd p1=some (.lst (AF.map V.str)):=cu e0;clear e0 hp1;refine⟨_,rfl,Cp,λp2 hp2=>?_⟩;generalize e0:upd Hd p2 _=He;have sp2:=dz hp2 e0;have g2:He p2=some (.lst (A3.map V.str)):=cu e0;clear e0 hp2;refine⟨p1,p2,_,_,rfl,rfl,sp2 _ _ g1,g2,by show 8+3<=GZ;decide,λp3 hp3=>?_⟩;generalize e0:upd He p3 _=Hf;have g3:Hf p3=some (.lst ((AF++A3).map V.str)):=cu e0;clear e0 hp3 g1 g2 sp2;refine⟨_,rfl,p3,true,rfl,⟨_,bg.of g3⟩,bB (b:=true) (ds:=(AF++A3).map Ll) (es:=GY 11 (.str "text")) (bg.of g3) (jC _) rfl (by show 11<=1000;decide) (λj dj ej u Hg hdj hej sg hu R kk S=>?_) (λzs Hg sg hzs Z hZ=>?_)⟩
   ·rw[GQ] at hdj;obtain⟨wx,ew,rfl⟩:=Hj.mp hdj;have hej:ej=.str "text":=List.eq_of_mem_replicate (GS hej);subst hej;cases hu;have ob:=Hz.mp zR wx (GS ew);rw[G6] at ob;exact aP (B:=S Hg) ⟨_,rfl,wx,IY ob.1,λHh sh=>kk _ _ ⟨sh,.str _⟩,.inl ⟨rfl,Option.isNone_iff_eq_none.mp ob.2⟩⟩
   ·generalize e0:upd Hg Z _=Hh;have sh:=dz hZ e0;have gZ:aW K Hh (.list (GY 11 (.str "text"))) (.ref Z):=.lst (.inl (cu e0)) (aE.same sh hzs);have g3h:=sh _ _ (sg _ _ g3);clear e0;have sh11:NP (.list (GY 11 (.str "text")))=true:=by decide +kernel
    refine⟨uk,λp4 hp4=>?_⟩;have s4:=ah.new (o:=.lst [.str "text"]) hp4;refine⟨_,rfl,p3,_,rfl,.inl (bg.of (s4 _ _ g3h)),p4,11,_,rfl,rfl,af,by decide,by decide,by decide,λp5 hp5=>?_⟩;have s5:=ah.new (o:=.lst ((GY 11 [V.str "text"]).flatten)) hp5;refine⟨_,.list (GY 11 (.str "text")),aW.same (s4.trans s5) gZ,.lst (.inl af) (jC (GY 11 "text")),sh11,sh11,?_⟩;rw[SeqAt.eqv_refl (.list (GY 11 (.str "text"))) (by decide +kernel)];exact q _
end
structure Fg (K:GB):Prop where
 xy:Ho K G4 "ValueError"=some none
 xl:Ho K G4 "abs"=some none
 x6:Ho K G4 "all"=some none
 xz:Ho K G4 "bool"=some none
 xm:Ho K G4 "dict"=some none
 xn:Ho K G4 "int"=some none
 x0:Ho K G4 "isinstance"=some none
 x2:Ho K G4 "len"=some none
 x8:Ho K G4 "list"=some none
 x10:Ho K G4 "max"=some none
 xc:Ho K G4 "min"=some none
 x4:Ho K G4 "range"=some none
 xo:Ho K G4 "set"=some none
 xb:Ho K G4 "sorted"=some none
 x7:Ho K G4 "str"=some none
 x9:Ho K G4 "tuple"=some none
 xd:Ho K G4 "zip"=some none
structure FO (K:GB):Prop where
 xe:∃ t,Ho K G4 "FEWEST_KNOTS"=some (some (.int 2 t))
 xf:∃ t,Ho K G4 "FEWEST_POINTS"=some (some (.int 2 t))
 xg:∃ t,Ho K G4 "GREATEST_curves"=some (some (.int 1000 t))
 xh:∃ t,Ho K G4 "GREATEST_grids"=some (some (.int 1000 t))
 xv:∃ t,Ho K G4 "MOST_FIGURES"=some (some (.int 4 t))
 xi:∃ t,Ho K G4 "MOST_KNOTS"=some (some (.int 7 t))
 xj:∃ t,Ho K G4 "MOST_POINTS"=some (some (.int 12 t))
structure Fd (K:GB):Prop where
 xt:Cd K "Grid"=true
 x5:ig K "Curve" ["points"]=true
 x3:ig K "Grid" ["knots","table"]=true
 xk:Dn K "Curve"=true
 xa:Dn K "Grid"=true
 xw:zj K "Curve"=true
 xx:zj K "Grid"=true
 x1:wk K=true
structure RawD (K:GB):Prop where
 x11:AtD K "is_whole" iY
 x12:AtD K "is_whole_within" cJ
 xp:AtD K "is_tuple_within" cO
 x13:AtD K "greatest_measure" cx
 x14:AtD K "is_share" iJ
 x15:AtD K "is_less" jX
 x16:AtD K "is_within" ge
 xq:AtD K "is_point" iN
 x17:AtD K "is_onward" f_
 xr:AtD K "is_points" fX
 x18:AtD K "stretch_to" fG
 x19:AtD K "on_line" jZ
 x1d:AtD K "is_knots" iQ
 x1e:AtD K "is_knot" jW
 xs:AtD K "is_worth" iT
 x1f:AtD K "is_table" iU
 x1g:AtD K "places_below" dN
 x1j:AtD K "refuse_no_grid" cT
 x1k:AtD K "refuse_no_text" cY
 x1l:AtD K "numbers_text" dM
 x1m:AtD K "is_number" gh
 x1n:AtD K "numbers_read" dH
 x1o:AtD K "knots_row" gq
 x1p:AtD K "knots_read" fe
 x1q:AtD K "row_start" gg
 x1r:AtD K "worth_read" fA
 x1s:AtD K "grid_text" fV
 x1t:AtD K "grid_read" f8
 x1u:AtD K "curve_text" fm
 x1v:AtD K "curve_read" fH
 x1w:AtD K "_law_town" gz
 x1x:AtD K "_law_draw" gk
 x1y:AtD K "_law_pick" gi
 x1z:AtD K "_law_refusal" dL
 x20:AtD K "_law_low" iR
 x21:AtD K "_law_share" fF
 x22:AtD K "_law_points" eO
 x23:AtD K "_law_grid" fY
 x24:AtD K "_law_read" f9
structure FJ (K:GB):Prop where
 x1a:AtM K "Curve" "__init__" "Curve.__init__" cy
 x1b:AtM K "Curve" "last" "Curve.last" dF
 x1c:AtM K "Curve" "value" "Curve.value" dc
 x1h:AtM K "Grid" "__init__" "Grid.__init__" cQ
 x1i:AtM K "Grid" "knot" "Grid.knot" eP
structure FE (K:GB):Prop where
 xu:∃ t,Ho K G4 "FIGURES"=some (some (.str "0123456789" t))
set_option autoImplicit true in
set_option relaxedAutoImplicit true in
theorem all_mk {l:Pc}{w:IN}{K:GB}{h:JI}{mg:Str->Option GH}{fa:G7}{tA:List G7} (X:K.In h) (G:h.Ns G4 mg) (hfa:mg "law"=some (.ref fa))
  (RN:Fg K)
  (RG:FO K)
  (RB:Fd K)
  (RD:RawD K)
  (RM:FJ K)
  (RS:FE K)
  (ly:Ho K G4 "share"=some (some (.ref vb)))
  (lH:K.lookup vb=some ⟨Ej,DE,.func (Ih "share" "share" (aZ dD) (aU dD) (ai dD) (.ref AV) DI DK Et Ev y9 DF),Eu⟩)
  (lF:Jb K y9 "share"=true)
  (lC:IK K (.ref vb)=true)
  (lq:K.lookup AV=some y8)
  (ll:y8.data=.seq #[.int 1 yi] ER)
  (a_law:Ho K G4 "law"=some (some (.ref f_law)))
  (l_law:K.lookup f_law=some ⟨Fy,FQ,.func (Ih "law" "law" (aZ jr) (aU jr) (ai jr) .none B_ Cy BZ B0 zt Cu),FI⟩)
  (c_law:Jb K zt "law"=true)
  (k_law:IK K (.ref f_law)=true)
  : ∃ (ts:List (Str×G7)) (fd:KN),oJ K tA ts/\(∀ (s:GJ) (v:GH),Rc s fd ⟨[v],[]⟩ [("_law_script",v)])/\∀ base:JI,K.In base->base.Ns G4 mg->i9 l.prog w K mg base (cE l.prog w) 10 fa fd uA3 ((λ_=>qW) (ts.map (·.1)) K):=by
 have tabs:oJ K tA []:=⟨.nil,λ_ m=>nomatch m⟩
 refine⟨[],Ih "law" "law" (aZ jr) (aU jr) (ai jr) .none B_ Cy BZ B0 zt Cu,tabs,λs v=>.of_eq rfl,?_⟩;show ∀ base:JI,K.In base->base.Ns G4 mg->i9 l.prog w K mg base (cE l.prog w) 10 fa _ uA3 (qW K);have e:=hfa.symm.trans (J' X G a_law);cases e;have A9:cW K mg "share" dD uA8 []:=uA (ds:=[]) lH lF lC (J' X G ly) lq ll .nil λus hl=>match us,hl with|[_,_],_=>⟨_,rfl,rfl⟩
 have D_share_d:cW K mg "share" dD uA8 [.int 1]:=uA (ds:=[.int 1 yi]) lH lF lC (J' X G ly) lq ll (.cons ⟨_,rfl⟩ (.nil)) λus hl=>match us,(show us.length=1 by simpa using hl) with|[_],_=>⟨_,rfl,rfl⟩
 have T:de K mg w:=⟨RB.xt,RB.x5,RB.x3,CI X G RG.xe,CI X G RG.xf,Gv X G RS.xu,CI X G RG.xg,CI X G RG.xh,CI X G RG.xv,CI X G RG.xi,CI X G RG.xj,RB.xk,RB.xa,RB.xw,RB.xx,Im X G RN.xy,Im X G RN.xl,Im X G RN.x6,Im X G RN.xz,Im X G RN.xm,Im X G RN.xn,Im X G RN.x0,Im X G RN.x2,Im X G RN.x8,Im X G RN.x10,Im X G RN.xc,Im X G RN.x4,Im X G RN.xo,Im X G RN.xb,Im X G RN.x7,Im X G RN.x9,Im X G RN.xd,RB.x1,RD.x11.d1 X G λ_ _ _ _ _ _ _=>rfl,RD.x12.d3 X G λ_ _ _ _ _ _ _ _ _=>rfl,RD.xp.d4 X G λ_ _ _ _ _ _ _ _ _ _=>rfl,RD.x13.d2 X G λ_ _ _ _ _ _ _ _=>rfl,RD.x14.d1 X G λ_ _ _ _ _ _ _=>rfl,A9,D_share_d,RD.x15.d2 X G λ_ _ _ _ _ _ _ _=>rfl,RD.x16.d3 X G λ_ _ _ _ _ _ _ _ _=>rfl,RD.xq.d1 X G λ_ _ _ _ _ _ _=>rfl,RD.x17.d2 X G λ_ _ _ _ _ _ _ _=>rfl,RD.xr.d1 X G λ_ _ _ _ _ _ _=>rfl,RD.x18.d2 X G λ_ _ _ _ _ _ _ _=>rfl,RD.x19.d3 X G λ_ _ _ _ _ _ _ _ _=>rfl,RM.x1a.d2 X G RB.x5 λ_ _ _ _ _ _ _ _=>rfl,RM.x1b.d1 X G RB.x5 λ_ _ _ _ _ _ _=>rfl,RM.x1c.d2 X G RB.x5 λ_ _ _ _ _ _ _ _=>rfl,RD.x1d.d1 X G λ_ _ _ _ _ _ _=>rfl,RD.x1e.d2 X G λ_ _ _ _ _ _ _ _=>rfl,RD.xs.d1 X G λ_ _ _ _ _ _ _=>rfl,RD.x1f.d2 X G λ_ _ _ _ _ _ _ _=>rfl,RD.x1g.d1 X G λ_ _ _ _ _ _ _=>rfl,RM.x1h.d3 X G RB.x3 λ_ _ _ _ _ _ _ _ _=>rfl,RM.x1i.d2 X G RB.x3 λ_ _ _ _ _ _ _ _=>rfl,RD.x1j.d1 X G λ_ _ _ _ _ _ _=>rfl,RD.x1k.d1 X G λ_ _ _ _ _ _ _=>rfl,RD.x1l.d1 X G λ_ _ _ _ _ _ _=>rfl,RD.x1m.d1 X G λ_ _ _ _ _ _ _=>rfl,RD.x1n.d1 X G λ_ _ _ _ _ _ _=>rfl,RD.x1o.d1 X G λ_ _ _ _ _ _ _=>rfl,RD.x1p.d1 X G λ_ _ _ _ _ _ _=>rfl,RD.x1q.d1 X G λ_ _ _ _ _ _ _=>rfl,RD.x1r.d2 X G λ_ _ _ _ _ _ _ _=>rfl,RD.x1s.d1 X G λ_ _ _ _ _ _ _=>rfl,RD.x1t.d1 X G λ_ _ _ _ _ _ _=>rfl,RD.x1u.d1 X G λ_ _ _ _ _ _ _=>rfl,RD.x1v.d1 X G λ_ _ _ _ _ _ _=>rfl,RD.x1w.d1 X G λ_ _ _ _ _ _ _=>rfl,RD.x1x.d2 X G λ_ _ _ _ _ _ _ _=>rfl,RD.x1y.d2 X G λ_ _ _ _ _ _ _ _=>rfl,RD.x1z.d1 X G λ_ _ _ _ _ _ _=>rfl,RD.x20.d2 X G λ_ _ _ _ _ _ _ _=>rfl,RD.x21.d2 X G λ_ _ _ _ _ _ _ _=>rfl,RD.x22.d4 X G λ_ _ _ _ _ _ _ _ _ _=>rfl,RD.x23.d2 X G λ_ _ _ _ _ _ _ _=>rfl,RD.x24.d2 X G λ_ _ _ _ _ _ _ _=>rfl⟩
 intro base _ _;exact B7 T (BW (st:=jr) l_law c_law k_law)
theorem walk {l:Pc}{qq:Hv}{loose:List Str}{XP:(Str->Option GH)->JI->Prop}{YP:IN->JI->Prop}{d:DefRec}{K:Params->GB} (hn:l.most=some 63) (hdf:d.params.defaults=[])
  {tA:List G7}(hY:∀ (w:IN) (h:JI),YP w h->(K w.params).In h)(hY2:∀ (w:IN) (h:JI),YP w h->∀ P∈tA,h.get? P=some { cls:=.none,data:=.fields #[] })
  (F:∀ (w:IN) (mg:Str->Option GH) (fa:G7) (h:JI),(K w.params).In h->h.Ns G4 mg->mg d.name=some (.ref fa) ->
   ∃ (ts:List (Str×G7)) (fd:KN),oJ (K w.params) tA ts/\(∀ (s:GJ) (u:GH),Rc s fd ⟨[u],[]⟩ [("_law_script",u)])/\∀ base:JI,(K w.params).In base->base.Ns G4 mg->i9 l.prog w (K w.params) mg base (cE l.prog w) 10 fa fd uA3 ((λ_=>qW) (ts.map (·.1)) (K w.params))) :
  PySem.W.WalkO qq loose XP YP l.row.toRowW d [] (λf vs=>Rs f vs):=
 yg (k:=10) (x:="_law_script") (CX:=λw=>(cE l.prog w)) (sp:=(λ_=>qW)) hn hdf ⟨rfl,by decide,by decide⟩ hY hY2 F (λ_ _ _ a ns hl hS _=>⟨a,ns,rfl,hS,hl,λ_=>rfl⟩) λ_ _ _ _ _ z=>aN _ _ _ _ _ z
end TR
structure PySem.W.Fast:Prop where (tw305739057737895677 tw5889040326302155137 tw2538114748782168330 tw18118695004621521904 tw15487108547138547964 tw17800077865588184711 tw16699796818729820849 tw2570369792898814143 tw14579755510071539488 tw2226349477527261302 tw8298356621781662718 tw14627140449833602204 tw9911180777422835495 tw8012655765153638822 tw13528649463612628083 tw4958979051086818898 tw17119123284799013119 tw7703705342240823067 tw7727876131629712299 tw6822827822489433931 tw8027823067588015861 tw9153866342719926271 tw9219917317869201975 tw12232423206757894208 tw16038888043951817346 tw5401983862212750716 tw6336605221383260117 tw16725450734828477750 tw3120027460999629175 tw11058510218279504108 tw14076935603763341947 tw11835226657518150214 tw7920008431023087667 tw12244724004404099711 tw4411408163506420654 tw14859744680248216438 tw9635679951821077874 tw13267302651576362161 tw11761998168922294250 tw13147885218325753530 tw3964952583629353632 tw3807387654233699046 tw3987245404152819595 tw3977152465362020125 tw15602819193923143027 tw9699064063499878184 tw2509864059221311220 tw16074106074065481439 tw10980302083341660703 tw12016234011734486390 tw4764843355008487507 tw4117431035285909245 tw2655890875047824144 tw2670650372979843001 tw4299189476313000943 tw8641057558214832986 tw4128577055314164043 tw17473075438646201154 tw7539842390625020070 tw5180292825536312575 tw3999054394470110642 tw716601360419259561 tw18148469032578122595 tw16257226698316608444 tw7485981324917039507 tw18334356478196764086 tw13061586665902405322 tw4096226338703883358 tw773254985163861712 tw4298772446262442856 tw9408852242723164484 tw13490856206712325648 tw12022121199496195708 tw6432595129622186521 tw9744984193813157960 tw13130588489071394596 tw14140496106753351362 tw1798037125757227672 tw455676903064351867 tw12618685955516222947 tw18334074495696386537 tw2120109405117161341 tw1322059591335905483 tw13347080739074838528 tw10505999665512380652 tw986550162299453387 tw10637147816922129927 tw3084420714583447318 tw703204415286081126 tw15478665845988897532 tw9816768837397827927 tw7794811080091726319 tw13821812140533948035 tw15290568729537468165 tw12547507100300580768 tw14987436274523824591 tw3470872241133991226 tw15988253747395225042 tw2194524317675379027 tw11905291525424854823 tw12746213132704878877 tw7510744311873558851 tw8571114476211859636 tw13281548697415393832 tw13312068407727162863 tw13778173099451263278 tw7674060651373270362 tw9953802501656951561 tw10856235554890234842 tw11474106989146316496 tw5284901151676311391 tw10199403628982363209 tw3820225813166852331 tw14678661239931730219 tw14332597954524340050 tw3325451374496623970 tw1970687278356277339 tw3415091024666162497 tw10303039081196267900 tw15839407171109577628 tw2625964372409845482 tw17960448226307237865 tw10744608629516189029 tw8462987823640038682 tw5388430310393595969 tw2692832402618078406 tw1389866422079942620 tw16816846357230791287 tw13144080577088620947 tw1142913647410818693 tw10045761715300893562 tw14988418030086065116 tw4112791668844161718 tw530439810115636276 tw10459227664992829647 tw15285892924253956254 tw3801486676960811171 tw9690035530176739600 tw16509438773141999954 tw932131113123514205 tw17045334791681156791 tw14413432899240076013 tw15063016934728807813 tw16667586494745935241 tw6989658864689154505 tw6850702577138076576 tw14066056036655155245 tw13245492314450820334 tw9403417175310543830 tw7048642223528205695 tw4931895440235519692 tw16197392695085083989 tw4144745935887830724 tw18382359152353047897 tw13215005444479341478 tw5482363489593278311 tw16553438715226574045 tw15360254986143313046 tw5162306529008845797 tw17610099690905623335 tw1124708646374419587 tw4798720004997566419 tw9674950175634593710 tw1064892026978770512 tw14521022876015667272 tw1467342079585632311 tw7846020062327410957 tw6408751337104457129 tw211977378708827076 tw6918157691507449331 tw13540987408013647077 tw13663768626726069247 tw8189637389903386509 tw8601200298423073714 tw5046604482645380773 tw11670273458480809204 tw14342748678480086037 tw16581300133216358793 tw5228773836313533899 tw11176890683424208760 tw6422407445078174196 tw5947456267086104336 tw6186719328276100843 tw3310981788498154300 tw18304471775081426133 tw4478023873552717031 tw11557296596694661361 tw7867667210903481895 tw17641599239124509909 tw9309230483178421134 tw2883958851210513975 tw3487211440559544941 tw16784321594310925938 tw11786529583482095423 tw3613065938836368854 tw5328339567829991014 tw5417644447046548670 tw3844874616599281930 tw1885575099674678368 tw5080154455084474831 tw4792659768154541229 tw9797587388748138758 tw261733431469312614 tw7211759813587223910 tw15338781698472985591 tw12881502048174471776 tw1434308807981327377 tw3203394050066838976 tw15729067236332529343 tw5459482424450957665 tw5282958968120392173 tw8434554657274668166 tw8806554312818826011 tw15464761463308012214 tw363339948451452761 tw649637947419176169 tw8396786193393283968 tw3216329558052435551 tw13295926110215214765 tw1089928345264212724 tw17191828952508299304 tw5802167755429977284 tw11148392201135460555 tw13225199252074896155 tw1173787716384552279 tw14627427343586543719 tw3685211280302291655 tw6663037410953323078 tw9075686421707483483 tw8795185405505822775 tw14174148315172976430 tw2557251698420853934 tw11916061660991159157 tw8009169568491026144 tw423776586692623420 tw17064773041449099232 tw7635264998518397495 tw1106778716043341523 tw10000954842827295259 tw4478836600508376619 tw14066022501832133821 tw230213082795074790 tw14997729824133346411 tw8760094181285473704 tw14319549652792367643 tw16626968774993266643 tw3914456639741509199 tw13953491680128335629 tw6810420633716204690 tw13143640715650372254 tw9773997749491377449 tw10999095107787530670 tw2042788180394128841 tw1957085458005866880 tw16817346456127287183 tw13915189262316548349 tw11273118858805808614 tw10199599178204542928 tw3689474142911133663 tw7226796816184969924 tw1735348392819328530 tw1602323041519543186 tw17674506244525720256 tw2385349473640961835 tw9424920754170591193 tw13085454631672063281 tw6853137264223030172 tw2830218540617679796 tw10475212744411021276 tw3634307124321245937 tw3629040092991913981 tw12504011477113514812 tw11177732229948313451 tw13036089968055736693 tw16839639285449210561 tw4419061130196844894 tw2208219992682502657 tw6123229509320408647 tw13834673930680654449 tw17406211567361683746 tw361609310328319020 tw10091920010105990987 tw14553069630320729902 tw11271499596111730820 tw16886802489939124240 tw343251606736947475 tw16838337859433809420 tw3955134988744619187 tw2071473234562811982 tw7807168199402191024 tw16468528683760576078 tw13210668577748729921 tw9765932766670770838 tw3898873196264873121 tw1664997009583252600 tw5203108736214391448 tw7059269825286711002 tw16545445962060151947 tw7280110085267965432 tw8773285922866673359 tw1219402344505765769 tw9535088181058592994 tw13777463296348110653 tw12011131652481231592 tw6024282728907144694 tw16455277430334650244 tw6360765454761152904 tw8206789840244648269 tw5829665220239252070 tw13946440096712482772 tw13376788846907044656 tw9783582158252845504 tw11852894312419803812 tw16207617024160433083 tw3107108129393083410 tw13360885302953609403 tw5109918670418955970 tw3248993572658209210 tw4833540077718908720 tw3397442591597986696 tw4566677082441660538 tw18287016381701837479 tw8070231472285104981 tw17951853294750516371 tw282485263549384651 tw6415630223655961489 tw14697981624480465596 tw18073942008786849401 tw17645168031852664744 tw3292845303390206613 tw9689370383730336963 tw12637971818375696728 tw1511423465361919442 tw5179641329686089792 tw7923763702576797257 tw8468198763460382874 tw7598662866881046538 tw13295034933668273531 tw12433554055551186212 tw12570176556267391082:True)
open PySem PySem.W PyProof.Rows
set_option maxRecDepth 100000 in
set_option maxHeartbeats 0 in
theorem PySem.Challenge.cw_tintroads_k28_whole_texts_holds : PySem.Challenge.rw_tintroads_k28_whole_texts.Holds := by
  w_on;o_law;k_head;(case hw=>w_witness2)
  k_fill
  refine TR.walk (l:=PySem.Challenge.rw_tintroads_k28_whole_texts) (tA:=[]) rfl rfl (fun w h Y=>PySem.W.km_in_of Y) (fun _ _ _ _ m=>nomatch m) ?F
  case F=>
    intro w mg fa h KX G hmg
    refine' TR.all_mk KX G hmg ?RN ?RG ?RB ?RD ?RM ?RS ?ly ?lH ?lF ?lC ?lq ?ll ?a_law ?l_law ?c_law ?k_law
    (case RN=>constructor <;> k_is)
    (case RG=>constructor <;> (refine' TR.gOf ?a;(case a=>k_is)))
    (case RB=>constructor <;> kernel_rfl)
    (case RD=>constructor <;> (refine' TR.AtD.of ?a ?b ?c ?d;(case a=>k_is);(case b=>k_is);(case c=>k_is);(case d=>k_is)))
    (case RM=>constructor <;> (refine' TR.AtM.of ?a ?b ?c ?d ?e ?f;(case a=>k_is);(case b=>k_is);(case c=>k_is);(case d=>k_is);(case e=>k_is);(case f=>k_is)))
    (case RS=>constructor <;> (refine' TR.gOfS ?a;(case a=>k_is)))
    (case ly=>k_is)
    (case lH=>k_is)
    (case lF=>k_is)
    (case lC=>k_is)
    (case lq=>k_is)
    (case ll=>first | rfl | k_is)
    (case a_law=>k_is)
    (case l_law=>k_is)
    (case c_law=>k_is)
    (case k_law=>k_is)
#print axioms PySem.Challenge.cw_tintroads_k28_whole_texts_holds
