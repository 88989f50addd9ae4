import PyProof.Rows.All
import Wide.All
import OpenK.AllK
import Wide.FinOn
import Lean
import PyProof.EqAt
import PyProof.EqKinds
import PyProof.TupleCall
import KE.KTryMore
import PyProof.ExcAttrAll.ValueError
import PyProof.NsDelKeeps
import KE.KDictOf
import KE.KPairComp
import KE.KSortKey
import KE.KLam
import KE.KRevSl
import PyProof.ListRange
import KE.KSortTup
import KE.KDictSum
import KE.KIntText
import PySem.Challenge.RW_tintroads_k22_whole_links
theorem Y.{u}{α:Sort u}{a:α}:a=a:=rfl
open Option renaming some->M
open PySem.W renaming Frag->KE,nsIn->Pm,fnOf->Pu,keepIn->PM,codeIn->PZ,findIn->P0,mg_of->P4,mg_none_of->Qa,emptyDict->Rf,isFn->RA,instObj->R0,kitAny->Sj,kitOne->Sk,cellsFrom_some->SW,kla_obj->Tf,subIn->Tq,plainGet->TC,callWith_K->T5,mroIn->T6,hasDictIn->Ui,specialIn->Uj,methodCall_KW->Uv,callWith_KW->UY,makesIn->UZ,plainGet_of->U0,takesIn->U1,CodeHd->Vv,lookIn->Vw,typeIn->Vx,methodObj->VM,plainOver->VN,KeysLit->Wr,OpenLaw->Ws,isClsIn->Wu,takerIn->Wv,kla_fn->W5,kitx_dict->XO,kitx_list->XQ,handedIn->Ya,InstAt->Yn,tabObj->Yo
open PySem renaming wpAny_bind->O2,wpAny_pure->O5,Value->O6,mainGlobals->O_,Shared->Pf,Addr->Po,wpAny->Pp,sizeLine->Pz,starEach->PN,Program->PU,model->PX,PyData->P5,wpAny_callSpecial?_slot->P_,wpAny_setField_rec->Qb,wpAny_field->Qd,wpAny_seqItems->Ql,wpAny_call_entry->Qn,World->Qq,bootBuiltins->Qt,wpAny_setState_of->Qz,bindArgs->QA,Around->QB,wpAny_holding->QE,wpAny_mono->QI,wpAny_newObj_type->QJ,wpAny_Call_Name_kw->QL,keywordEach->QM,FuncData->QR,sizeLine_eq->QU,Stmt->Q1,Heap->Q9,DictEntry->Re,foldedSetIterable->Rg,sysModules->Rh,wpAny_pyIter_list->Ri,compareOp->Rm,mem_of_lookup->Ru,wpAny_truthy_bool->Rx,Expr->Rz,codeAny_builtin->RC,wpAny_typeNameOfWhole_itemiter->RE,rawInt->RO,backToKw->RQ,wpAny_attempt->RS,wpAny_dictEntries->RX,codeAny->R5,assignEach->R9,wpAny_isInstance->R',codeAny_mono->Se,wpAny_pyIter_tuple->Sf,wpAny_standAt->Sg,Builtin->Si,wpAny_setField->Sn,wpAny_typeNameOf_itemiter->So,pyNext->SE,wpAny_passesOwn->SF,wpAny_rule->SG,wpAny_updateSeq->SH,intKind->SL,wpAny_onRaise->SM,IsPair->Td,builtinLookup_eq_fast->Tg,tupleKind->Th,wpAny_letGo->Ti,wpAny_specialOf->Tj,NameKind->Tl,SetTable->Tr,eval->Ts,backTo->Tu,firstArgMember->Tx,wpAny_askSetting->TD,wpAny_pyIter_zip->TF,wpAny_comprehension_free->TY,Comprehension->TZ,cellsFrom->T7,letOwnedTupleGo->T8,plainId_quiet->T9,wpAny_isOneOf_itemiter->Uc,IsItemIter->Uf,builtinsNs->Ul,sliceBounds->Uo,isSubtype_stop->Uq,wpAny_newTuple->Ur,Scope->Uw,codeAmong->Ux,wpAny_loadName_local->UC,wpAny_updateSeq_pair->UD,binaryOp->UJ,wpAny_call->UL,IsZip->UP,pickOrder->U7,typeLookup_type->U8,wpAny_execs_nil->U9,Paired->Vi,compEnvC->Vm,Keyword->Vq,newFunctionEnv->Vy,wpAny_binaryOp_repeat_ref->Vz,wpAny_fieldsOf->VA,wpAny_letOwnedTupleGo_zip->VB,call_meets->VS,swapsWith->VU,updateSeq->VV,wpAny_pyIter_slot->VW,attributeBase->V3,behindInMarks->V4,wpAny_pyNext_list_item->Wf,codeAny_of_tree->Wy,pushCells_keeps->Wz,size_of_entries->WC,standAt->WD,wpAny_dictEpoch->WF,wpAny_typeOf->WH,isInstance->WJ,setEntries->WL,typeIs_int->WM,typeLookup->WN,wpAny_Name->WP,wpAny_runValue->W6,BindsTo->W',setNext->Xg,wpAny_of_eq->Xh,IsItemIterOut->Xm,TriplesOk->Xt,assignInOrder->Xu,pyIter->Xv,rangeSize_one->Xw,relayAll->Xx,seqItems?->Xy,wpAny_handled->XA,wpAny_newList->XB,valueAt->XV,Within->X6,seqSlot_of->Yb,argsOk->Yj,callerA->Yk,getItem->Yl,call->Yr
open PySem.Heap renaming get?_push_of_some->O3,lt_size->O7,get?_push_size->O8,get?_update_self->P7,size_push->P',SameBut->Qg,get?_update_other->Q6,ExtBut->UN,IsList->UO,IsTuple->Ve,get?_none_of_le->WV
open Option.some renaming inj->O4,injEq->XN
open List renaming mem_singleton->O9,length_map->Pb,mem_cons_of_mem->Pj,getElem?_eq_some_iff->Pk,mem_cons->Pq,getElem?_map->Ps,getElem?_eq_getElem->Pw,replicate->Px,mem_append_right->Py,size_toArray->PD,map_cons->PF,mem_of_getElem?->PL,mem_cons_self->PQ,not_mem_nil->PR,length_append->PV,length_take->P1,take_of_length_le->P9,mem_append->Qe,getElem?_zip_eq_some->Qr,length_cons->Qw,mem_map->Qy,getLast?_eq_getElem?->QC,lookup_cons->QF,map_append->QN,getElem_of_mem->QX,nodup_cons->Q_,all_eq_true->Rb,pairwise_cons->Rl,getElem?_append_right->Ro,range->Rq,replicate_succ->Rs,getElem?_append_left->Ry,getElem_mem->RK,mem_append_left->RL,mem_range->RV,find?_cons->RY,length_drop->R8,map_nil->Sa,mem_of_getLast?->Sq,append_assoc->Sz,forIn_cons->SA,of_mem_zip->SB,take_length->SQ,forIn_nil->SU,mem_filterMap->SZ,flatten_cons->Tk,pairwise_iff_getElem->Tw,filterMap_cons->TK,map_map->TU,zipWith->TV,getElem?_replicate->T4,zipWith_cons_cons->Ua,lookup->Ug,zipWith_nil_left->Ut,getElem?_zipWith_eq_some->Uy,zipIdx_cons->Uz,all_cons->UH,sum_cons->UI,append_nil->UQ,flatMap_append->UR,length_nil->US,length_zip->UT,range_succ->UU,zipIdx_nil->UV,getD_eq_getElem?_getD->Va,length_eraseIdx_of_lt->Vb,getElem?_take->Vf,map_replicate->Vg,getElem?_eq_none_iff->Vs,nodup_nil->Vt,foldl_append->VH,getElem_take->VI,take_sublist->VJ,cons_append->V5,mem_flatMap->V6,getElem?_set_self->Wb,pairwise_lt_range->Wc,eq_replicate_iff->Wm,length_replicate->Wn,length_set->Wo,sum_nil->Wp,getElem?_set_ne->WY,pairwise_append->WZ,length->Xd,length_pos_iff->Xe,any_cons->Xn,find?_toArray->Xo,drop_sublist->XF,ext_getElem?->XG,getElem_drop->XH,length_range->XI,nodup_append->XJ,all_nil->X1,Nodup->Yp,foldl->Yq
open Nat renaming le_refl->Pe,lt_of_lt_of_le->Pg,ne_of_lt->Pr,le_trans->PP,ne_of_gt->P8,lt_irrefl->Qk,zero_le->Qm,le_of_lt->QD,not_lt->Q7,lt_succ_self->Rc,zero_add->RW,pow_le_pow_right->Sr,le_add_right->SR,lt_trans->Te,le_of_succ_le->Tn,lt_succ_of_lt->To,lt_two_pow_self->TL,succ_mul->TW,le_succ->UW,pow_le_pow_left->UX,lt_of_le_of_lt->Vh,mul_le_mul->Vu,le_mul_of_pos_right->V0,eq_of_beq_eq_true->Wq,mul_le_mul_right->W0,add_zero->X2,mul_comm->X3,pow_succ->X4,beq->Yg
open Option renaming map_eq_some_iff->PC,isSome_iff_exists->RH,isSome_some->Xp,getD_none->X_,map_some->Yh
open PySem.Builtin.SmallTypes renaming ownedTupleIsFree->PH,nextOf->PJ,ownedTupleHandOut->Q8
open Rat renaming intCast_mul->PY,intCast_sub->Qj,le_of_mul_le_mul_right->Tt,den_intCast->U2,intCast_add->U3,mul_lt_mul_of_pos_right->U4,num_intCast->U5,div_mul_cancel->Vj,intCast_nonneg->Vk,intCast_le_intCast->Wd,le_trans->Ww,div_def->Xf,le_of_lt->X7
open PySem.Value renaming ref->P2,none->QT,type->Q0,isStrOf->Sd,int->SD,bool->UK,isInt_shape->VP,str->VQ,float->Yi
open PySem.Heap.SameBut renaming update->P6,refl->Ue
open Int renaming toNat_natCast->Qc,mul_ne_zero->Qi,fdiv_eq_ediv_of_nonneg->Qo,gcd->Q2,eq_ofNat_of_zero_le->Rk,emod_lt_of_pos->RF,mul_nonneg->RU,mul_comm->R_,emod_nonneg->Sw,mul_fdiv_cancel_left->Sx,mul_assoc->SJ,toNat->SO,gcd_pos_of_ne_zero_right->SY,zero_add->TQ,eq_of_mul_eq_mul_left->Vo,natAbs_mul->Vp,mul_left_comm->VF,ediv_nonneg->Wj,le_of_lt->Wk,natAbs_dvd_natAbs->Wl,le_refl->Xc,gcd_zero_right->Xl,gcd_comm->XZ,zero_sub->X0,mul_neg->Yf
open PySem.PassesOwn renaming never->Qp
open PySem.SetTable renaming below->Qs,grown->SV,insertAt->VO,advance->Yc
open Bool renaming and_eq_true->Qu,false_eq_true->Qv,false_ne_true->QK,beq_eq_decide_eq->S',false_and->Tv,and_true->UE,true_and->VX,and_false->W2,or_false->Xi
open PyProof.Rows renaming callWith_type1->Qx,IntsAre->Sy,seqObj->TX,callWith_builtin1->Uu,assignInOrder_cons->Vl,envOfC->VT,subscriptTail_builtinR->We,AllBare->W7,subscriptTail->Xz,Subscript_->XS,sortedHeap->XU
open PySem.Builtin.List renaming listExtendWith->QG,listSameRef->Su,listLengthHint->S_,listTooLong->TN,listFitsIndex->U',listItems->V9,listTouch->V'
open PySem.Obj renaming mapSeq->QO,data_mapFields->QS,isFreed_of_fields->Sb,cls_mapFields->Uh,data_mapDictKeys->W1,putSet->XM
open Array renaming getElem_toList->QP,length_toList->QV,getElem?_toList->S8,forIn_toList->Vc,toArray_toList->WQ,toList_append->W9,getD->XC,toList_push->XD
open PySem.Str renaming ofString->QQ
open PySem.F renaming slot_zip_next->QW,slot_dict_itemiterator_next->Ra,plainAttrs_list->RP,slot_list_append->RT,slot_tuple_iterator_next->R1,args_zip_next_1->Sv,type_list_append->SC,plain_extend_loop->SI,entry_zip_next->SN,called_set->Ta,slot_int_rmul->T2,slot_tuple_mul->Ub,args_dict_itemiterator_next_1->Ud,entry_dict_itemiterator_next->Us,args_tuple_iterator_next_1->UG,entry_tuple_iterator_next->UM,plain_list_iadd->VE,slot_list_insert->VL,slot_dict_items->V1,slot_tuple_rmul->V2,slot_dict_items_iter->Wa,args_int_rmul_2->WU,entry_int_rmul->Xa,slot_int_index->Xb,fills_int_mul->Xk
open PySem.NameKind renaming cell->QY,free->QZ
open PySem.Around renaming under_plainId->Rn,under->XW
open False renaming elim->Rp
open PySem.PyData renaming int->Rt,eqv->RI,eqvAll->Sc,bool->TM
open Ne renaming symm->RZ
open PySem.Shared renaming heap->Sl,TypeIs->Xs
open PySem.Builtin.Dict_items renaming ownsTuple->SX,ownedTupleFields->TH,ownedTupleIsFree->TJ,pairFromOwner->T_,newIterator->XX,dictOf->Ym
open ForInStep renaming yield->Tc
open PySem.Heap.IsList renaming push->Tz
open PyProof.Rows.F renaming plain_set_update_loop->T1,entry_set_update_loop->VZ
open PySem.SetTable.below renaming go->Uk
open Sum renaming inl->UA,inr->XT
open PySem.Builtin.Dict renaming entriesForEmpty->UF,updateFrom->VY,mergeDict->V8,showsAll->Wg,quietEq->WR
open PySem.Calls renaming Name_function_global->U_,spliced_cons->Vd,call_function_entry->Vn,spliced_nil->VD,callWith_builtin->V_
open List.Perm renaming refl->Vr
open PySem.Builtin.Frozenset renaming sizeOf->VC
open List.Pairwise renaming nil->VG
open PySem.SeqAt renaming shaped->Wx
open Or renaming inr->W3,inl->X5
open PySem.Builtin.Int renaming intBits->W_
open PySem.Code renaming quiet_builtin->Xj,isFrame->XY
open PySem.Paired renaming length->Xq
open PySem.ScopeKind renaming function->Xr
open PySem.Heap.IsTuple renaming push->XE
open PySem.SetTable.probe renaming go->XR
open PySem.pickOrder renaming go->X8
open PySem.IntMulOk renaming of_bits->X9,of_left->X'
open PySem.Sem renaming load->Yd
open And renaming intro->Ye
abbrev Ph:=@decide_eq_true
abbrev P3:=@if_neg
abbrev Qf:=@decide_eq_false
abbrev Qh:=@if_pos
abbrev QH:=@of_decide_eq_true
abbrev Rj:=@or_false
abbrev Rv:=@beq_eq_false_iff_ne
abbrev RJ:=@beq_iff_eq
abbrev Ss:=@if_false
abbrev SK:=@if_true
abbrev S0:=@congrArg
abbrev S5:=@of_decide_eq_false
abbrev Um:=@decide_eq_true_eq
abbrev UB:=@beq_self_eq_true
abbrev U6:=@beq_false_of_ne
abbrev VR:=@bne_self_eq_false
abbrev V7:=@decide_eq_decide
set_option autoImplicit true
set_option relaxedAutoImplicit true
set_option Elab.async false
set_option linter.all false
set_option maxRecDepth 100000
namespace L2
open PySem PySem.Spec PyProof.Rows
abbrev ij:=Sum Int Str
def wO:ij->O6->Bool
 |.inl k,v=>Value.isInt k v
 |.inr x,v=>Sd x v
def NY (w:Qq):ij->Int
 |.inl k=>hashInt k
 |.inr x=>hashStr w x
theorem da:∀ {k:ij}{v:O6},wO k v=true->(∃ i t,k=UA i/\v=SD i t)\/(∃ x t,k=XT x/\v=VQ x t)
 |.inl i,v,h=>by
  obtain⟨t,e⟩:=VP (k:=i) (v:=v) h;exact .inl ⟨i,t,Y,e⟩
 |.inr x,v,h=>by
  obtain⟨t,e⟩:=Value.isStrOf_shape (x:=x) (v:=v) h;exact .inr ⟨x,t,Y,e⟩
theorem Ev (i:Int)(t:Tok):wO (.inl i) (.int i t)=true:=by simp[wO,Value.isInt]
theorem Eb (x:Str)(t:Tok):wO (.inr x) (.str x t)=true:=by simp[wO,Sd]
theorem Ll (a b:Int):decide ((UA a:ij)=UA b)=(a==b):=by
 by_cases e:a=b
 ·subst e;simp
 ·have h:¬ (UA a:ij)=UA b:=λq=>e (Sum.inl.inj q)
  rw[Qf h];exact(Rv.mpr e).symm
theorem KY (a b:Str):decide ((XT a:ij)=XT b)=decide (a=b):=by
 by_cases e:a=b
 ·subst e;simp
 ·have h:¬ (XT a:ij)=XT b:=λq=>e (Sum.inr.inj q)
  rw[Qf h,Qf e]
theorem K0 (a:Int)(b:Str):decide ((UA a:ij)=XT b)=false:=Qf (λq=>nomatch q)
theorem Kr (a:Str)(b:Int):decide ((XT a:ij)=UA b)=false:=Qf (λq=>nomatch q)
def cq (prog:PU)(w:Qq):PySem.KeyKind prog w ij where
 is:=wO
 hash:=NY w
 inj:=λv a b ha hb=>by
  rcases da ha with ⟨i,t,rfl,rfl⟩|⟨x,t,rfl,rfl⟩
  ·rcases da hb with ⟨j,u,rfl,e⟩|⟨y,u,rfl,e⟩
   ·injection e with e1 _;rw[e1]
   ·exact nomatch e
  ·rcases da hb with ⟨j,u,rfl,e⟩|⟨y,u,rfl,e⟩
   ·exact nomatch e
   ·injection e with e1 _;rw[e1]
 byValue:=λk v h=>by
  rcases da h with ⟨i,t,rfl,rfl⟩|⟨x,t,rfl,rfl⟩<;>rfl
 pyHash:=λhv h=>by
  rcases da hv with ⟨i,t,rfl,rfl⟩|⟨x,t,rfl,rfl⟩
  ·exact wpAny_pyHash_int h
  ·exact wpAny_pyHash_str h
 eqBool:=λhu hv h=>by
  rcases da hu with ⟨i,t,rfl,rfl⟩|⟨x,t,rfl,rfl⟩
  ·rcases da hv with ⟨j,u,rfl,rfl⟩|⟨y,u,rfl,rfl⟩
   ·rw[Ll] at h;exact wpAny_eqBool_int h
   ·rw[K0] at h;exact SeqAt.EqAt.int_str i t y u _ _ _ _ h
  ·rcases da hv with ⟨j,u,rfl,rfl⟩|⟨y,u,rfl,rfl⟩
   ·rw[Kr] at h;exact SeqAt.EqAt.str_int x t j u _ _ _ _ h
   ·rw[KY] at h;exact wpAny_eqBool_str h
 «strs»:=λk x t v h=>by
  rcases da h with ⟨i,u,rfl,e⟩|⟨y,u,rfl,e⟩
  ·exact nomatch e
  ·injection e with e1 _
   subst e1;cases v<;>rfl
theorem Af (prog:PU)(w:Qq)(i:Int)(t:Tok):(cq prog w).is (.inl i) (.int i t)=true:=Ev i t
theorem Bs (prog:PU)(w:Qq)(x:Str)(t:Tok):(cq prog w).is (.inr x) (.str x t)=true:=Eb x t
inductive V where
 |non|bl (b:Bool)|int (i:Int)|str (x:Str)|byt (b:Array UInt8)|flt (b:UInt64)|ref (a:Po)|ty (n:String)
 deriving DecidableEq
def bO:V->O6->Prop
 |.non,u=>u=QT
 |.bl b,u=>u=UK b
 |.int i,u=>∃ t,u=SD i t
 |.str x,u=>∃ t,u=VQ x t
 |.byt b,u=>∃ t,u=Value.bytes b t
 |.flt b,u=>∃ t,u=Yi b t
 |.ref a,u=>u=P2 a
 |.ty n,u=>u=Q0 n
abbrev aU:List V->List O6->Prop:=Vi bO
theorem aU.length (r:aU xs us):xs.length=us.length:=Xq r
theorem aU.get:∀ {xs:List V}{us:List O6}{i:Nat}{x:V},aU xs us->xs[i]?=M x->∃ u,us[i]?=M u/\bO x u
 |_,_,_,_,.nil,e=>by simp at e
 |_,_,0,_,.cons r _,e=>by simp at e;subst e;exact⟨_,Y,r⟩
 |_,_,i+1,x,.cons _ t,e=>by
  obtain⟨u,h1,h2⟩:=aU.get (i:=i) (x:=x) t (by simpa using e);exact⟨u,by simpa using h1,h2⟩
theorem aU.set (r:bO x u):∀ {xs:List V}{us:List O6} (i:Nat),aU xs us->aU (xs.set i x) (us.set i u)
 |_,_,_,.nil=>.nil
 |_,_,0,.cons _ t=>.cons r t
 |_,_,i+1,.cons q t=>.cons q (aU.set r i t)
theorem aU.append:∀ {xs ys:List V}{us ws:List O6},aU xs us->aU ys ws->aU (xs++ys) (us++ws)
 |_,_,_,_,.nil,s=>s
 |_,_,_,_,.cons r t,s=>.cons r (aU.append t s)
theorem aU.take:∀ {xs:List V}{us:List O6} (n:Nat),aU xs us->aU (xs.take n) (us.take n)
 |_,_,0,_=>.nil
 |_,_,_+1,.nil=>.nil
 |_,_,n+1,.cons r t=>.cons r (aU.take n t)
theorem aU.drop:∀ {xs:List V}{us:List O6} (n:Nat),aU xs us->aU (xs.drop n) (us.drop n)
 |_,_,0,r=>r
 |_,_,_+1,.nil=>.nil
 |_,_,n+1,.cons _ t=>aU.drop n t
def nJ:Option V->Option O6->Prop
 |some v,M u=>bO v u
 |none,none=>True
 |_,_=>False
def KV {κ:Type}:List (κ×V)->List (κ×O6)->Prop:=Vi λ(p:κ×V) (q:κ×O6)=>p.1=q.1/\bO p.2 q.2
def kV:ij->V
 |.inl i=>.int i
 |.inr x=>.str x
inductive HO where
  |lst (xs:List V)
  |tup (xs:List V)
  |dK (kvs:List (ij×V))|dT (kvs:List (List ij×V))
  |set (S:Int->Bool) (n:Nat)
  |ins (C dx:Po) (fs:List (Str×V))
  |own (x:Po)
  |xd (fs:List (Str×V))
  |met (f x:Po)
  |rng (lo hi:Int)
  |frz (o:Obj) (u:HO)
  |tbl (ps:Array O6)
  |ext (φ:Q9->Prop)
abbrev Hp:=Po->Option HO
def upd (H:Hp)(a:Po)(o:HO):Hp:=λb=>if b=a then M o else H b
theorem ag:upd H a o a=M o:=by unfold upd;rw[Qh rfl]
theorem au (h:b≠a):upd H a o b=H b:=by unfold upd;rw[P3 h]
theorem JN:upd (upd H a o) a u=upd H a u:=by
 funext b;unfold upd;split<;>rfl
theorem JV {H:Hp}{a b:Po}{o u:HO}(h:H a=M o)(h':H b=M u)(d:o≠u):a≠b:=by
 intro e;subst e;rw[h] at h';exact d (O4 h')
theorem aS {H:Hp}{a b:Po}{o:HO}(h:H a=M o)(h':H b=none):a≠b:=by
 intro e;subst e;rw[h] at h';cases h'
section
variable (P:PU)(w:Qq)
def ce (H:Hp)(h:Q9)(a:Po):HO->Prop
 |.lst xs=>xs.length<=Pz/\∃ (its:List O6) (n:Nat),aU xs its/\h.get? a=M { cls:=.type "list",data:=.seq its.toArray n }
 |.tup xs=>xs.length<=Pz/\∃ its:List O6,aU xs its/\IsTup h a its.toArray
 |.dK kvs=>kvs.length<=Pz/\(a==Rh)=false/\∃ vs,KV kvs vs/\h.DictOf (cq P w) a vs
 | .dT kvs=>kvs.length <= Pz/\(a == Rh)=false/\∃ xs:List (List ij × Po × O6),
   Vi (λ(p:List ij×V) (q:List ij×Po×O6)=>p.1=q.1/\H q.2.1=M (.tup (p.1.map kV))/\bO p.2 q.2.2) kvs xs /\
   ∃ o es ep,h.get? a=M o/\o.ExactDict/\o.data=.dict es ep/\es.toList=xs.map (entryOfKey (Th (cq P w)))/\(xs.map (·.1)).Nodup
 |.set S n=>h.SetOf (SL P w) a S n
 | .ins C dx fs=>H dx=M (.own a)/\fs.length <= 1000/\dx ≠ a/\h.get? a=M (R0 C dx) /\
   ∃ mA,h.Ns1 dx mA/\(∀ f,nJ (fs.lookup f) (mA f))/\X6 mA (fs.map (·.1))
 |.own _=>∃ o,h.get? a=M o
 |.xd fs=>∃ mA,h.Ns1 a mA/\∀ f,nJ (fs.lookup f) (mA f)
 |.rng lo hi=>∃ t u v,h.get? a=M { cls:=.type "range",data:=.fields #[.int lo t,.int hi u,.int 1 v] }
 |.frz o u=>h.get? a=M o/\ce H h a u
 |.tbl qs=>∃ ps:Array O6,h.get? a=M { cls:=.none,data:=.fields ps }/\Xt ps.toList/\∃ (q:Str) (t:Nat),qs[0]?=M (.str q t)/\∀ pos cv,Ux pos ps.toList=M cv->∃ c o vs t',cv=.ref c/\H c=M (.own a)/\h.get? c=M o/\o.data=.fields vs/\vs[1]?=M (.str q t')
 |.met f x=>h.get? a=M (VM (.ref f) (.ref x))
 |.ext φ=>φ h/\(∃ o,h.get? a=M o)/\∀ h1 h2:Q9,φ h1->(∀ o,h1.get? a=M o->h2.get? a=M o)->φ h2
def pE (H:Hp)(h:Q9):Prop:=∀ a o,H a=M o->ce P w H h a o
end
section
variable {P:PU}{w:Qq}{H H':Hp}{h h':Q9}{a:Po}{o:HO}
theorem ce.lt (x:ce P w H h a o):a<h.objs.size:=by
 cases o with
 |lst xs=>obtain⟨_,_,_,_,e⟩:=x;exact O7 e
 |tup xs=>obtain⟨_,_,_,p⟩:=x;exact p.lt
 |dK kvs=>obtain⟨_,_,_,_,o,_,_,e,_⟩:=x;exact O7 e
 |dT kvs=>obtain⟨_,_,_,_,o,_,_,e,_⟩:=x;exact O7 e
 |set S n=>obtain⟨o,_,_,_,e,_⟩:=x;exact O7 e
 |ins C dx fs=>obtain⟨_,_,_,e,_⟩:=x;exact O7 e
 |own y=>obtain⟨_,e⟩:=x;exact O7 e
 |xd fs=>obtain⟨_,⟨_,_,_,e,_⟩,_⟩:=x;exact O7 e
 |rng lo hi=>obtain⟨_,_,_,e⟩:=x;exact O7 e
 |frz ob u=>obtain⟨e,_⟩:=x;exact O7 e
 |tbl qs=>obtain⟨_,e,_⟩:=x;exact O7 e
 |met f y=>exact O7 (show h.get? a=M _ from x)
 |ext φ=>obtain⟨_,⟨_,e⟩,_⟩:=x;exact O7 e
theorem Paired.mapP:∀ {l₁:List α}{l₂:List β},Vi F l₁ l₂->(∀ a b,F a b->G a b)->Vi G l₁ l₂
 |_,_,.nil,_=>.nil
 |_,_,.cons r t,f=>.cons (f _ _ r) (Paired.mapP t f)
theorem ce.stay (x:ce P w H h a o) (k:∀ b u,(b=a\/H b=M (.own a))->h.get? b=M u->h'.get? b=M u)
  (ho:∀ b,H b=M (.own a)->H' b=M (.own a))(ht:∀ b xs,H b=M (.tup xs)->H' b=M (.tup xs)):ce P w H' h' a o:=by
 induction o with
 |lst xs=>obtain⟨z,its,n,r,e⟩:=x;exact⟨z,its,n,r,k _ _ (.inl rfl) e⟩
 |tup xs=>obtain⟨z,its,r,ob,e,c⟩:=x;exact⟨z,its,r,ob,k _ _ (.inl rfl) e,c⟩
 |dK kvs=>obtain⟨z,y,vs,r,ob,es,ep,e,c⟩:=x;exact⟨z,y,vs,r,ob,es,ep,k _ _ (.inl rfl) e,c⟩
 |dT kvs=>
  obtain⟨z,y,xs,r,ob,es,ep,e,c⟩:=x;exact⟨z,y,xs,Paired.mapP r λp q z=>⟨z.1,ht _ _ z.2.1,z.2.2⟩,ob,es,ep,k _ _ (.inl rfl) e,c⟩
 |set S n=>obtain⟨ob,es,ep,t,e,c⟩:=x;exact⟨ob,es,ep,t,k _ _ (.inl rfl) e,c⟩
 |ins C dx fs=>
  obtain⟨d,z,ne,e,mA,⟨od,es,ep,e2,c⟩,r⟩:=x;exact⟨ho _ d,z,ne,k _ _ (.inl rfl) e,mA,⟨od,es,ep,k _ _ (.inr d) e2,c⟩,r⟩
 |own y=>obtain⟨ob,e⟩:=x;exact⟨ob,k _ _ (.inl rfl) e⟩
 |xd fs=>obtain⟨mA,⟨od,es,ep,e,c⟩,r⟩:=x;exact⟨mA,⟨od,es,ep,k _ _ (.inl rfl) e,c⟩,r⟩
 |rng lo hi=>obtain⟨t,u,v,e⟩:=x;exact⟨t,u,v,k _ _ (.inl rfl) e⟩
 |frz ob u ih=>obtain⟨e,q⟩:=x;exact⟨k _ _ (.inl rfl) e,ih q⟩
 |tbl qs=>
  obtain⟨ps,e,tr,q,tq,e0,f⟩:=x;refine⟨ps,k _ _ (.inl rfl) e,tr,q,tq,e0,λpos cv z=>?_⟩;obtain⟨c,oc,vs,tc,z1,z2,z3,z4⟩:=f pos cv z;exact⟨c,oc,vs,tc,z1,ho _ z2,k _ _ (.inr z2) z3,z4⟩
 |met f y=>
  have e:h.get? a=M (VM (.ref f) (.ref y)):=x;show h'.get? a=M (VM (.ref f) (.ref y));exact k a _ (.inl rfl) e
 |ext φ=>obtain⟨p,⟨o,e⟩,st⟩:=x;exact⟨st _ _ p λo q=>k _ _ (.inl rfl) q,⟨o,k _ _ (.inl rfl) e⟩,st⟩
theorem pE.lt (x:pE P w H h)(e:H a=M o):a<h.objs.size:=(x a o e).lt
theorem pE.fresh (x:pE P w H h)(e:h.objs.size<=a):H a=none:=by
 cases q:H a with
 |none=>rfl
 |some u=>exact absurd (Pg (x.lt q) e) (Qk _)
theorem pE.kept (x:pE P w H h)(k:∀ b u,h.get? b=M u->h'.get? b=M u):pE P w H h':=λa o e=>
 (x a o e).stay (λb u _ q=>k b u q) (λ_ q=>q) λ_ _ q=>q
theorem pE.laid (x:pE P w H h)(k:∀ b u,h.get? b=M u->h'.get? b=M u)(hp:h.objs.size<=a)(new:ce P w (upd H a o) h' a o):pE P w (upd H a o) h':=λb u e=>by
 have hn:=x.fresh hp
 by_cases hb:b=a
 ·subst hb;rw[ag] at e;cases e;exact new
 ·rw[au hb] at e;exact(x b u e).stay (λc v _ q=>k c v q) (λc q=>by rw[au (aS q hn)];exact q) λc xs q=>by rw[au (aS q hn)];exact q
end
def Rd (H:Hp)(a:Po)(u:HO):Prop:=H a=M u\/∃ o,H a=M (.frz o u)
theorem Rd.ok (r:Rd H a u)(x:pE P w H h):ce P w H h a u:=by
 rcases r with r|⟨o,r⟩
 ·exact x a u r
 ·obtain⟨_,q⟩:=x a _ r;exact q
def Nn:Option HO->Prop
 |some (.lst _)=>True
 |some (.dK _)=>True
 |some (.dT _)=>True
 |some (.set _ _)=>True
 |some (.ins _ _ _)=>True
 |some (.ext _)=>True
 |_=>False
section
variable {P:PU}{w:Qq}{H:Hp}{h h':Q9}{x e:Po}{o':HO}
theorem pE.write (ok:pE P w H h) (mu:Nn (H x)) (he:e=x\/H e=M (.own x)) (k:∀ b u,b ≠ e->h.get? b=M u->h'.get? b=M u) (heo:∃ u,h'.get? e=M u)
  (new:ce P w (upd H x o') h' x o'):pE P w (upd H x o') h':=λb u q=>by
 have nown:∀ c y,H c=M (.own y)->c≠x:=λc y r z=>by subst z;rw[r] at mu;exact mu
 have ntup:∀ c xs,H c=M (.tup xs)->c≠x:=λc xs r z=>by subst z;rw[r] at mu;exact mu
 by_cases hb:b=x
 ·subst hb;rw[ag] at q;cases q;exact new
 ·rw[au hb] at q
  by_cases hbe:b=e
  ·have q':H b=M (.own x):=by
    rcases he with z|z
    ·exact absurd (hbe.trans z) hb
    ·rw[hbe];exact z
   rw[q] at q';cases q';obtain⟨v,hv⟩:=heo;exact⟨v,by rw[hbe];exact hv⟩
  ·refine(ok b u q).stay (λc v hc r=>k c v ?_ r) (λc r=>by rw[au (nown c b r)];exact r) λc xs r=>by rw[au (ntup c xs r)];exact r
   rcases hc with rfl|hc
   ·exact hbe
   ·rintro rfl;rcases he with z|z
    ·exact nown c b hc z
    ·rw[hc] at z;cases z;exact hb rfl
end
structure Un (fs ex:List Po)(H H':Hp)(h h':Q9):Prop where
 keep:∀ b o,h.get? b=M o->H b=none->b∉fs->b∉ex->h'.get? b=M o
 slot:∀ b o,h.get? b=M o->H b=none->b∈fs->b∉ex->∃ sl,h'.get? b=M { o with slots:=sl }
 free:∀ b o,h.get? b=M o->H b=none->b∉ex->H' b=none
 there:∀ b o,h.get? b=M o->b∉ex->∃ o',h'.get? b=M o'
 tups:∀ b xs,H b=M (.tup xs)->H' b=M (.tup xs)
 frzs:∀ b o u,H b=M (.frz o u)->H' b=M (.frz o u)
 tbls:∀ b ps,H b=M (.tbl ps)->∃ more,H' b=M (.tbl (ps++more))
section
variable {fs fs' ex ex':List Po}{H H1 H2:Hp}{h h1 h2 h':Q9}{a x e:Po}{o:HO}
theorem Un.any (u:Un fs ex H H1 h h1)(q:h.get? b=M ob)(n:H b=none)(hx:b∉ex):∃ sl,h1.get? b=M { ob with slots:=sl }:=by
 by_cases hb:b∈fs
 ·exact u.slot b ob q n hb hx
 ·exact⟨ob.slots,u.keep b ob q n hb hx⟩
theorem Un.kept (k:∀ b u,h.get? b=M u->h'.get? b=M u):Un fs ex H H h h':=
 ⟨λb ob q _ _ _=>k b ob q,λb ob q _ _ _=>⟨ob.slots,k b ob q⟩,λ_ _ _ n _=>n,λb ob q _=>⟨ob,k b ob q⟩,λ_ _ q=>q,λ_ _ _ q=>q,λ_ ps q=>⟨#[],by rw[q];simp⟩⟩
theorem Un.refl:Un fs ex H H h h:=Un.kept λ_ _ q=>q
theorem Un.laid (k:∀ b u,h.get? b=M u->h'.get? b=M u)(hp:h.objs.size<=a)(hn:H a=none):Un fs ex H (upd H a o) h h' where
 keep:=λb u q _ _ _=>k b u q
 slot:=λb u q _ _ _=>⟨u.slots,k b u q⟩
 free:=λb u q n _=>by rw[au (Pr (Pg (O7 q) hp))];exact n
 there:=λb u q _=>⟨u,k b u q⟩
 tups:=λb xs q=>by rw[au (aS q hn)];exact q
 frzs:=λb u xs q=>by rw[au (aS q hn)];exact q
 tbls:=λb ps q=>⟨#[],by rw[au (aS q hn),q];simp⟩
theorem Un.write (mu:Nn (H x))(he:e=x\/H e=M (.own x))(k:∀ b u,b≠e->h.get? b=M u->h'.get? b=M u)(heo:∃ u,h'.get? e=M u):Un fs ex H (upd H x o) h h':=by
 have hx:∀ b,H b=none->b≠x:=λb n z=>by subst z;rw[n] at mu;exact mu
 have hb:∀ b,H b=none->b≠e:=λb n z=>by
  subst z;rcases he with r|r
  ·exact hx b n r
  ·rw[n] at r;cases r
 have hm:∀ b u,H b=M u->¬ Nn (M u)->b≠x:=λb u q nm z=>by subst z;rw[q] at mu;exact nm mu
 refine⟨λb u q n _ _=>k b u (hb b n) q,λb u q n _ _=>⟨u.slots,k b u (hb b n) q⟩,λb u q n _=>by rw[au (hx b n)];exact n,λb u q _=>?_,
  λb xs q=>by rw[au (hm b _ q λz=>z)];exact q,λb u xs q=>by rw[au (hm b _ q λz=>z)];exact q,λb ps q=>⟨#[],by rw[au (hm b _ q λz=>z),q];simp⟩⟩
 by_cases hbe:b=e
 ·subst hbe;exact heo
 ·exact⟨u,k b u hbe q⟩
end
def NE (h:Q9)(H:Hp):List Po:=(Rq h.objs.size).filter λa=>(H a).isSome
def At (h:Q9)(H:Hp):Q9:=PySem.W.hideAll h (NE h H)
theorem EA (h:Q9)(H:Hp):(At h H).objs.size=h.objs.size:=PySem.W.hideAll_size _ _
theorem uN (e:h.get? b=M o)(n:H b=none):(At h H).get? b=M o:=
 PySem.W.hideAll_get _ e λhm=>by
  have q:(H b).isSome=true:=(List.mem_filter.mp hm).2;rw[n] at q;simp at q
theorem Jg (e:(At h H).get? b=M o):h.get? b=M o/\H b=none:=by
 have e':h.get? b=M o:=PySem.W.of_hideAll (NE h H) e;refine⟨e',?_⟩;cases q:H b with
 |none=>rfl
 |some x=>
  have hm:b∈NE h H:=List.mem_filter.mpr ⟨RV.mpr (O7 e'),by simp[q]⟩;have z:(At h H).get? b=none:=PySem.W.hideAll_none (NE h H) hm;rw[z] at e;cases e
def mQ (g h:Q9)(L:Po):List (Po×Obj):=(Rq h.objs.size).filterMap λa=>if a=L\/(g.get? a).isSome=true then none else(h.get? a).map λo=>(a,o)
theorem A1 (h1:a≠L)(h2:g.get? a=none)(h3:h.get? a=M o):(a,o)∈mQ g h L:=
 SZ.mpr ⟨a,RV.mpr (O7 h3),by simp[h1,h2,h3]⟩
theorem ug (hp:p∈mQ g h L):p.1≠L/\g.get? p.1=none/\h.get? p.1=M p.2:=by
 obtain⟨b,_,e⟩:=SZ.mp hp
 split at e
 ·cases e
 ·rename_i hn
  cases q:h.get? b with
  |none=>rw[q] at e;simp at e
  |some u=>
   rw[q] at e;simp only[Yh,XN] at e;subst e;refine⟨λz=>hn (.inl z),?_,q⟩;show g.get? b=none;cases r:g.get? b with
   |none=>rfl
   |some v=>exact(hn (.inr (by simp[r]))).elim
def gZ (g h:Q9)(L d:Po):List (Po×Obj):=(mQ g h L).filter λp=>decide (p.1≠d)
theorem GV:News g L h (mQ g h L):=λp hp=>let ⟨a,b,c⟩:=ug hp;⟨c,a,b⟩
structure Mod (K:KE)(mg:Str->Option O6)(base:Q9):Prop where
 kin:K.In base
 glob:base.Ns O_ mg
 blt:∃ mb,base.Ns Ul mb/\∀ x:Str,x≠"__name__"->mb x=Qt x
 nolimit:base.NoLimit
 bm:∃ bm o,mg "__builtins__"=M (.ref bm)/\bm≠Ul/\base.get? bm=M o/\o.cls=.type "module"/\o.dict=M Ul/\o.data=.plain
structure Cx where
 prog:PU
 w:Qq
 K:KE
 mg:Str->Option O6
 base:Q9
 A:QB
 N:List Str
 s₀:Pf
 H₀:Hp
 env:Env
 outer:List Env
 stack:List Env
 ex:List Po
 fn:Str->Bool
 calm:Bool
 pn:List (Po×Obj)
 xe:O6->Pf->Prop
def Bw (l:List Env):List Po:=l.filterMap (·.frame)
abbrev Cx.fs (X:Cx):List Po:=Bw X.outer
def Md (sc:Uw)(x:Str):Prop:=sc.names.lookup x=M .local\/sc.names.lookup x=M .cell\/sc.names.lookup x=M .free
def KM (sc:Uw)(x:Str):Prop:=sc.names.lookup x=M .local\/sc.names.lookup x=M .cell
def Ol (env:Env)(h:Q9)(m:Str->Option O6)(x:Str)(u:O6):Prop:=
 (env.kindOf x=M .local/\m x=M u)\/((env.kindOf x=M .cell\/env.kindOf x=M .free)/\∃ c,env.cells.lookup x=M c/\h.IsCell c (M u))
structure Cx.Ok (X:Cx):Prop where
 mod:Mod X.K X.mg X.base
 kind:X.env.scope.kind=.function
 glob:X.env.globals=O_
 blt:X.env.builtins=Ul
 above:X.s₀.heap.objs.size<=X.env.locals
 inj:∀ x y c,X.env.cells.lookup x=M c->X.env.cells.lookup y=M c->x=y
 has:∀ x,(X.env.kindOf x=M .cell\/X.env.kindOf x=M .free)->∃ c,X.env.cells.lookup x=M c
 cab:∀ x c,X.fn x=true->X.env.cells.lookup x=M c->X.s₀.heap.objs.size<=c
 hd:X.calm=true->X.A.handled=none
 frames:X.A.frames=M X.stack
 stk:X.stack=X.outer\/(X.stack=X.env::X.outer/\X.env.frame=M X.env.locals)
 exf:∀ b∈X.ex,b≠X.env.locals/\∀ x c,X.env.cells.lookup x=M c->c≠b
 bs:∀ b o,X.base.get? b=M o->X.s₀.heap.get? b=M o/\X.H₀ b=none
 bsz:X.base.objs.size<=X.s₀.heap.objs.size
 noex:∀ b o,X.base.get? b=M o->b∉X.ex
 exfs:∀ b∈X.ex,b∉X.fs
 funs:X.s₀.heap.FunFrames X.base X.outer
 frf:∀ b∈X.fs,X.H₀ b=none
structure aJ (X:Cx)(pins:List (Po×Obj))(σ:List (Option V))(H:Hp)(s:Pf):Prop where
 ok:X.Ok
 os:s.os=X.s₀.os
 bare:W7 s.gens
 base:Un X.fs X.ex X.H₀ H X.s₀.heap s.heap
 loc:∃ m,s.heap.Ns X.env.locals m/\∀ (i:Nat) (x:Str) (v:V),X.N[i]?=M x->σ[i]?=M (M v)->Md X.env.scope x->∃ u,bO v u/\Ol X.env s.heap m x u
 cell:∀ x c,X.env.cells.lookup x=M c->∃ v,s.heap.IsCell c v
 free:H X.env.locals=none
 freeC:∀ x c,X.env.cells.lookup x=M c->H c=none
 pin:∀ p∈X.pn++pins,s.heap.get? p.1=M p.2/\H p.1=none/\p.1≠X.env.locals/\p.1∉X.fs/\∀ v,p.2.data≠.cell v
 hok:pE X.prog X.w H s.heap
 len:σ.length=X.N.length
section
variable {X:Cx}{pins:List (Po×Obj)}{σ:List (Option V)}{H H':Hp}{s:Pf}{h':Q9}
theorem Cx.Ok.nofr (ok:X.Ok)(e:X.base.get? b=M o):b∉X.fs:=λhb=>by
 have:=(ok.funs.mem hb).1;rw[e] at this;cases this
theorem aJ.bs (I:aJ X pins σ H s):∀ b o,X.base.get? b=M o->s.heap.get? b=M o/\H b=none:=λb o e=>
 ⟨I.base.keep b o (I.ok.bs b o e).1 (I.ok.bs b o e).2 (I.ok.nofr e) (I.ok.noex b o e),I.base.free b o (I.ok.bs b o e).1 (I.ok.bs b o e).2 (I.ok.noex b o e)⟩
theorem aJ.bk (I:aJ X pins σ H s):∀ b o,X.base.get? b=M o->s.heap.get? b=M o:=λb o e=>(I.bs b o e).1
theorem aJ.mod (I:aJ X pins σ H s):Mod X.K X.mg X.base:=I.ok.mod
theorem aJ.kIn (I:aJ X pins σ H s):X.K.In s.heap:=I.ok.mod.kin.keeps I.bk
theorem aJ.lt (I:aJ X pins σ H s):X.env.locals<s.heap.objs.size:=let ⟨_,hn,_⟩:=I.loc;hn.lt
theorem aJ.sz (I:aJ X pins σ H s):X.s₀.heap.objs.size<=s.heap.objs.size:=PP I.ok.above (QD I.lt)
theorem aJ.nofs (I:aJ X pins σ H s)(h:s.heap.objs.size<=a):a∉X.fs:=λhb=>by
 obtain⟨_,o,ho,_⟩:=I.ok.funs.mem hb;exact absurd (Pg (O7 ho) (PP I.sz h)) (Qk _)
theorem aJ.cne (I:aJ X pins σ H s):∀ x c,X.env.cells.lookup x=M c->c≠X.env.locals:=λx c e z=>by
 obtain⟨v,o,ho,hd⟩:=I.cell x c e;obtain⟨m,⟨o',es,ep,ho',hd',_⟩,_⟩:=I.loc;rw[z,ho'] at ho;cases ho;rw[hd'] at hd;cases hd
theorem aJ.funs (I:aJ X pins σ H s):s.heap.FunFrames X.base X.outer:=by
 have all:∀ (l:List Env),(∀ b∈Bw l,b∈X.fs)->X.s₀.heap.FunFrames X.base l->s.heap.FunFrames X.base l:=by
  intro l
  induction l with
  |nil=>intro _ _;trivial
  |cons env r ih=>
   intro hs hl;obtain⟨hk,⟨L,o,hf,hn,ho,hd⟩,hr⟩:=hl;have hL:L∈X.fs:=hs L (by unfold Bw;rw[TK,hf];exact PQ);obtain⟨sl,e⟩:=I.base.slot L o ho (I.ok.frf L hL) hL λz=>I.ok.exfs L z hL
   exact⟨hk,⟨L,_,hf,hn,e,hd⟩,ih (λb hb=>hs b (by unfold Bw;rw[TK,hf];exact Pj _ hb)) hr⟩
 exact all X.outer (λ_ hb=>hb) I.ok.funs
theorem aJ.stack (I:aJ X pins σ H s):s.heap.FunFrames X.base X.stack:=by
 rcases I.ok.stk with e|⟨e,hf⟩
 ·rw[e];exact I.funs
 ·rw[e];obtain⟨m,hn,_⟩:=I.loc;refine .cons (by rw[I.ok.kind];decide) hf hn ?_ I.funs;exact WV (PP I.ok.bsz I.ok.above)
theorem aJ.stkSub (I:aJ X pins σ H s):∀ b∈Bw X.stack,b∈X.env.locals::X.fs:=λb hb=>by
 rcases I.ok.stk with e|⟨e,hf⟩
 ·rw[e] at hb;exact Pj _ hb
 ·rw[e] at hb;unfold Bw at hb;rw[TK,hf] at hb;exact hb
theorem aJ.stkFree (I:aJ X pins σ H s):∀ b∈Bw X.stack,H b=none:=λb hb=>by
 rcases Pq.mp (I.stkSub b hb) with e|hb
 ·rw[e];exact I.free
 ·obtain⟨_,o,ho,_⟩:=I.ok.funs.mem hb;exact I.base.free b o ho (I.ok.frf b hb) λz=>I.ok.exfs b z hb
theorem aJ.step {g':Array GenState}{t':Nat}{d':Drawn}{ch:List Po} (I:aJ X pins σ H s)
  (hch:∀ b∈ch,(b∈X.ex\/X.s₀.heap.objs.size<=b)/\b≠X.env.locals/\(∀ x c,X.env.cells.lookup x=M c->c≠b)/\∀ p∈X.pn++pins,p.1≠b)
  (keep:∀ b o,b≠X.env.locals->b∉X.fs->b∉ch->s.heap.get? b=M o->H b=none->h'.get? b=M o)
  (slot:∀ b o,b≠X.env.locals->b∈X.fs->b∉ch->s.heap.get? b=M o->H b=none->∃ sl,h'.get? b=M { o with slots:=sl })(free:∀ b o,b∉ch->s.heap.get? b=M o->H b=none->H' b=none)
  (there:∀ b o,b∉ch->s.heap.get? b=M o->∃ o',h'.get? b=M o')
  (tups:∀ b xs,H b=M (.tup xs)->H' b=M (.tup xs))(frzs:∀ b o u,H b=M (.frz o u)->H' b=M (.frz o u))(tbls:∀ b ps,H b=M (.tbl ps)->∃ more,H' b=M (.tbl (ps++more)))
  (ns:∀ m,s.heap.Ns X.env.locals m->h'.Ns X.env.locals m)(hok:pE X.prog X.w H' h')(hg:W7 g'):
  aJ X pins σ H' { s with heap:=h',gens:=g',drawn:=d',toks:=t' }:=by
 have neL:∀ b o,X.s₀.heap.get? b=M o->b≠X.env.locals:=λb o e=>Pr (Pg (O7 e) I.ok.above)
 have neC:∀ b o,X.s₀.heap.get? b=M o->b∉X.ex->b∉ch:=λb o e hx hb=>by
  rcases(hch b hb).1 with z|z
  ·exact hx z
  ·exact absurd (Pg (O7 e) z) (Qk _)
 have cellK:∀ x c,X.env.cells.lookup x=M c->∀ v,s.heap.IsCell c v->h'.IsCell c v:=λx c e v ⟨o,ho,hd⟩=>by
  have nch:c∉ch:=λz=>(hch c z).2.2.1 x c e rfl
  by_cases hc:c∈X.fs
  ·obtain⟨sl,q⟩:=slot c o (I.cne x c e) hc nch ho (I.freeC x c e);exact⟨_,q,hd⟩
  ·exact⟨o,keep c o (I.cne x c e) hc nch ho (I.freeC x c e),hd⟩
 refine⟨I.ok,I.os,hg,⟨λb o e n hb hx=>?_,λb o e n hb hx=>?_,λb o e n hx=>?_,λb o e hx=>?_,λb xs e=>tups b xs (I.base.tups b xs e),λb o xs e=>frzs b o xs (I.base.frzs b o xs e),λb ps e=>?_⟩,?_,λx c e=>?_,?_,λx c e=>?_,λp hp=>?_,hok,I.len⟩
 ·exact keep b o (neL b o e) hb (neC b o e hx) (I.base.keep b o e n hb hx) (I.base.free b o e n hx)
 ·obtain⟨sl,e1⟩:=I.base.slot b o e n hb hx;obtain⟨sl',e2⟩:=slot b _ (neL b o e) hb (neC b o e hx) e1 (I.base.free b o e n hx);exact⟨sl',e2⟩
 ·obtain⟨o',e1⟩:=I.base.there b o e hx;exact free b o' (neC b o e hx) e1 (I.base.free b o e n hx)
 ·obtain⟨o',e1⟩:=I.base.there b o e hx;exact there b o' (neC b o e hx) e1
 ·obtain⟨m1,e1⟩:=I.base.tbls b ps e;obtain⟨m2,e2⟩:=tbls b _ e1;exact⟨m1++m2,by rw[e2,Array.append_assoc]⟩
 ·obtain⟨m,hn,hl⟩:=I.loc;refine⟨m,ns m hn,λi x v e1 e2 e3=>?_⟩;obtain⟨u,r,l⟩:=hl i x v e1 e2 e3;refine⟨u,r,?_⟩;rcases l with l|⟨k,c,e,z⟩
  ·exact .inl l
  ·exact .inr ⟨k,c,e,cellK x c e _ z⟩
 ·obtain⟨v,z⟩:=I.cell x c e;exact⟨v,cellK x c e v z⟩
 ·obtain⟨m,⟨o,_,_,ho,_⟩,_⟩:=I.loc;exact free _ o (λz=>(hch _ z).2.1 rfl) ho I.free
 ·obtain⟨v,o,ho,hd⟩:=I.cell x c e;exact free c o (λz=>(hch c z).2.2.1 x c e rfl) ho (I.freeC x c e)
 ·obtain⟨e,n,ne,nf,d⟩:=I.pin p hp;have nch:p.1∉ch:=λz=>(hch p.1 z).2.2.2 p hp rfl
  exact⟨keep p.1 p.2 ne nf nch e n,free p.1 p.2 nch e n,ne,nf,d⟩
theorem aJ.un {t':Nat}(I:aJ X pins σ H s)(u:Un X.fs [] H H' s.heap h')(hok:pE X.prog X.w H' h'):aJ X pins σ H' { s with heap:=h',toks:=t' }:=by
 obtain⟨m,⟨o,es,ep,ho,r⟩,_⟩:=id I.loc;obtain⟨sl,hL⟩:=u.any ho I.free (by simp);exact I.step (g':=s.gens) (d':=s.drawn) (ch:=[]) (λ_ z=>nomatch z) (λb o _ hb _ e n=>u.keep b o e n hb (by simp)) (λb o _ hb _ e n=>u.slot b o e n hb (by simp)) (λb o _ e n=>u.free b o e n (by simp)) (λb o _ e=>u.there b o e (by simp)) u.tups u.frzs u.tbls (λm' hm=>by
  obtain⟨o',es',ep',ho',r'⟩:=hm;rw[ho] at ho';cases ho';exact⟨_,es',ep',hL,r'⟩) hok I.bare
theorem aJ.call {g':Array GenState}{t':Nat}{d':Drawn}{ch:List Po} (I:aJ X pins σ H s) (u:Un (Bw X.stack) ch H H' s.heap h') (hok:pE X.prog X.w H' h') (hg:W7 g')
  (hch:∀ b∈ch,(b∈X.ex\/X.s₀.heap.objs.size<=b)/\b≠X.env.locals/\(∀ x c,X.env.cells.lookup x=M c->c≠b)/\∀ p∈X.pn++pins,p.1≠b):
  aJ X pins σ H' { s with heap:=h',gens:=g',drawn:=d',toks:=t' }:=by
 obtain⟨m,⟨o,es,ep,ho,r⟩,_⟩:=id I.loc;obtain⟨sl,hL⟩:=u.any ho I.free λz=>(hch _ z).2.1 Y
 exact I.step (ch:=ch) hch (λb o hL hb hc e n=>u.keep b o e n (λz=>(Pq.mp (I.stkSub b z)).elim hL hb) hc) (λb o _ _ hc e n=>u.any e n hc) (λb o hc e n=>u.free b o e n hc) (λb o hc e=>u.there b o e hc) u.tups u.frzs u.tbls (λm' hm=>by
  obtain⟨o',es',ep',ho',r'⟩:=hm;rw[ho] at ho';cases ho';exact⟨_,es',ep',hL,r'⟩) hok hg
theorem aJ.turned {t':Nat}{it:Po} (I:aJ X pins σ H s) (k:∀ b o,b ≠ it->s.heap.get? b=M o->h'.get? b=M o) (hn:H it=none) (hL:it ≠ X.env.locals)
  (h1:it∈X.ex\/X.s₀.heap.objs.size<=it)(h2:∀ x c,X.env.cells.lookup x=M c->c≠it)(h3:∀ p∈X.pn++pins,p.1≠it):aJ X pins σ H { s with heap:=h',toks:=t' }:=by
 have nit:∀ b u,H b=M u->b≠it:=λb u e z=>by rw[z,hn] at e;cases e
 refine I.step (g':=s.gens) (d':=s.drawn) (ch:=[it]) (λb hb=>?_) (λb o _ _ hc e _=>k b o (λz=>hc (by simp[z])) e) (λb o _ _ hc e _=>⟨o.slots,k b o (λz=>hc (by simp[z])) e⟩) (λ_ _ _ _ n=>n)
  (λb o hc e=>⟨o,k b o (λz=>hc (by simp[z])) e⟩) (λ_ _ e=>e) (λ_ _ _ e=>e) (λb ps e=>⟨#[],by rw[e];simp⟩) (λm hm=>?_) (λb u e=>?_) I.bare
 ·have e:b=it:=by simpa using hb
  subst e;exact⟨h1,hL,h2,h3⟩
 ·obtain⟨o,es,ep,ho,r⟩:=hm;exact⟨o,es,ep,k _ o (RZ hL) ho,r⟩
 ·refine(I.hok b u e).stay (λc v hc q=>k c v ?_ q) (λ_ q=>q) λ_ _ q=>q
  rcases hc with z|z
  ·rw[z];exact nit b u e
  ·exact nit c _ z
theorem aJ.tok (I:aJ X pins σ H s)(t:Nat):aJ X pins σ H { s with toks:=t }:=I.un (h':=s.heap) (t':=t) Un.refl I.hok
theorem aJ.kept {t':Nat}(I:aJ X pins σ H s)(k:∀ b u,s.heap.get? b=M u->h'.get? b=M u):aJ X pins σ H { s with heap:=h',toks:=t' }:=I.un (Un.kept k) (I.hok.kept k)
theorem aJ.laid {t':Nat} (I:aJ X pins σ H s) (k:∀ b u,s.heap.get? b=M u->h'.get? b=M u) (hp:s.heap.objs.size <= a) (new:ce X.prog X.w (upd H a o) h' a o) :
  aJ X pins σ (upd H a o) { s with heap:=h',toks:=t' }:=I.un (Un.laid k hp (I.hok.fresh hp)) (I.hok.laid k hp new)
theorem aJ.write {t':Nat} (I:aJ X pins σ H s) (mu:Nn (H x)) (he:e=x\/H e=M (.own x)) (k:∀ b u,b ≠ e->s.heap.get? b=M u->h'.get? b=M u) (heo:∃ u,h'.get? e=M u)
  (new:ce X.prog X.w (upd H x o) h' x o):aJ X pins σ (upd H x o) { s with heap:=h',toks:=t' }:=I.un (Un.write mu he k heo) (I.hok.write mu he k heo new)
theorem aJ.pins_of (I:aJ X pins σ H s)(h:∀ p∈pins',s.heap.get? p.1=M p.2/\H p.1=none/\p.1≠X.env.locals/\p.1∉X.fs/\∀ v,p.2.data≠.cell v):aJ X pins' σ H s:=
 ⟨I.ok,I.os,I.bare,I.base,I.loc,I.cell,I.free,I.freeC,λp hp=>(Qe.mp hp).elim (λz=>I.pin p (RL _ z)) (h p),I.hok,I.len⟩
theorem A5 {N:List Str}(hN:N.Nodup){i j:Nat}{x:Str}(a:N[i]?=M x)(b:N[j]?=M x):i=j:=by
 obtain⟨h1,e1⟩:=Pk.mp a;obtain⟨h2,e2⟩:=Pk.mp b;exact(List.getElem_inj hN).mp (e1.trans e2.symm)
theorem wS {zzW:Model}{A:QB}{E:O6->Pf->Prop}{i:Nat}{x:Str}{v:V}{u:O6}{Q:Unit->Pf->Prop} (I:aJ X pins σ H s) (hN:X.N.Nodup) (hi:X.N[i]?=M x) (hx:KM X.env.scope x) (r:bO v u)
  (h:∀ s',aJ X pins (σ.set i (M v)) H s'->(∃ a,Qg a s.heap s'.heap/\(a=X.env.locals\/X.env.cells.lookup x=M a))->Q () s')(hf:X.fn x=true\/X.env.scope.names.lookup x=M .local:=by first|exact .inl rfl|exact .inr rfl|assumption):Pp zzW A (storeName X.env x u) Q E s:=by
 obtain⟨m,hn,hl⟩:=id I.loc;have hcls:(X.env.scope.kind==.class||(X.env.scope.kind==.module&&X.env.locals != X.env.globals))=false:=by rw[I.ok.kind];rfl
 have hiσ:i<σ.length:=by rw[I.len];exact(Pk.mp hi).1
 have cne:=I.cne;have tracked:∀ {a:Po}{h':Q9},(∃ o,s.heap.get? a=M o/\H a=none)->Qg a s.heap h'->pE X.prog X.w H h':=λ{a h'} ha hs b ob e=>by
  obtain⟨_,_,hfree⟩:=ha;refine(I.hok b ob e).stay (λc w' hc q=>(hs.2 c ?_).trans q) (λ_ q=>q) λ_ _ q=>q
  rintro rfl;rcases hc with rfl|hc
  ·rw[hfree] at e;cases e
  ·rw[hfree] at hc;cases hc
 rcases hx with hk|hk
 ·refine wpAny_storeName_local hk hn (λh' hn' hs=>?_) hcls;obtain⟨oL,_,_,hoL,_⟩:=id hn;refine h _ ⟨I.ok,I.os,I.bare,⟨λb o e n hb hx=>?_,λb o e n hb hx=>?_,I.base.free,λb o e hx=>?_,I.base.tups,I.base.frzs,I.base.tbls⟩,⟨_,hn',λj y v' e1 e2 e3=>?_⟩,λy c e=>?_,I.free,I.freeC,λp hp=>?_,tracked ⟨oL,hoL,I.free⟩ hs,by simpa using I.len⟩ ⟨_,hs,.inl rfl⟩
  ·exact(hs.2 b (Pr (Pg (O7 e) I.ok.above))).trans (I.base.keep b o e n hb hx)
  ·obtain⟨sl,e1⟩:=I.base.slot b o e n hb hx;exact⟨sl,(hs.2 b (Pr (Pg (O7 e) I.ok.above))).trans e1⟩
  ·obtain⟨o',e1⟩:=I.base.there b o e hx;exact⟨o',(hs.2 b (Pr (Pg (O7 e) I.ok.above))).trans e1⟩
  ·by_cases hj:j=i
   ·subst hj;rw[hi] at e1;cases e1;rw[Wb hiσ] at e2;cases e2;exact⟨u,r,.inl ⟨hk,by simp⟩⟩
   ·rw[WY (RZ hj)] at e2;obtain⟨u',r',q⟩:=hl j y v' e1 e2 e3;refine⟨u',r',?_⟩;rcases q with ⟨k,e⟩|⟨k,c,e,z⟩
    ·refine .inl ⟨k,?_⟩;have:y≠x:=λe=>hj (A5 hN e1 (e▸hi))
     simp[this,e]
    ·exact .inr ⟨k,c,e,z.sameBut hs (cne y c e)⟩
  ·obtain⟨w',z⟩:=I.cell y c e;exact⟨w',z.sameBut hs (cne y c e)⟩
  ·obtain⟨e,n,ne,nf,d⟩:=I.pin p hp;exact⟨(hs.2 p.1 ne).trans e,n,ne,nf,d⟩
 ·have hfn:X.fn x=true:=by
   rcases hf with z|z
   ·exact z
   ·rw[z] at hk;cases hk
  obtain⟨c,hc⟩:=I.ok.has x (.inl hk);obtain⟨w',z⟩:=I.cell x c hc;refine wpAny_storeName_cell I.ok.kind hk hc z (λh' hc' hs=>?_);obtain⟨oc,hoc,hocd⟩:=id z;refine h { s with heap:=h' } ⟨I.ok,I.os,I.bare,⟨λb o e n hb hx=>?_,λb o e n hb hx=>?_,I.base.free,λb o e hx=>?_,I.base.tups,I.base.frzs,I.base.tbls⟩,⟨m,hn.sameBut hs (RZ (cne x c hc)),λj y v' e1 e2 e3=>?_⟩,λy c' e=>?_,I.free,I.freeC,λp hp=>?_,tracked ⟨oc,hoc,I.freeC x c hc⟩ hs,by simpa using I.len⟩ ⟨c,hs,.inr hc⟩
  ·exact(hs.2 b (Pr (Pg (O7 e) (I.ok.cab x c hfn hc)))).trans (I.base.keep b o e n hb hx)
  ·obtain⟨sl,e1⟩:=I.base.slot b o e n hb hx;exact⟨sl,(hs.2 b (Pr (Pg (O7 e) (I.ok.cab x c hfn hc)))).trans e1⟩
  ·obtain⟨o',e1⟩:=I.base.there b o e hx;exact⟨o',(hs.2 b (Pr (Pg (O7 e) (I.ok.cab x c hfn hc)))).trans e1⟩
  ·by_cases hj:j=i
   ·subst hj;rw[hi] at e1;cases e1;rw[Wb hiσ] at e2;cases e2;exact⟨u,r,.inr ⟨.inl hk,c,hc,hc'⟩⟩
   ·rw[WY (RZ hj)] at e2;obtain⟨u',r',q⟩:=hl j y v' e1 e2 e3;refine⟨u',r',?_⟩;rcases q with q|⟨k,c',e,z'⟩
    ·exact .inl q
    ·refine .inr ⟨k,c',e,z'.sameBut hs ?_⟩;rintro rfl;exact hj (A5 hN e1 (I.ok.inj _ _ _ e hc▸hi))
  ·by_cases hcc:c'=c
   ·subst hcc;exact⟨_,hc'⟩
   ·obtain⟨w2,z2⟩:=I.cell y c' e;exact⟨w2,z2.sameBut hs hcc⟩
  ·obtain⟨e,n,ne,nf,d⟩:=I.pin p hp;refine⟨(hs.2 p.1 ?_).trans e,n,ne,nf,d⟩;intro q;rw[q,hoc] at e;have q':oc=p.2:=O4 e;exact d w' (by rw[<- q'];exact hocd)
theorem lX {i:Nat} (I:aJ X pins σ H s) (hN:X.N.Nodup) (hi:X.N[i]?=M x) (hx:KM X.env.scope x) (r:bO v u)
  (h:∀ s',aJ X pins (σ.set i (M v)) H s'->Q () s')(hf:X.fn x=true\/X.env.scope.names.lookup x=M .local:=by first|exact .inl rfl|exact .inr rfl|assumption):Pp zzW A (storeName X.env x u) Q E s:=
 wS I hN hi hx r (λs' I' _=>h s' I') hf
theorem aJ.call' (I:aJ X pins σ H s) (ho:s'.os=s.os) (u:Un (Bw X.stack) ch H H' s.heap s'.heap) (hok:pE X.prog X.w H' s'.heap) (hg:W7 s'.gens)
  (hch:∀ b∈ch,(b∈X.ex\/X.s₀.heap.objs.size<=b)/\b≠X.env.locals/\(∀ x c,X.env.cells.lookup x=M c->c≠b)/\∀ p∈X.pn++pins,p.1≠b):aJ X pins σ H' s':=by
 obtain⟨h',g',d',t',o'⟩:=s';have e:o'=s.os:=ho;subst e;exact I.call (g':=g') (t':=t') (d':=d') u hok hg hch
end
abbrev XK:=O6->Option Po->Hp->Prop
abbrev St:=List (Option V)
abbrev VK:=V->Hp->Prop
abbrev TE:=St->Hp->VK->Prop
abbrev TT:=St->Hp->(Bool->Hp->Prop)->Prop
abbrev TA:=St->Hp->(List V->Hp->Prop)->Prop
structure vV where
 nx:St->Hp->Prop
 rt:VK
 bk:St->Hp->Prop:=λ_ _=>False
 ct:St->Hp->Prop:=λ_ _=>False
abbrev TS:=vV->St->Hp->Prop
def EP (X:Cx)(pins:List (Po×Obj))(σ:St)(Q:VK)(u:O6)(s':Pf):Prop:=∃ v H',aJ X pins σ H' s'/\bO v u/\Q v H'
def TP (X:Cx)(pins:List (Po×Obj))(σ:St)(Q:Bool->Hp->Prop)(b:Bool)(s':Pf):Prop:=∃ H',aJ X pins σ H' s'/\Q b H'
def AP (X:Cx)(pins:List (Po×Obj))(σ:St)(Q:List V->Hp->Prop)(us:List O6)(s':Pf):Prop:=∃ vs H',aJ X pins σ H' s'/\aU vs us/\Q vs H'
def SP (X:Cx)(pins:List (Po×Obj))(D:vV)(f:Flow)(s':Pf):Prop:=
 match f with
 |.next=>∃ σ' H',aJ X pins σ' H' s'/\D.nx σ' H'
 |.brk=>∃ σ' H',aJ X pins σ' H' s'/\D.bk σ' H'
 |.cont=>∃ σ' H',aJ X pins σ' H' s'/\D.ct σ' H'
 |.ret u=>∃ v σ' H',aJ X pins σ' H' s'/\bO v u/\D.rt v H'
def PE (X:Cx)(e:Rz)(t:TE):Prop:=
 ∀ (pins:List (Po×Obj)) (s:Pf) (σ:St) (H:Hp) (Q:VK),aJ X pins σ H s->t σ H Q->Pp (PX X.prog X.w) X.A (Ts e X.env) (EP X pins σ Q) X.xe s
structure WE (X:Cx)(e:Rz)(t:TE):Prop where
 go:PE X e t
def PT (X:Cx)(e:Rz)(t:TT):Prop:=
 ∀ (pins:List (Po×Obj)) (s:Pf) (σ:St) (H:Hp) (Q:Bool->Hp->Prop),aJ X pins σ H s->t σ H Q->Pp (PX X.prog X.w) X.A (isTrue e X.env (Ts e X.env)) (TP X pins σ Q) X.xe s
structure WT (X:Cx)(e:Rz)(t:TT):Prop where
 go:PT X e t
def PW (X:Cx)(e:Rz)(t:TT):Prop:=
 ∀ (whole:Sem O6) (pins:List (Po×Obj)) (s:Pf) (σ:St) (H:Hp) (Q:Bool->Hp->Prop),aJ X pins σ H s->t σ H Q->Pp (PX X.prog X.w) X.A (isTrue e X.env whole) (TP X pins σ Q) X.xe s
structure WW (X:Cx)(e:Rz)(t:TT):Prop where
 go:PW X e t
theorem PW.pt (h:PW X e t):PT X e t:=h _
def PA (X:Cx)(es:List Rz)(t:TA):Prop:=
 ∀ (pos:Pos) (pins:List (Po×Obj)) (s:Pf) (σ:St) (H:Hp) (Q:List V->Hp->Prop),aJ X pins σ H s->t σ H Q->Pp (PX X.prog X.w) X.A (spliced (Tu pos (PN es X.env))) (AP X pins σ Q) X.xe s
structure WA (X:Cx)(e:List Rz)(t:TA):Prop where
 go:PA X e t
def PS (X:Cx)(st:Q1)(t:TS):Prop:=
 ∀ (pins:List (Po×Obj)) (s:Pf) (σ:St) (H:Hp) (D:vV),aJ X pins σ H s->t D σ H->Pp (PX X.prog X.w) X.A (exec st X.env) (SP X pins D) X.xe s
structure WS (X:Cx)(e:Q1)(t:TS):Prop where
 go:PS X e t
def HI (X:Cx)(st:List Q1)(t:TS):Prop:=
 ∀ (pins:List (Po×Obj)) (s:Pf) (σ:St) (H:Hp) (D:vV),aJ X pins σ H s->t D σ H->Pp (PX X.prog X.w) X.A (execs st X.env) (SP X pins D) X.xe s
structure cr (X:Cx)(e:List Q1)(t:TS):Prop where
 go:HI X e t
theorem cy (h:Pp zzW A t Q E s)(hQ:∀ a s,Q a s->Q' a s):Pp zzW A t Q' E s:=QI h hQ λ_ _ x=>x
section
variable {X:Cx}
inductive re (i:Nat)(σ:St)(H:Hp)(Q:VK):Prop
 |mk (v:V) (_:σ[i]?=M (M v)) (_:Q v H)
def tC (v:V):TE:=λ_ H Q=>Q v H
theorem Lb {i:Nat}(hN:X.N[i]?=M x)(hv:Md X.env.scope x)(hd:(x==("__debug__":Str))=false:=by decide)(hcd:(x==("__classdict__":Str))=false:=by decide):PE X (.Name x pos) (re i):=by
 intro pins s σ H Q I h;obtain⟨v,e,h⟩:=h;obtain⟨m,hn,hl⟩:=I.loc;obtain⟨u,r,l⟩:=hl i x v hN e hv;have fin:EP X pins σ Q u s:=⟨v,H,I,r,h⟩
 rcases l with ⟨hk,hm⟩|⟨hk,c,hc,hcell⟩
 ·exact WP (UC I.ok.kind hk hn hm fin) hd
 ·rcases hk with hk|hk
  ·exact WP (wpAny_loadName_cell I.ok.kind hk hc hcell fin) hd
  ·exact WP (wpAny_loadName_free I.ok.kind hk hc hcell fin hcd) hd
theorem aa {i j pos}:WE X (.Constant (.int i) j pos) (tC (.int i)):=by
 exact⟨λ_ _ _ H _ I h=>wpAny_Constant_int ⟨.int i,H,I.tok _,⟨_,rfl⟩,h⟩⟩
theorem iy {b j pos}:WE X (.Constant (.bool b) j pos) (tC (.bl b)):=by
 exact⟨λ_ _ _ H _ I h=>Constant_bool ⟨.bl b,H,I,rfl,h⟩⟩
theorem yK {j pos}:WE X (.Constant .none j pos) (tC .non):=by
 exact⟨λ_ _ _ H _ I h=>Constant_none ⟨.non,H,I,rfl,h⟩⟩
theorem t7 {x j pos}:WE X (.Constant (.str x) j pos) (tC (.str x)):=by
 exact⟨λ_ _ _ H _ I h=>Calls.Constant_str ⟨.str x,H,I.tok _,⟨_,rfl⟩,h⟩⟩
def Gl (X:Cx)(x:Str):Prop:=X.env.kindOf x=M .globalImplicit
theorem iN (I:aJ X pins σ H s) (hg:Gl X x) (hm:X.mg x=M u) (h:Q u s)
  (hd:(x==("__debug__":Str))=false:=by decide):Pp (PX X.prog X.w) X.A (Ts (.Name x pos) X.env) Q E s:=
 U_ I.ok.kind hg (Calls.loadGlobal_global (by rw[I.ok.glob];exact I.mod.glob.keeps I.bk) hm h) hd
theorem ig (I:aJ X pins σ H s) (hg:Gl X x) (hm:X.mg x=none) (hv:Qt x=M u) (h:Q u s)
  (hn:x≠"__name__":=by decide)(hd:(x==("__debug__":Str))=false:=by decide):Pp (PX X.prog X.w) X.A (Ts (.Name x pos) X.env) Q E s:=by
 obtain⟨mb,h1,h2⟩:=I.mod.blt;exact U_ I.ok.kind hg (Calls.loadGlobal_builtin (by rw[I.ok.glob];exact I.mod.glob.keeps I.bk) hm (by rw[I.ok.blt];exact h1.keeps I.bk) ((h2 x hn).trans hv) h) hd
theorem Iv (hg:Gl X x)(hm:X.mg x=M u)(r:bO v u)(hd:(x==("__debug__":Str))=false:=by decide):PE X (.Name x pos) (tC v):=
 λ_ _ _ H _ I h=>iN I hg hm ⟨v,H,I,r,h⟩ hd
theorem bY (hg:Gl X x)(hm:X.mg x=none)(hv:Qt x=M u)(r:bO v u)(hn:x≠"__name__":=by decide)(hd:(x==("__debug__":Str))=false:=by decide):WE X (.Name x pos) (tC v):=by
 exact⟨λ_ _ _ H _ I h=>ig I hg hm hv ⟨v,H,I,r,h⟩ hn hd⟩
variable {a b:Rz}{ta tb:TE}{pos:Pos}
inductive OG (x:V)(H:Hp)(Q:Bool->Hp->Prop):Prop
 |mk (c:Bool) (_:x=.bl c) (_:Q c H)
def tB (t:TE):TT:=λσ H Q=>t σ H λx H1=>OG x H1 Q
theorem aR (h:WE X e t)(he:∀ whole,isTrue e X.env whole=(do let v <- whole;WD e.pos;holding [v] (truthy v)):=by intro _;rfl):WT X e (tB t):=by
 have h:=h.go;refine⟨?_⟩;intro pins s σ H Q I hw;refine isTrue_plain (cy (h pins s σ H _ I hw) λv s1 ⟨x,H1,I1,r1,q1⟩=>?_) (he _);obtain⟨d,rfl,q⟩:=q1;cases r1;exact Rx ⟨H1,I1,q⟩
variable {tA tB':TT}{gZ:List Rz}
def N5 (t u:TT):TT:=λσ H Q=>t σ H λc H1=>if c=true then u σ H1 Q else Q false H1
def OQ (t u:TT):TT:=λσ H Q=>t σ H λc H1=>if c=true then Q true H1 else u σ H1 Q
def Ow (t:TT):TT:=λσ H Q=>t σ H λc H1=>Q (!c) H1
theorem Hg (ha:WT X a tA):WW X (.BoolOp .And [a] pos) tA:=by
 have ha:=ha.go;refine⟨?_⟩;intro wh pins s σ H Q I h;refine isTrue_and (cy (ha pins s σ H Q I h) λc s1 e=>?_);cases c with
 |true=>exact isTrue_and_nil e
 |false=>exact e
theorem dI (ha:WT X a tA):WW X (.BoolOp .Or [a] pos) tA:=by
 have ha:=ha.go;refine⟨?_⟩;intro wh pins s σ H Q I h;refine isTrue_or (cy (ha pins s σ H Q I h) λc s1 e=>?_);cases c with
 |false=>exact isTrue_or_nil e
 |true=>exact e
theorem Du (ha:WT X a tA)(hb:WW X (.BoolOp .And (b::gZ) pos) tB'):WW X (.BoolOp .And (a::b::gZ) pos) (N5 tA tB'):=by
 have ha:=ha.go;have hb:=hb.go;refine⟨?_⟩;intro wh pins s σ H Q I h;refine isTrue_and (cy (ha pins s σ H _ I h) λc s1 ⟨H1,I1,q1⟩=>?_);cases c with
 |true=>exact hb wh pins s1 σ H1 Q I1 q1
 |false=>exact⟨H1,I1,q1⟩
theorem dO (ha:WT X a tA)(hb:WW X (.BoolOp .Or (b::gZ) pos) tB'):WW X (.BoolOp .Or (a::b::gZ) pos) (OQ tA tB'):=by
 have ha:=ha.go;have hb:=hb.go;refine⟨?_⟩;intro wh pins s σ H Q I h;refine isTrue_or (cy (ha pins s σ H _ I h) λc s1 ⟨H1,I1,q1⟩=>?_);cases c with
 |true=>exact⟨H1,I1,q1⟩
 |false=>exact hb wh pins s1 σ H1 Q I1 q1
theorem aV (ha:WT X a tA):WT X (.UnaryOp .Not a pos) (Ow tA):=by
 have ha:=ha.go;refine⟨?_⟩;intro pins s σ H Q I h;exact isTrue_not (ha pins s σ H (λc H1=>Q (!c) H1) I h)
def Na (ta tb:TE):TE:=λσ H Q=>ta σ H λx H1=>∃ c,x=.bl c/\if c=true then tb σ H1 Q else Q (.bl false) H1
def MC (ta:TE):TE:=λσ H Q=>ta σ H λx H1=>∃ c,x=.bl c/\Q (.bl (!c)) H1
theorem eT {op}(h:WE X a t):WE X (.BoolOp op [a] pos) t:=by
 have h:=h.go;exact⟨λpins s σ H Q I hw=>BoolOp_one (h pins s σ H Q I hw)⟩
theorem dA (ha:WE X a ta)(hb:WE X (.BoolOp .And (b::gZ) pos) tb):WE X (.BoolOp .And (a::b::gZ) pos) (Na ta tb):=by
 have ha:=ha.go;have hb:=hb.go;refine⟨?_⟩;intro pins s σ H Q I h;refine BoolOp_and (cy (ha pins s σ H _ I h) λv s1 ⟨x,H1,I1,r1,q1⟩=>?_);obtain⟨c,rfl,q1⟩:=q1;cases r1;refine Rx ?_;cases c with
 |true=>exact hb pins s1 σ H1 Q I1 q1
 |false=>exact⟨.bl false,H1,I1,Y,q1⟩
theorem Ds (ha:WE X a ta):WE X (.UnaryOp .Not a pos) (MC ta):=by
 have ha:=ha.go;refine⟨?_⟩;intro pins s σ H Q I h;refine UnaryOp_ (cy (ha pins s σ H _ I h) λv s1 ⟨x,H1,I1,r1,q1⟩=>?_);obtain⟨c,rfl,q1⟩:=q1;cases r1;exact not_of (Rx ⟨.bl (!c),H1,I1,Y,q1⟩)
def OL (t:TT)(ta tb:TE):TE:=λσ H Q=>t σ H λc H1=>if c=true then ta σ H1 Q else tb σ H1 Q
theorem j_ (hc:WT X c tA)(ha:WE X a ta)(hb:WE X b tb):WE X (.IfExp c a b pos) (OL tA ta tb):=by
 have hc:=hc.go;have ha:=ha.go;have hb:=hb.go;refine⟨?_⟩;intro pins s σ H Q I h;refine wpAny_IfExp (cy (hc pins s σ H _ I h) λd s1 ⟨H1,I1,q1⟩=>?_);cases d with
 |true=>exact ha pins s1 σ H1 Q I1 q1
 |false=>exact hb pins s1 σ H1 Q I1 q1
end
def bK (K:KE)(H:Hp)(a:Po)(xs:List V):Prop:=
 Rd H a (.lst xs) \/
  ∃ (o:Obj) (its:Array O6) (n:Nat),K.lookup a=M o/\o.cls=.type "list"/\o.dict=none/\o.data=.seq its n/\its.size<=Pz/\aU xs its.toList
def dR (K:KE)(H:Hp)(a:Po)(xs:List V):Prop:=
 Rd H a (.tup xs) \/
  ∃ (o:Obj) (its:Array O6) (n:Nat),K.lookup a=M o/\o.cls=.type "tuple"/\o.data=.seq its n/\its.size<=Pz/\aU xs its.toList
def NI:O6->Option V
 |.none=>M .non
 |.bool b=>M (.bl b)
 |.int i _=>M (.int i)
 |.str x _=>M (.str x)
 |.bytes b _=>M (.byt b)
 |.float b _=>M (.flt b)
 |.ref a=>M (.ref a)
 |.type n=>M (.ty n)
 |_=>none
theorem bO.abs (r:bO x u):NI u=M x:=by
 cases x with
 |non=>cases r;rfl
 |bl _=>cases r;rfl
 |int _=>obtain⟨t,rfl⟩:=r;rfl
 |str _=>obtain⟨t,rfl⟩:=r;rfl
 |byt _=>obtain⟨t,rfl⟩:=r;rfl
 |flt _=>obtain⟨t,rfl⟩:=r;rfl
 |ref _=>cases r;rfl
 |ty _=>cases r;rfl
theorem bO.inj (r:bO x u)(q:bO y u):x=y:=O4 (r.abs.symm.trans q.abs)
theorem aU.inj:∀ {xs ys:List V}{us:List O6},aU xs us->aU ys us->xs=ys
 |_,_,_,.nil,.nil=>rfl
 |_,_,_,.cons r t,.cons r' t'=>by rw[r.inj r',aU.inj t t']
section
variable {X:Cx}{pins:List (Po×Obj)}{σ:St}{H:Hp}{s:Pf}{a:Po}{xs ys:List V}
theorem bK.of {K:KE}(h:H a=M (.lst xs)):bK K H a xs:=.inl (.inl h)
theorem dR.of {K:KE}(h:H a=M (.tup xs)):dR K H a xs:=.inl (.inl h)
theorem aJ.list (I:aJ X pins σ H s)(h:bK X.K H a xs):∃ its:List O6,aU xs its/\PlainL s.heap a its.toArray/\xs.length<=Pz:=by
 rcases h with h|⟨o,its,n,hk,hc,hd,hs,hz,r⟩
 ·obtain⟨z,its,n,r,e⟩:=h.ok I.hok;exact⟨its,r,⟨_,n,e,rfl,rfl,rfl⟩,z⟩
 ·refine⟨its.toList,r,⟨o,n,I.kIn a o hk,hc,hd,by simpa using hs⟩,?_⟩;have e:=r.length;simp only[QV] at e;lia
theorem aJ.tuple (I:aJ X pins σ H s)(h:dR X.K H a xs):∃ its:List O6,aU xs its/\IsTup s.heap a its.toArray/\xs.length<=Pz:=by
 rcases h with h|⟨o,its,n,hk,hc,hs,hz,r⟩
 ·obtain⟨z,its,r,p⟩:=h.ok I.hok;exact⟨its,r,p,z⟩
 ·refine⟨its.toList,r,⟨o,I.kIn a o hk,hc,n,by simpa using hs⟩,?_⟩;have e:=r.length;simp only[QV] at e;lia
theorem aJ.list_inj (I:aJ X pins σ H s)(h:bK X.K H a xs)(h':bK X.K H a ys):xs=ys:=by
 obtain⟨its,r,⟨o,n,e,_,_,d⟩,_⟩:=I.list h;obtain⟨its',r',⟨o',n',e',_,_,d'⟩,_⟩:=I.list h';rw[e] at e';cases e';rw[d] at d';injection d' with d1 _
 have:its=its':=by simpa using S0 Array.toList d1
 subst this;exact r.inj r'
theorem aJ.tuple_inj (I:aJ X pins σ H s)(h:dR X.K H a xs)(h':dR X.K H a ys):xs=ys:=by
 obtain⟨its,r,⟨o,e,_,n,d⟩,_⟩:=I.tuple h;obtain⟨its',r',⟨o',e',_,n',d'⟩,_⟩:=I.tuple h';rw[e] at e';cases e';rw[d] at d';injection d' with d1 _
 have:its=its':=by simpa using S0 Array.toList d1
 subst this;exact r.inj r'
end
abbrev Cx.wish (X:Cx)(E:O6->Pf->Prop):Cx:={ X with xe:=E }
abbrev Cx.nox (X:Cx):Cx:=X.wish λ_ _=>False
theorem Cx.Ok.wish {X:Cx}(ok:X.Ok)(E:O6->Pf->Prop):(X.wish E).Ok:=
 ⟨ok.mod,ok.kind,ok.glob,ok.blt,ok.above,ok.inj,ok.has,ok.cab,ok.hd,ok.frames,ok.stk,ok.exf,ok.bs,ok.bsz,ok.noex,ok.exfs,ok.funs,ok.frf⟩
theorem Cx.Ok.unwish {X:Cx}{E:O6->Pf->Prop}(ok:(X.wish E).Ok):X.Ok:=
 ⟨ok.mod,ok.kind,ok.glob,ok.blt,ok.above,ok.inj,ok.has,ok.cab,ok.hd,ok.frames,ok.stk,ok.exf,ok.bs,ok.bsz,ok.noex,ok.exfs,ok.funs,ok.frf⟩
section
variable {X:Cx}{pins:List (Po×Obj)}{σ:St}{H:Hp}{s:Pf}{E:O6->Pf->Prop}
theorem aJ.wish (I:aJ X pins σ H s)(E:O6->Pf->Prop):aJ (X.wish E) pins σ H s:=⟨I.ok.wish E,I.os,I.bare,I.base,I.loc,I.cell,I.free,I.freeC,I.pin,I.hok,I.len⟩
theorem aJ.unwish (I:aJ (X.wish E) pins σ H s):aJ X pins σ H s:=⟨I.ok.unwish,I.os,I.bare,I.base,I.loc,I.cell,I.free,I.freeC,I.pin,I.hok,I.len⟩
theorem SP.unwish (h:SP (X.wish E) pins D f s'):SP X pins D f s':=by
 cases f with
 |next=>obtain⟨σ',H',I,q⟩:=h;exact⟨σ',H',I.unwish,q⟩
 |brk=>obtain⟨σ',H',I,q⟩:=h;exact⟨σ',H',I.unwish,q⟩
 |cont=>obtain⟨σ',H',I,q⟩:=h;exact⟨σ',H',I.unwish,q⟩
 |ret u=>obtain⟨v,σ',H',I,r,q⟩:=h;exact⟨v,σ',H',I.unwish,r,q⟩
theorem HI.nox {st:List Q1}{t:TS}(h:HI X.nox st t):HI X st t:=λpins s σ H D I hw=>
 QI (h pins s σ H D (I.wish _) hw) (λ_ _ q=>q.unwish) λ_ _ z=>Rp z
end
section
variable {X:Cx}{st:Q1}{gZ:List Q1}{t u:TS}{e:Rz}{te:TE}{pos:Pos}
def MD:TS:=λD σ H=>D.nx σ H
def Jc (t u:TS):TS:=λD σ H=>t { D with nx:=u D } σ H
theorem aI:cr X [] MD:=by
 exact⟨λ_ _ σ H _ I h=>U9 ⟨σ,H,I,h⟩⟩
theorem ab (h1:WS X st t)(h2:cr X gZ u):cr X (st::gZ) (Jc t u):=by
 have h1:=h1.go;have h2:=h2.go;refine⟨?_⟩;intro pins s σ H D I h;refine wpAny_execs_cons (cy (h1 pins s σ H { D with nx:=u D } I h) λf s1 q=>?_);cases f with
 |next=>
  obtain⟨σ',H',I',q⟩:=q;exact h2 pins s1 σ' H' D I' q
 |ret v=>exact q
 |brk=>exact q
 |cont=>exact q
theorem af (h1:WS X st t):cr X [st] t:=by
 have h1:=h1.go;refine⟨?_⟩;intro pins s σ H D I h;refine wpAny_execs_cons (cy (h1 pins s σ H D I h) λf s1 q=>?_);cases f with
 |next=>exact U9 q
 |ret v=>exact q
 |brk=>exact q
 |cont=>exact q
theorem aJ.quiet (I:aJ X pins σ H s):interactive X.env=false:=by simp[interactive,I.ok.kind]
def MX (te:TE):TS:=λD σ H=>te σ H λ_ H1=>D.nx σ H1
theorem bt (he:WE X e te)(hs:VU e none pos.line X.env=pure false:=by rfl):WS X (.Expr e pos) (MX te):=by
 have he:=he.go;refine⟨?_⟩;intro pins s σ H D I h;exact wpAny_Expr_any (cy (he pins s σ H _ I h) λv s1 ⟨x,H1,I1,r1,q1⟩=>⟨σ,H1,I1,q1⟩) I.quiet hs
def NW (te:TE):TS:=λD σ H=>te σ H D.rt
theorem aq (he:WE X e te):WS X (.Return (M e) pos) (NW te):=by
 have he:=he.go;refine⟨?_⟩;intro pins s σ H D I h;exact wpAny_Return_some (cy (he pins s σ H _ I h) λv s1 ⟨x,H1,I1,r1,q1⟩=>⟨x,σ,H1,I1,r1,q1⟩)
def N9 (c:TT)(t u:TS):TS:=λD σ H=>c σ H λb H1=>if b=true then t D σ H1 else u D σ H1
theorem bg (hc:WT X c tc)(ha:cr X a t)(hb:cr X b u):WS X (.If c a b pos) (N9 tc t u):=by
 have hc:=hc.go;have ha:=ha.go;have hb:=hb.go;refine⟨?_⟩;intro pins s σ H D I h;refine wpAny_If (cy (hc pins s σ H _ I h) λd s1 ⟨H1,I1,q1⟩=>?_);cases d with
 |true=>exact ha pins s1 σ H1 D I1 q1
 |false=>exact hb pins s1 σ H1 D I1 q1
def Lf:TS:=λ_ _ _=>False
theorem bD:WS X st Lf:=by
 exact⟨λ_ _ _ _ _ _ h=>h.elim⟩
end
abbrev TG:=V->St->Hp->(St->Hp->Prop)->Prop
abbrev LS:=List V->St->Hp->(St->Hp->Prop)->Prop
def PG (X:Cx)(target:Rz)(t:TG):Prop:=
 ∀ (pins:List (Po×Obj)) (s:Pf) (σ:St) (H:Hp) (v:V) (u:O6) (Q:St->Hp->Prop),aJ X pins σ H s->bO v u->t v σ H Q ->
  Pp (PX X.prog X.w) X.A (assign target X.env u) (λ_ s'=>∃ σ' H',aJ X pins σ' H' s'/\Q σ' H') X.xe s
structure WG (X:Cx)(e:Rz)(t:TG):Prop where
 go:PG X e t
def Ot (X:Cx)(ts:List Rz)(t:LS):Prop:=
 ∀ (pins:List (Po×Obj)) (s:Pf) (σ:St) (H:Hp) (vs:List V) (us:List O6) (Q:St->Hp->Prop),aJ X pins σ H s->aU vs us->t vs σ H Q ->
  Pp (PX X.prog X.w) X.A (Xu ((R9 ts X.env).map (·.2)) us) (λ_ s'=>∃ σ' H',aJ X pins σ' H' s'/\Q σ' H') X.xe s
structure Mt (X:Cx)(e:List Rz)(t:LS):Prop where
 go:Ot X e t
abbrev MP:=V->V->V->Hp->(Hp->Prop)->Prop
def MK (X:Cx)(t:MP):Prop:=
 ∀ (pins:List (Po×Obj)) (s:Pf) (σ:St) (H:Hp) (o i v:V) (ov iv u:O6) (Q:Hp->Prop),aJ X pins σ H s->bO o ov->bO i iv->bO v u->t o i v H Q ->
  Pp (PX X.prog X.w) X.A (setItem ov iv u) (λ_ s'=>∃ H',aJ X pins σ H' s'/\Q H') X.xe s
abbrev ND:=V->V->Hp->VK->Prop
def On (X:Cx)(op:Operator)(t:ND):Prop:=
 ∀ (pins:List (Po×Obj)) (s:Pf) (σ:St) (H:Hp) (x y:V) (v u:O6) (Q:VK),aJ X pins σ H s->bO x v->bO y u->t x y H Q ->
  Pp (PX X.prog X.w) X.A (inplaceOp op v u) (EP X pins σ Q) X.xe s
section
variable {X:Cx}{pos:Pos}
def uC (i:Nat):TG:=λv σ H Q=>Q (σ.set i (M v)) H
theorem FC {i:Nat}(hN:X.N.Nodup)(hi:X.N[i]?=M x)(hx:KM X.env.scope x)(hf:X.fn x=true\/X.env.scope.names.lookup x=M .local:=by first|exact .inl rfl|exact .inr rfl|assumption):WG X (.Name x pos) (uC i):=by
 refine⟨?_⟩;intro pins s σ H v u Q I r h;exact wpAny_assign_Name (lX I hN hi hx r (λs' I'=>⟨_,H,I',h⟩) hf)
def N7:LS:=λvs σ H Q=>vs=[]/\Q σ H
def MJ (t:TG)(u:LS):LS:=λvs σ H Q=>∃ v r,vs=v::r/\t v σ H λσ' H'=>u r σ' H' Q
theorem bL:Mt X [] N7:=by
 refine⟨?_⟩;intro pins s σ H vs us Q I r h;obtain⟨e,h⟩:=h;subst e;cases r;exact assignInOrder_nil ⟨σ,H,I,h⟩
theorem aB (h1:WG X e t) (h2:Mt X es u)
  (hs:(R9 (e::es) X.env).map (·.2)=assign e X.env::(R9 es X.env).map (·.2):=by rfl):Mt X (e::es) (MJ t u):=by
 have h1:=h1.go;have h2:=h2.go;refine⟨?_⟩;intro pins s σ H vs us Q I r h;obtain⟨v,vr,e1,h⟩:=h;subst e1;cases r with
 |cons r rr=>
  rw[hs];refine Vl (cy (h1 pins s σ H _ _ _ I r h) λ_ s1 ⟨σ1,H1,I1,q1⟩=>?_);exact h2 pins s1 σ1 H1 _ _ Q I1 rr q1
def Nk (K:KE)(n:Nat)(t:LS):TG:=λv σ H Q=>∃ a xs,v=.ref a/\dR K H a xs/\xs.length=n/\t xs σ H Q
theorem Lr {k:Nat}{n:Nat} (hc:X.calm=true) (h:Ot X es t)
  (hn:(R9 es X.env).length=n:=by rfl)(hst:(R9 es X.env).findIdx? (·.1)=none:=by rfl):PG X (.Tuple es k pos) (Nk X.K n t):=by
 intro pins s σ H v u Q I r hw;obtain⟨a,xs,e1,hq,hl,hw⟩:=hw;subst e1;cases r;obtain⟨its,rv,ht,hz⟩:=I.tuple hq;refine assign_Tuple_tuple (I.ok.hd hc) ht (by simp[hn,<- hl,rv.length]) hst λh' hx=>?_
 have I1:aJ X pins σ H { s with heap:=h' }:=I.kept (t':=s.toks) λb o e=>hx b o (Pr (O7 e)) e
 exact h pins _ σ H xs _ Q I1 (by simpa using rv) hw
def NQ (to ti:TE)(t:MP):TG:=λv σ H Q=>to σ H λo H1=>ti σ H1 λi H2=>t o i v H2 λH3=>Q σ H3
theorem yh (ho:WE X o to) (hi:WE X i ti) (hs:MK X t)
  (ha:∀ v,assign (.Subscript o i pos) X.env v=(do
   let ov <- holding [v] (Ts o X.env)
   let iv <- holding [v,ov] (Ts i X.env)
   WD pos
   holding [v,ov,iv] (setItem ov iv v)
   release [v,ov,iv] []):=by intro _;rfl):WG X (.Subscript o i pos) (NQ to ti t):=by
 have ho:=ho.go;have hi:=hi.go;refine⟨?_⟩;intro pins s σ H v u Q I r h;rw[ha];refine O2 (QE (cy (ho pins s σ H _ I h) λov s1 ⟨x,H1,I1,r1,q1⟩=>?_));refine O2 (QE (cy (hi pins s1 σ H1 _ I1 q1) λiv s2 ⟨y,H2,I2,r2,q2⟩=>?_));refine O2 (Sg (O2 (QE (cy (hs pins s2 σ H2 x y v ov iv u _ I2 r1 r2 r q2) λ_ s3 ⟨H3,I3,q3⟩=>?_))));exact wpAny_release ⟨σ,H3,I3,q3⟩
def Lk (te:TE)(g:TG):TS:=λD σ H=>te σ H λx H1=>g x σ H1 D.nx
theorem gR (he:WE X e te) (hg:WG X tg g) (hs:swapsWithSole [tg] e pos.line X.env=pure false:=by rfl) (hw:swappedStores [tg] e X.env=pure none:=by rfl)
  (h1:(R9 [tg] X.env).map (·.2)=[assign tg X.env]:=by rfl):WS X (.Assign [tg] e pos) (Lk te g):=by
 have he:=he.go;have hg:=hg.go;refine⟨?_⟩;intro pins s σ H D I h;refine wpAny_Assign_stores (cy (he pins s σ H _ I h) λv s1 ⟨x,H1,I1,r1,q1⟩=>?_) hs hw;rw[h1];exact cy (hg pins s1 σ H1 x v _ I1 r1 q1) λ_ s2 q=>q
theorem Jw {i:Nat} (hN:X.N.Nodup) (hi:X.N[i]?=M x) (hx:KM X.env.scope x) (he:WE X e te) (hs:VU e (M (.Name x pos')) pos.line X.env=pure false:=by rfl) (hf:X.fn x=true\/X.env.scope.names.lookup x=M .local:=by first | exact .inl rfl | exact .inr rfl | assumption) :
  WS X (.Assign [.Name x pos'] e pos) (Lk te (uC i)):=by
 have he:=he.go;refine⟨?_⟩;intro pins s σ H D I h;refine wpAny_Assign_Name (cy (he pins s σ H _ I h) λv s1 ⟨y,H1,I1,r1,q1⟩=>?_) hs;exact lX I1 hN hi hx r1 (λs2 I2=>⟨_,H1,I2,q1⟩) hf
def N0 (i j:Nat)(ta:TA):TS:=λD σ H=>ta σ H λvs H1=>∃ v w,vs=[v,w]/\D.nx ((σ.set i (M v)).set j (M w)) H1
theorem mV {i j:Nat}{kt k2 pt2} (hc:X.calm=true) (hN:X.N.Nodup) (hi:X.N[i]?=M x) (hj:X.N[j]?=M y) (hij:i ≠ j)
  (hx:X.env.scope.names.lookup x=M .local)(hy:X.env.scope.names.lookup y=M .local)(ha:WA X [a,b] ta)
  (hw:swappedStores [.Tuple [.Name x px,.Name y py] kt pt] (.Tuple [a,b] k2 pt2) X.env=pure (M [x,y]))
  (hs:swapsWithSole [.Tuple [.Name x px,.Name y py] kt pt] (.Tuple [a,b] k2 pt2) pos.line X.env=pure false:=by rfl):
  WS X (.Assign [.Tuple [.Name x px,.Name y py] kt pt] (.Tuple [a,b] k2 pt2) pos) (N0 i j ta):=by
 have ha:=ha.go;refine⟨?_⟩;intro pins s σ H D I h;rw[exec_Assign_arm];refine O2 (Sg ?_);rw[hs];refine O2 (O5 ?_);rw[P3 (by decide)];refine O2 (Tuple_ (cy (ha _ pins s σ H _ I h) λus s1 ⟨vs,H1,I1,r1,q1⟩=>?_));obtain⟨v,w,e1,q1⟩:=q1;subst e1;obtain⟨u1,u2,rfl,rv,rw'⟩:∃ u1 u2,us=[u1,u2]/\bO v u1/\bO w u2:=by
  cases r1 with
  |cons p q=>
   cases q with
   |cons p' q'=>
    cases q';exact⟨_,_,Y,p,p'⟩
 refine QJ ?_ (by show 2<=Pz;decide);have I2:aJ X pins σ H1 { s1 with heap:=s1.heap.push { cls:=.type "tuple",data:=.seq [u1,u2].toArray } }:=I1.kept (t':=s1.toks) λb o e=>O3 _ e
 rw[hw];refine O2 (O5 ?_);show Pp (PX X.prog X.w) X.A (do rule "assign.swapped-stores";let items <- unpackItems (.ref s1.heap.objs.size) 2 none;Xu [λv=>bindName X.env y v,λv=>bindName X.env x v] items.reverse;pure Flow.next) _ _ _;refine O2 (SG (O2 (unpackItems_tuple (items:=#[u1,u2]) (I.ok.hd hc) (IsTup.new s1.heap _) λh' hx'=>?_)));have I3:=I2.kept (h':=h') (t':=s1.toks) λb o e=>hx' b o (Pr (O7 e)) e
 show Pp _ _ (Xu [λv=>bindName X.env y v,λv=>bindName X.env x v] [u2,u1]>>=λ_=>pure Flow.next) _ _ _;refine O2 (Vl (wpAny_bindName (lX I3 hN hj (.inl hy) rw' (λs2 I4=>?_) (.inr hy))));refine Vl (wpAny_bindName (lX I4 hN hi (.inl hx) rv (λs3 I5=>assignInOrder_nil (O5 ?_)) (.inr hx)));rw[List.set_comm _ _ (RZ hij)] at I5;exact⟨_,H1,I5,q1⟩
def Oy (i:Nat)(te:TE)(ti:ND):TS:=λD σ H=>∃ x,σ[i]?=M (M x)/\te σ H λy H1=>ti x y H1 λz H2=>D.nx (σ.set i (M z)) H2
theorem yS {i:Nat} (hN:X.N.Nodup) (hi:X.N[i]?=M x) (hx:KM X.env.scope x) (he:WE X e te) (ho:On X op ti) (hf:X.fn x=true\/X.env.scope.names.lookup x=M .local:=by first | exact .inl rfl | exact .inr rfl | assumption) :
  WS X (.AugAssign (.Name x pos') op e pos) (Oy i te ti):=by
 have he:=he.go;refine⟨?_⟩;intro pins s σ H D I h;obtain⟨v,e1,h⟩:=h;obtain⟨m,hn,hl⟩:=I.loc;have vis:Md X.env.scope x:=by rcases hx with k|k;exact .inl k;exact .inr (.inl k)
 obtain⟨u,r,l⟩:=hl i x v hi e1 vis;refine wpAny_AugAssign_Name ?_;have go:Pp (PX X.prog X.w) X.A (Ts e X.env) (λw s₂=>Pp (PX X.prog X.w) X.A (inplaceOp op u w) (λr s₃=>Pp (PX X.prog X.w) X.A (storeName X.env x r) (λ_=>SP X pins D .next) X.xe s₃) X.xe s₂) X.xe s:=by
  refine cy (he pins s σ H _ I h) λw s1 ⟨y,H1,I1,r1,q1⟩=>?_
  refine cy (ho pins s1 σ H1 v y u w _ I1 r r1 q1) λz s2 ⟨zv,H2,I2,r2,q2⟩=>?_
  exact lX I2 hN hi hx r2 (λs3 I3=>⟨_,H2,I3,q2⟩) hf
 rcases l with ⟨hk,hm⟩|⟨hk,c,hc,hcell⟩
 ·exact UC I.ok.kind hk hn hm go
 ·rcases hk with hk|hk
  ·exact wpAny_loadName_cell I.ok.kind hk hc hcell go
  ·rcases hx with k|k
   ·have:X.env.scope.names.lookup x=M .free:=hk;rw[k] at this;cases this
   ·have:X.env.scope.names.lookup x=M .free:=hk;rw[k] at this;cases this
def OV (f:Int->Int->Int):ND:=λx y H Q=>∃ i j,x=.int i/\y=.int j/\Q (.int (f i j)) H
theorem LX:On X .Add (OV λi j=>i+j):=by
 intro pins s σ H x y v u Q I r1 r2 h;obtain⟨i,j,e1,e2,q⟩:=h;subst e1;subst e2;obtain⟨t,rfl⟩:=r1;obtain⟨t',rfl⟩:=r2;exact iadd_int ⟨.int _,H,I.tok _,⟨_,Y⟩,q⟩
end
section
variable {X:Cx}{pos:Pos}
def LG (c:TT)(tb:TS):TS:=λD σ H=>∃ W:Nat->St->Hp->Prop,(∃ m,W m σ H)/\∀ m σ H,W m σ H ->
 c σ H λb H1=>if b=true then ∃ N:St->Hp->Prop,(∀ σ' H',N σ' H'->∃ m',m'<m/\W m' σ' H')/\tb { D with nx:=N,ct:=N,bk:=D.nx } σ H1 else D.nx σ H1
theorem rn (hp:PassesOwn (PX X.prog X.w) X.A X.env X.xe)(hc:WT X c tc)(hb:cr X body tb):WS X (.While c body [] pos) (LG tc tb):=by
 have hc:=hc.go;have hb:=hb.go;refine⟨?_⟩;intro pins s σ H D I h;obtain⟨W,⟨m0,w0⟩,lF⟩:=h;refine wpAny_While (codeAny_whileLoop (λn s'=>∃ σ' H',aJ X pins σ' H' s'/\W n σ' H') ?_ m0 ⟨σ,H,I,w0⟩);rintro n s1 ⟨σ1,H1,I1,w1⟩;refine SF hp (cy (hc pins s1 σ1 H1 _ I1 (lF n σ1 H1 w1)) λb s2 ⟨H2,I2,q2⟩=>?_);cases b with
 |true=>
  obtain⟨N,hN,q2⟩:=q2;rw[Qh rfl];refine SF hp (cy (hb pins s2 σ1 H2 _ I2 q2) λf s3 q3=>?_);cases f with
  |next=>
   obtain⟨σ3,H3,I3,n3⟩:=q3;obtain⟨m',hm,w3⟩:=hN σ3 H3 n3;exact⟨m',hm,σ3,H3,I3,w3⟩
  |cont=>
   obtain⟨σ3,H3,I3,n3⟩:=q3;obtain⟨m',hm,w3⟩:=hN σ3 H3 n3;exact⟨m',hm,σ3,H3,I3,w3⟩
  |brk=>exact q3
  |ret v=>exact q3
 |false=>
  rw[P3 QK];exact U9 ⟨σ1,H2,I2,q2⟩
end
structure It where
 go:Nat->Hp->Prop
 yld:Nat->Hp->V->Hp->Prop
 stop:Nat->Hp->Prop
def oQ (X:Cx)(pins:List (Po×Obj))(H:Hp)(b:Po):Prop:=
 H b=none/\b≠X.env.locals/\b∉X.fs/\(b∈X.ex\/X.s₀.heap.objs.size<=b)/\(∀ x c,X.env.cells.lookup x=M c->c≠b)/\∀ p∈X.pn++pins,p.1≠b
theorem aJ.fpOk (I:aJ X pins σ H s)(hb:s.heap.objs.size<=b)(hn:H' b=none):oQ X pins H' b:=by
 refine⟨hn,P8 (Pg I.lt hb),I.nofs hb,.inr (PP I.sz hb),λx c e z=>?_,λp hp z=>?_⟩
 ·obtain⟨v,q⟩:=I.cell x c e;exact absurd (Pg q.lt (by rw[z];exact hb)) (Qk _)
 ·exact absurd (Pg (O7 (I.pin p hp).1) (by rw[z];exact hb)) (Qk _)
structure xR (P:PU)(w:Qq)(K:KE)(tg:Rz)(J:It)(fp:List Po)(it:Po)(tn:Nat->Q9->Prop):Prop where
 mem:it∈fp
 obj:∀ i h,tn i h->∀ b∈fp,∃ o,h.get? b=M o/\∀ v,o.data≠.cell v
 keep:∀ i h h',tn i h->(∀ b∈fp,∀ o,h.get? b=M o->h'.get? b=M o)->tn i h'
 item:∀ (X:Cx),X.prog=P->X.w=w->X.K=K->X.calm=true->∀ (i:Nat) (pins:List (Po×Obj)) (s:Pf) (σ:St) (H:Hp) (E:O6->Pf->Prop),aJ X pins σ H s->(∀ b∈fp,oQ X pins H b)->tn i s.heap->J.go i H ->
  Pp (PX P w) X.A (SE (.ref it)) (λr s1=>∃ u,r=M u /\
   Pp (PX P w) X.A (T8 tg (.ref it) u) (λ_ s2=>∃ x H',aJ X pins σ H' s2/\bO x u/\J.yld i H x H'/\tn (i+1) s2.heap/\∀ b∈fp,H' b=none) E s1) E s
 done:∀ (X:Cx),X.prog=P->X.w=w->X.K=K->X.calm=true->∀ (i:Nat) (pins:List (Po×Obj)) (s:Pf) (σ:St) (H:Hp) (E:O6->Pf->Prop),aJ X pins σ H s->(∀ b∈fp,oQ X pins H b)->tn i s.heap->J.stop i H ->
  Pp (PX P w) X.A (SE (.ref it)) (λr s1=>r=none/\aJ X pins σ H s1) E s
 self:∀ (A:QB) (i:Nat) (s:Pf) (Q:O6->Pf->Prop) (E:O6->Pf->Prop),tn i s.heap->Q (.ref it) s->Pp (PX P w) A (Xv (.ref it)) Q E s
abbrev TI:=St->Hp->(It->Hp->Prop)->Prop
def OC (X:Cx)(pins:List (Po×Obj))(σ:St)(tg:Rz)(R:It->Hp->Prop)(itv:O6)(s2:Pf):Prop:=
 ∃ (it:Po) (fp:List Po) (tn:Nat->Q9->Prop) (J:It) (H':Hp),itv=.ref it/\aJ X pins σ H' s2/\xR X.prog X.w X.K tg J fp it tn/\tn 0 s2.heap/\(∀ b∈fp,oQ X pins H' b)/\R J H'
def PI (X:Cx)(tg iter:Rz)(wi:TI):Prop:=
 ∀ (pins:List (Po×Obj)) (s:Pf) (σ:St) (H:Hp) (R:It->Hp->Prop),aJ X pins σ H s->wi σ H R ->
  Pp (PX X.prog X.w) X.A (Ts iter X.env) (λv s1=>Pp (PX X.prog X.w) X.A (Xv v) (OC X pins σ tg R) X.xe s1) X.xe s
structure WI (X:Cx)(tg e:Rz)(t:TI):Prop where
 go:PI X tg e t
theorem Fi (ho:s.heap.get? it=M o) (hc:o.cls=.type n) (hd:o.data=.fields vs)
  (hn:["enumerate","zip","dict_itemiterator","dict_reverseitemiterator","odict_iterator","itertools.zip_longest","itertools.pairwise"].contains n=false)(hQ:Q () s):Pp zzW A (T8 tg (.ref it) u) Q E s:=by
 unfold T8;cases tg<;>first
  |exact O5 hQ
  | (cases u <;> first
    |exact O5 hQ
    | (refine O2 (wpAny_load ho ?_)
       rw[hc,hd];show Pp zzW A (if(["enumerate","zip","dict_itemiterator","dict_reverseitemiterator","odict_iterator","itertools.zip_longest","itertools.pairwise"].contains n&&vs[0]?==M (RO _))=true then _ else _) Q E s;rw[P3 (by intro h;rw[hn,Tv] at h;cases h)];exact O5 hQ))
def Mu (K:KE)(a:Po):It:=
 ⟨λi H=>∃ xs x,bK K H a xs/\xs[i]?=M x,λi H x H'=>H'=H/\∀ xs,bK K H a xs->xs[i]?=M x,λi H=>∃ xs,bK K H a xs/\xs.length<=i⟩
def MG (K:KE)(a:Po):It:=
 ⟨λi H=>∃ xs x,dR K H a xs/\xs[i]?=M x,λi H x H'=>H'=H/\∀ xs,dR K H a xs->xs[i]?=M x,λi H=>∃ xs,dR K H a xs/\xs.length<=i⟩
def HH (lo:Int)(n:Nat):It:=⟨λi _=>i<n,λi H x H'=>H'=H/\x=.int (lo+i),λi _=>n<=i⟩
theorem DX {P:PU}{w:Qq}{K:KE}{tg:Rz}(a it:Po):xR P w K tg (Mu K a) [it] it (λi h=>h.IsListIter it a i) where
 mem:=by simp
 obj:=λi h st b hb=>by
  have e:b=it:=by simpa using hb
  subst e;obtain⟨o,e,c,d⟩:=st;exact⟨o,e,λv z=>by rw[d] at z;cases z⟩
 keep:=λi h h' st k=>st.at λo e=>k it (by simp) o e
 item:=by
  intro X hP hw hK hc i pins s σ H E I hf st hg;subst hP hw hK;obtain⟨xs,x,hq,hx⟩:=hg;obtain⟨its,rv,p,hz⟩:=I.list hq;obtain⟨u,hu,ru⟩:=rv.get hx;obtain⟨f0,f1,f2,f3,f4,f5⟩:=hf it (by simp);refine Wf st p.isList (x:=u) (by simpa using hu) λh' st' sb=>?_
  have I1:aJ X pins σ H { s with heap:=h' }:=I.turned (t':=s.toks) (λb o hb e=>(sb.2 b hb).trans e) f0 f1 f3 f4 f5;obtain⟨o,e,c,d⟩:=id st';exact⟨u,Y,Fi (s:={ s with heap:=h' }) e c d (by decide) ⟨x,H,I1,ru,⟨Y,λys hy=>by rw[I.list_inj hy hq];exact hx⟩,st',λb hb=>(hf b hb).1⟩⟩
 done:=by
  intro X hP hw hK hc i pins s σ H E I hf st hg;subst hP hw hK;obtain⟨xs,hq,hx⟩:=hg;obtain⟨its,rv,p,hz⟩:=I.list hq;obtain⟨f0,f1,f2,f3,f4,f5⟩:=hf it (by simp);have hl:=rv.length;exact wpAny_pyNext_list_end (I.ok.hd hc) st p.isList (by simp;lia) λh' eb=>⟨Y,I.turned (t':=s.toks) (λb o hb e=>eb b o hb e) f0 f1 f3 f4 f5⟩
 self:=λ_ _ _ _ _ st h=>wpAny_pyIter_listiter st h
theorem BX {P:PU}{w:Qq}{K:KE}{tg:Rz}(a it:Po):xR P w K tg (MG K a) [it] it (λi h=>h.IsTupleIter it a i) where
 mem:=by simp
 obj:=λi h st b hb=>by
  have e:b=it:=by simpa using hb
  subst e;obtain⟨o,e,c,d⟩:=st;exact⟨o,e,λv z=>by rw[d] at z;cases z⟩
 keep:=λi h h' st k=>st.at λo e=>k it (by simp) o e
 item:=by
  intro X hP hw hK hc i pins s σ H E I hf st hg;subst hP hw hK;obtain⟨xs,x,hq,hx⟩:=hg;obtain⟨its,rv,p,hz⟩:=I.tuple hq;obtain⟨u,hu,ru⟩:=rv.get hx;obtain⟨f0,f1,f2,f3,f4,f5⟩:=hf it (by simp);refine wpAny_pyNext_tuple_item st (show s.heap.IsTuple a its.toArray from p) (x:=u) (by simpa using hu) λh' st' sb=>?_
  have I1:aJ X pins σ H { s with heap:=h' }:=I.turned (t':=s.toks) (λb o hb e=>(sb.2 b hb).trans e) f0 f1 f3 f4 f5;obtain⟨o,e,c,d⟩:=id st';exact⟨u,Y,Fi (s:={ s with heap:=h' }) e c d (by decide) ⟨x,H,I1,ru,⟨Y,λys hy=>by rw[I.tuple_inj hy hq];exact hx⟩,st',λb hb=>(hf b hb).1⟩⟩
 done:=by
  intro X hP hw hK hc i pins s σ H E I hf st hg;subst hP hw hK;obtain⟨xs,hq,hx⟩:=hg;obtain⟨its,rv,p,hz⟩:=I.tuple hq;obtain⟨f0,f1,f2,f3,f4,f5⟩:=hf it (by simp);have hl:=rv.length;exact wpAny_pyNext_tuple_end (I.ok.hd hc) st (show s.heap.IsTuple a its.toArray from p) (by simp;lia) λh' eb=>⟨Y,I.turned (t':=s.toks) (λb o hb e=>eb b o hb e) f0 f1 f3 f4 f5⟩
 self:=λ_ _ _ _ _ st h=>wpAny_pyIter_tupleiter st h
theorem Cv {P:PU}{w:Qq}{K:KE}{tg:Rz}(it:Po)(lo:Int)(n:Nat):xR P w K tg (HH lo n) [it] it (λi h=>IsRangeIter h it (lo+(i:Nat)*1) ((n:Int)-(i:Nat)) 1) where
 mem:=by simp
 obj:=λi h st b hb=>by
  have e:b=it:=by simpa using hb
  subst e;exact⟨_,st,λv z=>by
   have z':Data.fields _=Data.cell v:=z;cases z'⟩
 keep:=λi h h' st k=>k it (by simp) _ st
 item:=by
  intro X hP hw hK hc i pins s σ H E I hf st hg;subst hP hw hK;obtain⟨f0,f1,f2,f3,f4,f5⟩:=hf it (by simp);have W:=Walks.range (prog:=X.prog) (w:=X.w) (I.ok.hd hc) it lo 1 n;refine W.item i s _ _ hg st λv h' tk hv st' kk=>?_
  obtain⟨t,rfl⟩:=hv;have I1:aJ X pins σ H { s with heap:=h',toks:=tk }:=I.turned (λb o hb e=>kk b o (by simpa using hb) e) f0 f1 f3 f4 f5;refine⟨_,Y,Fi (s:={ s with heap:=h',toks:=tk }) (n:="range_iterator") st' rfl rfl (by decide) ⟨.int (lo+i),H,I1,⟨t,?_⟩,⟨Y,Y⟩,st',λb hb=>(hf b hb).1⟩⟩;rw[Int.mul_one]
 done:=by
  intro X hP hw hK hc i pins s σ H E I hf st hg;subst hP hw hK;obtain⟨f0,f1,f2,f3,f4,f5⟩:=hf it (by simp);exact wpAny_pyNext_range_end (I.ok.hd hc) st (by have:n<=i:=hg;lia) λh' eb=>⟨Y,I.turned (t':=s.toks) (λb o hb e=>eb b o hb e) f0 f1 f3 f4 f5⟩
 self:=λ_ _ _ _ _ st h=>wpAny_pyIter_rangeiter st h
section
variable {X:Cx}{tg:Rz}
theorem Hi {lo hi:Int}{tk:Nat} (I:aJ X pins σ H s) (h1:-(2 ^ 62) <= lo) (h2:lo < 2 ^ 62) (h3:-(2 ^ 62) <= hi) (h4:hi < 2 ^ 62)
  (q:R (HH lo (hi-lo).toNat) H):Pp (PX X.prog X.w) X.A (Xv (.ref s.heap.objs.size)) (OC X pins σ tg R) E { s with heap:=s.heap.push { cls:=.type "range",data:=.fields #[.int lo t,.int hi u,.int 1 v] },toks:=tk }:=by
 refine wpAny_pyIter_range (IsRange.new ..) (small_one h1 h2 h3 h4) ?_;have I1:aJ X pins σ H { s with heap:=s.heap.push { cls:=.type "range",data:=.fields #[.int lo t,.int hi u,.int 1 v] },toks:=tk }:=I.kept λb o e=>O3 _ e
 refine⟨(s.heap.push { cls:=.type "range",data:=.fields #[.int lo t,.int hi u,.int 1 v] }).objs.size,[(s.heap.push { cls:=.type "range",data:=.fields #[.int lo t,.int hi u,.int 1 v] }).objs.size],_,_,H,Y,
  I1.kept (t':=tk) λb o e=>O3 _ e,Cv _ lo (hi-lo).toNat,?_,λb hb=>?_,q⟩
 ·have e1:lo+((0:Nat):Int)*1=lo:=by simp
  have e2:(((hi-lo).toNat:Nat):Int)-((0:Nat):Int)=Builtin.Range.rangeSize lo hi 1:=by rw[Xw];split<;>lia
  show IsRangeIter _ _ (lo+((0:Nat):Int)*1) ((((hi-lo).toNat:Nat):Int)-((0:Nat):Int)) 1;rw[e1,e2];exact O8 _ Y
 ·have e:b=(s.heap.push { cls:=.type "range",data:=.fields #[.int lo t,.int hi u,.int 1 v] }).objs.size:=by simpa using hb
  subst e;exact I1.fpOk (Pe _) (I1.hok.fresh (Pe _))
def Nw (ta:TA):TI:=λσ H R=>ta σ H λvs H1=>∃ j:Int,vs=[.int j]/\-(2^62)<=j/\j<2^62/\R (HH 0 j.toNat) H1
theorem bh (hg:Gl X "range")(hm:X.mg "range"=none)(ha:WA X [a] ta)(hs:PN [a] X.env=[(false,Ts a X.env)]:=by rfl):WI X tg (.Call (.Name "range" p) [a] [] pos) (Nw ta):=by
 have ha:=ha.go;refine⟨?_⟩;intro pins s σ H R I h;refine Call_ (ig I hg hm boot_range (Qx (cy (ha pos pins s σ H _ I h) λus s1 ⟨vs,H1,I1,r1,q1⟩=>?_) hs rfl));obtain⟨j,e,q1,q2,q⟩:=q1;subst e;cases r1 with
 |cons r rr=>
  cases rr;obtain⟨t,rfl⟩:=r;exact call_range_1 (Hi I1 (by lia) (by lia) q1 q2 (by simpa using q))
def Og (wi:TI)(g:TG)(tb:TS):TS:=λD σ H=>wi σ H λJ H1=>∃ W:Nat->Nat->St->Hp->Prop,(∃ m,W 0 m σ H1)/\∀ i m σ H,W i m σ H ->
 (J.stop i H/\D.nx σ H)\/(J.go i H/\∃ N:St->Hp->Prop,(∀ σ' H',N σ' H'->∃ m',m'<m/\W (i+1) m' σ' H')/\∀ x H',J.yld i H x H'->g x σ H' λσ2 H2=>tb { D with nx:=N,ct:=N,bk:=D.nx } σ2 H2)
def kE (fp:List Po)(h:Q9):List (Po×Obj):=fp.filterMap λb=>(h.get? b).map λo=>(b,o)
theorem gg (hb:b∈fp)(e:h.get? b=M o):(b,o)∈kE fp h:=SZ.mpr ⟨b,hb,by rw[e];rfl⟩
theorem rE (hp:p∈kE fp h):p.1∈fp/\h.get? p.1=M p.2:=by
 obtain⟨b,hb,e⟩:=SZ.mp hp;cases q:h.get? b with
 |none=>rw[q] at e;cases e
 |some o=>
  rw[q] at e;have e':(b,o)=p:=O4 e;subst e';exact⟨hb,q⟩
theorem aJ.pinned (I:aJ X pins σ H s)(hf:∀ b∈fp,oQ X pins H b)(ho:∀ b∈fp,∃ o,s.heap.get? b=M o/\∀ v,o.data≠.cell v):aJ X (pins++kE fp s.heap) σ H s:=
 I.pins_of λp hp=>(Qe.mp hp).elim (λz=>I.pin p (Py _ z)) λz=>by
  obtain⟨hb,e⟩:=rE z;obtain⟨f0,f1,f2,_⟩:=hf p.1 hb;obtain⟨o,e',d⟩:=ho p.1 hb;rw[e] at e';cases e';exact⟨e,f0,f1,f2,d⟩
theorem aJ.unpinned (I:aJ X (pins++pl) σ H s):aJ X pins σ H s:=I.pins_of λp hp=>I.pin p (Py _ (RL _ hp))
theorem dW (hp:PassesOwn (PX X.prog X.w) X.A X.env X.xe) (hc:X.calm=true) (hi:WI X tg iter wi) (hg:WG X tg g) (hb:cr X body tb)
  (hs:∀ x,Rg iter X.env x=pure x:=by intro _;rfl):WS X (.For tg iter body [] pos) (Og wi g tb):=by
 have hi:=hi.go;have hg:=hg.go;have hb:=hb.go;refine⟨?_⟩;intro pins s σ H D I h;refine wpAny_For (cy (hi pins s σ H _ I h) λv s1 h1=>cy h1 λitv s2 h2=>?_) hs;obtain⟨it,fp,tn,J,H2,e,I2,T,st2,f2,W,⟨m0,w0⟩,lF⟩:=h2;subst e;have stat:∀ {H':Hp},(∀ b∈fp,H' b=none)->∀ b∈fp,oQ X pins H' b:=λhn b hb=>⟨hn b hb,(f2 b hb).2⟩
 refine codeAny_forLoop_any (λn s'=>∃ i σ' H',aJ X pins σ' H' s'/\tn i s'.heap/\(∀ b∈fp,H' b=none)/\W i n σ' H') ?_ m0 ⟨0,σ,H2,I2,st2,λb hb=>(f2 b hb).1,w0⟩;rintro n s3 ⟨i,σ3,H3,I3,st3,fr3,w3⟩;rcases lF i n σ3 H3 w3 with ⟨stop,qn⟩|⟨go,N,hN,step⟩
 ·refine SF hp (cy (T.done X rfl rfl rfl hc i pins s3 σ3 H3 X.xe I3 (stat fr3) st3 stop) λr s4 ⟨hr,I4⟩=>?_);subst hr;exact U9 ⟨σ3,H3,I4,qn⟩
 ·refine SF hp (cy (T.item X rfl rfl rfl hc i pins s3 σ3 H3 X.xe I3 (stat fr3) st3 go) λr s4 ⟨u,hr,h4⟩=>?_);subst hr;refine SF hp (cy h4 λ_ s5 ⟨x,H5,I5,r5,y5,st5,fr5⟩=>?_);have I5':=I5.pinned (stat fr5) (T.obj _ _ st5);refine SF hp (cy (hg _ s5 σ3 H5 x u _ I5' r5 (step x H5 y5)) λ_ s6 ⟨σ6,H6,I6,q6⟩=>?_);refine SF hp (cy (hb _ s6 σ6 H6 _ I6 q6) λf s7 q7=>?_);have again:∀ {σ7:St}{H7:Hp},aJ X (pins++kE fp s5.heap) σ7 H7 s7->N σ7 H7->∃ m,m<n/\∃ i σ' H',aJ X pins σ' H' s7/\tn i s7.heap/\(∀ b∈fp,H' b=none)/\W i m σ' H':=λ{σ7 H7} I7 n7=>by
   obtain⟨m',hm,w7⟩:=hN σ7 H7 n7;refine⟨m',hm,i+1,σ7,H7,I7.unpinned,T.keep _ _ _ st5 λb hb o e=>(I7.pin (b,o) (Py _ (Py _ (gg hb e)))).1,λb hb=>?_,w7⟩;obtain⟨o,e,d⟩:=T.obj _ _ st5 b hb;exact(I7.pin (b,o) (Py _ (Py _ (gg hb e)))).2.1
  cases f with
  |next=>obtain⟨σ7,H7,I7,n7⟩:=q7;exact again I7 n7
  |cont=>obtain⟨σ7,H7,I7,n7⟩:=q7;exact again I7 n7
  |brk=>obtain⟨σ7,H7,I7,q7⟩:=q7;exact⟨σ7,H7,I7.unpinned,q7⟩
  |ret v=>obtain⟨x7,σ7,H7,I7,r7,q7⟩:=q7;exact⟨x7,σ7,H7,I7.unpinned,r7,q7⟩
end
theorem HF {K:KE}{a:Po}{xs:List V}{g:TG}{tb:TS}{D:vV}{σ:St}{H:Hp} (Pv:Nat->St->Hp->Prop) (h0:Pv 0 σ H) (hl:∀ i σ H,i <= xs.length->Pv i σ H->bK K H a xs)
  (hs:∀ i x σ H,xs[i]?=M x->Pv i σ H->g x σ H λσ2 H2=>tb { D with nx:=Pv (i+1),ct:=Pv (i+1),bk:=D.nx } σ2 H2)(hd:∀ σ H,Pv xs.length σ H->D.nx σ H):
  ∃ W:Nat->Nat->St->Hp->Prop,(∃ m,W 0 m σ H)/\∀ i m σ H,W i m σ H ->
   ((Mu K a).stop i H/\D.nx σ H)\/((Mu K a).go i H/\∃ N:St->Hp->Prop,(∀ σ' H',N σ' H'->∃ m',m'<m/\W (i+1) m' σ' H')/\∀ x H',(Mu K a).yld i H x H'->g x σ H' λσ2 H2=>tb { D with nx:=N,ct:=N,bk:=D.nx } σ2 H2):=by
 refine⟨λi m σ H=>m=xs.length-i/\i<=xs.length/\Pv i σ H,⟨xs.length,by simp,Qm _,h0⟩,?_⟩;rintro i m σ H ⟨rfl,hi,p⟩;have q:=hl i σ H hi p
 by_cases hlt:i<xs.length
 ·refine .inr ⟨⟨xs,xs[i],q,by simp[hlt]⟩,Pv (i+1),λσ' H' p'=>⟨xs.length-(i+1),by lia,Y,hlt,p'⟩,λx H' y=>?_⟩;obtain⟨e,y⟩:=y;subst e;exact hs i x σ _ (y xs q) p
 ·have e:i=xs.length:=by lia
  subst e;exact .inl ⟨⟨xs,q,Pe _⟩,hd σ H p⟩
theorem IS {K:KE}{a:Po}{xs:List V}{g:TG}{tb:TS}{D:vV}{σ:St}{H:Hp} (Pv:Nat->St->Hp->Prop) (h0:Pv 0 σ H) (hl:∀ i σ H,i <= xs.length->Pv i σ H->dR K H a xs)
  (hs:∀ i x σ H,xs[i]?=M x->Pv i σ H->g x σ H λσ2 H2=>tb { D with nx:=Pv (i+1),ct:=Pv (i+1),bk:=D.nx } σ2 H2)(hd:∀ σ H,Pv xs.length σ H->D.nx σ H):
  ∃ W:Nat->Nat->St->Hp->Prop,(∃ m,W 0 m σ H)/\∀ i m σ H,W i m σ H ->
   ((MG K a).stop i H/\D.nx σ H)\/((MG K a).go i H/\∃ N:St->Hp->Prop,(∀ σ' H',N σ' H'->∃ m',m'<m/\W (i+1) m' σ' H')/\∀ x H',(MG K a).yld i H x H'->g x σ H' λσ2 H2=>tb { D with nx:=N,ct:=N,bk:=D.nx } σ2 H2):=by
 refine⟨λi m σ H=>m=xs.length-i/\i<=xs.length/\Pv i σ H,⟨xs.length,by simp,Qm _,h0⟩,?_⟩;rintro i m σ H ⟨rfl,hi,p⟩;have q:=hl i σ H hi p
 by_cases hlt:i<xs.length
 ·refine .inr ⟨⟨xs,xs[i],q,by simp[hlt]⟩,Pv (i+1),λσ' H' p'=>⟨xs.length-(i+1),by lia,Y,hlt,p'⟩,λx H' y=>?_⟩;obtain⟨e,y⟩:=y;subst e;exact hs i x σ _ (y xs q) p
 ·have e:i=xs.length:=by lia
  subst e;exact .inl ⟨⟨xs,q,Pe _⟩,hd σ H p⟩
theorem iS {lo:Int}{n:Nat}{g:TG}{tb:TS}{D:vV}{σ:St}{H:Hp} (Pv:Nat->St->Hp->Prop) (h0:Pv 0 σ H)
  (hs:∀ i σ H,i<n->Pv i σ H->g (.int (lo+i)) σ H λσ2 H2=>tb { D with nx:=Pv (i+1),ct:=Pv (i+1),bk:=D.nx } σ2 H2)(hd:∀ σ H,Pv n σ H->D.nx σ H):
  ∃ W:Nat->Nat->St->Hp->Prop,(∃ m,W 0 m σ H)/\∀ i m σ H,W i m σ H ->
   ((HH lo n).stop i H/\D.nx σ H)\/((HH lo n).go i H/\∃ N:St->Hp->Prop,(∀ σ' H',N σ' H'->∃ m',m'<m/\W (i+1) m' σ' H')/\∀ x H',(HH lo n).yld i H x H'->g x σ H' λσ2 H2=>tb { D with nx:=N,ct:=N,bk:=D.nx } σ2 H2):=by
 refine⟨λi m σ H=>m=n-i/\i<=n/\Pv i σ H,⟨n,by simp,Qm _,h0⟩,?_⟩;rintro i m σ H ⟨rfl,hi,p⟩
 by_cases hlt:i<n
 ·refine .inr ⟨hlt,Pv (i+1),λσ' H' p'=>⟨n-(i+1),by lia,Y,hlt,p'⟩,λx H' y=>?_⟩;obtain⟨e,y⟩:=y;subst e y;exact hs i σ _ hlt p
 ·have e:i=n:=by lia
  subst e;exact .inl ⟨Pe _,hd σ H p⟩
abbrev R2:=V->V->Hp->VK->Prop
def m9 (X:Cx)(f:O6->O6->Sem O6)(r:R2):Prop:=
 ∀ (pins:List (Po×Obj)) (s:Pf) (σ:St) (H:Hp) (x y:V) (v u:O6) (Q:VK),aJ X pins σ H s->bO x v->bO y u->r x y H Q ->
  Pp (PX X.prog X.w) X.A (f v u) (EP X pins σ Q) X.xe s
def Ob (X:Cx)(f:O6->Sem O6)(r:V->Hp->VK->Prop):Prop:=
 ∀ (pins:List (Po×Obj)) (s:Pf) (σ:St) (H:Hp) (x:V) (v:O6) (Q:VK),aJ X pins σ H s->bO x v->r x H Q ->
  Pp (PX X.prog X.w) X.A (f v) (EP X pins σ Q) X.xe s
def dD (X:Cx)(f:O6)(r:List V->Hp->VK->Prop):Prop:=
 ∀ (pins:List (Po×Obj)) (s:Pf) (σ:St) (H:Hp) (xs:List V) (us:List O6) (Q:VK),aJ X pins σ H s->aU xs us->r xs H Q ->
  Pp (PX X.prog X.w) X.A (call f us) (EP X pins σ Q) X.xe s
def Nj (r:R2)(ta tb:TE):TE:=λσ H Q=>ta σ H λx H1=>tb σ H1 λy H2=>r x y H2 Q
def OX (r:V->Hp->VK->Prop)(ta:TE):TE:=λσ H Q=>ta σ H λx H1=>r x H1 Q
inductive rI (C:Int->Int->Prop)(g:Int->Int->V)(x y:V)(H:Hp)(Q:VK):Prop
 |mk (i j:Int) (_:x=.int i) (_:y=.int j) (_:C i j) (_:Q (g i j) H)
inductive Im (g:Int->Int->V)(x y:V)(H:Hp)(Q:VK):Prop
 |mk (i j:Int) (_:x=.int i) (_:y=.int j) (_:Q (g i j) H)
def rU (g:Int->V):V->Hp->VK->Prop:=λx H Q=>∃ i,x=.int i/\Q (g i) H
section
variable {X:Cx}{a b c:Rz}{ta tb tc:TE}{pos:Pos}
theorem KL (ha:PE X a ta) (hb:PE X b tb) {pins:List (Po × Obj)}{s:Pf}{σ:St}{H:Hp}{R:V->V->Hp->Prop} (I:aJ X pins σ H s)
  (h:ta σ H λx H1=>tb σ H1 λy H2=>R x y H2){Q:O6->Pf->Prop}{f:O6->O6->Sem O6}
  (hf:∀ v u s2 x y H2,aJ X pins σ H2 s2->bO x v->bO y u->R x y H2->Pp (PX X.prog X.w) X.A (f v u) Q X.xe s2):
  Pp (PX X.prog X.w) X.A (Ts a X.env) (λv s₁=>Pp (PX X.prog X.w) X.A (Ts b X.env) (λu s₂=>Pp (PX X.prog X.w) X.A (f v u) Q X.xe s₂) X.xe s₁) X.xe s:=by
 refine cy (ha pins s σ H _ I h) λv s1 ⟨x,H1,I1,r1,q1⟩=>?_
 refine cy (hb pins s1 σ H1 _ I1 q1) λu s2 ⟨y,H2,I2,r2,q2⟩=>?_
 exact hf v u s2 x y H2 I2 r1 r2 q2
theorem ar {op:Operator}{r:R2}(ho:m9 X (UJ op) r)(ha:WE X a ta)(hb:WE X b tb):WE X (.BinOp a op b pos) (Nj r ta tb):=by
 have ha:=ha.go;have hb:=hb.go;refine⟨?_⟩;intro pins s σ H Q I h;exact wpAny_BinOp (KL ha hb I h λv u s2 x y H2 I2 rx ry q=>ho pins s2 σ H2 x y v u Q I2 rx ry q)
theorem uK (ho:Ob X (unaryOp op) r)(ha:WE X a ta):WE X (.UnaryOp op a pos) (OX r ta):=by
 have ha:=ha.go;refine⟨?_⟩;intro pins s σ H Q I h;exact UnaryOp_ (cy (ha pins s σ H _ I h) λv s1 ⟨x,H1,I1,r1,q1⟩=>ho pins s1 σ H1 x v Q I1 r1 q1)
theorem NA {f:O6->O6->Sem O6}{C:Int->Int->Prop}{g:Int->Int->Int}
  (rule:∀ (i j:Int) (t u:Tok) (s:Pf) (Q:O6->Pf->Prop) (E:O6->Pf->Prop),C i j->Q (.int (g i j) s.toks) { s with toks:=s.toks+1 }->Pp (PX X.prog X.w) X.A (f (.int i t) (.int j u)) Q E s):
  m9 X f (rI C λi j=>.int (g i j)):=by
 intro pins s σ H x y v u Q I rx ry h;obtain⟨i,j,rfl,rfl,hc,q⟩:=h;obtain⟨t,rfl⟩:=rx;obtain⟨t',rfl⟩:=ry;exact rule i j t t' s _ _ hc ⟨.int (g i j),H,I.tok _,⟨_,Y⟩,q⟩
theorem M5 {f:O6->O6->Sem O6}{g:Int->Int->Int}
  (rule:∀ (i j:Int) (t u:Tok) (s:Pf) (Q:O6->Pf->Prop) (E:O6->Pf->Prop),Q (.int (g i j) s.toks) { s with toks:=s.toks+1 }->Pp (PX X.prog X.w) X.A (f (.int i t) (.int j u)) Q E s):
  m9 X f (Im λi j=>.int (g i j)):=by
 intro pins s σ H x y v u Q I rx ry h;obtain⟨i,j,rfl,rfl,q⟩:=h;obtain⟨t,rfl⟩:=rx;obtain⟨t',rfl⟩:=ry;exact rule i j t t' s _ _ ⟨.int (g i j),H,I.tok _,⟨_,Y⟩,q⟩
theorem D4 {f:O6->O6->Sem O6}{g:Int->Int->Bool}
  (rule:∀ (i j:Int) (t u:Tok) (s:Pf) (Q:O6->Pf->Prop) (E:O6->Pf->Prop),Q (.bool (g i j)) s->Pp (PX X.prog X.w) X.A (f (.int i t) (.int j u)) Q E s):
  m9 X f (Im λi j=>.bl (g i j)):=by
 intro pins s σ H x y v u Q I rx ry h;obtain⟨i,j,rfl,rfl,q⟩:=h;obtain⟨t,rfl⟩:=rx;obtain⟨t',rfl⟩:=ry;exact rule i j t t' s _ _ ⟨.bl (g i j),H,I,Y,q⟩
def NO (i j:Int):Prop:=0<=j/\j<=1000000/\i.natAbs<2^64
theorem cL:m9 X (UJ .Add) (Im λi j=>.int (i+j)):=M5 λ_ _ _ _ _ _ _ q=>add_int q
theorem cC:m9 X (UJ .Sub) (Im λi j=>.int (i-j)):=M5 λ_ _ _ _ _ _ _ q=>sub_int q
theorem mx:m9 X (UJ .Mod) (rI (λ_ j=>0<j) λi j=>.int (i%j)):=NA λi j _ _ _ _ _ hc q=>by
 have h1:(0:Int)<j:=hc;exact mod_int' (by lia) (by rw[Int.fmod_eq_emod_of_nonneg i (by lia)];exact q)
theorem Hd:m9 X (UJ .Pow) (rI NO λi j=>.int (i^j.toNat)):=NA λ_ _ _ _ _ _ _ hc q=>pow_int_small hc.1 hc.2.1 hc.2.2 q
theorem OW {f:O6->Sem O6}{g:Int->Int}
  (rule:∀ (i:Int) (t:Tok) (s:Pf) (Q:O6->Pf->Prop) (E:O6->Pf->Prop),Q (.int (g i) s.toks) { s with toks:=s.toks+1 }->Pp (PX X.prog X.w) X.A (f (.int i t)) Q E s):
  Ob X f (rU λi=>.int (g i)):=by
 intro pins s σ H x v Q I rx h;obtain⟨i,rfl,q⟩:=h;obtain⟨t,rfl⟩:=rx;exact rule i t s _ _ ⟨.int (g i),H,I.tok _,⟨_,Y⟩,q⟩
theorem ud:Ob X (unaryOp .USub) (rU λi=>.int (-i)):=OW λ_ _ _ _ _ q=>neg_int q
end
section
variable {X:Cx}{a b c:Rz}{ta tb tc:TE}{pos:Pos}
theorem H_ (I:aJ X pins σ H s)(q:Q (.bl k) H)(e:k=k'):EP X pins σ Q (.bool k') s:=by
 subst e;exact⟨.bl k,H,I,Y,q⟩
theorem wX:m9 X (Rm .Lt) (Im λi j=>.bl (decide (i<j))):=D4 λ_ _ _ _ _ _ _ q=>lt_int q
theorem rR:m9 X (Rm .LtE) (Im λi j=>.bl (decide (i<=j))):=D4 λ_ _ _ _ _ _ _ q=>le_int q
theorem wL:m9 X (Rm .Gt) (Im λi j=>.bl (decide (j<i))):=D4 λ_ _ _ _ _ _ _ q=>gt_int q
theorem MQ:m9 X (Rm .GtE) (Im λi j=>.bl (decide (j<=i))):=D4 λ_ _ _ _ _ _ _ q=>ge_int q
theorem Ku:m9 X (Rm .Is) (λx y H Q=>y=.non/\Q (.bl (decide (x=.non))) H):=by
 intro pins s σ H x y v u Q I rx ry h;obtain⟨rfl,q⟩:=h;cases ry;refine is_none_gen (H_ I q ?_);cases x<;>first
  |(cases rx;rfl)
  |(obtain⟨t,rfl⟩:=rx;rfl)
theorem aZ (b:Rz)(h:op≠.In:=by decide)(h2:op≠.NotIn:=by decide):V4 op b=false:=by
 have e1:(op==CmpOp.In)=false:=by cases op<;>first|rfl|exact absurd rfl h
 have e2:(op==CmpOp.NotIn)=false:=by cases op<;>first|rfl|exact absurd rfl h2
 cases b<;>simp[V4,e1,e2]
theorem bX (ho:m9 X (Rm op) r)(ha:WE X a ta)(hb:WE X b tb)(hm:V4 op b=false):WE X (.Compare a [op] [b] pos) (Nj r ta tb):=by
 have ha:=ha.go;have hb:=hb.go;refine⟨?_⟩;intro pins s σ H Q I h;exact wpAny_Compare1 (KL ha hb I h λv u s2 x y H2 I2 rx ry q=>ho pins s2 σ H2 x y v u Q I2 rx ry q) hm
def JT (t:TE):TT:=λσ H Q=>t σ H λx H'=>OG x H' Q
theorem be (ho:m9 X (Rm op) r)(ha:WE X a ta)(hb:WE X b tb)(hm:V4 op b=false):WT X (.Compare a [op] [b] pos) (JT (Nj r ta tb)):=by
 have ha:=ha.go;have hb:=hb.go;refine⟨?_⟩;intro pins s σ H Q I h;refine wpAny_isTrue_Compare1 (cy (ha pins s σ H _ I h) λv s1 ⟨x,H1,I1,r1,q1⟩=>cy (hb pins s1 σ H1 _ I1 q1) λu s2 ⟨y,H2,I2,r2,q2⟩=>
  cy (ho pins s2 σ H2 x y v u _ I2 r1 r2 q2) λc s3 ⟨z,H3,I3,r3,k,e,q3⟩=>?_) hm
 subst e;cases r3;exact Rx ⟨H3,I3,q3⟩
def HX (r r':R2)(ta tb tc:TE):TE:=λσ H Q=>ta σ H λx H1=>tb σ H1 λy H2=>r x y H2 λz H3=>∃ k,z=.bl k /\
 (if k=true then tc σ H3 λw' H4=>r' y w' H4 Q else Q (.bl false) H3)
theorem xB (ho:m9 X (Rm op) r) (ho':m9 X (Rm op') r') (ha:WE X a ta) (hb:WE X b tb) (hc:WE X c tc)
  (hm:lastMarks [op,op'] [b,c]=false:=by with_unfolding_all rfl):WE X (.Compare a [op,op'] [b,c] pos) (HX r r' ta tb tc):=by
 have ha:=ha.go;have hb:=hb.go;have hc:=hc.go;refine⟨?_⟩;intro pins s σ H Q I h;refine Compare_chain (cy (ha pins s σ H _ I h) λv s1 ⟨x,H1,I1,r1,q1⟩=>chain_link (cy (hb pins s1 σ H1 _ I1 q1) λu s2 ⟨y,H2,I2,r2,q2⟩=>
  cy (ho pins s2 σ H2 x y v u _ I2 r1 r2 q2) λd s3 ⟨z,H3,I3,r3,k,e,q3⟩=>?_)) hm
 subst e;cases r3;refine Rx ?_;cases k with
 |false=>exact ite_ff ⟨.bl false,H3,I3,Y,q3⟩
 |true=>exact ite_tt (chain_last (cy (hc pins s3 σ H3 _ I3 q3) λw' s4 ⟨z',H4,I4,r4,q4⟩=>ho' pins s4 σ H4 y z' u w' Q I4 r2 r4 q4))
theorem Ez (ho:m9 X (Rm op) r) (ho':m9 X (Rm op') r') (ha:WE X a ta) (hb:WE X b tb) (hc:WE X c tc)
  (hm:lastMarks [op,op'] [b,c]=false:=by with_unfolding_all rfl):WT X (.Compare a [op,op'] [b,c] pos) (JT (HX r r' ta tb tc)):=by
 have ha:=ha.go;have hb:=hb.go;have hc:=hc.go;refine⟨?_⟩;intro pins s σ H Q I h;refine isTrue_chain (cy (ha pins s σ H _ I h) λv s1 ⟨x,H1,I1,r1,q1⟩=>test_link (cy (hb pins s1 σ H1 _ I1 q1) λu s2 ⟨y,H2,I2,r2,q2⟩=>
  cy (ho pins s2 σ H2 x y v u _ I2 r1 r2 q2) λd s3 ⟨z,H3,I3,r3,k,e,q3⟩=>?_)) hm
 subst e;cases r3;refine Rx ?_;cases k with
 |false=>
  obtain⟨k',e',q'⟩:=q3;cases e';exact ite_ff ⟨H3,I3,q'⟩
 |true=>
  refine ite_tt (test_last (cy (hc pins s3 σ H3 _ I3 q3) λw' s4 ⟨z',H4,I4,r4,q4⟩=>cy (ho' pins s4 σ H4 y z' u w' _ I4 r2 r4 q4) λd' s5 ⟨z2,H5,I5,r5,k2,e2,q5⟩=>?_));subst e2;cases r5;exact Rx ⟨H5,I5,q5⟩
theorem qI:(Pz:Nat)<2^63:=by rw[QU];decide
theorem md (r:aU [x] us):∃ u,us=[u]/\bO x u:=by
 cases r with
 |cons r1 r2=>cases r2;exact⟨_,Y,r1⟩
theorem k9 (r:aU [x,y] us):∃ u w',us=[u,w']/\bO x u/\bO y w':=by
 cases r with
 |cons r1 r2=>
  cases r2 with
  |cons r3 r4=>cases r4;exact⟨_,_,Y,r1,r3⟩
theorem AU:dD X (.builtin "abs") (λxs H Q=>∃ i,xs=[.int i]/\Q (.int (if i<0 then -i else i)) H):=by
 intro pins s σ H xs us Q I r h;obtain⟨i,rfl,q⟩:=h;obtain⟨u,rfl,t,rfl⟩:=md r;exact call_abs_int λu tk=>⟨.int (if i<0 then -i else i),H,I.tok _,⟨_,Y⟩,q⟩
theorem qF (hc:X.calm=true):dD X (.builtin "max") (λxs H Q=>∃ i j,xs=[.int i,.int j]/\Q (.int (if j>i then j else i)) H):=by
 intro pins s σ H xs us Q I r h;obtain⟨i,j,rfl,q⟩:=h;obtain⟨u,w',rfl,⟨t,rfl⟩,⟨t',rfl⟩⟩:=k9 r;refine max_two_ints (I.ok.hd hc) λh' tk k=>⟨_,H,I.kept k,?_,q⟩
 by_cases hj:j>i
 ·rw[Qh hj,Qh hj];exact⟨_,Y⟩
 ·rw[P3 hj,P3 hj];exact⟨_,Y⟩
theorem gJ (hc:X.calm=true):dD X (.builtin "min") (λxs H Q=>∃ i j,xs=[.int i,.int j]/\Q (.int (if j<i then j else i)) H):=by
 intro pins s σ H xs us Q I r h;obtain⟨i,j,rfl,q⟩:=h;obtain⟨u,w',rfl,⟨t,rfl⟩,⟨t',rfl⟩⟩:=k9 r;refine min_two_ints (I.ok.hd hc) λh' tk k=>⟨_,H,I.kept k,?_,q⟩
 by_cases hj:j<i
 ·rw[Qh hj,Qh hj];exact⟨_,Y⟩
 ·rw[P3 hj,P3 hj];exact⟨_,Y⟩
end
structure Cn (h:Q9)(x dx C:Po)(mA:Str->Option O6):Prop where
 obj:h.get? x=M (R0 C dx)
 ns:h.Ns1 dx mA
 ne:dx≠x
theorem El {h:Q9}{dx:Po}{mA:Str->Option O6}(n:h.Ns1 dx mA):∃ od,h.get? dx=M od/\∀ name,Vw name od=M (mA name):=by
 obtain⟨o,es,ep,ho,hd,hk,_,hm⟩:=n;refine⟨o,ho,λname=>?_⟩;have e:=hm name;unfold nsFind findBy at e;rw[<- Array.find?_toList] at e;unfold Vw;rw[hd];dsimp only
 split
 ·rename_i y q
  rw[q] at e;exact S0 M e
 ·rename_i q
  rw[q] at e;have a:es.toList.any (·.refKey)=false:=by
   rw[List.any_eq_false];intro y hy;obtain⟨z,t,hkey⟩:=hk y (Array.mem_toList_iff.mp hy);simp[DictEntry.refKey,hkey]
  have a':¬ es.toList.any (·.refKey)=true:=by rw[a];exact QK
  rw[P3 a'];exact S0 M e
theorem Cn.look (I:Cn h x dx C mA):∃ od,Yn h x (R0 C dx) C (M od)/\∀ name,Vw name od=M (mA name):=
 let ⟨od,ho,hl⟩:=El I.ns
 ⟨od,⟨I.obj,Y,Y,ho⟩,hl⟩
section
variable {prog:PU}{w:Qq}{A:QB}{E:O6->Pf->Prop}{s:Pf}{K:KE}{x dx C f:Po}{mA:Str->Option O6}{name:Str}{v:O6}
theorem Ju (X:K.In s.heap) (I:Cn s.heap x dx C mA) (hg:TC K C name=true) (hh:Ui K C=true)
  (ha:P0 K (.ref C) name=M none)(hv:mA name=M v)(hv':Ya v=true)(h:Q v { s with toks:=s.toks+1 }):
  Pp (PX prog w) A (getAttr (.ref x) name expr) Q E s:=by
 obtain⟨od,J,hl⟩:=I.look;exact PySem.W.get_value X J (U0 hg).1 (PySem.W.findObj_own hh ha rfl (by rw[hl,hv])) hv' h
theorem HV (X:K.In s.heap) (I:Cn s.heap x dx C mA) (hg:TC K C name=true)
  (hf:P0 K (.ref C) name=M (M (.ref f)))(ht:RA K (.ref f)=true)(hv:mA name=none)(h:Q (.ref f,[.ref x]) s):
  Pp (PX prog w) A (getMethod (.ref x) name pl) Q E s:=by
 obtain⟨od,J,hl⟩:=I.look;exact PySem.W.method_fn X J (U0 hg).1 (U0 hg).2 hf (RJ.mp ht) (by show(Vw name od).map (·.isSome)=M false;rw[hl,hv];rfl) h
theorem JS (X:K.In s.heap) (I:Cn s.heap x dx C mA)
  (hs:P0 K (.ref C) "__setattr__"=M (M (.builtin "object.__setattr__")))(hp:VN K C=true)(ht:Wv K C name=M none)(hh:Ui K C=true)
  (hw:X6 mA ns)(hsz:ns.length<=Pz)
  (h:∀ h',Cn h' x dx C (λy=>if y=name then M v else mA y)->Qg dx s.heap h'->Q () { s with heap:=h',toks:=s.toks+2 }):
  Pp (PX prog w) A (setAttr (.ref x) name v) Q E s:=by
 obtain⟨od,J,hl⟩:=I.look;refine PySem.W.set_plain X J hs (PySem.W.osa_open (s:={ s with toks:=s.toks+1 }) (r:=none) X J hp ht λb=>?_);obtain⟨cd,hc,hd'⟩:=PySem.W.any_some hh;have hx:s.heap.get? x=M ⟨.ref C,M dx,.plain,#[]⟩:=I.obj;refine O2 (O5 (O2 (O2 (wpAny_loadPart hx (O2 (PySem.W.Looks.here (s:={ s with toks:=s.toks+1 }) (PySem.W.looks_clsIn X hc) ?_))))));rw[hd'];refine O5 (a:=M dx) (O2 (O5 (O2 ?_)));refine wpAny_nsSet1 (s:={ s with toks:=s.toks+1 }) I.ns λh' hn2 hs2=>?_
 obtain⟨oD,esD,epD,hoD,hdD,hcD⟩:=hn2.count (PySem.Within.cons name v hw);refine O2 (wpAny_lookBehind hoD (by rw[hdD];exact pastItsLine_dict (PP hcD (by rw[Qw];lia))) ?_);exact O5 (h _ ⟨(hs2.2 _ (RZ I.ne)).trans I.obj,hn2,I.ne⟩ hs2)
theorem vI (X:K.In s.heap) (hm:UZ K C=true)
  (hi:P0 K (.ref C) "__init__"=M (M (.ref f)))(hf:Vx K (.ref f)=M (.type "function"))
  (h:R5 (PX prog w) (A.under (.builtin "type.__call__" ⟨.ref C::vs,kw⟩)) (.call (.ref f) ⟨.ref (s.heap.objs.size+1)::vs,kw⟩) (PySem.W.InitBack (s.heap.objs.size+1) R)
   { s with heap:=(s.heap.push Rf).push (R0 C s.heap.objs.size) }) :
  R5 (PX prog w) A (.call (.ref C) ⟨vs,kw⟩) R s:=by
 obtain⟨hh,g,d,t,os⟩:=s;exact PySem.W.make_core (PySem.W.makes_of X hm) (PySem.W.looks_findIn X hi) (λself=>PySem.W.bind_fn X self hf) (.inl rfl) h
end
def eJ (f:Str)(v:V):List (Str×V)->List (Str×V)
 |[]=>[(f,v)]
 |(g,x)::r=>if g=f then(g,v)::r else(g,x)::eJ f v r
theorem rM (f g:Str)(v:V):∀ fs:List (Str×V),(eJ f v fs).lookup g=if g=f then M v else fs.lookup g
 |[]=>by
  show Ug g [(f,v)]=_
  by_cases h:g=f
  ·have hb:(g==f)=true:=RJ.mpr h;simp only[Ug,hb,Qh h]
  ·have hb:(g==f)=false:=Rv.mpr h;simp only[Ug,hb,P3 h]
 |(k,x)::r=>by
  have ih:=rM f g v r;rw[show eJ f v ((k,x)::r)=(if k=f then(k,v)::r else(k,x)::eJ f v r) from rfl]
  by_cases hk:k=f
  ·rw[Qh hk]
   by_cases h:g=k
   ·have hb:(g==k)=true:=RJ.mpr h;simp only[Ug,hb,Qh (h.trans hk)]
   ·have hb:(g==k)=false:=Rv.mpr h;simp only[Ug,hb,P3 (λe:g=f=>h (e.trans hk.symm))]
  ·rw[P3 hk]
   by_cases h:g=k
   ·have hb:(g==k)=true:=RJ.mpr h;simp only[Ug,hb,P3 (λe:g=f=>hk (h.symm.trans e))]
   ·have hb:(g==k)=false:=Rv.mpr h;simp only[Ug,hb];exact ih
theorem rA (f:Str)(v:V):∀ fs:List (Str×V),f∈(eJ f v fs).map (·.1)/\∀ g,g∈fs.map (·.1)->g∈(eJ f v fs).map (·.1)
 |[]=>⟨by simp[eJ],λg h=>by simp at h⟩
 |(k,x)::r=>by
  obtain⟨i1,i2⟩:=rA f v r;rw[show eJ f v ((k,x)::r)=(if k=f then(k,v)::r else(k,x)::eJ f v r) from rfl]
  by_cases hk:k=f
  ·rw[Qh hk];subst hk;exact⟨by simp,λg h=>by simpa using h⟩
  ·rw[P3 hk];refine⟨?_,λg h=>?_⟩
   ·rw[PF];exact Pj _ i1
   ·rw[PF] at h ⊢;rcases Pq.mp h with e|e
    ·exact Pq.mpr (.inl e)
    ·exact Pj _ (i2 g e)
theorem rW (f:Str)(v:V):∀ fs:List (Str×V),(eJ f v fs).length<=fs.length+1
 |[]=>by simp[eJ]
 |(k,x)::r=>by
  have ih:=rW f v r;rw[show eJ f v ((k,x)::r)=(if k=f then(k,v)::r else(k,x)::eJ f v r) from rfl]
  by_cases hk:k=f
  ·rw[Qh hk,Qw,Qw];lia
  ·rw[P3 hk,Qw,Qw];lia
theorem nJ.some_of (r:nJ (M v) o):∃ u,o=M u/\bO v u:=by
 cases o with
 |none=>exact(show False from r).elim
 |some u=>exact⟨u,Y,r⟩
theorem nJ.none_of (r:nJ none o):o=none:=by
 cases o with
 |none=>rfl
 |some u=>exact(show False from r).elim
theorem DH (r:bO v u):Ya u=true:=by
 cases v with
 |non=>cases(show u=QT from r);rfl
 |bl b=>cases(show u=UK b from r);rfl
 |int i=>obtain⟨t,e⟩:=(show ∃ t,u=SD i t from r);cases e;rfl
 |str x=>obtain⟨t,e⟩:=(show ∃ t,u=VQ x t from r);cases e;rfl
 |byt b=>obtain⟨t,e⟩:=(show ∃ t,u=Value.bytes b t from r);cases e;rfl
 |flt b=>obtain⟨t,e⟩:=(show ∃ t,u=Yi b t from r);cases e;rfl
 |ref a=>cases(show u=P2 a from r);rfl
 |ty n=>cases(show u=Q0 n from r);rfl
section
variable {P:PU}{w:Qq}{H H':Hp}{h h':Q9}{a C dx:Po}{fs fs':List (Str×V)}
theorem tY (hok:pE P w H h)(e:H a=M (.ins C dx fs)):∃ mA,Cn h a dx C mA/\(∀ f,nJ (fs.lookup f) (mA f))/\X6 mA (fs.map (·.1))/\fs.length<=1000/\H dx=M (.own a):=by
 obtain⟨d,z,ne,ob,mA,n,r,q⟩:=(show ce P w H h a (.ins C dx fs) from hok a _ e)
 exact⟨mA,⟨ob,n,ne⟩,r,q,z,d⟩
end
structure K6 (K:KE)(C:Po):Prop where
 pg:TC K C Str.empty=true
 hd:Ui K C=true
 po:VN K C=true
 sa:P0 K (.ref C) "__setattr__"=M (M (.builtin "object.__setattr__"))
theorem K6.get {K:KE}{C:Po}(c:K6 K C)(f:Str):TC K C f=true:=c.pg
def uh (K:KE)(C:Po)(f:Str):Prop:=P0 K (.ref C) f=M none
theorem uh.taker {K:KE}{C:Po}{f:Str}(n:uh K C f):Wv K C f=M none:=by
 unfold Wv;rw[show P0 K (.ref C) f=M none from n];rfl
structure Gg (K:KE)(C:Po)(m:Str)(f:Po):Prop where
 at_:P0 K (.ref C) m=M (M (.ref f))
 fn:RA K (.ref f)=true
 kp:PM K (.ref f)=true
section
variable {X:Cx}{pins:List (Po×Obj)}{σ:St}{H:Hp}{s:Pf}{a C dx:Po}{fs:List (Str×V)}{f:Str}{v:V}{A:QB}{E:O6->Pf->Prop}
theorem CJ (I:aJ X pins σ H s) (e:H a=M (.ins C dx fs)) (c:K6 X.K C) (n:uh X.K C f) (l:fs.lookup f=M v)
  (h:∀ u s',aJ X pins σ H s'->bO v u->Q u s'):Pp (PX X.prog X.w) A (getAttr (.ref a) f b) Q E s:=by
 obtain⟨mA,O,r,_,_,_⟩:=tY I.hok e;obtain⟨u,hu,ru⟩:=nJ.some_of (v:=v) (o:=mA f) (by rw[<- l];exact r f);exact Ju I.kIn O (c.get f) c.hd n hu (DH ru) (h u _ (I.tok _) ru)
theorem om (I:aJ X pins σ H s) (e:H a=M (.ins C dx fs)) (c:K6 X.K C) (k:Gg X.K C m g) (l:fs.lookup m=none)
  (h:Q (.ref g,[.ref a]) s):Pp (PX X.prog X.w) A (getMethod (.ref a) m pl) Q E s:=by
 obtain⟨mA,O,r,_,_,_⟩:=tY I.hok e;have hn:mA m=none:=nJ.none_of (by rw[<- l];exact r m);exact HV I.kIn O (c.get m) k.at_ k.fn hn h
theorem BU (I:aJ X pins σ H s) (e:H a=M (.ins C dx fs)) (c:K6 X.K C) (n:uh X.K C f) (hl:fs.length < 1000) (ry:bO y u)
  (h:∀ s',aJ X pins σ (upd H a (.ins C dx (eJ f y fs))) s'->Q () s'):Pp (PX X.prog X.w) A (setAttr (.ref a) f u) Q E s:=by
 obtain⟨mA,O,r,wi,_,ho⟩:=tY I.hok e;have hz:(fs.map (·.1)).length<=Pz:=by rw[Pb,QU];lia
 refine JS I.kIn O c.sa c.po n.taker c.hd wi hz λh' O' sb=>h _ ?_
 have hd:∃ o,h'.get? dx=M o:=let ⟨o,_,_,e',_⟩:=O'.ns;⟨o,e'⟩
 refine I.write (x:=a) (e:=dx) (by rw[e];exact True.intro) (.inr ho) (λb q hb z=>(sb.2 b hb).trans z) hd ?_;refine⟨by rw[au O.ne];exact ho,?_,O.ne,O'.obj,_,O'.ns,λg=>?_,λg hg=>?_⟩
 ·have:=rW f y fs;lia
 ·show nJ ((eJ f y fs).lookup g) (if g=f then M u else mA g);rw[rM]
  by_cases q:g=f
  ·rw[Qh q,Qh q];exact ry
  ·rw[P3 q,P3 q];exact r g
 ·by_cases q:g=f
  ·rw[q];exact(rA f y fs).1
  ·refine(rA f y fs).2 g (wi g λz=>hg ?_);show(if g=f then M u else mA g)=none;rw[P3 q];exact z
theorem aJ.made (I:aJ X pins σ H s):aJ X pins σ (upd (upd H s.heap.objs.size (.own (s.heap.objs.size + 1))) (s.heap.objs.size + 1) (.ins C s.heap.objs.size []))
  { s with heap:=(s.heap.push Rf).push (R0 C s.heap.objs.size) }:=by
 have e1:(s.heap.push Rf).get? s.heap.objs.size=M Rf:=O8 s.heap rfl;have e2:((s.heap.push Rf).push (R0 C s.heap.objs.size)).get? (s.heap.objs.size+1)=M (R0 C s.heap.objs.size):=by
  have:=O8 (s.heap.push Rf) (o:=R0 C s.heap.objs.size) Y
  rwa [P'] at this
 have e3:(s.heap.push Rf).Ns s.heap.objs.size (λ_=>none):=⟨Rf,#[],_,e1,Y,(λe he=>absurd he (by simp)),λ_=>rfl⟩
 have I1:=I.laid (a:=s.heap.objs.size) (o:=.own (s.heap.objs.size+1)) (h':=s.heap.push Rf) (t':=s.toks) (λb u q=>O3 _ q) (Pe _) ⟨_,e1⟩;refine I1.laid (a:=s.heap.objs.size+1) (o:=.ins C s.heap.objs.size []) (t':=s.toks) (λb u q=>O3 _ q) (Nat.le_of_eq (P' _ _)) ?_;have ne:s.heap.objs.size≠s.heap.objs.size+1:=Pr (Rc _);refine⟨by rw[au ne,ag],Qm _,ne,e2,λ_=>none,(Heap.Ns1.of_empty e3).at λo q=>O3 _ q,λ_=>True.intro,λy hy=>absurd rfl hy⟩
theorem IE (hb:V3 e f env (Ts e env)=Ts e env)
  (h:Pp (PX prog w) A (Ts e env) (λo s₁=>Pp (PX prog w) A (getAttr o f true) Q E s₁) E s):Pp (PX prog w) A (Ts (.Attribute e f pos) env) Q E s:=
 Attribute_any_ h (by rw[arm_eval_Attribute,hb])
end
section
variable {X:Cx}{pins:List (Po×Obj)}{σ:St}{H:Hp}{s:Pf}{A:QB}{E:O6->Pf->Prop}{Q:O6->Pf->Prop}{c:O6}{b:Bool}
inductive pC (K:KE)(H:Hp):V->O6->Prop where
 |non:pC K H .non (.type "NoneType")
 |bl (x:Bool):pC K H (.bl x) (.type "bool")
 |int (i:Int):pC K H (.int i) (.type "int")
 |str (x:Str):pC K H (.str x) (.type "str")
 |flt (x:UInt64):pC K H (.flt x) (.type "float")
 |lst {a:Po}{xs:List V} (e:H a=M (.lst xs)):pC K H (.ref a) (.type "list")
 |frz {a:Po}{o:Obj}{xs:List V} (e:H a=M (.frz o (.lst xs))):pC K H (.ref a) (.type "list")
 |tup {a:Po}{xs:List V} (e:H a=M (.tup xs)):pC K H (.ref a) (.type "tuple")
 |dK {a:Po}{kvs:List (ij×V)} (e:H a=M (.dK kvs)):pC K H (.ref a) (.type "dict")
 |dT {a:Po}{kvs:List (List ij×V)} (e:H a=M (.dT kvs)):pC K H (.ref a) (.type "dict")
 | ins {a C dx:Po}{fs:List (Str × V)} (e:H a=M (.ins C dx fs)) (cl:K6 K C) (ha:P0 K (.ref C) "__class__"=M (M (.builtin "object.__class__")))
   (hn:Uj K (.builtin "object.__class__") "__get__"=M (M (.builtin "getset_descriptor.__get__")))(htk:U1 K (.builtin "object.__class__")=M true)
   (hm:T6 K C (.type "object")=M true):pC K H (.ref a) (.ref C)
theorem Ie (I:aJ X pins σ H s)(rx:bO x u)(ty:pC X.K H x t):∃ Z,PySem.W.KitX X.K u t Z/\Z s.heap/\u≠.builtin "__main__.__loader__#opaque":=by
 cases ty with
 |non=>cases(show u=QT from rx);exact⟨_,PySem.W.kitx_none,True.intro,λz=>nomatch z⟩
 |bl y=>cases(show u=UK y from rx);exact⟨_,PySem.W.kitx_bool,True.intro,λz=>nomatch z⟩
 |int i=>obtain⟨t,q⟩:=(show ∃ t,u=SD i t from rx);cases q;exact⟨_,PySem.W.kitx_int,True.intro,λz=>nomatch z⟩
 |str y=>obtain⟨t,q⟩:=(show ∃ t,u=VQ y t from rx);cases q;exact⟨_,PySem.W.kitx_str,True.intro,λz=>nomatch z⟩
 |flt y=>obtain⟨t,q⟩:=(show ∃ t,u=Yi y t from rx);cases q;exact⟨_,PySem.W.kitx_float,True.intro,λz=>nomatch z⟩
 |@lst a xs ea=>
  cases(show u=P2 a from rx);obtain⟨_,_,n,_,h1⟩:=(show ce X.prog X.w H s.heap a (.lst xs) from I.hok a _ ea)
  exact⟨_,XQ,⟨_,h1,Y⟩,λz=>nomatch z⟩
 |@frz a ob xs ea=>
  cases(show u=P2 a from rx);obtain⟨_,_,_,n,_,h1⟩:=(show ce X.prog X.w H s.heap a (.frz ob (.lst xs)) from I.hok a _ ea)
  exact⟨_,XQ,⟨_,h1,Y⟩,λz=>nomatch z⟩
 |@tup a xs ea=>
  cases(show u=P2 a from rx);obtain⟨_,_,_,p⟩:=(show ce X.prog X.w H s.heap a (.tup xs) from I.hok a _ ea)
  obtain⟨o,h1,h2,_⟩:=p;exact⟨_,PySem.W.kitx_tuple,⟨o,h1,h2⟩,λz=>nomatch z⟩
 |@dK a kvs ea=>
  cases(show u=P2 a from rx);obtain⟨_,_,vs,_,p⟩:=(show ce X.prog X.w H s.heap a (.dK kvs) from I.hok a _ ea)
  obtain⟨o,es,ep,h1,h2,_⟩:=p;exact⟨_,XO,⟨o,h1,h2.1⟩,λz=>nomatch z⟩
 |@dT a kvs ea=>
  cases(show u=P2 a from rx);obtain⟨_,_,xs,_,o,es,ep,h1,h2,_⟩:=(show ce X.prog X.w H s.heap a (.dT kvs) from I.hok a _ ea)
  exact⟨_,XO,⟨o,h1,h2.1⟩,λz=>nomatch z⟩
 |@ins a C dx fs ea cl ha hn htk hm=>
  cases(show u=P2 a from rx);obtain⟨mA,O,_⟩:=tY I.hok ea;obtain⟨od,J,_⟩:=O.look;exact⟨_,(PySem.W.kitx_own (cl.get _) cl.hd ha hn htk hm),J,λz=>nomatch z⟩
theorem qP (I:aJ X pins σ H s) (rx:bO x u) (ty:pC X.K H x t) (e:Sk X.K t c=M b) (h:∀ tk,Q (.bool b) { s with toks:=tk }) :
  Pp (PX X.prog X.w) A (call (.builtin "isinstance") [u,c]) Q E s:=by
 obtain⟨Z,a,b,c⟩:=Ie I rx ty;exact PySem.W.kia_one a I.kIn b e c h
end
structure Room (k:Nat)(A:QB):Prop where
 hd:A.handled=none
 dp:A.depth+3*k+5<recursionLimit
 un:A.units+16*k+200<cLine
theorem Room.mono {j k:Nat}(r:Room k A)(h:j<=k):Room j A:=⟨r.hd,by have:=r.dp;lia,by have:=r.un;lia⟩
theorem Room.deeper {k:Nat}(r:Room (k+1) A)(env:Env):Room k (A.deeper env):=
 ⟨r.hd,by have:=r.dp;show A.depth+1+3*k+5<_;lia,by have:=r.un;show A.units+3+16*k+200<_;lia⟩
theorem Ck {A:QB}{C:Po}{us:List O6}{kw:List (Str×O6)}:(A.under (.builtin "type.__call__" ⟨.ref C::us,kw⟩)).depth=A.depth+1:=by
 first|rfl|simp[XW,Code.weight,Code.isCreation,Code.isGuard,Code.isCaller,Code.frames,XY,guardIds]
theorem Ci {A:QB}{C:Po}{us:List O6}{kw:List (Str×O6)}:(A.under (.builtin "type.__call__" ⟨.ref C::us,kw⟩)).units=A.units+1:=by
 first|rfl|simp[XW,Code.cUnits,Code.frames,XY]
theorem Room.make {k:Nat}(r:Room (k+1) A)(C:Po)(us:List O6)(kw:List (Str×O6)):Room k (A.under (.builtin "type.__call__" ⟨.ref C::us,kw⟩)):=
 ⟨r.hd,by have:=r.dp;rw[Ck];lia,by have:=r.un;rw[Ci];lia⟩
theorem Room.depth {k:Nat}(r:Room k A):A.depth<recursionLimit:=by have:=r.dp;lia
theorem Room.units {k:Nat}(r:Room k A):A.units+64<cLine:=by have:=r.un;lia
def xM:TA:=λ_ H Q=>Q [] H
def lv (ta:TE)(tr:TA):TA:=λσ H Q=>ta σ H λx H1=>tr σ H1 λxs H2=>Q (x::xs) H2
section
variable {X:Cx}{e:Rz}{es:List Rz}{te:TE}{t:TA}{pos:Pos}
theorem Hk:PA X [] xM:=λ_ _ _ _ H Q I h=>VD ⟨[],H,I,.nil,h⟩
theorem CL (ha:PE X e te)(hr:PA X es t)(hs:PN (e::es) X.env=(false,Ts e X.env)::PN es X.env:=by rfl):PA X (e::es) (lv te t):=by
 intro pos pins s σ H Q I h;rw[hs];show Pp _ _ (spliced ((false,Ts e X.env)::Tu pos (PN es X.env))) _ _ s;refine Vd (cy (ha pins s σ H _ I h) λu s1 ⟨x,H1,I1,r1,q1⟩=>?_);exact cy (hr pos pins s1 σ H1 _ I1 q1) λus s2 ⟨xs,H2,I2,r2,q2⟩=>⟨x::xs,H2,I2,.cons r1 r2,q2⟩
def Oi (t:TA):TE:=λσ H Q=>t σ H λxs H1=>xs.length<=Pz/\∀ p,H1 p=none->Q (.ref p) (upd H1 p (.tup xs))
def NP (t:TA):TE:=λσ H Q=>t σ H λxs H1=>xs.length<=Pz/\∀ p,H1 p=none->Q (.ref p) (upd H1 p (.lst xs))
theorem aY {x1}(h:WA X es t):WE X (.Tuple es x1 pos) (Oi t):=by
 have h:=h.go;refine⟨?_⟩;intro pins s σ H Q I hq;refine wpAny_Tuple_spliced (cy (h pos pins s σ H _ I hq) λus s1 ⟨xs,H1,I1,r,z,q⟩=>⟨by rw[<- r.length];exact z,?_⟩);have hf:H1 s1.heap.objs.size=none:=I1.hok.fresh (Pe _);refine⟨.ref s1.heap.objs.size,upd H1 s1.heap.objs.size (.tup xs),I1.laid (t':=s1.toks) (λb u e=>O3 _ e) (Pe _) ?_,Y,q _ hf⟩;exact⟨z,us,r,⟨_,O8 _ Y,Y,_,Y⟩⟩
theorem bV (h:WA X es t):WE X (.List es pos) (NP t):=by
 have h:=h.go;refine⟨?_⟩;intro pins s σ H Q I hq;refine wpAny_List_spliced (cy (h pos pins s σ H _ I hq) λus s1 ⟨xs,H1,I1,r,z,q⟩=>⟨by rw[<- r.length];exact z,?_⟩);have hf:H1 s1.heap.objs.size=none:=I1.hok.fresh (Pe _);refine⟨.ref s1.heap.objs.size,upd H1 s1.heap.objs.size (.lst xs),I1.laid (t':=s1.toks) (λb u e=>O3 _ e) (Pe _) ?_,Y,q _ hf⟩;exact⟨z,us,0,r,O8 _ Y⟩
end
abbrev Sp:=List V->Hp->VK->XK->Prop
abbrev l7:=List Env->Hp->Pf->XK->O6->Pf->Prop
structure B6 (P:PU)(w:Qq)(K:KE)(mg:Str->Option O6)(base:Q9)(A:QB)(outer:List Env)(s:Pf)(H:Hp):Prop where
 frames:A.frames=M outer
 mod:Mod K mg base
 bs:∀ b o,base.get? b=M o->s.heap.get? b=M o/\H b=none
 bsz:base.objs.size<=s.heap.objs.size
 funs:s.heap.FunFrames base outer
 frf:∀ b∈Bw outer,H b=none
 hok:pE P w H s.heap
 bare:W7 s.gens
def CE (outer:List Env)(P:PU)(w:Qq)(H:Hp)(s:Pf)(Q:VK)(u:O6)(s':Pf):Prop:=
 ∃ v H',s'.os=s.os/\W7 s'.gens/\Un (Bw outer) [] H H' s.heap s'.heap/\pE P w H' s'.heap/\bO v u/\Q v H'
def CR (CX:l7)(outer:List Env)(P:PU)(w:Qq)(H:Hp)(s:Pf)(Q:VK)(E:XK)(r:Result)(s':Pf):Prop:=
 match r with
 |.ok (.ret u)=>CE outer P w H s Q u s'
 |.ok _=>False
 |.error e=>CX outer H s E e s'
structure jm (P:PU)(w:Qq)(K:KE)(mg:Str->Option O6)(base:Q9)(CX:l7)(k:Nat)(f:Po)(fd:QR)(ps:List Str)(sp:Sp):Prop where
 len:∀ vs H Q E,sp vs H Q E->vs.length=ps.length
 run:∀ (A:QB) (outer:List Env) (s:Pf) (H:Hp) (args:Args) (us:List O6) (vs:List V) (Q:VK) (E:XK),Room k A->B6 P w K mg base A outer s H->W' s fd args (ps.zip us)->aU vs us->sp vs H Q E ->
  R5 (PX P w) A (.call (.ref f) args) (CR CX outer P w H s Q E) s
theorem jm.mono {P:PU}{w:Qq}{K:KE}{mg:Str->Option O6}{base:Q9}{CX:l7}{j k:Nat}{f:Po}{fd:QR}{ps:List Str}{sp:Sp} (F:jm P w K mg base CX j f fd ps sp) (h:j <= k) :
  jm P w K mg base CX k f fd ps sp:=⟨F.len,λA outer s H args us vs Q E hr=>F.run A outer s H args us vs Q E (hr.mono h)⟩
theorem B6.make {P:PU}{w:Qq}{K:KE}{mg:Str->Option O6}{base:Q9}{A:QB}{outer:List Env}{s:Pf}{H:Hp} (e:B6 P w K mg base A outer s H) (C:Po) (us:List O6) (kw:List (Str × O6)) :
  B6 P w K mg base (A.under (.builtin "type.__call__" ⟨.ref C::us,kw⟩)) outer s H:=⟨by first|exact e.frames|(simpa [XW,Code.envs,XY,pushEnvs] using e.frames),e.mod,e.bs,e.bsz,e.funs,e.frf,e.hok,e.bare⟩
section
variable {X:Cx}{pins:List (Po×Obj)}{σ:St}{H:Hp}{s s':Pf}
theorem aJ.env0 (I:aJ X pins σ H s):B6 X.prog X.w X.K X.mg X.base X.A X.stack s H:=
 ⟨I.ok.frames,I.ok.mod,I.bs,PP I.ok.bsz I.sz,I.stack,I.stkFree,I.hok,I.bare⟩
theorem aJ.after (I:aJ X pins σ H s)(h:CE X.stack X.prog X.w H s Q u s'):EP X pins σ Q u s':=by
 obtain⟨v,H',os,bare,un,hok,r,q⟩:=h;obtain⟨hh,g,d,t,os'⟩:=s';obtain rfl:os'=s.os:=os;exact⟨v,H',I.call (h':=hh) (g':=g) (d':=d) (t':=t) (ch:=[]) un hok bare (λb z=>absurd z (by simp)),r,q⟩
end
def xH (sp:Sp)(dvs:List V)(E:XK)(t:TA):TE:=λσ H Q=>t σ H λvs H1=>sp (vs++dvs) H1 Q E
def nW (K:KE)(fd:QR)(ps:List Str)(ds:List O6):Prop:=
 ∀ (s:Pf) (us:List O6),K.In s.heap->(us++ds).length=ps.length->W' s fd ⟨us,[]⟩ (ps.zip (us++ds))
theorem nW.all {K:KE}{fd:QR}{ps:List Str}(h:∀ us:List O6,us.length=ps.length->QA fd ⟨us,[]⟩=pure (ps.zip us)):nW K fd ps []:=λs us _ hl=>by
 rw[UQ] at hl ⊢;exact .of_eq (h us hl)
def qL (CX:l7)(X:Cx)(E:XK):Prop:=∀ (pins:List (Po×Obj)) (σ:St) (H:Hp) (s:Pf) (e:O6) (s':Pf),aJ X pins σ H s->CX X.stack H s E e s'->X.xe e s'
section
variable {X:Cx}{CX:l7}{k:Nat}{f C:Po}{fd:QR}{ps:List Str}{sp:Sp}{dvs:List V}{ds:List O6}{E:XK}{x m:Str}{p pos apos:Pos}{e o:Rz}{es:List Rz}{ta:TE}{t:TA}
theorem zG (F:jm X.prog X.w X.K X.mg X.base CX k f fd ps sp) (hr:Room k X.A) (hb:nW X.K fd ps ds) (hd:aU dvs ds) (hx:qL CX X E)
  (I:aJ X pins σ H s)(r:aU vs us)(h:sp (vs++dvs) H Q E):Pp (PX X.prog X.w) X.A (call (.ref f) us) (EP X pins σ Q) X.xe s:=by
 have r2:aU (vs++dvs) (us++ds):=r.append hd;have hl:(us++ds).length=ps.length:=by rw[<- r2.length];exact F.len _ _ _ _ h
 refine UL (Se (F.run X.A X.stack s H ⟨us,[]⟩ (us++ds) (vs++dvs) Q E hr I.env0 (hb s us I.kIn hl) r2 h) λr s' hq=>?_);cases r with
 |error e=>exact hx pins σ H s e s' I hq
 |ok fl=>
  cases fl with
  |ret u=>exact I.after hq
  |next=>exact Rp hq
  |brk=>exact Rp hq
  |cont=>exact Rp hq
theorem Jo (F:jm X.prog X.w X.K X.mg X.base CX k f fd ps sp) (hr:Room k X.A) (hg:Gl X x) (hm:X.mg x=M (.ref f)) (hk:PM X.K (.ref f)=true) (hb:nW X.K fd ps ds) (hd:aU dvs ds) (hx:qL CX X E)
  (ha:PA X (e::es) t)(hdb:(x==("__debug__":Str))=false:=by decide)(he:PN (e::es) X.env=(false,Ts e X.env)::PN es X.env:=by rfl)(hpl:(Tu pos (PN es X.env)).any (·.1)=false:=by rfl):
  PE X (.Call (.Name x p) (e::es) [] pos) (xH sp dvs E t):=by
 intro pins s σ H Q I h;refine QL (iN I hg hm ?_ hdb);refine T5 (h₀:=X.base) I.ok.mod.kin hk (cy (ha pos pins s σ H _ I h) λus s1 ⟨vs,H1,I1,r,q⟩=>⟨I1.kIn,?_⟩) he hpl;exact zG F hr hb hd hx I1 r q
structure Mk (K:KE)(C f:Po):Prop where
 makes:UZ K C=true
 init:P0 K (.ref C) "__init__"=M (M (.ref f))
 fn:RA K (.ref f)=true
 kp:PM K (.ref C)=true
theorem GF (zzW:Mk X.K C f) (F:jm X.prog X.w X.K X.mg X.base CX k f fd ps sp) (hr:Room (k + 1) X.A) (hb:nW X.K fd ps ds) (hd:aU dvs ds)
  (hx:qL CX X E)(I:aJ X pins σ H s)(r:aU vs us)
  (h:∀ x dx,H x=none->H dx=none->dx≠x->sp (.ref x::(vs++dvs)) (upd (upd H dx (.own x)) x (.ins C dx [])) (λv H2=>v=.non/\Q (.ref x) H2) E):
  Pp (PX X.prog X.w) X.A (call (.ref C) us) (EP X pins σ Q) X.xe s:=by
 have hq:=h (s.heap.objs.size+1) s.heap.objs.size (I.hok.fresh (UW _)) (I.hok.fresh (Pe _)) (Pr (Rc _));have I2:=aJ.made (C:=C) I;have r2:aU (V.ref (s.heap.objs.size+1)::(vs++dvs)) (P2 (s.heap.objs.size+1)::(us++ds)):=.cons rfl (r.append hd);have hl:(P2 (s.heap.objs.size+1)::us++ds).length=ps.length:=by
  have e:=r2.length;rw[F.len _ _ _ _ hq] at e;exact e.symm
 refine UL (vI (f:=f) I.kIn zzW.makes zzW.init (RJ.mp zzW.fn) (Se (F.run _ X.stack _ _ ⟨P2 (s.heap.objs.size+1)::us,[]⟩ (P2 (s.heap.objs.size+1)::(us++ds)) _ _ E (hr.make C us [])
  (I2.env0.make C us []) (hb _ (P2 (s.heap.objs.size+1)::us) I2.kIn hl) r2 hq) λr s' hq'=>?_))
 cases r with
 |error e=>exact hx pins σ _ _ e s' I2 hq'
 |ok fl=>
  cases fl with
  |ret u=>
   obtain⟨v,H',I3,rv,ev,q3⟩:=I2.after hq';subst ev;exact⟨rv,⟨V.ref (s.heap.objs.size+1),H',I3,Y,q3⟩⟩
  |next=>exact Rp hq'
  |brk=>exact Rp hq'
  |cont=>exact Rp hq'
end
def PK (X:Cx)(kws:List Vq)(t:TA):Prop:=
 ∀ (pos:Pos) (pins:List (Po×Obj)) (s:Pf) (σ:St) (H:Hp) (Q:List V->Hp->Prop),aJ X pins σ H s->t σ H Q->Pp (PX X.prog X.w) X.A (evalAll ((RQ pos (QM kws X.env)).map (·.2))) (AP X pins σ Q) X.xe s
structure WK (X:Cx)(e:List Vq)(t:TA):Prop where
 go:PK X e t
section
variable {X:Cx}{CX:l7}{k:Nat}{f C:Po}{fd:QR}{ps ks:List Str}{sp:Sp}{E:XK}{x m:Str}{p pos apos kpos:Pos}{e o:Rz}{es:List Rz}{kws:List Vq}{te ta:TE}{t tk:TA}{nm:Option Str}
theorem dU:WK X [] xM:=by
 exact⟨λ_ _ _ _ H Q I h=>wpAny_evalAll_nil ⟨[],H,I,.nil,h⟩⟩
theorem bT (ha:WE X e te)(hr:WK X kws t):WK X (⟨nm,e,kpos⟩::kws) (lv te t):=by
 have ha:=ha.go;have hr:=hr.go;refine⟨?_⟩;intro pos pins s σ H Q I h;show Pp _ _ (evalAll ((do let v <- Ts e X.env;WD pos;pure v)::(RQ pos (QM kws X.env)).map (·.2))) _ _ s;refine wpAny_evalAll_cons (O2 (cy (ha pins s σ H _ I h) λu s1 ⟨x,H1,I1,r1,q1⟩=>O2 (Sg (O5 ?_))));exact cy (hr pos pins s1 σ H1 _ I1 q1) λus s2 ⟨xs,H2,I2,r2,q2⟩=>⟨x::xs,H2,I2,.cons r1 r2,q2⟩
structure jt (K:KE)(fd:QR)(ps ks:List Str)(g:List O6->List O6->List O6)(gV:List V->List V->List V):Prop where
 to:∀ (s:Pf) (us ws:List O6),K.In s.heap->(g us ws).length=ps.length->W' s fd ⟨us,ks.zip ws⟩ (ps.zip (g us ws))
 rel:∀ {vs:List V}{us:List O6}{zs:List V}{ws:List O6},aU vs us->aU zs ws->aU (gV vs zs) (g us ws)
def Hm (sp:Sp)(gV:List V->List V->List V)(E:XK)(t tk:TA):TE:=λσ H Q=>t σ H λvs H1=>tk σ H1 λzs H2=>sp (gV vs zs) H2 Q E
variable {g:List O6->List O6->List O6}{gV:List V->List V->List V}
theorem Di (F:jm X.prog X.w X.K X.mg X.base CX k f fd ps sp) (hr:Room k X.A) (hb:jt X.K fd ps ks g gV) (hx:qL CX X E)
  (I:aJ X pins σ H s)(r:aU vs us)(rz:aU zs ws)(h:sp (gV vs zs) H Q E):Pp (PX X.prog X.w) X.A (call (.ref f) us (ks.zip ws)) (EP X pins σ Q) X.xe s:=by
 have r2:=hb.rel r rz;have hl:(g us ws).length=ps.length:=by rw[<- r2.length];exact F.len _ _ _ _ h
 refine UL (Se (F.run X.A X.stack s H ⟨us,ks.zip ws⟩ (g us ws) (gV vs zs) Q E hr I.env0 (hb.to s us ws I.kIn hl) r2 h) λr s' hq=>?_);cases r with
 |error e=>exact hx pins σ H s e s' I hq
 |ok fl=>
  cases fl with
  |ret u=>exact I.after hq
  |next=>exact Rp hq
  |brk=>exact Rp hq
  |cont=>exact Rp hq
theorem Ga (F:jm X.prog X.w X.K X.mg X.base CX k f fd ps sp) (hr:Room k X.A) (hg:Gl X x) (hm:X.mg x=M (.ref f)) (hk:PM X.K (.ref f)=true) (hb:jt X.K fd ps ks g gV) (hx:qL CX X E)
  (ha:PA X (e::es) t)(hkw:PK X kws tk)(hall:(RQ pos (QM kws X.env)).all (·.1.isSome)=true:=by rfl)(hks:(RQ pos (QM kws X.env)).filterMap (·.1)=ks:=by rfl)
  (hdb:(x==("__debug__":Str))=false:=by decide)(he:PN (e::es) X.env=(false,Ts e X.env)::PN es X.env:=by rfl)
  (hpl:((Tu pos (PN (e::es) X.env)).any (·.1)||(RQ pos (QM kws X.env)).any (·.1.isNone))=false:=by rfl):
  PE X (.Call (.Name x p) (e::es) kws pos) (Hm sp gV E t tk):=by
 intro pins s σ H Q I h;refine QL (iN I hg hm ?_ hdb);refine UY (h₀:=X.base) I.ok.mod.kin hk hall (cy (ha pos pins s σ H _ I h) λus s1 ⟨vs,H1,I1,r,q⟩=>?_) hpl he;refine cy (hkw pos pins s1 σ H1 _ I1 q) λws s2 ⟨zs,H2,I2,rz,q2⟩=>⟨I2.kIn,?_⟩
 rw[hks];exact Di F hr hb hx I2 r rz q2
end
structure ao (N P:List Str)(sc:Uw):Prop where
 kind:sc.kind=.function
 co:sc.isCoroutine=false
 gen:sc.isGenerator=false
 nd:N.Nodup
 pre:N.take P.length=P
 par:∀ x∈P,sc.names.lookup x=M .local\/sc.names.lookup x=M .cell
 nofree:∀ y∈sc.names,y.2≠.free
theorem w_ {kindOf:Str->Option Tl}{x:Str}:∀ {binds:List (Str×O6)}{m:Str->Option O6},(∀ v,(x,v)∉binds)->bindL kindOf binds m x=m x
 |[],_,_=>rfl
 |(n,v)::r,m,h=>by
  unfold bindL;rw[w_ λw hw=>h w (Pj _ hw)]
  split
  ·have:x≠n:=by rintro rfl;exact h v PQ
   simp[this]
  ·rfl
theorem wG {kindOf:Str->Option Tl}{x:Str}:∀ {binds:List (Str×O6)}{m:Str->Option O6},(∀ v,(x,v)∉binds)->bindC kindOf binds m x=m x
 |[],_,_=>rfl
 |(n,v)::r,m,h=>by
  unfold bindC;rw[wG λw hw=>h w (Pj _ hw)]
  split
  ·rfl
  ·have:x≠n:=by rintro rfl;exact h v PQ
   simp[this]
theorem xD {kindOf:Str->Option Tl}{x:Str}{v:O6}:∀ {P:List Str}{vs:List O6}{i:Nat}{m:Str->Option O6},P.Nodup->P[i]?=M x->vs[i]?=M v->kindOf x=M .local ->
  bindL kindOf (P.zip vs) m x=M v
 |[],_,_,_,_,h,_,_=>by simp at h
 |_::_,[],_,_,_,_,h,_=>by simp at h
 |p::P,w::vs,0,m,nd,h1,h2,hk=>by
  simp at h1 h2;subst h1;subst h2;show bindL kindOf ((p,w)::P.zip vs) m p=_;unfold bindL;rw[w_ λv hv=>(Q_.mp nd).1 (SB hv).1,Qh hk];simp
 |p::P,w::vs,i+1,m,nd,h1,h2,hk=>by
  show bindL kindOf ((p,w)::P.zip vs) m x=_;unfold bindL;exact xD (i:=i) (Q_.mp nd).2 (by simpa using h1) (by simpa using h2) hk
theorem wQ {kindOf:Str->Option Tl}{x:Str}{v:O6}:∀ {P:List Str}{vs:List O6}{i:Nat}{m:Str->Option O6},P.Nodup->P[i]?=M x->vs[i]?=M v->kindOf x ≠ M .local ->
  bindC kindOf (P.zip vs) m x=M v
 |[],_,_,_,_,h,_,_=>by simp at h
 |_::_,[],_,_,_,_,h,_=>by simp at h
 |p::P,w::vs,0,m,nd,h1,h2,hk=>by
  simp at h1 h2;subst h1;subst h2;show bindC kindOf ((p,w)::P.zip vs) m p=_;unfold bindC;rw[wG λv hv=>(Q_.mp nd).1 (SB hv).1,P3 hk];simp
 |p::P,w::vs,i+1,m,nd,h1,h2,hk=>by
  show bindC kindOf ((p,w)::P.zip vs) m x=_;unfold bindC;exact wQ (i:=i) (Q_.mp nd).2 (by simpa using h1) (by simpa using h2) hk
def ki (N:List Str)(vs:List V):St:=vs.map M++Px (N.length-vs.length) none
def uW (CX:l7)(P:PU)(w:Qq)(K:KE)(mg:Str->Option O6)(base:Q9)(N:List Str)(qual:Str)(scope:Uw)(f:Po)(cd:O6)(A:QB)(outer:List Env)(s:Pf)(H:Hp)(E:XK):Cx where
 prog:=P
 w:=w
 K:=K
 mg:=mg
 base:=base
 A:=A.deeper (VT qual scope s.heap.objs.size f cd)
 N:=N
 s₀:=s
 H₀:=H
 env:=VT qual scope s.heap.objs.size f cd
 outer:=outer
 stack:=VT qual scope s.heap.objs.size f cd::outer
 ex:=[]
 calm:=true
 fn:=λ_=>true
 pn:=[]
 xe:=λe s'=>Pp (PX P w) (A.deeper (VT qual scope s.heap.objs.size f cd)) (leaving (VT qual scope s.heap.objs.size f cd) e) (λ_ s''=>CX outer H s E e s'') (λe' s''=>CX outer H s E e' s'') s'
theorem Bn {sc:Uw}{n:Nat}{x:Str}(h:sc.names.lookup x=M .cell):∃ c,(T7 n sc.names []).lookup x=M c:=by
 have q:=SW sc.names n [] (.inl h);exact RH.mp q
theorem Es {CX:l7}{P:PU}{w:Qq}{K:KE}{mg:Str->Option O6}{base:Q9}{N ps:List Str}{qual:Str}{scope:Uw}{f:Po}{cd:O6}{A:QB}{outer:List Env}{s s1:Pf}{H:Hp}{E:XK}{us:List O6}{vs:List V}
  (S:ao N ps scope)(hd:A.handled=none)(e0:B6 P w K mg base A outer s H)(hl:vs.length=ps.length)(r:aU vs us)
  (x:InCallC s s.heap.objs.size (bindL (VT qual scope s.heap.objs.size f cd).kindOf (ps.zip us) λ_=>none) (T7 (s.heap.objs.size+1) scope.names []) (bindC (VT qual scope s.heap.objs.size f cd).kindOf (ps.zip us) λ_=>none) s1):
  aJ (uW CX P w K mg base N qual scope f cd A outer s H E) [] (ki N vs) H s1:=by
 have hpl:ps.length<=N.length:=by have:=S0 Xd S.pre;rw[P1] at this;lia
 obtain⟨h1,tk,rfl,hk⟩:=x.done;have noA:∀ b:Po,b∉(uW CX P w K mg base N qual scope f cd A outer s H E).ex:=λb z=>absurd (show b∈([]:List Po) from z) (by simp)
 refine⟨⟨e0.mod,S.kind,Y,Y,Pe _,λy z c h1 h2=>?_,λy hy=>?_,λy c _ h=>?_,λ_=>hd,Around.frames_deeper e0.frames,.inr ⟨Y,Y⟩,λb z=>absurd z (noA b),e0.bs,e0.bsz,λb _ _=>noA b,λb z=>absurd z (noA b),e0.funs,e0.frf⟩,
  Y,e0.bare,Un.kept hk,⟨_,x.toInCall.ns,λi y v h1 h2 h3=>?_⟩,λy c h=>⟨_,x.cell y c h⟩,e0.hok.fresh (Pe _),λy c h=>?_,λp hp=>absurd (show p∈([]:List (Po×Obj)) from hp) (by simp),e0.hok.kept hk,?_⟩
 ·exact name_of_addr x.apart (Ru h1) (Ru h2)
 ·have hy:scope.names.lookup y=M .cell\/scope.names.lookup y=M .free:=hy;rcases hy with hy|hy
  ·exact Bn hy
  ·exact absurd rfl (S.nofree _ (Ru hy))
 ·exact QD (x.above y c (Ru h))
 ·have hi:i<vs.length:=by
   unfold ki at h2
   by_cases hi:i<vs.length
   ·exact hi
   ·rw[Ro (by simpa using hi)] at h2;rw[T4] at h2
    split at h2<;>cases h2
  have ha:vs[i]?=M v:=by
   unfold ki at h2;rw[Ry (by simpa using hi),Ps] at h2;cases e:vs[i]? with
   |none=>rw[e] at h2;cases h2
   |some a=>rw[e] at h2;cases h2;rfl
  obtain⟨u,hu,rv⟩:=r.get ha;have hp:ps[i]?=M y:=by
   rw[<- S.pre,List.getElem?_take_of_lt (by lia)];exact h1
  have ndP:ps.Nodup:=by rw[<- S.pre];exact S.nd.sublist (VJ _ _)
  refine⟨u,rv,?_⟩;rcases S.par y (PL hp) with k|k
  ·exact .inl ⟨k,xD ndP hp hu k⟩
  ·obtain⟨c,e⟩:=Bn (n:=s.heap.objs.size+1) k;refine .inr ⟨.inl k,c,e,?_⟩;have q:=x.cell y c e;rw[wQ ndP hp hu (by show scope.names.lookup y≠_;rw[k];decide)] at q;exact q
 ·exact e0.hok.fresh (QD (x.above y c (Ru h)))
 ·unfold ki;show _=N.length;rw[PV,Pb,Wn];lia
theorem wW {CX:l7}{P:PU}{w:Qq}{K:KE}{mg:Str->Option O6}{base:Q9}{k:Nat}{f:Po}{name qual:Str}{params:Arguments}{body:List Q1}{scope:Uw}{dV kV doc pm cdv ct oc:O6}{an od:Option Po}
  {osl:Array (Option O6)}{N ps:List Str}{sp:Sp}(lk:K.lookup f=M ⟨oc,od,.func (Pu name qual params body scope dV kV doc pm an cdv ct),osl⟩)(hcd:PZ K cdv qual=true)(S:ao N ps scope)
  (len:∀ vs H Q E,sp vs H Q E->vs.length=ps.length)
  (bb:∀ (A:QB) (outer:List Env) (s:Pf) (H:Hp) (vs:List V) (Q:VK) (E:XK),Room k (A.deeper (VT qual scope s.heap.objs.size f cdv))->sp vs H Q E ->
   ∃ t,HI (uW CX P w K mg base N qual scope f cdv A outer s H E) body t/\t { nx:=λ_ H'=>Q .non H',rt:=Q } (ki N vs) H) :
  jm P w K mg base CX (k+1) f (Pu name qual params body scope dV kV doc pm an cdv ct) ps sp:=by
 refine⟨len,λA outer s H args us vs Q E hr e0 hb r hsp=>?_⟩;have hl:=len _ _ _ _ hsp;have KX:K.In s.heap:=e0.mod.kin.keeps λb o e=>(e0.bs b o e).1
 have lim:s.heap.NoLimit:=e0.mod.nolimit.keeps λb o e=>(e0.bs b o e).1
 have hkind:∀ y∈ps.zip us,scope.names.lookup y.1=M .local\/(scope.names.lookup y.1=M .cell/\((T7 (s.heap.objs.size+1) scope.names []).lookup y.1).isSome=true):=λ⟨n,v⟩ hy=>by
  rcases S.par n (SB hy).1 with q|q
  ·exact .inl q
  ·exact .inr ⟨q,SW _ _ _ (.inl q)⟩
 refine codeAny_call_function hr.depth (KX _ _ lk) rfl S.co S.gen rfl (PySem.W.codeRec_of KX hcd) (hb _ _ _ _ ?_);refine wpAny_newFunctionEnv_cells S.kind hkind λenv he s1 x=>?_
 subst he;refine⟨lim.keeps x.toInCall.keep,codeAny_func ?_⟩;obtain⟨t,ht,hq⟩:=bb A outer s H vs Q E (hr.deeper _) hsp;have I:aJ (uW CX P w K mg base N qual scope f cdv A outer s H E) [] (ki N vs) H s1:=Es S hr.hd e0 hl r x;refine QI (ht [] s1 (ki N vs) H _ I hq) (λfl s' hs=>?_) λe s' hs=>hs
 have fin:∀ {σ':St}{H':Hp}{v:V}{u:O6},aJ (uW CX P w K mg base N qual scope f cdv A outer s H E) [] σ' H' s'->bO v u->Q v H'->CE outer P w H s Q u s':=
  λ{σ' H' v u} J rv q=>⟨v,H',J.os,J.bare,J.base,J.hok,rv,q⟩
 cases fl with
 |ret u=>
  obtain⟨v,σ',H',J,rv,q⟩:=hs;exact fin J rv q
 |next=>
  obtain⟨σ',H',J,q⟩:=hs;exact fin (v:=V.non) (u:=QT) J rfl q
 |brk=>
  obtain⟨_,_,_,q⟩:=hs;exact Rp q
 |cont=>
  obtain⟨_,_,_,q⟩:=hs;exact Rp q
section
variable {X:Cx}{x:Str}{p pos:Pos}{e:Rz}{es:List Rz}{t:TA}{id T:String}{r:List V->Hp->VK->Prop}
def OA (r:List V->Hp->VK->Prop)(t:TA):TE:=λσ H Q=>t σ H λvs H1=>r vs H1 Q
theorem av (hc:dD X (.builtin id) r) (hg:Gl X x) (hm:X.mg x=none) (hv:Qt x=M (.builtin id)) (ha:WA X (e :: es) t) (hn:x ≠ "__name__":=by decide) (hdb:(x == ("__debug__":Str))=false:=by decide)
  (he:PN (e::es) X.env=(false,Ts e X.env)::PN es X.env:=by rfl)(hpl:(Tu pos (PN es X.env)).any (·.1)=false:=by rfl):WE X (.Call (.Name x p) (e::es) [] pos) (OA r t):=by
 have ha:=ha.go;refine⟨?_⟩;intro pins s σ H Q I h;refine QL (ig I hg hm hv ?_ hn hdb);exact Uu (cy (ha pos pins s σ H _ I h) λus s1 ⟨vs,H1,I1,r1,q1⟩=>hc pins s1 σ H1 vs us Q I1 r1 q1) he hpl
theorem aW (hc:dD X (.type T) r) (hg:Gl X x) (hm:X.mg x=none) (hv:Qt x=M (.type T)) (ha:WA X (e :: es) t) (hn:x ≠ "__name__":=by decide) (hdb:(x == ("__debug__":Str))=false:=by decide)
  (he:PN (e::es) X.env=(false,Ts e X.env)::PN es X.env:=by rfl)(hpl:(Tu pos (PN es X.env)).any (·.1)=false:=by rfl):WE X (.Call (.Name x p) (e::es) [] pos) (OA r t):=by
 have ha:=ha.go;refine⟨?_⟩;intro pins s σ H Q I h;refine QL (ig I hg hm hv ?_ hn hdb);exact Qx (cy (ha pos pins s σ H _ I h) λus s1 ⟨vs,H1,I1,r1,q1⟩=>hc pins s1 σ H1 vs us Q I1 r1 q1) he hpl
end
end L2
namespace HT
open PySem PyProof.Rows
section
variable {prog:PU}{w:Qq}{A:QB}{E:O6->Pf->Prop}{s:Pf}
def sIx (n d:Nat):Option Int->Nat
 |none=>d
 |some v=>if v<0 then(v+(n:Int)).toNat else min v.toNat n
theorem sIx_none (n d:Nat):sIx n d none=d:=Y
theorem sIx_nat (n d k:Nat):sIx n d (M (k:Int))=min k n:=by
 show(if(k:Int)<0 then((k:Int)+(n:Int)).toNat else min (k:Int).toNat n)=min k n;rw[P3 (by lia),Qc]
end
end HT
namespace L2
open PySem PySem.Spec PyProof.Rows
abbrev TO:=St->Hp->(Option Int->Hp->Prop)->Prop
def PO (X:Cx)(e:Option Rz)(t:TO):Prop:=
 ∀ (pins:List (Po×Obj)) (s:Pf) (σ:St) (H:Hp) (Q:Option Int->Hp->Prop),aJ X pins σ H s->t σ H Q ->
  Pp (PX X.prog X.w) X.A (evalPart e X.env) (λu s'=>∃ o H',aJ X pins σ H' s'/\IsPart u o/\Q o H') X.xe s
structure WO (X:Cx)(e:Option Rz)(t:TO):Prop where
 go:PO X e t
def Jf:TO:=λ_ H Q=>Q none H
def M' (t:TE):TO:=λσ H Q=>t σ H λx H1=>∃ i,x=.int i/\Q (M i) H1
theorem t9:∀ {us:List O6},aU (ns.map V.int) us->Sy us ns:=by
 induction ns with
 |nil=>intro us r;rw[Sa] at r;cases r;exact .nil
 |cons n ns ih=>
  intro us r;rw[PF] at r;cases r with
  |cons r1 r2=>
   obtain⟨t,e⟩:=r1;subst e;exact .cons n t (ih r2)
section
variable {X:Cx}{e:Rz}{te:TE}{lo hi:Option Rz}{tl th:TO}{pos p2:Pos}
theorem AC:WO X none Jf:=by
 refine⟨?_⟩;intro pins s σ H Q I h;rw[evalPart_none];exact O5 ⟨none,H,I,.none,h⟩
theorem Bm (h:WE X e te):WO X (M e) (M' te):=by
 have h:=h.go;refine⟨?_⟩;intro pins s σ H Q I hw;rw[evalPart_some];refine cy (h pins s σ H _ I hw) λu s1 ⟨x,H1,I1,r1,q1⟩=>?_
 obtain⟨i,rfl,q⟩:=q1;obtain⟨t,rfl⟩:=r1;exact⟨M i,H1,I1,.int i t,q⟩
def Op (X:Cx)(r:V->Option Int->Option Int->Hp->VK->Prop):Prop:=
 ∀ (pins:List (Po×Obj)) (s:Pf) (σ:St) (H:Hp) (x:V) (v vl vu:O6) (lo hi:Option Int) (sl:Po) (Q:VK),aJ X pins σ H s->bO x v->s.heap.IsSliceOf sl vl vu .none->IsPart vl lo->IsPart vu hi->r x lo hi H Q ->
  ∃ T id,WN (.type T) "__getitem__"=pure (M (.builtin id))/\s.TypeIs v T/\Pp (PX X.prog X.w) X.A (Yl v (.ref sl)) (EP X pins σ Q) X.xe s
def OU (r:V->Option Int->Option Int->Hp->VK->Prop)(te:TE)(tl th:TO):TE:=λσ H Q=>te σ H λx H1=>tl σ H1 λl H2=>th σ H2 λu H3=>r x l u H3 Q
theorem wZ (hr:Op X r)(he:WE X e te)(hl:WO X lo tl)(hu:WO X hi th):WE X (.Subscript e (.Slice lo hi none p2) pos) (OU r te tl th):=by
 have he:=he.go;have hl:=hl.go;have hu:=hu.go;refine⟨?_⟩;intro pins s σ H Q I h;refine XS (cy (he pins s σ H _ I h) λv s1 ⟨x,H1,I1,r1,q1⟩=>?_);refine wpAny_Slice (cy (hl pins s1 σ H1 _ I1 q1) λvl s2 ⟨l,H2,I2,pl,q2⟩=>cy (hu pins s2 σ H2 _ I2 q2) λvu s3 ⟨u,H3,I3,pu,q3⟩=>?_);rw[evalPart_none];refine O5 ?_;have I4:aJ X pins σ H3 { s3 with heap:=s3.heap.push { cls:=.type "slice",data:=.fields #[vl,vu,.none] } }:=I3.kept (t':=s3.toks) λb ob q=>O3 _ q
 obtain⟨T,id,hT,ht,hg⟩:=hr pins { s3 with heap:=s3.heap.push { cls:=.type "slice",data:=.fields #[vl,vu,.none] } } σ H3 x v vl vu l u s3.heap.objs.size Q I4 r1 (Heap.IsSliceOf.new ..) pl pu q3;show Pp (PX X.prog X.w) X.A (Xz e (.Slice lo hi none p2) v (.ref s3.heap.objs.size)) (EP X pins σ Q) X.xe { s3 with heap:=s3.heap.push { cls:=.type "slice",data:=.fields #[vl,vu,.none] } };exact tail_any (ops:=[.ref s3.heap.objs.size,v]) ht hT hg (by with_unfolding_all rfl)
def A9 (xs:List V)(lo hi:Option Int):List V:=(xs.drop (HT.sIx xs.length 0 lo)).take (HT.sIx xs.length xs.length hi-HT.sIx xs.length 0 lo)
theorem A6 (xs:List V)(lo hi:Option Int):(A9 xs lo hi).length<=xs.length:=by
 unfold A9;rw[P1,R8];lia
end
def C0 (n:Nat)(i:Int):Option Nat:=if 0<=i then(if i<n then M i.toNat else none) else if -(n:Int)<=i then M (i+n).toNat else none
def Dw {α:Type}(xs:List α)(i:Int):Option α:=(C0 xs.length i).bind λj=>xs[j]?
theorem CU {n:Nat}{i:Int}{j:Nat}(h:C0 n i=M j):seqIndex? i n=M j/\j<n/\-(n:Int)<=i/\i<n:=by
 unfold C0 at h
 by_cases h0:0<=i
 ·rw[Qh h0] at h
  by_cases h1:i<n
  ·rw[Qh h1] at h;have e:i.toNat=j:=O4 h;exact⟨by rw[seqIndex_of h0 h1,e],by lia,by lia,h1⟩
  ·rw[P3 h1] at h;cases h
 ·rw[P3 h0] at h
  by_cases h1:-(n:Int)<=i
  ·rw[Qh h1] at h;have e:(i+n).toNat=j:=O4 h;exact⟨by rw[seqIndex_neg (by lia) h1,e],by lia,h1,by lia⟩
  ·rw[P3 h1] at h;cases h
theorem xK {i:Int}(h:Dw xs i=M v):∃ j,seqIndex? i xs.length=M j/\xs[j]?=M v/\j<xs.length/\-(xs.length:Int)<=i/\i<xs.length:=by
 unfold Dw at h;cases e:C0 xs.length i with
 |none=>rw[e] at h;cases h
 |some j=>
  rw[e] at h;obtain⟨h1,h2,h3,h4⟩:=CU e;exact⟨j,h1,h,h2,h3,h4⟩
theorem pZ {α:Type}{xs:List α}{j:Nat}{v:α}(h:xs[j]?=M v):Dw xs (j:Int)=M v:=by
 have hj:j<xs.length:=(Pk.mp h).1;have e:C0 xs.length (j:Int)=M j:=by
  unfold C0;rw[Qh (by lia),Qh (by lia)];simp
 unfold Dw;rw[e];exact h
theorem uj (xs:List α)(v:α):Dw (xs++[v]) (-1)=M v:=by
 have hl:(xs++[v]).length=xs.length+1:=by simp
 have e:C0 (xs++[v]).length (-1)=M xs.length:=by
  unfold C0;rw[hl,P3 (by decide),Qh (by lia)]
  congr 1
  lia
 unfold Dw;rw[e];show(xs++[v])[xs.length]?=M v;simp
def C7 (b:Rz):Prop:=∀ o i,subscripted b false o i=operate [o,i] (Yl o i)
def Gm (X:Cx)(r:R2):Prop:=
 ∀ (value slice:Rz) (pins:List (Po×Obj)) (s:Pf) (σ:St) (H:Hp) (x y:V) (v u:O6) (Q:VK),aJ X pins σ H s->bO x v->bO y u->r x y H Q ->
  subscripted slice false v u=operate [v,u] (Yl v u)->Pp (PX X.prog X.w) X.A (Xz value slice v u) (EP X pins σ Q) X.xe s
def OS (X:Cx)(id:String)(r:V->List V->Hp->VK->Prop):Prop:=
 ∀ (pins:List (Po×Obj)) (s:Pf) (σ:St) (H:Hp) (x:V) (xs:List V) (v:O6) (us:List O6) (Q:VK),aJ X pins σ H s->bO x v->aU xs us->r x xs H Q ->
  Pp (PX X.prog X.w) X.A (call (.builtin id) (v::us)) (EP X pins σ Q) X.xe s
section
variable {X:Cx}{a b:Rz}{ta tb:TE}{pos:Pos}
theorem Gm.or (h:Gm X r)(h':Gm X r'):Gm X (λx y H Q=>r x y H Q\/r' x y H Q):=by
 intro value slice pins s σ H x y v u Q I rx ry q hs;rcases q with q|q
 ·exact h value slice pins s σ H x y v u Q I rx ry q hs
 ·exact h' value slice pins s σ H x y v u Q I rx ry q hs
theorem BL (hr:Gm X r)(ha:WE X a ta)(hb:WE X b tb)(hs:C7 b):WE X (.Subscript a b pos) (Nj r ta tb):=by
 have ha:=ha.go;have hb:=hb.go;refine⟨?_⟩;intro pins s σ H Q I h;exact XS (KL ha hb I h λv u s2 x y H2 I2 rx ry q=>hr a b pins s2 σ H2 x y v u Q I2 rx ry q (hs _ _))
inductive M1 (K:KE)(x y:V)(H:Hp)(Q:VK):Prop
 |mk (p:Po) (xs:List V) (i:Int) (v:V) (_:x=.ref p) (_:y=.int i) (_:bK K H p xs) (_:Dw xs i=M v) (_:Q v H)
inductive Mz (K:KE)(x y:V)(H:Hp)(Q:VK):Prop
 |mk (p:Po) (xs:List V) (i:Int) (v:V) (_:x=.ref p) (_:y=.int i) (_:dR K H p xs) (_:Dw xs i=M v) (_:Q v H)
def No:R2:=λx y H Q=>∃ z i c,x=.str z/\y=.int i/\z.length<=Pz/\Dw z.cps.toList i=M c/\Q (.str ⟨#[c]⟩) H
theorem JE:Gm X (M1 X.K):=by
 intro value slice pins s σ H x y v u Q I rx ry h hs;obtain⟨p,xs,i,z,rfl,rfl,hq,he,q⟩:=h;cases rx;obtain⟨t,rfl⟩:=ry;obtain⟨its,r,pl,hz⟩:=I.list hq;obtain⟨j,h1,h2,h3,h4,h5⟩:=xK he;obtain⟨w,ew,rw'⟩:=r.get h2;have hl:=r.length;have hn:=qI;have fin:EP X pins σ Q w s:=⟨z,H,I,rw',q⟩
 by_cases h0:0<=i
 ·have hj:i.toNat=j:=by
   rw[seqIndex_of h0 h5] at h1;exact O4 h1
  exact item_listR pl.isList h0 (by lia) (by rw[hj];simpa using ew) fin hs
 ·have hj:(i+(its.toArray.size:Int)).toNat=j:=by
   rw[seqIndex_neg (by lia) h4] at h1;rw[PD,<- hl];exact O4 h1
  exact We (x:=w) pl.isList.typeIs slot_list_getitem.lookup
   (wpAny_getItem_list_neg (Q:=λr s'=>r=w/\EP X pins σ Q r s') pl.isList (by lia) (by rw[PD]<;>lia) (by lia) (by rw[hj];simpa using ew) ⟨Y,fin⟩) hs
theorem L0:Gm X (Mz X.K):=by
 intro value slice pins s σ H x y v u Q I rx ry h hs;obtain⟨p,xs,i,z,rfl,rfl,hq,he,q⟩:=h;cases rx;obtain⟨t,rfl⟩:=ry;obtain⟨its,r,pl,hz⟩:=I.tuple hq;obtain⟨j,h1,h2,h3,h4,h5⟩:=xK he;obtain⟨w,ew,rw'⟩:=r.get h2;have hl:=r.length;have hn:=qI;have fin:EP X pins σ Q w s:=⟨z,H,I,rw',q⟩
 exact We (x:=w) pl.typeIs slot_tuple_getitem.lookup
  (getItem_tuple (j:=j) (Q:=λr s'=>r=w/\EP X pins σ Q r s') pl (by lia) (by lia) (by rw[PD,<- hl];exact h1) (by simpa using ew) ⟨Y,fin⟩) hs
theorem K2:Gm X No:=by
 intro value slice pins s σ H x y v u Q I rx ry h hs;obtain⟨z,i,c,rfl,rfl,hz,he,q⟩:=h;obtain⟨t,rfl⟩:=rx;obtain⟨t',rfl⟩:=ry;obtain⟨j,h1,h2,h3,h4,h5⟩:=xK he;have hl:z.cps.toList.length=z.length:=by simp[Str.length]
 rw[hl] at h1 h4 h5;have hn:=qI;exact tail_any (typeIs_str s z t) slot_str_getitem.lookup (getItem_str (c:=c) (by
  have e1:decide (i < -(2^63:Int))=false:=Qf (by lia);have e2:decide (i>=2^63)=false:=Qf (by lia);rw[e1,e2,Xi]) (by rw[h1];simpa using h2) ⟨.str ⟨#[c]⟩,H,I.tok _,⟨_,Y⟩,q⟩) hs
def JR (K:KE):R2:=λx y H Q=>M1 K x y H Q\/Mz K x y H Q\/No x y H Q
theorem K8:Gm X (JR X.K):=JE.or (L0.or K2)
theorem B5 (its:List O6)(n j:Nat)(u:O6):QO (·.setIfInBounds j u) { cls:=.type "list",data:=.seq its.toArray n }={ cls:=.type "list",data:=.seq (its.set j u).toArray n }:=by
 simp[QO]
theorem aJ.lst {pins:List (Po × Obj)}{σ:St}{H:Hp}{s:Pf}{p:Po}{xs:List V} (I:aJ X pins σ H s) (h:H p=M (.lst xs)) :
  ∃ (its:List O6) (n:Nat),aU xs its/\s.heap.get? p=M { cls:=.type "list",data:=.seq its.toArray n }/\xs.length<=Pz:=by
 obtain⟨z,its,n,r,e⟩:=I.hok p _ h;exact⟨its,n,r,e,z⟩
theorem aJ.lstUpd {pins:List (Po × Obj)}{σ:St}{H:Hp}{s:Pf}{p:Po}{xs ys:List V}{its its':List O6}{n n':Nat}{f:Obj->Obj} (I:aJ X pins σ H s) (h:H p=M (.lst xs))
  (ho:s.heap.get? p=M { cls:=.type "list",data:=.seq its.toArray n })(hf:f { cls:=.type "list",data:=.seq its.toArray n }={ cls:=.type "list",data:=.seq its'.toArray n' })(r:aU ys its')(hz:ys.length<=Pz)(t:Nat):
  aJ X pins σ (upd H p (.lst ys)) { s with heap:=s.heap.update p f,toks:=t }:=by
 have e:(s.heap.update p f).get? p=M { cls:=.type "list",data:=.seq its'.toArray n' }:=by
  rw[P7 f ho (by rw[hf]<;>rfl),hf]
 refine I.write (x:=p) (e:=p) (by rw[h];trivial) (.inl rfl) (λb u hb q=>(Q6 _ _ (RZ hb)).trans q) ⟨_,e⟩ ?_;exact⟨hz,its',n',r,e⟩
def Np:V->V->V->Hp->(Hp->Prop)->Prop:=λo i v H Q=>∃ p xs k j,o=.ref p/\i=.int k/\H p=M (.lst xs)/\C0 xs.length k=M j/\Q (upd H p (.lst (xs.set j v)))
theorem uE:MK X Np:=by
 intro pins s σ H o i v ov iv u Q I ro ri rv h;obtain⟨p,xs,k,j,rfl,rfl,hp,hj,q⟩:=h;cases ro;obtain⟨t,rfl⟩:=ri;obtain⟨its,n,r,ho,hz⟩:=I.lst hp;obtain⟨h1,h2,h3,h4⟩:=CU hj;have hl:=r.length;have hn:=qI;have I':aJ X pins σ (upd H p (.lst (xs.set j v))) { s with heap:=s.heap.update p (QO (·.setIfInBounds j u)) }:=
  I.lstUpd hp ho (B5 its n j u) (r.set rv j) (by rw[Wo];exact hz) s.toks
 by_cases h0:0<=k
 ·have hk:k.toNat=j:=by
   rw[seqIndex_of h0 h4] at h1;exact O4 h1
  exact PySem.W.ki_setAt ho h0 (by lia) (by rw[PD,<- hl];exact h4) (by rw[hk];exact⟨_,I',q⟩)
 ·have hk:(k+(its.toArray.size:Int)).toNat=j:=by
   rw[seqIndex_neg (by lia) h3] at h1;rw[PD,<- hl];exact O4 h1
  exact PySem.W.ki_setBack ho (by lia) (by rw[PD,<- hl];exact h3) (by lia) (by rw[hk];exact⟨_,I',q⟩)
theorem xZ (lo hi:Option Int)(n:Nat):(Uo lo hi none n).1=((HT.sIx n 0 lo:Nat):Int)/\(Uo lo hi none n).2.1=((HT.sIx n n hi:Nat):Int)/\(Uo lo hi none n).2.2=1:=by
 refine⟨?_,?_,Y⟩
 ·cases lo with
  |none=>simp[Uo,HT.sIx]
  |some i=>
   simp only[Uo,HT.sIx,X_,show(1:Int)>0 by decide,SK]
   by_cases h:i<0
   ·simp only[h,SK]<;>lia
   ·simp only[h,Ss]<;>lia
 ·cases hi with
  |none=>simp[Uo,HT.sIx]
  |some i=>
   simp only[Uo,HT.sIx,X_,show(1:Int)>0 by decide,SK]
   by_cases h:i<0
   ·simp only[h,SK]<;>lia
   ·simp only[h,Ss]<;>lia
theorem wl (its:List O6)(lo hi:Option Int):slicePick its.toArray lo hi none=((its.drop (HT.sIx its.length 0 lo)).take (HT.sIx its.length its.length hi-HT.sIx its.length 0 lo)).toArray:=by
 obtain⟨h1,h2,h3⟩:=xZ lo hi its.toArray.size;unfold slicePick;rw[h1,h2,h3];simp only[sliceRange_one,pick_run,PD]<;>rfl
def ME (K:KE):V->Option Int->Option Int->Hp->VK->Prop:=λx lo hi H Q=>∃ a xs,x=.ref a/\bK K H a xs/\∀ p,H p=none->Q (.ref p) (upd H p (.lst (A9 xs lo hi)))
theorem Jt:Op X (ME X.K):=by
 intro pins s σ H x v vl vu lo hi sl Q I rx hs pl pu h;obtain⟨a,xs,rfl,hx,q⟩:=h;cases rx;obtain⟨its,r,ht,hz⟩:=I.list hx;have hlen:=r.length;refine⟨"list",_,slot_list_getitem.lookup,ht.isList.typeIs,?_⟩;refine wpAny_getItem_list_slice ht.isList hs pl pu .none (by simp) ?_ (by rw[PD]<;>lia);rw[wl,<- hlen];refine⟨.ref s.heap.objs.size,_,I.laid (t':=s.toks) (o:=.lst (A9 xs lo hi)) (λb ob q=>O3 _ q) (Pe _) ?_,Y,q _ (I.hok.fresh (Pe _))⟩;exact⟨PP (A6 xs lo hi) hz,_,0,(r.drop (HT.sIx xs.length 0 lo)).take (HT.sIx xs.length xs.length hi-HT.sIx xs.length 0 lo),O8 _ Y⟩
theorem yu:dD X (.builtin "len") (λxs H Q=>∃ p ys,xs=[.ref p]/\(bK X.K H p ys\/dR X.K H p ys)/\Q (.int ys.length) H):=by
 intro pins s σ H xs us Q I r h;obtain⟨p,ys,rfl,hq,q⟩:=h;obtain⟨u,rfl,rx⟩:=md r;cases rx;have hn:=qI;rcases hq with hq|hq
 ·obtain⟨its,r',pl,hz⟩:=I.list hq;have hlen:=r'.length;exact Calls.call_len_list pl.isList (by simp only[PD]<;>lia) ⟨.int ys.length,H,I.tok _,⟨s.toks+1,by rw[PD,hlen]⟩,q⟩
 ·obtain⟨its,r',pl,hz⟩:=I.tuple hq;have hlen:=r'.length;exact len_tuple pl (by simp only[PD]<;>lia) ⟨.int ys.length,H,I.tok _,⟨s.toks+1,by rw[PD,hlen]⟩,q⟩
theorem xW:dD X (.type "list") (λxs H Q=>∃ p ys,xs=[.ref p]/\(bK X.K H p ys\/dR X.K H p ys)/\∀ l,H l=none->Q (.ref l) (upd H l (.lst ys))):=by
 intro pins s σ H xs us Q I r h;obtain ⟨p,ys,rfl,hq,q⟩:=h;obtain ⟨u,rfl,rx⟩:=md r;cases rx;have fin:∀ (its:List O6),aU ys its->ys.length <= Pz->∀ (h':Q9) (c':Nat),(∀ b o',s.heap.get? b=M o'->h'.get? b=M o') ->
   h'.get? s.heap.objs.size=M { cls:=.type "list",dict:=none,data:=.seq its.toArray c',slots:=#[] }->EP X pins σ Q (.ref s.heap.objs.size) { s with heap:=h' }:=λits r' hz h' c' kp e=>
  ⟨.ref s.heap.objs.size,_,I.laid (t':=s.toks) kp (Pe _) (show ce X.prog X.w _ h' _ (.lst ys) from⟨hz,its,c',r',e⟩),Y,q _ (I.hok.fresh (Pe _))⟩
 rcases hq with hq|hq
 ·obtain⟨its,r',pl,hz⟩:=I.list hq;have hlen:=r'.length;obtain⟨o,ho,hc,n,hd⟩:=pl.isList;exact call_list_seq p (.inl rfl) ho hc hd (λh' c' kp e=>fin its r' hz h' c' kp e) (by simp only[PD]<;>lia)
 ·obtain⟨its,r',pl,hz⟩:=I.tuple hq;have hlen:=r'.length;obtain⟨o,ho,hc,n,hd⟩:=pl;exact call_list_seq p (.inr rfl) ho hc hd (λh' c' kp e=>fin its r' hz h' c' kp e) (by simp only[PD]<;>lia)
theorem v7:dD X (.type "tuple") (λxs H Q=>∃ p ys,xs=[.ref p]/\((bK X.K H p ys/\∀ l,H l=none->Q (.ref l) (upd H l (.tup ys)))\/(dR X.K H p ys/\Q (.ref p) H))):=by
 intro pins s σ H xs us Q I r h;obtain⟨p,ys,rfl,h⟩:=h;obtain⟨u,rfl,rx⟩:=md r;cases rx;rcases h with ⟨hq,q⟩|⟨hq,q⟩
 ·obtain⟨its,r',pl,hz⟩:=I.list hq;have hlen:=r'.length;refine call_tuple_list pl.isList (λh' kp=>?_) (by simp only[PD]<;>lia);have I1:aJ X pins σ H { s with heap:=h' }:=I.kept (t':=s.toks) kp;have I2:aJ X pins σ (upd H h'.objs.size (.tup ys)) { s with heap:=h'.push { cls:=.type "tuple",data:=.seq its.toArray } }:=
   I1.laid (t':=s.toks) (λb o e=>O3 _ e) (Pe _) (show ce X.prog X.w _ _ _ (.tup ys) from⟨hz,its,r',IsTup.new _ _⟩)
  exact⟨.ref h'.objs.size,_,I2,rfl,q _ (I1.hok.fresh (Pe _))⟩
 ·obtain⟨its,r',pl,hz⟩:=I.tuple hq;exact call_tuple_same pl ⟨.ref p,H,I,rfl,q⟩
def OB (K:KE)(T:String)(x:V)(H:Hp):Prop:=match x with
 |.str _=>T="str"
 |.int _=>T="int"
 | .ref p=>(T="list"/\∃ xs,bK K H p xs)\/(T="tuple"/\∃ o,K.lookup p=M o/\o.cls=.type "tuple"/\o.dict=none) \/
   (T="dict"/\((∃ kvs,H p=M (.dK kvs))\/∃ kvs,H p=M (.dT kvs)))\/(T="set"/\∃ S n,H p=M (.set S n))
 |_=>False
theorem GW (I:aJ X pins σ H s) (r:bO x v) (ty:OB X.K T x H) :
  s.TypeIs v T/\∀ a,v=.ref a->∃ ob,s.heap.get? a=M ob/\ob.dict=none:=by
 cases x with
 |str z=>
  obtain⟨t,rfl⟩:=r;cases(show T="str" from ty);exact⟨typeIs_str s z t,λ_ e=>nomatch e⟩
 |int i=>
  obtain⟨t,rfl⟩:=r;cases(show T="int" from ty);exact⟨WM s i t,λ_ e=>nomatch e⟩
 |ref p=>
  cases r;rcases ty with ⟨rfl,xs,hq⟩|⟨rfl,o,hk,hc,hd⟩|⟨rfl,hk⟩|⟨rfl,S,n,hk⟩
  ·obtain⟨its,_,pl,_⟩:=I.list hq;refine⟨pl.isList.typeIs,λa e=>?_⟩;cases e;obtain⟨o,n,e,c,hd,_⟩:=pl;exact⟨o,e,hd⟩
  ·refine⟨⟨o,I.kIn p o hk,hc⟩,λa e=>?_⟩;cases e;exact⟨o,I.kIn _ o hk,hd⟩
  ·have z:∃ o,s.heap.get? p=M o/\o.ExactDict:=by
    rcases hk with ⟨kvs,hk⟩|⟨kvs,hk⟩
    ·obtain⟨_,_,_,_,o,_,_,e,ex,_⟩:=I.hok p _ hk;exact⟨o,e,ex⟩
    ·obtain⟨_,_,_,_,o,_,_,e,ex,_⟩:=I.hok p _ hk;exact⟨o,e,ex⟩
   obtain⟨o,e,ex⟩:=z;refine⟨⟨o,e,ex.1⟩,λa e2=>?_⟩;cases e2;exact⟨o,e,ex.2.1⟩
  ·obtain⟨o,_,_,_,e,ex,_⟩:=I.hok p _ hk;refine⟨⟨o,e,ex.1⟩,λa e2=>?_⟩;cases e2;exact⟨o,e,ex.2.1⟩
 |_=>exact Rp ty
def O0 (K:KE)(T:String)(r:V->List V->Hp->VK->Prop)(to:TE)(t:TA):TE:=λσ H Q=>to σ H λx H1=>OB K T x H1/\t σ H1 λxs H2=>r x xs H2 Q
variable {o e:Rz}{es:List Rz}{to:TE}{t:TA}{name:Str}{apos cpos:Pos}{T id:String}{r:V->List V->Hp->VK->Prop}
theorem uF (pa:PlainAttrs T) (slot:Slot T name id) (hty:typeOf (.builtin id)=pure (.type "method_descriptor")) (hm:OS X id r) (ho:WE X o to) (ha:WA X (e :: es) t)
  (hbase:V3 o name X.env (Ts o X.env)=Ts o X.env:=by rfl)
  (hfew:((Tu cpos (PN (e::es) X.env)).all (λx=>!x.1)&&(RQ cpos (QM [] X.env)).all (λx=>x.1.isSome)
   &&decide ((e::es).length+([]:List Vq).length+(if([]:List Vq).isEmpty then 0 else 1)<30))=true:=by rfl)
  (hline:(apos.endLine==cpos.line)=true:=by rfl)(hs:PN (e::es) X.env=(false,Ts e X.env)::PN es X.env:=by rfl)(hplain:(Tu cpos (PN es X.env)).any (·.1)=false:=by rfl):
  WE X (.Call (.Attribute o name apos) (e::es) [] cpos) (O0 X.K T r to t):=by
 have ho:=ho.go;have ha:=ha.go;refine⟨?_⟩;intro pins s σ H Q I h;refine wpAny_Call_method_late hbase hfew hline rfl (cy (ho pins s σ H _ I h) λv s1 ⟨x,H1,I1,r1,ty,q1⟩=>?_);obtain⟨h1,h2⟩:=GW I1 r1 ty;refine⟨T,id,pa,slot,hty,h1,h2,?_⟩;have hA:=ha cpos pins s1 σ H1 _ I1 q1;rw[hs] at hA ⊢;refine V_ (by show(false||(Tu cpos (PN es X.env)).any (·.1))=false;rw[hplain]<;>rfl) (Calls.evalArgs_plain ?_);exact cy hA λus s2 ⟨vs,H2,I2,r2,q2⟩=>hm pins s2 σ H2 x vs v us Q I2 r1 r2 q2
end
def OH (X:Cx)(id:String)(r:V->List V->Hp->VK->Prop):Prop:=
 ∀ (pins:List (Po×Obj)) (s:Pf) (σ:St) (H:Hp) (x:V) (xs:List V) (v:O6) (us:List O6) (Q:VK),aJ X pins σ H s->bO x v->aU xs us->r x xs H Q ->
  Pp (PX X.prog X.w) X.A (call (.builtin id) (v::us)) (EP X pins σ Q) X.xe s
theorem aU.one:∀ {x:V}{us:List O6},aU [x] us->∃ u,us=[u]/\bO x u
 |_,_,.cons r .nil=>⟨_,Y,r⟩
theorem aU.rep (h:aU xs us):∀ k:Nat,aU (Px k xs).flatten (Px k us).flatten
 |0=>.nil
 |k+1=>by
  rw[Rs,Rs,Tk,Tk];exact aU.append h (aU.rep h k)
theorem wJ (its:List O6):∀ (k:Nat) (acc:List O6),
  Yq (λx1 x2=>x1++x2) acc.toArray (Px k its.toArray)=(acc++(Px k its).flatten).toArray
 |0,acc=>by simp
 |k+1,acc=>by
  have e:acc.toArray++its.toArray=(acc++its).toArray:=by simp
  have e2:(acc++its)++(Px k its).flatten=acc++(Px (k+1) its).flatten:=by
   rw[Rs,Tk,Sz]
  rw[<- e2,<- wJ its k (acc++its),<- e,Rs,List.foldl_cons]
section
variable {X:Cx}{pins:List (Po×Obj)}{σ:St}{H:Hp}{s:Pf}{l b:Po}{xs ys zs:List V}
theorem aJ.lset {its its':List O6}{n:Nat}{f:Array O6->Array O6}{t':Nat} (I:aJ X pins σ H s) (hH:H l=M (.lst xs))
  (e:s.heap.get? l=M { cls:=.type "list",data:=.seq its.toArray n })(hf:f its.toArray=its'.toArray)(hv:aU ys its')(hz:ys.length<=Pz):
  aJ X pins σ (upd H l (.lst ys)) { s with heap:=s.heap.update l (QO f),toks:=t' }:=by
 have q:=PySem.IsL.update e f;rw[hf] at q;refine I.write (x:=l) (e:=l) (by rw[hH];exact trivial) (.inl rfl) (λb' u hb hu=>(Q6 s.heap (QO f) (RZ hb)).trans hu) ⟨_,q⟩ ?_;exact⟨hz,its',_,hv,q⟩
theorem aJ.lnew {t':Nat} (I:aJ X pins σ H s) (hv:aU ys its) (hz:ys.length <= Pz) :
  aJ X pins σ (upd H s.heap.objs.size (.lst ys)) { s with heap:=s.heap.push { cls:=.type "list",data:=.seq its.toArray },toks:=t' }:=
 I.laid (λ_ _ q=>O3 _ q) (Pe _) ⟨hz,its,0,hv,O8 _ Y⟩
theorem aJ.fresh (I:aJ X pins σ H s):H s.heap.objs.size=none:=I.hok.fresh (Pe _)
theorem aJ.lstM (I:aJ X pins σ H s)(hH:H l=M (.lst xs)):xs.length<=Pz/\∃ (its:List O6) (n:Nat),aU xs its/\xs.length=its.length/\s.heap.get? l=M { cls:=.type "list",data:=.seq its.toArray n }:=by
 obtain⟨z,its,n,r,e⟩:=I.hok l _ hH;exact⟨z,its,n,r,r.length,e⟩
theorem Fm {n:Nat}(h:n<=Pz):TN n=false:=by
 unfold TN;exact Qf (by lia)
end
section
variable {X:Cx}
def I9:V->List V->Hp->VK->Prop:=λx vs H Q=>∃ l xs y,x=.ref l/\vs=[y]/\H l=M (.lst xs)/\xs.length<Pz/\Q .non (upd H l (.lst (xs++[y])))
theorem mT:OH X "list.append" I9:=by
 intro pins s σ H x vs v us Q I rx rv h;obtain⟨l,xs,y,rfl,rfl,hH,hz,q⟩:=h;cases rx;obtain⟨u,rfl,ru⟩:=rv.one;obtain⟨z,its,n,r,hl,e⟩:=I.lstM hH;refine VS RT ⟨_,e,Y⟩ F.entry_list_append (F.args_list_append_2 _ _) (PySem.list_append l its.toArray n u (by rw[PD];lia)) ⟨e,?_⟩;refine⟨.non,_,I.lset (its':=its++[u]) hH e (by simp) (r.append (.cons ru .nil)) ?_,Y,q⟩;rw[PV,List.length_singleton];lia
def Od:R2:=λx y H Q=>∃ l b xs zs,x=.ref l/\y=.ref b/\H l=M (.lst xs)/\H b=M (.lst zs)/\xs.length+zs.length<=Pz/\∀ p,H p=none->Q (.ref p) (upd H p (.lst (xs++zs)))
theorem BA:m9 X (UJ .Add) Od:=by
 intro pins s σ H x y v u Q I rx ry h;obtain⟨l,b,xs,zs,rfl,rfl,hH,hB,hz,q⟩:=h;cases rx;cases ry;obtain⟨z,its,n,r,hl,e⟩:=I.lstM hH;obtain⟨z2,its2,n2,r2,hl2,e2⟩:=I.lstM hB;refine PySem.P.add_list e e2 ?_ (by rw[PD,PD];lia);have ea:its.toArray++its2.toArray=(its++its2).toArray:=by simp
 rw[ea];exact⟨.ref _,_,I.lnew (t':=s.toks) (r.append r2) (by rw[PV];lia),Y,q _ I.fresh⟩
def Lw:R2:=λx y H Q=>∃ l k xs,x=.ref l/\y=.int k/\H l=M (.lst xs)/\-(2^63)<=k/\k<2^63/\xs.length*k.toNat<=Pz /\
 ∀ p,H p=none->Q (.ref p) (upd H p (.lst (Px k.toNat xs).flatten))
theorem I_ (xs:List α)(k:Nat):(Px k xs).flatten.length=k*xs.length:=by
 induction k with
 |zero=>simp
 |succ k ih=>rw[Rs,Tk,PV,ih,TW,Nat.add_comm]
theorem Gk:m9 X (UJ .Mult) Lw:=by
 intro pins s σ H x y v u Q I rx ry h;obtain⟨l,k,xs,rfl,rfl,hH,h1,h2,hz,q⟩:=h;cases rx;obtain⟨t,rfl⟩:=ry;obtain⟨z,its,n,r,hl,e⟩:=I.lstM hH;have hlen:its.toArray.size*k.toNat<=Pz:=by rw[PD,<- hl];exact hz
 have hcap:¬ its.toArray.size*k.toNat>(2^63-1)/8:=by
  have:(Pz:Nat)<=(2^63-1)/8:=by decide
  lia
 have hfit:¬ (!U' k)=true:=by
  rw[fitsIndex_both h1 h2];exact QK
 have hlong:¬ TN (its.toArray.size*k.toNat)=true:=by
  rw[Fm hlen];exact QK
 have hnew:Yq (λx1 x2=>x1++x2) #[] (Px (if its.toArray.isEmpty=true then 0 else k.toNat) its.toArray)=(Px k.toNat its).flatten.toArray:=by
  have f0:∀ m:Nat,Yq (λx1 x2=>x1++x2) #[] (Px m its.toArray)=(Px m its).flatten.toArray:=λm=>by
   have:=wJ its m [];rw[List.nil_append] at this;exact this
  rw[f0];cases its with
  |nil=>simp
  |cons a r'=>rw[P3 (by simp)]
 refine Vz (T:="list") (U:="int") (by decide) ⟨_,e,Y⟩ (λs'=>WM s' k t) noFill_list_mul Xk T2 repeat_list Xb.lookup
  (VS T2 (WM s k t) Xa (WU _ _) (int___rmul___int_list k t l its.toArray n)
   ⟨e,Y,⟨_,e,Y⟩,VS F.slot_list_mul ⟨_,e,Y⟩ F.entry_list_mul (F.args_list_mul_2 _ _) (AutoListH.list___mul___list_int_3 l its.toArray n k t hfit hcap hlong) ⟨e,?_⟩⟩)
 rw[hnew];exact⟨.ref _,_,I.lnew (t':=s.toks) (r.rep k.toNat) (by rw[I_,X3];exact hz),Y,q _ I.fresh⟩
end
end L2
namespace Att
open PySem PySem.W PySem.Calls PyProof.Rows
theorem sg:∀ (ns:List Int) (vs:List O6),WellAll P h vs (ns.map WData.int)->Sy vs ns:=by
 intro ns
 induction ns with
 |nil=>
  intro vs w;rw[Sa] at w;cases w;exact .nil
 |cons n ns ih=>
  intro vs w;rw[PF] at w;cases w with
  |cons a b=>
   cases a;exact .cons _ _ (ih _ b)
theorem DO {l:OpenLaw}{n:Nat} (hn:l.most=M n) {P:Params}{h:Q9}{args:List WData}{vals:List O6}
  (hpre:l.row.toRowW.claim.pre args=true)(hwl:WellAll P h vals args):
  ∃ a vs ns,vals=[P2 a]/\args=[WData.list (ns.map WData.int)]/\h.get? a=M { cls:=.type "list",data:=.seq vs.toArray }/\Sy vs ns/\ns.length<=n:=by
 have hsh:WShape.hasAll [] args [.list .int]=true:=(pre_splitW hpre).1;have hc:l.pre.holds [] { args:=args }=true:=(pre_splitW hpre).2;obtain⟨d,r,rfl,h1,h2⟩:=hasAllW_cons hsh;obtain rfl:=hasAllW_nil h2;obtain⟨xs,rfl,h3⟩:=hasW_list h1;obtain⟨ns,rfl⟩:=items_int h3;have hlen:ns.length<=n:=by
  unfold OpenLaw.pre at hc;have h4:(WTm.not (.lt (.lit (.int (n:Int))) (.len (.arg 0)))).holds [] { args:=[.list (ns.map .int)] }=true:=by
   have h4:=(holds_andW hc).1;rw[hn] at h4;exact h4
  have h5:=condW_of h4 (w_not (w_lt w_lit (w_len_list (w_arg rfl))));rw[Pb] at h5;refine Nat.le_of_not_lt λq=>?_
  have q':(n:Int)<((ns.length:Nat):Int):=by lia
  first
   |(rw[Ph q'] at h5;exact absurd h5 (by decide))
   |(simp at h5;lia)
 cases hwl with
 |cons w1 w2=>
  cases w2;cases w1 with
  |list ho hall=>exact⟨_,_,ns,Y,Y,ho,sg ns _ hall,hlen⟩
theorem Ei (l:OpenLaw)(args:List WData):l.row.toRowW.claim.post args (.bool true) args=true:=
 postW_of (r:=l.row.toRowW) (X:=(true==true))
  (show WShape.has [] (.bool true) .bool=true by first|rfl|decide|simp[WShape.has,WShape.arms,WShape.armsAll])
  (show(WTm.eq .res (.lit (.bool true))).value [] { args:=args,res:=M (.bool true),after:=args }=M (.bool (true==true)) from w_eq_bool (w_res rfl) w_lit) Y
theorem attach_call {l:OpenLaw}{n:Nat}{q:PU}{loose:List Str}{XP:(Str->Option O6)->Q9->Prop}{YP:Qq->Q9->Prop}{d:DefRec}
  (hn:l.most=M n)(hdf:d.params.defaults=[])
  (call:∀ (w:Qq) (s₀ s₁:Pf) (mg mb:Str->Option O6) (fa:Po) (o:Obj) (pm cd doc:O6) (a:Po) (vs:List O6) (ns:List Int),
   Ground q loose [] XP w s₀ mg mb s₁.heap->YP w s₁.heap ->
   s₁.heap.get? fa=M o->o.data=.func (docDef d.name d.params d.body d.scope pm cd doc)->s₁.heap.CodeRec cd d.name->mg d.name=M (.ref fa) ->
   s₁.heap.get? a=M { cls:=.type "list",data:=.seq vs.toArray }->Sy vs ns->ns.length<=n->s₁.gens=#[] ->
   R5 (PX l.prog w) Yk (.call (.ref fa) ⟨[.ref a],[]⟩) (λr s'=>r=.ok (.ret (.bool true))/\OldK s₁.heap s'.heap/\s'.os=s₁.os/\W7 s'.gens) s₁) :
  WalkO q loose XP YP l.row.toRowW d [] (λf vs=>Yr f vs):=by
 intro w s₀ s₁ mg mb G zzQ fa o pm cd doc dV kV ho hd hcd hD hmg hg args vals as hpre hlay hrd hwl hlo;obtain rfl:dV=.none:=Dflts.none hD hdf;obtain rfl:kV=.none:=Dflts.noKw hD;obtain⟨a,vs,ns,rfl,rfl,hobj,hints,hlen⟩:=DO hn hpre hwl;refine enter_call (Se (call w s₀ s₁ mg mb fa o pm cd doc a vs ns G zzQ ho (fd_plain hd) hcd hmg hobj hints hlen hg) λr s' hq=>?_);obtain⟨rfl,h2,h3,h4⟩:=hq;exact⟨.inl ⟨.bool true,.bool true,[],Y,λ_=>rfl,.bool true,Ei l _,λ_=>⟨VG,λ_ hm=>(nomatch hm)⟩⟩,h2,h3,h4⟩
end Att
namespace L2
open PySem PySem.Spec PyProof.Rows
theorem kq:∀ {vs:List O6}{ns:List Int},Sy vs ns->aU (ns.map V.int) vs
 |_,_,.nil=>.nil
 |_,_,.cons n t h=>.cons ⟨t,Y⟩ (kq h)
end L2
namespace L2
open PySem PySem.Spec PyProof.Rows
def dX (s:Q1)(j:Nat):Q1:=match s with
 |.ClassDef _ _ _ body _ _ _ _ _ _ _=>body.getD j (.Pass ⟨0,0,0,0⟩)
 |_=>.Pass ⟨0,0,0,0⟩
def aN (s:Q1):Arguments:=match s with
 |.FunctionDef _ a _ _ _ _ _ _ _ _=>a
 |_=>{ posonlyargs:=[],args:=[],vararg:=none,kwonlyargs:=[],kw_defaults:=[],kwarg:=none,defaults:=[] }
def aH (s:Q1):List Q1:=match s with
 |.FunctionDef _ _ b _ _ _ _ _ _ _=>b
 |_=>[]
def ae (s:Q1):Uw:=match s with
 |.FunctionDef _ _ _ _ _ _ sc _ _ _=>sc
 |_=>{ kind:=.function,names:=[],isGenerator:=false,isCoroutine:=false }
abbrev cn:l7:=λ_ _ _ _ _ _=>False
abbrev E0:XK:=λ_ _ _=>False
structure Nb (K:KE)(x qual:Str)(st:Q1)(f:Po)(fd:QR):Prop where
 ex:∃ (oc:O6) (od:Option Po) (kV doc pm:O6) (an:Option Po) (cdv ct:O6) (osl:Array (Option O6)),
  fd=Pu x qual (aN st) (aH st) (ae st) .none kV doc pm an cdv ct/\K.lookup f=M ⟨oc,od,.func fd,osl⟩/\PZ K cdv qual=true
 kp:PM K (.ref f)=true
section
variable {P:PU}{w:Qq}{K:KE}{mg:Str->Option O6}{base:Q9}
theorem Li {x qual:Str}{st:Q1}{f:Po}{oc:O6}{od an:Option Po}{osl:Array (Option O6)}{kV doc pm cdv ct:O6} (l:K.lookup f=M ⟨oc,od,.func (Pu x qual (aN st) (aH st) (ae st) .none kV doc pm an cdv ct),osl⟩)
  (c:PZ K cdv qual=true)(k:PM K (.ref f)=true):Nb K x qual st f (Pu x qual (aN st) (aH st) (ae st) .none kV doc pm an cdv ct):=⟨⟨oc,od,kV,doc,pm,an,cdv,ct,osl,Y,l,c⟩,k⟩
end
theorem bJ {n:Nat}(h:n<=1000):n<Pz:=Vh h (by decide)
section
variable {X:Cx}
theorem pv (i:Nat) (hN:X.N[i]?=M x:=by rfl) (hv:Md X.env.scope x:=by first | exact X5 rfl | exact W3 (X5 rfl) | exact W3 (W3 rfl)) (hd:(x == ("__debug__":Str))=false:=by decide)
  (hcd:(x==("__classdict__":Str))=false:=by decide):PE X (.Name x pos) (re i):=Lb hN hv hd hcd
end
theorem bI {A B:Prop}(h:B):if false=true then A else B:=by
 rw[P3 QK];exact h
theorem aX {A B:Prop}(h:A):if true=true then A else B:=by
 rw[Qh rfl];exact h
theorem f9 {c A B:Prop}[Decidable c](h1:c->A)(h2:¬ c->B):if c then A else B:=by
 by_cases h:c
 ·rw[Qh h];exact h1 h
 ·rw[P3 h];exact h2 h
theorem Ni {c A B:Prop}[Decidable c](hc:c)(h:B):if(!decide c)=true then A else B:=by
 rw[Ph hc];exact bI h
def ah (H H':Hp):Prop:=∀ b o,H b=M o->H' b=M o
theorem ah.refl (H:Hp):ah H H:=λ_ _ h=>h
theorem ah.trans (a:ah H H1)(b:ah H1 H2):ah H H2:=λc o h=>b c o (a c o h)
theorem ah.free (e:ah H H')(h:H' l=Option.none):H l=Option.none:=by
 cases q:H l with
 |none=>rfl
 |some o=>
  rw[e l o q] at h;cases h
theorem ah.seq {K:KE}{H H':Hp}{a:Po}{xs:List V}(e:ah H H')(h:bK K H a xs):bK K H' a xs:=by
 rcases h with (h|⟨o,h⟩)|h
 ·exact .inl (.inl (e _ _ h))
 ·exact .inl (.inr ⟨o,e _ _ h⟩)
 ·exact .inr h
end L2
set_option Elab.async false
set_option linter.all false
set_option maxRecDepth 100000
set_option maxHeartbeats 4000000
namespace TR
def Da (t b n d:Int):Prop:=0<d/\Q2 n d=1/\n*b=t*d
def Sm (k:Nat)(x:Int):Prop:=x.natAbs<2^k
theorem Ac {a b:Int}(ha:0<=a)(hb:0<b):Q2 b (a%b)=Q2 a b:=by
 obtain⟨x,rfl⟩:=Rk ha;obtain⟨y,rfl⟩:=Rk (Wk hb);show Nat.gcd y ((x:Int)%(y:Int)).natAbs=Nat.gcd x y;rw[show((x:Int)%(y:Int)).natAbs=x%y from rfl,Nat.gcd_comm,<- Nat.gcd_rec,Nat.gcd_comm]
theorem BE {k m n:Int}(h:k∣m*n)(c:Q2 k m=1):k∣n:=by
 have h':k.natAbs∣m.natAbs*n.natAbs:=by rw[<- Vp];exact Wl.mpr h
 exact Wl.mp (Nat.Coprime.dvd_of_dvd_mul_left (show Nat.Coprime k.natAbs m.natAbs from c) h')
theorem B2 {t b g m:Int}(hb:b≠0)(hg:g=(Q2 t b:Int))(hm:m=if b<0 then -g else g):Da t b (t.fdiv m) (b.fdiv m):=by
 have hgp:0<g:=by
  rw[hg];have:0<Q2 t b:=SY _ hb;lia
 have dt:g∣t:=by rw[hg];exact Int.gcd_dvd_left ..
 have db:g∣b:=by rw[hg];exact Int.gcd_dvd_right ..
 obtain⟨x,hx⟩:=dt;obtain⟨y,hy⟩:=db;have hco:Q2 x y=1:=by
  have h1:Q2 t b=Q2 x y*g.natAbs:=by
   rw[hx,hy,Int.gcd_mul_left,X3]
  have h2:g.natAbs=Q2 t b:=by rw[hg];rfl
  have h3:0<g.natAbs:=by lia
  rw[<- h2] at h1;exact Nat.eq_of_mul_eq_mul_right h3 (by lia)
 by_cases hn:b<0
 ·have em:m=-g:=by rw[hm,Qh hn]
  have hy0:y<0:=by
   rw[hy] at hn;rcases Int.lt_or_le y 0 with h|h
   ·exact h
   ·have:=RU (Wk hgp) h;lia
  have e1:t.fdiv m=-x:=by
   have e:t=m*(-x):=by rw[em,Int.neg_mul_neg];exact hx
   rw[e];exact Sx _ (by lia)
  have e2:b.fdiv m=-y:=by
   have e:b=m*(-y):=by rw[em,Int.neg_mul_neg];exact hy
   rw[e];exact Sx _ (by lia)
  rw[e1,e2];refine⟨by lia,by rw[Int.gcd_neg,Int.neg_gcd];exact hco,?_⟩;rw[Int.neg_mul,Yf,hx,hy,VF,SJ]
 ·have em:m=g:=by rw[hm,P3 hn]
  have hy0:0<y:=by
   have hb':0<b:=by lia
   rw[hy] at hb';rcases Int.lt_or_le 0 y with h|h
   ·exact h
   ·have:=RU (Wk hgp) (show 0<=-y by lia);rw[Yf] at this;lia
  have e1:t.fdiv m=x:=by
   rw[hx,em];exact Sx _ (by lia)
  have e2:b.fdiv m=y:=by
   rw[hy,em];exact Sx _ (by lia)
  rw[e1,e2];refine⟨hy0,hco,?_⟩;rw[hx,hy,VF,SJ]
theorem kL {t b n d n' d':Int}(hb:b≠0)(h:Da t b n d)(h':Da t b n' d'):n=n'/\d=d':=by
 obtain⟨h1,h2,h3⟩:=h;obtain⟨k1,k2,k3⟩:=h';have e:n*d'=n'*d:=by
  have e1:b*(n*d')=b*(n'*d):=by
   have a1:b*(n*d')=(n*b)*d':=by rw[R_ n b,SJ]
   have a2:b*(n'*d)=(n'*b)*d:=by rw[R_ n' b,SJ]
   rw[a1,a2,h3,k3,SJ,SJ,R_ d d']
  exact Vo hb e1
 have dd:d∣d':=by
  have:d∣n*d':=⟨n',by rw[e,R_]⟩
  exact BE this (by rw[XZ];exact h2)
 have dd':d'∣d:=by
  have:d'∣n'*d:=⟨n,by rw[<- e,R_]⟩
  exact BE this (by rw[XZ];exact k2)
 have l1:=Int.le_of_dvd k1 dd;have l2:=Int.le_of_dvd h1 dd';have ed:d=d':=by lia
 subst ed;exact⟨Int.eq_of_mul_eq_mul_right (by lia) e,rfl⟩
theorem vh {t b n d:Int}(hb:b≠0)(h:Da t b n d):n.natAbs<=t.natAbs/\d.natAbs<=b.natAbs:=by
 obtain⟨h1,h2,h3⟩:=h;have db:d∣b:=by
  have:d∣n*b:=⟨t,by rw[h3,R_]⟩
  exact BE this (by rw[XZ];exact h2)
 obtain⟨y,hy⟩:=db;have e:t=n*y:=by
  have:d*(n*y)=d*t:=by
   rw[VF,<- hy,h3,R_]
  exact(Vo (by lia) this).symm
 have hy0:y≠0:=by rintro rfl;simp at hy;exact hb hy
 have hp:0<y.natAbs:=by lia
 constructor
 ·rw[e,Vp];exact V0 _ hp
 ·rw[hy,Vp];exact V0 _ hp
theorem Hh {n d:Int}(hd:0<d)(h:Q2 n d=1):Da n d n d:=⟨hd,h,rfl⟩
theorem Jl (t:Int):Da t 1 t 1:=⟨by decide,by simp,by lia⟩
theorem GX (b:Int):Da 0 b 0 1:=⟨by decide,by simp,by lia⟩
theorem Sm.mono {k j:Nat}{x:Int}(h:Sm k x)(l:k<=j):Sm j x:=Pg h (Sr (by decide) l)
theorem Sm.mul {k j:Nat}{x y:Int}(h:Sm k x)(h':Sm j y):Sm (k+j) (x*y):=by
 unfold Sm at *;rw[Vp,Nat.pow_add];exact Nat.mul_lt_mul'' h h'
theorem Sm.add {k:Nat}{x y:Int}(h:Sm k x)(h':Sm k y):Sm (k+1) (x+y):=by
 unfold Sm at *;have:=Int.natAbs_add_le x y;rw[X4];lia
theorem Sm.sub {k:Nat}{x y:Int}(h:Sm k x)(h':Sm k y):Sm (k+1) (x-y):=by
 unfold Sm at *;rw[X4];lia
theorem Sm.neg {k:Nat}{x:Int}(h:Sm k x):Sm k (-x):=by
 unfold Sm at *;rw[Int.natAbs_neg];exact h
theorem Sm.le {k:Nat}{x y:Int}(h:Sm k x)(l:y.natAbs<=x.natAbs):Sm k y:=Vh l h
theorem Dp (a b:Int):Q2 (if a<0 then -a else a) (if b<0 then -b else b)=Q2 a b:=by
 split<;>split<;>simp
theorem Fx {t b:Int}(hb:b≠0):((Q2 t b:Int)).natAbs<=b.natAbs:=by
 have:Q2 t b∣b.natAbs:=Nat.gcd_dvd_right ..;exact Nat.le_of_dvd (by lia) this
open PySem PySem.Spec PyProof.Rows L2
theorem F7:Qt "int"=M (.type "int"):=by decide +kernel
theorem Dl:Qt "bool"=M (.type "bool"):=by decide +kernel
theorem bA:Qt "tuple"=M (.type "tuple"):=by decide +kernel
theorem gS:Qt "list"=M (.type "list"):=by decide +kernel
theorem Gu:Qt "str"=M (.type "str"):=by decide +kernel
theorem Dx:Qt "dict"=M (.type "dict"):=by decide +kernel
theorem KP:Qt "set"=M (.type "set"):=by decide +kernel
theorem Gx:Qt "abs"=M (.builtin "abs"):=by decide +kernel
theorem dH:Qt "len"=M (.builtin "len"):=by decide +kernel
theorem BY:Qt "max"=M (.builtin "max"):=by decide +kernel
theorem oP:Qt "min"=M (.builtin "min"):=by decide +kernel
theorem Hn:Qt "sum"=M (.builtin "sum"):=by decide +kernel
theorem jM:Qt "all"=M (.builtin "all"):=by decide +kernel
theorem qJ:Qt "sorted"=M (.builtin "sorted"):=by decide +kernel
theorem aK:Qt "isinstance"=M (.builtin "isinstance"):=by decide +kernel
mutual
inductive ay (K:KE)(H:Hp):P5->V->Prop
 |non:ay K H .none .non
 |bl (b:Bool):ay K H (.bool b) (.bl b)
 |int (i:Int):ay K H (.int i) (.int i)
 |str (x:Str):ay K H (.str x) (.str x)
 |lst {a:Po}{xs:List V}{ds:List P5}:Rd H a (.lst xs)->az K H ds xs->ay K H (.list ds) (.ref a)
 |tup {a:Po}{xs:List V}{ds:List P5}:H a=M (.tup xs)->az K H ds xs->ay K H (.tuple ds) (.ref a)
 |dct {a:Po}:H a=M (.dK [])->ay K H (.dict []) (.ref a)
inductive az (K:KE)(H:Hp):List P5->List V->Prop
 |nil:az K H [] []
 |cons {d:P5}{v:V}{ds:List P5}{vs:List V}:ay K H d v->az K H ds vs->az K H (d::ds) (v::vs)
end
section
variable {X:Cx}{pins:List (Po×Obj)}{σ:L2.St}{H H':Hp}{s:Pf}
mutual
theorem lM (I:aJ X pins σ H s):∀ {d:P5}{v:V}{u:O6},ay X.K H d v->bO v u->∃ as,Reads s.heap u d as
 |_,_,_,.non,r=>by cases r;exact⟨_,.none⟩
 |_,_,_,.bl b,r=>by cases r;exact⟨_,.bool b⟩
 |_,_,_,.int i,r=>by obtain⟨t,rfl⟩:=r;exact⟨_,.int i t⟩
 |_,_,_,.str x,r=>by obtain⟨t,rfl⟩:=r;exact⟨_,.str x t⟩
 |_,_,_,.lst h q,r=>by
  cases r;obtain⟨its,rv,⟨o,n,e,c,_,d⟩,_⟩:=I.list (.inl h);obtain⟨as,z⟩:=lZ I q rv;exact⟨_,.list e c d (by simpa using z)⟩
 |_,_,_,.tup h q,r=>by
  cases r;obtain⟨its,rv,⟨o,e,c,n,d⟩,_⟩:=I.tuple (.inl (.inl h));obtain⟨as,z⟩:=lZ I q rv;exact⟨_,.tuple e c d (by simpa using z)⟩
 |_,_,_,.dct h,r=>by
  cases r;obtain⟨_,_,vs,kv,o,es,ep,e1,e2,e3,_,e4,_⟩:=(show ce X.prog X.w H s.heap _ (.dK []) from I.hok _ _ h)
  cases kv;have ee:es.toList=[]:=by
   cases z:es.toList with
   |nil=>rfl
   |cons y l=>rw[z] at e4;cases e4
  exact⟨_,.dict (kvs:=[]) e1 e2.1 e3 (by rw[ee];exact .nil) (by rw[ee];exact .nil)⟩
theorem lZ (I:aJ X pins σ H s):∀ {ds:List P5}{vs:List V}{us:List O6},az X.K H ds vs->aU vs us->∃ as,ReadsAll s.heap us ds as
 |_,_,_,.nil,.nil=>⟨_,.nil⟩
 |_,_,_,.cons h q,.cons r rr=>by
  obtain⟨as,z⟩:=lM I h r;obtain⟨bs,y⟩:=lZ I q rr;exact⟨_,.cons z y⟩
end
end
theorem jZ {K:KE}{H H':Hp}{a:Po}{xs:List V}(e:ah H H')(h:dR K H a xs):dR K H' a xs:=by
 rcases h with (h|⟨o,h⟩)|h
 ·exact .inl (.inl (e _ _ h))
 ·exact .inl (.inr ⟨o,e _ _ h⟩)
 ·exact .inr h
theorem Rd.same (e:ah H H')(h:Rd H a u):Rd H' a u:=by
 rcases h with h|⟨o,h⟩
 ·exact .inl (e _ _ h)
 ·exact .inr ⟨o,e _ _ h⟩
mutual
theorem ay.same {K:KE}{H H':Hp}(e:ah H H'):∀ {d:P5}{v:V},ay K H d v->ay K H' d v
 |_,_,.non=>.non
 |_,_,.bl b=>.bl b
 |_,_,.int i=>.int i
 |_,_,.str x=>.str x
 |_,_,.lst h q=>.lst (Rd.same e h) (az.same e q)
 |_,_,.tup h q=>.tup (e _ _ h) (az.same e q)
 |_,_,.dct h=>.dct (e _ _ h)
theorem az.same {K:KE}{H H':Hp}(e:ah H H'):∀ {ds:List P5}{vs:List V},az K H ds vs->az K H' ds vs
 |_,_,.nil=>.nil
 |_,_,.cons h q=>.cons (ay.same e h) (az.same e q)
end
theorem ah.new (h:H p=none):ah H (upd H p o):=λb u e=>by rw[au (aS e h)];exact e
def Mv (T:List Po)(H H':Hp):Prop:=∀ b o,H b=M o->b∉T->H' b=M o
theorem Mv.of (h:ah H H'):Mv T H H':=λb o e _=>h b o e
theorem Mv.refl:Mv T H H:=λ_ _ e _=>e
theorem Mv.trans (a:Mv T H H1)(b:Mv T H1 H2):Mv T H H2:=λc o e n=>b c o (a c o e n) n
mutual
def wj:P5->Bool
 |.tuple xs=>jG xs
 |.none=>true
 |.bool _=>true
 |.int _=>true
 |.str _=>true
 |_=>false
def jG:List P5->Bool
 |[]=>true
 |x::xs=>wj x&&jG xs
end
def b_ (H:Hp)(T:List Po):Prop:=∀ b∈T,∃ xs,H b=M (.lst xs)
theorem b_.not (h:b_ H T)(e:H b=M o)(n:∀ xs,o≠.lst xs):b∉T:=λm=>by
 obtain⟨xs,q⟩:=h b m;rw[e] at q;exact n xs (O4 q)
mutual
theorem ay.mv {K:KE}{T:List Po}{H H':Hp}(e:Mv T H H')(l:b_ H T):∀ {d:P5}{v:V},wj d=true->ay K H d v->ay K H' d v
 |_,_,_,.non=>.non
 |_,_,_,.bl b=>.bl b
 |_,_,_,.int i=>.int i
 |_,_,_,.str x=>.str x
 |_,_,t,.lst _ _=>by simp[wj] at t
 |_,_,t,.tup h q=>.tup (e _ _ h (l.not h λ_ z=>nomatch z)) (az.mv e l (by simpa [wj] using t) q)
 |_,_,t,.dct _=>by simp[wj] at t
theorem az.mv {K:KE}{T:List Po}{H H':Hp}(e:Mv T H H')(l:b_ H T):∀ {ds:List P5}{vs:List V},jG ds=true->az K H ds vs->az K H' ds vs
 |_,_,_,.nil=>.nil
 |_,_,t,.cons h q=>by
  simp only[jG,Qu] at t;exact .cons (ay.mv e l t.1 h) (az.mv e l t.2 q)
end
section
variable {X:Cx}
def MU (K:KE):R2:=λx y H Q=>∃ d e,ay K H d x/\ay K H e y/\Wx d=true/\Wx e=true/\Q (.bl (RI d e)) H
def MS (K:KE):R2:=λx y H Q=>∃ d e,ay K H d x/\ay K H e y/\Wx d=true/\Wx e=true/\Q (.bl (!RI d e)) H
theorem Ky (hu:X.A.units+64<cLine):m9 X (Rm .Eq) (MU X.K):=by
 intro pins s σ H x y v u Q I rx ry h;obtain⟨d,e,hd,he,sd,se,q⟩:=h;obtain⟨as,r1⟩:=lM I hd rx;obtain⟨bs,r2⟩:=lM I he ry;exact eq_dataH r1 r2 sd se hu ⟨.bl _,H,I,Y,q⟩
theorem K1 (hu:X.A.units+64<cLine):m9 X (Rm .NotEq) (MS X.K):=by
 intro pins s σ H x y v u Q I rx ry h;obtain⟨d,e,hd,he,sd,se,q⟩:=h;obtain⟨as,r1⟩:=lM I hd rx;obtain⟨bs,r2⟩:=lM I he ry;exact ne_dataH r1 r2 sd se hu ⟨.bl _,H,I,Y,q⟩
def Hr (K:KE):R2:=λx y H Q=>∃ a b ns,x=.ref a/\y=.ref b/\bK K H a (ns.map V.int)/\H b=M (.lst [])/\Q (.bl (!decide (ns=[]))) H
theorem Gd (hu:X.A.units+64<cLine):m9 X (Rm .NotEq) (Hr X.K):=by
 intro pins s σ H x y v u Q I rx ry h;obtain⟨a,b,ns,rfl,rfl,ha,hb,q⟩:=h;cases rx;cases ry;obtain⟨xs,r1,pl,_⟩:=I.list ha;obtain⟨ys,r2,pl2,_⟩:=I.list (bK.of (K:=X.K) hb);cases r2;exact PySem.W.ke_ne_ints pl.isList pl2.isList (t9 r1) .nil hu ⟨.bl _,H,I,Y,q⟩
theorem eA:m9 X (Rm .Eq) (Im λi j=>.bl (decide (i=j))):=D4 λ_ _ _ _ _ _ _ q=>eq_int (by rw[S'];exact q)
theorem o_:m9 X (Rm .NotEq) (Im λi j=>.bl (!decide (i=j))):=D4 λ_ _ _ _ _ _ _ q=>ne_int (by rw[bne,S'];exact q)
theorem Sm.bits {k:Nat}{x:Int}(h:Sm k x):W_ x<=k:=by
 unfold W_
 split
 ·exact Qm _
 ·rename_i hx
  have h0:x.natAbs≠0:=by
   intro z;apply hx;have:x=0:=by lia
   subst this;rfl
  have:x.natAbs.log2<k:=(Nat.log2_lt h0).mpr h;lia
def lV (i j:Int):Prop:=(Sm 8000 i/\Sm 8000 j)\/Sm 64 i
theorem aM:m9 X (UJ .Mult) (rI lV λi j=>.int (i*j)):=NA λi j _ _ _ _ _ hc q=>mul_int q (by
 rcases hc with ⟨h1,h2⟩|h1
 ·exact X9 (PP h1.bits (by decide)) (PP h2.bits (by decide))
 ·exact X' h1.bits)
def M4 (_ j:Int):Prop:=j≠0/\Sm 8000 j
theorem cu:m9 X (UJ .FloorDiv) (rI M4 λi j=>.int (i.fdiv j)):=NA λi j _ _ _ _ _ hc q=>floordiv_int hc.1 q (.inl (PyProof.noPylong_of_log2 (by
 by_cases h0:j.natAbs=0
 ·rw[h0];decide
 ·exact Pg ((Nat.log2_lt h0).mpr hc.2) (by decide))))
def iD (a b:String):Option Bool:=if((Q0 a==Q0 b)=true) then M true else if PySem.W.kitMeta b=true then(fastBuiltinMro a).map (·.contains (.type b)) else none
theorem A_ (K:KE)(a b:String):Sk K (.type a) (.type b)=iD a b:=Y
abbrev Ty (K:KE)(H:Hp)(x:V)(T:String):Prop:=pC K H x (.type T)
def M6 (K:KE):List V->Hp->VK->Prop:=λxs H Q=>∃ x T S b,xs=[x,.ty S]/\Ty K H x T/\iD T S=M b/\Q (.bl b) H
theorem F6:dD X (.builtin "isinstance") (M6 X.K):=by
 intro pins s σ H xs us Q I r h;obtain⟨x,T,S,b,rfl,ty,e,q⟩:=h;obtain⟨u,v,rfl,rx,rv⟩:=k9 r;cases(show v=Q0 S from rv);exact qP I rx ty (by rw[A_];exact e) λtk=>⟨.bl b,H,I.tok tk,Y,q⟩
def vj (a:String):List String->Option Bool
 |[]=>M false
 |b::r=>match iD a b with
  |some true=>M true
  |some false=>vj a r
  |none=>none
end
def OJ:P5->String
 |.none=>"NoneType"
 |.bool _=>"bool"
 |.int _=>"int"
 |.str _=>"str"
 |.list _=>"list"
 |.tuple _=>"tuple"
 |.dict _=>"dict"
theorem ay.ty {K:KE}{H:Hp}{d:P5}{x:V}(h:ay K H d x):Ty K H x (OJ d):=by
 cases h with
 |non=>exact .non
 |bl b=>exact .bl b
 |int i=>exact .int i
 |str x=>exact .str x
 |lst h _=>
  rcases h with h|⟨o,h⟩
  ·exact .lst h
  ·exact .frz h
 |tup h _=>exact .tup h
 |dct h=>exact .dK h
def Fa (CX:l7):Prop:=∀ outer H s e s',CX outer H s E0 e s'->False
theorem qm (h:Fa CX):qL CX X E0:=λ_ _ _ _ _ _ _ z=>(h _ _ _ _ _ z).elim
structure c9 (P:PU)(w:Qq)(K:KE)(mg:Str->Option O6)(base:Q9)(CX:l7)(k:Nat)(x:Str)(ps:List Str)(dvs:List V)(sp:Sp):Prop where
 ex:∃ (f:Po) (fd:QR) (ds:List O6),jm P w K mg base CX k f fd ps sp/\mg x=M (.ref f)/\PM K (.ref f)=true/\nW K fd ps ds/\aU dvs ds
section
variable {X:Cx}{CX:l7}{k:Nat}{x:Str}{ps:List Str}{sp:Sp}{dvs:List V}{p pos:Pos}{e:Rz}{es:List Rz}{t:TA}
theorem Jz (hX:Fa CX) (C:c9 X.prog X.w X.K X.mg X.base CX k x ps dvs sp) (hr:Room k X.A) (hg:Gl X x) (ha:WA X (e :: es) t) (hdb:(x == ("__debug__":Str))=false:=by decide)
  (he:PN (e::es) X.env=(false,Ts e X.env)::PN es X.env:=by rfl)(hpl:(Tu pos (PN es X.env)).any (·.1)=false:=by rfl):WE X (.Call (.Name x p) (e::es) [] pos) (xH sp dvs E0 t):=by
 have ha:=ha.go;refine⟨?_⟩;obtain⟨f,fd,ds,F,hm,hk,hb,hv⟩:=C.ex;exact Jo F hr hg hm hk hb hv (qm hX) ha hdb he hpl
end
structure cN (K:KE)(mg:Str->Option O6)(x:Str)(st:Q1)(ps:List Str)(dvs:List V):Prop where
 ex:∃ (f:Po) (fd:QR) (oc:O6) (od:Option Po) (dV kV doc pm:O6) (an:Option Po) (cdv ct:O6) (osl:Array (Option O6)) (ds:List O6),
  fd=Pu x x (aN st) (aH st) (ae st) dV kV doc pm an cdv ct/\K.lookup f=M ⟨oc,od,.func fd,osl⟩/\PZ K cdv x=true /\
  mg x=M (.ref f)/\PM K (.ref f)=true/\nW K fd ps ds/\aU dvs ds
section
variable {P:PU}{w:Qq}{K:KE}{mg:Str->Option O6}{base:Q9}{CX:l7}
theorem cN.cal {x:Str}{st:Q1}{N ps:List Str}{dvs:List V}{k:Nat}{sp:Sp} (F:cN K mg x st ps dvs) (S:ao N ps (ae st)) (len:∀ vs H Q E,sp vs H Q E->vs.length=ps.length:=by intro _ _ _ _ h;cases h;subst_vars;rfl)
  (bb:∀ (f:Po) (cdv:O6) (A:QB) (outer:List Env) (s:Pf) (H:Hp) (vs:List V) (Q:VK) (E:XK),Room k (A.deeper (VT x (ae st) s.heap.objs.size f cdv))->sp vs H Q E ->
   ∃ t,HI (uW CX P w K mg base N x (ae st) f cdv A outer s H E).nox (aH st) t/\t { nx:=λ_ H'=>Q .non H',rt:=Q } (ki N vs) H):c9 P w K mg base CX (k+1) x ps dvs sp:=by
 obtain⟨f,fd,oc,od,dV,kV,doc,pm,an,cdv,ct,osl,ds,rfl,lk,hcd,hm,hk,hb,hv⟩:=F.ex;refine⟨f,_,ds,wW lk hcd S len λA outer s H vs Q E hr hsp=>?_,hm,hk,hb,hv⟩;obtain⟨t,h,q⟩:=bb f cdv A outer s H vs Q E hr hsp;exact⟨t,h.nox,q⟩
theorem Gs {x:Str}{st:Q1}{ps:List Str}{f:Po}{oc:O6}{od an:Option Po}{osl:Array (Option O6)}{kV doc pm cdv ct:O6} (l:K.lookup f=M ⟨oc,od,.func (Pu x x (aN st) (aH st) (ae st) .none kV doc pm an cdv ct),osl⟩)
  (c:PZ K cdv x=true)(k:PM K (.ref f)=true)(m:mg x=M (.ref f))
  (h:∀ us:List O6,us.length=ps.length->QA (Pu x x (aN st) (aH st) (ae st) .none kV doc pm an cdv ct) ⟨us,[]⟩=pure (ps.zip us)):cN K mg x st ps []:=
 ⟨f,_,oc,od,.none,kV,doc,pm,an,cdv,ct,osl,[],Y,l,c,m,k,.all h,.nil⟩
theorem CP {x:Str}{st:Q1}{ps:List Str}{f T:Po}{oc:O6}{od an:Option Po}{osl:Array (Option O6)}{kV doc pm cdv ct:O6}{oT:Obj}{items:Array O6}{n:Nat}{ds:List O6}{dvs:List V}
  (l:K.lookup f=M ⟨oc,od,.func (Pu x x (aN st) (aH st) (ae st) (.ref T) kV doc pm an cdv ct),osl⟩)
  (c:PZ K cdv x=true)(k:PM K (.ref f)=true)(m:mg x=M (.ref f))(lT:K.lookup T=M oT)(hT:oT.data=.seq items n)(hv:aU dvs ds)
  (h:∀ us:List O6,(us++ds).length=ps.length->∃ kk:Option (Array O6)->Sem (List (Str×O6)),QA (Pu x x (aN st) (aH st) (ae st) (.ref T) kV doc pm an cdv ct) ⟨us,[]⟩=Xy (.ref T)>>=kk/\kk (M items)=pure (ps.zip (us++ds))):cN K mg x st ps dvs:=
 ⟨f,_,oc,od,.ref T,kV,doc,pm,an,cdv,ct,osl,ds,Y,l,c,m,k,λs us X hl=>by
  obtain⟨kk,h1,h2⟩:=h us hl;exact BindsTo.of_defaults rfl (X T oT lT) hT h1 h2,hv⟩
end
end TR
namespace TR
open PySem PySem.Spec PyProof.Rows L2
abbrev ot (n d:Int):P5:=.tuple [.int n,.int d]
theorem bj {K:KE}{H:Hp}{n d:Int}{v:V}(h:ay K H (ot n d) v):∃ a,v=.ref a/\H a=M (.tup [.int n,.int d]):=by
 cases h with
 |tup h q=>
  cases q with
  |cons q1 q2=>
   cases q1;cases q2 with
   |cons q3 q4=>
    cases q3;cases q4;exact⟨_,Y,h⟩
theorem iA {K:KE}{H:Hp}{n d:Int}{a:Po}(h:H a=M (.tup [.int n,.int d])):ay K H (ot n d) (.ref a):=.tup h (.cons (.int _) (.cons (.int _) .nil))
theorem FO (n d m e:Int):RI (ot n d) (ot m e)=(decide (n=m)&&decide (d=e)):=by
 simp only[RI,Sc,UE,S']
theorem Aw {n d m e:Int}(h:n=m/\d=e):RI (ot n d) (ot m e)=true:=by
 rw[FO,Ph h.1,Ph h.2];rfl
def Sh (K:KE)(H:Hp)(t b:Int)(Q:VK):Prop:=∀ v n d H',ah H H'->ay K H' (ot n d) v->Da t b n d->Q v H'
structure Ok (k:Nat)(n d:Int):Prop where
 pos:0<d
 co:Q2 n d=1
 sn:Sm k n
 sd:Sm k d
theorem Da.ok {t b n d:Int}{k:Nat}(h:Da t b n d)(hb:b≠0)(st:Sm k t)(sb:Sm k b):Ok k n d:=
 ⟨h.1,h.2.1,st.le (vh hb h).1,sb.le (vh hb h).2⟩
theorem Ok.mono {j k:Nat}{n d:Int}(h:Ok j n d)(l:j<=k):Ok k n d:=⟨h.pos,h.co,h.sn.mono l,h.sd.mono l⟩
theorem Ok.ne {k:Nat}{n d:Int}(h:Ok k n d):d≠0:=by have:=h.pos;lia
def shB:P5->Bool
 |.tuple [.int n,.int d]=>decide (1<=d)&&decide (Q2 n d=1)
 |_=>false
theorem Ok.shB {k:Nat}{n d:Int}(h:Ok k n d):TR.shB (ot n d)=true:=by
 have:=h.pos;show(decide (1<=d)&&decide (Q2 n d=1))=true;rw[Ph (show 1<=d by lia),Ph h.co];rfl
theorem NG:[a].length<=Pz:=by show 1<=Pz;decide
theorem kO:[a,b].length<=Pz:=by show 2<=Pz;decide
theorem EF:[a,b,c].length<=Pz:=by show 3<=Pz;decide
section
variable {K:KE}{H:Hp}{Q:VK}{a:Po}{x y z:V}
theorem cx (h:H a=M (.tup [x,y]))(q:Q x H):JR K (.ref a) (.int 0) H Q:=.inr (.inl ⟨a,_,0,x,Y,Y,dR.of h,Y,q⟩)
theorem bM (h:H a=M (.tup [x,y]))(q:Q y H):JR K (.ref a) (.int 1) H Q:=.inr (.inl ⟨a,_,1,y,Y,Y,dR.of h,Y,q⟩)
theorem Lx (h:H a=M (.lst [x,y]))(q:Q x H):JR K (.ref a) (.int 0) H Q:=.inl ⟨a,_,0,x,Y,Y,bK.of h,Y,q⟩
theorem CF (h:H a=M (.lst [x,y]))(q:Q y H):JR K (.ref a) (.int 1) H Q:=.inl ⟨a,_,1,y,Y,Y,bK.of h,Y,q⟩
end
def zV:V->Bool
 |.int _=>true
 |_=>false
theorem FN {K:KE}{H:Hp}{x:V}{T:String}(h:Ty K H x T):∃ b,iD T "int"=M b/\if b=true then ∃ c,iD T "bool"=M c/\zV x=!c else zV x=false:=by
 cases h with
 |non=>exact⟨false,by decide +kernel,bI rfl⟩
 |bl b=>exact⟨true,by decide +kernel,aX ⟨true,by decide +kernel,Y⟩⟩
 |int i=>exact⟨true,by decide +kernel,aX ⟨false,by decide +kernel,Y⟩⟩
 |str x=>exact⟨false,by decide +kernel,bI rfl⟩
 |flt x=>exact⟨false,by decide +kernel,bI rfl⟩
 |lst e=>exact⟨false,by decide +kernel,bI rfl⟩
 |frz e=>exact⟨false,by decide +kernel,bI rfl⟩
 |tup e=>exact⟨false,by decide +kernel,bI rfl⟩
 |dK e=>exact⟨false,by decide +kernel,bI rfl⟩
 |dT e=>exact⟨false,by decide +kernel,bI rfl⟩
theorem az.length {K:KE}{H:Hp}:∀ {ds:List P5}{xs:List V},az K H ds xs->ds.length=xs.length
 |_,_,.nil=>rfl
 |_,_,.cons _ q=>by rw[Qw,Qw,az.length q]
theorem Iw (h:ds.length≠2):shB (.tuple ds)=false:=by
 match ds,h with
 |[],_=>rfl
 |[a],_=>cases a<;>rfl
 |[a,b],h=>exact absurd rfl h
 |a::b::c::r,_=>cases a<;>(try rfl)<;>cases b<;>rfl
theorem Ny {K:KE}{H:Hp}{d e:P5}{x:V}(g:ay K H d x)(h:zV x=false):shB (.tuple [d,e])=false:=by
 cases g with
 |int i=>exact absurd h (by simp[zV])
 |_=>rfl
theorem MN {K:KE}{H:Hp}{d e:P5}{x:V}(g:ay K H e x)(h:zV x=false):shB (.tuple [d,e])=false:=by
 cases g with
 |int i=>exact absurd h (by simp[zV])
 |_=>cases d<;>rfl
theorem Dh {K:KE}{H:Hp}{d:P5}{x:V}(g:ay K H d x)(h:zV x=true):∃ n,d=.int n/\x=.int n:=by
 cases g with
 |int i=>exact⟨i,Y,Y⟩
 |_=>exact absurd h (by simp[zV])
def ci (H:Hp)(t r:Po):Prop:=∃ (cells:List Int) (k:Int),H t=M (.lst [.ref r,.int k])/\H r=M (.lst (cells.map V.int))/\cells≠[]/\cells.length<=63
theorem ci.lists (h:ci H t r):b_ H [t,r]:=λb m=>by
 obtain⟨c,k,h1,h2,_⟩:=h;rcases Pq.mp m with rfl|m
 ·exact⟨_,h1⟩
 ·cases O9.mp m;exact⟨_,h2⟩
theorem ci.same (h:ci H t r)(e:ah H H'):ci H' t r:=by
 obtain⟨c,k,h1,h2,h3,h4⟩:=h;exact⟨c,k,e _ _ h1,e _ _ h2,h3,h4⟩
theorem ci.ne (h:ci H t r):t≠r:=by
 obtain⟨c,k,h1,h2,h3,h4⟩:=h;refine JV h1 h2 λz=>?_
 cases c with
 |nil=>exact h3 rfl
 |cons x c=>
  injection z with z
  injection z with z _
  cases z
theorem qi [Decidable p](h:p):V.bl (decide p)=V.bl true:=by rw[Ph h]
theorem Mv.upd (m:p∈[t,r]):Mv [t,r] H (upd H p o):=λb u e n=>by
 rw[au (show b≠p from λz=>n (z▸m))];exact e
theorem Nb.okX {P:PU}{w:Qq}{K:KE}{mg:Str->Option O6}{base:Q9}{CX:l7}{x qual:Str}{st:Q1}{f:Po}{fd:QR}{N ps:List Str}{k:Nat}{sp:Sp} (F:Nb K x qual st f fd) (S:ao N ps (ae st)) (len:∀ vs H Q E,sp vs H Q E->vs.length=ps.length:=by intro _ _ _ _ h;cases h;subst_vars;rfl)
  (bb:∀ (cdv:O6) (A:QB) (outer:List Env) (s:Pf) (H:Hp) (vs:List V) (Q:VK) (E:XK),Room k (A.deeper (VT qual (ae st) s.heap.objs.size f cdv))->sp vs H Q E ->
   ∃ t,HI (uW CX P w K mg base N qual (ae st) f cdv A outer s H E).nox (aH st) t/\t { nx:=λ_ H'=>Q .non H',rt:=Q } (ki N vs) H):jm P w K mg base CX (k+1) f fd ps sp:=by
 obtain⟨oc,od,kV,doc,pm,an,cdv,ct,osl,rfl,lk,hcd⟩:=F.ex;refine wW lk hcd S len λA outer s H vs Q E hr hsp=>?_
 obtain⟨t,h,q⟩:=bb cdv A outer s H vs Q E hr hsp;exact⟨t,h.nox,q⟩
theorem ax:Fa cn:=λ_ _ _ _ _ h=>h
def bR (X:Cx)(N:List Str)(scope:Uw)(cl:List (Str×Po))(C:Po)(s0:Pf)(H0:Hp)(fp:List Po)(pn:List (Po×Obj)):Cx:=
 { X with N:=N,s₀:=s0,H₀:=H0,env:=Vm scope cl C X.env,outer:=X.stack,stack:=X.stack,ex:=fp,fn:=λx=>scope.names.lookup x==M .cell,pn:=X.pn++pn,xe:=λ_ _=>False }
def A8 (k:Nat)(js:List Nat)(σ:L2.St):L2.St:=Px k none++js.map λj=>(σ[j]?).join
def vX (cells:List (Str×Po)):List (Str×Tl)->List (Str×Po)->List (Str×Po)
 |[],acc=>acc
 |(n,k)::r,acc=>if(k==.free)=true then vX cells r ((n,(cells.lookup n).getD 0)::acc) else vX cells r acc
theorem uB (h:∀ y∈scope.names,y.2=.free->∃ c,env.cells.lookup y.1=M c):closureFor scope env=pure (vX env.cells scope.names []):=by
 have key:∀ (names:List (Str × Tl)) (acc:List (Str × Po)),(∀ y ∈ names,y.2=.free->∃ c,env.cells.lookup y.1=M c) ->
   (forIn names acc λ(x:Str×Tl) (r:List (Str×Po))=>(match x with
    |(name,kind)=>if(kind==.free)=true then(do let c <- cellOf env name;pure (Tc ((name,c)::r))) else pure (Tc r):Sem (ForInStep (List (Str×Po)))))=(pure (vX env.cells names acc):Sem (List (Str×Po))):=by
  intro names
  induction names with
  |nil=>intro acc _;rfl
  |cons y r ih=>
   intro acc hy;obtain⟨n,k⟩:=y;have hr:=λz hz=>hy z (Pj _ hz)
   rw[SA];unfold vX
   by_cases hk:(k==QZ)=true
   ·obtain⟨c,hc⟩:=hy (n,k) PQ (by simpa using hk);simp only[hk,SK];have e:cellOf env n=pure c:=by unfold cellOf;rw[hc]
    rw[e,hc];exact ih _ hr
   ·simp only[hk];exact ih _ hr
 unfold closureFor;have:=key scope.names [] h
 first
  |exact this
  |(simp only[bind_pure];exact this)
  |(rw[bind_pure];exact this)
  |(show(forIn scope.names [] _>>=λr=>pure r)=_;rw[bind_pure];exact this)
theorem jq:∀ {names:List (Str×Tl)}{acc:List (Str×Po)}{x:Str}{c:Po},(∀ y∈names,y.2=.free->∃ c,cells.lookup y.1=M c)->(vX cells names acc).lookup x=M c->acc.lookup x=M c\/((x,QZ)∈names/\cells.lookup x=M c)
 |[],_,_,_,_,e=>.inl e
 |(n,k)::r,acc,x,c,hy,e=>by
  unfold vX at e;have hr:=λz hz=>hy z (Pj _ hz)
  by_cases hk:(k==QZ)=true
  ·rw[Qh hk] at e;have hk':k=.free:=by simpa using hk
   rcases jq hr e with e|⟨m,e⟩
   ·rw[QF] at e;cases hx:x==n with
    |true=>
     rw[hx] at e;have hxn:x=n:=by simpa using hx
     obtain⟨c',hc'⟩:=hy (n,k) PQ hk';have hc':cells.lookup n=M c':=hc';rw[hc'] at e;have e:c'=c:=by simpa using e
     subst e hxn hk';exact .inr ⟨PQ,hc'⟩
    |false=>
     rw[hx] at e;exact .inl e
   ·exact .inr ⟨Pj _ m,e⟩
  ·rw[P3 hk] at e;rcases jq hr e with e|⟨m,e⟩
   ·exact .inl e
   ·exact .inr ⟨Pj _ m,e⟩
theorem mP:∀ {names:List (Str×Tl)}{acc:List (Str×Po)}{x:Str},(∃ c,acc.lookup x=M c)\/(x,QZ)∈names->∃ c,(vX cells names acc).lookup x=M c
 |[],_,_,h=>by
  rcases h with h|h
  ·exact h
  ·cases h
 |(n,k)::r,acc,x,h=>by
  unfold vX
  by_cases hk:(k==QZ)=true
  ·rw[Qh hk];refine mP ?_;rcases h with ⟨c,e⟩|h
   ·refine .inl ?_;rw[QF];cases x==n with
    |true=>exact⟨_,Y⟩
    |false=>exact⟨c,e⟩
   ·rcases Pq.mp h with e|h
    ·injection e with e1 e2
     subst e1;exact .inl ⟨_,by rw[QF];simp;rfl⟩
    ·exact .inr h
  ·rw[P3 hk];refine mP ?_;rcases h with h|h
   ·exact .inl h
   ·rcases Pq.mp h with e|h
    ·injection e with e1 e2
     subst e2;exact absurd rfl hk
    ·exact .inr h
theorem qO:∀ {names:List (Str×Tl)}{n:Nat}{acc:List (Str×Po)}{x:Str}{c:Po},(T7 n names acc).lookup x=M c->acc.lookup x=M c\/((x,QY)∈names/\n<=c)
 |[],_,_,_,_,e=>.inl e
 |(y,k)::r,n,acc,x,c,e=>by
  unfold T7 at e
  by_cases hk:(k==QY)=true
  ·rw[Qh hk] at e;rcases qO e with e|⟨m,l⟩
   ·rw[QF] at e;cases hx:x==y with
    |true=>
     rw[hx] at e;have e:n=c:=by simpa using e
     have hxy:x=y:=by simpa using hx
     have hk':k=.cell:=by simpa using hk
     subst e hxy hk';exact .inr ⟨PQ,Pe _⟩
    |false=>
     rw[hx] at e;exact .inl e
   ·exact .inr ⟨Pj _ m,Tn l⟩
  ·rw[P3 hk] at e;rcases qO e with e|⟨m,l⟩
   ·exact .inl e
   ·exact .inr ⟨Pj _ m,l⟩
structure A' (X:Cx)(scope:Uw):Prop where
 kind:scope.kind=.function
 once:∀ y∈scope.names,scope.names.lookup y.1=M y.2
 one:∀ y∈scope.names,∀ z∈scope.names,y.2=.cell->z.2=.cell->y.1=z.1
 kinds:∀ y∈scope.names,y.2=.local\/y.2=.globalImplicit\/y.2=.cell\/y.2=.free
 free:∀ y∈scope.names,y.2=.free->∃ c,X.env.cells.lookup y.1=M c
abbrev bB (X:Cx)(scope:Uw)(C:Po):List (Str×Po):=T7 (C+1) scope.names (vX X.env.cells scope.names [])
section
variable {X:Cx}{scope:Uw}{C:Po}(S:A' X scope)
include S
theorem iW (e:(bB X scope C).lookup x=M c):(X.env.cells.lookup x=M c/\scope.names.lookup x=M .free)\/(C+1<=c/\scope.names.lookup x=M .cell):=by
 rcases qO e with e|⟨m,l⟩
 ·rcases jq S.free e with e|⟨m,e⟩
  ·cases e
  ·exact .inl ⟨e,S.once _ m⟩
 ·exact .inr ⟨l,S.once _ m⟩
theorem Kt (e:(bB X scope C).lookup x=M c)(e':(bB X scope C).lookup y=M c)(hi:∀ x y c,X.env.cells.lookup x=M c->X.env.cells.lookup y=M c->x=y)(hl:∀ x c,X.env.cells.lookup x=M c->c<C):x=y:=by
 rcases iW S e with ⟨a,_⟩|⟨a,k⟩
 ·rcases iW S e' with ⟨b,_⟩|⟨b,_⟩
  ·exact hi x y c a b
  ·exact absurd (hl x c a) (Q7.mpr (Tn b))
 ·rcases iW S e' with ⟨b,_⟩|⟨b,k'⟩
  ·exact absurd (hl y c b) (Q7.mpr (Tn a))
  ·exact S.one (x,.cell) (Ru k) (y,.cell) (Ru k') rfl rfl
theorem G1 (h:(Vm scope (bB X scope C) C X.env).kindOf x=M .cell\/(Vm scope (bB X scope C) C X.env).kindOf x=M .free):∃ c,(bB X scope C).lookup x=M c:=by
 have key:∀ (names:List (Str × Tl)),((names.map fun (n,k)=>if (k == QZ && X.env.scope.kind == .function && X.env.kindOf n == M .cell) then (n,QY) else (n,k)).lookup x=M .cell \/
   (names.map λ(n,k)=>if(k==QZ&&X.env.scope.kind==.function&&X.env.kindOf n==M .cell) then(n,QY) else(n,k)).lookup x=M .free)->(x,QZ)∈names\/(x,QY)∈names:=by
  intro names
  induction names with
  |nil=>intro h;simp at h
  |cons y r ih=>
   intro h;obtain⟨n,k⟩:=y
   by_cases hx:(x==n)=true
   ·have hxn:x=n:=by simpa using hx
    subst hxn
    by_cases hc:(k==QZ&&X.env.scope.kind==.function&&X.env.kindOf x==M .cell)=true
    ·have:k=.free:=by
      rw[Qu,Qu] at hc
      simpa using hc.1.1
     subst this;exact .inl PQ
    ·simp only[PF,hc,QF,hx] at h;rcases h with h|h
     ·have:k=.cell:=by simpa using h
      subst this;exact .inr PQ
     ·have:k=.free:=by simpa using h
      subst this;exact .inl PQ
   ·have hx':(x==n)=false:=by simpa using hx
    have e:∀ (kk:Tl),((((n,k) :: r).map fun (n,k)=>if (k == QZ && X.env.scope.kind == .function && X.env.kindOf n == M .cell) then (n,QY) else (n,k)).lookup x=M kk) ->
      ((r.map λ(n,k)=>if(k==QZ&&X.env.scope.kind==.function&&X.env.kindOf n==M .cell) then(n,QY) else(n,k)).lookup x=M kk):=λkk h=>by
     rw[PF,QF] at h;have:(x==((λ(y:Str×Tl)=>match y with|(n,k)=>if(k==QZ&&X.env.scope.kind==Xr&&X.env.kindOf n==M QY) then(n,QY) else(n,k)) (n,k)).1)=false:=by
      show(x==(if(k==QZ&&X.env.scope.kind==Xr&&X.env.kindOf n==M QY)=true then(n,QY) else(n,k)).1)=false
      split<;>exact hx'
     rw[this] at h;exact h
    rcases h with h|h
    ·rcases ih (.inl (e _ h)) with z|z
     ·exact .inl (Pj _ z)
     ·exact .inr (Pj _ z)
    ·rcases ih (.inr (e _ h)) with z|z
     ·exact .inl (Pj _ z)
     ·exact .inr (Pj _ z)
 rcases key scope.names h with z|z
 ·obtain⟨c,e⟩:=mP (cells:=X.env.cells) (acc:=[]) (.inr z);exact RH.mp (SW _ _ _ (.inr (by rw[e];rfl)))
 ·exact RH.mp (SW _ _ _ (.inl (S.once _ z)))
end
theorem G4
  (hQ:∀ h',(∃ m,h'.Ns s.heap.objs.size m)->(∀ x c,(T7 (s.heap.objs.size+1) scope.names cl).lookup x=M c->cl.lookup x=M c\/h'.IsCell c none)->(∀ b o,s.heap.get? b=M o->h'.get? b=M o) ->
   Q (newEnv scope s.heap.objs.size globals (T7 (s.heap.objs.size+1) scope.names cl) qual none .none (M env) Ul) { s with heap:=h' }) :
  Pp zzW A (Vy scope globals cl [] qual none .none (M env)) Q E s:=by
 have lem:∀ (names:List (Str×Tl)) (h:Q9) (acc:List (Str×Po)) (x:Str) (c:Po),(T7 h.objs.size names acc).lookup x=M c->acc.lookup x=M c\/(pushCells h names).IsCell c none:=by
  intro names
  induction names with
  |nil=>intro h acc x c e;exact .inl e
  |cons y r ih=>
   intro h acc x c e;obtain⟨n,k⟩:=y;unfold T7 at e;unfold pushCells
   by_cases hk:(k==QY)=true
   ·rw[Qh hk] at e ⊢;have hs:h.objs.size+1=(h.push { cls:=.type "cell",data:=.cell none }).objs.size:=(P' ..).symm;rw[hs] at e;rcases ih _ _ _ _ e with e|e
    ·rw[QF] at e;cases hx:x==n with
     |true=>
      rw[hx] at e;have e:h.objs.size=c:=by simpa using e
      subst e;exact .inr ⟨_,Wz r _ _ _ (O8 _ Y),Y⟩
     |false=>
      rw[hx] at e;exact .inl e
    ·exact .inr e
   ·rw[P3 hk] at e ⊢;exact ih _ _ _ _ e
 simp only[Vy,Xp,SK];refine O2 (wpAny_alloc ?_);refine O2 (wpAny_layCells _ (λname kind cells=>by cases hkc:kind==QY<;>simp[hkc]) _ _ _ _ ?_);rw[show({ s with heap:=s.heap.push { cls:=.type "dict",data:=.dict #[] } }:Pf).heap.objs.size=s.heap.objs.size+1 from P' ..];simp only[SU];refine O2 (O5 (O5 ?_));refine hQ _ ⟨_,(Heap.Ns.new s.heap (.type "dict")).keeps (Wz _ _)⟩ (λx c e=>?_) λb o e=>Wz _ _ b o (O3 _ e)
 have:=lem scope.names (s.heap.push { cls:=.type "dict",data:=.dict #[] }) cl x c;rw[P'] at this;exact this e
section
variable {X:Cx}{pins:List (Po×Obj)}{σ:L2.St}{H H2:Hp}{s s2:Pf}
def uz (X:Cx)(scope:Uw)(N:List Str)(σ σ0:L2.St):Prop:=
 ∀ (i:Nat) (x:Str) (v:V),N[i]?=M x->σ0[i]?=M (M v)->∃ j:Nat,X.N[j]?=M x/\σ[j]?=M (M v)/\(X.env.kindOf x=M .cell\/X.env.kindOf x=M .free)/\scope.names.lookup x=M .free /\
  ((Vm scope [] 0 X.env).kindOf x=M .cell\/(Vm scope [] 0 X.env).kindOf x=M .free)
theorem xV (I:aJ X pins σ H s)(h1:b≠X.env.locals)(h2:b∉X.fs):b∉Bw X.stack:=λz=>(Pq.mp (I.stkSub b z)).elim h1 h2
theorem Fp {tk:Nat} (I:aJ X pins σ H2 s2) (S:A' X scope)
  (hcap:uz X scope N σ σ0)(hlen:σ0.length=N.length)(f2:∀ b∈fp,oQ X pins H2 b)(fo:∀ b∈fp,∃ o,s2.heap.get? b=M o)(hC:s2.heap.objs.size<=C)(hD:s2.heap.objs.size<=D)(hDC:D≠C)
  (old:∀ b o,s2.heap.get? b=M o->h1.get? b=M o)(hnC:∃ m,h1.Ns C m)(heD:h1.get? D=M oD)(hoD:∀ v,oD.data≠.cell v)(own:∀ x c,(bB X scope C).lookup x=M c->C+1<=c->h1.IsCell c none):
  aJ (bR X N scope (bB X scope C) C s2 H2 fp pins) [(D,oD)] σ0 H2 { s2 with heap:=h1,toks:=tk }:=by
 have ltne:∀ b,b<s2.heap.objs.size->b≠C/\b≠D:=λb hb=>⟨λz=>absurd (z▸hb) (Q7.mpr hC),λz=>absurd (z▸hb) (Q7.mpr hD)⟩
 have cellLt:∀ x c,X.env.cells.lookup x=M c->c<s2.heap.objs.size:=λx c e=>by
  obtain⟨v,q⟩:=I.cell x c e;exact q.lt
 have big:∀ c:Po,C+1<=c->s2.heap.objs.size<=c:=λc h=>PP hC (Tn h)
 have frLt:∀ b∈Bw X.stack,b<s2.heap.objs.size:=λb hb=>by
  obtain⟨_,o,ho,_⟩:=I.stack.mem hb;exact O7 ho
 refine⟨⟨I.ok.mod,S.kind,I.ok.glob,I.ok.blt,hC,?_,?_,?_,I.ok.hd,I.ok.frames,.inl rfl,?_,?_,?_,?_,?_,I.stack,I.stkFree⟩,Y,I.bare,Un.kept old,?_,?_,?_,?_,?_,I.hok.kept old,hlen⟩
 ·intro x y c e1 e2;exact Kt S e1 e2 I.ok.inj λx c e=>Pg (cellLt x c e) hC
 ·intro x hx;exact G1 S hx
 ·intro x c hf e;rcases iW S e with ⟨_,k⟩|⟨l,_⟩
  ·have hf:(scope.names.lookup x==M QY)=true:=hf;rw[k] at hf;cases hf
  ·exact big c l
 ·intro b hb;obtain⟨o,ho⟩:=fo b hb;refine⟨(ltne b (O7 ho)).1,λx c e=>?_⟩;rcases iW S e with ⟨e,_⟩|⟨l,_⟩
  ·exact(f2 b hb).2.2.2.2.1 x c e
  ·exact λz=>absurd (O7 ho) (Q7.mpr (z▸big c l))
 ·exact λb o e=>I.bs b o e
 ·exact PP I.ok.bsz I.sz
 ·intro b o e hb;rcases(f2 b hb).2.2.2.1 with z|z
  ·exact I.ok.noex b o e z
  ·exact absurd (Pg (O7 e) (PP I.ok.bsz z)) (Qk _)
 ·intro b hb;exact xV I (f2 b hb).2.1 (f2 b hb).2.2.1
 ·obtain⟨m1,hm1⟩:=hnC;refine⟨m1,hm1,λi x v e1 e2 _=>?_⟩;obtain⟨j,j1,j2,j3,jf,j4⟩:=hcap i x v e1 e2;obtain⟨m,hn,hl⟩:=I.loc;have vis:Md X.env.scope x:=by
   rcases j3 with z|z
   ·exact .inr (.inl z)
   ·exact .inr (.inr z)
  obtain⟨u,r,l⟩:=hl j x v j1 j2 vis;refine⟨u,r,.inr ⟨j4,?_⟩⟩;obtain⟨c,hc⟩:=G1 S (C:=C) j4;rcases l with ⟨k,_⟩|⟨_,c',e',z'⟩
  ·exfalso;rcases j3 with z|z<;>(rw[z] at k;cases k)
  ·rcases iW S hc with ⟨e,_⟩|⟨_,k⟩
   ·rw[e'] at e;cases e;exact⟨_,hc,z'.keeps old⟩
   ·rw[jf] at k;cases k
 ·intro x c e;rcases iW S e with ⟨e,_⟩|⟨l,_⟩
  ·obtain⟨v,q⟩:=I.cell x c e;exact⟨v,q.keeps old⟩
  ·exact⟨_,own x c e l⟩
 ·exact I.hok.fresh hC
 ·intro x c e;rcases iW S e with ⟨e,_⟩|⟨l,_⟩
  ·exact I.freeC x c e
  ·exact I.hok.fresh (big c l)
 ·intro p hp;rcases Qe.mp hp with hp|hp
  ·obtain⟨q1,q2,q3,q4,q5⟩:=I.pin p hp;exact⟨old _ _ q1,q2,(ltne _ (O7 q1)).1,xV I q3 q4,q5⟩
  ·cases O9.mp hp;exact⟨heD,I.hok.fresh hD,hDC,λz=>absurd (frLt D z) (Q7.mpr hD),hoD⟩
theorem Fv {n:Nat} (I:aJ X pins σ H2 s2)
  (f2:∀ b∈fp,oQ X pins H2 b)(hD:s2.heap.objs.size<=D)(J:aJ (bR X N scope (bB X scope C) C s2 H2 fp pins) ((D,{ cls:=.type "list",data:=.seq its.toArray n })::pl) σ0 H' s')(r:aU ys its)(hz:ys.length<=Pz):
  aJ X pins σ (upd H' D (.lst ys)) s':=by
 have pD:=J.pin (D,{ cls:=.type "list",data:=.seq its.toArray n }) (Py _ PQ);have fD:H' D=none:=pD.2.1;have u0:Un (Bw X.stack) fp H2 H' s2.heap s'.heap:=J.base;have fr2:H2 D=none:=I.hok.fresh hD;have u:Un (Bw X.stack) fp H2 (upd H' D (.lst ys)) s2.heap s'.heap:=by
  refine⟨u0.keep,u0.slot,λb o e n' hx=>?_,u0.there,λb xs e=>?_,λb o w e=>?_,λb ps e=>?_⟩
  ·rw[au (show b≠D from λz=>absurd (O7 e) (Q7.mpr (by rw[z];exact hD)))];exact u0.free b o e n' hx
  ·rw[au (aS e fr2)];exact u0.tups b xs e
  ·rw[au (aS e fr2)];exact u0.frzs b o w e
  ·rw[au (aS e fr2)];exact u0.tbls b ps e
 refine I.call' (ch:=fp) J.os u (λb o e=>?_) J.bare λb hb=>?_
 ·by_cases hb:b=D
  ·subst hb;rw[ag] at e;cases e;exact⟨hz,its,n,r,pD.1⟩
  ·rw[au hb] at e;exact(J.hok b o e).stay (λ_ _ _ q=>q) (λc q=>by rw[au (aS q fD)];exact q) λc xs q=>by rw[au (aS q fD)];exact q
 ·obtain⟨_,g1,_,g3,g4,g5⟩:=f2 b hb;exact⟨g3,g1,g4,g5⟩
def Ov (X:Cx)(ifs:List Rz)(t:TT):Prop:=
 ∀ (pins:List (Po×Obj)) (s:Pf) (σ:L2.St) (H:Hp) (Q:Bool->Hp->Prop),aJ X pins σ H s->t σ H Q ->
  Pp (PX X.prog X.w) X.A (forIn ifs true λc r=>if r=true then do let ok <- isTrue c X.env (Ts c X.env);pure (Tc ok) else pure (Tc r)) (TP X pins σ Q) X.xe s
structure Kl (X:Cx)(e:List Rz)(t:TT):Prop where
 go:Ov X e t
def KN:TT:=λ_ H Q=>Q true H
theorem aD:Kl X [] KN:=by
 exact⟨λ_ _ _ H _ I h=>wpAny_tests_nil ⟨H,I,h⟩⟩
theorem Aa (h:WT X c t):Kl X [c] t:=by
 have h:=h.go;exact⟨λpins s σ H Q I hq=>wpAny_tests_one (h pins s σ H Q I hq)⟩
def gf (J:It)(g:TG)(tt:TT)(te:TE)(σ0:L2.St)(Fin:List V->Hp->Prop)(H1:Hp):Prop:=∃ W:Nat->Nat->List V->Hp->Prop,(∃ m,W 0 m [] H1)/\∀ i m ys H2,W i m ys H2 ->
 (J.stop i H2/\ys.length<=Pz/\Fin ys H2) \/
 (J.go i H2/\ys.length<Pz/\∀ x H3,J.yld i H2 x H3->g x σ0 H3 λσ' H4=>tt σ' H4 λb H5=>if b=true then te σ' H5 λy H6=>∃ m',m'<m/\W (i+1) m' (ys++[y]) H6 else ∃ m',m'<m/\W (i+1) m' ys H5)
end
def tO (sc:Uw):Bool:=sc.kind==.function&&sc.names.all (λy=>sc.names.lookup y.1==M y.2)&&sc.names.all (λy=>sc.names.all λz=>!(y.2==.cell&&z.2==.cell)||y.1==z.1) &&
 sc.names.all λy=>y.2==.local||y.2==.globalImplicit||y.2==.cell||y.2==.free
theorem yd (h:tO scope=true)(hf:(scope.names.all λy=>!(y.2==.free)||(X.env.cells.lookup y.1).isSome)=true):A' X scope:=by
 unfold tO at h;simp only[Qu,Rb] at h;obtain⟨⟨⟨h1,h2⟩,h3⟩,h4⟩:=h;refine⟨by simpa using h1,λy hy=>by simpa using h2 y hy,λy hy z hz a b=>?_,λy hy=>?_,λy hy e=>?_⟩
 ·have:=h3 y hy z hz;rw[a,b] at this
  simpa using this
 ·have:=h4 y hy;simp only[Bool.or_eq_true,RJ] at this;rcases this with ((q|q)|q)|q
  ·exact .inl q
  ·exact .inr (.inl q)
  ·exact .inr (.inr (.inl q))
  ·exact .inr (.inr (.inr q))
 ·rw[Rb] at hf;have:=hf y hy;rw[e] at this;exact RH.mp (by simpa using this)
def qf (X:Cx)(scope:Uw)(cs:List Str)(js:List Nat):Bool:=(cs.zip js).all λp=>(X.N[p.2]?==M p.1)&&(X.env.kindOf p.1==M .cell||X.env.kindOf p.1==M .free)&&(scope.names.lookup p.1==M .free) &&
 ((Vm scope [] 0 X.env).kindOf p.1==M .cell||(Vm scope [] 0 X.env).kindOf p.1==M .free)
theorem BK (h:qf X scope cs js=true) (hl:cs.length=js.length) {k:Nat} (hk:ts.length=k) (σ:L2.St) (_:σ.length=X.N.length) :
  uz X scope (ts++cs) σ (A8 k js σ)/\(A8 k js σ).length=(ts++cs).length:=by
 subst hk;refine⟨λi x v e1 e2=>?_,by unfold A8;simp[hl]⟩;unfold A8 at e2;have hi:ts.length<=i:=by
  rcases Nat.lt_or_ge i ts.length with z|z
  ·rw[Ry (by simpa using z),T4,Qh z] at e2;cases e2
  ·exact z
 rw[Ro hi] at e1;rw[Ro (by simpa using hi),Wn,Ps] at e2;cases hj:js[i-ts.length]? with
 |none=>rw[hj] at e2;cases e2
 |some j=>
  rw[hj] at e2;have e2:(σ[j]?).join=M v:=O4 e2;have e3:σ[j]?=M (M v):=by
   cases q:σ[j]? with
   |none=>rw[q] at e2;cases e2
   |some o=>rw[q] at e2;exact S0 M e2
  have m:(x,j)∈cs.zip js:=by
   have:(cs.zip js)[i-ts.length]?=M (x,j):=by rw[Qr];exact⟨e1,hj⟩
   exact PL this
  unfold qf at h;rw[Rb] at h;have c:=h _ m;simp only[Qu,Bool.or_eq_true,RJ] at c;exact⟨j,c.1.1.1,e3,c.1.1.2,c.1.2,c.2⟩
def mZ (b:Bool)(h:Q9)(j q:Po)(k:Nat)(its:Array O6):Prop:=match b with
 |true=>h.IsListIter j q k/\h.IsList q its
 |false=>h.IsTupleIter j q k/\h.IsTuple q its
theorem mZ.keep {k:Nat}(x:mZ b h j q k its)(e1:∀ o,h.get? j=M o->g.get? j=M o)(e2:∀ o,h.get? q=M o->g.get? q=M o):mZ b g j q k its:=by
 cases b with
 |true=>
  obtain⟨⟨o,a,r⟩,⟨u,c,t⟩⟩:=x;exact⟨⟨o,e1 o a,r⟩,⟨u,e2 u c,t⟩⟩
 |false=>
  obtain⟨⟨o,a,r⟩,⟨u,c,t⟩⟩:=x;exact⟨⟨o,e1 o a,r⟩,⟨u,e2 u c,t⟩⟩
theorem mZ.ext {k:Nat}(x:mZ b h j q k its)(e:UN c h g)(n1:j≠c)(n2:q≠c):mZ b g j q k its:=
 x.keep (λo a=>e j o n1 a) λo a=>e q o n2 a
theorem mZ.there {k:Nat}(x:mZ b h j q k its):∃ o vs,h.get? j=M o/\o.data=.fields vs:=by
 cases b with
 |true=>
  obtain⟨⟨o,a,_,d⟩,_⟩:=x;exact⟨o,_,a,d⟩
 |false=>
  obtain⟨⟨o,a,_,d⟩,_⟩:=x;exact⟨o,_,a,d⟩
theorem mZ.src {k:Nat}(x:mZ b h j q k its):∃ o n,h.get? q=M o/\o.data=.seq its n:=by
 cases b with
 |true=>
  obtain⟨_,⟨o,a,_,n,d⟩⟩:=x;exact⟨o,n,a,d⟩
 |false=>
  obtain⟨_,⟨o,a,_,n,d⟩⟩:=x;exact⟨o,n,a,d⟩
theorem mZ.ne {k:Nat}(x:mZ b h j q k its):q≠j:=λz=>by
 obtain⟨o,vs,a,d⟩:=x.there;obtain⟨u,n,c,t⟩:=x.src;rw[z,a] at c;cases c;rw[d] at t;cases t
section
variable {prog:PU}{w:Qq}{A:QB}{E:O6->Pf->Prop}{s:Pf}
theorem IL {k:Nat} (h1:s.heap.IsTupleIter j q k) (h2:s.heap.IsTuple q its) (hv:its[k]?=M v)
  (fin:∀ g,g.IsTupleIter j q (k+1)->Qg j s.heap g->Q v { s with heap:=g }):Pp (PX prog w) A (PJ (.ref j)) Q E s:=by
 obtain⟨oj,ej,cj,dj⟩:=id h1;obtain⟨oq,eq,_,nq,dq⟩:=h2;unfold PJ;refine O2 (P_ (name:=QQ "__next__") h1.typeIs R1 (Qn R1 h1.typeIs UM ?_ (UG _)));show Pp _ _ (field (.ref j) 0>>=_) _ _ s;refine O2 (Qd ej dj (x:=.ref q) Y ?_);show Pp _ _ (if(P2 q==QT)=true then _ else _) _ _ s;rw[P3 (show ¬ (P2 q==QT)=true from QK)];show Pp _ _ (field (.ref j) 1>>=_) _ _ s;refine O2 (Qd ej dj (x:=.int k 0) Y ?_);show Pp _ _ (Xy (.ref q)>>=_) _ _ s;refine O2 (Ql eq dq ?_);simp only[Qc,hv];refine O2 (Sn ej dj (by simp) (O5 ⟨v,Y,O5 (fin _ ?_ (P6 ..))⟩));refine⟨_,P7 _ ej (Sb (QS dj _)),(Uh ..).trans cj,?_⟩;rw[QS dj];simp[RO]
theorem Iz {k:Nat} (hh:A.handled=none) (h1:s.heap.IsTupleIter j q k) (h2:s.heap.IsTuple q its) (hv:its[k]?=none)
  (fin:∀ g e,UN j s.heap g->(∃ o,g.get? e=M o/\o.cls=.type "StopIteration")->E (.ref e) { s with heap:=g }):Pp (PX prog w) A (PJ (.ref j)) Q E s:=by
 obtain⟨oj,ej,cj,dj⟩:=id h1;obtain⟨oq,eq,_,nq,dq⟩:=h2;unfold PJ;refine O2 (P_ (name:=QQ "__next__") h1.typeIs R1 (Qn R1 h1.typeIs UM ?_ (UG _)));show Pp _ _ (field (.ref j) 0>>=_) _ _ s;refine O2 (Qd ej dj (x:=.ref q) Y ?_);show Pp _ _ (if(P2 q==QT)=true then _ else _) _ _ s;rw[P3 (show ¬ (P2 q==QT)=true from QK)];show Pp _ _ (field (.ref j) 1>>=_) _ _ s;refine O2 (Qd ej dj (x:=.int k 0) Y ?_);show Pp _ _ (Xy (.ref q)>>=_) _ _ s;refine O2 (Ql eq dq ?_);simp only[Qc,hv];refine O2 (SG (O2 (Sn ej dj (by simp) ?_)));show Pp _ _ (newExc (.type "StopIteration") ([]:List O6)>>=_) _ _ _;refine O2 ?_;simp only[newExc,newTuple];refine O2 (QJ ?_ (by size_fits));refine O2 (m:=Tx _ _) (Xh (a:=QT) (by first|rfl|(unfold Tx;rfl)) ?_);refine QJ ?_ (by size_fits);unfold raiseNew;refine O2 (XA ?_)
 first|rw[hh]|rw[show A.in1.handled=none from hh]
 refine O2 (O5 (wpAny_throw (fin _ _ (((P6 ..).extBut.push _).push _) ⟨_,O8 _ rfl,rfl⟩)))
theorem mZ.next {k:Nat} (x:mZ b s.heap j q k its) (hv:its[k]?=M v)
  (fin:∀ g,mZ b g j q (k+1) its->Qg j s.heap g->Q v { s with heap:=g }):Pp (PX prog w) A (PJ (.ref j)) Q E s:=by
 have hn:=x.ne;cases b with
 |true=>exact wpAny_nextOf_list_item x.1 x.2 hv λg h1' sb=>fin g ⟨h1',x.2.extBut sb.extBut hn⟩ sb
 |false=>exact IL x.1 x.2 hv λg h1' sb=>fin g ⟨h1',x.2.extBut sb.extBut hn⟩ sb
theorem mZ.stops {k:Nat} (hh:A.handled=none) (x:mZ b s.heap j q k its) (hv:its[k]?=none)
  (fin:∀ g e,UN j s.heap g->(∃ o,g.get? e=M o/\o.cls=.type "StopIteration")->E (.ref e) { s with heap:=g }):Pp (PX prog w) A (PJ (.ref j)) Q E s:=by
 cases b with
 |true=>exact wpAny_nextOf_list_end hh x.1 x.2 hv fin
 |false=>exact Iz hh x.1 x.2 hv fin
structure KZ (b1 b2:Bool)(h:Q9)(z ti to j1 j2 q1 q2:Po)(f0:O6)(k:Nat)(xs ys:Array O6):Prop where
 zp:UP h z ti to f0
 pi:Td h ti (.ref j1) (.ref j2)
 po:∃ a b,Td h to a b
 s1:mZ b1 h j1 q1 k xs
 s2:mZ b2 h j2 q2 k ys
structure Kk (z ti to j1 j2 q1 q2:Po):Prop where
 a1:ti≠z
 a2:to≠z
 a3:j1≠z
 a4:j2≠z
 a5:ti≠to
 a6:ti≠j1
 a7:ti≠j2
 a8:to≠j1
 a9:to≠j2
 b1:j1≠j2
 c1:q1≠z
 c2:q1≠to
 c4:q1≠j2
 d1:q2≠z
 d2:q2≠to
 d3:q2≠j1
theorem J6 {k:Nat} (D:Kk z ti to j1 j2 q1 q2) (Z:KZ b1 b2 s.heap z ti to j1 j2 q1 q2 .none k xs ys) (hx:xs[k]?=M x) (hy:ys[k]?=M y)
  (fin:∀ g,KZ b1 b2 g z ti to j1 j2 q1 q2 (RO s.heap.objs.size) (k+1) xs ys->Td g s.heap.objs.size x y->(∀ c o,c≠z->c≠to->c≠j1->c≠j2->s.heap.get? c=M o->g.get? c=M o)->Q (M (.ref s.heap.objs.size)) { s with heap:=g }):
  Pp (PX prog w) A (SE (.ref z)) Q E s:=by
 obtain⟨hz,hi,⟨pa,pb,ho⟩,hs1,hs2⟩:=Z;have ht:s.TypeIs (.ref z) "zip":=⟨_,hz,Y⟩
 unfold SE;refine O2 (RS (P_ (name:=QQ "__next__") ht QW (Qn QW ht SN ?_ (Sv _))));show Pp _ _ (field (.ref z) 2>>=_) _ _ s;refine O2 (Qd hz rfl (x:=.bool false) Y ?_);show Pp _ _ (field (.ref z) 3>>=_) _ _ s;refine O2 (Qd hz rfl (x:=.ref ti) Y ?_);refine O2 (Ql hi rfl ?_);show Pp _ _ (PH (.ref z)>>=_) _ _ s;refine O2 ?_;unfold PH;refine O2 (Qd hz rfl (x:=.none) Y (O5 ?_));simp only[SK];refine O2 (SG (O2 (Qd hz rfl (x:=.ref to) Y ?_)));refine O2 (Qb hz (by simp) λg1 z1 e1=>?_);have z1:UP g1 z ti to .ellipsis:=z1;refine O2 ?_;simp only[Uz,UV,SA,SU];refine O2 (O2 (SM ?_));show Pp _ _ (PJ (.ref j1)>>=_) _ _ { s with heap:=g1 };refine O2 ((hs1.ext e1.extBut D.a3 D.c1).next hx λg2 i2 e2=>O5 ?_);have o2:Td g2 to pa pb:=e2.extBut _ _ D.a8 (e1.extBut _ _ D.a2 ho);refine O2 (Ql o2 rfl (O2 (UD o2 λg3 o3 e3=>?_)));have o3:Td g3 to x pb:=o3;refine O2 (Ti (O5 ?_));refine O2 (O2 (SM ?_));show Pp _ _ (PJ (.ref j2)>>=_) _ _ { s with heap:=g3 };refine O2 ((((hs2.ext e1.extBut D.a4 D.d1).ext e2.extBut D.b1.symm D.d3).ext e3.extBut D.a9.symm D.d2).next hy λg4 i4 e4=>O5 ?_);have o4:Td g4 to x pb:=e4.extBut _ _ D.a9 o3;refine O2 (Ql o4 rfl (O2 (UD o4 λg5 o5 e5=>?_)));have o5:Td g5 to x y:=o5;refine O2 (Ti (O5 (O5 ?_)));refine O2 (Ql o5 rfl (O2 (Ur ?_)));have sz:g5.objs.size=s.heap.objs.size:=by rw[e5.1,e4.1,e3.1,e2.1,e1.1]
 have z5:UP g5 z ti to .ellipsis:=e5.extBut _ _ D.a2.symm (e4.extBut _ _ D.a4.symm (e3.extBut _ _ D.a2.symm (e2.extBut _ _ D.a3.symm z1)));have k5:∀ c o,c≠z->c≠to->c≠j1->c≠j2->s.heap.get? c=M o->g5.get? c=M o:=λc o n1 n2 n3 n4 e=>
  e5.extBut _ _ n2 (e4.extBut _ _ n4 (e3.extBut _ _ n2 (e2.extBut _ _ n3 (e1.extBut _ _ n1 e))))
 have i5:mZ b1 g5 j1 q1 (k+1) xs:=((i2.ext e3.extBut D.a8.symm D.c2).ext e4.extBut D.b1 D.c4).ext e5.extBut D.a8.symm D.c2;have i6:mZ b2 g5 j2 q2 (k+1) ys:=i4.ext e5.extBut D.a9.symm D.d2;have lz:z<g5.objs.size:=O7 z5;show Pp _ _ (Q8 (.ref z) (.ref g5.objs.size)>>=_) _ _ _;refine O2 ?_;unfold Q8;have z6:UP (g5.push { cls:=.type "tuple",data:=.seq #[x,y] }) z ti to .ellipsis:=O3 _ z5;refine O2 (Qb z6 (by simp) λg7 z7 e7=>?_);have z7:UP g7 z ti to (RO g5.objs.size):=z7;refine Qb z7 (by simp) λg8 z8 e8=>?_
 have z8:UP g8 z ti to (RO g5.objs.size):=z8;have up:∀ c o,c≠z->g5.get? c=M o->g8.get? c=M o:=λc o n e=>e8.extBut _ _ n (e7.extBut _ _ n (O3 _ e))
 have t8:Td g8 g5.objs.size x y:=e8.extBut _ _ (P8 lz) (e7.extBut _ _ (P8 lz) (O8 _ Y));rw[sz] at z8 t8;refine O5 ⟨_,Y,O5 ?_⟩;show Q (M (.ref g5.objs.size)) _;rw[sz];exact fin g8 ⟨z8,up _ _ D.a1 (k5 _ _ D.a1 D.a5 D.a6 D.a7 hi),⟨x,y,up _ _ D.a2 o5⟩,i5.keep (λo e=>up _ o D.a3 e) (λo e=>up _ o D.c1 e),i6.keep (λo e=>up _ o D.a4 e) (λo e=>up _ o D.d1 e)⟩ t8
  λc o n1 n2 n3 n4 e=>up c o n1 (k5 c o n1 n2 n3 n4 e)
theorem MO {k:Nat} (hh:A.handled=none) (D:Kk z ti to j1 j2 q1 q2) (Z:KZ b1 b2 s.heap z ti to j1 j2 q1 q2 .none k xs ys) (hv:xs[k]?=none\/ys[k]?=none)
  (fin:∀ g,(∀ c o,c≠z->c≠to->c≠j1->c≠j2->s.heap.get? c=M o->g.get? c=M o)->Q none { s with heap:=g }):Pp (PX prog w) A (SE (.ref z)) Q E s:=by
 obtain⟨hz,hi,⟨pa,pb,ho⟩,hs1,hs2⟩:=Z;have ht:s.TypeIs (.ref z) "zip":=⟨_,hz,Y⟩
 have stopped:∀ (g:Q9) (e:Po),(∀ c o,c ≠ z->c ≠ to->c ≠ j1->c ≠ j2->s.heap.get? c=M o->g.get? c=M o)->(∃ o,g.get? e=M o/\o.cls=.type "StopIteration") ->
   Pp (PX prog w) A (do if <- WJ (.ref e) (.type "StopIteration") then pure none else throw (.ref e)) Q E { s with heap:=g }:=λg e kk ⟨o,h1,h2⟩=>
  O2 (R' (T:="StopIteration") (b:=true) ⟨o,h1,h2⟩ Uq (O5 (fin g kk)))
 unfold SE;refine O2 (RS (P_ (name:=QQ "__next__") ht QW (Qn QW ht SN ?_ (Sv _))));show Pp _ _ (field (.ref z) 2>>=_) _ _ s;refine O2 (Qd hz rfl (x:=.bool false) Y ?_);show Pp _ _ (field (.ref z) 3>>=_) _ _ s;refine O2 (Qd hz rfl (x:=.ref ti) Y ?_);refine O2 (Ql hi rfl ?_);show Pp _ _ (PH (.ref z)>>=_) _ _ s;refine O2 ?_;unfold PH;refine O2 (Qd hz rfl (x:=.none) Y (O5 ?_));simp only[SK];refine O2 (SG (O2 (Qd hz rfl (x:=.ref to) Y ?_)));refine O2 (Qb hz (by simp) λg1 z1 e1=>?_);have z1:UP g1 z ti to .ellipsis:=z1;refine O2 ?_;simp only[Uz,UV,SA,SU];refine O2 (O2 (SM ?_));show Pp _ _ (PJ (.ref j1)>>=_) _ _ { s with heap:=g1 };cases hx:xs[k]? with
 |none=>
  refine O2 ((hs1.ext e1.extBut D.a3 D.c1).stops hh hx λg2 e e2 he=>?_);obtain⟨oe,q1',q2'⟩:=he;have z2:UP g2 z ti to .ellipsis:=e2 _ _ D.a3.symm z1;have ne:e≠z:=λc=>by subst c;rw[z2] at q1';cases q1';simp at q2'
  exact Qb z2 (by simp) λg3 _ e3=>stopped g3 e (λc o n1 _ n3 _ u=>e3.extBut _ _ n1 (e2 _ _ n3 (e1.extBut _ _ n1 u))) ⟨oe,e3.extBut _ _ ne q1',q2'⟩
 |some x=>
  have hy:ys[k]?=none:=hv.resolve_left (by rw[hx];exact λc=>nomatch c);refine O2 ((hs1.ext e1.extBut D.a3 D.c1).next hx λg2 i2 e2=>O5 ?_);have o2:Td g2 to pa pb:=e2.extBut _ _ D.a8 (e1.extBut _ _ D.a2 ho);refine O2 (Ql o2 rfl (O2 (UD o2 λg3 o3 e3=>?_)));refine O2 (Ti (O5 ?_));refine O2 (O2 (SM ?_));show Pp _ _ (PJ (.ref j2)>>=_) _ _ { s with heap:=g3 };refine O2 ((((hs2.ext e1.extBut D.a4 D.d1).ext e2.extBut D.b1.symm D.d3).ext e3.extBut D.a9.symm D.d2).stops hh hy λg4 e e4 he=>?_);obtain⟨oe,q1',q2'⟩:=he;have z4:UP g4 z ti to .ellipsis:=e4 _ _ D.a4.symm (e3.extBut _ _ D.a2.symm (e2.extBut _ _ D.a3.symm z1));have ne:e≠z:=λc=>by subst c;rw[z4] at q1';cases q1';simp at q2'
  exact Qb z4 (by simp) λg5 _ e5=>stopped g5 e (λc o n1 n2 n3 n4 u=>e5.extBut _ _ n1 (e4 _ _ n4 (e3.extBut _ _ n2 (e2.extBut _ _ n3 (e1.extBut _ _ n1 u))))) ⟨oe,e5.extBut _ _ ne q1',q2'⟩
end
def bU (K:KE)(H:Hp)(a:Po)(xs:List V):Bool->Prop
 |true=>bK K H a xs
 |false=>dR K H a xs
def zT (h:Q9)(j q:Po)(k:Nat):Bool->Prop
 |true=>h.IsListIter j q k
 |false=>h.IsTupleIter j q k
theorem zT.keep {k:Nat}:∀ {b:Bool},zT h j q k b->(∀ o,h.get? j=M o->g.get? j=M o)->zT g j q k b
 |true,⟨o,e,r⟩,f=>⟨o,f o e,r⟩
 |false,⟨o,e,r⟩,f=>⟨o,f o e,r⟩
theorem zT.fields {k:Nat}:∀ {b:Bool},zT h j q k b->∃ o vs,h.get? j=M o/\o.data=.fields vs
 |true,⟨o,e,_,d⟩=>⟨o,_,e,d⟩
 |false,⟨o,e,_,d⟩=>⟨o,_,e,d⟩
section
variable {X:Cx}{pins:List (Po×Obj)}{σ:L2.St}{H:Hp}{s:Pf}
theorem gU {k:Nat}(I:aJ X pins σ H s):∀ {b:Bool},bU X.K H q xs b->zT s.heap j q k b->∃ its:List O6,aU xs its/\mZ b s.heap j q k its.toArray
 |true,h,i=>by
  obtain⟨its,rv,p,_⟩:=I.list h;exact⟨its,rv,i,p.isList⟩
 |false,h,i=>by
  obtain⟨its,rv,p,_⟩:=I.tuple h;exact⟨its,rv,i,p⟩
theorem C8 {k:Nat}(x:mZ b h j q k its):zT h j q k b:=by
 cases b with
 |true=>exact x.1
 |false=>exact x.1
theorem qj (I:aJ X pins σ H s):∀ {b:Bool},bU X.K H q xs b->bU X.K H q ys b->xs=ys
 |true,h,h'=>I.list_inj h h'
 |false,h,h'=>I.tuple_inj h h'
theorem rl (I:aJ X pins σ H s):∀ {b:Bool},bU X.K H q xs b->∃ o its n,s.heap.get? q=M o/\o.data=.seq its n
 |true,h=>by
  obtain⟨its,rv,⟨o,n,e,_,_,d⟩,_⟩:=I.list h;exact⟨o,_,n,e,d⟩
 |false,h=>by
  obtain⟨its,rv,⟨o,e,_,n,d⟩,_⟩:=I.tuple h;exact⟨o,_,n,e,d⟩
theorem dM (I:aJ X pins σ H s) (hn:H T=none) (h1:X.s₀.heap.objs.size <= T) (hL:T ≠ X.env.locals) (h2:∀ x c,X.env.cells.lookup x=M c->c ≠ T) (h3:∀ p ∈ X.pn ++ pins,p.1 ≠ T)
  (ok:ce X.prog X.w (upd H T o) s.heap T o):aJ X pins σ (upd H T o) s:=by
 have J:=I.step (h':=s.heap) (g':=s.gens) (t':=s.toks) (d':=s.drawn) (H':=upd H T o) (ch:=[T]) (λb hb=>?_) (λb o _ _ _ e _=>e) (λb o _ _ _ e _=>⟨o.slots,e⟩) (λb o hb _ n=>by rw[au (show b≠T from λz=>hb (by simp[z]))];exact n)
  (λb o _ e=>⟨o,e⟩) (λb xs e=>by rw[au (aS e hn)];exact e) (λb u w e=>by rw[au (aS e hn)];exact e) (λb ps e=>⟨#[],by rw[au (aS e hn),e];simp⟩) (λm hm=>hm) (λb u e=>?_) I.bare
 ·exact J
 ·cases O9.mp hb;exact⟨.inr h1,hL,h2,h3⟩
 ·by_cases hb:b=T
  ·subst hb;rw[ag] at e;cases e;exact ok
  ·rw[au hb] at e;exact(I.hok b u e).stay (λ_ _ _ q=>q) (λc q=>by rw[au (aS q hn)];exact q) λc xs q=>by rw[au (aS q hn)];exact q
end
def Me (K:KE)(b1 b2:Bool)(q1 q2:Po):It:=
 ⟨λi H=>∃ xs ys x y,bU K H q1 xs b1/\bU K H q2 ys b2/\xs[i]?=M x/\ys[i]?=M y,
  λi H v H'=>∃ x y T,(∀ xs,bU K H q1 xs b1->xs[i]?=M x)/\(∀ ys,bU K H q2 ys b2->ys[i]?=M y)/\H T=none/\v=.ref T/\H'=upd H T (.tup [x,y]),
  λi H=>∃ xs ys,bU K H q1 xs b1/\bU K H q2 ys b2/\(xs.length<=i\/ys.length<=i)⟩
def N4 (z ti to j1 j2 q1 q2:Po)(b1 b2:Bool)(k:Nat)(h:Q9):Prop:=UP h z ti to .none/\Td h ti (.ref j1) (.ref j2)/\(∃ a b,Td h to a b)/\zT h j1 q1 k b1/\zT h j2 q2 k b2
theorem FX {P:PU}{w:Qq}{K:KE}{elts:List Rz}{tk:Nat}{pos:Pos}{z ti to j1 j2 q1 q2:Po}{b1 b2:Bool} (D:ti ≠ z/\to ≠ z/\j1 ≠ z/\j2 ≠ z/\ti ≠ to/\ti ≠ j1/\ti ≠ j2/\to ≠ j1/\to ≠ j2/\j1 ≠ j2) :
  xR P w K (.Tuple elts tk pos) (Me K b1 b2 q1 q2) [z,ti,to,j1,j2] z (N4 z ti to j1 j2 q1 q2 b1 b2) where
 mem:=by simp
 obj:=λi h st b hb=>by
  obtain⟨h1,h2,⟨a,c,h3⟩,h4,h5⟩:=st;simp only[Pq,PR,Rj] at hb;rcases hb with rfl|rfl|rfl|rfl|rfl
  ·exact⟨_,h1,λv e=>nomatch e⟩
  ·exact⟨_,h2,λv e=>nomatch e⟩
  ·exact⟨_,h3,λv e=>nomatch e⟩
  ·obtain⟨o,vs,e,d⟩:=h4.fields;exact⟨o,e,λv u=>by rw[d] at u;cases u⟩
  ·obtain⟨o,vs,e,d⟩:=h5.fields;exact⟨o,e,λv u=>by rw[d] at u;cases u⟩
 keep:=λi h h' st k=>by
  obtain⟨h1,h2,⟨a,c,h3⟩,h4,h5⟩:=st;exact⟨k z (by simp) _ h1,k ti (by simp) _ h2,⟨a,c,k to (by simp) _ h3⟩,h4.keep λo e=>k j1 (by simp) o e,h5.keep λo e=>k j2 (by simp) o e⟩
 item:=by
  intro X hP hw hK hc i pins s σ H E I hf st hg;subst hP hw hK;obtain⟨xs,ys,x,y,hq1,hq2,hx,hy⟩:=hg;obtain⟨hz,hi,⟨a,c,ho⟩,t1,t2⟩:=st;obtain⟨us,r1,s1⟩:=gU I hq1 t1;obtain⟨vs,r2,s2⟩:=gU I hq2 t2;obtain⟨u,eu,ru⟩:=r1.get hx;obtain⟨v,ev,rv⟩:=r2.get hy;obtain⟨d1,d2,d3,d4,d5,d6,d7,d8,d9,d10⟩:=D;have tr:∀ {q:Po}{zs:List V}{b:Bool},bU X.K H q zs b->∀ b'∈[z,ti,to,j1,j2],(∃ o ws,s.heap.get? b'=M o/\o.data=.fields ws)->q≠b':=λ{q zs b} hq b' _ ⟨o,ws,e,d⟩ n=>by
   obtain⟨o',its,nn,e',d'⟩:=rl I hq;rw[n,e] at e';cases e';rw[d] at d';cases d'
  have zf:∃ o ws,s.heap.get? z=M o/\o.data=.fields ws:=⟨_,_,hz,Y⟩
  have tof:∀ {q:Po}{zs:List V}{b:Bool},bU X.K H q zs b->q≠to:=λ{q zs b} hq n=>by
   have fto:H to=none:=(hf to (by simp)).1;have ft:=(hf to (by simp)).2;cases b with
   |true=>
    obtain⟨its,_,⟨o',nn,e',cc,_,d'⟩,_⟩:=I.list hq;rw[n,ho] at e';cases e';simp at cc
   |false=>
    rcases hq with (hq|⟨o',hq⟩)|⟨o',its,nn,kk,_⟩
    ·rw[n,fto] at hq;cases hq
    ·rw[n,fto] at hq;cases hq
    ·have bb:=I.mod.kin q o' kk;rw[n] at bb;rcases ft.2.2.1 with e|e
     ·exact I.ok.noex to o' bb e
     ·exact absurd (Pg (O7 bb) (PP I.ok.bsz e)) (Qk _)
  have AP:Kk z ti to j1 j2 q1 q2:=⟨d1,d2,d3,d4,d5,d6,d7,d8,d9,d10,tr hq1 z (by simp) zf,tof hq1,tr hq1 j2 (by simp) t2.fields,tr hq2 z (by simp) zf,tof hq2,tr hq2 j1 (by simp) t1.fields⟩
  refine J6 AP ⟨hz,hi,⟨a,c,ho⟩,s1,s2⟩ (x:=u) (y:=v) (by simpa using eu) (by simpa using ev) λg Z hp kk=>⟨_,Y,?_⟩
  refine VB Z.zp λg' z' sb=>?_
  have tz:s.heap.objs.size≠z:=P8 (O7 hz);have fp0:∀ b∈[z,ti,to,j1,j2],b≠s.heap.objs.size:=λb hb n=>by
   simp only[Pq,PR,Rj] at hb;rcases hb with rfl|rfl|rfl|rfl|rfl
   ·exact tz n.symm
   ·exact Qk _ (n▸O7 hi)
   ·exact Qk _ (n▸O7 ho)
   ·obtain⟨o,_,e,_⟩:=t1.fields;exact Qk _ (n▸O7 e)
   ·obtain⟨o,_,e,_⟩:=t2.fields;exact Qk _ (n▸O7 e)
  have k2:∀ b o,b∉[z,ti,to,j1,j2]->s.heap.get? b=M o->g'.get? b=M o:=λb o hb e=>
   sb.extBut b o (λn=>hb (by simp[n])) (kk b o (λn=>hb (by simp[n])) (λn=>hb (by simp[n])) (λn=>hb (by simp[n])) (λn=>hb (by simp[n])) e)
  have nfp:∀ b u',H b=M u'->b∉[z,ti,to,j1,j2]:=λb u' e hb=>by rw[(hf b hb).1] at e;cases e
  have I1:aJ X pins σ H { s with heap:=g' }:=by
   refine I.step (g':=s.gens) (d':=s.drawn) (t':=s.toks) (ch:=[z,ti,to,j1,j2]) (λb hb=>?_) (λb o _ _ hb e _=>k2 b o hb e) (λb o _ _ hb e _=>⟨o.slots,k2 b o hb e⟩) (λ_ _ _ _ n=>n) (λb o hb e=>⟨o,k2 b o hb e⟩) (λ_ _ e=>e) (λ_ _ _ e=>e)
    (λb ps e=>⟨#[],by rw[e];simp⟩) (λm hm=>?_) (λb u' e=>?_) I.bare
   ·obtain⟨_,g1,_,g3,g4,g5⟩:=hf b hb;exact⟨g3,g1,g4,g5⟩
   ·obtain⟨o,es,ep,ho',r'⟩:=hm;exact⟨o,es,ep,k2 _ o (λn=>(hf _ n).2.1 Y) ho',r'⟩
   ·refine(I.hok b u' e).stay (λc' v' hc' q=>k2 c' v' ?_ q) (λ_ q=>q) λ_ _ q=>q
    rcases hc' with rfl|hc'
    ·exact nfp _ _ e
    ·exact nfp _ _ hc'
  have hT:g'.get? s.heap.objs.size=M { cls:=.type "tuple",data:=.seq #[u,v] }:=sb.extBut _ _ tz hp;have fT:H s.heap.objs.size=none:=I.hok.fresh (Pe _);have F:=I.fpOk (b:=s.heap.objs.size) (H':=H) (Pe _) fT;have I2:aJ X pins σ (upd H s.heap.objs.size (.tup [x,y])) { s with heap:=g' }:=dM I1 fT I.sz F.2.1 F.2.2.2.2.1 F.2.2.2.2.2 ⟨by show 2<=Pz;decide,[u,v],.cons ru (.cons rv .nil),⟨_,hT,rfl,_,rfl⟩⟩;have cl:∀ {j q:Po}{b:Bool}{its:Array O6},mZ b g j q (i+1) its->j≠z->zT g' j q (i+1) b:=λ{j q b its} x n=>(C8 x).keep λo e=>sb.extBut _ _ n e
  exact⟨.ref s.heap.objs.size,_,I2,Y,⟨x,y,s.heap.objs.size,λxs' h'=>by rw[qj I h' hq1];exact hx,λys' h'=>by rw[qj I h' hq2];exact hy,fT,Y,Y⟩,
   ⟨z',sb.extBut _ _ d1 Z.pi,(let ⟨a',b',e'⟩:=Z.po;⟨a',b',sb.extBut _ _ d2 e'⟩),cl Z.s1 d3,cl Z.s2 d4⟩,λb hb=>by rw[au (fp0 b hb)];exact(hf b hb).1⟩
 done:=by
  intro X hP hw hK hc i pins s σ H E I hf st hg;subst hP hw hK;obtain⟨xs,ys,hq1,hq2,hl⟩:=hg;obtain⟨hz,hi,⟨a,c,ho⟩,t1,t2⟩:=st;obtain⟨us,r1,s1⟩:=gU I hq1 t1;obtain⟨vs,r2,s2⟩:=gU I hq2 t2;have l1:=r1.length;have l2:=r2.length;obtain⟨d1,d2,d3,d4,d5,d6,d7,d8,d9,d10⟩:=D;have tr:∀ {q:Po}{zs:List V}{b:Bool},bU X.K H q zs b->∀ b'∈[z,ti,to,j1,j2],(∃ o ws,s.heap.get? b'=M o/\o.data=.fields ws)->q≠b':=λ{q zs b} hq b' _ ⟨o,ws,e,d⟩ n=>by
   obtain⟨o',its,nn,e',d'⟩:=rl I hq;rw[n,e] at e';cases e';rw[d] at d';cases d'
  have zf:∃ o ws,s.heap.get? z=M o/\o.data=.fields ws:=⟨_,_,hz,Y⟩
  have tof:∀ {q:Po}{zs:List V}{b:Bool},bU X.K H q zs b->q≠to:=λ{q zs b} hq n=>by
   have fto:H to=none:=(hf to (by simp)).1;have ft:=(hf to (by simp)).2;cases b with
   |true=>
    obtain⟨its,_,⟨o',nn,e',cc,_,d'⟩,_⟩:=I.list hq;rw[n,ho] at e';cases e';simp at cc
   |false=>
    rcases hq with (hq|⟨o',hq⟩)|⟨o',its,nn,kk,_⟩
    ·rw[n,fto] at hq;cases hq
    ·rw[n,fto] at hq;cases hq
    ·have bb:=I.mod.kin q o' kk;rw[n] at bb;rcases ft.2.2.1 with e|e
     ·exact I.ok.noex to o' bb e
     ·exact absurd (Pg (O7 bb) (PP I.ok.bsz e)) (Qk _)
  have AP:Kk z ti to j1 j2 q1 q2:=⟨d1,d2,d3,d4,d5,d6,d7,d8,d9,d10,tr hq1 z (by simp) zf,tof hq1,tr hq1 j2 (by simp) t2.fields,tr hq2 z (by simp) zf,tof hq2,tr hq2 j1 (by simp) t1.fields⟩
  have nfp:∀ b u',H b=M u'->b∉[z,ti,to,j1,j2]:=λb u' e hb=>by rw[(hf b hb).1] at e;cases e
  refine MO (I.ok.hd hc) AP ⟨hz,hi,⟨a,c,ho⟩,s1,s2⟩ (by simp;lia) λg kk=>⟨Y,?_⟩
  have k2:∀ b o,b∉[z,ti,to,j1,j2]->s.heap.get? b=M o->g.get? b=M o:=λb o hb e=>
   kk b o (λn=>hb (by simp[n])) (λn=>hb (by simp[n])) (λn=>hb (by simp[n])) (λn=>hb (by simp[n])) e
  refine I.step (g':=s.gens) (d':=s.drawn) (t':=s.toks) (ch:=[z,ti,to,j1,j2]) (λb hb=>?_) (λb o _ _ hb e _=>k2 b o hb e) (λb o _ _ hb e _=>⟨o.slots,k2 b o hb e⟩) (λ_ _ _ _ n=>n) (λb o hb e=>⟨o,k2 b o hb e⟩) (λ_ _ e=>e) (λ_ _ _ e=>e)
   (λb ps e=>⟨#[],by rw[e];simp⟩) (λm hm=>?_) (λb u' e=>?_) I.bare
  ·obtain⟨_,g1,_,g3,g4,g5⟩:=hf b hb;exact⟨g3,g1,g4,g5⟩
  ·obtain⟨o,es,ep,ho',r'⟩:=hm;exact⟨o,es,ep,k2 _ o (λn=>(hf _ n).2.1 Y) ho',r'⟩
  ·refine(I.hok b u' e).stay (λc' v' hc' q=>k2 c' v' ?_ q) (λ_ q=>q) λ_ _ q=>q
   rcases hc' with rfl|hc'
   ·exact nfp _ _ e
   ·exact nfp _ _ hc'
 self:=λ_ _ _ _ _ st h=>TF st.1 h
theorem BO:Qt "zip"=M (.type "zip"):=by decide +kernel
theorem jA {a b:Nat}(h:@Ne Nat a b):@Ne Po a b:=h
def y8 (q:Po):Bool->Obj
 |true=>{ cls:=.type "list_iterator",data:=.fields #[.ref q,.int 0 0] }
 |false=>{ cls:=.type "tuple_iterator",data:=.fields #[.ref q,.int 0 0] }
def BB (h:Q9)(q:Po)(its:Array O6):Bool->Prop
 |true=>h.IsList q its
 |false=>h.IsTuple q its
abbrev zA (h:Q9)(q1:Po)(b1:Bool):Q9:=h.push (y8 q1 b1)
abbrev zB (h:Q9)(q1 q2:Po)(b1 b2:Bool):Q9:=(zA h q1 b1).push (y8 q2 b2)
abbrev zC (h:Q9)(q1 q2:Po)(b1 b2:Bool):Q9:=(zB h q1 q2 b1 b2).push { cls:=.type "tuple",data:=.seq #[.ref h.objs.size,.ref (zA h q1 b1).objs.size] }
abbrev zD (h:Q9)(q1 q2:Po)(b1 b2:Bool):Q9:=(zC h q1 q2 b1 b2).push { cls:=.type "tuple",data:=.seq #[.none,.none] }
abbrev zE (h:Q9)(q1 q2:Po)(b1 b2:Bool):Q9:=(zD h q1 q2 b1 b2).push { cls:=.type "zip",data:=.fields #[.none,.bool false,.bool false,.ref (zB h q1 q2 b1 b2).objs.size,.ref (zC h q1 q2 b1 b2).objs.size] }
theorem MM (q1 q2:Po) (xs ys:Array O6) (b1 b2:Bool):Meets (Si.«zip.__new__» ⟨[.type "zip",.ref q1,.ref q2],[]⟩)
  (λ_ R s=>BB s.heap q1 xs b1/\BB s.heap q2 ys b2/\R (.ok (.ret (.ref (zD s.heap q1 q2 b1 b2).objs.size))) { s with heap:=zE s.heap q1 q2 b1 b2 }):=
 .of_wp λprog w A R s h=>by
  obtain⟨hp,g,d,tk,os⟩:=s;obtain⟨h1,h2,h⟩:=h;have hsub:=sub_zip;cases b1<;>cases b2
  ·have k1:Ve (Sl ⟨hp,g,d,tk,os⟩) q1 xs:=h1;have k2:Ve (Sl ⟨hp.push { cls:=.type "tuple_iterator",data:=.fields #[.ref q1,.int 0 0] },g,d,tk,os⟩) q2 ys:=XE h2 _
   wp_walk using Sf k1,Sf k2
   exact⟨_,Y,h⟩
  ·have k1:Ve (Sl ⟨hp,g,d,tk,os⟩) q1 xs:=h1;have k2:UO (Sl ⟨hp.push { cls:=.type "tuple_iterator",data:=.fields #[.ref q1,.int 0 0] },g,d,tk,os⟩) q2 ys:=Tz h2 _
   wp_walk using Sf k1,Ri k2
   exact⟨_,Y,h⟩
  ·have k1:UO (Sl ⟨hp,g,d,tk,os⟩) q1 xs:=h1;have k2:Ve (Sl ⟨hp.push { cls:=.type "list_iterator",data:=.fields #[.ref q1,.int 0 0] },g,d,tk,os⟩) q2 ys:=XE h2 _
   wp_walk using Ri k1,Sf k2
   exact⟨_,Y,h⟩
  ·have k1:UO (Sl ⟨hp,g,d,tk,os⟩) q1 xs:=h1;have k2:UO (Sl ⟨hp.push { cls:=.type "list_iterator",data:=.fields #[.ref q1,.int 0 0] },g,d,tk,os⟩) q2 ys:=Tz h2 _
   wp_walk using Ri k1,Ri k2
   exact⟨_,Y,h⟩
section
variable {prog:PU}{w:Qq}{A:QB}{E:O6->Pf->Prop}{s:Pf}
theorem JX (h1:BB s.heap q1 xs b1) (h2:BB s.heap q2 ys b2)
  (fin:∀ g,UP g (s.heap.objs.size+4) (s.heap.objs.size+2) (s.heap.objs.size+3) .none->Td g (s.heap.objs.size+2) (.ref s.heap.objs.size) (.ref (s.heap.objs.size+1)) ->
   Td g (s.heap.objs.size+3) .none .none->g.get? s.heap.objs.size=M (y8 q1 b1)->g.get? (s.heap.objs.size+1)=M (y8 q2 b2)->(∀ c o,s.heap.get? c=M o->g.get? c=M o)->Q (.ref (s.heap.objs.size+4)) { s with heap:=g }) :
  Pp (PX prog w) A (call (.type "zip") [.ref q1,.ref q2]) Q E s:=by
 refine callType_new F.called_zip (by decide) (F.typeCall_zip_2 _ _) (F.newCall_zip_2 _ _) (λobj=>F.args_object_init_3 obj _ _) F.entry_zip_new (MM q1 q2 xs ys b1 b2) ⟨h1,h2,?_⟩;have n1:(zA s.heap q1 b1).objs.size=s.heap.objs.size+1:=P' ..;have n2:(zB s.heap q1 q2 b1 b2).objs.size=s.heap.objs.size+2:=by rw[P',n1]
 have n3:(zC s.heap q1 q2 b1 b2).objs.size=s.heap.objs.size+3:=by rw[P',n2]
 have n4:(zD s.heap q1 q2 b1 b2).objs.size=s.heap.objs.size+4:=by rw[P',n3]
 have fr:∀ b q,(y8 q b).isFreed=false:=λb q=>by cases b<;>rfl
 have m5:(zE s.heap q1 q2 b1 b2).get? (zD s.heap q1 q2 b1 b2).objs.size=M _:=O8 _ Y;have m4:(zE s.heap q1 q2 b1 b2).get? (zC s.heap q1 q2 b1 b2).objs.size=M _:=O3 _ (O8 _ Y);have m3:(zE s.heap q1 q2 b1 b2).get? (zB s.heap q1 q2 b1 b2).objs.size=M _:=O3 _ (O3 _ (O8 _ Y));have m2:(zE s.heap q1 q2 b1 b2).get? (zA s.heap q1 b1).objs.size=M (y8 q2 b2):=O3 _ (O3 _ (O3 _ (O8 _ (fr _ _))));have m1:(zE s.heap q1 q2 b1 b2).get? s.heap.objs.size=M (y8 q1 b1):=O3 _ (O3 _ (O3 _ (O3 _ (O8 _ (fr _ _)))));show _/\_;rw[n2,n3,n4] at m5;rw[n1,n2] at m3;rw[n3] at m4;rw[n1] at m2;rw[n4];exact⟨⟨_,m5,Y⟩,fin _ m5 m3 m4 m1 m2 λc o x=>O3 _ (O3 _ (O3 _ (O3 _ (O3 _ x))))⟩
end
section
variable {X:Cx}{tg:Rz}
theorem jD (I:aJ X pins σ H s):∀ {b:Bool},bU X.K H q xs b->∃ its:List O6,aU xs its/\BB s.heap q its.toArray b
 |true,h=>by
  obtain⟨its,rv,p,_⟩:=I.list h;exact⟨its,rv,p.isList⟩
 |false,h=>by
  obtain⟨its,rv,p,_⟩:=I.tuple h;exact⟨its,rv,p⟩
def M_ (K:KE)(ta:TA):TI:=λσ H R=>ta σ H λvs H1=>∃ q1 q2 b1 b2,vs=[.ref q1,.ref q2]/\(∃ xs,bU K H1 q1 xs b1)/\(∃ ys,bU K H1 q2 ys b2)/\R (Me K b1 b2 q1 q2) H1
theorem KD {tk:Nat} (hg:Gl X "zip") (hm:X.mg "zip"=none) (ha:PA X [a,b] ta) (hs:PN [a,b] X.env=[(false,Ts a X.env),(false,Ts b X.env)]:=by rfl) (hs2:PN [b] X.env=[(false,Ts b X.env)]:=by rfl) :
  PI X (.Tuple elts tk tpos) (.Call (.Name "zip" p) [a,b] [] pos) (M_ X.K ta):=by
 intro pins s σ H R I h;refine Call_ (ig I hg hm BO (Qx (cy (ha pos pins s σ H _ I h) λus s1 ⟨vs,H1,I1,r1,q1⟩=>?_) (by rw[hs,hs2]) (by rw[hs2];rfl)));obtain⟨qa,qb,b1,b2,rfl,⟨xs,hx⟩,⟨ys,hy⟩,q⟩:=q1;obtain⟨u,v,rfl,ru,rv⟩:=k9 r1;cases ru;cases rv;obtain⟨its,_,sa⟩:=jD I1 hx;obtain⟨jts,_,sb⟩:=jD I1 hy;refine JX sa sb λg z5 z3 z4 z1 z2 kk=>?_
 refine TF z5 ?_;have io:∀ {j q:Po}{b:Bool},g.get? j=M (y8 q b)->zT g j q 0 b:=λ{j q b} e=>by cases b<;>exact⟨_,e,Y,Y⟩
 refine⟨s1.heap.objs.size+4,[s1.heap.objs.size+4,s1.heap.objs.size+2,s1.heap.objs.size+3,s1.heap.objs.size,s1.heap.objs.size+1],_,_,H1,Y,I1.kept (t':=s1.toks) kk,
  FX (z:=s1.heap.objs.size+4) (ti:=s1.heap.objs.size+2) (to:=s1.heap.objs.size+3) (j1:=s1.heap.objs.size) (j2:=s1.heap.objs.size+1) ⟨jA (by lia),jA (by lia),jA (by lia),jA (by lia),jA (by lia),jA (by lia),jA (by lia),jA (by lia),jA (by lia),jA (by lia)⟩,⟨z5,z3,⟨_,_,z4⟩,io z1,io z2⟩,λb hb=>?_,q⟩
 have le:s1.heap.objs.size<=b:=by
  simp only[Pq,PR,Rj] at hb;rcases hb with e|e|e|e|e<;>(rw[e];lia)
 exact I1.fpOk le (I1.hok.fresh le)
def t5 (K:KE)(a:Po):Bool->It
 |true=>Mu K a
 |false=>MG K a
inductive OY (K:KE)(x:V)(H:Hp)(R:It->Hp->Prop):Prop
 |mk (a:Po) (b:Bool) (_:x=.ref a) (_:∃ xs,bU K H a xs b) (_:R (t5 K a b) H)
def IM (K:KE)(tl:TE):TI:=λσ H R=>tl σ H λx H1=>OY K x H1 R
theorem LD (hl:PE X l tl):PI X tg l (IM X.K tl):=by
 intro pins s σ H R I h;refine cy (hl pins s σ H _ I h) λv s1 ⟨x,H1,I1,r1,q1⟩=>?_
 obtain⟨a,b,e,⟨xs,hq⟩,q⟩:=q1;subst e;cases r1;obtain⟨its,rv,sr⟩:=jD I1 hq;have fp:∀ c∈[s1.heap.objs.size],oQ X pins H1 c:=λc hc=>by
  cases O9.mp hc;exact I1.fpOk (Pe _) (I1.hok.fresh (Pe _))
 cases b with
 |true=>exact Ri sr ⟨s1.heap.objs.size,[s1.heap.objs.size],_,_,H1,Y,I1.kept (t':=s1.toks) λb o e=>O3 _ e,DX a _,⟨_,O8 _ Y,Y,Y⟩,fp,q⟩
 |false=>exact Sf sr ⟨s1.heap.objs.size,[s1.heap.objs.size],_,_,H1,Y,I1.kept (t':=s1.toks) λb o e=>O3 _ e,BX a _,⟨_,O8 _ Y,Y,Y⟩,fp,q⟩
end
theorem xA (K:KE)(a:String):∀ bs:List String,Sj K (.type a) (bs.map Q0)=vj a bs
 |[]=>rfl
 |b::r=>by
  show(match Sk K (.type a) (.type b) with|some true=>M true|some false=>Sj K (.type a) (r.map Q0)|none=>none)=_;rw[A_,xA K a r];rfl
section
variable {X:Cx}
def JW (K:KE):List V->Hp->VK->Prop:=λxs H Q=>∃ x T p S1 S2 b,xs=[x,.ref p]/\Ty K H x T/\H p=M (.tup [.ty S1,.ty S2])/\vj T [S1,S2]=M b/\Q (.bl b) H
theorem Jy (I:aJ X pins σ H s) (rx:bO x u) (ty:pC X.K H x t) {nn:Nat} (ht:s.heap.get? tp=M ⟨.type "tuple",dd,.seq its.toArray nn,sl⟩) (e':Sj X.K t its=M b) (h:∀ tk,Q (.bool b) { s with toks:=tk }) :
  Pp (PX X.prog X.w) A (call (.builtin "isinstance") [u,.ref tp]) Q E s:=by
 obtain⟨Z,a,b,c⟩:=Ie I rx ty;exact PySem.W.kia_tup a I.kIn b ht e' c h
theorem Ek:dD X (.builtin "isinstance") (JW X.K):=by
 intro pins s σ H xs us Q I r h;obtain⟨x,T,p,S1,S2,b,rfl,ty,hp,e,q⟩:=h;obtain⟨u,v,rfl,rx,rv⟩:=k9 r;cases(show v=P2 p from rv);obtain⟨_,its,rr,⟨cl,dd,dt,sl⟩,h1,h2,n,h3⟩:=I.hok p _ hp;obtain⟨u1,u2,rfl,w1,w2⟩:=k9 rr;cases(show u1=Q0 S1 from w1);cases(show u2=Q0 S2 from w2);simp only at h2 h3;subst h2 h3;exact Jy I rx ty h1 ((xA X.K T [S1,S2]).trans e) λtk=>⟨.bl b,H,I.tok tk,Y,q⟩
end
theorem D0 (bs:List Bool):(Rq bs.length).all (λi=>(bs[i]?).getD true)=bs.all id:=by
 rw[Bool.eq_iff_iff,Rb,Rb];constructor
 ·intro h b hb;obtain⟨i,hi,rfl⟩:=QX hb;have:=h i (RV.mpr hi)
  simpa [hi] using this
 ·intro h i hi;have hi:=RV.mp hi
  simpa [hi] using h bs[i] (RK hi)
section
variable {X:Cx}
theorem Hj (hc:X.calm=true):dD X (.builtin "all") (λxs H Q=>∃ (p:Po) (bs:List Bool),xs=[.ref p]/\bK X.K H p (bs.map V.bl)/\Q (.bl (bs.all id)) H):=by
 intro pins s σ H xs us Q I r h;obtain⟨p,bs,rfl,hp,q⟩:=h;obtain⟨u,rfl,ru⟩:=md r;cases ru;obtain⟨its,rv,pl,hz⟩:=I.list hp;have hl:=rv.length;rw[Pb] at hl;have lt:p<s.heap.objs.size:=by
  obtain⟨o,e,_⟩:=pl.isList;exact O7 e
 refine call_all_walk (Ri pl.isList ?_);refine⟨s.heap.objs.size,_,_,_,_,_,λi=>(bs[i]?).getD true,Y,Walks.list (A:=X.A.in1) (show X.A.in1.handled=none from I.ok.hd hc) _ p (Pr lt) its.toArray,⟨⟨_,O8 _ Y,Y,Y⟩,pl.isList.push _⟩,λi v s' Q' E' hv hq=>?_,λh' tk kk=>?_⟩
 ·have hi:i<bs.length:=by
   have:=(Array.getElem?_eq_some_iff.mp hv).1;rw[PD] at this;lia
  obtain⟨w,ew,rw'⟩:=rv.get (i:=i) (x:=.bl bs[i]) (by simp[hi]);have:its[i]?=M v:=by simpa using hv
  rw[ew] at this;have e2:v=UK bs[i]:=(O4 this).symm.trans rw';rw[e2];refine Rx ?_;have e:(bs[i]?).getD true=bs[i]:=by simp[hi]
  exact e▸hq
 ·have I1:aJ X pins σ H { s with heap:=h',toks:=tk }:=I.kept λb o e=>kk b o (by simp;exact Pr (O7 e)) (O3 _ e)
  refine⟨.bl _,H,I1,?_,q⟩;show UK _=UK _;rw[<- D0,PD,<- hl]
end
section
variable {X:Cx}{pos:Pos}
def Ms (K:KE)(n:Nat)(t:LS):TG:=λv σ H Q=>∃ a xs,v=.ref a/\(bK K H a xs\/dR K H a xs)/\xs.length=n/\t xs σ H Q
theorem LV {k:Nat}{n:Nat} (hc:X.calm=true) (h:Ot X es t)
  (hn:(R9 es X.env).length=n:=by rfl)(hst:(R9 es X.env).findIdx? (·.1)=none:=by rfl):PG X (.Tuple es k pos) (Ms X.K n t):=by
 intro pins s σ H v u Q I r hw;obtain⟨a,xs,e1,hq,hl,hw⟩:=hw;subst e1;cases r;rcases hq with hq|hq
 ·obtain⟨its,rv,pl,hz⟩:=I.list hq;rw[assign_Tuple];refine O2 (Sg ?_);unfold unpack;have hs:(R9 es X.env).length=its.toArray.size:=by rw[hn,<- hl,rv.length,PD]
  rw[hs,hst];refine O2 (QE (PySem.W.kun_itemsOf (I.ok.hd hc) pl.isList λh' hx=>?_));have I1:aJ X pins σ H { s with heap:=h' }:=I.kept (t':=s.toks) λb o e=>hx b o (Pr (O7 e)) e
  exact h pins _ σ H xs _ Q I1 (by simpa using rv) hw
 ·obtain⟨its,rv,ht,hz⟩:=I.tuple hq;refine assign_Tuple_tuple (I.ok.hd hc) ht (by simp[hn,<- hl,rv.length]) hst λh' hx=>?_
  have I1:aJ X pins σ H { s with heap:=h' }:=I.kept (t':=s.toks) λb o e=>hx b o (Pr (O7 e)) e
  exact h pins _ σ H xs _ Q I1 (by simpa using rv) hw
end
abbrev rD (q:Rat):P5:=ot q.num (q.den:Int)
theorem jT (q:Rat):q=(q.num:Rat)/((q.den:Int):Rat):=by rw[<- Rat.divInt_eq_div,Rat.num_divInt_den]
theorem Dd {t b:Int}(hb:b≠0):Da t b ((t:Rat)/(b:Rat)).num (((t:Rat)/(b:Rat)).den:Int):=by
 have hq:=jT ((t:Rat)/(b:Rat));have hd:0<((t:Rat)/(b:Rat)).den:=((t:Rat)/(b:Rat)).den_pos;have hr:=((t:Rat)/(b:Rat)).reduced;generalize hz:(t:Rat)/(b:Rat)=q at *;refine⟨by lia,hr,?_⟩;have hb':(b:Rat)≠0:=by
  intro z;exact hb (by exact_mod_cast z)
 have hd':((q.den:Int):Rat)≠0:=by
  intro z;have:q.den=0:=by exact_mod_cast z
  lia
 have:(q.num:Rat)*(b:Rat)=(t:Rat)*((q.den:Int):Rat):=by
  generalize (q.num:Rat)=x at *;generalize ((q.den:Int):Rat)=y at *;generalize (b:Rat)=b' at *;generalize (t:Rat)=t' at *;have e:t'/b'=x/y:=hz.trans hq;grind
 exact_mod_cast this
theorem IC {t b n d:Int}(hb:b≠0)(h:Da t b n d):n=((t:Rat)/(b:Rat)).num/\d=(((t:Rat)/(b:Rat)).den:Int):=kL hb h (Dd hb)
abbrev Bq (k:Nat)(q:Rat):Prop:=Ok k q.num (q.den:Int)
theorem jg {k:Nat}{t b:Int}(hb:b≠0)(ht:Sm k t)(sb:Sm k b):Bq k ((t:Rat)/(b:Rat)):=(Dd hb).ok hb ht sb
theorem kJ (q:Rat):((q.den:Int):Rat)≠0:=by
 intro z;have:q.den=0:=by exact_mod_cast z
 have:=q.den_pos;lia
theorem CW (p q:Rat):p+q=((p.num*(q.den:Int)+q.num*(p.den:Int):Int):Rat)/(((p.den:Int)*(q.den:Int):Int):Rat):=by
 have h1:=kJ p;have h2:=kJ q;have e1:=jT p;have e2:=jT q;rw[U3,PY,PY,PY];grind
theorem Dk (p q:Rat):p*q=((p.num*q.num:Int):Rat)/(((p.den:Int)*(q.den:Int):Int):Rat):=by
 have h1:=kJ p;have h2:=kJ q;have e1:=jT p;have e2:=jT q;rw[PY,PY];grind
theorem wR (p q:Rat):(p.den:Int)*(q.den:Int)≠0:=by
 have:=p.den_pos;have:=q.den_pos;exact Qi (by lia) (by lia)
theorem Bq.add {j k:Nat}{p q:Rat}(hp:Bq j p)(hq:Bq k q):Bq (j+k+1) (p+q):=by
 rw[Bq,CW];refine jg (wR p q) (Sm.add (hp.sn.mul hq.sd) ((hq.sn.mul hp.sd).mono (by lia))) ((hp.sd.mul hq.sd).mono (by lia))
theorem Bq.mul {j k:Nat}{p q:Rat}(hp:Bq j p)(hq:Bq k q):Bq (j+k) (p*q):=by
 rw[Bq,Dk];exact jg (wR p q) (hp.sn.mul hq.sn) (hp.sd.mul hq.sd)
theorem NB:Bq 1 0:=⟨by decide,by decide,by unfold Sm;decide,by unfold Sm;decide⟩
def jY (K:KE)(H:Hp)(q:Rat)(Q:VK):Prop:=∀ v H',ah H H'->ay K H' (rD q) v->Q v H'
theorem jY.sh {K:KE}{H:Hp}{t b:Int}{Q:VK}(hb:b≠0)(h:jY K H ((t:Rat)/(b:Rat)) Q):Sh K H t b Q:=λv n d H' s hv lw=>by
 obtain⟨e1,e2⟩:=IC hb lw;subst e1 e2;exact h v H' s hv
theorem jY.add {K:KE}{H:Hp}{p q:Rat}{Q:VK}(h:jY K H (p+q) Q):Sh K H (p.num*(q.den:Int)+q.num*(p.den:Int)) ((p.den:Int)*(q.den:Int)) Q:=by
 rw[CW] at h;exact jY.sh (wR p q) h
theorem jY.mul {K:KE}{H:Hp}{p q:Rat}{Q:VK}(h:jY K H (p*q) Q):Sh K H (p.num*q.num) ((p.den:Int)*(q.den:Int)) Q:=by
 rw[Dk] at h;exact jY.sh (wR p q) h
theorem LM (p q:Rat):RI (rD p) (rD q)=decide (p=q):=by
 rw[FO]
 by_cases h:p=q
 ·subst h;simp
 ·rw[Qf h]
  by_cases h1:p.num=q.num
  ·by_cases h2:(p.den:Int)=(q.den:Int)
   ·exact absurd (Rat.ext h1 (by lia)) h
   ·rw[Qf h2,W2]
  ·rw[Qf h1,Tv]
theorem c5 {i:Int}(hg:Gl X x)(hm:∃ t,X.mg x=M (.int i t))(hd:(x==("__debug__":Str))=false:=by decide):WE X (.Name x pos) (tC (.int i)):=by
 refine⟨?_⟩;obtain⟨t,e⟩:=hm;exact Iv hg e ⟨t,Y⟩ hd
theorem az.get {K:KE}{H:Hp}:∀ {ds:List P5}{xs:List V}{i:Nat}{x:V},az K H ds xs->xs[i]?=M x->∃ d,ds[i]?=M d/\ay K H d x
 |_,_,_,_,.nil,e=>by simp at e
 |_,_,0,_,.cons h _,e=>by simp at e;subst e;exact⟨_,Y,h⟩
 |_,_,i+1,x,.cons _ q,e=>by
  obtain⟨d,h1,h2⟩:=az.get (i:=i) (x:=x) q (by simpa using e);exact⟨d,by simpa using h1,h2⟩
theorem az.snoc {K:KE}{H:Hp}{d:P5}{x:V}:∀ {ds:List P5}{xs:List V},az K H ds xs->ay K H d x->az K H (ds++[d]) (xs++[x])
 |_,_,.nil,h=>.cons h .nil
 |_,_,.cons a q,h=>.cons a (az.snoc q h)
theorem bU.same {K:KE}{H H':Hp}{a:Po}{xs:List V}(e:ah H H'):∀ {b:Bool},bU K H a xs b->bU K H' a xs b
 |true,h=>e.seq h
 |false,h=>jZ e h
theorem cY {n:Nat}(h:n<=1000):n<=Pz:=QD (bJ h)
theorem b8 {α:Type}{l:List α}{i:Nat}{x:α}(h:l[i]?=M x):l.take (i+1)=l.take i++[x]:=by
 rw[List.take_succ,h];rfl
section
variable {K:KE}{g:TG}{tt:TT}{te:TE}{σ0:L2.St}{Fin:List V->Hp->Prop}{H1:Hp}
def lq (g:TG)(tt:TT)(te:TE)(σ0:L2.St)(x:V)(H:Hp)(post:V->Hp->Prop):Prop:=∀ R:VK,(∀ y H',post y H'->R y H')->∀ S:Hp->Prop,g x σ0 H λσ' H4=>tt σ' H4 λb H5=>if b=true then te σ' H5 R else S H5
theorem mD {a:Po}{b:Bool}{xs:List V}{ds:List P5}{f:P5->P5} (hsrc:bU K H1 a xs b) (hds:az K H1 ds xs) (hl:ds.length <= 1000)
  (he:∀ (i:Nat) (d:P5) (x:V) (H:Hp),ds[i]?=M d->ah H1 H->ay K H d x->lq g tt te σ0 x H λy H'=>ah H H'/\ay K H' (f d) y)
  (hd:∀ ys H,ah H1 H->az K H (ds.map f) ys->Fin ys H):gf (t5 K a b) g tt te σ0 Fin H1:=by
 have hlen:=hds.length;refine⟨λi m ys H=>m=xs.length-i/\i<=xs.length/\ah H1 H/\az K H ((ds.take i).map f) ys,⟨xs.length,by lia,Qm _,ah.refl _,.nil⟩,?_⟩;rintro i m ys H ⟨rfl,hi,s,hys⟩;have hyl:=hys.length;rw[Pb,P1] at hyl
 by_cases hlt:i<xs.length
 ·have go:(t5 K a b).go i H:=by
   have q:=bU.same s hsrc;cases b with
   |true=>exact⟨xs,xs[i],q,by simp[hlt]⟩
   |false=>exact⟨xs,xs[i],q,by simp[hlt]⟩
  refine .inr ⟨go,bJ (by lia),λx H3 y3=>?_⟩;have e3:H3=H/\xs[i]?=M x:=by
   have q:=bU.same s hsrc;cases b with
   |true=>exact⟨y3.1,y3.2 xs q⟩
   |false=>exact⟨y3.1,y3.2 xs q⟩
  obtain⟨rfl,hx⟩:=e3;obtain⟨d,hdd,hdx⟩:=hds.get hx;refine he i d x _ hdd s (ay.same s hdx) _ (λy H' ⟨s',hy⟩=>⟨xs.length-(i+1),by lia,Y,hlt,s.trans s',?_⟩) λH5=>∃ m',m'<xs.length-i/\(m'=xs.length-(i+1)/\i+1<=xs.length/\ah H1 H5/\az K H5 ((ds.take (i+1)).map f) ys)
  rw[b8 hdd,QN];exact(az.same s' hys).snoc hy
 ·have e:i=xs.length:=by lia
  subst e;have stop:(t5 K a b).stop xs.length H:=by
   have q:=bU.same s hsrc;cases b with
   |true=>exact⟨xs,q,Pe _⟩
   |false=>exact⟨xs,q,Pe _⟩
  rw[P9 (by lia)] at hys;exact .inl ⟨stop,cY (by lia),hd ys H s hys⟩
theorem oE {lo:Int}{n:Nat} (Pv:Nat->List V->Hp->Prop) (h0:Pv 0 [] H1) (hl:n <= 1000) (hy:∀ i ys H,i <= n->Pv i ys H->ys.length <= i)
  (he:∀ i ys H,i<n->Pv i ys H->lq g tt te σ0 (.int (lo+i)) H λy H'=>Pv (i+1) (ys++[y]) H')(hd:∀ ys H,Pv n ys H->Fin ys H):gf (HH lo n) g tt te σ0 Fin H1:=by
 refine⟨λi m ys H=>m=n-i/\i<=n/\Pv i ys H,⟨n,by lia,Qm _,h0⟩,?_⟩;rintro i m ys H ⟨rfl,hi,p⟩;have hyl:=hy i ys H hi p
 by_cases hlt:i<n
 ·refine .inr ⟨hlt,bJ (by lia),λx H3 y3=>?_⟩;obtain⟨rfl,rfl⟩:=y3;exact he i ys _ hlt p _ (λy H' p'=>⟨n-(i+1),by lia,Y,hlt,p'⟩) λH5=>∃ m',m'<n-i/\(m'=n-(i+1)/\i+1<=n/\Pv (i+1) ys H5)
 ·have e:i=n:=by lia
  subst e;exact .inl ⟨Pe _,cY (by lia),hd ys H p⟩
theorem f6:∀ {bs:List Bool}{ys:List V},az K H (bs.map TM) ys->ys=bs.map V.bl
 |[],_,.nil=>rfl
 |b::bs,_,.cons (.bl _) q=>by rw[f6 q];rfl
end
def CG (b:Bool)(ds:List P5):P5:=if b=true then .list ds else .tuple ds
structure R3 where
 a:Int
 b:Int
 c:Int
def R3.ds (r:R3):List P5:=[.int r.a,.int r.b,.int r.c]
def R3.vs (r:R3):List V:=[.int r.a,.int r.b,.int r.c]
def c6 (k:Bool)(r:R3):P5:=CG k r.ds
structure R3.In (r:R3)(m:Int):Prop where
 a1:-m<=r.a
 a2:r.a<=m
 b1:-m<=r.b
 b2:r.b<=m
 c1:-m<=r.c
 c2:r.c<=m
structure S9 where
 k:Bool
 k1:Bool
 k2:Bool
 k3:Bool
 x:R3
 y:R3
 z:R3
def S9.rows (s:S9):List P5:=[c6 s.k1 s.x,c6 s.k2 s.y,c6 s.k3 s.z]
def S9.d (s:S9):P5:=CG s.k s.rows
structure S9.In (s:S9):Prop where
 x:s.x.In 4000
 y:s.y.In 4000
 z:s.z.In 4000
theorem aO {K:KE}{H:Hp}{b:Bool}{ds:List P5}{v:V}(h:ay K H (CG b ds) v):∃ a xs,v=.ref a/\bU K H a xs b/\az K H ds xs:=by
 cases b with
 |true=>
  cases h with
  |lst h q=>exact⟨_,_,Y,.inl h,q⟩
 |false=>
  cases h with
  |tup h q=>exact⟨_,_,Y,dR.of h,q⟩
theorem fu {K:KE}{H:Hp}{r:R3}{xs:List V}(h:az K H r.ds xs):xs=r.vs:=by
 cases h with
 |cons h1 h=>
  cases h1;cases h with
  |cons h2 h=>
   cases h2;cases h with
   |cons h3 h=>
    cases h3;cases h;rfl
theorem ku {K:KE}{H:Hp}{b:Bool}{r:R3}{v:V}(h:ay K H (c6 b r) v):∃ a,v=.ref a/\bU K H a r.vs b:=by
 obtain⟨a,xs,rfl,hq,hd⟩:=aO h;cases fu hd;exact⟨a,Y,hq⟩
theorem fw {K:KE}{H:Hp}{d1 d2 d3:P5}{xs:List V}(h:az K H [d1,d2,d3] xs):∃ x y z,xs=[x,y,z]/\ay K H d1 x/\ay K H d2 y/\ay K H d3 z:=by
 cases h with
 |cons h1 h=>
  cases h with
  |cons h2 h=>
   cases h with
   |cons h3 h=>
    cases h;exact⟨_,_,_,Y,h1,h2,h3⟩
theorem nF {K:KE}{H:Hp}{Q:VK}{a:Po}{xs:List V}{b:Bool}{i:Nat}{v:V}(h:bU K H a xs b)(e:xs[i]?=M v)(q:Q v H):JR K (.ref a) (.int (i:Int)) H Q:=by
 cases b with
 |true=>exact .inl ⟨a,xs,_,v,Y,Y,h,pZ e,q⟩
 |false=>exact .inr (.inl ⟨a,xs,_,v,Y,Y,h,pZ e,q⟩)
theorem oO {K:KE}{H:Hp}{a:Po}{xs:List V}{b:Bool}(h:bU K H a xs b):bK K H a xs\/dR K H a xs:=by
 cases b with
 |true=>exact .inl h
 |false=>exact .inr h
theorem Gq {K:KE}{H:Hp}{b:Bool}{ds:List P5}{v:V}(h:ay K H (CG b ds) v):∃ T,Ty K H v T/\vj T ["list","tuple"]=M true:=by
 cases b with
 |true=>exact⟨"list",h.ty,by decide +kernel⟩
 |false=>exact⟨"tuple",h.ty,by decide +kernel⟩
def MF (p q r:Rat):P5:=.tuple [rD p,rD q,rD r]
theorem K_ {x:Int}(h1:-4000<=x)(h2:x<=4000):Sm 13 x:=by unfold Sm;lia
def S9.det (s:S9):Int:=s.x.a*(s.y.b*s.z.c-s.y.c*s.z.b)-s.x.b*(s.y.a*s.z.c-s.y.c*s.z.a)+s.x.c*(s.y.a*s.z.b-s.y.b*s.z.a)
def cut (T:List Po)(H:Hp):Hp:=λb=>if b∈T then none else H b
theorem ke:ah (cut T H) H:=λb o e=>by
 unfold cut at e
 split at e
 ·cases e
 ·exact e
theorem fF (h:b∉T):cut T H b=H b:=P3 h
theorem Mv.cut (h:Mv T H H'):ah (cut T H) (cut T H'):=λb o e=>by
 unfold TR.cut at e ⊢
 split at e
 ·cases e
 ·rename_i n
  rw[P3 n];exact h b o e n
theorem ah.cut (h:ah H H'):ah (TR.cut T H) (TR.cut T H'):=(Mv.of h).cut
theorem ci.not (h:ci H t r)(hp:H p=none):p∉[t,r]:=λm=>by
 obtain⟨xs,e⟩:=h.lists p m;rw[hp] at e;cases e
theorem ay.uncut {K:KE}{T:List Po}{H:Hp}{d:P5}{v:V}(h:ay K (cut T H) d v):ay K H d v:=ay.same ke h
mutual
theorem ay.cutT {K:KE}{T:List Po}{H:Hp}(l:b_ H T):∀ {d:P5}{v:V},wj d=true->ay K H d v->ay K (cut T H) d v
 |_,_,_,.non=>.non
 |_,_,_,.bl b=>.bl b
 |_,_,_,.int i=>.int i
 |_,_,_,.str x=>.str x
 |_,_,t,.lst _ _=>by simp[wj] at t
 |_,_,t,.tup h q=>.tup (by rw[fF (l.not h λ_ z=>nomatch z)];exact h) (az.cutT l (by simpa [wj] using t) q)
 |_,_,t,.dct _=>by simp[wj] at t
theorem az.cutT {K:KE}{T:List Po}{H:Hp}(l:b_ H T):∀ {ds:List P5}{vs:List V},jG ds=true->az K H ds vs->az K (cut T H) ds vs
 |_,_,_,.nil=>.nil
 |_,_,t,.cons h q=>by
  simp only[jG,Qu] at t;exact .cons (ay.cutT l t.1 h) (az.cutT l t.2 q)
end
theorem gX {K:KE}{t r D:Po}{H:Hp}{ds:List P5}{ys:List V}(tw:ci H t r)(hD:H D=none)(h:az K (cut [t,r] H) ds ys):ay K (cut [t,r] (upd H D (.lst ys))) (.list ds) (.ref D):=by
 refine .lst (.inl ?_) (az.same (ah.cut (ah.new hD)) h);rw[fF (tw.not hD)];exact ag
theorem ay.listN {K:KE}{D:Po}{H:Hp}{ds:List P5}{ys:List V}(hD:H D=none)(h:az K H ds ys):ay K (upd H D (.lst ys)) (.list ds) (.ref D):=.lst (.inl ag) (az.same (ah.new hD) h)
theorem ay.tupN {K:KE}{D:Po}{H:Hp}{ds:List P5}{ys:List V}(hD:H D=none)(h:az K H ds ys):ay K (upd H D (.tup ys)) (.tuple ds) (.ref D):=.tup ag (az.same (ah.new hD) h)
abbrev Nr (J:It)(g:TG)(tb:TS)(D:vV)(σ:L2.St)(H:Hp):Prop:=∃ W:Nat->Nat->L2.St->Hp->Prop,(∃ m,W 0 m σ H)/\∀ i m σ H,W i m σ H ->
 (J.stop i H/\D.nx σ H)\/(J.go i H/\∃ N:L2.St->Hp->Prop,(∀ σ' H',N σ' H'->∃ m',m'<m/\W (i+1) m' σ' H')/\∀ x H',J.yld i H x H'->g x σ H' λσ2 H2=>tb { D with nx:=N,ct:=N,bk:=D.nx } σ2 H2)
theorem kK {K:KE}{a:Po}{b:Bool}{xs:List V}{g:TG}{tb:TS}{D:vV}{σ:L2.St}{H:Hp} (Pv:Nat->L2.St->Hp->Prop) (h0:Pv 0 σ H) (hl:∀ i σ H,i <= xs.length->Pv i σ H->bU K H a xs b)
  (hs:∀ i x σ H,xs[i]?=M x->Pv i σ H->g x σ H λσ2 H2=>tb { D with nx:=Pv (i+1),ct:=Pv (i+1),bk:=D.nx } σ2 H2)(hd:∀ σ H,Pv xs.length σ H->D.nx σ H):Nr (t5 K a b) g tb D σ H:=by
 cases b with
 |true=>exact HF Pv h0 hl hs hd
 |false=>exact IS Pv h0 hl hs hd
theorem IX {K:KE}{a1 a2:Po}{b1 b2:Bool}{xs ys:List V}{g:TG}{tb:TS}{D:vV}{σ:L2.St}{H:Hp} (Pv:Nat->L2.St->Hp->Prop) (h0:Pv 0 σ H) (hle:xs.length=ys.length) (hl:∀ i σ H,i <= xs.length->Pv i σ H->bU K H a1 xs b1/\bU K H a2 ys b2)
  (hs:∀ i x y T σ H,xs[i]?=M x->ys[i]?=M y->Pv i σ H->H T=none->g (.ref T) σ (upd H T (.tup [x,y])) λσ2 H2=>tb { D with nx:=Pv (i+1),ct:=Pv (i+1),bk:=D.nx } σ2 H2)(hd:∀ σ H,Pv xs.length σ H->D.nx σ H):Nr (Me K b1 b2 a1 a2) g tb D σ H:=by
 refine⟨λi m σ H=>m=xs.length-i/\i<=xs.length/\Pv i σ H,⟨xs.length,by simp,Qm _,h0⟩,?_⟩;rintro i m σ H ⟨rfl,hi,p⟩;obtain⟨q1,q2⟩:=hl i σ H hi p
 by_cases hlt:i<xs.length
 ·have hlt2:i<ys.length:=by lia
  refine .inr ⟨⟨xs,ys,xs[i],ys[i],q1,q2,by simp[hlt],by simp[hlt2]⟩,Pv (i+1),λσ' H' p'=>⟨xs.length-(i+1),by lia,Y,hlt,p'⟩,λv H' y=>?_⟩;obtain⟨x,y,T,k1,k2,kT,rfl,rfl⟩:=y;exact hs i x y T σ _ (k1 xs q1) (k2 ys q2) p kT
 ·have e:i=xs.length:=by lia
  subst e;exact .inl ⟨⟨xs,ys,q1,q2,.inl (Pe _)⟩,hd σ H p⟩
section
variable {K:KE}{g:TG}{tt:TT}{te:TE}{σ0:L2.St}{Fin:List V->Hp->Prop}{H1:Hp}
theorem d_ {lo:Int}{n:Nat} (hn:ds.length=n) (hl:n <= 1000)
  (he:∀ (i:Nat) (d:P5) (H:Hp),ds[i]?=M d->ah H1 H->lq g tt te σ0 (.int (lo+i)) H λy H'=>ah H H'/\ay K H' d y)(hd:∀ ys H,ah H1 H->az K H ds ys->Fin ys H):gf (HH lo n) g tt te σ0 Fin H1:=by
 refine oE (λi ys H=>ah H1 H/\az K H (ds.take i) ys) ⟨ah.refl _,.nil⟩ hl (λi ys H hi p=>?_) (λi ys H hi p=>?_) (λys H p=>?_)
 ·rw[<- p.2.length,P1];lia
 ·obtain⟨s,q⟩:=p;have e:ds[i]?=M ds[i]:=by simp[show i<ds.length by lia]
  intro R kk S;refine he i ds[i] H e s R (λy H' ⟨s',hy⟩=>kk _ _ ⟨s.trans s',?_⟩) S;rw[b8 e];exact(az.same s' q).snoc hy
 ·obtain⟨s,q⟩:=p;rw[P9 (by lia)] at q;exact hd ys H s q
theorem eC {lo:Int}{t r:Po}{n:Nat}{Pd:P5->Prop} (tw:ci H1 t r) (hl:n <= 1000)
  (he:∀ (i:Nat) (H:Hp),i<n->ci H t r->Mv [t,r] H1 H->lq g tt te σ0 (.int (lo+i)) H λy H'=>ci H' t r/\Mv [t,r] H H'/\∃ d,Pd d/\ay K (cut [t,r] H') d y)
  (hd:∀ ds ys H,ds.length=n->(∀ d∈ds,Pd d)->ci H t r->Mv [t,r] H1 H->az K (cut [t,r] H) ds ys->Fin ys H):gf (HH lo n) g tt te σ0 Fin H1:=by
 refine oE (λi ys H=>ci H t r/\Mv [t,r] H1 H/\∃ ds:List P5,ds.length=i/\(∀ d∈ds,Pd d)/\az K (cut [t,r] H) ds ys) ⟨tw,Mv.refl,[],Y,λ_ h=>(PR h).elim,.nil⟩ hl (λi ys H hi p=>?_) (λi ys H hi p=>?_) (λys H p=>?_)
 ·obtain⟨_,_,ds,e,_,q⟩:=p;rw[<- q.length];lia
 ·obtain⟨tw',mv,ds,e,hP,q⟩:=p;intro R kk S;refine he i H hi tw' mv R (λy H' ⟨tw2,mv2,d,hd,hy⟩=>kk _ _ ⟨tw2,mv.trans mv2,ds++[d],by rw[PV,e];rfl,λd' m=>?_,(az.same mv2.cut q).snoc hy⟩) S;rcases Qe.mp m with m|m
  ·exact hP d' m
  ·cases O9.mp m;exact hd
 ·obtain⟨tw',mv,ds,e,hP,q⟩:=p;exact hd ds ys H e hP tw' mv q
theorem DC (hsrc:bU K H1 a xs b) (hds:az K H1 ds xs) (hl:ds.length <= 1000)
  (he:∀ (i:Nat) (d:P5) (x:V) (H:Hp),ds[i]?=M d->ah H1 H->ay K H d x->∀ (zzQ:VK) (S:Hp->Prop),(∀ H',ah H H'->S H')->g x σ0 H λσ' H4=>tt σ' H4 λb H5=>if b=true then te σ' H5 zzQ else S H5)
  (hd:∀ H,ah H1 H->Fin [] H):gf (t5 K a b) g tt te σ0 Fin H1:=by
 have hlen:=hds.length;refine⟨λi m ys H=>m=xs.length-i/\i<=xs.length/\ah H1 H/\ys=[],⟨xs.length,by lia,Qm _,ah.refl _,rfl⟩,?_⟩;rintro i m ys H ⟨rfl,hi,s,rfl⟩
 by_cases hlt:i<xs.length
 ·have go:(t5 K a b).go i H:=by
   have q:=bU.same s hsrc;cases b with
   |true=>exact⟨xs,xs[i],q,by simp[hlt]⟩
   |false=>exact⟨xs,xs[i],q,by simp[hlt]⟩
  refine .inr ⟨go,bJ (by show 0<=1000;decide),λx H3 y3=>?_⟩;have e3:H3=H/\xs[i]?=M x:=by
   have q:=bU.same s hsrc;cases b with
   |true=>exact⟨y3.1,y3.2 xs q⟩
   |false=>exact⟨y3.1,y3.2 xs q⟩
  obtain⟨rfl,hx⟩:=e3;obtain⟨d,hdd,hdx⟩:=hds.get hx;exact he i d x _ hdd s (ay.same s hdx) _ (λH5=>∃ m',m'<xs.length-i/\(m'=xs.length-(i+1)/\i+1<=xs.length/\ah H1 H5/\([]:List V)=[])) λH' s'=>⟨xs.length-(i+1),by lia,Y,hlt,s.trans s',Y⟩
 ·have e:i=xs.length:=by lia
  subst e;have stop:(t5 K a b).stop xs.length H:=by
   have q:=bU.same s hsrc;cases b with
   |true=>exact⟨xs,q,Pe _⟩
   |false=>exact⟨xs,q,Pe _⟩
  exact .inl ⟨stop,cY (by show 0<=1000;decide),hd H s⟩
end
structure Q3 where
 a:Rat
 b:Rat
 c:Rat
def Q3.ds (q:Q3):List P5:=[rD q.a,rD q.b,rD q.c]
def Q3.col (q:Q3):P5:=.tuple q.ds
structure Q3.Bd (k:Nat)(q:Q3):Prop where
 a:Bq k q.a
 b:Bq k q.b
 c:Bq k q.c
theorem Q3.Bd.mono {j k:Nat}{q:Q3}(h:q.Bd j)(l:j<=k):q.Bd k:=⟨h.a.mono l,h.b.mono l,h.c.mono l⟩
def vq (p q:Q3):Rat:=0+p.a*q.a+p.b*q.b+p.c*q.c
theorem CI {j k:Nat}(hp:p.Bd j)(hq:q.Bd k):Bq (3*(j+k)+4) (vq p q):=
 Ok.mono (Bq.add (Bq.add (Bq.add NB (Bq.mul hp.a hq.a)) (Bq.mul hp.b hq.b)) (Bq.mul hp.c hq.c)) (by lia)
structure M9 where
 x:Q3
 y:Q3
 z:Q3
def M9.d (m:M9):P5:=.list [.list m.x.ds,.list m.y.ds,.list m.z.ds]
def M9.led (m:M9)(c:Q3):Q3:=⟨vq m.x c,vq m.y c,vq m.z c⟩
structure M9.Bd (k:Nat)(m:M9):Prop where
 x:m.x.Bd k
 y:m.y.Bd k
 z:m.z.Bd k
theorem KU {j k:Nat}{m:M9}{c:Q3}(hm:m.Bd j)(hc:c.Bd k):(m.led c).Bd (3*(j+k)+4):=⟨CI hm.x hc,CI hm.y hc,CI hm.z hc⟩
theorem Q3.ext {p q:Q3}(h1:p.a=q.a)(h2:p.b=q.b)(h3:p.c=q.c):p=q:=by
 cases p;cases q;simp_all
theorem IA (p:Rat):RI (rD p) (rD p)=true:=by rw[LM,Ph rfl]
theorem JB (q:Q3):Sc q.ds q.ds=true:=by
 simp only[Q3.ds,Sc,IA];rfl
theorem K9 {p q:Q3}(h:p=q):RI p.col q.col=true:=by
 subst h;show Sc p.ds p.ds=true;exact JB p
def R3.q (r:R3):Q3:=⟨(r.a:Rat)/((1000:Int):Rat),(r.b:Rat)/((1000:Int):Rat),(r.c:Rat)/((1000:Int):Rat)⟩
def S9.m (s:S9):M9:=⟨s.x.q,s.y.q,s.z.q⟩
theorem C9 {r:R3}(h:r.In 4000):r.q.Bd 13:=
 have u:Sm 13 (1000:Int):=by unfold Sm;decide
 ⟨jg (by decide) (K_ h.a1 h.a2) u,jg (by decide) (K_ h.b1 h.b2) u,jg (by decide) (K_ h.c1 h.c2) u⟩
theorem J' {s:S9}(h:s.In):s.m.Bd 13:=⟨C9 h.x,C9 h.y,C9 h.z⟩
def R3.cross (r s:R3):R3:=⟨r.b*s.c-r.c*s.b,r.c*s.a-r.a*s.c,r.a*s.b-r.b*s.a⟩
def R3.dot (r s:R3):Int:=r.a*s.a+r.b*s.b+r.c*s.c
def S9.ca (s:S9):R3:=⟨s.x.a,s.y.a,s.z.a⟩
def S9.cb (s:S9):R3:=⟨s.x.b,s.y.b,s.z.b⟩
def S9.cc (s:S9):R3:=⟨s.x.c,s.y.c,s.z.c⟩
def R3.by (r:R3)(s:S9):Q3:=⟨(r.dot s.ca:Rat)/((1000*1000:Int):Rat),(r.dot s.cb:Rat)/((1000*1000:Int):Rat),(r.dot s.cc:Rat)/((1000*1000:Int):Rat)⟩
section
variable {K:KE}{g:TG}{tt:TT}{te:TE}{σ0:L2.St}{Fin:List V->Hp->Prop}{H1:Hp}
theorem bG (hsrc:bU K H1 a xs b) (hds:az K H1 ds xs) (hle:es.length=ds.length) (hl:ds.length <= 1000)
  (he:∀ (i:Nat) (d e:P5) (x:V) (H:Hp),ds[i]?=M d->es[i]?=M e->ah H1 H->ay K H d x->lq g tt te σ0 x H λy H'=>ah H H'/\ay K H' e y)
  (hd:∀ ys H,ah H1 H->az K H es ys->Fin ys H):gf (t5 K a b) g tt te σ0 Fin H1:=by
 have hlen:=hds.length;refine⟨λi m ys H=>m=xs.length-i/\i<=xs.length/\ah H1 H/\az K H (es.take i) ys,⟨xs.length,by lia,Qm _,ah.refl _,.nil⟩,?_⟩;rintro i m ys H ⟨rfl,hi,s,hys⟩;have hyl:=hys.length;rw[P1] at hyl
 by_cases hlt:i<xs.length
 ·have go:(t5 K a b).go i H:=by
   have q:=bU.same s hsrc;cases b with
   |true=>exact⟨xs,xs[i],q,by simp[hlt]⟩
   |false=>exact⟨xs,xs[i],q,by simp[hlt]⟩
  refine .inr ⟨go,bJ (by lia),λx H3 y3=>?_⟩;have e3:H3=H/\xs[i]?=M x:=by
   have q:=bU.same s hsrc;cases b with
   |true=>exact⟨y3.1,y3.2 xs q⟩
   |false=>exact⟨y3.1,y3.2 xs q⟩
  obtain⟨rfl,hx⟩:=e3;obtain⟨d,hdd,hdx⟩:=hds.get hx;have hee:es[i]?=M es[i]:=by simp[show i<es.length by lia]
  refine he i d es[i] x _ hdd hee s (ay.same s hdx) _ (λy H' ⟨s',hy⟩=>⟨xs.length-(i+1),by lia,Y,hlt,s.trans s',?_⟩) λH5=>∃ m',m'<xs.length-i/\(m'=xs.length-(i+1)/\i+1<=xs.length/\ah H1 H5/\az K H5 (es.take (i+1)) ys)
  rw[b8 hee];exact(az.same s' hys).snoc hy
 ·have e:i=xs.length:=by lia
  subst e;have stop:(t5 K a b).stop xs.length H:=by
   have q:=bU.same s hsrc;cases b with
   |true=>exact⟨xs,q,Pe _⟩
   |false=>exact⟨xs,q,Pe _⟩
  rw[P9 (by lia)] at hys;exact .inl ⟨stop,cY (by lia),hd ys H s hys⟩
theorem kc (h1:bU K H1 a1 xs b1) (h2:bU K H1 a2 ys b2) (hds:az K H1 ds xs) (hes:az K H1 es ys) (hle:ds.length=es.length) (hlf:fs.length=ds.length) (hl:ds.length <= 1000)
  (he:∀ (i:Nat) (d e f:P5) (x y:V) (T:Po) (H:Hp),ds[i]?=M d->es[i]?=M e->fs[i]?=M f->ah H1 H->ay K H d x->ay K H e y->H T=M (.tup [x,y])->lq g tt te σ0 (.ref T) H λz H'=>ah H H'/\ay K H' f z)
  (hd:∀ zs H,ah H1 H->az K H fs zs->Fin zs H):gf (Me K b1 b2 a1 a2) g tt te σ0 Fin H1:=by
 have hlen:=hds.length;have hlen2:=hes.length;refine⟨λi m zs H=>m=xs.length-i/\i<=xs.length/\ah H1 H/\az K H (fs.take i) zs,⟨xs.length,by lia,Qm _,ah.refl _,.nil⟩,?_⟩;rintro i m zs H ⟨rfl,hi,s,hzs⟩;have hyl:=hzs.length;rw[P1] at hyl
 by_cases hlt:i<xs.length
 ·have hlt2:i<ys.length:=by lia
  refine .inr ⟨⟨xs,ys,xs[i],ys[i],bU.same s h1,bU.same s h2,by simp[hlt],by simp[hlt2]⟩,bJ (by lia),λv H3 y3=>?_⟩;obtain⟨x,y,T,k1,k2,kT,rfl,rfl⟩:=y3;have hx:=k1 xs (bU.same s h1);have hy:=k2 ys (bU.same s h2);obtain⟨d,hdd,hdx⟩:=hds.get hx;obtain⟨e,hee,hey⟩:=hes.get hy;have hff:fs[i]?=M fs[i]:=by simp[show i<fs.length by lia]
  have sT:ah H (upd H T (.tup [x,y])):=ah.new kT;have sA:=s.trans sT;refine he i d e fs[i] x y T _ hdd hee hff sA (ay.same sA hdx) (ay.same sA hey) ag _ (λz H' ⟨s',hz⟩=>⟨xs.length-(i+1),by lia,Y,hlt,sA.trans s',?_⟩) λH5=>∃ m',m'<xs.length-i/\(m'=xs.length-(i+1)/\i+1<=xs.length/\ah H1 H5/\az K H5 (fs.take (i+1)) zs)
  rw[b8 hff];exact(az.same s' (az.same sT hzs)).snoc hz
 ·have e:i=xs.length:=by lia
  subst e;rw[P9 (by lia)] at hzs;exact .inl ⟨⟨xs,ys,bU.same s h1,bU.same s h2,.inl (Pe _)⟩,cY (by lia),hd zs H s hzs⟩
end
theorem lA {i:Nat}(h:[a,b,c][i]?=M x):(i=0/\x=a)\/(i=1/\x=b)\/(i=2/\x=c):=by
 match i,h with
 |0,h=>exact .inl ⟨Y,(O4 h).symm⟩
 |1,h=>exact .inr (.inl ⟨Y,(O4 h).symm⟩)
 |2,h=>exact .inr (.inr ⟨Y,(O4 h).symm⟩)
 |n+3,h=>simp at h
def NF (p q:Q3):Nat->Rat
 |0=>0
 |1=>0+p.a*q.a
 |2=>0+p.a*q.a+p.b*q.b
 |_=>vq p q
theorem FY {K:KE}{H:Hp}{p q:Q3}{xs ys:List V}{x y:V}{i:Nat}{j k:Nat} (hx:az K H p.ds xs) (hy:az K H q.ds ys) (bp:p.Bd j) (bq:q.Bd k) (ex:xs[i]?=M x) (ey:ys[i]?=M y) :
  ∃ P C:Rat,ay K H (rD P) x/\ay K H (rD C) y/\Bq j P/\Bq k C/\NF p q (i+1)=NF p q i+P*C/\Bq (2*(j+k)+3) (NF p q i):=by
 obtain⟨x0,x1,x2,rfl,g0,g1,g2⟩:=fw hx;obtain⟨y0,y1,y2,rfl,k0,k1,k2⟩:=fw hy;rcases lA ex with ⟨rfl,rfl⟩|⟨rfl,rfl⟩|⟨rfl,rfl⟩
 ·cases(O4 ey);exact⟨_,_,g0,k0,bp.a,bq.a,rfl,NB.mono (by lia)⟩
 ·cases(O4 ey);exact⟨_,_,g1,k1,bp.b,bq.b,rfl,Ok.mono (Bq.add NB (Bq.mul bp.a bq.a)) (by lia)⟩
 ·cases(O4 ey);exact⟨_,_,g2,k2,bp.c,bq.c,rfl,Ok.mono (Bq.add (Bq.add NB (Bq.mul bp.a bq.a)) (Bq.mul bp.b bq.b)) (by lia)⟩
section
variable {X:Cx}{K:KE}{pos:Pos}{tg:Rz}
def MW (K:KE):List V->Hp->VK->Prop:=λxs H Q=>∃ p ys,xs=[.ref p]/\(bK K H p ys\/dR K H p ys)/\Q (.int ys.length) H
def JL (K:KE):List V->Hp->VK->Prop:=λxs H Q=>∃ p ys,xs=[.ref p]/\(bK K H p ys\/dR K H p ys)/\∀ l,H l=none->Q (.ref l) (upd H l (.lst ys))
def Lm (K:KE):List V->Hp->VK->Prop:=λxs H Q=>∃ p ys,xs=[.ref p]/\((bK K H p ys/\∀ l,H l=none->Q (.ref l) (upd H l (.tup ys)))\/(dR K H p ys/\Q (.ref p) H))
def NZ (K:KE):List V->Hp->VK->Prop:=λxs H Q=>∃ (p:Po) (bs:List Bool),xs=[.ref p]/\bK K H p (bs.map V.bl)/\Q (.bl (bs.all id)) H
theorem f_ (e:X.K=K):dD X (.builtin "len") (MW K):=by subst e;exact yu
theorem pI (e:X.K=K):dD X (.type "list") (JL K):=by subst e;exact xW
theorem cK (e:X.K=K):dD X (.type "tuple") (Lm K):=by subst e;exact v7
theorem nY (e:X.K=K)(hc:X.calm=true):dD X (.builtin "all") (NZ K):=by subst e;exact Hj hc
theorem km (e:X.K=K):dD X (.builtin "isinstance") (M6 K):=by subst e;exact F6
theorem B7 (e:X.K=K):dD X (.builtin "isinstance") (JW K):=by subst e;exact Ek
theorem Dj (e:X.K=K)(hu:X.A.units+64<cLine):m9 X (Rm .Eq) (MU K):=by subst e;exact Ky hu
theorem Fw (e:X.K=K)(hu:X.A.units+64<cLine):m9 X (Rm .NotEq) (MS K):=by subst e;exact K1 hu
theorem JI (e:X.K=K)(hu:X.A.units+64<cLine):m9 X (Rm .NotEq) (Hr K):=by subst e;exact Gd hu
theorem NL (e:X.K=K):Gm X (JR K):=by subst e;exact K8
theorem M2 (e:X.K=K):Op X (ME K):=by subst e;exact Jt
theorem bo (e:X.K=K)(hl:WE X l tl):WI X tg l (IM K tl):=by
 have hl:=hl.go;refine⟨?_⟩;subst e;exact LD hl
theorem mC (e:X.K=K) {tk:Nat} (hg:Gl X "zip") (hm:X.mg "zip"=none) (ha:WA X [a,b] ta) (hs:PN [a,b] X.env=[(false,Ts a X.env),(false,Ts b X.env)]:=by rfl) (hs2:PN [b] X.env=[(false,Ts b X.env)]:=by rfl) :
  WI X (.Tuple elts tk tpos) (.Call (.Name "zip" p) [a,b] [] pos) (M_ K ta):=by
 have ha:=ha.go;refine⟨?_⟩;subst e;exact KD hg hm ha hs hs2
theorem dC (e:X.K=K){k:Nat}{n:Nat}(hc:X.calm=true)(h:Mt X es t)(hn:(R9 es X.env).length=n:=by rfl)(hst:(R9 es X.env).findIdx? (·.1)=none:=by rfl):WG X (.Tuple es k pos) (Nk K n t):=by
 have h:=h.go;refine⟨?_⟩;subst e;exact Lr hc h hn hst
theorem BW (e:X.K=K){k:Nat}{n:Nat}(hc:X.calm=true)(h:Mt X es t)(hn:(R9 es X.env).length=n:=by rfl)(hst:(R9 es X.env).findIdx? (·.1)=none:=by rfl):WG X (.Tuple es k pos) (Ms K n t):=by
 have h:=h.go;refine⟨?_⟩;subst e;exact LV hc h hn hst
end
def S9.one:S9:=⟨false,false,false,false,⟨1000,0,0⟩,⟨0,1000,0⟩,⟨0,0,1000⟩⟩
theorem M9.Bd.mono {j k:Nat}{m:M9}(h:m.Bd j)(l:j<=k):m.Bd k:=⟨h.x.mono l,h.y.mono l,h.z.mono l⟩
theorem Df (p q:Rat):p-q=((p.num*(q.den:Int)-q.num*(p.den:Int):Int):Rat)/(((p.den:Int)*(q.den:Int):Int):Rat):=by
 have h1:=kJ p;have h2:=kJ q;have e1:=jT p;have e2:=jT q;rw[Qj,PY,PY,PY];grind
theorem Bq.sub {j k:Nat}{p q:Rat}(hp:Bq j p)(hq:Bq k q):Bq (j+k+1) (p-q):=by
 rw[Bq,Df];refine jg (wR p q) (Sm.sub (hp.sn.mul hq.sd) ((hq.sn.mul hp.sd).mono (by lia))) ((hp.sd.mul hq.sd).mono (by lia))
theorem jY.sub {K:KE}{H:Hp}{p q:Rat}{Q:VK}(h:jY K H (p-q) Q):Sh K H (p.num*(q.den:Int)-q.num*(p.den:Int)) ((p.den:Int)*(q.den:Int)) Q:=by
 rw[Df] at h;exact jY.sh (wR p q) h
def S9.c0 (s:S9):R3:=s.y.cross s.z
def S9.c1 (s:S9):R3:=s.z.cross s.x
def S9.c2 (s:S9):R3:=s.x.cross s.y
def S9.f (s:S9)(n:Int):Rat:=((1000*n:Int):Rat)/((s.det:Int):Rat)
abbrev WX:=L2.St->Po->Hp->Prop
abbrev Oz:List O6:=[.type "ValueError",.type "Exception",.type "BaseException",.type "object"]
abbrev Nv:String:="ValueError.__new__"
def cM (K:KE)(x:Str)(C:Po):Prop:=Pm K O_ x=M (M (.ref C))
def AS:List Str:=["BadNumber","BadShare","BadCurve","BadSquare","NoBack","BadGrid","BadColour","BadIntent","BadProfile","BadInk","BadText"]
def lN (K:KE)(x:Str):Option Po:=match Pm K O_ x with
 |some (M (.ref C))=>M C
 |_=>none
theorem FQ {K:KE}{x:Str}{C:Po}(h:lN K x=M C):cM K x C:=by
 unfold lN at h
 split at h
 ·rename_i D e
  cases h;exact e
 ·cases h
theorem iZ {K:KE}{x:Str}{C:Po}(h:cM K x C):lN K x=M C:=by
 unfold lN;rw[show Pm K O_ x=M (M (.ref C)) from h]
def ON (K:KE)(C:Po):Bool:=
 PySem.W.excIn K C Oz Nv&&Wu K C&&Vx K (.ref C)==M (.type "type")&&T6 K C (.type "object")==M true&&T6 K C (.type "BaseException")==M true &&
  P0 K (.ref C) "__getattribute__"==M (M (.builtin "BaseException.__getattribute__"))&&P0 K (.ref C) "__getattr__"==M none&&P0 K (.ref C) "__class__"==M (M (.builtin "object.__class__")) &&
  Uj K (.builtin "object.__class__") "__get__"==M (M (.builtin "getset_descriptor.__get__"))&&U1 K (.builtin "object.__class__")==M true&&Tq K (.ref C) (.ref C)==M true
structure Ex (K:KE)(C:Po):Prop where
 exc:PySem.W.excIn K C Oz Nv=true
 cls:Wu K C=true
 typ:Vx K (.ref C)=M (.type "type")
 slf:Tq K (.ref C) (.ref C)=M true
 obj:T6 K C (.type "object")=M true
 bex:T6 K C (.type "BaseException")=M true
 ga:P0 K (.ref C) "__getattribute__"=M (M (.builtin "BaseException.__getattribute__"))
 gn:P0 K (.ref C) "__getattr__"=M none
 gc:P0 K (.ref C) "__class__"=M (M (.builtin "object.__class__"))
 get:Uj K (.builtin "object.__class__") "__get__"=M (M (.builtin "getset_descriptor.__get__"))
 tks:U1 K (.builtin "object.__class__")=M true
def NJ (K:KE):Bool:=(lN K "TintError").any λT=>Wu K T&&Vx K (.ref T)==M (.type "type")&&Tq K (.ref T) (.type "BaseException")==M true &&
 (Rq 11).all λi=>(lN K (AS.getD i "")).any λC=>ON K C&&Tq K (.ref C) (.ref T)==M true&&Tq K (.ref C) (.type "ValueError")==M true &&
  (Rq 11).all λj=>(lN K (AS.getD j "")).any λD=>Tq K (.ref C) (.ref D)==M (i==j)
theorem iT (h:o.any p=true):∃ a,o=M a/\p a=true:=by
 cases o with
 |none=>cases h
 |some a=>exact⟨a,Y,h⟩
section
variable {K:KE}(R:NJ K=true)
include R
end
section
variable {X:Cx}{K:KE}
def Oo (K:KE)(x:Str):TE:=λ_ H Q=>∀ D,cM K x D->Q (.ref D) H
theorem kI (hK:X.K=K)(hg:Gl X x)(hx:∃ D,cM K x D)(hd:(x==("__debug__":Str))=false:=by decide):WE X (.Name x pos) (Oo K x):=by
 refine⟨?_⟩;subst hK;intro pins s σ H Q I h;obtain⟨D,hD⟩:=hx;exact iN I hg (P4 I.ok.mod.kin I.ok.mod.glob hD) ⟨.ref D,H,I,Y,h D hD⟩ hd
end
def Gj (l m:Int):P5->Bool
 |.int i=>decide (l<=i)&&decide (i<=m)
 |_=>false
theorem az.at {K:KE}{H:Hp}{i:Nat}{d:P5}{x:V}{ds:List P5}{xs:List V}(h:az K H ds xs)(e1:ds[i]?=M d)(e2:xs[i]?=M x):ay K H d x:=by
 obtain⟨d',h1,h2⟩:=h.get e2;rw[e1] at h1;cases h1;exact h2
section
variable {K:KE}{t r p:Po}{H0 H:Hp}{xs ys:List V}{ds es:List P5}
theorem Lq {k:Int}{n:Nat}(hk:k=n)(hn:n<=1000)(h:H p=M (.lst [v]))(q:∀ l,H l=none->Q (.ref l) (upd H l (.lst (Px n v)))):Lw (.ref p) (.int k) H Q:=by
 subst hk;refine⟨p,_,_,Y,Y,h,by lia,by lia,?_,λl hl=>?_⟩
 ·show 1*((n:Int)).toNat<=Pz;have:(1000:Nat)<=Pz:=by decide
  lia
 ·have e:(Px ((n:Int)).toNat [v]).flatten=Px n v:=by
   rw[Qc];clear hn q
   induction n with
   |zero=>rfl
   |succ n ih=>rw[Rs,Tk,ih];rfl
  rw[e];exact q l hl
theorem Ir {k:Int}{n:Nat}(hk:k=n)(hn:n<=1000)(h:H p=M (.lst [v]))(q:∀ l,H l=none->Q (.ref l) (upd H l (.lst (Px n v)))):tC (.int k) σ H λy H2=>Lw (.ref p) y H2 Q:=Lq hk hn h q
end
theorem JP (z:Rat):shB (rD z)=true:=(show Ok (z.num.natAbs+z.den) z.num z.den from⟨by have:=z.den_pos;lia,z.reduced,by unfold Sm;exact Pg (TL) (Sr (by decide) (SR _ _)),by unfold Sm;exact Pg (TL) (Sr (by decide) (Nat.le_add_left _ _))⟩).shB
def gE (K:KE)(x:Str)(fs:List Str):Bool:=(lN K x).any λC=>TC K C Str.empty&&Ui K C&&VN K C&&P0 K (.ref C) "__setattr__"==M (M (.builtin "object.__setattr__")) &&
 UZ K C&&PM K (.ref C)&&fs.all λf=>P0 K (.ref C) f==M none
structure MR (K:KE)(x:Str)(fs:List Str)(C:Po):Prop where
 at_:cM K x C
 cls:K6 K C
 makes:UZ K C=true
 kp:PM K (.ref C)=true
 no:∀ f∈fs,uh K C f
theorem kW {K:KE}{x:Str}{fs:List Str}(h:gE K x fs=true):∃ C,MR K x fs C:=by
 unfold gE at h;obtain⟨C,e,q⟩:=iT h;simp only[Qu,RJ,Rb] at q;obtain⟨⟨⟨⟨⟨⟨a,b⟩,c⟩,d⟩,m⟩,k⟩,n⟩:=q;exact⟨C,FQ e,⟨a,b,c,d⟩,m,k,λf hf=>RJ.mp (by simpa using n f hf)⟩
theorem bH {K:KE}{x:Str}{C D:Po}(h:cM K x C)(g:cM K x D):C=D:=O4 ((iZ h).symm.trans (iZ g))
section
variable {X:Cx}{K:KE}{o e value:Rz}{f x:Str}{fs0:List Str}{pos pos':Pos}{ta tv:TE}
inductive OM (K:KE)(x f:Str)(v:V)(H:Hp)(Q:VK):Prop
 |mk (a C dx:Po) (fs:List (Str×V)) (w:V) (_:v=.ref a) (_:cM K x C) (_:H a=M (.ins C dx fs)) (_:fs.lookup f=M w) (_:Q w H)
def FG (K:KE)(x:Str)(ta:TE)(f:Str):TE:=λσ H Q=>ta σ H λv H1=>OM K x f v H1 Q
theorem bN (hK:X.K=K)(hc:gE K x fs0=true)(hf:f∈fs0)(he:WE X e ta)(hb:V3 e f X.env (Ts e X.env)=Ts e X.env:=by rfl):WE X (.Attribute e f pos) (FG K x ta f):=by
 have he:=he.go;refine⟨?_⟩;subst hK;obtain⟨D,cf⟩:=kW hc;intro pins s σ H Q I h;refine IE hb (cy (he pins s σ H _ I h) λu s1 ⟨v,H1,I1,rv,a,C,dx,fs,w,ev,ec,ea,l,q⟩=>?_);subst ev;cases bH ec cf.at_;obtain rfl:u=P2 a:=rv;exact CJ I1 ea cf.cls (cf.no f hf) l λu' s2 I2 ru=>⟨w,H1,I2,ru,q⟩
def Nz (K:KE)(x:Str)(ta tv:TE)(f:Str):TS:=λD σ H=>tv σ H λy H1=>ta σ H1 λv H2=>∃ a C dx fs,v=.ref a/\cM K x C/\H2 a=M (.ins C dx fs)/\fs.length<1000 /\
 D.nx σ (upd H2 a (.ins C dx (eJ f y fs)))
theorem dZ (hK:X.K=K) (hc:gE K x fs0=true) (hf:f ∈ fs0) (ha:WE X o ta) (hv:WE X value tv) (hs:VU value (M (.Attribute o f pos')) pos.line X.env=pure false:=by rfl) :
  WS X (.Assign [.Attribute o f pos'] value pos) (Nz K x ta tv f):=by
 have ha:=ha.go;have hv:=hv.go;refine⟨?_⟩;subst hK;obtain⟨E,cf⟩:=kW hc;intro pins s σ H D I h;refine plainObj_wpAny_Assign_Attribute (cy (hv pins s σ H _ I h) λu s1 ⟨y,H1,I1,ry,q⟩=>cy (ha pins s1 σ H1 _ I1 q) λov s2 ⟨v,H2,I2,rv,a,C,dx,fs,ev,ec,ea,l,q2⟩=>?_) hs;subst ev;cases bH ec cf.at_;obtain rfl:ov=P2 a:=rv;exact BU I2 ea cf.cls (cf.no f hf) l ry λs3 I3=>⟨σ,_,I3,q2⟩
end
abbrev J5 (X:Cx)(o:Rz)(m:Str)(args:List Rz)(pl:Sem Bool)(apos pos:Pos):Prop:=
 Ts (.Call (.Attribute o m apos) args [] pos) X.env=(do let ov <- Ts o X.env;WD apos.atName;let (f,first) <- holding [ov] (getMethod ov m pl);callWith pos f first (Tu pos (PN args X.env)) (RQ pos (QM [] X.env)))
structure pM (P:PU)(w:Qq)(K:KE)(mg:Str->Option O6)(base:Q9)(CX:l7)(k:Nat)(x m:Str)(ps:List Str)(dvs:List V)(sp:Sp):Prop where
 ex:∃ (C f:Po) (fd:QR) (ds:List O6) (fs:List Str),jm P w K mg base CX k f fd ps sp/\MR K x fs C/\Gg K C m f/\mg x=M (.ref C)/\nW K fd ps ds/\aU dvs ds
def DA (K:KE)(x m:Str)(sp:Sp)(dvs:List V)(E:XK)(ta:TE)(t:TA):TE:=λσ H Q=>ta σ H λv H1=>∃ a C dx fs,v=.ref a/\cM K x C/\H1 a=M (.ins C dx fs)/\fs.lookup m=none /\
 t σ H1 λvs H2=>sp (v::(vs++dvs)) H2 Q E
def M0 (K:KE)(x:Str)(sp:Sp)(dvs:List V)(E:XK)(t:TA):TE:=λσ H Q=>t σ H λvs H1=>∀ C a dx,cM K x C->H1 a=none->H1 dx=none->dx≠a ->
 sp (.ref a::(vs++dvs)) (upd (upd H1 dx (.own a)) a (.ins C dx [])) (λv H2=>v=.non/\Q (.ref a) H2) E
section
variable {X:Cx}{CX:l7}{K:KE}{k:Nat}{x m:Str}{ps:List Str}{sp:Sp}{dvs:List V}{p pos apos:Pos}{o e:Rz}{es:List Rz}{ta:TE}{t:TA}{W:WX}
theorem kG {pl:Sem Bool} (hK:X.K=K) (hX:Fa CX) (C:pM X.prog X.w X.K X.mg X.base CX k x m ps dvs sp) (hr:Room k X.A) (he:WE X o ta) (ha:WA X (e :: es) t)
  (hst:PN (e::es) X.env=(false,Ts e X.env)::PN es X.env:=by rfl)(hpl:(Tu pos (PN es X.env)).any (·.1)=false:=by rfl)
  (ht:J5 X o m (e::es) pl apos pos:=by rfl):WE X (.Call (.Attribute o m apos) (e::es) [] pos) (DA K x m sp dvs E0 ta t):=by
 have he:=he.go;have ha:=ha.go;refine⟨?_⟩;subst hK;obtain⟨D,f,fd,ds,fs0,F,cf,hm,_,hb,hd⟩:=C.ex;intro pins s σ H Q I h;refine Uv (pl:=pl) (cy (he pins s σ H _ I h) λu s1 ⟨v,H1,I1,rv,a,E,dx,fs,ev,ec,ea,l,q⟩=>?_) ht;subst ev;cases bH ec cf.at_;obtain rfl:u=P2 a:=rv;refine om I1 ea cf.cls hm l ?_;refine T5 (first:=[.ref a]) (h₀:=X.base) I.ok.mod.kin hm.kp (cy (ha pos pins s1 σ H1 _ I1 q) λus s2 ⟨vs,H2,I2,r,q2⟩=>⟨I2.kIn,?_⟩) hst hpl;exact zG (us:=.ref a::us) (vs:=.ref a::vs) F hr hb hd (qm hX) I2 (.cons rfl r) q2
theorem kj {pl:Sem Bool} (hK:X.K=K) (hX:Fa CX) (C:pM X.prog X.w X.K X.mg X.base CX k x m ps dvs sp) (hr:Room k X.A) (he:WE X o ta)
  (ht:J5 X o m [] pl apos pos:=by rfl):WE X (.Call (.Attribute o m apos) [] [] pos) (DA K x m sp dvs E0 ta xM):=by
 have he:=he.go;refine⟨?_⟩;subst hK;obtain⟨D,f,fd,ds,fs0,F,cf,hm,_,hb,hd⟩:=C.ex;intro pins s σ H Q I h;refine Uv (pl:=pl) (cy (he pins s σ H _ I h) λu s1 ⟨v,H1,I1,rv,a,E,dx,fs,ev,ec,ea,l,q⟩=>?_) ht;subst ev;cases bH ec cf.at_;obtain rfl:u=P2 a:=rv;refine om I1 ea cf.cls hm l ?_;exact PySem.W.callWith_K0 (first:=[.ref a]) I1.kIn hm.kp (zG (us:=[.ref a]) (vs:=[.ref a]) F hr hb hd (qm hX) I1 (.cons rfl .nil) q)
theorem p_ (hK:X.K=K) (hX:Fa CX) (C:pM X.prog X.w X.K X.mg X.base CX k x "__init__" ps dvs sp) (hr:Room (k + 1) X.A) (hg:Gl X x) (ha:WA X (e :: es) t) (hdb:(x == ("__debug__":Str))=false:=by decide)
  (he:PN (e::es) X.env=(false,Ts e X.env)::PN es X.env:=by rfl)(hpl:(Tu pos (PN es X.env)).any (·.1)=false:=by rfl):WE X (.Call (.Name x p) (e::es) [] pos) (M0 K x sp dvs E0 t):=by
 have ha:=ha.go;refine⟨?_⟩;subst hK;obtain⟨D,f,fd,ds,fs0,F,cf,hm,hmg,hb,hd⟩:=C.ex;intro pins s σ H Q I h;refine QL (iN I hg hmg ?_ hdb);refine T5 (h₀:=X.base) I.ok.mod.kin cf.kp (cy (ha pos pins s σ H _ I h) λus s1 ⟨vs,H1,I1,r,q⟩=>⟨I1.kIn,?_⟩) he hpl;exact GF ⟨cf.makes,hm.at_,hm.fn,cf.kp⟩ F hr hb hd (qm hX) I1 r λa dx h1 h2 h3=>q D a dx cf.at_ h1 h2 h3
end
structure kB (K:KE)(mg:Str->Option O6)(x m qual:Str)(st:Q1)(ps:List Str)(dvs:List V):Prop where
 ex:∃ (C f:Po) (fd:QR) (oc:O6) (od:Option Po) (dV kV doc pm:O6) (an:Option Po) (cdv ct:O6) (osl:Array (Option O6)) (ds:List O6) (fs:List Str),
  fd=Pu m qual (aN st) (aH st) (ae st) dV kV doc pm an cdv ct/\K.lookup f=M ⟨oc,od,.func fd,osl⟩/\PZ K cdv qual=true /\
  MR K x fs C/\Gg K C m f/\mg x=M (.ref C)/\nW K fd ps ds/\aU dvs ds
section
variable {P:PU}{w:Qq}{K:KE}{mg:Str->Option O6}{base:Q9}{CX:l7}{x m qual:Str}{st:Q1}{N ps:List Str}{dvs:List V}{k:Nat}{sp:Sp}
theorem kB.cal (F:kB K mg x m qual st ps dvs) (S:ao N ps (ae st)) (len:∀ vs H Q E,sp vs H Q E->vs.length=ps.length:=by intro _ _ _ _ h;cases h;subst_vars;rfl)
  (bb:∀ (f:Po) (cdv:O6) (A:QB) (outer:List Env) (s:Pf) (H:Hp) (vs:List V) (Q:VK) (E:XK),Room k (A.deeper (VT qual (ae st) s.heap.objs.size f cdv))->sp vs H Q E ->
   ∃ t,HI (uW CX P w K mg base N qual (ae st) f cdv A outer s H E).nox (aH st) t/\t { nx:=λ_ H'=>Q .non H',rt:=Q } (ki N vs) H):pM P w K mg base CX (k+1) x m ps dvs sp:=by
 obtain⟨C,f,fd,oc,od,dV,kV,doc,pm,an,cdv,ct,osl,ds,fs,rfl,lk,hcd,cf,hm,hmg,hb,hv⟩:=F.ex;refine⟨C,f,_,ds,fs,wW lk hcd S len λA outer s H vs Q E hr hsp=>?_,cf,hm,hmg,hb,hv⟩;obtain⟨t,h,q⟩:=bb f cdv A outer s H vs Q E hr hsp;exact⟨t,h.nox,q⟩
theorem Jr {fs:List Str}{C f:Po}{oc:O6}{od an:Option Po}{osl:Array (Option O6)}{kV doc pm cdv ct:O6} (l:K.lookup f=M ⟨oc,od,.func (Pu m qual (aN st) (aH st) (ae st) .none kV doc pm an cdv ct),osl⟩)
  (c:PZ K cdv qual=true)(kp:PM K (.ref f)=true)(fn:RA K (.ref f)=true)(a:Pm K O_ x=M (M (.ref C)))(b:P0 K (.ref C) m=M (M (.ref f)))(hc:gE K x fs=true)(g:mg x=M (.ref C))
  (h:∀ us:List O6,us.length=ps.length->QA (Pu m qual (aN st) (aH st) (ae st) .none kV doc pm an cdv ct) ⟨us,[]⟩=pure (ps.zip us)):kB K mg x m qual st ps []:=by
 obtain⟨D,cf⟩:=kW hc;cases bH cf.at_ a;exact⟨_,f,_,oc,od,.none,kV,doc,pm,an,cdv,ct,osl,[],fs,Y,l,c,cf,⟨b,fn,kp⟩,g,.all h,.nil⟩
end
abbrev Pt:=Int×Int
def rY (p:Pt):P5:=.tuple [.int p.1,.int p.2]
def Jb (ps:List Pt):P5:=.list (ps.map rY)
structure Pt.In (p:Pt):Prop where
 a1:0<=p.1
 a2:p.1<=1000
 b1:0<=p.2
 b2:p.2<=1000
structure z_ (ps:List Pt):Prop where
 two:2<=ps.length
 few:ps.length<=12
 zero:∀ p,ps[0]?=M p->p.1=0
 inn:∀ p∈ps,p.In
 up:∀ (i:Nat) (p q:Pt),ps[i]?=M p->ps[i+1]?=M q->p.1<q.1/\p.2<=q.2
def Ef (p q:Pt)(a:Rat):Rat:=(p.2:Rat)+((q.2:Rat)-(p.2:Rat))*(a-(p.1:Rat))/((q.1:Rat)-(p.1:Rat))
structure EO (ps:List Pt)(a:Rat)(k:Nat)(p q:Pt):Prop where
 lo:ps[k]?=M p
 hi:ps[k+1]?=M q
 gt:k=0\/(p.1:Rat)<a
 le:a<=(q.1:Rat)
def Ej (ps:List Pt)(a v:Rat):Prop:=∃ k p q,EO ps a k p q/\v=Ef p q a
theorem z_.mono (h:z_ ps):∀ (d i:Nat) (p q:Pt),ps[i]?=M p->ps[i+d]?=M q->p.1<=q.1/\p.2<=q.2/\(0<d->p.1<q.1)
 |0,i,p,q,e1,e2=>by
  rw[X2,e1] at e2;cases e2;exact⟨Xc _,Xc _,λz=>absurd z (by decide)⟩
 |d+1,i,p,q,e1,e2=>by
  have hlt:i+d<ps.length:=by have:=(Pk.mp e2).1;lia
  have e3:ps[i+d]?=M ps[i+d]:=Pw hlt;obtain⟨a,b,_⟩:=z_.mono h d i p _ e1 e3;obtain⟨c,e⟩:=h.up (i+d) _ q e3 (by rw[Nat.add_assoc];exact e2);exact⟨by lia,by lia,λ_=>by lia⟩
theorem D8 (h:z_ ps){a:Rat}{k j:Nat}(x:EO ps a k p q)(y:EO ps a j r s):p=r/\q=s:=by
 have go:∀ {k j:Nat}{p q r s:Pt},EO ps a k p q->EO ps a j r s->¬ k<j:=λ{k j p q r s} x y lt=>by
  obtain⟨d,rfl⟩:∃ d,j=k+1+d:=⟨j-(k+1),by lia⟩
  obtain⟨m,_⟩:=h.mono d (k+1) q r x.hi y.lo;rcases y.gt with z|z
  ·lia
  ·have e:(q.1:Rat)<=(r.1:Rat):=by exact_mod_cast m
   have:=x.le;grind
 have e:k=j:=by
  have:=go x y;have:=go y x;lia
 subst e;have e1:=x.lo.symm.trans y.lo;have e2:=x.hi.symm.trans y.hi;exact⟨O4 e1,O4 e2⟩
theorem Hf (h:z_ ps){a v w:Rat}(x:Ej ps a v)(y:Ej ps a w):v=w:=by
 obtain⟨k,p,q,s,rfl⟩:=x;obtain⟨j,r,t,u,rfl⟩:=y;obtain⟨rfl,rfl⟩:=D8 h s u;rfl
section
variable {K:KE}{g:TG}{tt:TT}{te:TE}{σ0:L2.St}{Fin:List V->Hp->Prop}{H1:Hp}
theorem DU (h1:bU K H1 a1 xs b1) (h2:bU K H1 a2 ys b2) (hds:az K H1 ds xs) (hes:az K H1 es ys) (hle:es.length <= ds.length) (hlf:fs.length=es.length) (hl:ds.length <= 1000)
  (he:∀ (i:Nat) (d e f:P5) (x y:V) (T:Po) (H:Hp),ds[i]?=M d->es[i]?=M e->fs[i]?=M f->ah H1 H->ay K H d x->ay K H e y->H T=M (.tup [x,y])->lq g tt te σ0 (.ref T) H λz H'=>ah H H'/\ay K H' f z)
  (hd:∀ zs H,ah H1 H->az K H fs zs->Fin zs H):gf (Me K b1 b2 a1 a2) g tt te σ0 Fin H1:=by
 have hlen:=hds.length;have hlen2:=hes.length;refine⟨λi m zs H=>m=ys.length-i/\i<=ys.length/\ah H1 H/\az K H (fs.take i) zs,⟨ys.length,by lia,Qm _,ah.refl _,.nil⟩,?_⟩;rintro i m zs H ⟨rfl,hi,s,hzs⟩;have hyl:=hzs.length;rw[P1] at hyl
 by_cases hlt2:i<ys.length
 ·have hlt:i<xs.length:=by lia
  refine .inr ⟨⟨xs,ys,xs[i],ys[i],bU.same s h1,bU.same s h2,by simp[hlt],by simp[hlt2]⟩,bJ (by lia),λv H3 y3=>?_⟩;obtain⟨x,y,T,k1,k2,kT,rfl,rfl⟩:=y3;have hx:=k1 xs (bU.same s h1);have hy:=k2 ys (bU.same s h2);obtain⟨d,hdd,hdx⟩:=hds.get hx;obtain⟨e,hee,hey⟩:=hes.get hy;have hff:fs[i]?=M fs[i]:=by simp[show i<fs.length by lia]
  have sT:ah H (upd H T (.tup [x,y])):=ah.new kT;have sA:=s.trans sT;refine he i d e fs[i] x y T _ hdd hee hff sA (ay.same sA hdx) (ay.same sA hey) ag _ (λz H' ⟨s',hz⟩=>⟨ys.length-(i+1),by lia,rfl,hlt2,sA.trans s',?_⟩) λH5=>∃ m',m'<ys.length-i/\(m'=ys.length-(i+1)/\i+1<=ys.length/\ah H1 H5/\az K H5 (fs.take (i+1)) zs)
  rw[b8 hff];exact(az.same s' (az.same sT hzs)).snoc hz
 ·have e:i=ys.length:=by lia
  subst e;rw[P9 (by lia)] at hzs;exact .inl ⟨⟨xs,ys,bU.same s h1,bU.same s h2,.inr (Pe _)⟩,cY (by lia),hd zs H s hzs⟩
end
theorem F5 (xs:List V)(h:1<=xs.length):A9 xs (M 1) none=xs.drop 1:=by
 unfold A9;have e1:HT.sIx xs.length 0 (M 1)=1:=by
  simp[HT.sIx]
  try lia
 have e2:HT.sIx xs.length xs.length none=xs.length:=by simp[HT.sIx]
 rw[e1,e2];exact P9 (by rw[R8];exact Pe _)
theorem az.drop {K:KE}{H:Hp}:∀ (n:Nat) {ds:List P5}{xs:List V},az K H ds xs->az K H (ds.drop n) (xs.drop n)
 |0,_,_,h=>h
 |_+1,_,_,.nil=>.nil
 |n+1,_,_,.cons _ t=>az.drop n t
theorem qt {K:KE}{H:Hp}{ps:List Pt}{xs:List V}{k:Nat}{p:Pt}(h:az K H (ps.map rY) xs)(e:ps[k]?=M p):∃ v,xs[k]?=M v/\ay K H (rY p) v:=by
 have hl:=h.length;rw[Pb] at hl;have hk:k<xs.length:=by have:=(Pk.mp e).1;lia
 have e1:xs[k]?=M xs[k]:=Pw hk;refine⟨_,e1,h.at ?_ e1⟩;rw[Ps,e];rfl
def mo (K:KE)(H:Hp)(ps:List Pt)(v:V):Prop:=∃ (a C dx l:Po),v=.ref a/\cM K "Curve" C/\H a=M (.ins C dx [("points",.ref l)])/\ay K H (Jb ps) (.ref l)
theorem mo.same {K:KE}{H H':Hp}{ps:List Pt}{v:V}(s:ah H H')(h:mo K H ps v):mo K H' ps v:=by
 obtain⟨a,C,dx,l,e,c,h1,h2⟩:=h;exact⟨a,C,dx,l,e,c,s _ _ h1,ay.same s h2⟩
theorem uj (h:xs.getLast?=M v):Dw xs (-1)=M v:=by
 rw[QC] at h;have hl:0<xs.length:=by
  cases xs with
  |nil=>simp at h
  |cons _ _=>simp
 unfold Dw;have e:C0 xs.length (-1)=M (xs.length-1):=by
  unfold C0;simp;lia
 rw[e];exact h
theorem Am {K:KE}{H:Hp}{ps:List Pt}{xs:List V}{z:Pt}(h:az K H (ps.map rY) xs)(e:ps.getLast?=M z):∃ v,xs.getLast?=M v/\ay K H (rY z) v:=by
 rw[QC] at e;obtain⟨v,h1,h2⟩:=qt h e;refine⟨v,?_,h2⟩;rw[QC,<- h.length,Pb];exact h1
theorem Ic {a:Rat}(h:p.1<q.1):Ef p q a=((p.2*(q.1-p.1)*(a.den:Int)+(a.num-p.1*(a.den:Int))*(q.2-p.2):Int):Rat)/(((q.1-p.1)*(a.den:Int):Int):Rat):=by
 have h1:((q.1:Rat)-(p.1:Rat))≠0:=λz=>by
  have e:((q.1-p.1:Int):Rat)=((0:Int):Rat):=by rw[Qj];exact z
  have e:q.1-p.1=0:=by exact_mod_cast e
  lia
 have h2:=kJ a;have ea:=jT a;unfold Ef;rw[U3,PY,PY,PY,PY,Qj,Qj,Qj,PY];generalize ((a.den:Int):Rat)=d at *;generalize (a.num:Rat)=n at *;generalize (p.1:Rat)=p1 at *;generalize (p.2:Rat)=p2 at *;generalize (q.1:Rat)=q1 at *;generalize (q.2:Rat)=q2 at *;subst ea;grind
theorem qU (h:z_ ps){a c:Rat}{k:Nat}(ha:Bq k a)(x:Ej ps a c):Bq (k+40) c:=by
 obtain⟨j,p,q,s,rfl⟩:=x;have hlt:=(h.up j p q s.lo s.hi).1;have ip:=h.inn p (PL s.lo);have iq:=h.inn q (PL s.hi);have s10:∀ {i:Int},0<=i->i<=1000->Sm 10 i:=λh1 h2=>by unfold Sm;lia
 have s11:∀ {i j:Int},0<=i->i<=1000->0<=j->j<=1000->Sm 11 (i-j):=λh1 h2 h3 h4=>by unfold Sm;lia
 have sr:Sm 11 (q.1-p.1):=s11 iq.a1 iq.a2 ip.a1 ip.a2;have su:Sm 11 (q.2-p.2):=s11 iq.b1 iq.b2 ip.b1 ip.b2;rw[Ic hlt];refine jg (Qi (by lia) (by exact_mod_cast a.den_nz)) ?_ ((sr.mul ha.sd).mono (by lia));have t1:=((s10 ip.b1 ip.b2).mul sr).mul ha.sd;have t2:=((ha.sn.mono (show k<=10+k by lia)).sub ((s10 ip.a1 ip.a2).mul ha.sd)).mul su;exact((t1.mono (show 10+11+k<=k+30 by lia)).add (t2.mono (show 10+k+1+11<=k+30 by lia))).mono (by lia)
def iK {α:Type}(n m:Nat)(ds us ws:List α):List α:=cond (Yg us.length n&&Yg ws.length m) (us++(ws++ds)) []
theorem uA {n m:Nat}(hd:aU dvs ds)(a:aU vs us)(b:aU zs ws):aU (iK n m dvs vs zs) (iK n m ds us ws):=by
 unfold iK;rw[a.length,b.length];cases Yg us.length n&&Yg ws.length m
 ·exact .nil
 ·exact a.append (b.append hd)
theorem vc {n m k:Nat}(h:(iK n m ds us ws).length=k+1):us.length=n/\ws.length=m/\iK n m ds us ws=us++(ws++ds):=by
 unfold iK at h ⊢;cases z:Yg us.length n&&Yg ws.length m with
 |false=>rw[z] at h;cases h
 |true=>
  rw[Qu] at z;exact⟨Wq z.1,Wq z.2,Y⟩
theorem Kd {K:KE}{fd:QR}{p:Str}{ps ks:List Str}{n m:Nat} (h:∀ us ws:List O6,us.length=n->ws.length=m->QA fd ⟨us,ks.zip ws⟩=pure ((p :: ps).zip (us ++ ws))) :
  jt K fd (p::ps) ks (iK n m []) (iK n m []):=
 ⟨λs us ws _ hl=>by
  obtain⟨a,b,c⟩:=vc hl;rw[c,UQ];exact .of_eq (h us ws a b),λa b=>uA .nil a b⟩
structure GG (P:PU)(w:Qq)(K:KE)(mg:Str->Option O6)(base:Q9)(CX:l7)(k:Nat)(x:Str)(ps ks:List Str)(n m:Nat)(dvs:List V)(sp:Sp):Prop where
 ex:∃ (f:Po) (fd:QR) (ds:List O6),jm P w K mg base CX k f fd ps sp/\mg x=M (.ref f)/\PM K (.ref f)=true/\jt K fd ps ks (iK n m ds) (iK n m dvs)
section
variable {X:Cx}{CX:l7}{W:WX}{k n m:Nat}{x:Str}{ps ks:List Str}{sp:Sp}{dvs:List V}{p pos:Pos}{e:Rz}{es:List Rz}{t tk:TA}{kws:List Vq}
theorem jk (hX:Fa CX) (C:GG X.prog X.w X.K X.mg X.base CX k x ps ks n m dvs sp) (hr:Room k X.A) (hg:Gl X x) (ha:WA X (e :: es) t) (hkw:WK X kws tk)
  (hall:(RQ pos (QM kws X.env)).all (·.1.isSome)=true:=by rfl)(hks:(RQ pos (QM kws X.env)).filterMap (·.1)=ks:=by rfl)(hdb:(x==("__debug__":Str))=false:=by decide)
  (he:PN (e::es) X.env=(false,Ts e X.env)::PN es X.env:=by rfl)
  (hpl:((Tu pos (PN (e::es) X.env)).any (·.1)||(RQ pos (QM kws X.env)).any (·.1.isNone))=false:=by rfl):
  WE X (.Call (.Name x p) (e::es) kws pos) (Hm sp (iK n m dvs) E0 t tk):=by
 have ha:=ha.go;have hkw:=hkw.go;refine⟨?_⟩;obtain⟨f,fd,ds,F,hm,hk,hb⟩:=C.ex;exact Ga F hr hg hm hk hb (qm hX) ha hkw hall hks hdb he hpl
end
structure qM (K:KE)(mg:Str->Option O6)(x:Str)(st:Q1)(ps ks:List Str)(n m:Nat)(dvs:List V):Prop where
 ex:∃ (f:Po) (fd:QR) (oc:O6) (od:Option Po) (dV kV doc pm:O6) (an:Option Po) (cdv ct:O6) (osl:Array (Option O6)) (ds:List O6),
  fd=Pu x x (aN st) (aH st) (ae st) dV kV doc pm an cdv ct/\K.lookup f=M ⟨oc,od,.func fd,osl⟩/\PZ K cdv x=true /\
  mg x=M (.ref f)/\PM K (.ref f)=true/\jt K fd ps ks (iK n m ds) (iK n m dvs)
section
variable {P:PU}{w:Qq}{K:KE}{mg:Str->Option O6}{base:Q9}{CX:l7}{x:Str}{st:Q1}{N ps ks:List Str}{n m:Nat}{dvs:List V}{k:Nat}{sp:Sp}
theorem qM.cal (F:qM K mg x st ps ks n m dvs) (S:ao N ps (ae st)) (len:∀ vs H Q E,sp vs H Q E->vs.length=ps.length:=by intro _ _ _ _ h;cases h;subst_vars;rfl)
  (bb:∀ (f:Po) (cdv:O6) (A:QB) (outer:List Env) (s:Pf) (H:Hp) (vs:List V) (Q:VK) (E:XK),Room k (A.deeper (VT x (ae st) s.heap.objs.size f cdv))->sp vs H Q E ->
   ∃ t,HI (uW CX P w K mg base N x (ae st) f cdv A outer s H E).nox (aH st) t/\t { nx:=λ_ H'=>Q .non H',rt:=Q } (ki N vs) H):GG P w K mg base CX (k+1) x ps ks n m dvs sp:=by
 obtain⟨f,fd,oc,od,dV,kV,doc,pm,an,cdv,ct,osl,ds,rfl,lk,hcd,hm,hk,hb⟩:=F.ex;refine⟨f,_,ds,wW lk hcd S len λA outer s H vs Q E hr hsp=>?_,hm,hk,hb⟩;obtain⟨t,h,q⟩:=bb f cdv A outer s H vs Q E hr hsp;exact⟨t,h.nox,q⟩
theorem zR {p:Str}{ps:List Str}{f:Po}{oc:O6}{od an:Option Po}{osl:Array (Option O6)}{kV doc pm cdv ct:O6} (l:K.lookup f=M ⟨oc,od,.func (Pu x x (aN st) (aH st) (ae st) .none kV doc pm an cdv ct),osl⟩)
  (c:PZ K cdv x=true)(kp:PM K (.ref f)=true)(g:mg x=M (.ref f))
  (h:∀ us ws:List O6,us.length=n->ws.length=m->QA (Pu x x (aN st) (aH st) (ae st) .none kV doc pm an cdv ct) ⟨us,ks.zip ws⟩=pure ((p::ps).zip (us++ws))):qM K mg x st (p::ps) ks n m []:=
 ⟨f,_,oc,od,.none,kV,doc,pm,an,cdv,ct,osl,[],Y,l,c,g,kp,Kd h⟩
end
structure rH (P:PU)(w:Qq)(K:KE)(mg:Str->Option O6)(base:Q9)(CX:l7)(k:Nat)(x m:Str)(ps ks:List Str)(n j:Nat)(dvs:List V)(sp:Sp):Prop where
 ex:∃ (C f:Po) (fd:QR) (ds:List O6) (fs:List Str),jm P w K mg base CX k f fd ps sp/\MR K x fs C/\Gg K C m f/\mg x=M (.ref C)/\jt K fd ps ks (iK n j ds) (iK n j dvs)
def Nq (K:KE)(x:Str)(sp:Sp)(gV:List V->List V->List V)(E:XK)(tk:TA):TE:=λσ H Q=>tk σ H λzs H1=>∀ C a dx,cM K x C->H1 a=none->H1 dx=none->dx≠a ->
 sp (gV [.ref a] zs) (upd (upd H1 dx (.own a)) a (.ins C dx [])) (λv H2=>v=.non/\Q (.ref a) H2) E
section
variable {X:Cx}{CX:l7}{K:KE}{W:WX}{k n j:Nat}{x:Str}{ps ks:List Str}{sp:Sp}{dvs:List V}{p pos:Pos}{tk:TA}{kws:List Vq}
theorem GQ (zzW:Mk X.K C f) (F:jm X.prog X.w X.K X.mg X.base CX k f fd ps sp) (hr:Room (k + 1) X.A)
  (hb:jt X.K fd ps ks g gV)(hx:∀ J:Hp,∀ s1:Pf,aJ X pins σ J s1->∀ e s',CX X.stack J s1 E e s'->X.xe e s')(I:aJ X pins σ H s)(rz:aU zs ws)
  (h:∀ a dx,H a=none->H dx=none->dx≠a->sp (gV [.ref a] zs) (upd (upd H dx (.own a)) a (.ins C dx [])) (λv H2=>v=.non/\Q (.ref a) H2) E):
  Pp (PX X.prog X.w) X.A (call (.ref C) [] (ks.zip ws)) (EP X pins σ Q) X.xe s:=by
 have hq:=h (s.heap.objs.size+1) s.heap.objs.size (I.hok.fresh (UW _)) (I.hok.fresh (Pe _)) (Pr (Rc _));have J:=aJ.made (C:=C) I;have rr:=hb.rel (show aU [V.ref (s.heap.objs.size+1)] [P2 (s.heap.objs.size+1)] from .cons rfl .nil) rz;have hn:(g [P2 (s.heap.objs.size+1)] ws).length=ps.length:=rr.length.symm.trans (F.len _ _ _ _ hq);refine UL (vI (f:=f) I.kIn zzW.makes zzW.init (RJ.mp zzW.fn) (Se (F.run _ X.stack _ _ ⟨[P2 (s.heap.objs.size+1)],ks.zip ws⟩ (g [P2 (s.heap.objs.size+1)] ws) _ _ E (hr.make C [] (ks.zip ws))
  (J.env0.make C [] (ks.zip ws)) (hb.to _ [P2 (s.heap.objs.size+1)] ws J.kIn hn) rr hq) λz s' hz=>?_))
 match z,hz with
 |.error v,hz=>exact hx _ _ J v s' hz
 |.ok (.ret u),hz=>
  obtain⟨v,H',J3,rv,ev,q3⟩:=J.after hz;subst ev;exact⟨rv,⟨V.ref (s.heap.objs.size+1),H',J3,Y,q3⟩⟩
theorem qh (hK:X.K=K) (hX:Fa CX) (C:rH X.prog X.w X.K X.mg X.base CX k x "__init__" ps ks n j dvs sp) (hr:Room (k + 1) X.A) (hg:Gl X x) (hkw:WK X kws tk)
  (hall:(RQ pos (QM kws X.env)).all (·.1.isSome)=true:=by rfl)(hks:(RQ pos (QM kws X.env)).filterMap (·.1)=ks:=by rfl)(hdb:(x==("__debug__":Str))=false:=by decide)
  (hpl:((Tu pos (PN [] X.env)).any (·.1)||(RQ pos (QM kws X.env)).any (·.1.isNone))=false:=by rfl):
  WE X (.Call (.Name x p) [] kws pos) (Nq K x sp (iK n j dvs) E0 tk):=by
 have hkw:=hkw.go;refine⟨?_⟩;subst hK;obtain⟨D,f,fd,ds,fs0,F,cf,hm,hmg,hb⟩:=C.ex;intro pins s σ H Q I h;refine QL (iN I hg hmg ?_ hdb);refine PySem.W.callWith_KW0 (h₀:=X.base) I.ok.mod.kin cf.kp hall (cy (hkw pos pins s σ H _ I h) λws s2 ⟨zs,H2,I2,rz,q2⟩=>⟨I2.kIn,?_⟩) hpl;rw[hks];exact GQ ⟨cf.makes,hm.at_,hm.fn,cf.kp⟩ F hr hb (λJ s1 I1 e s' z=>(qm hX) _ _ _ _ _ _ I1 z) I2 rz λa dx h1 h2 h3=>q2 D a dx cf.at_ h1 h2 h3
end
structure j9 (K:KE)(mg:Str->Option O6)(x m qual:Str)(st:Q1)(ps ks:List Str)(n j:Nat)(dvs:List V):Prop where
 ex:∃ (C f:Po) (fd:QR) (oc:O6) (od:Option Po) (dV kV doc pm:O6) (an:Option Po) (cdv ct:O6) (osl:Array (Option O6)) (ds:List O6) (fs:List Str),
  fd=Pu m qual (aN st) (aH st) (ae st) dV kV doc pm an cdv ct/\K.lookup f=M ⟨oc,od,.func fd,osl⟩/\PZ K cdv qual=true /\
  MR K x fs C/\Gg K C m f/\mg x=M (.ref C)/\jt K fd ps ks (iK n j ds) (iK n j dvs)
section
variable {P:PU}{w:Qq}{K:KE}{mg:Str->Option O6}{base:Q9}{CX:l7}{x m qual:Str}{st:Q1}{N ps ks:List Str}{n j:Nat}{dvs:List V}{k:Nat}{sp:Sp}
theorem j9.cal (F:j9 K mg x m qual st ps ks n j dvs) (S:ao N ps (ae st)) (len:∀ vs H Q E,sp vs H Q E->vs.length=ps.length:=by intro _ _ _ _ h;cases h;subst_vars;rfl)
  (bb:∀ (f:Po) (cdv:O6) (A:QB) (outer:List Env) (s:Pf) (H:Hp) (vs:List V) (Q:VK) (E:XK),Room k (A.deeper (VT qual (ae st) s.heap.objs.size f cdv))->sp vs H Q E ->
   ∃ t,HI (uW CX P w K mg base N qual (ae st) f cdv A outer s H E).nox (aH st) t/\t { nx:=λ_ H'=>Q .non H',rt:=Q } (ki N vs) H):rH P w K mg base CX (k+1) x m ps ks n j dvs sp:=by
 obtain⟨C,f,fd,oc,od,dV,kV,doc,pm,an,cdv,ct,osl,ds,fs,rfl,lk,hcd,cf,hm,hmg,hb⟩:=F.ex;refine⟨C,f,_,ds,fs,wW lk hcd S len λA outer s H vs Q E hr hsp=>?_,cf,hm,hmg,hb⟩;obtain⟨t,h,q⟩:=bb f cdv A outer s H vs Q E hr hsp;exact⟨t,h.nox,q⟩
theorem pH {p:Str}{ps fs:List Str}{C f:Po}{oc:O6}{od an:Option Po}{osl:Array (Option O6)}{kV doc pm cdv ct:O6} (l:K.lookup f=M ⟨oc,od,.func (Pu m qual (aN st) (aH st) (ae st) .none kV doc pm an cdv ct),osl⟩)
  (c:PZ K cdv qual=true)(kp:PM K (.ref f)=true)(fn:RA K (.ref f)=true)(a:Pm K O_ x=M (M (.ref C)))(b:P0 K (.ref C) m=M (M (.ref f)))(hc:gE K x fs=true)(g:mg x=M (.ref C))
  (h:∀ us ws:List O6,us.length=n->ws.length=j->QA (Pu m qual (aN st) (aH st) (ae st) .none kV doc pm an cdv ct) ⟨us,ks.zip ws⟩=pure ((p::ps).zip (us++ws))):j9 K mg x m qual st (p::ps) ks n j []:=by
 obtain⟨D,cf⟩:=kW hc;cases bH cf.at_ a;exact⟨_,f,_,oc,od,.none,kV,doc,pm,an,cdv,ct,osl,[],fs,Y,l,c,cf,⟨b,fn,kp⟩,g,Kd h⟩
end
structure Oj (P:PU)(w:Qq)(K:KE)(mg:Str->Option O6)(base:Q9)(CX:l7)(k:Nat)(v:V)(sp:Sp):Prop where
 ex:∃ (f:Po) (fd:QR) (ps:List Str),v=.ref f/\jm P w K mg base CX k f fd ps sp/\PM K (.ref f)=true/\nW K fd ps []
theorem c9.fnV {P:PU}{w:Qq}{K:KE}{mg:Str->Option O6}{base:Q9}{CX:l7}{j k:Nat}{x:Str}{ps:List Str}{sp:Sp}{f:Po}(C:c9 P w K mg base CX j x ps [] sp)(h:mg x=M (.ref f))(l:j<=k):Oj P w K mg base CX k (.ref f) sp:=by
 obtain⟨f',fd,ds,F,hm,hk,hb,hv⟩:=C.ex;rw[h] at hm;cases hm;cases hv;exact⟨f,fd,ps,Y,F.mono l,hk,hb⟩
def Ml (P:PU)(w:Qq)(K:KE)(mg:Str->Option O6)(base:Q9)(CX:l7)(k i:Nat)(t:TA):TE:=λσ H Q=>∃ v,σ[i]?=M (M v)/\∃ sp,Oj P w K mg base CX k v sp/\t σ H λvs H1=>sp vs H1 Q E0
theorem Bb {X:Cx}{P:PU}{w:Qq}{K:KE}{mg:Str->Option O6}{base:Q9}{CX:l7}{k i:Nat}{x:Str}{e:Rz}{es:List Rz}{t:TA}{p pos:Pos} (hP:X.prog=P) (hw:X.w=w) (hK:X.K=K) (hmg:X.mg=mg) (hba:X.base=base) (hX:Fa CX) (hr:Room k X.A)
  (hv:WE X (.Name x p) (re i))(ha:WA X (e::es) t)
  (he:PN (e::es) X.env=(false,Ts e X.env)::PN es X.env:=by rfl)(hpl:(Tu pos (PN es X.env)).any (·.1)=false:=by rfl):WE X (.Call (.Name x p) (e::es) [] pos) (Ml P w K mg base CX k i t):=by
 have hv:=hv.go;have ha:=ha.go;refine⟨?_⟩;subst hP hw hK hmg hba;intro pins s σ H Q I h;obtain⟨v,hi,sp,F,h⟩:=h;obtain⟨f,fd,ps,rfl,F,hk,hb⟩:=F.ex;refine QL (cy (hv pins s σ H (λv' H'=>v'=V.ref f/\H'=H) I ⟨_,hi,Y,Y⟩) λu s1 ⟨v1,H1,I1,rv,e1,e2⟩=>?_);subst e1 e2;cases rv;refine T5 (h₀:=X.base) I.ok.mod.kin hk (cy (ha pos pins s1 σ H1 _ I1 h) λus s2 ⟨vs,H2,I2,r,q⟩=>⟨I2.kIn,?_⟩) he hpl;exact zG (dvs:=[]) F hr hb .nil (qm hX) I2 r (by rw[UQ];exact q)
structure u_ (K:KE)(w:Qq)(mg:Str->Option O6)(D:Po)(kvs:List (Str×Str)):Prop where
 ex:∃ (es:Array Re) (n:Nat),K.lookup D=M ⟨.type "dict",none,.dict es n,#[]⟩/\Wr w.params es.toList/\Vi (λ(e:Re) (p:Str×Str)=>∃ t f,e.key=.str p.1 t/\e.val=.ref f/\mg p.2=M (.ref f)) es.toList kvs
 lo:(D==Rh)=false
theorem vv {mg:Str->Option O6}:∀ {l:List Re}{kfs:List (Str × Po)}{kvs:List (Str × Str)},Vi (fun (e:Re) (p:Str × Po)=>∃ t,e.key=.str p.1 t/\e.val=.ref p.2) l kfs ->
  Vi (λ(p:Str×Po) (q:Str×Str)=>p.1=q.1/\mg q.2=M (.ref p.2)) kfs kvs->Vi (λ(e:Re) (p:Str×Str)=>∃ t f,e.key=.str p.1 t/\e.val=.ref f/\mg p.2=M (.ref f)) l kvs
 |_,_,_,.nil,.nil=>.nil
 |_,_,_,.cons ⟨t,h1,h2⟩ r,.cons ⟨q1,q2⟩ s=>.cons ⟨t,_,by rw[h1,q1],h2,q2⟩ (vv r s)
theorem Ah {mg:Str->Option O6}{x:Str}:∀ {l:List Re}{kvs:List (Str × Str)},Vi (fun (e:Re) (p:Str × Str)=>∃ t f,e.key=.str p.1 t/\e.val=.ref f/\mg p.2=M (.ref f)) l kvs ->
  (match kvs.lookup x with|some n=>∃ f e,l.find? (λd=>Sd x d.key)=M e/\e.val=.ref f/\mg n=M (.ref f)|none=>l.find? (λd=>Sd x d.key)=none)
 |_,_,.nil=>rfl
 |e::l,p::kvs,.cons ⟨t,f,h1,h2,h3⟩ r=>by
  obtain⟨a,b⟩:=p;rw[QF,RY,h1];have q:Sd x (.str a t)=(x==a):=by
   show decide _=_;rw[S'];exact V7.mpr ⟨Eq.symm,Eq.symm⟩
  rw[q];cases z:x==a with
  |true=>exact⟨f,e,Y,h2,h3⟩
  |false=>exact Ah r
section
variable {X:Cx}{K:KE}{w:Qq}{mg:Str->Option O6}{kvs:List (Str×Str)}
def N3 (K:KE)(w:Qq)(mg:Str->Option O6)(kvs:List (Str×Str)):TE:=λ_ H Q=>∀ D,u_ K w mg D kvs->Q (.ref D) H
theorem tH (hg:Gl X x)(hx:∃ D,X.mg x=M (.ref D)/\u_ K w mg D kvs)(hd:(x==("__debug__":Str))=false:=by decide):WE X (.Name x pos) (N3 K w mg kvs):=by
 refine⟨?_⟩;intro pins s σ H Q I h;obtain⟨D,hm,hD⟩:=hx;exact iN I hg hm ⟨.ref D,H,I,Y,h D hD⟩ hd
def Ld (K:KE)(w:Qq)(mg:Str->Option O6)(kvs:List (Str×Str)):R2:=λx y H Q=>∃ a D,x=.str a/\y=.ref D/\u_ K w mg D kvs/\Q (.bl (kvs.lookup a).isSome) H
theorem Dm {h:Q9}{prog:PU}{D:Po} (X:K.In h) (T:u_ K w mg D kvs):∃ es:Array Re,h.MapOf (strKind prog w) D (fun k=>findBy Sd es k)/\∀ x,match kvs.lookup x with
  |some n=>∃ f,findBy Sd es x=M (.ref f)/\mg n=M (.ref f)
  |none=>findBy Sd es x=none:=by
 obtain⟨es,n,l,hk,hp⟩:=T.ex;refine⟨es,PySem.W.mapOf_K X l hk,λx=>?_⟩;have q:=Ah (x:=x) hp;obtain⟨es⟩:=es;unfold findBy;cases z:kvs.lookup x with
 |none=>
  rw[z] at q;simp only[Xo];rw[q];rfl
 |some n=>
  rw[z] at q;obtain⟨f,e,q1,q2,q3⟩:=q;refine⟨f,?_,q3⟩;simp only[Xo];rw[q1];show M e.val=_;rw[q2]
theorem Ai (hK:X.K=K)(hw:X.w=w):m9 X (Rm .In) (Ld K w mg kvs):=by
 subst hK hw;intro pins s σ H x y v u Q I rx ry h;obtain⟨a,D,rfl,rfl,T,q⟩:=h;obtain⟨t,rfl⟩:=rx;cases ry;obtain⟨es,hm,hf⟩:=Dm (prog:=X.prog) I.kIn T;refine wpAny_in_of (strKind_is X.prog X.w a t) T.lo hm ?_;have e:(findBy Sd es a).isSome=(kvs.lookup a).isSome:=by
  have z:=hf a;cases y:kvs.lookup a with
  |none=>rw[y] at z;rw[z];rfl
  |some n=>rw[y] at z;obtain⟨f,z,_⟩:=z;rw[z];rfl
 exact H_ (I.tok _) q e.symm
def LQ (K:KE)(w:Qq)(mg:Str->Option O6)(kvs:List (Str×Str)):R2:=λx y H Q=>∃ a n D,x=.ref D/\y=.str a/\u_ K w mg D kvs/\kvs.lookup a=M n/\∀ f,mg n=M (.ref f)->Q (.ref f) H
theorem Fu (hK:X.K=K)(hw:X.w=w):Gm X (LQ K w mg kvs):=by
 subst hK hw;intro value slice pins s σ H x y v u Q I rx ry h hs;obtain⟨a,n,D,rfl,rfl,T,hl,q⟩:=h;obtain⟨t,rfl⟩:=ry;cases rx;obtain⟨es,hm,hf⟩:=Dm (prog:=X.prog) I.kIn T;have z:=hf a;rw[hl] at z;obtain⟨f,z,g⟩:=z;exact tail_any hm.typeIs slot_dict_getitem.lookup (wpAny_getItem_of (strKind_is X.prog X.w a t) hm z ⟨.ref f,H,I.tok _,Y,q f g⟩) hs
end
def zu:List String:=["NoneType","bool","int","str","list","tuple","dict"]
def ER (K:KE)(x:Str):Bool:=(lN K x).any λC=>P0 K (.ref C) "__class__"==M (M (.builtin "object.__class__"))&&Uj K (.builtin "object.__class__") "__get__"==M (M (.builtin "getset_descriptor.__get__")) &&
 U1 K (.builtin "object.__class__")==M true&&T6 K C (.type "object")==M true&&zu.all λT=>Sk K (.type T) (.ref C)==M false
def Oa (K:KE)(x:Str):List V->Hp->VK->Prop:=λxs H Q=>∃ v C,xs=[v,.ref C]/\cM K x C/\((∃ a dx fs,v=.ref a/\H a=M (.ins C dx fs)/\Q (.bl true) H)\/∃ T,Ty K H v T/\T∈zu/\Q (.bl false) H)
theorem Aq {X:Cx}{K:KE}{x:Str}{fs0:List Str}(hK:X.K=K)(hc:gE K x fs0=true)(hi:ER K x=true):dD X (.builtin "isinstance") (Oa K x):=by
 subst hK;intro pins s σ H xs us Q I r h;obtain⟨v,C,rfl,hC,h⟩:=h;obtain⟨u,w,rfl,rx,rw'⟩:=k9 r;cases(show w=P2 C from rw');obtain⟨D,cf⟩:=kW hc;cases bH hC cf.at_;obtain⟨E,e,q⟩:=iT hi;rw[iZ hC] at e;cases e;simp only[Qu,RJ,Rb] at q;obtain⟨⟨⟨⟨q1,q2⟩,q3⟩,q4⟩,q5⟩:=q;rcases h with ⟨a,dx,fs,rfl,ha,h⟩|⟨T,ty,ht,h⟩
 ·exact qP I rx (.ins ha cf.cls q1 q2 q3 q4) (by unfold Sk;rw[Qh (UB _)]) λtk=>⟨.bl true,H,I.tok tk,Y,h⟩
 ·exact qP I rx ty (q5 T ht) λtk=>⟨.bl false,H,I.tok tk,Y,h⟩
theorem gh {K:KE}{x:Str}{fs:List Str}(h:gE K x fs=true):∃ C,cM K x C:=by
 obtain⟨C,cf⟩:=kW h;exact⟨C,cf.at_⟩
section
variable {prog:PU}{w:Qq}{A:QB}{E:O6->Pf->Prop}{s:Pf}
theorem MV (ho:s.heap.get? a=M o)(h:Q (M o) s):Pp (PX prog w) A (loadIfAlive a) Q E s:=λΓ p _=>by
 show Sem.wp _ Γ (Sem.loadIfAlive a Sem.pure) _ _ p s;rw[Sem.wp_loadIfAlive,ho];exact h
abbrev zM (h:Q9)(z ti to:Po)(f0 f1:O6):Prop:=h.get? z=M { cls:=.type "zip",dict:=none,data:=.fields #[f0,f1,.bool false,.ref ti,.ref to],slots:=#[] }
structure Il (b1 b2:Bool)(h:Q9)(z ti to j1 j2 q1 q2:Po)(k:Nat)(xs ys:Array O6):Prop where
 zp:∃ (a:Po) (c:Bool),zM h z ti to (RO a) (.bool c)/\a≠z/\a≠j1/\a≠j2/\∃ o,h.get? a=M o
 pi:Td h ti (.ref j1) (.ref j2)
 s1:mZ b1 h j1 q1 k xs
 s2:mZ b2 h j2 q2 k ys
theorem MY {z ti to a:Po}{c:Bool}{Q:Bool->Pf->Prop} (hz:zM s.heap z ti to (RO a) (.bool c)) (ha:∃ o,s.heap.get? a=M o)
  (fin:∀ g,(∃ d,zM g z ti to (RO a) (.bool d))->UN z s.heap g->g.objs.size=s.heap.objs.size->Q false { s with heap:=g }):Pp (PX prog w) A (PH (.ref z)) Q E s:=by
 obtain⟨o,ha⟩:=ha;unfold PH;refine O2 (Qd hz rfl (x:=RO a) Y ?_);show Pp _ _ (loadIfAlive (SO (a:Int))>>=_) _ _ s;rw[Qc];refine O2 (MV ha ?_);simp only[Option.isNone_some,Qv,Ss];refine O2 (Qd hz rfl (x:=.bool c) Y ?_);cases c with
 |true=>
  rw[P3 (by decide)];refine O5 (fin s.heap ⟨true,hz⟩ (λ_ _ _ e=>e) Y)
 |false=>
  rw[Qh (by decide)];refine O2 (Qb hz (by simp) λg z1 e1=>O5 (fin g ⟨true,z1⟩ e1.extBut e1.1))
theorem F9 {k:Nat} (D:Kk z ti to j1 j2 q1 q2) (Z:Il b1 b2 s.heap z ti to j1 j2 q1 q2 k xs ys) (hx:xs[k]?=M x) (hy:ys[k]?=M y)
  (fin:∀ g,Il b1 b2 g z ti to j1 j2 q1 q2 (k+1) xs ys->Td g s.heap.objs.size x y->(∀ c o,c≠z->c≠j1->c≠j2->s.heap.get? c=M o->g.get? c=M o)->g.objs.size=s.heap.objs.size+1->Q (M (.ref s.heap.objs.size)) { s with heap:=g }):
  Pp (PX prog w) A (SE (.ref z)) Q E s:=by
 obtain⟨⟨a,c,hz,na,nj1,nj2,oa,ha⟩,hi,hs1,hs2⟩:=Z;have ht:s.TypeIs (.ref z) "zip":=⟨_,hz,Y⟩
 unfold SE;refine O2 (RS (P_ (name:=QQ "__next__") ht QW (Qn QW ht SN ?_ (Sv _))));show Pp _ _ (field (.ref z) 2>>=_) _ _ s;refine O2 (Qd hz rfl (x:=.bool false) Y ?_);show Pp _ _ (field (.ref z) 3>>=_) _ _ s;refine O2 (Qd hz rfl (x:=.ref ti) Y ?_);refine O2 (Ql hi rfl ?_);show Pp _ _ (PH (.ref z)>>=_) _ _ s;refine O2 (MY hz ⟨oa,ha⟩ λg1 hz1 e1 sz1=>?_);obtain⟨d,hz1⟩:=hz1;simp only[Qv,Ss];rw[<- Vc];simp only[SA,SU];refine O2 (O2 (O2 (QE ?_)));show Pp _ _ (PJ (.ref j1)>>=_) _ _ { s with heap:=g1 };refine O2 ((hs1.ext e1 D.a3 D.c1).next hx λg2 i2 e2=>O5 ?_);refine O5 (O2 (O2 (QE ?_)));show Pp _ _ (PJ (.ref j2)>>=_) _ _ { s with heap:=g2 };refine O2 (((hs2.ext e1 D.a4 D.d1).ext e2.extBut D.b1.symm D.d3).next hy λg3 i3 e3=>O5 ?_);refine O5 (O5 ?_);refine O2 (Ur (hsz:=by show 2<=Pz;decide) ?_);have sz:g3.objs.size=s.heap.objs.size:=by rw[e3.1,e2.1,sz1]
 have up:∀ c o,c≠z->c≠j1->c≠j2->s.heap.get? c=M o->g3.get? c=M o:=λc o n1 n2 n3 e=>e3.extBut _ _ n3 (e2.extBut _ _ n2 (e1 _ _ n1 e))
 have z3:zM g3 z ti to (RO a) (.bool d):=e3.extBut _ _ D.a4.symm (e2.extBut _ _ D.a3.symm hz1);refine O5 ⟨_,Y,O5 ?_⟩;rw[sz];refine fin _ ⟨⟨a,d,O3 _ z3,na,nj1,nj2,oa,O3 _ (up _ _ na nj1 nj2 ha)⟩,O3 _ (up _ _ D.a1 D.a6 D.a7 hi),(i2.ext e3.extBut D.b1 D.c4).keep (λo e=>O3 _ e) (λo e=>O3 _ e),i3.keep (λo e=>O3 _ e) (λo e=>O3 _ e)⟩ ?_
  (λc o n1 n2 n3 e=>O3 _ (up c o n1 n2 n3 e)) (by rw[P',sz])
 rw[<- sz];exact O8 _ Y
theorem Kx {k:Nat} (hh:A.handled=none) (D:Kk z ti to j1 j2 q1 q2) (Z:Il b1 b2 s.heap z ti to j1 j2 q1 q2 k xs ys) (hv:xs[k]?=none)
  (fin:∀ g,(∀ c o,c≠z->c≠j1->c≠j2->s.heap.get? c=M o->g.get? c=M o)->Q none { s with heap:=g }):Pp (PX prog w) A (SE (.ref z)) Q E s:=by
 obtain⟨⟨a,c,hz,na,nj1,nj2,oa,ha⟩,hi,hs1,hs2⟩:=Z;have ht:s.TypeIs (.ref z) "zip":=⟨_,hz,Y⟩
 unfold SE;refine O2 (RS (P_ (name:=QQ "__next__") ht QW (Qn QW ht SN ?_ (Sv _))));show Pp _ _ (field (.ref z) 2>>=_) _ _ s;refine O2 (Qd hz rfl (x:=.bool false) Y ?_);show Pp _ _ (field (.ref z) 3>>=_) _ _ s;refine O2 (Qd hz rfl (x:=.ref ti) Y ?_);refine O2 (Ql hi rfl ?_);show Pp _ _ (PH (.ref z)>>=_) _ _ s;refine O2 (MY hz ⟨oa,ha⟩ λg1 hz1 e1 sz1=>?_);simp only[Qv,Ss];rw[<- Vc];simp only[SA,SU];refine O2 (O2 (O2 (QE ?_)));show Pp _ _ (PJ (.ref j1)>>=_) _ _ { s with heap:=g1 };refine O2 ((hs1.ext e1 D.a3 D.c1).stops hh hv λg2 e e2 he=>?_);obtain⟨o,h1,h2⟩:=he;exact O2 (R' (T:="StopIteration") (b:=true) ⟨o,h1,h2⟩ Uq (O5 (fin g2 λc o n1 n2 n3 u=>e2 _ _ n2 (e1 _ _ n1 u))))
end
namespace ZF
theorem noLen:WN (.type "zip") "__len__"=pure none:=by
 rw[U8,Tg]
 kernel_rfl
theorem noHint:WN (.type "zip") "__length_hint__"=pure none:=by
 rw[U8,Tg]
 kernel_rfl
end ZF
section
variable {prog:PU}{w:Qq}{A:QB}{E:O6->Pf->Prop}{s:Pf}{R:Result->Pf->Prop}
abbrev sM (its:Array O6)(n:Nat):Obj:={ cls:=.type "list",dict:=none,data:=.seq its n,slots:=#[] }
theorem p8 (h:Pp (PX prog w) A.in1 (SE (.ref I)) (fun o s1=>match o with
   |none=>R (.ok (.ret res)) s1
   |some v=>∃ its n,s1.heap.get? S=M (sM its n)/\its.size<1000/\∀ g n',g.get? S=M (sM (its.push v) n')->Qg S s1.heap g->R5 (PX prog w) A (.builtin "list.extend.loop" ⟨[.ref S,.ref I,res],[]⟩) R { s1 with heap:=g })
   (λe s'=>R (.error e) s') s):R5 (PX prog w) A (.builtin "list.extend.loop" ⟨[.ref S,.ref I,res],[]⟩) R s:=by
 refine RC PySem.F.entry_extend_loop ?_;rw[Rn SI _];show Pp _ _ (SE (.ref I)>>=_) _ _ s;refine O2 (QI h (λo s1 q=>?_) λ_ _ q=>q);cases o with
 |none=>exact O5 q
 |some v=>
  obtain⟨its,n,hS,hl,q⟩:=q;show Pp _ _ (VV S (·.push v)>>=_) _ _ _;have sl:its.size<=Pz:=PP (QD hl) (by decide);refine O2 (SH hS rfl (hz:=sl) (_hz':=by show(its.push v).size<=Pz+1;rw[Array.size_push];lia) (O5 ⟨T9 SI _,q _ _ (P7 _ hS rfl) (P6 ..)⟩))
theorem EZ {c:Nat} (hz:UP s.heap z ti to f0) (hS:s.heap.get? S=M (sM #[] c)) (hn:S ≠ z)
  (h:∀ g c',g.get? S=M (sM #[] c')->Qg S s.heap g->R5 (PX prog w) A (.builtin "list.extend.loop" ⟨[.ref S,.ref z,.none],[]⟩) R { s with heap:=g }):
  Pp (PX prog w) A.in1 (QG (.ref S) (.ref z) .none) (λfin s'=>match fin with|.done f=>R (.ok f) s'|.again c'=>c'.quiet=true/\R5 (PX prog w) A c' R s') (λe s'=>R (.error e) s') s:=by
 have ty:s.TypeIs (.ref z) "zip":=⟨_,hz,Y⟩
 unfold QG;refine O2 (WH ty ?_);have n1:Su (.ref S) (.ref z)=false:=by simp[Su,hn]
 have n2:(Q0 "zip"==Q0 "list")=false:=by decide
 have n3:(Q0 "zip"==Q0 "tuple")=false:=by decide
 simp only[n1,n2,n3,Xi,Qv,Ss];refine O2 (TF hz (O2 (QE ?_)));unfold S_;refine O2 (Tj ty ZF.noLen ?_);show Pp _ _ (specialOf (P2 z) (QQ "__length_hint__")>>=_) _ _ s;refine O2 (Tj ty ZF.noHint (O5 ?_));show Pp _ _ (rule "list.extend.makes-room">>=λ_=>V' (.ref S)>>=λ_=>again (.builtin "list.extend.loop" ⟨[.ref S,.ref z,.none],[]⟩)) _ _ s;refine O2 (SG (O2 ?_));show Pp _ _ (VV S (·.push .none)>>=λ_=>VV S (·.pop)) _ _ s;refine O2 (SH hS rfl ?_);have hS2:=P7 (QO (·.push QT)) hS rfl;refine SH (hz:=by seq_fits) hS2 rfl ?_;have hS3:=P7 (QO (·.pop)) hS2 rfl;refine O5 ⟨T9 SI _,h _ _ hS3 ?_⟩;have a1:=P6 s.heap S (QO (·.push QT));have a2:=P6 (s.heap.update S (QO (·.push QT))) S (QO (·.pop));exact⟨a2.1.trans a1.1,λb hb=>(a2.2 b hb).trans (a1.2 b hb)⟩
theorem F4 (hz:UP s.heap z ti to f0) (hS:s.heap.get? S=M (sM #[] 0)) (hn:S ≠ z)
  (h:∀ g c',g.get? S=M (sM #[] c')->Qg S s.heap g->R5 (PX prog w) A (.builtin "list.extend.loop" ⟨[.ref S,.ref z,.none],[]⟩) R { s with heap:=g }):
  Pp (PX prog w) A.in1 (Si.«list.__init__» ⟨[.ref S,.ref z],[]⟩) (λfin s'=>match fin with|.done f=>R (.ok f) s'|.again c'=>c'.quiet=true/\R5 (PX prog w) A c' R s') (λe s'=>R (.error e) s') s:=by
 show Pp _ _ (V9 (.ref S)>>=λold=>Builtin.List.listUpdate (.ref S) (λ_=>#[])>>=λ_=>letGo old.toList.reverse>>=λ_=>QG (.ref S) (.ref z) .none) _ _ s;refine O2 ?_;unfold V9;refine O2 (Ql hS rfl (O5 ?_));show Pp _ _ (VV S (λ_=>#[])>>=λ_=>letGo ([]:List O6)>>=λ_=>QG (.ref S) (.ref z) .none) _ _ s;refine O2 (SH hS rfl (O2 (Ti ?_)));have hS2:=P7 (QO (λ_=>(#[]:Array O6))) hS rfl;have a1:=P6 s.heap S (QO (λ_=>(#[]:Array O6)));refine EZ (s:={ s with heap:=s.heap.update S (QO (λ_=>(#[]:Array O6))) }) (a1.extBut _ _ hn.symm hz) hS2 hn λg c' k1 k2=>h g c' k1 ⟨k2.1.trans a1.1,λb hb=>(k2.2 b hb).trans (a1.2 b hb)⟩
theorem y6 (hz:UP s.heap z ti to f0)
  (h:∀ g c',g.get? s.heap.objs.size=M (sM #[] c')->(∀ b o,s.heap.get? b=M o->g.get? b=M o)->g.objs.size=s.heap.objs.size+1 ->
   R5 (PX prog w) A.in1 (.builtin "list.extend.loop" ⟨[.ref s.heap.objs.size,.ref z,.none],[]⟩) (λr s'=>match r with|.ok (.ret u)=>u=.none/\Q (.ref s.heap.objs.size) s'|.ok _=>False|.error e=>E e s') { s with heap:=g }) :
  Pp (PX prog w) A (call (.type "list") [.ref z]) Q E s:=by
 have hl:s.heap.objs.size≠z:=P8 (O7 hz);refine callType_codes (Q₁:=λobj s₁=>obj=.ref s.heap.objs.size/\s₁={ s with heap:=s.heap.push (sM #[] 0) }) PySem.F.called_list (PySem.F.typeCall_list_1 _) PySem.F.entry_list_init (code_list_new _ ⟨Y,Y⟩) λobj s₁ h₁=>?_
 obtain⟨rfl,rfl⟩:=h₁;have hS:(s.heap.push (sM #[] 0)).get? s.heap.objs.size=M (sM #[] 0):=O8 _ Y;refine⟨⟨_,hS,Y⟩,PySem.F.args_list_init_2 _ _,F4 (s:={ s with heap:=s.heap.push (sM #[] 0) }) (O3 _ hz) hS hl λg c' k1 k2=>?_⟩;refine Se (h g c' k1 (λb o e=>k2.extBut b o (Pr (O7 e)) (O3 _ e)) (by rw[k2.1,P'])) λr s' q=>?_
 match r,q with
 |.error e,q=>exact q
 |.ok (.ret u),q=>exact q
 |.ok .next,q=>exact q.elim
 |.ok .brk,q=>exact q.elim
 |.ok .cont,q=>exact q.elim
theorem KZ.keepAll {k:Nat}(Z:KZ b1 b2 h z ti to j1 j2 q1 q2 f0 k xs ys)(e:∀ b o,h.get? b=M o->g.get? b=M o):KZ b1 b2 g z ti to j1 j2 q1 q2 f0 k xs ys:=
 ⟨e _ _ Z.zp,e _ _ Z.pi,(let ⟨a,b,c⟩:=Z.po;⟨a,b,e _ _ c⟩),Z.s1.keep (λo c=>e _ o c) (λo c=>e _ o c),Z.s2.keep (λo c=>e _ o c) (λo c=>e _ o c)⟩
theorem Il.ext {k:Nat}(Z:Il b1 b2 h z ti to j1 j2 q1 q2 k xs ys)(e:Qg S h g)(n:S≠z/\S≠ti/\S≠j1/\S≠j2/\S≠q1/\S≠q2)(hS:∃ o,g.get? S=M o):Il b1 b2 g z ti to j1 j2 q1 q2 k xs ys:=by
 obtain⟨⟨a,c,h1,h2,h3,h4,o,h5⟩,h6,h7,h8⟩:=Z;obtain⟨n1,n2,n3,n4,n5,n6⟩:=n;refine⟨⟨a,c,e.extBut _ _ n1.symm h1,h2,h3,h4,?_⟩,e.extBut _ _ n2.symm h6,h7.ext e.extBut n3.symm n5.symm,h8.ext e.extBut n4.symm n6.symm⟩
 by_cases z:a=S
 ·rw[z];exact hS
 ·exact⟨o,e.extBut _ _ z h5⟩
theorem Hc (hh:A.handled=none) (D:Kk z ti to j1 j2 q1 q2) (Z:KZ b1 b2 s.heap z ti to j1 j2 q1 q2 .none 0 #[x0,x1,x2] #[y0,y1,y2])
  (fin:∀ g c t0 t1 t2,s.heap.objs.size<t0->t0<t1->t1<t2->g.get? s.heap.objs.size=M (sM #[.ref t0,.ref t1,.ref t2] c)->Td g t0 x0 y0->Td g t1 x1 y1->Td g t2 x2 y2 ->
   (∀ b o,b≠z->b≠to->b≠j1->b≠j2->s.heap.get? b=M o->g.get? b=M o)->Q (.ref s.heap.objs.size) { s with heap:=g }):Pp (PX prog w) A (call (.type "list") [.ref z]) Q E s:=by
 have lz:z<s.heap.objs.size:=O7 Z.zp;have lti:ti<s.heap.objs.size:=O7 Z.pi;have lto:to<s.heap.objs.size:=by obtain⟨a,b,c⟩:=Z.po;exact O7 c
 have lj1:j1<s.heap.objs.size:=by obtain⟨o,vs,c,_⟩:=Z.s1.there;exact O7 c
 have lj2:j2<s.heap.objs.size:=by obtain⟨o,vs,c,_⟩:=Z.s2.there;exact O7 c
 have lq1:q1<s.heap.objs.size:=by obtain⟨o,vs,c,_⟩:=Z.s1.src;exact O7 c
 have lq2:q2<s.heap.objs.size:=by obtain⟨o,vs,c,_⟩:=Z.s2.src;exact O7 c
 have ap:∀ {b:Po},b<s.heap.objs.size->s.heap.objs.size≠b:=λh=>P8 h
 have six:∀ {t:Po},s.heap.objs.size<=t->t≠z/\t≠to/\t≠j1/\t≠j2:=λ{t} h=>⟨P8 (Pg lz h),P8 (Pg lto h),P8 (Pg lj1 h),P8 (Pg lj2 h)⟩
 have S6:s.heap.objs.size≠z/\s.heap.objs.size≠ti/\s.heap.objs.size≠j1/\s.heap.objs.size≠j2/\s.heap.objs.size≠q1/\s.heap.objs.size≠q2:=⟨ap lz,ap lti,ap lj1,ap lj2,ap lq1,ap lq2⟩
 refine y6 Z.zp λg0 c0 hS0 up0 sz0=>p8 ?_
 have Z0:=Z.keepAll up0;obtain⟨s1,s2,s3,s4⟩:=six (Pe s.heap.objs.size);refine J6 (s:={ s with heap:=g0 }) D Z0 (x:=x0) (y:=y0) Y Y λg1 Z1 p1 up1=>⟨#[],c0,up1 _ _ s1 s2 s3 s4 hS0,by decide,λg2 n2 hS2 sb2=>p8 ?_⟩
 have l1:s.heap.objs.size<g0.objs.size:=by lia
 obtain⟨r1,r2,r3,r4⟩:=six (QD l1);have H1:Il b1 b2 g2 z ti to j1 j2 q1 q2 1 #[x0,x1,x2] #[y0,y1,y2]:=Il.ext ⟨⟨g0.objs.size,false,Z1.zp,r1,r3,r4,_,p1⟩,Z1.pi,Z1.s1,Z1.s2⟩ sb2 S6 ⟨_,hS2⟩;have q1':Td g2 g0.objs.size x0 y0:=sb2.extBut _ _ (P8 l1) p1;refine F9 (s:={ s with heap:=g2 }) D H1 (x:=x1) (y:=y1) Y Y λg3 H3 p3 up3 sz3=>⟨_,n2,up3 _ _ s1 s3 s4 hS2,(by show 1<1000;decide),λg4 n4 hS4 sb4=>p8 ?_⟩
 have l2:g0.objs.size<g2.objs.size:=O7 q1';have l2':s.heap.objs.size<g2.objs.size:=Te l1 l2;obtain⟨u1,u2,u3,u4⟩:=six (QD l2');have H4:Il b1 b2 g4 z ti to j1 j2 q1 q2 2 #[x0,x1,x2] #[y0,y1,y2]:=H3.ext sb4 S6 ⟨_,hS4⟩;have w1:Td g4 g0.objs.size x0 y0:=sb4.extBut _ _ (P8 l1) (up3 _ _ r1 r3 r4 q1');have w2:Td g4 g2.objs.size x1 y1:=sb4.extBut _ _ (P8 l2') p3;refine F9 (s:={ s with heap:=g4 }) D H4 (x:=x2) (y:=y2) Y Y λg5 H5 p5 up5 sz5=>⟨_,n4,up5 _ _ s1 s3 s4 hS4,(by show 2<1000;decide),λg6 n6 hS6 sb6=>p8 ?_⟩
 have l3:g2.objs.size<g4.objs.size:=O7 w2;have l3':s.heap.objs.size<g4.objs.size:=Te l2' l3;obtain⟨v1,v2,v3,v4⟩:=six (QD l3');have H6:Il b1 b2 g6 z ti to j1 j2 q1 q2 3 #[x0,x1,x2] #[y0,y1,y2]:=H5.ext sb6 S6 ⟨_,hS6⟩;have a1:Td g6 g0.objs.size x0 y0:=sb6.extBut _ _ (P8 l1) (up5 _ _ r1 r3 r4 w1);have a2:Td g6 g2.objs.size x1 y1:=sb6.extBut _ _ (P8 l2') (up5 _ _ u1 u3 u4 w2);have a3:Td g6 g4.objs.size x2 y2:=sb6.extBut _ _ (P8 l3') p5;refine Kx (s:={ s with heap:=g6 }) (show A.in1.in1.handled=none from hh) D H6 rfl λg7 up7=>⟨Y,?_⟩
 refine fin g7 n6 g0.objs.size g2.objs.size g4.objs.size l1 l2 l3 (up7 _ _ s1 s3 s4 hS6) (up7 _ _ r1 r3 r4 a1) (up7 _ _ u1 u3 u4 a2) (up7 _ _ v1 v3 v4 a3) λb o m1 m2 m3 m4 e=>?_
 have nb:b≠s.heap.objs.size:=Pr (O7 e);exact up7 _ _ m1 m3 m4 (sb6.extBut _ _ nb (up5 _ _ m1 m3 m4 (sb4.extBut _ _ nb (up3 _ _ m1 m3 m4 (sb2.extBut _ _ nb (up1 _ _ m1 m2 m3 m4 (up0 _ _ e)))))))
end
abbrev fk (h:Q9)(T:Po)(a b c:O6):Prop:=h.get? T=M { cls:=.type "tuple",data:=.seq #[a,b,c] }
structure L6 (b1 b2 b3:Bool)(h:Q9)(z ti to j1 j2 j3 q1 q2 q3:Po)(f0:O6)(k:Nat)(xs ys zs:Array O6):Prop where
 zp:UP h z ti to f0
 pi:fk h ti (.ref j1) (.ref j2) (.ref j3)
 po:∃ a b c,fk h to a b c
 s1:mZ b1 h j1 q1 k xs
 s2:mZ b2 h j2 q2 k ys
 s3:mZ b3 h j3 q3 k zs
structure JG (z ti to j1 j2 j3 q1 q2 q3:Po):Prop where
 a1:ti≠z
 a2:to≠z
 a3:j1≠z
 a4:j2≠z
 a5:j3≠z
 t1:ti≠to
 t2:ti≠j1
 t3:ti≠j2
 t4:ti≠j3
 u1:to≠j1
 u2:to≠j2
 u3:to≠j3
 v1:j1≠j2
 v2:j1≠j3
 v3:j2≠j3
 p1:q1≠z/\q1≠to/\q1≠j2/\q1≠j3
 p2:q2≠z/\q2≠to/\q2≠j1/\q2≠j3
 p3:q3≠z/\q3≠to/\q3≠j1/\q3≠j2
section
variable {prog:PU}{w:Qq}{A:QB}{E:O6->Pf->Prop}{s:Pf}
theorem Bx {k:Nat} (hT:fk s.heap T a b c)
  (h:∀ g,g.get? T=M { cls:=.type "tuple",data:=.seq ((#[a,b,c]:Array O6).setIfInBounds k x) }->Qg T s.heap g->Q () { s with heap:=g }):Pp (PX prog w) A (VV T (·.setIfInBounds k x)) Q E s:=by
 refine SH hT rfl (h _ ?_ (P6 ..));rw[P7 _ hT rfl];simp[QO]
theorem K3 {k:Nat} (D:JG z ti to j1 j2 j3 q1 q2 q3) (Z:L6 b1 b2 b3 s.heap z ti to j1 j2 j3 q1 q2 q3 .none k xs ys zs)
  (hx:xs[k]?=M x)(hy:ys[k]?=M y)(hv:zs[k]?=M v)
  (fin:∀ g,L6 b1 b2 b3 g z ti to j1 j2 j3 q1 q2 q3 (RO s.heap.objs.size) (k+1) xs ys zs->fk g s.heap.objs.size x y v->(∀ c o,c≠z->c≠to->c≠j1->c≠j2->c≠j3->s.heap.get? c=M o->g.get? c=M o)->Q (M (.ref s.heap.objs.size)) { s with heap:=g }):
  Pp (PX prog w) A (SE (.ref z)) Q E s:=by
 obtain⟨hz,hi,⟨pa,pb,pc,ho⟩,hs1,hs2,hs3⟩:=Z;have ht:s.TypeIs (.ref z) "zip":=⟨_,hz,Y⟩
 unfold SE;refine O2 (RS (P_ (name:=QQ "__next__") ht QW (Qn QW ht SN ?_ (Sv _))));show Pp _ _ (field (.ref z) 2>>=_) _ _ s;refine O2 (Qd hz rfl (x:=.bool false) Y ?_);show Pp _ _ (field (.ref z) 3>>=_) _ _ s;refine O2 (Qd hz rfl (x:=.ref ti) Y ?_);refine O2 (Ql hi rfl ?_);show Pp _ _ (PH (.ref z)>>=_) _ _ s;refine O2 ?_;unfold PH;refine O2 (Qd hz rfl (x:=.none) Y (O5 ?_));simp only[SK];refine O2 (SG (O2 (Qd hz rfl (x:=.ref to) Y ?_)));refine O2 (Qb hz (by simp) λg1 z1 e1=>?_);have z1:UP g1 z ti to .ellipsis:=z1;refine O2 ?_;simp only[Uz,UV,SA,SU];refine O2 (O2 (SM ?_));show Pp _ _ (PJ (.ref j1)>>=_) _ _ { s with heap:=g1 };refine O2 ((hs1.ext e1.extBut D.a3 D.p1.1).next hx λg2 i2 e2=>O5 ?_);have o2:fk g2 to pa pb pc:=e2.extBut _ _ D.u1 (e1.extBut _ _ D.a2 ho);refine O2 (Ql o2 rfl (O2 (Bx o2 λg3 o3 e3=>?_)));have o3:fk g3 to x pb pc:=o3;refine O2 (Ti (O5 ?_));refine O2 (O2 (SM ?_));show Pp _ _ (PJ (.ref j2)>>=_) _ _ { s with heap:=g3 };refine O2 ((((hs2.ext e1.extBut D.a4 D.p2.1).ext e2.extBut D.v1.symm D.p2.2.2.1).ext e3.extBut D.u2.symm D.p2.2.1).next hy λg4 i4 e4=>O5 ?_);have o4:fk g4 to x pb pc:=e4.extBut _ _ D.u2 o3;refine O2 (Ql o4 rfl (O2 (Bx o4 λg5 o5 e5=>?_)));have o5:fk g5 to x y pc:=o5;refine O2 (Ti (O5 ?_));refine O2 (O2 (SM ?_));show Pp _ _ (PJ (.ref j3)>>=_) _ _ { s with heap:=g5 };refine O2 ((((((hs3.ext e1.extBut D.a5 D.p3.1).ext e2.extBut D.v2.symm D.p3.2.2.1).ext e3.extBut D.u3.symm D.p3.2.1).ext e4.extBut D.v3.symm D.p3.2.2.2).ext e5.extBut D.u3.symm D.p3.2.1).next hv λg6 i6 e6=>O5 ?_);have o6:fk g6 to x y pc:=e6.extBut _ _ D.u3 o5;refine O2 (Ql o6 rfl (O2 (Bx o6 λg7 o7 e7=>?_)));have o7:fk g7 to x y v:=o7;refine O2 (Ti (O5 (O5 ?_)));refine O2 (Ql o7 rfl (O2 (Ur ?_)));have sz:g7.objs.size=s.heap.objs.size:=by rw[e7.1,e6.1,e5.1,e4.1,e3.1,e2.1,e1.1]
 have z7:UP g7 z ti to .ellipsis:=e7.extBut _ _ D.a2.symm (e6.extBut _ _ D.a5.symm (e5.extBut _ _ D.a2.symm (e4.extBut _ _ D.a4.symm (e3.extBut _ _ D.a2.symm (e2.extBut _ _ D.a3.symm z1)))));have k7:∀ c o,c≠z->c≠to->c≠j1->c≠j2->c≠j3->s.heap.get? c=M o->g7.get? c=M o:=λc o n1 n2 n3 n4 n5 e=>
  e7.extBut _ _ n2 (e6.extBut _ _ n5 (e5.extBut _ _ n2 (e4.extBut _ _ n4 (e3.extBut _ _ n2 (e2.extBut _ _ n3 (e1.extBut _ _ n1 e))))))
 have w1:mZ b1 g7 j1 q1 (k+1) xs:=((((i2.ext e3.extBut D.u1.symm D.p1.2.1).ext e4.extBut D.v1 D.p1.2.2.1).ext e5.extBut D.u1.symm D.p1.2.1).ext e6.extBut D.v2 D.p1.2.2.2).ext e7.extBut D.u1.symm D.p1.2.1;have w2:mZ b2 g7 j2 q2 (k+1) ys:=((i4.ext e5.extBut D.u2.symm D.p2.2.1).ext e6.extBut D.v3 D.p2.2.2.2).ext e7.extBut D.u2.symm D.p2.2.1;have w3:mZ b3 g7 j3 q3 (k+1) zs:=i6.ext e7.extBut D.u3.symm D.p3.2.1;have lz:z<g7.objs.size:=O7 z7;show Pp _ _ (Q8 (.ref z) (.ref g7.objs.size)>>=_) _ _ _;refine O2 ?_;unfold Q8;have z8:UP (g7.push { cls:=.type "tuple",data:=.seq #[x,y,v] }) z ti to .ellipsis:=O3 _ z7;refine O2 (Qb z8 (by simp) λg9 z9 e9=>?_);have z9:UP g9 z ti to (RO g7.objs.size):=z9;refine Qb z9 (by simp) λg10 z10 e10=>?_
 have z10:UP g10 z ti to (RO g7.objs.size):=z10;have up:∀ c o,c≠z->g7.get? c=M o->g10.get? c=M o:=λc o n e=>e10.extBut _ _ n (e9.extBut _ _ n (O3 _ e))
 have t10:fk g10 g7.objs.size x y v:=e10.extBut _ _ (P8 lz) (e9.extBut _ _ (P8 lz) (O8 _ Y));rw[sz] at z10 t10;refine O5 ⟨_,Y,O5 ?_⟩;show Q (M (.ref g7.objs.size)) _;rw[sz];exact fin g10 ⟨z10,up _ _ D.a1 (k7 _ _ D.a1 D.t1 D.t2 D.t3 D.t4 hi),⟨x,y,v,up _ _ D.a2 o7⟩,w1.keep (λo e=>up _ o D.a3 e) (λo e=>up _ o D.p1.1 e),w2.keep (λo e=>up _ o D.a4 e) (λo e=>up _ o D.p2.1 e),w3.keep (λo e=>up _ o D.a5 e) (λo e=>up _ o D.p3.1 e)⟩ t10
  λc o n1 n2 n3 n4 n5 e=>up c o n1 (k7 c o n1 n2 n3 n4 n5 e)
theorem LL {k:Nat} (hh:A.handled=none) (D:JG z ti to j1 j2 j3 q1 q2 q3) (Z:L6 b1 b2 b3 s.heap z ti to j1 j2 j3 q1 q2 q3 .none k xs ys zs) (hv:xs[k]?=none)
  (fin:∀ g,(∀ c o,c≠z->c≠to->c≠j1->c≠j2->c≠j3->s.heap.get? c=M o->g.get? c=M o)->Q none { s with heap:=g }):Pp (PX prog w) A (SE (.ref z)) Q E s:=by
 obtain⟨hz,hi,⟨pa,pb,pc,ho⟩,hs1,hs2,hs3⟩:=Z;have ht:s.TypeIs (.ref z) "zip":=⟨_,hz,Y⟩
 unfold SE;refine O2 (RS (P_ (name:=QQ "__next__") ht QW (Qn QW ht SN ?_ (Sv _))));show Pp _ _ (field (.ref z) 2>>=_) _ _ s;refine O2 (Qd hz rfl (x:=.bool false) Y ?_);show Pp _ _ (field (.ref z) 3>>=_) _ _ s;refine O2 (Qd hz rfl (x:=.ref ti) Y ?_);refine O2 (Ql hi rfl ?_);show Pp _ _ (PH (.ref z)>>=_) _ _ s;refine O2 ?_;unfold PH;refine O2 (Qd hz rfl (x:=.none) Y (O5 ?_));simp only[SK];refine O2 (SG (O2 (Qd hz rfl (x:=.ref to) Y ?_)));refine O2 (Qb hz (by simp) λg1 z1 e1=>?_);have z1:UP g1 z ti to .ellipsis:=z1;refine O2 ?_;simp only[Uz,UV,SA,SU];refine O2 (O2 (SM ?_));show Pp _ _ (PJ (.ref j1)>>=_) _ _ { s with heap:=g1 };refine O2 ((hs1.ext e1.extBut D.a3 D.p1.1).stops hh hv λg2 e e2 he=>?_);obtain⟨oe,m1,m2⟩:=he;have z2:UP g2 z ti to .ellipsis:=e2 _ _ D.a3.symm z1;have ne:e≠z:=λc=>by subst c;rw[z2] at m1;cases m1;simp at m2
 refine Qb z2 (by simp) λg3 _ e3=>?_
 exact O2 (R' (T:="StopIteration") (b:=true) ⟨oe,e3.extBut _ _ ne m1,m2⟩ Uq (O5 (fin g3 λc o n1 _ n3 _ _ u=>e3.extBut _ _ n1 (e2 _ _ n3 (e1.extBut _ _ n1 u)))))
end
def LA (K:KE)(b1 b2 b3:Bool)(q1 q2 q3:Po):It:=
 ⟨λi H=>∃ xs ys zs x y z,bU K H q1 xs b1/\bU K H q2 ys b2/\bU K H q3 zs b3/\xs[i]?=M x/\ys[i]?=M y/\zs[i]?=M z,
  λi H v H'=>∃ x y z T,(∀ xs,bU K H q1 xs b1->xs[i]?=M x)/\(∀ ys,bU K H q2 ys b2->ys[i]?=M y)/\(∀ zs,bU K H q3 zs b3->zs[i]?=M z)/\H T=none/\v=.ref T/\H'=upd H T (.tup [x,y,z]),
  λi H=>∃ xs ys zs,bU K H q1 xs b1/\bU K H q2 ys b2/\bU K H q3 zs b3/\xs.length<=i⟩
def M7 (z ti to j1 j2 j3 q1 q2 q3:Po)(b1 b2 b3:Bool)(k:Nat)(h:Q9):Prop:=UP h z ti to .none/\fk h ti (.ref j1) (.ref j2) (.ref j3)/\(∃ a b c,fk h to a b c)/\zT h j1 q1 k b1/\zT h j2 q2 k b2/\zT h j3 q3 k b3
structure OO (z ti to j1 j2 j3:Po):Prop where
 a1:ti≠z
 a2:to≠z
 a3:j1≠z
 a4:j2≠z
 a5:j3≠z
 t1:ti≠to
 t2:ti≠j1
 t3:ti≠j2
 t4:ti≠j3
 u1:to≠j1
 u2:to≠j2
 u3:to≠j3
 v1:j1≠j2
 v2:j1≠j3
 v3:j2≠j3
section
variable {X:Cx}{pins:List (Po×Obj)}{σ:L2.St}{H:Hp}{s:Pf}
theorem dQ (I:aJ X pins σ H s)(hq:bU X.K H q zs b)(h:∃ o ws,s.heap.get? b'=M o/\o.data=.fields ws):q≠b':=λn=>by
 obtain⟨o,ws,e,d⟩:=h;obtain⟨o',its,nn,e',d'⟩:=rl I hq;rw[n,e] at e';cases e';rw[d] at d';cases d'
theorem rq (I:aJ X pins σ H s)(hq:bU X.K H q zs b)(ho:s.heap.get? to=M { cls:=.type "tuple",data:=.seq vs })(f:oQ X pins H to):q≠to:=λn=>by
 cases b with
 |true=>
  obtain⟨its,_,⟨o',nn,e',cc,_,d'⟩,_⟩:=I.list hq;rw[n,ho] at e';cases e';simp at cc
 |false=>
  rcases hq with (hq|⟨o',hq⟩)|⟨o',its,nn,kk,_⟩
  ·rw[n,f.1] at hq;cases hq
  ·rw[n,f.1] at hq;cases hq
  ·have bb:=I.mod.kin q o' kk;rw[n] at bb;rcases f.2.2.2.1 with e|e
   ·exact I.ok.noex to o' bb e
   ·exact absurd (Pg (O7 bb) (PP I.ok.bsz e)) (Qk _)
theorem uQ {fp:List Po}{g:Q9}(I:aJ X pins σ H s)(hf:∀ b∈fp,oQ X pins H b)(k2:∀ b o,b∉fp->s.heap.get? b=M o->g.get? b=M o):aJ X pins σ H { s with heap:=g }:=by
 have nfp:∀ b u',H b=M u'->b∉fp:=λb u' e hb=>by rw[(hf b hb).1] at e;cases e
 refine I.step (g':=s.gens) (d':=s.drawn) (t':=s.toks) (ch:=fp) (λb hb=>?_) (λb o _ _ hb e _=>k2 b o hb e) (λb o _ _ hb e _=>⟨o.slots,k2 b o hb e⟩) (λ_ _ _ _ n=>n) (λb o hb e=>⟨o,k2 b o hb e⟩) (λ_ _ e=>e) (λ_ _ _ e=>e)
  (λb ps e=>⟨#[],by rw[e];simp⟩) (λm hm=>?_) (λb u' e=>?_) I.bare
 ·obtain⟨_,g1,_,g3,g4,g5⟩:=hf b hb;exact⟨g3,g1,g4,g5⟩
 ·obtain⟨o,es,ep,ho',r'⟩:=hm;exact⟨o,es,ep,k2 _ o (λn=>(hf _ n).2.1 Y) ho',r'⟩
 ·refine(I.hok b u' e).stay (λc' v' hc' q=>k2 c' v' ?_ q) (λ_ q=>q) λ_ _ q=>q
  rcases hc' with rfl|hc'
  ·exact nfp _ _ e
  ·exact nfp _ _ hc'
end
theorem Nt (h:x∉[a,b,c,d,e,f]):x≠a/\x≠b/\x≠c/\x≠d/\x≠e/\x≠f:=by
 simp only[Pq,PR,Rj,not_or] at h;exact h
theorem DQ {P:PU}{w:Qq}{K:KE}{elts:List Rz}{tk:Nat}{pos:Pos}{z ti to j1 j2 j3 q1 q2 q3:Po}{b1 b2 b3:Bool} (D:OO z ti to j1 j2 j3) :
  xR P w K (.Tuple elts tk pos) (LA K b1 b2 b3 q1 q2 q3) [z,ti,to,j1,j2,j3] z (M7 z ti to j1 j2 j3 q1 q2 q3 b1 b2 b3) where
 mem:=by simp
 obj:=λi h st b hb=>by
  obtain⟨h1,h2,⟨a,c,d,h3⟩,h4,h5,h6⟩:=st;have fld:∀ {j q:Po}{b:Bool},zT h j q i b->∃ o,h.get? j=M o/\∀ v,o.data≠.cell v:=λt=>by
   obtain⟨o,vs,e,d⟩:=t.fields;exact⟨o,e,λv u=>by rw[d] at u;cases u⟩
  simp only[Pq,PR,Rj] at hb;rcases hb with rfl|rfl|rfl|rfl|rfl|rfl
  ·exact⟨_,h1,λv e=>nomatch e⟩
  ·exact⟨_,h2,λv e=>nomatch e⟩
  ·exact⟨_,h3,λv e=>nomatch e⟩
  ·exact fld h4
  ·exact fld h5
  ·exact fld h6
 keep:=λi h h' st k=>by
  obtain⟨h1,h2,⟨a,c,d,h3⟩,h4,h5,h6⟩:=st;exact⟨k z (by simp) _ h1,k ti (by simp) _ h2,⟨a,c,d,k to (by simp) _ h3⟩,h4.keep λo e=>k j1 (by simp) o e,h5.keep λo e=>k j2 (by simp) o e,h6.keep λo e=>k j3 (by simp) o e⟩
 item:=by
  intro X hP hw hK hc i pins s σ H E I hf st hg;subst hP hw hK;obtain⟨xs,ys,zs,x,y,v,hq1,hq2,hq3,hx,hy,hv⟩:=hg;obtain⟨hz,hi,⟨a,c,d,ho⟩,t1,t2,t3⟩:=st;obtain⟨us,r1,s1⟩:=gU I hq1 t1;obtain⟨vs,r2,s2⟩:=gU I hq2 t2;obtain⟨ws,r3,s3⟩:=gU I hq3 t3;obtain⟨u,eu,ru⟩:=r1.get hx;obtain⟨u2,eu2,ru2⟩:=r2.get hy;obtain⟨u3,eu3,ru3⟩:=r3.get hv;have zf:∃ o ws,s.heap.get? z=M o/\o.data=.fields ws:=⟨_,_,hz,Y⟩
  have ft:=hf to (by simp);have AP:JG z ti to j1 j2 j3 q1 q2 q3:=⟨D.a1,D.a2,D.a3,D.a4,D.a5,D.t1,D.t2,D.t3,D.t4,D.u1,D.u2,D.u3,D.v1,D.v2,D.v3,
   ⟨dQ I hq1 zf,rq I hq1 ho ft,dQ I hq1 t2.fields,dQ I hq1 t3.fields⟩,⟨dQ I hq2 zf,rq I hq2 ho ft,dQ I hq2 t1.fields,dQ I hq2 t3.fields⟩,⟨dQ I hq3 zf,rq I hq3 ho ft,dQ I hq3 t1.fields,dQ I hq3 t2.fields⟩⟩
  refine K3 AP ⟨hz,hi,⟨a,c,d,ho⟩,s1,s2,s3⟩ (x:=u) (y:=u2) (v:=u3) (by simpa using eu) (by simpa using eu2) (by simpa using eu3) λg Z hp kk=>⟨_,Y,?_⟩
  refine VB Z.zp λg' z' sb=>?_
  have tz:s.heap.objs.size≠z:=P8 (O7 hz);have lt:∀ b∈[z,ti,to,j1,j2,j3],b<s.heap.objs.size:=λb hb=>by
   have fld:∀ {j q:Po}{b:Bool},zT s.heap j q i b->j<s.heap.objs.size:=λt=>by
    obtain⟨o,vs,e,d⟩:=t.fields;exact O7 e
   simp only[Pq,PR,Rj] at hb;rcases hb with rfl|rfl|rfl|rfl|rfl|rfl
   ·exact O7 hz
   ·exact O7 hi
   ·exact O7 ho
   ·exact fld t1
   ·exact fld t2
   ·exact fld t3
  have fp0:∀ b∈[z,ti,to,j1,j2,j3],b≠s.heap.objs.size:=λb hb=>Pr (lt b hb)
  have k2:∀ b o,b∉[z,ti,to,j1,j2,j3]->s.heap.get? b=M o->g'.get? b=M o:=λb o hb e=>by
   obtain⟨n1,n2,n3,n4,n5,n6⟩:=Nt hb;exact sb.extBut b o n1 (kk b o n1 n3 n4 n5 n6 e)
  have I1:aJ X pins σ H { s with heap:=g' }:=uQ I hf k2;have hT:g'.get? s.heap.objs.size=M { cls:=.type "tuple",data:=.seq #[u,u2,u3] }:=sb.extBut _ _ tz hp;have fT:H s.heap.objs.size=none:=I.hok.fresh (Pe _);have F:=I.fpOk (b:=s.heap.objs.size) (H':=H) (Pe _) fT;have I2:aJ X pins σ (upd H s.heap.objs.size (.tup [x,y,v])) { s with heap:=g' }:=dM I1 fT I.sz F.2.1 F.2.2.2.2.1 F.2.2.2.2.2 ⟨by show 3<=Pz;decide,[u,u2,u3],.cons ru (.cons ru2 (.cons ru3 .nil)),⟨_,hT,Y,_,Y⟩⟩;have cl:∀ {j q:Po}{b:Bool}{its:Array O6},mZ b g j q (i+1) its->j≠z->zT g' j q (i+1) b:=λ{j q b its} x n=>(C8 x).keep λo e=>sb.extBut _ _ n e
  exact⟨.ref s.heap.objs.size,_,I2,Y,⟨x,y,v,s.heap.objs.size,λxs' h'=>by rw[qj I h' hq1];exact hx,λys' h'=>by rw[qj I h' hq2];exact hy,λzs' h'=>by rw[qj I h' hq3];exact hv,fT,Y,Y⟩,
   ⟨z',sb.extBut _ _ D.a1 Z.pi,(let ⟨a',b',c',e'⟩:=Z.po;⟨a',b',c',sb.extBut _ _ D.a2 e'⟩),cl Z.s1 D.a3,cl Z.s2 D.a4,cl Z.s3 D.a5⟩,λb hb=>by rw[au (fp0 b hb)];exact(hf b hb).1⟩
 done:=by
  intro X hP hw hK hc i pins s σ H E I hf st hg;subst hP hw hK;obtain⟨xs,ys,zs,hq1,hq2,hq3,hl⟩:=hg;obtain⟨hz,hi,⟨a,c,d,ho⟩,t1,t2,t3⟩:=st;obtain⟨us,r1,s1⟩:=gU I hq1 t1;obtain⟨vs,r2,s2⟩:=gU I hq2 t2;obtain⟨ws,r3,s3⟩:=gU I hq3 t3;have l1:=r1.length;have zf:∃ o ws,s.heap.get? z=M o/\o.data=.fields ws:=⟨_,_,hz,Y⟩
  have ft:=hf to (by simp);have AP:JG z ti to j1 j2 j3 q1 q2 q3:=⟨D.a1,D.a2,D.a3,D.a4,D.a5,D.t1,D.t2,D.t3,D.t4,D.u1,D.u2,D.u3,D.v1,D.v2,D.v3,
   ⟨dQ I hq1 zf,rq I hq1 ho ft,dQ I hq1 t2.fields,dQ I hq1 t3.fields⟩,⟨dQ I hq2 zf,rq I hq2 ho ft,dQ I hq2 t1.fields,dQ I hq2 t3.fields⟩,⟨dQ I hq3 zf,rq I hq3 ho ft,dQ I hq3 t1.fields,dQ I hq3 t2.fields⟩⟩
  refine LL (I.ok.hd hc) AP ⟨hz,hi,⟨a,c,d,ho⟩,s1,s2,s3⟩ (by simp;lia) λg kk=>⟨Y,uQ I hf λb o hb e=>?_⟩
  obtain⟨n1,n2,n3,n4,n5,n6⟩:=Nt hb;exact kk b o n1 n3 n4 n5 n6 e
 self:=λ_ _ _ _ _ st h=>TF st.1 h
abbrev yA (h:Q9)(q1:Po):Q9:=h.push (y8 q1 false)
abbrev yB (h:Q9)(q1 q2:Po):Q9:=(yA h q1).push (y8 q2 true)
abbrev yC (h:Q9)(q1 q2 q3:Po):Q9:=(yB h q1 q2).push (y8 q3 true)
abbrev yD (h:Q9)(q1 q2 q3:Po):Q9:=(yC h q1 q2 q3).push { cls:=.type "tuple",data:=.seq #[.ref h.objs.size,.ref (yA h q1).objs.size,.ref (yB h q1 q2).objs.size] }
abbrev yE (h:Q9)(q1 q2 q3:Po):Q9:=(yD h q1 q2 q3).push { cls:=.type "tuple",data:=.seq #[.none,.none,.none] }
abbrev yF (h:Q9)(q1 q2 q3:Po):Q9:=(yE h q1 q2 q3).push { cls:=.type "zip",data:=.fields #[.none,.bool false,.bool false,.ref (yC h q1 q2 q3).objs.size,.ref (yD h q1 q2 q3).objs.size] }
theorem Lz (q1 q2 q3:Po) (xs ys zs:Array O6):Meets (Si.«zip.__new__» ⟨[.type "zip",.ref q1,.ref q2,.ref q3],[]⟩)
  (λ_ R s=>s.heap.IsTuple q1 xs/\s.heap.IsList q2 ys/\s.heap.IsList q3 zs/\R (.ok (.ret (.ref (yE s.heap q1 q2 q3).objs.size))) { s with heap:=yF s.heap q1 q2 q3 }):=
 .of_wp λprog w A R s h=>by
  obtain⟨hp,g,d,tk,os⟩:=s;obtain⟨h1,h2,h3,h⟩:=h;have hsub:=sub_zip;have k1:Ve (Sl ⟨hp,g,d,tk,os⟩) q1 xs:=h1;have k2:UO (Sl ⟨hp.push { cls:=.type "tuple_iterator",data:=.fields #[.ref q1,.int 0 0] },g,d,tk,os⟩) q2 ys:=Tz h2 _;have k3:UO (Sl ⟨(hp.push { cls:=.type "tuple_iterator",data:=.fields #[.ref q1,.int 0 0] }).push { cls:=.type "list_iterator",data:=.fields #[.ref q2,.int 0 0] },g,d,tk,os⟩) q3 zs:=Tz (Tz h3 _) _
  wp_walk using Sf k1,Ri k2,Ri k3
  exact⟨_,Y,h⟩
namespace ZF
theorem tc3 (a b c:O6):checkTypeCall "zip" ⟨[a,b,c],[]⟩=pure ():=by kernel_rfl
theorem nc3 (a b c:O6):checkBuiltinCall "zip.__new__" ⟨[.type "zip",a,b,c],[]⟩=pure ():=by kernel_rfl
theorem oi4 (a b c d:O6):Yj "object.__init__" ⟨[a,b,c,d],[]⟩:=by
 unfold Yj;rw[signature?_of (id:="object.__init__") (n:="__tini__".toList) (o:="tcejbo".toList) (by kernel_rfl) PySem.F.owner_object]
 kernel_rfl
end ZF
section
variable {prog:PU}{w:Qq}{A:QB}{E:O6->Pf->Prop}{s:Pf}
theorem LO (h1:s.heap.IsTuple q1 xs) (h2:s.heap.IsList q2 ys) (h3:s.heap.IsList q3 zs)
  (fin:∀ g,UP g (s.heap.objs.size+5) (s.heap.objs.size+3) (s.heap.objs.size+4) .none->fk g (s.heap.objs.size+3) (.ref s.heap.objs.size) (.ref (s.heap.objs.size+1)) (.ref (s.heap.objs.size+2)) ->
   fk g (s.heap.objs.size+4) .none .none .none->g.get? s.heap.objs.size=M (y8 q1 false)->g.get? (s.heap.objs.size+1)=M (y8 q2 true)->g.get? (s.heap.objs.size+2)=M (y8 q3 true)->(∀ c o,s.heap.get? c=M o->g.get? c=M o)->Q (.ref (s.heap.objs.size+5)) { s with heap:=g }) :
  Pp (PX prog w) A (call (.type "zip") [.ref q1,.ref q2,.ref q3]) Q E s:=by
 refine callType_new F.called_zip (by decide) (ZF.tc3 _ _ _) (ZF.nc3 _ _ _) (λobj=>ZF.oi4 obj _ _ _) F.entry_zip_new (Lz q1 q2 q3 xs ys zs) ⟨h1,h2,h3,?_⟩;have n1:(yA s.heap q1).objs.size=s.heap.objs.size+1:=P' ..;have n2:(yB s.heap q1 q2).objs.size=s.heap.objs.size+2:=by rw[P',n1]
 have n3:(yC s.heap q1 q2 q3).objs.size=s.heap.objs.size+3:=by rw[P',n2]
 have n4:(yD s.heap q1 q2 q3).objs.size=s.heap.objs.size+4:=by rw[P',n3]
 have n5:(yE s.heap q1 q2 q3).objs.size=s.heap.objs.size+5:=by rw[P',n4]
 have m6:(yF s.heap q1 q2 q3).get? (yE s.heap q1 q2 q3).objs.size=M _:=O8 _ Y;have m5:(yF s.heap q1 q2 q3).get? (yD s.heap q1 q2 q3).objs.size=M _:=O3 _ (O8 _ Y);have m4:(yF s.heap q1 q2 q3).get? (yC s.heap q1 q2 q3).objs.size=M _:=O3 _ (O3 _ (O8 _ Y));have m3:(yF s.heap q1 q2 q3).get? (yB s.heap q1 q2).objs.size=M (y8 q3 true):=O3 _ (O3 _ (O3 _ (O8 _ Y)));have m2:(yF s.heap q1 q2 q3).get? (yA s.heap q1).objs.size=M (y8 q2 true):=O3 _ (O3 _ (O3 _ (O3 _ (O8 _ Y))));have m1:(yF s.heap q1 q2 q3).get? s.heap.objs.size=M (y8 q1 false):=O3 _ (O3 _ (O3 _ (O3 _ (O3 _ (O8 _ Y)))));show _/\_;rw[n3,n4,n5] at m6;rw[n1,n2,n3] at m4;rw[n4] at m5;rw[n2] at m3;rw[n1] at m2;rw[n5];exact⟨⟨_,m6,Y⟩,fin _ m6 m4 m5 m1 m2 m3 λc o x=>O3 _ (O3 _ (O3 _ (O3 _ (O3 _ (O3 _ x)))))⟩
end
section
variable {X:Cx}{K:KE}
theorem Hs (r:aU [x,y,z] us):∃ u v w,us=[u,v,w]/\bO x u/\bO y v/\bO z w:=by
 cases r with
 |cons a r=>
  obtain⟨u,v,rfl,b,c⟩:=k9 r;exact⟨_,u,v,Y,a,b,c⟩
def Mw (K:KE)(ta:TA):TI:=λσ H R=>ta σ H λvs H1=>∃ q1 q2 q3,vs=[.ref q1,.ref q2,.ref q3]/\(∃ xs,dR K H1 q1 xs)/\(∃ ys,bK K H1 q2 ys)/\(∃ zs,bK K H1 q3 zs)/\R (LA K false true true q1 q2 q3) H1
theorem Je (hK:X.K=K) {a b c:Rz}{ta:TA}{p pos tpos:Pos}{elts:List Rz}{tk:Nat} (hg:Gl X "zip") (hm:X.mg "zip"=none) (ha:WA X [a,b,c] ta) (hs:PN [a,b,c] X.env=(false,Ts a X.env) :: PN [b,c] X.env:=by rfl) (hs2:(Tu pos (PN [b,c] X.env)).any (·.1)=false:=by rfl) :
  WI X (.Tuple elts tk tpos) (.Call (.Name "zip" p) [a,b,c] [] pos) (Mw K ta):=by
 have ha:=ha.go;refine⟨?_⟩;subst hK;intro pins s σ H R I h;refine Call_ (ig I hg hm BO (Qx (cy (ha pos pins s σ H _ I h) λus s1 ⟨vs,H1,I1,r1,q1⟩=>?_) hs hs2));obtain⟨qa,qb,qc,rfl,⟨xs,hx⟩,⟨ys,hy⟩,⟨zs,hz⟩,q⟩:=q1;obtain⟨u,v,w,rfl,ru,rv,rw'⟩:=Hs r1;cases ru;cases rv;cases rw';obtain⟨its,_,sa⟩:=jD (b:=false) I1 hx;obtain⟨jts,_,sb⟩:=jD (b:=true) I1 hy;obtain⟨kts,_,sc⟩:=jD (b:=true) I1 hz;refine LO sa sb sc λg z6 z4 z5 z1 z2 z3 kk=>?_
 refine TF z6 ?_;have io:∀ {j q:Po}{b:Bool},g.get? j=M (y8 q b)->zT g j q 0 b:=λ{j q b} e=>by cases b<;>exact⟨_,e,Y,Y⟩
 refine⟨s1.heap.objs.size+5,[s1.heap.objs.size+5,s1.heap.objs.size+3,s1.heap.objs.size+4,s1.heap.objs.size,s1.heap.objs.size+1,s1.heap.objs.size+2],_,_,H1,Y,I1.kept (t':=s1.toks) kk,
  DQ (z:=s1.heap.objs.size+5) (ti:=s1.heap.objs.size+3) (to:=s1.heap.objs.size+4) (j1:=s1.heap.objs.size) (j2:=s1.heap.objs.size+1) (j3:=s1.heap.objs.size+2)
   ⟨jA (by lia),jA (by lia),jA (by lia),jA (by lia),jA (by lia),jA (by lia),jA (by lia),jA (by lia),jA (by lia),jA (by lia),jA (by lia),jA (by lia),jA (by lia),jA (by lia),jA (by lia)⟩,⟨z6,z4,⟨_,_,_,z5⟩,io z1,io z2,io z3⟩,λb hb=>?_,q⟩
 have le:s1.heap.objs.size<=b:=by
  simp only[Pq,PR,Rj] at hb;rcases hb with e|e|e|e|e|e<;>(rw[e];lia)
 exact I1.fpOk le (I1.hok.fresh le)
theorem Gz {a1 a2 a3:Po}{x0 x1 x2 y0 y1 y2 z0 z1 z2:V}{g:TG}{tt:TT}{te:TE}{σ0:L2.St}{Fin:List V->Hp->Prop}{H1:Hp}{es:List P5} (h1:dR K H1 a1 [x0,x1,x2]) (h2:bK K H1 a2 [y0,y1,y2]) (h3:bK K H1 a3 [z0,z1,z2]) (hes:es.length=3)
  (he:∀ (i:Nat) (e:P5) (x y z:V) (T:Po) (H:Hp),es[i]?=M e->[x0,x1,x2][i]?=M x->[y0,y1,y2][i]?=M y->[z0,z1,z2][i]?=M z->ah H1 H->H T=M (.tup [x,y,z])->lq g tt te σ0 (.ref T) H λv H'=>ah H H'/\ay K H' e v)
  (hd:∀ vs H,ah H1 H->az K H es vs->Fin vs H):gf (LA K false true true a1 a2 a3) g tt te σ0 Fin H1:=by
 have sL:∀ {H H':Hp}{a:Po}{xs:List V},ah H H'->bK K H a xs->bK K H' a xs:=λe h=>bU.same (b:=true) e h
 refine⟨λi m vs H=>m=3-i/\i<=3/\ah H1 H/\az K H (es.take i) vs,⟨3,Y,Qm _,ah.refl _,.nil⟩,?_⟩;rintro i m vs H ⟨rfl,hi,s,hvs⟩;have hyl:=hvs.length;rw[P1] at hyl
 by_cases hlt:i<3
 ·have g3:∀ (a b c:V),∃ x,[a,b,c][i]?=M x:=λa b c=>⟨_,Pw (show i<[a,b,c].length from hlt)⟩
  obtain⟨x,ex⟩:=g3 x0 x1 x2;obtain⟨y,ey⟩:=g3 y0 y1 y2;obtain⟨z,ez⟩:=g3 z0 z1 z2;refine .inr ⟨⟨_,_,_,x,y,z,jZ s h1,sL s h2,sL s h3,ex,ey,ez⟩,bJ (by lia),λv H3 k3=>?_⟩;obtain⟨x',y',z',T,k1,k2,k3,kT,rfl,rfl⟩:=k3;cases O4 (ex.symm.trans (k1 _ (jZ s h1)));cases O4 (ey.symm.trans (k2 _ (sL s h2)));cases O4 (ez.symm.trans (k3 _ (sL s h3)));have hee:es[i]?=M (es[i]'(by lia)):=Pw (by lia);have sT:ah H (upd H T (.tup [x,y,z])):=ah.new kT;refine he i _ x y z T _ hee ex ey ez (s.trans sT) ag _ (λv H' ⟨s',hv⟩=>⟨3-(i+1),by lia,Y,hlt,(s.trans sT).trans s',?_⟩) λH5=>∃ m',m'<3-i/\(m'=3-(i+1)/\i+1<=3/\ah H1 H5/\az K H5 (es.take (i+1)) vs)
  rw[b8 hee];exact(az.same s' (az.same sT hvs)).snoc hv
 ·have e:i=3:=by lia
  subst e;rw[P9 (by lia)] at hvs;exact .inl ⟨⟨_,_,_,jZ s h1,sL s h2,sL s h3,Pe _⟩,cY (by lia),hd vs H s hvs⟩
def O1 (K:KE)(ta:TA):TE:=λσ H Q=>ta σ H λvs H1=>∃ q1 q2 c1 c2 x0 x1 x2 y0 y1 y2,vs=[.ref q1,.ref q2]/\bU K H1 q1 [x0,x1,x2] c1/\bU K H1 q2 [y0,y1,y2] c2 /\
 ∀ L t0 t1 t2,H1 t0=none->H1 t1=none->H1 t2=none->H1 L=none->t0≠t1->t0≠t2->t1≠t2->t0≠L->t1≠L->t2≠L->Q (.ref L) (upd (upd (upd (upd H1 t0 (.tup [x0,y0])) t1 (.tup [x1,y1])) t2 (.tup [x2,y2])) L (.lst [.ref t0,.ref t1,.ref t2]))
theorem AM (hK:X.K=K) (hc:X.calm=true) (hg:Gl X "list") (hm:X.mg "list"=none) (hg2:Gl X "zip") (hm2:X.mg "zip"=none) (ha:WA X [a,b] ta)
  (hs:PN [a,b] X.env=(false,Ts a X.env)::PN [b] X.env:=by rfl)(hs2:(Tu pos2 (PN [b] X.env)).any (·.1)=false:=by rfl)
  (hs3:PN [Expr.Call (.Name "zip" p2) [a,b] [] pos2] X.env=[(false,Ts (.Call (.Name "zip" p2) [a,b] [] pos2) X.env)]:=by rfl):
  WE X (.Call (.Name "list" p) [.Call (.Name "zip" p2) [a,b] [] pos2] [] pos) (O1 K ta):=by
 have ha:=ha.go;refine⟨?_⟩;subst hK;intro pins s σ H Q I h;refine QL (ig I hg hm gS ?_);refine Qx ?_ hs3 rfl;rw[hs3];show Pp _ _ (spliced ((false,Ts (.Call (.Name "zip" p2) [a,b] [] pos2) X.env)::[])) _ _ s;refine Vd ?_;refine Call_ (ig I hg2 hm2 BO (Qx (cy (ha pos2 pins s σ H _ I h) λus s1 ⟨vs,H1,I1,r1,q1⟩=>?_) hs hs2));obtain⟨qa,qb,d1,d2,x0,x1,x2,y0,y1,y2,rfl,hx,hy,q⟩:=q1;obtain⟨u,v,rfl,ru,rv⟩:=k9 r1;cases ru;cases rv;obtain⟨its,ra,sa⟩:=jD I1 hx;obtain⟨jts,rb,sb⟩:=jD I1 hy;obtain⟨i0,i1,i2,rfl,a0,a1,a2⟩:=Hs ra;obtain⟨k0,k1,k2,rfl,c0,c1,c2⟩:=Hs rb;refine JX sa sb λg z5 z3 z4 z1 z2 kk=>VD ?_
 have io:∀ {b:Bool}{j q:Po}{its:Array O6},g.get? j=M (y8 q b)->BB s1.heap q its b->mZ b g j q 0 its:=λ{b j q its} e h=>by
  cases b<;>(obtain⟨o,c,r⟩:=h;exact⟨⟨_,e,Y,Y⟩,⟨o,kk _ _ c,r⟩⟩)
 have lt:∀ {b:Bool}{q:Po}{its:Array O6},BB s1.heap q its b->q<s1.heap.objs.size:=λ{b q its} h=>by
  cases b<;>(obtain⟨o,c,r⟩:=h;exact O7 c)
 have la:=lt sa;have lb:=lt sb;have D:Kk (s1.heap.objs.size+4) (s1.heap.objs.size+2) (s1.heap.objs.size+3) s1.heap.objs.size (s1.heap.objs.size+1) qa qb:=
  ⟨jA (by lia),jA (by lia),jA (by lia),jA (by lia),jA (by lia),jA (by lia),jA (by lia),jA (by lia),jA (by lia),jA (by lia),jA (Pr (Pg la (by lia))),jA (Pr (Pg la (by lia))),jA (Pr (Pg la (by lia))),
   jA (Pr (Pg lb (by lia))),jA (Pr (Pg lb (by lia))),jA (Pr lb)⟩
 have lg:s1.heap.objs.size+4<g.objs.size:=O7 z5;refine Hc (s:={ s1 with heap:=g }) (I.ok.hd hc) D ⟨z5,z3,⟨_,_,z4⟩,io z1 sa,io z2 sb⟩ λg' c t0 t1 t2 h0 h1 h2 hL p0 p1 p2 up=>?_
 have h0:g.objs.size<t0:=h0;have up':∀ b o,s1.heap.get? b=M o->g'.get? b=M o:=λb o e=>by
  have l:=O7 e;exact up b o (jA (Pr (Pg l (by lia)))) (jA (Pr (Pg l (by lia)))) (jA (Pr l)) (jA (Pr (Pg l (by lia)))) (kk b o e)
 have lt0:s1.heap.objs.size<=t0:=by lia
 have lt1:s1.heap.objs.size<=t1:=PP lt0 (QD h1);have lt2:s1.heap.objs.size<=t2:=PP lt1 (QD h2);have ltL:s1.heap.objs.size<=g.objs.size:=by lia
 have n01:t0≠t1:=Pr h1;have n12:t1≠t2:=Pr h2;have n02:t0≠t2:=Pr (Te h1 h2);have n0L:t0≠g.objs.size:=P8 h0;have n1L:t1≠g.objs.size:=P8 (Te h0 h1);have n2L:t2≠g.objs.size:=P8 (Te (Te h0 h1) h2);have f0:=I1.hok.fresh lt0;have f1:=I1.hok.fresh lt1;have f2:=I1.hok.fresh lt2;have fL:=I1.hok.fresh ltL;have F0:=I1.fpOk lt0 f0;have F1:=I1.fpOk lt1 f1;have F2:=I1.fpOk lt2 f2;have FL:=I1.fpOk ltL fL;have J0:aJ X pins σ H1 { s1 with heap:=g' }:=I1.kept (t':=s1.toks) up';have J1:=dM (o:=.tup [x0,y0]) J0 f0 (PP I1.sz lt0) F0.2.1 F0.2.2.2.2.1 F0.2.2.2.2.2 ⟨by show 2<=Pz;decide,[i0,k0],.cons a0 (.cons c0 .nil),⟨_,p0,Y,_,Y⟩⟩;have J2:=dM (o:=.tup [x1,y1]) J1 (by rw[au n01.symm];exact f1) (PP I1.sz lt1) F1.2.1 F1.2.2.2.2.1 F1.2.2.2.2.2 ⟨by show 2<=Pz;decide,[i1,k1],.cons a1 (.cons c1 .nil),⟨_,p1,Y,_,Y⟩⟩;have J3:=dM (o:=.tup [x2,y2]) J2 (by rw[au n12.symm,au n02.symm];exact f2) (PP I1.sz lt2) F2.2.1 F2.2.2.2.2.1 F2.2.2.2.2.2 ⟨by show 2<=Pz;decide,[i2,k2],.cons a2 (.cons c2 .nil),⟨_,p2,Y,_,Y⟩⟩;have J4:=dM (o:=.lst [.ref t0,.ref t1,.ref t2]) J3 (by rw[au n2L.symm,au n1L.symm,au n0L.symm];exact fL) (PP I1.sz ltL) FL.2.1 FL.2.2.2.2.1 FL.2.2.2.2.2 ⟨by show 3<=Pz;decide,[.ref t0,.ref t1,.ref t2],c,.cons rfl (.cons rfl (.cons rfl .nil)),hL⟩;exact⟨.ref g.objs.size,_,J4,Y,q g.objs.size t0 t1 t2 f0 f1 f2 fL n01 n02 n12 n0L n1L n2L⟩
end
namespace ZF
theorem noFillT:fillsNumberSlot (.type "tuple") "mul"=pure false:=PySem.fillsNumberSlot_seq (id:="tuple.__mul__") (r:=M (.builtin "tuple.__rmul__")) Ub.lookup (by decide +kernel) V2.lookup (by decide +kernel)
theorem repT:seqRepeat? (.type "tuple")=pure (M (.builtin "tuple.__mul__")):=by
 unfold seqRepeat?;rw[Yb (T:="tuple") (name:="__mul__") (id:="tuple.__mul__") Ub.lookup (by decide +kernel)];rw[Yb (T:="tuple") (name:="__rmul__") (id:="tuple.__rmul__") V2.lookup (by decide +kernel)];rfl
theorem rmulT (a:Int) (t:Tok) (l:Po) (items:Array O6) (n:Nat) (dd:Option Po) (sl:Array (Option O6)) :
  Meets (Si.«int.__rmul__» ⟨[.int a t,.ref l],[]⟩) (λ_ R s=>s.heap.get? l=M ⟨.type "tuple",dd,.seq items n,sl⟩/\R (.ok (.ret Value.notImplemented)) s):=.of_wp λprog w A R s h=>by
 obtain⟨hp,g,d,tk,os⟩:=s;obtain⟨hl,h⟩:=h
 wp_walk
 exact⟨_,Y,h⟩
theorem mulT3 (t:Tok) (l:Po) (x:O6) (n:Nat) (dd:Option Po) (sl:Array (Option O6)) :
  Meets (Si.«tuple.__mul__» ⟨[.ref l,.int 3 t],[]⟩) (λ_ R s=>s.heap.get? l=M ⟨.type "tuple",dd,.seq #[x] n,sl⟩/\R (.ok (.ret (.ref s.heap.objs.size))) { s with heap:=s.heap.push { cls:=.type "tuple",data:=.seq #[x,x,x] } }):=.of_wp λprog w A R s h=>by
 obtain⟨hp,g,d,tk,os⟩:=s;obtain⟨hl,h⟩:=h;have f1:=PySem.AutoSeq1.idx_int;have f2:=PySem.AutoSeq1.sub_tuple_tuple
 wp_walk using wpAny_loadPart' hl
 exact⟨_,Y,h⟩
end ZF
section
variable {X:Cx}
def MH:R2:=λx y H Q=>∃ a z,x=.ref a/\y=.int 3/\H a=M (.tup [z])/\∀ p,H p=none->Q (.ref p) (upd H p (.tup [z,z,z]))
theorem Iy:m9 X (UJ .Mult) MH:=by
 intro pins s σ H x y v u Q I rx ry h;obtain⟨a,z,rfl,rfl,ha,q⟩:=h;cases rx;obtain⟨t,rfl⟩:=ry;obtain⟨its,r,p1,_⟩:=I.tuple (dR.of (K:=X.K) ha);obtain⟨v,rfl,rv⟩:=md r;obtain⟨o,e,c,n,d⟩:=p1;obtain⟨oc,dd,od,sl⟩:=o;simp only at c d;subst c d;refine Vz (T:="tuple") (U:="int") (by decide) ⟨_,e,Y⟩ (λs'=>WM s' 3 t) ZF.noFillT Xk T2 ZF.repT Xb.lookup
  (VS T2 (WM s 3 t) Xa (WU _ _) (ZF.rmulT 3 t a #[v] n dd sl)
   ⟨e,Y,⟨_,e,Y⟩,VS Ub ⟨_,e,Y⟩ PySem.F.entry_tuple_mul (PySem.F.args_tuple_mul_2 _ _) (ZF.mulT3 t a v n dd sl) ⟨e,?_⟩⟩)
 have hf:H s.heap.objs.size=none:=I.hok.fresh (Pe _);refine⟨.ref s.heap.objs.size,upd H s.heap.objs.size (.tup [z,z,z]),I.laid (t':=s.toks) (λb u e=>O3 _ e) (Pe _) ?_,Y,q _ hf⟩;exact⟨by show 3<=Pz;decide,[v,v,v],.cons rv (.cons rv (.cons rv .nil)),⟨_,O8 _ Y,Y,_,Y⟩⟩
end
structure En where
 w:R3
 b:R3
structure En.In (e:En):Prop where
 a0:0<=e.b.a
 a1:e.b.a<e.w.a
 a2:e.w.a<=1000
 b0:0<=e.b.b
 b1:e.b.b<e.w.b
 b2:e.w.b<=1000
 c0:0<=e.b.c
 c1:e.b.c<e.w.c
 c2:e.w.c<=1000
def T3 (K:KE)(H:Hp)(r:R3)(v:V):Prop:=∃ p,v=.ref p/\dR K H p r.vs
theorem T3.same {K:KE}{H H':Hp}{r:R3}{v:V}(s:ah H H')(h:T3 K H r v):T3 K H' r v:=by
 obtain⟨p,e,q⟩:=h;exact⟨p,e,jZ s q⟩
theorem T3.of {K:KE}{H:Hp}{r:R3}{v:V}(h:ay K H (c6 false r) v):T3 K H r v:=by
 obtain⟨a,e,q⟩:=ku h;exact⟨a,e,q⟩
def uD (K:KE)(H:Hp)(e:En)(v:V):Prop:=∃ (a C dx:Po) (x y:V),v=.ref a/\cM K "Ends" C/\H a=M (.ins C dx [("white",x),("black",y)])/\T3 K H e.w x/\T3 K H e.b y
theorem uD.same {K:KE}{H H':Hp}{e:En}{v:V}(s:ah H H')(h:uD K H e v):uD K H' e v:=by
 obtain⟨a,C,dx,x,y,e,c,h1,h2,h3⟩:=h;exact⟨a,C,dx,x,y,e,c,s _ _ h1,h2.same s,h3.same s⟩
def xU (K:KE)(H:Hp)(e:En)(L:Po):Prop:=∃ t0 t1 t2,H L=M (.lst [.ref t0,.ref t1,.ref t2])/\H t0=M (.tup [.int e.b.a,.int e.w.a])/\H t1=M (.tup [.int e.b.b,.int e.w.b])/\H t2=M (.tup [.int e.b.c,.int e.w.c])
theorem xU.same {K:KE}{H H':Hp}{e:En}{L:Po}(s:ah H H')(h:xU K H e L):xU K H' e L:=by
 obtain⟨t0,t1,t2,h1,h2,h3,h4⟩:=h;exact⟨t0,t1,t2,s _ _ h1,s _ _ h2,s _ _ h3,s _ _ h4⟩
def DN (i:Str)(b1 w1 b2 w2:Int)(q:Rat):Rat:=
 if i="same" then q else if i="white" then q*((w2:Rat)/(w1:Rat)) else if i="squeezed" then(b2:Rat)+(q+((-b1:Int):Rat))*(((w2-b2:Int):Rat)/((w1-b1:Int):Rat)) else
  if q<(b2:Rat) then(b2:Rat) else if(w2:Rat)<q then(w2:Rat) else q
theorem Gh (b1 w1 b2 w2:Int)(q:Rat):DN "same" b1 w1 b2 w2 q=q:=Qh rfl
theorem Et (b1 w1 b2 w2:Int)(q:Rat):DN "white" b1 w1 b2 w2 q=q*((w2:Rat)/(w1:Rat)):=by
 unfold DN;rw[P3 (by decide),Qh rfl]
theorem xO (b1 w1 b2 w2:Int)(q:Rat):DN "squeezed" b1 w1 b2 w2 q=(b2:Rat)+(q+((-b1:Int):Rat))*(((w2-b2:Int):Rat)/((w1-b1:Int):Rat)):=by
 unfold DN;rw[P3 (by decide),P3 (by decide),Qh rfl]
theorem Be (b1 w1 b2 w2:Int)(q:Rat):DN "clipped" b1 w1 b2 w2 q=if q<(b2:Rat) then(b2:Rat) else if(w2:Rat)<q then(w2:Rat) else q:=by
 unfold DN;rw[P3 (by decide),P3 (by decide),P3 (by decide)]
def mI:List (Str×Str):=[("same","led_same"),("white","led_by_white"),("squeezed","led_squeezed"),("clipped","led_clipped")]
theorem Bt (h:mI.lookup i=M n):(i="same"/\n="led_same")\/(i="white"/\n="led_by_white")\/(i="squeezed"/\n="led_squeezed")\/(i="clipped"/\n="led_clipped"):=by
 by_cases z1:i="same"
 ·subst z1;exact .inl ⟨Y,(O4 h).symm⟩
 by_cases z2:i="white"
 ·subst z2;exact .inr (.inl ⟨Y,(O4 h).symm⟩)
 by_cases z3:i="squeezed"
 ·subst z3;exact .inr (.inr (.inl ⟨Y,(O4 h).symm⟩))
 by_cases z4:i="clipped"
 ·subst z4;exact .inr (.inr (.inr ⟨Y,(O4 h).symm⟩))
 unfold mI at h;rw[QF,U6 z1,QF,U6 z2,QF,U6 z3,QF,U6 z4] at h;cases h
def Hl (K:KE)(i:Str):Sp:=λvs H Q _=>∃ (x y z:V) (q:Rat) (b1 w1 b2 w2:Int),vs=[x,y,z]/\ay K H (rD q) x/\Bq 600 q/\ay K H (ot b1 w1) y/\ay K H (ot b2 w2) z/\(0<=b1/\b1<w1/\w1<=1000)/\(0<=b2/\b2<w2/\w2<=1000)/\jY K H (DN i b1 w1 b2 w2 q) Q
def Mc (i:Str)(h t:En)(c:Q3):Q3:=⟨DN i h.b.a h.w.a t.b.a t.w.a c.a,DN i h.b.b h.w.b t.b.b t.w.b c.b,DN i h.b.c h.w.c t.b.c t.w.c c.c⟩
theorem rp (n:Int):rD (n:Rat)=ot n 1:=by
 show ot (n:Rat).num ((n:Rat).den:Int)=_;rw[U5,U2];rfl
theorem ul (n:Int):((n:Int):Rat)/((1:Int):Rat)=(n:Rat):=by
 have:((1:Int):Rat)=1:=Y;rw[this];grind
theorem fS {k:Nat}{n:Int}(h:Sm k n)(hk:0<k):Bq k (n:Rat):=by
 have e:=ul n;rw[<- e];refine jg (by decide) h ?_;unfold Sm;have:=Nat.one_lt_two_pow (n:=k) (by lia)
 simpa using this
theorem pW {n:Int}(h0:-1000<=n)(h:n<=1000):Sm 10 n:=by unfold Sm;lia
theorem IH {k:Nat}{q a b:Rat}(h:Bq k q)(ha:Bq k a)(hb:Bq k b):Bq k (if q<a then a else if b<q then b else q):=by
 split
 ·exact ha
 ·split
  ·exact hb
  ·exact h
theorem Fj {k:Nat}{b1 w1 b2 w2:Int}{q:Rat}(hq:Bq k q)(h1:0<=b1/\b1<w1/\w1<=1000)(h2:0<=b2/\b2<w2/\w2<=1000):Bq (k+40) (DN i b1 w1 b2 w2 q):=by
 obtain⟨a1,a2,a3⟩:=h1;obtain⟨c1,c2,c3⟩:=h2;have m:∀ {j:Nat}{r:Rat},Bq j r->j<=k+40->Bq (k+40) r:=λh l=>Ok.mono h l
 have i10:∀ {n:Int},-1000<=n->n<=1000->Bq 10 (n:Rat):=λh0 h=>fS (pW h0 h) (by decide)
 have d10:∀ {n d:Int},-1000<=n->n<=1000->0<d->d<=1000->Bq 10 ((n:Rat)/(d:Rat)):=λh0 h h3 h4=>jg (by lia) (pW h0 h) (pW (by lia) h4)
 unfold DN
 split
 ·exact m hq (by lia)
 ·split
  ·exact m (hq.mul (d10 (by lia) c3 (by lia) a3)) (by lia)
  ·split
   ·exact m (Bq.add (i10 (n:=b2) (by lia) (by lia)) ((Bq.add hq (i10 (n:=-b1) (by lia) (by lia))).mul (d10 (n:=w2-b2) (d:=w1-b1) (by lia) (by lia) (by lia) (by lia)))) (by lia)
   ·exact IH (m hq (by lia)) (m (i10 (n:=b2) (by lia) (by lia)) (by lia)) (m (i10 (n:=w2) (by lia) (by lia)) (by lia))
theorem KG {k:Nat}(hc:c.Bd k)(h1:h.In)(h2:t.In):(Mc i h t c).Bd (k+40):=
 ⟨Fj hc.a ⟨h1.a0,h1.a1,h1.a2⟩ ⟨h2.a0,h2.a1,h2.a2⟩,Fj hc.b ⟨h1.b0,h1.b1,h1.b2⟩ ⟨h2.b0,h2.b1,h2.b2⟩,Fj hc.c ⟨h1.c0,h1.c1,h1.c2⟩ ⟨h2.c0,h2.c1,h2.c2⟩⟩
theorem R3.at {r:R3}{i:Nat}{d:P5}(h:r.ds[i]?=M d):∃ n,d=.int n/\((i=0/\n=r.a)\/(i=1/\n=r.b)\/(i=2/\n=r.c)):=by
 rcases lA h with ⟨rfl,rfl⟩|⟨rfl,rfl⟩|⟨rfl,rfl⟩
 ·exact⟨_,rfl,.inl ⟨rfl,rfl⟩⟩
 ·exact⟨_,rfl,.inr (.inl ⟨rfl,rfl⟩)⟩
 ·exact⟨_,rfl,.inr (.inr ⟨rfl,rfl⟩)⟩
def NU (b w:Int)(q:Rat):Bool:=decide (b*(q.den:Int)<=q.num)&&decide (q.num<=w*(q.den:Int))
def En.has (e:En)(c:Q3):Bool:=NU e.b.a e.w.a c.a&&(NU e.b.b e.w.b c.b&&(NU e.b.c e.w.c c.c&&true))
section
variable {K:KE}{g:TG}{tt:TT}{te:TE}{σ0:L2.St}{Fin:List V->Hp->Prop}{H1:Hp}
theorem Bz {t r D:Po}{xs:List V}{Pn:Nat->Int->Prop} (tw:ci H1 t r) (hD:H1 D=M (.lst xs)) (nD:D ∉ [t,r]) (hl:xs.length <= 1000)
  (he:∀ i x H,xs[i]?=M x->ci H t r->Mv [t,r] H1 H->lq g tt te σ0 x H λy H'=>ci H' t r/\Mv [t,r] H H'/\∃ n,Pn i n/\y=.int n)
  (hd:∀ (ns:List Int) H,ns.length=xs.length->(∀ i n,ns[i]?=M n->Pn i n)->ci H t r->Mv [t,r] H1 H->Fin (ns.map V.int) H):gf (t5 K D true) g tt te σ0 Fin H1:=by
 refine⟨λi m ys H=>m=xs.length-i/\i<=xs.length/\ci H t r/\Mv [t,r] H1 H/\∃ ns:List Int,ys=ns.map V.int/\ns.length=i/\∀ j n,ns[j]?=M n->Pn j n,⟨xs.length,by lia,Qm _,tw,Mv.refl,[],rfl,rfl,λj n h=>by simp at h⟩,?_⟩;rintro i m ys H ⟨rfl,hi,tw',mv,ns,rfl,hn,hP⟩;have hq:bK K H D xs:=bK.of (mv _ _ hD nD)
 by_cases hlt:i<xs.length
 ·have go:(t5 K D true).go i H:=⟨xs,xs[i],hq,by simp[hlt]⟩
  refine .inr ⟨go,bJ (by rw[Pb];lia),λx H3 y3=>?_⟩;obtain⟨rfl,hx⟩:H3=H/\xs[i]?=M x:=⟨y3.1,y3.2 xs hq⟩
  refine he i x _ hx tw' mv _ (λy H' ⟨tw2,mv2,n,hp,ey⟩=>⟨xs.length-(i+1),by lia,rfl,hlt,tw2,mv.trans mv2,ns++[n],?_,?_,λj k hj=>?_⟩) λH5=>∃ m',m'<xs.length-i/\(m'=xs.length-(i+1)/\i+1<=xs.length/\ci H5 t r/\Mv [t,r] H1 H5/\∃ ns':List Int,ns.map V.int=ns'.map V.int/\ns'.length=i+1/\∀ j n,ns'[j]?=M n->Pn j n)
  ·rw[ey,QN];rfl
  ·rw[PV,hn];rfl
  ·by_cases hj':j<ns.length
   ·rw[Ry hj'] at hj;exact hP j k hj
   ·rw[Ro (by lia)] at hj;have:j-ns.length=0:=by
     cases z:j-ns.length with
     |zero=>rfl
     |succ k=>rw[z] at hj;cases hj
    rw[this] at hj;cases hj;rw[show j=i by lia];exact hp
 ·have e:i=xs.length:=by lia
  subst e;exact .inl ⟨⟨xs,hq,Pe _⟩,cY (by rw[Pb];lia),hd ns H hn hP tw' mv⟩
end
theorem GY {n:Int}(h:n≠0):(n:Rat)≠0:=λz=>h (Rat.intCast_eq_zero_iff.mp z)
def R3.col (r:R3):Q3:=⟨(r.a:Rat),(r.b:Rat),(r.c:Rat)⟩
section
variable {K:KE}{g:TG}{tt:TT}{te:TE}{σ0:L2.St}{Fin:List V->Hp->Prop}{H1:Hp}
theorem rS {lo:Int}{n:Nat} (Pv:Nat->List V->Hp->Prop) (h0:Pv 0 [] H1) (hl:n <= 1000) (hy:∀ i ys H,i <= n->Pv i ys H->ys.length <= i)
  (he:∀ i ys H,i<n->Pv i ys H->∀ (R:V->Hp->Prop) (S:Hp->Prop),(∀ y H',Pv (i+1) (ys++[y]) H'->R y H')->(∀ H',Pv (i+1) ys H'->S H')->g (.int (lo+i)) σ0 H λσ' H4=>tt σ' H4 λc H5=>if c=true then te σ' H5 R else S H5)
  (hd:∀ ys H,Pv n ys H->Fin ys H):gf (HH lo n) g tt te σ0 Fin H1:=by
 refine⟨λi m ys H=>m=n-i/\i<=n/\Pv i ys H,⟨n,by lia,Qm _,h0⟩,?_⟩;rintro i m ys H ⟨rfl,hi,p⟩;have hyl:=hy i ys H hi p
 by_cases hlt:i<n
 ·refine .inr ⟨hlt,bJ (by lia),λx H3 y3=>?_⟩;obtain⟨e1,e2⟩:=y3;subst e1 e2;exact he i ys _ hlt p _ _ (λy H' z=>⟨n-(i+1),by lia,Y,hlt,z⟩) (λH' z=>⟨n-(i+1),by lia,Y,hlt,z⟩)
 ·have e:i=n:=by lia
  subst e;exact .inl ⟨Pe _,cY (by lia),hd ys H p⟩
end
section
variable {K:KE}{g:TG}{tt:TT}{te:TE}{σ0:L2.St}{Fin:List V->Hp->Prop}{H1:Hp}
theorem mU (Pv:Nat->List V->Hp->Prop) (h0:Pv 0 [] H1) (hl:xs.length <= 1000) (hsrc:∀ i ys H,i <= xs.length->Pv i ys H->bU K H a xs b/\ys.length <= i)
  (he:∀ i x ys H,xs[i]?=M x->Pv i ys H->∀ (R:V->Hp->Prop) (S:Hp->Prop),(∀ y H',Pv (i+1) (ys++[y]) H'->R y H')->(∀ H',Pv (i+1) ys H'->S H')->g x σ0 H λσ' H4=>tt σ' H4 λc H5=>if c=true then te σ' H5 R else S H5)
  (hd:∀ ys H,Pv xs.length ys H->Fin ys H):gf (t5 K a b) g tt te σ0 Fin H1:=by
 refine⟨λi m ys H=>m=xs.length-i/\i<=xs.length/\Pv i ys H,⟨xs.length,by lia,Qm _,h0⟩,?_⟩;rintro i m ys H ⟨rfl,hi,p⟩;obtain⟨hq,hyl⟩:=hsrc i ys H hi p
 by_cases hlt:i<xs.length
 ·have go:(t5 K a b).go i H:=by cases b<;>exact⟨xs,xs[i],hq,by simp[hlt]⟩
  refine .inr ⟨go,bJ (by lia),λx H3 y3=>?_⟩;have e3:H3=H/\xs[i]?=M x:=by cases b<;>exact⟨y3.1,y3.2 xs hq⟩
  obtain⟨rfl,hx⟩:=e3;exact he i x ys _ hx p _ _ (λy H' z=>⟨xs.length-(i+1),by lia,Y,hlt,z⟩) (λH' z=>⟨xs.length-(i+1),by lia,Y,hlt,z⟩)
 ·have e:i=xs.length:=by lia
  subst e;have stop:(t5 K a b).stop xs.length H:=by cases b<;>exact⟨xs,hq,Pe _⟩
  exact .inl ⟨stop,cY (by lia),hd ys H p⟩
end
theorem KQ {K:KE}{H:Hp}{a:Po}{xs:List V}{i:Int}{j:Nat}{v:V}{Q:VK}(h:H a=M (.lst xs))(e:xs[j]?=M v)(hi:i=(j:Int))(q:Q v H):JR K (.ref a) (.int i) H Q:=
 .inl ⟨a,xs,_,v,Y,Y,bK.of h,by rw[hi];exact pZ e,q⟩
def KT (K:KE)(a:Po)(xs:List V):Prop:=∃ (o:Obj) (its:Array O6) (n:Nat),K.lookup a=M o/\o.cls=.type "tuple"/\o.data=.seq its n/\its.size<=Pz/\aU xs its.toList
theorem KT.sq {K:KE}{H:Hp}{a:Po}{xs:List V}(h:KT K a xs):dR K H a xs:=.inr h
theorem AN {s:Pf}{K:KE}{fd:QR}{args:Args}{binds:List (Str × O6)}{D:Po}{o:Obj}{part:Option O6}{kk:Obj->Sem (List (Str × O6))} (X:K.In s.heap) (e:K.lookup D=M o)
  (h1:QA fd args=Yd D part kk)(h2:kk o=pure binds):W' s fd args binds:=λM A E Q hq=>by
 refine(PySem.W.Looks.of_peek X ?_).here hq;rw[h1];have h2':kk o=Sem.pure binds:=h2;simp only[PySem.W.peek,e,h2']
def OP (n l m:Int):P5->Bool
 |.tuple ds=>decide ((ds.length:Int)=n)&&(ds.map (Gj l m)).all id
 |_=>false
end TR
namespace TR
open PySem PySem.Spec PyProof.Rows
def Up (xs:List Nat):Prop:=xs.Pairwise (·<·)
theorem AD (h:Up xs){i j:Nat}(hi:i<j)(hj:j<xs.length):xs[i]<xs[j]:=
 Tw.mp h i j (by lia) hj hi
theorem He {j:Nat} (h:Up xs.toList):∀ (f lo hi:Nat),hi <= xs.size->hi <= lo + f->lo <= hi ->
  (∀ i (w:i<xs.size),i<lo->xs[i]<j)->(∀ i (w:i<xs.size),hi<=i->j<=xs[i]) ->
  (∀ i (w:i<xs.size),i<Uk xs j f lo hi->xs[i]<j)/\(∀ i (w:i<xs.size),Uk xs j f lo hi<=i->j<=xs[i])/\Uk xs j f lo hi<=xs.size:=by
 intro f
 induction f with
 |zero=>
  intro lo hi h1 h2 h3 ha hb;have:lo=hi:=by lia
  subst this;exact⟨ha,hb,h1⟩
 |succ f ih=>
  intro lo hi h1 h2 h3 ha hb;unfold Uk
  split
  ·rename_i hlt
   have hm:(lo+hi)/2<xs.size:=by lia
   have hg:xs.getD ((lo+hi)/2) j=xs[(lo+hi)/2]:=by simp[XC,hm]
   dsimp only;rw[hg]
   split
   ·rename_i hc
    refine ih _ _ h1 (by lia) (by lia) (λi w hi'=>?_) hb
    by_cases e:i=(lo+hi)/2
    ·subst e;exact hc
    ·have:=AD h (i:=i) (j:=(lo+hi)/2) (by lia) (by simpa using hm);simp only[QP] at this;lia
   ·rename_i hc
    refine ih _ _ (by lia) (by lia) (by lia) ha (λi w hi'=>?_)
    by_cases e:i=(lo+hi)/2
    ·subst e;lia
    ·have:=AD h (i:=(lo+hi)/2) (j:=i) (by lia) (by simpa using w);simp only[QP] at this;lia
  ·have:lo=hi:=by lia
   subst this;exact⟨ha,hb,h1⟩
theorem uq {j:Nat} (h:Up xs.toList) :
  (∀ i (w:i<xs.size),i<Qs xs j->xs[i]<j)/\(∀ i (w:i<xs.size),Qs xs j<=i->j<=xs[i])/\Qs xs j<=xs.size:=by
 unfold Qs;exact He h _ _ _ (Pe _) (by lia) (by lia) (λi w hi=>by lia) (λi w hi=>by lia)
theorem HS {j:Nat}(h:Up xs.toList)(hj:(xs[Qs xs j]?==M j)=false):j∉xs.toList:=by
 intro hm;obtain⟨i,hi,e⟩:=QX hm;have hi':i<xs.size:=by simpa using hi
 simp only[QP] at e;obtain⟨b1,b2,b3⟩:=uq (j:=j) h;have h1:¬ i<Qs xs j:=λq=>by have:=b1 i hi' q;lia
 by_cases h2:Qs xs j=i
 ·rw[h2] at hj;simp[hi',e] at hj
 ·have h3:Qs xs j<xs.size:=by lia
  have:=b2 _ h3 (Pe _);have:=AD h (i:=Qs xs j) (j:=i) (by lia) (by simpa using hi');simp only[QP] at this;lia
theorem AT (xs:Array α)(p:Nat)(x:α):(VO xs p x).toList=xs.toList.take p++x::xs.toList.drop p:=by
 unfold VO;simp;exact P9 (by simp)
theorem wP {j:Nat}(h:Up xs.toList)(hj:j∉xs.toList):Up (VO xs (Qs xs j) j).toList:=by
 rw[AT];obtain⟨b1,b2,b3⟩:=uq (j:=j) h;unfold Up at *;rw[WZ,Rl];refine⟨h.sublist (VJ _ _),⟨λa ha=>?_,h.sublist (XF _ _)⟩,λa ha b hb=>?_⟩
 ·obtain⟨i,hi,e⟩:=QX ha;rw[XH] at e;have hi':Qs xs j+i<xs.size:=by simp only[R8,QV] at hi;lia
  have:=b2 _ hi' (by lia);simp only[QP] at e;have hne:a≠j:=λq=>hj (q▸(XF _ _).subset ha)
  lia
 ·have haj:a<j:=by
   obtain⟨i,hi,e⟩:=QX ha;rw[VI] at e;simp only[P1,QV] at hi;have:=b1 i (by lia) (by lia);simp only[QP] at e;lia
  rcases Pq.mp hb with rfl|hb
  ·exact haj
  ·obtain⟨i,hi,e⟩:=QX hb;rw[XH] at e;have hi':Qs xs j+i<xs.size:=by simp only[R8,QV] at hi;lia
   have:=b2 _ hi' (by lia);simp only[QP] at e;lia
theorem wF {t:Tr}{j:Nat}(h:Up t.place.toList)(hs:∀ i,t.slot j≠.live i):j∉t.place.toList:=by
 refine HS h ?_;cases e:(t.place[Qs t.place j]?==M j) with
 |false=>rfl
 |true=>
  refine absurd ?_ (hs (Qs t.place j));unfold SetTable.slot;dsimp only;rw[Qh e]
theorem BN {t:Tr}{ha:Nat->Int}{hh:Int} (h:Up t.place.toList):∀ (f:Nat) (p:SetTable.Probe),(∀ d,p.dummy=M d->d ∉ t.place.toList) ->
  ∀ j d,XR t ha hh f p=M (.empty j d)->d.getD j∉t.place.toList:=by
 intro f
 induction f with
 |zero=>intro p _ j d e;cases e
 |succ f ih=>
  intro p hp j d e;unfold XR at e
  split at e
  ·rename_i hs
   cases e;have:=wF h (j:=p.j) (λi=>by rw[hs];exact λq=>by cases q);cases hd:p.dummy with
   |none=>exact this
   |some d=>exact hp d hd
  ·rename_i hs
   have:=wF h (j:=p.j) (λi=>by rw[hs];exact λq=>by cases q);refine ih _ (λd hd=>?_) j d e;have hd':M p.j=M d:=by
    rw[<- hd];unfold Yc;dsimp only;split<;>rfl
   cases hd';exact this
  ·split at e
   ·cases e
   ·refine ih _ (λd hd=>hp d ?_) j d e;rw[<- hd];unfold Yc;dsimp only;split<;>rfl
theorem wN {t:Tr}{hh:Int}{slot:Nat}{dm:Bool}(h:Up t.place.toList)(e:t.freeSlot hh=M (slot,dm)):slot∉t.place.toList:=by
 unfold SetTable.freeSlot at e
 split at e
 ·rename_i j d q
  cases e;exact BN h _ _ (λd hd=>by cases hd) _ _ q
 ·cases e
def Tb (led:Bool)(t:Tr):Prop:=Up t.place.toList/\t.led=led
theorem Ij (n:Nat):Up (Array.range n).toList:=by
 rw[Array.toList_range];exact Wc
theorem kM (n:Nat)(h:Tb led t):Tb led (t.standIn n):=⟨Ij n,h.2⟩
theorem K5 {led:Bool}{t:Tr}{es:Array (Int×O6)}{hh:Int}{x:O6}(h:Tb led t):Tb led (layNew t es hh x).2.1:=by
 unfold layNew
 split
 ·rename_i slot dm e
  dsimp only;unfold SetTable.orStandIn
  split
  ·exact⟨wP h.1 (wN h.1 e),h.2⟩
  ·exact kM _ ⟨wP h.1 (wN h.1 e),h.2⟩
 ·exact kM _ h
theorem Iu {f:Nat->Option Nat}:∀ {l:List Nat},Up l->Up ((l.filterMap λj=>(f j).map (j,·)).map (·.1)):=by
 intro l
 induction l with
 |nil=>intro _;exact VG
 |cons a l ih=>
  intro h;have h':=Rl.mp h;have:=ih h'.2;rw[TK];cases e:f a with
  |none=>exact this
  |some b=>
   refine Rl.mpr ⟨λx hx=>?_,this⟩;obtain⟨y,hy,rfl⟩:=Qy.mp hx;obtain⟨j,hj,q⟩:=SZ.mp hy;cases e':f j with
   |none=>rw[e'] at q;cases q
   |some c=>rw[e'] at q;cases q;exact h'.1 j hj
theorem Fn {led:Bool}{t:Tr}{es:Array (Int×O6)}{n:Nat}(h:Tb led t):Tb led (Xx t es n).2.1:=by
 unfold Xx
 split
 ·rename_i t' order e
  dsimp only
  split
  ·unfold SetTable.relaid SetTable.laid at e;cases q:SetTable.layClean (SetTable.sizeAbove n-1) (es.map (·.1)) with
   |none=>rw[q] at e;cases e
   |some owner=>
    rw[q] at e;cases e;refine⟨?_,h.2⟩;simp only;exact Iu Wc
  ·exact kM _ h
 ·exact kM _ h
section
variable {pr:PU}{wo:Qq}{Ar:QB}{Ex:O6->Pf->Prop}{st:Pf}
def jH (pr:PU)(wo:Qq)(led:Bool)(H:Q9)(a:Po)(ks:List Int):Prop:=
 ∃ ob xs ep tb,H.get? a=M ob/\ob.ExactSet/\ob.data=.set xs ep tb/\ElemsOf (SL pr wo) xs.toList /\
  (∀ k,k∈ks↔∃ e∈xs.toList,(SL pr wo).is k e.2=true)/\xs.size<scanBound/\tb.fits xs.size=true/\xs.size=ks.length/\ks.Nodup/\Tb led tb
theorem rQ {led:Bool}{H:Q9}{a:Po}{ob:Obj}{xs ys:Array (Int × O6)}{ep:Nat}{tb tc:Tr}{ks:List Int}
  (g1:H.get? a=M ob)(g2:ob.ExactSet)(g3:ob.data=.set xs ep tb)(g4:ElemsOf (SL pr wo) ys.toList)(g5:∀ k,k∈ks↔∃ e∈ys.toList,(SL pr wo).is k e.2=true)
  (g6:ys.size<scanBound)(g7:tc.fits ys.size=true)(g8:ys.size=ks.length)(g9:ks.Nodup)(g10:Tb led tc):
  (H.update a (XM ys tc)).get? a=M { ob with data:=.set ys (ep+1) tc }/\jH pr wo led (H.update a (XM ys tc)) a ks:=by
 have e:=putSet_of ys tc g3;have q:=P7 (XM ys tc) g1 (by rw[e];rfl);rw[e] at q;exact⟨q,_,ys,ep+1,tc,q,g2,Y,g4,g5,g6,g7,g8,g9,g10⟩
theorem vC {gw:Bool->Sem Unit} (hgw:∀ (b:Bool) (u:Pf) (Q':Unit->Pf->Prop),Q' () u->Pp (PX pr wo) Ar (gw b) Q' Ex u)
  {led:Bool}{a:Po}{ob:Obj}{xs ys:Array (Int×O6)}{ep:Nat}{tb tc:Tr}{ks:List Int}
  (g1:st.heap.get? a=M ob)(g2:ob.ExactSet)(g3:ob.data=.set xs ep tb)(g4:ElemsOf (SL pr wo) ys.toList)(g5:∀ k,k∈ks↔∃ e∈ys.toList,(SL pr wo).is k e.2=true)
  (g6:ys.size<scanBound)(g7:tc.fits ys.size=true)(g8:ys.size=ks.length)(g9:ks.Nodup)(g10:Tb led tc){dm:Bool}{R:Option Bool->Pf->Prop}
  (hR:∀ H',Qg a st.heap H'->jH pr wo led H' a ks->R (M true) { st with heap:=H' }):
  Pp (PX pr wo) Ar (do
    storeSet a ys tc
    if (!dm && tc.tooFull)=true then do
      gw (Xx tc ys (SV ys.size)).2.2
      storeSet a (Xx tc ys (SV ys.size)).1 (Xx tc ys (SV ys.size)).2.1
      pure (M true)
     else pure (M true)) R Ex st:=by
 obtain⟨q1,q2⟩:=rQ g1 g2 g3 g4 g5 g6 g7 g8 g9 g10;have sb:=P6 st.heap a (XM ys tc);refine O2 (wpAny_storeSet_of g1 g3 ?_ (fits_of_scanBound g6))
 split
 ·have pm:=relayAll_perm tc ys (SV ys.size);have ft:=relayAll_fits tc ys (SV ys.size);have tr:=Fn (es:=ys) (n:=SV ys.size) g10;generalize Xx tc ys (SV ys.size)=Z at pm ft tr ⊢;obtain⟨zs,td,gv⟩:=Z;dsimp only at pm ft tr ⊢;have hz:zs.size=ys.size:=by have:=pm.length_eq;simpa using this
  refine O2 (hgw _ _ _ ?_);refine O2 (wpAny_storeSet_of q1 rfl ?_ (fits_of_scanBound (by rw[hz];exact g6)));obtain⟨_,q3⟩:=rQ (ob:={ ob with data:=.set ys (ep+1) tc }) (ks:=ks) q1 g2 rfl (g4.perm pm)
   (λk=>(g5 k).trans ⟨λ⟨e,m,i⟩=>⟨e,pm.mem_iff.mpr m,i⟩,λ⟨e,m,i⟩=>⟨e,pm.mem_iff.mp m,i⟩⟩) (by rw[hz];exact g6) ft (hz.trans g8) g9 tr
  exact O5 (hR _ (sb.trans (P6 _ a _)) q3)
 ·exact O5 (hR _ sb q2)
theorem DM {k:Int} (hu:jH pr wo led st.heap a ks) (hroom:ks.length + 1 < scanBound)
  (h:∀ H',Qg a st.heap H'->jH pr wo led H' a (if k∈ks then ks else ks++[k])->Q (!decide (k∈ks)) { st with heap:=H' }):
  Pp (PX pr wo) Ar (setAddHashed a (.int k tk) ((SL pr wo).hash k)) Q Ex st:=by
 obtain⟨ob,xs,ep,tb,g1,g2,g3,g4,g5,g6,g7,g8,g9,g10⟩:=hu;have isk:(SL pr wo).is k (.int k tk)=true:=intKind_is _ _ _ _;have sck:(SD k tk).scannable=true:=Y;have rm:xs.size+1<scanBound:=by rw[g8];exact hroom
 unfold setAddHashed setAddHashedIn;refine QE (O2 (Qz g1 g3 g7 ?_));dsimp only;rw[byScan_of (knd:=SL pr wo) sck g6 g4];simp only[↓reduceIte];unfold setAddByScan;refine O2 (O2 (SG ?_));refine O2 (wpAny_setScan_of (knd:=SL pr wo) isk g1 g3 g7 g4 ?_);cases hf:List.findIdx? (λe=>(SL pr wo).is k e.2) xs.toList with
 |some j=>
  dsimp only;obtain⟨hj,pj,_⟩:=List.findIdx?_eq_some_iff_getElem.mp hf;have hm:k∈ks:=(g5 k).mpr ⟨_,RK hj,pj⟩;have:=h st.heap (Ue a st.heap) (by rw[Qh hm];exact⟨ob,xs,ep,tb,g1,g2,g3,g4,g5,g6,g7,g8,g9,g10⟩);rw[Ph hm] at this;exact O5 (O5 this)
 |none=>
  dsimp only;have hm:k∉ks:=λq=>by
   obtain⟨e,he,hp⟩:=(g5 k).mp q;have:=List.findIdx?_eq_none_iff.mp hf e he;rw[hp] at this;cases this
  rw[P3 hm,Qf hm] at h;have pm:=layNew_perm tb xs ((SL pr wo).hash k) (.int k tk);have ft:=layNew_fits tb xs ((SL pr wo).hash k) (.int k tk);have tr:=K5 (es:=xs) (hh:=(SL pr wo).hash k) (x:=.int k tk) g10;generalize layNew tb xs ((SL pr wo).hash k) (.int k tk)=Z at pm ft tr ⊢;obtain⟨ys,tc,dm,gv⟩:=Z;dsimp only at pm ft tr ⊢;rw[XD] at pm;have hz:ys.size=xs.size+1:=by have:=pm.length_eq;simpa using this
  have e4:ElemsOf (SL pr wo) ys.toList:=(g4.push isk sck).perm pm;have e5:∀ k',k'∈ks++[k]↔∃ e∈ys.toList,(SL pr wo).is k' e.2=true:=λk'=>by
   have:=mem_push_iff (knd:=SL pr wo) (S:=λz=>decide (z∈ks)) isk (λz=>by rw[Um];exact g5 z) pm k';rw[<- this];simp
  have e9:(ks++[k]).Nodup:=XJ.mpr ⟨g9,by simp,λx hx y hy=>by
   rw[O9] at hy;subst hy;exact λq=>hm (q▸hx)⟩
  refine O2 ?_;have done:∀ (b:Bool) (u:Pf) (Q':Unit->Pf->Prop),Q' () u->Pp (PX pr wo) Ar (match b with|true=>rule "set.scan.the-table-gave-way"|false=>pure ()) Q' Ex u:=
   λb u Q' q=>by cases b<;>first|exact O5 q|exact SG q
  refine done _ _ _ ?_;have goal:∀ td:Tr,td.fits ys.size=true->Tb led td->∀ H',Qg a st.heap H'->jH pr wo led H' a (ks++[k])->Q true { st with heap:=H' }:=λ_ _ _ H' s1 s2=>h H' s1 s2
  split
  ·refine O2 ?_;rw[hashByValue_scannable 8 sck];refine O5 ?_;refine vC done (ks:=ks++[k]) g1 g2 g3 e4 e5 (by lia) (tc:=if plainKind (.int k tk)=true then tc else { tc with plain:=false }) (ft) (by simp[hz,g8]) e9 tr λH' s1 s2=>?_
   exact O5 (h H' s1 s2)
  ·refine O2 (O5 ?_);simp only[↓reduceIte];refine vC done (ks:=ks++[k]) g1 g2 g3 e4 e5 (by lia) ft (by simp[hz,g8]) e9 tr λH' s1 s2=>?_
   exact O5 (h H' s1 s2)
end
theorem uU {i:Nat}(h:xs[i]?=M x):(x::xs.eraseIdx i).Perm xs:=by
 induction xs generalizing i with
 |nil=>cases h
 |cons a xs ih=>
  cases i with
  |zero=>cases h;exact Vr _
  |succ i=>
   simp only[List.getElem?_cons_succ] at h;exact(List.Perm.swap a x _).trans ((ih h).cons a)
theorem JM (nx:Nat->Nat):∀ (f k:Nat) (left:List α) (out:Array α),f=left.length ->
  (X8 nx f k left out).toList.Perm (out.toList++left):=by
 intro f
 induction f with
 |zero=>intro k left out e;cases left with
  |nil=>simp[X8]
  |cons a l=>cases e
 |succ f ih=>
  intro k left out e;unfold X8;have hlt:nx k%left.length<left.length:=Nat.mod_lt _ (by lia);have hg:left[nx k%left.length]?=M left[nx k%left.length]:=Pw hlt;rw[hg];dsimp only;refine(ih _ _ _ (by rw[Vb hlt];lia)).trans ?_;rw[XD,Sz];exact List.Perm.append_left _ (uU hg)
theorem wH (nx:Nat->Nat)(xs:Array α):(U7 nx xs).toList.Perm xs.toList:=by
 unfold U7;have:=JM nx xs.size 0 xs.toList #[] (by simp)
 simpa using this
def lO (pl:Array Nat)(i:Nat):Nat:=if i=0 then 0 else pl.getD (i-1) 0+1
theorem vk (h:Up pl.toList){i:Nat}(hi:i<=pl.size):Qs pl (lO pl i)=i:=by
 obtain⟨b1,b2,b3⟩:=uq (j:=lO pl i) h;have lo:∀ (k:Nat) (w:k<pl.size),k<i->pl[k]<lO pl i:=λk w q=>by
  cases i with
  |zero=>lia
  |succ i=>
   have hp:i<pl.size:=by lia
   have eg:lO pl (i+1)=pl[i]+1:=by simp[lO,XC,hp]
   rw[eg]
   by_cases e:k=i
   ·subst e;lia
   ·have u:=AD h (i:=k) (j:=i) (by lia) (by simpa using hp);simp only[QP] at u;lia
 have up:∀ (k:Nat) (w:k<pl.size),i<=k->lO pl i<=pl[k]:=λk w q=>by
  cases i with
  |zero=>simp[lO]
  |succ i=>
   have hp:i<pl.size:=by lia
   have eg:lO pl (i+1)=pl[i]+1:=by simp[lO,XC,hp]
   rw[eg];have u:=AD h (i:=i) (j:=k) (by lia) (by simpa using w);simp only[QP] at u;lia
 have n1:¬ Qs pl (lO pl i)<i:=λq=>by
  have w:Qs pl (lO pl i)<pl.size:=by lia
  have x1:=lo _ w q;have x2:=b2 _ w (Pe _);lia
 have n2:¬ i<Qs pl (lO pl i):=λq=>by
  have w:i<pl.size:=by lia
  have x1:=up _ w (Pe _);have x2:=b1 _ w q;lia
 lia
theorem dN:Slot "set_iterator" "__next__" "set_iterator.__next__":=
 .of (owner:="set_iterator") (n:="__next__") (by rw[U8,Tg];kernel_rfl) (by decide +kernel) (by decide +kernel) (by decide +kernel)
  (by first|exact .inl (by decide +kernel)|exact .inr (by decide +kernel)) (by rw[isSubtype_type];kernel_rfl)
theorem lU:entryFor table "set_iterator.__next__"=M Si.«set_iterator.__next__»:=entryFor_of_fast (by kernel_rfl)
theorem nR (a:O6):Yj "set_iterator.__next__" ⟨[a],[]⟩:=by unfold Yj;kernel_rfl
theorem nU:Slot "set_iterator" "__iter__" "set_iterator.__iter__":=
 .of (owner:="set_iterator") (n:="__iter__") (by rw[U8,Tg];kernel_rfl) (by decide +kernel) (by decide +kernel) (by decide +kernel)
  (by first|exact .inl (by decide +kernel)|exact .inr (by decide +kernel)) (by rw[isSubtype_type];kernel_rfl)
theorem uL:entryFor table "set_iterator.__iter__"=M Si.«dict_keyiterator.__iter__»:=
 entryFor_alias (id':="dict_keyiterator.__iter__") (by kernel_rfl) Y (by decide +kernel) (by kernel_rfl)
theorem we (a:O6):Yj "set_iterator.__iter__" ⟨[a],[]⟩:=by unfold Yj;kernel_rfl
theorem tu:entryFor table "set.__iter__"=M Si.«frozenset.__iter__»:=
 entryFor_alias (id':="frozenset.__iter__") (by kernel_rfl) Y (by decide +kernel) (by kernel_rfl)
theorem BZ {n:Nat} (hn:n ≠ 0)
  (h:∀ i d,i<n->Q i { s with drawn:=d }):Pp zzW A (choose src n) Q E s:=λ_ _ _=>by
 show Sem.wp _ _ (Sem.choose src n Sem.pure) _ _ _ _;rw[Sem.wp_choose];exact⟨hn,h _ _ (Nat.mod_lt _ (by lia))⟩
theorem G9:∀ (n:Nat) (xs:List α) (s:Pf) (Q:List α->Pf->Prop),xs.length=n ->
  (∀ ys d,ys.Perm xs->Q ys { s with drawn:=d })->Pp zzW A (drawOrder n xs) Q E s:=by
 intro n
 induction n with
 |zero=>
  intro xs s Q hl h;cases xs with
  |nil=>exact O5 (h [] s.drawn (Vr _))
  |cons a l=>cases hl
 |succ n ih=>
  intro xs s Q hl h;cases xs with
  |nil=>cases hl
  |cons a l=>
   unfold drawOrder;refine O2 (BZ (by simp) λi d hi=>?_);have hg:(a::l)[i]?=M (a::l)[i]:=Pw hi;rw[hg];dsimp only;refine O2 (ih _ _ _ (by rw[Vb hi];simp at hl ⊢;lia) λys d' hp=>?_);exact O5 (h _ _ ((hp.cons _).trans (uU hg)))
section
variable {pr:PU}{wo:Qq}{Ar:QB}{Ex:O6->Pf->Prop}{st:Pf}
def yc (wo:Qq):Bool:=wo.params.followText "set-order"
theorem kF (h:Q (yc wo) st):Pp (PX pr wo) Ar setsByText Q Ex st:=by
 unfold setsByText;exact O2 (TD (O5 h))
def Le (wo:Qq)(H:Q9)(S T:Po)(es:Array (Int×O6))(ep:Nat)(tb:Tr)(vs:List O6)(i:Nat)(fi:O6):Prop:=
 (yc wo=true/\(∃ sl t,fi=.int sl t)/\vs=(U7 (wo.params.setOrder S ep) es).toList.map (·.2)) \/
 (yc wo=false/\(!tb.plain&&decide (es.size>1))=true/\fi=.ref T/\∃ (o:Obj) (n:Nat) (pl:List Nat),H.get? T=M o/\o.data=.seq (pl.map λj:Nat=>RO j).toArray n/\pl.Perm (Rq es.size)/\vs=pl.map λj=>(es[j]?.map (·.2)).getD .none) \/
 (yc wo=false/\(!tb.plain&&decide (es.size>1))=false/\tb.led=true/\Up tb.place.toList/\tb.place.size=es.size/\fi=.int (lO tb.place i) 0/\vs=es.toList.map (·.2))
def Jn (wo:Qq)(H:Q9)(I S T:Po)(ob:Obj)(es:Array (Int×O6))(ep:Nat)(tb:Tr)(vs:List O6)(i:Nat):Prop:=
 H.get? S=M ob/\∃ fi o,H.get? I=M o/\o.cls=.type "set_iterator"/\o.data=.fields #[fi,.int i 0,.ref S,.int es.size 0,.int ep 0]/\Le wo H S T es ep tb vs i fi
theorem zq {ep:Nat}{i:Nat}(h:Le wo H S T es ep tb vs i fi):vs.length=es.size:=by
 rcases h with ⟨_,_,rfl⟩|⟨_,_,_,_,_,pl,_,_,hp,rfl⟩|⟨_,_,_,_,_,_,rfl⟩
 ·have:=(wH (wo.params.setOrder S ep) es).length_eq;simp at this ⊢;exact this
 ·have:=hp.length_eq
  simpa using this
 ·simp
theorem FB {ep:Nat}{i:Nat}(h:Le wo H S T es ep tb vs i fi):vs.Perm (es.toList.map (·.2)):=by
 rcases h with ⟨_,_,rfl⟩|⟨_,_,_,_,_,pl,_,_,hp,rfl⟩|⟨_,_,_,_,_,_,rfl⟩
 ·exact(wH (wo.params.setOrder S ep) es).map _
 ·refine(hp.map _).trans (List.Perm.of_eq ?_);apply List.ext_getElem
  ·simp
  ·intro j h1 h2;simp at h1 ⊢;simp[h1]
 ·exact Vr _
theorem uw {H:Q9}{I S T:Po}{ob:Obj}{es:Array (Int×O6)}{ep:Nat}{tb:Tr}{vs:List O6}{i:Nat}(h:Jn wo st.heap I S T ob es ep tb vs i):st.TypeIs (.ref I) "set_iterator":=by
 obtain⟨_,_,o,h1,h2,_⟩:=h;exact⟨o,h1,h2⟩
end
section
variable {pr:PU}{wo:Qq}{Ar:QB}{Ex:O6->Pf->Prop}{st:Pf}
theorem uM {ep:Nat}{i:Nat} (h:Le wo H S T es ep tb vs i fi)
  (k:∀ o,H.get? T=M o->H'.get? T=M o):Le wo H' S T es ep tb vs i fi:=by
 rcases h with h|⟨a1,a2,a3,o,n,pl,a4,a5⟩|h
 ·exact .inl h
 ·exact .inr (.inl ⟨a1,a2,a3,o,n,pl,k _ a4,a5⟩)
 ·exact .inr (.inr h)
theorem Hy {I S T:Po}{ob:Obj}{es:Array (Int × O6)}{ep:Nat}{tb:Tr}{vs:List O6}{i:Nat}{x:O6}{Q:Option O6->Pf->Prop}
  (h:Jn wo st.heap I S T ob es ep tb vs i)(hob:ob.data=.set es ep tb)(hf:tb.fits es.size=true)(hSI:S≠I)(hTI:T≠I)(hx:vs[i]?=M x)
  (hQ:∀ H',Jn wo H' I S T ob es ep tb vs (i+1)->Qg I st.heap H'->Q (M x) { st with heap:=H' }):
  Pp (PX pr wo) Ar (SE (.ref I)) Q Ex st:=by
 have hT:=uw (st:=st) (H:=st.heap) h;obtain⟨hS,fi,o,ho,hc,hd,hw⟩:=h;unfold SE;refine O2 (RS (P_ (name:=QQ "__next__") hT dN
  (Qn dN hT lU ?_ (nR _))))
 show Pp _ _ (fieldsOf (.ref I) >>= _) _ _ st;refine O2 (VA ho hd ?_);show Pp _ _ (WL S >>= _) _ _ st;refine O2 ?_;unfold WL;refine O2 (Qz hS hob hf ?_);refine O5 ?_;dsimp only;rw [P3 (by simp)];have fin1:∀ (H1:Q9) (o1:Obj) (f1:O6),H1.get? I=M o1->o1.cls=.type "set_iterator"->o1.data=.fields #[f1,.int i 0,.ref S,.int es.size 0,.int ep 0]->Qg I st.heap H1 ->
   Le wo st.heap S T es ep tb vs (i+1) f1 ->
   Pp (PX pr wo) Ar.in1 (do setField (.ref I) 1 (RO ((i:Int)+1));ret x) (λr s'=>∃ v,r=.done (.ret v)/\Pp (PX pr wo) Ar (pure (M v)) Q Ex s') (λe s'=>Pp (PX pr wo) Ar (do if(<- WJ e (.type "StopIteration")) then pure none else throw e) Q Ex s') { st with heap:=H1 }:=by
  intro H1 o1 f1 g1 g2 g3 g4 g5;refine O2 (Sn g1 g3 (by simp) (O5 ⟨x,rfl,O5 ?_⟩));have sb:Qg I st.heap (H1.update I (Obj.mapFields (·.setIfInBounds 1 (RO ((i:Int)+1))))):=g4.trans (P6 ..);refine hQ _ ⟨?_,f1,_,P7 _ g1 (Sb (QS g3 _)),(Uh ..).trans g2,by rw[QS g3];simp[RO],?_⟩ sb
  ·rw[sb.2 S hSI];exact hS
  ·exact uM g5 λo' e=>by rw[sb.2 T hTI];exact e
 have hlen:=zq hw;have hlt:i<es.size:=by rw[<- hlen];exact(Pk.mp hx).1
 rcases hw with ⟨b1,⟨sl,t,rfl⟩,e⟩|⟨b1,b2,rfl,oT,nT,pl,b3,b4,b5,e⟩|⟨b1,b2,b3,b4,b5,rfl,e⟩
 ·show Pp _ _ (Xg S sl.toNat (SO (i:Int)) (SO (ep:Int))>>=_) _ _ st;refine O2 ?_;unfold Xg;refine O2 (Qz hS hob hf ?_);dsimp only;refine O2 (kF ?_);rw[Qh b1];simp only[Qc,VR,Qv,Ss];refine O2 ?_;unfold setWalk;refine O2 (Qz hS hob hf ?_);dsimp only;refine O2 (kF ?_);rw[Qh b1];refine O2 (TD (O5 (O5 ?_)));have hx':(U7 (wo.params.setOrder S ep) es)[i]?.map (λe=>e.2)=M x:=by
   rw[e] at hx;rw[<- hx];simp
  obtain⟨q,q1,q2⟩:=PC.mp hx';show Pp _ _ (match (U7 (wo.params.setOrder S ep) es)[i]?.map (λe=>(e.2,sl.toNat)) with|some (x,next)=>_|none=>_) _ _ _;rw[q1];dsimp only [Option.map];rw[q2];refine O2 (Sn ho hd (by simp) ?_);exact fin1 _ _ (RO (sl.toNat:Int)) (P7 _ ho (Sb (QS hd _))) ((Uh ..).trans hc) (by rw[QS hd];simp) (P6 ..) (.inl ⟨b1,⟨_,_,rfl⟩,e⟩)
 ·show Pp _ _ (Xy (.ref T)>>=_) _ _ st;refine O2 (Ql b3 b4 ?_);have hp:∃ j:Nat,pl[i]?=M j/\j<es.size:=by
   have:i<pl.length:=by rw[b5.length_eq];simpa using hlt
   exact⟨pl[i],Pw this,by simpa using (b5.mem_iff.mp (RK this))⟩
  obtain⟨j,j1,j2⟩:=hp;have hpl:(pl.map λj:Nat=>RO j).toArray[i]?=M (.int j 0):=by simp[j1,RO]
  show Pp _ _ (match (pl.map λj:Nat=>RO j).toArray[SO (i:Int)]? with|some (.int place _)=>_|some _=>_|none=>_) _ _ _;rw[Qc,hpl];dsimp only;refine O2 ?_;unfold setNextDrawn;refine O2 (Qz hS hob hf ?_);dsimp only;have hxx:es[j]?=M es[j]:=by simp[j2]
  have hxe:x=es[j].2:=by
   rw[e] at hx;simp[j1,hxx] at hx;exact hx.symm
  simp only[Qc,VR,Qv,Ss,hxx];refine O5 ?_;rw[<- hxe];exact fin1 _ _ _ ho hc hd (Ue _ _) (.inr (.inl ⟨b1,b2,rfl,oT,nT,pl,b3,b4,b5,e⟩))
 ·show Pp _ _ (Xg S (SO (lO tb.place i:Int)) (SO (i:Int)) (SO (ep:Int))>>=_) _ _ st;refine O2 ?_;unfold Xg;refine O2 (Qz hS hob hf ?_);dsimp only;refine O2 (kF ?_);rw[P3 (by rw[b1];simp)];show Pp _ _ (if(!tb.plain&&decide (es.size>1))=true then _ else _) _ _ _;rw[P3 (by rw[b2];simp)];refine O2 ?_;show Pp _ _ (if(!tb.led&&!es.isEmpty)=true then _ else(pure ():Sem Unit)) _ _ _;rw[P3 (by rw[b3];simp)];refine O5 ?_;have bs:=vk (pl:=tb.place) b4 (i:=i) (by rw[b5];lia);have p1:es[i]?=M es[i]:=by simp[hlt]
  have hlp:i<tb.place.size:=by rw[b5];exact hlt
  have p2:tb.place[i]?=M tb.place[i]:=by simp[hlp]
  have p3:x=es[i].2:=by
   rw[e] at hx;simp[hlt] at hx;exact hx.symm
  have p4:lO tb.place (i+1)=tb.place[i]+1:=by simp[lO,XC,hlp]
  simp only[Qc,bs,p1,p2];refine O5 ?_;rw[<- p3];refine O2 (Sn ho hd (by simp) ?_);exact fin1 _ _ (RO ((tb.place[i]+1:Nat):Int)) (P7 _ ho (Sb (QS hd _))) ((Uh ..).trans hc) (by rw[QS hd];simp) (P6 ..)
   (.inr (.inr ⟨b1,b2,b3,b4,b5,by rw[p4];rfl,e⟩))
end
section
variable {pr:PU}{wo:Qq}{Ar:QB}{Ex:O6->Pf->Prop}{st:Pf}
theorem IK {ep:Nat}{i:Nat} (hh:Ar.handled=none)
  (h:Jn wo st.heap I S T ob es ep tb vs i)(hob:ob.data=.set es ep tb)(hf:tb.fits es.size=true)(hx:i=vs.length)
  (hQ:∀ H',UN I st.heap H'->Q none { st with heap:=H' }):
  Pp (PX pr wo) Ar (SE (.ref I)) Q Ex st:=by
 have hT:=uw (st:=st) (H:=st.heap) h;obtain⟨hS,fi,o,ho,hc,hd,hw⟩:=h;unfold SE;refine O2 (RS (P_ (name:=QQ "__next__") hT dN
  (Qn dN hT lU ?_ (nR _))))
 show Pp _ _ (fieldsOf (.ref I) >>= _) _ _ st;refine O2 (VA ho hd ?_);show Pp _ _ (WL S >>= _) _ _ st;refine O2 ?_;unfold WL;refine O2 (Qz hS hob hf ?_);refine O5 ?_;dsimp only;rw [P3 (by simp)];have hlen:=zq hw;have fin1:∀ (H1:Q9) (o1:Obj) (f1:Array O6),H1.get? I=M o1->o1.data=.fields f1->f1.size=5->Qg I st.heap H1 ->
   Pp (PX pr wo) Ar.in1 (do setField (.ref I) 2 .none;let __do_lift <- newExc (Q0 "StopIteration") [];(raiseNew __do_lift:Sem Fin)) (λr s'=>∃ v,r=.done (.ret v)/\Pp (PX pr wo) Ar (pure (M v)) Q Ex s') (λe s'=>Pp (PX pr wo) Ar (do if(<- WJ e (.type "StopIteration")) then pure none else throw e) Q Ex s') { st with heap:=H1 }:=by
  intro H1 o1 f1 g1 g3 g4 g5;refine O2 (Sn g1 g3 (by lia) ?_);refine O2 ?_;simp only[newExc,newTuple];refine O2 (QJ ?_ (by size_fits));refine O2 (m:=Tx _ _) (Xh (a:=QT) (by first|rfl|(simp only[Tx];rfl)) ?_);refine QJ ?_ (by size_fits);simp only[raiseNew];refine O2 (XA ?_);rw[show Ar.in1.handled=none from hh];refine O2 (O5 (wpAny_throw ?_));refine O2 (R' (T:="StopIteration") (b:=true) ⟨_,O8 _ rfl,rfl⟩ Uq ?_);exact O5 (hQ _ (((g5.trans (P6 ..)).extBut.push _).push _))
 rcases hw with ⟨b1,⟨sl,t,rfl⟩,e⟩|⟨b1,b2,rfl,oT,nT,pl,b3,b4,b5,e⟩|⟨b1,b2,b3,b4,b5,rfl,e⟩
 ·show Pp _ _ (Xg S sl.toNat (SO (i:Int)) (SO (ep:Int))>>=_) _ _ st;refine O2 ?_;unfold Xg;refine O2 (Qz hS hob hf ?_);dsimp only;refine O2 (kF ?_);rw[Qh b1];simp only[Qc,VR,Qv,Ss];refine O2 ?_;unfold setWalk;refine O2 (Qz hS hob hf ?_);dsimp only;refine O2 (kF ?_);rw[Qh b1];refine O2 (TD (O5 (O5 ?_)));have q1:(U7 (wo.params.setOrder S ep) es)[i]?=none:=by
   have:vs.length=(U7 (wo.params.setOrder S ep) es).size:=by rw[e];simp
   rw[Array.getElem?_eq_none_iff];lia
  show Pp _ _ (match (U7 (wo.params.setOrder S ep) es)[i]?.map (λe=>(e.2,sl.toNat)) with|some (x,next)=>_|none=>_) _ _ _;rw[q1];dsimp only [Option.map];exact fin1 st.heap o _ ho hd rfl (Ue _ _)
 ·show Pp _ _ (Xy (.ref T)>>=_) _ _ st;refine O2 (Ql b3 b4 ?_);have hpl:(pl.map λj:Nat=>RO j).toArray[i]?=none:=by
   have:vs.length=pl.length:=by rw[e];simp
   simp;lia
  show Pp _ _ (match (pl.map λj:Nat=>RO j).toArray[SO (i:Int)]? with|some (.int place _)=>_|some _=>_|none=>_) _ _ _;rw[Qc,hpl];dsimp only;refine O2 (Sn ho hd (by simp) ?_);exact fin1 _ _ _ (P7 _ ho (Sb (QS hd _))) (QS hd _) (by simp) (P6 ..)
 ·show Pp _ _ (Xg S (SO (lO tb.place i:Int)) (SO (i:Int)) (SO (ep:Int))>>=_) _ _ st;refine O2 ?_;unfold Xg;refine O2 (Qz hS hob hf ?_);dsimp only;refine O2 (kF ?_);rw[P3 (by rw[b1];simp)];show Pp _ _ (if(!tb.plain&&decide (es.size>1))=true then _ else _) _ _ _;rw[P3 (by rw[b2];simp)];refine O2 ?_;show Pp _ _ (if(!tb.led&&!es.isEmpty)=true then _ else(pure ():Sem Unit)) _ _ _;rw[P3 (by rw[b3];simp)];refine O5 ?_;have bs:=vk (pl:=tb.place) b4 (i:=i) (by rw[b5];lia);have p1:es[i]?=none:=by simp;lia
  simp only[Qc,bs,p1];refine O5 ?_;exact fin1 st.heap o _ ho hd rfl (Ue _ _)
theorem GC {ep:Nat}{i:Nat}
  (h:Jn wo st.heap I S T ob es ep tb vs i)(hQ:Q (.ref I) st):Pp (PX pr wo) Ar (Xv (.ref I)) Q Ex st:=by
 have hT:=uw (st:=st) (H:=st.heap) h;refine VW hT nU (Qn nU hT uL ?_ (we _));show Pp _ _ (ret (.ref I)) _ _ st;exact O5 ⟨_,rfl,"set_iterator",_,hT,dN.lookup,hQ⟩
theorem AQ {ep:Nat}{i:Nat} (h:Jn wo H I S T ob es ep tb vs i)
  (k:∀ b∈[I,S,T],∀ o,H.get? b=M o->H'.get? b=M o):Jn wo H' I S T ob es ep tb vs i:=by
 obtain⟨hS,fi,o,ho,hc,hd,hw⟩:=h;exact⟨k S (by simp) _ hS,fi,o,k I (by simp) _ ho,hc,hd,uM hw λo' e=>k T (by simp) _ e⟩
theorem Em {ep:Nat} (hh:Ar.handled=none)
  (hob:ob.data=.set es ep tb)(hf:tb.fits es.size=true)(hSI:S≠I)(hTI:T≠I):
  Walks pr wo Ar I [I,S,T] [I] vs.length (λi v=>vs[i]?=M v) (λi H=>Jn wo H I S T ob es ep tb vs i) where
 sub:=λb hb=>by simp at hb;simp[hb]
 frame:=λ_ _ _ st hk=>AQ st hk
 item:=λi s Q E hi st hQ=>by
  have hx:vs[i]?=M vs[i]:=by simp[hi]
  refine Hy st hob hf hSI hTI hx λh' hit' hs'=>?_
  exact hQ _ h' s.toks hx hit' λb o hb e=>hs'.extBut b o (λh=>hb (by simp[h])) e
 done:=λs Q E st hQ=>IK hh st hob hf rfl λh' he'=>hQ h' s.toks λb o hb e=>he' b o (λh=>hb (by simp[h])) e
 self:=λ_ _ _ _ st hQ=>GC st hQ
end
section
variable {pr:PU}{wo:Qq}{Ar:QB}{Ex:O6->Pf->Prop}{st:Pf}
theorem FD {H:Q9}{S:Po}{ob:Obj}(hS:st.heap.get? S=M ob)(hx:ob.ExactSet):st.TypeIs (.ref S) "set":=⟨ob,hS,hx.1⟩
theorem FT {S:Po}{ob:Obj}{es:Array (Int × O6)}{ep:Nat}{tb:Tr}{Q:O6->Pf->Prop} (hS:st.heap.get? S=M ob) (hx:ob.ExactSet)
  (hob:ob.data=.set es ep tb)(hf:tb.fits es.size=true)(ht:Tb (!yc wo) tb)(hsz:es.size<scanBound)
  (hQ:∀ (I T:Po) (H':Q9) (d:Drawn) (vs:List O6),Jn wo H' I S T ob es ep tb vs 0->T≠I->S≠I->st.heap.objs.size<=I->(∀ b o,st.heap.get? b=M o->H'.get? b=M o) ->
   (∀ b∈[I,S,T],b<H'.objs.size)->st.heap.objs.size<=H'.objs.size->(T=S\/st.heap.objs.size<=T)->Q (.ref I) { st with heap:=H',drawn:=d }) :
  Pp (PX pr wo) Ar (Xv (.ref S)) Q Ex st:=by
 have hT:=FD (st:=st) (H:=st.heap) hS hx;refine VW hT F.slot_set_iter (Qn F.slot_set_iter hT tu ?_ (F.args_set_iter_1 _));unfold Si.«frozenset.__iter__»;have hlS:S<st.heap.objs.size:=O7 hS;have hpl:tb.place.size=es.size:=by
  unfold SetTable.fits at hf;simp at hf;exact hf.1
 show Pp _ _ (VC S >>= _) _ _ st;refine O2 ?_;unfold VC WL;refine O2 (O2 (Qz hS hob hf (O5 (O5 ?_))));dsimp only;have fin:∀ (fi:O6) (s1:Pf) (T:Po) (vs:List O6),s1.heap.get? S=M ob->(∀ b o,st.heap.get? b=M o->s1.heap.get? b=M o)->Le wo s1.heap S T es ep tb vs 0 fi->T < s1.heap.objs.size->st.heap.objs.size <= s1.heap.objs.size ->
   (T=S\/st.heap.objs.size<=T)->(∃ (g:Q9) (d:Drawn),s1={ st with heap:=g,drawn:=d }) ->
   Pp (PX pr wo) Ar.in1 (do let __do_lift <- setEpoch S;let __do_lift <- newFields "set_iterator" [fi,RO 0,.ref S,RO es.size,RO __do_lift];ret __do_lift)
    (λr s'=>∃ v,r=.done (.ret v)/\∃ T' r,s'.TypeIs v T'/\WN (.type T') "__next__"=pure (M r)/\Q v s') Ex s1:=by
  intro fi s1 T vs h1 h2 h3 h4 h5 h6 ⟨g,d,h7⟩;subst h7;unfold setEpoch;refine O2 (O2 (Qz h1 hob hf (O5 ?_)));dsimp only;refine O2 (QJ (O5 ⟨_,Y,"set_iterator",_,⟨_,O8 _ Y,Y⟩,dN.lookup,?_⟩));have h4:T<g.objs.size:=h4;have h5:st.heap.objs.size<=g.objs.size:=h5;refine hQ g.objs.size T _ d vs ⟨O3 _ h1,fi,_,O8 _ Y,Y,Y,uM h3 λo e=>O3 _ e⟩ (Pr h4) (Pr (Pg hlS h5)) h5
   (λb o e=>O3 _ (h2 b o e)) (λb hb=>?_) (by rw[P'];exact Nat.le_succ_of_le h5) h6
  rw[P'];simp only[Pq,PR,Rj] at hb;rcases hb with rfl|rfl|rfl
  ·exact Rc _
  ·exact To (Pg hlS h5)
  ·exact To h4
 refine O2 ?_;unfold setDrawn;refine O2 (Qz hS hob hf ?_);dsimp only;refine O2 (kF (O5 ?_));show Pp _ _ (if(!yc wo&&(!tb.plain&&decide (es.size>1)))=true then _ else _) _ _ _;cases b1:yc wo with
 |true=>
  simp only[Bool.not_true,Tv,Qv,Ss];refine O2 (O5 ?_);exact fin (RO 0) st S _ hS (λ_ _ e=>e) (.inl ⟨b1,⟨_,_,Y⟩,Y⟩) hlS (Pe _) (.inl rfl) ⟨_,_,Y⟩
 |false=>
  cases b2:(!tb.plain&&decide (es.size>1)) with
  |false=>
   simp only[W2,Qv,Ss];refine O2 (O5 ?_);refine fin (RO 0) st S _ hS (λ_ _ e=>e) (.inr (.inr ⟨b1,b2,?_,ht.1,hpl,Y,Y⟩)) hlS (Pe _) (.inl rfl) ⟨_,_,Y⟩;rw[ht.2,b1];rfl
  |true=>
   simp only[Bool.not_false,UE,SK];refine O2 (G9 es.size (Rq es.size) _ _ XI λys d hp=>?_);refine O2 (Ur ?_ (by rw[Pb,hp.length_eq,XI];unfold scanBound at hsz;rw[QU];lia));refine fin (.ref st.heap.objs.size) _ st.heap.objs.size _ (O3 _ hS) (λ_ _ e=>O3 _ e) (.inr (.inl ⟨b1,b2,Y,_,0,ys,O8 _ Y,Y,hp,Y⟩))
    (by rw[P'];exact Rc _) (by rw[P'];exact UW _) (.inr (Pe _)) ⟨_,_,Y⟩
end
section
variable {pr:PU}{wo:Qq}{Ar:QB}{Ex:O6->Pf->Prop}{st:Pf}
theorem GU (hT:st.TypeIs (.ref S) "set")(h:Q false st):Pp (PX pr wo) Ar (S_ (.ref S)) Q Ex st:=by
 unfold S_;refine O2 (Tj hT F.slot_set_len.lookup ?_);show Pp _ _ (WJ (.ref S) (.type "set")>>=_) _ _ _;refine O2 (R' hT sub_set_self ?_);refine wpAny_ite_split (λhab=>absurd hab (by decide)) (λ_=>?_);refine wpAny_ite_split (λ_=>?_) (λhab=>absurd (by decide +kernel) hab);refine O2 (WH hT ?_);exact O5 h
theorem BH (h:ItemsOf (λi v=>vs[i]?=M v) acc vs.length):acc.toList=vs:=by
 apply XG;intro i;cases e:acc.toList[i]? with
 |none=>
  rw[Vs] at e;have:=h.1
  symm
  rw[Vs];simp at e;lia
 |some v=>exact(h.2 i v (by simpa using e)).symm
theorem zX {ep:Nat} (hh:Ar.handled=none) (hS:st.heap.get? S=M ob) (hx:ob.ExactSet)
  (hob:ob.data=.set es ep tb)(hf:tb.fits es.size=true)(ht:Tb (!yc wo) tb)(hsz:es.size<scanBound)
  (hQ:∀ (g:Q9) (d:Drawn) (tk:Nat) (vs:List O6),(∀ b o,st.heap.get? b=M o->g.get? b=M o)->st.heap.objs.size<g.objs.size->st.toks<=tk->vs.Perm (es.toList.map (·.2))->Q vs { st with heap:=g,drawn:=d,toks:=tk }):
  Pp (PX pr wo) Ar (collect (.ref S)) Q Ex st:=by
 have hlS:S<st.heap.objs.size:=O7 hS;unfold collect;refine O2 (W6 (RC F.entry_proto_collect ?_));rw[Rn F.plain_proto_collect _];show Pp _ Ar.in1 (newList []>>=λl=>again (.builtin "list.__iadd__" ⟨[l,.ref S],[]⟩)) _ _ st;refine O2 (QJ ?_);refine O5 ⟨T9 VE _,RC F.entry_list_iadd ?_⟩;rw[Rn VE _];show Pp _ Ar.in1 (QG (.ref st.heap.objs.size) (.ref S) (.ref st.heap.objs.size)) _ _ _;unfold QG;have hS1:(st.heap.push { cls:=.type "list",data:=.seq ([]:List O6).toArray }).get? S=M ob:=O3 _ hS;have hL1:(st.heap.push { cls:=.type "list",data:=.seq ([]:List O6).toArray }).get? st.heap.objs.size=M { cls:=.type "list",data:=.seq ([]:List O6).toArray }:=O8 _ Y;have hsz1:(st.heap.push { cls:=.type "list",data:=.seq ([]:List O6).toArray }).objs.size=st.heap.objs.size+1:=P' _ _;have up1:∀ b o,st.heap.get? b=M o->(st.heap.push { cls:=.type "list",data:=.seq ([]:List O6).toArray }).get? b=M o:=λb o e=>O3 _ e
 generalize st.heap.push { cls:=.type "list",data:=.seq ([]:List O6).toArray }=g1 at hS1 hL1 hsz1 up1 ⊢;refine O2 (WH (T:="set") ⟨ob,hS1,hx.1⟩ ?_);have hSL:st.heap.objs.size≠S:=P8 hlS;have h1:Su (.ref st.heap.objs.size) (.ref S)=false:=by simp[Su,hSL]
 have h2:(Q0 "set"==Q0 "list")=false:=by decide
 have h3:(Q0 "set"==Q0 "tuple")=false:=by decide
 simp only[h1,h2,h3,Xi,Qv,Ss];refine O2 (FT (st:={ st with heap:=g1 }) hS1 hx hob hf ht hsz λI T g2 d vs ws hTI hSI hI up2 lt2 kO hT2=>?_);refine O2 (QE (GU ⟨ob,ws.1,hx.1⟩ ?_));have hlen:vs.length=es.size:=by obtain⟨_,_,_,_,_,_,hw⟩:=ws;exact zq hw
 have hper:vs.Perm (es.toList.map (·.2)):=by obtain⟨_,_,_,_,_,_,hw⟩:=ws;exact FB hw
 show Pp _ Ar.in1 (rule "list.extend.makes-room">>=λ_=>V' (.ref st.heap.objs.size)>>=λ_=>
  again (.builtin "list.extend.loop" ⟨[.ref st.heap.objs.size,.ref I,.ref st.heap.objs.size],[]⟩)) _ _ _
 refine O2 (SG ?_);have hI':st.heap.objs.size+1<=I:=by rw[<- hsz1];exact hI
 have hLI:st.heap.objs.size≠I:=Pr hI';have hLT:st.heap.objs.size≠T:=by
  rcases hT2 with rfl|q
  ·exact hSL
  ·have q:g1.objs.size<=T:=q;rw[hsz1] at q;exact Pr q
 have hSf:st.heap.objs.size∉[I,S,T]:=by simp[hLI,hSL,hLT]
 have hS2:=up2 _ _ hL1;refine O2 ?_;show Pp _ Ar.in1 (VV st.heap.objs.size (·.push .none)>>=λ_=>VV st.heap.objs.size (·.pop)) _ _ _;refine O2 (SH hS2 rfl ?_);have hS₂:=P7 (QO (·.push QT)) hS2 rfl;refine SH hS₂ rfl ?_;have hS₃:=P7 (QO (·.pop)) hS₂ rfl;have oth:∀ b o,b≠st.heap.objs.size->g2.get? b=M o->((g2.update st.heap.objs.size (QO (·.push QT))).update st.heap.objs.size (QO (·.pop))).get? b=M o:=
  λb o hb e=>(Q6 _ _ (RZ hb)).trans ((Q6 _ _ (RZ hb)).trans e)
 have W:=(Em (pr:=pr) (wo:=wo) (Ar:=Ar.in1) (I:=I) (S:=S) (T:=T) (ep:=ep) (tb:=tb) (vs:=vs) (by simp[hh]) hob hf hSI hTI).toS;refine O5 ⟨T9 SI _,codeAny_extend_loopS W (by rw[hlen,QU];unfold scanBound at hsz;lia) _ hSf _ vs.length 0 _ _ _ Y (Qm _)
  (AQ ws λb hb o e=>oth b o (λq=>hSf (q▸hb)) e) hS₃ (ItemsOf.nil _) λs' acc' c' hm hS' hacc=>?_⟩
 show Pp _ Ar (load st.heap.objs.size>>=_) _ _ s';refine O2 (wpAny_load hS' ?_);refine O5 ?_;rw[BH hacc];obtain⟨g3,gn,dn,tk,os⟩:=s';have e1:gn=st.gens:=hm.gens;have e2:dn=d:=hm.drawn;have e3:os=st.os:=hm.os;subst e1;subst e2;subst e3;refine hQ g3 dn tk vs (λb o e=>?_) (O7 hS') hm.toks hper;have lb:=O7 e;have nb:b≠st.heap.objs.size:=Pr lb;have nI:b≠I:=Pr (Pg lb (Tn hI'));exact hm.heap b o (by simp[nb,nI]) (oth b o nb (up2 b o (up1 b o e)))
end
theorem Jq:∀ {ks ns:List Int},ks.Nodup->(∀ k∈ks,k∈ns)->ns.length=ks.length->ns.Perm ks:=by
 intro ks
 induction ks with
 |nil=>intro ns _ _ hl;cases ns with
  |nil=>exact Vr _
  |cons a l=>cases hl
 |cons k ks ih=>
  intro ns hn hm hl;have hk:=hm k (by simp);have pe:=List.perm_cons_erase hk;have hn':=Q_.mp hn;refine pe.trans ((ih hn'.2 (λx hx=>?_) ?_).cons k)
  ·have:=hm x (Pj _ hx);exact(List.mem_erase_of_ne (λe:x=k=>hn'.1 (e▸hx))).mpr this
  ·have:=pe.length_eq;simp at this hl;lia
theorem Jp:∀ {vs:List O6},(∀ v∈vs,∃ k t,v=.int k t)->∃ ns,Sy vs ns/\ns.length=vs.length/\∀ k t,SD k t∈vs->k∈ns:=by
 intro vs
 induction vs with
 |nil=>intro _;exact⟨[],.nil,Y,λ_ _ h=>by cases h⟩
 |cons v vs ih=>
  intro h;obtain⟨k,t,rfl⟩:=h v (by simp);obtain⟨ns,a1,a2,a3⟩:=ih λw hw=>h w (Pj _ hw)
  refine⟨k::ns,.cons k t a1,by simp[a2],λk' t' hk=>?_⟩;rcases Pq.mp hk with e|e
  ·cases e;simp
  ·exact Pj _ (a3 _ _ e)
theorem lf {n:Nat}(ho:h.get? a=M (TX "list" vs.toArray n)):∃ m,(XU h a vs out).get? a=M (TX "list" out m):=by
 have ha:=O7 ho;unfold XU;have e1:=get?_update_seq ho (λ_=>#[]);have e2:(((h.update a (QO λ_=>#[])).push (TX "tuple" vs.toArray 0)).push (TX "list" #[] 0)).get? a=_:=O3 _ (O3 _ e1);exact⟨_,get?_update_seq e2 (λ_=>out)⟩
theorem j5 (hb:a≠b)(e:h.get? b=M o):(XU h a vs out).get? b=M o:=by
 unfold XU;rw[Q6 _ _ hb];exact O3 _ (O3 _ ((Q6 _ _ hb).trans e))
section
variable {pr:PU}{wo:Qq}{Ar:QB}{Ex:O6->Pf->Prop}{st:Pf}
theorem CA (hh:Ar.handled=none) (hu:jH pr wo (!yc wo) st.heap S ks) (h64:ks.length < 64)
  (h:∀ (L:Po) (g:Q9) (d:Drawn) (tk:Nat) (its:Array O6) (ns:List Int) (n:Nat),st.heap.objs.size<=L->g.get? L=M (TX "list" its n)->Sy its.toList ns->ns.Perm ks->ns.Pairwise (·<=·) ->
   (∀ b o,st.heap.get? b=M o->g.get? b=M o)->st.toks<=tk->Q (.ref L) { st with heap:=g,drawn:=d,toks:=tk }) :
  Pp (PX pr wo) Ar (call (.builtin "sorted") [.ref S]) Q Ex st:=by
 obtain⟨ob,xs,ep,tb,g1,g2,g3,g4,g5,g6,g7,g8,g9,g10⟩:=hu;refine Vn kind_sorted plain_sorted entry_sorted (args_sorted1 _) ?_;unfold Si.«sorted»;refine O2 (m:=checkCount "sorted" 1 1 _) (O5 ?_);refine O2 (zX (by simp[hh]) g1 g2 g3 g7 g10 g6 λg d tk vs up le lt hp=>?_);refine O2 (XB ?_ (by rw[hp.length_eq,QU];simp;lia));have hv:∀ v∈vs,∃ k t,v=SD k t:=λv hv=>by
  obtain⟨e,he,rfl⟩:=Qy.mp (hp.mem_iff.mp hv);obtain⟨⟨k,q,_⟩,_⟩:=g4 e he;obtain⟨t,q'⟩:=VP q;exact⟨k,t,q'⟩
 obtain⟨ns,i1,i2,i3⟩:=Jp hv;have hl:vs.length=ks.length:=by rw[hp.length_eq];simp[g8]
 have hns:ns.Perm ks:=Jq g9 (λk hk=>by
  obtain⟨e,he,q⟩:=(g5 k).mp hk;obtain⟨t,q'⟩:=VP q;exact i3 k t (q'▸hp.mem_iff.mpr (Qy.mpr ⟨e,he,Y⟩))) (by lia)
 have hoL:(g.push (TX "list" vs.toArray 0)).get? g.objs.size=M (TX "list" vs.toArray 0):=O8 _ Y;refine O2 (QE (Qn slot_list_sort ⟨_,hoL,Y⟩ entry_list_sort (list_sort_tree hoL i1 (by lia) λout ns' a1 a2 a3=>⟨_,Y,?_⟩) (args_list_sort _)));obtain⟨m,hm⟩:=lf (out:=out) hoL;refine O5 ⟨_,Y,h g.objs.size _ d tk out ns' m (QD le) hm a1 (a2.trans hns) a3 (λb o e=>?_) lt⟩;exact j5 (P8 (O7 (up b o e))) (O3 _ (up b o e))
end
def met (ns:List Int):List Int:=ns.foldl (λks k=>if k∈ks then ks else ks++[k]) []
theorem Ih (ns:List Int)(k:Int):met (ns++[k])=if k∈met ns then met ns else met ns++[k]:=by
 unfold met;rw[VH];rfl
theorem zd (ns:List Int):(met ns).length<=ns.length:=by
 have go:∀ (ns ks:List Int),(ns.foldl (λks k=>if k∈ks then ks else ks++[k]) ks).length<=ks.length+ns.length:=by
  intro ns
  induction ns with
  |nil=>intro ks;exact Pe _
  |cons a ns ih=>
   intro ks;refine PP (ih _) ?_;dsimp only
   split<;>simp<;>lia
 have:=go ns []
 simpa [met] using this
theorem JF (ns:List Int)(x:Int):x∈met ns↔x∈ns:=by
 have go:∀ (ns ks:List Int),x∈ns.foldl (λks k=>if k∈ks then ks else ks++[k]) ks↔x∈ks\/x∈ns:=by
  intro ns
  induction ns with
  |nil=>intro ks;simp
  |cons a ns ih=>
   intro ks;rw[List.foldl_cons,ih]
   split
   ·rename_i h
    constructor
    ·rintro(q|q)
     ·exact .inl q
     ·exact .inr (Pj _ q)
    ·rintro(q|q)
     ·exact .inl q
     ·rcases Pq.mp q with rfl|q
      ·exact .inl h
      ·exact .inr q
   ·simp only[Qe,Pq,PR,Rj,or_assoc]
 rw[met,go];simp
section
variable {pr:PU}{wo:Qq}{Ar:QB}{Ex:O6->Pf->Prop}{st:Pf}
theorem u7 (h:jH pr wo led H a ks)(k:∀ o,H.get? a=M o->H'.get? a=M o):jH pr wo led H' a ks:=by
 obtain⟨ob,xs,ep,tb,g1,r⟩:=h;exact⟨ob,xs,ep,tb,k _ g1,r⟩
theorem G_ (hh:Ar.handled=none) (hlI:l ≠ I) (hSI:S ≠ I) (hSl:S ≠ l) (hi:Sy its.toList ns) (hb:ns.length + 1 < scanBound)
  (hR:∀ g tk,jH pr wo led g S (met ns)->(∀ b o,b≠S->b≠I->st.heap.get? b=M o->g.get? b=M o)->st.toks<=tk->R (.ok (.ret .none)) { st with heap:=g,toks:=tk }):
  ∀ (k i:Nat) (g:Q9) (tk:Nat),ns.length-i=k->i<=ns.length->g.IsListIter I l i->g.IsList l its->jH pr wo led g S (met (ns.take i)) ->
   (∀ b o,b≠S->b≠I->st.heap.get? b=M o->g.get? b=M o)->st.toks<=tk ->
   R5 (PX pr wo) Ar (.builtin "set.update.loop" ⟨[.ref S,.ref I],[]⟩) R { st with heap:=g,toks:=tk }:=by
 have hlen:its.toList.length=ns.length:=IntsAre.length hi;have hsz:its.size=ns.length:=by simpa using hlen
 intro k
 induction k with
 |zero=>
  intro i g tk hk hi' hit hl hu up le;have hin:i=ns.length:=by lia
  refine RC VZ ?_;rw[Rn T1 _];show Pp _ Ar.in1 (SE (.ref I)>>=_) _ _ _;refine O2 (wpAny_pyNext_list_end (by simp[hh]) hit hl (by simp;lia) λg' ext=>?_);rw[hin,SQ] at hu;exact O5 (hR g' tk (u7 hu λo e=>ext S o hSI e) (λb o h1 h2 e=>ext b o h2 (up b o h1 h2 e)) le)
 |succ k ih=>
  intro i g tk hk hi' hit hl hu up le;have hlt:i<ns.length:=by lia
  obtain⟨v,hv⟩:∃ v,its[i]?=M v:=⟨its[i]'(by lia),by simp[hsz,hlt]⟩
  obtain⟨t,rfl⟩:=IntsAre.int_at hi i v (by rw[S8];exact hv);refine RC VZ ?_;rw[Rn T1 _];show Pp _ Ar.in1 (SE (.ref I)>>=_) _ _ _;refine O2 (Wf hit hl hv λg' hit' sb=>?_);show Pp _ Ar.in1 (holding [SD (ns.getD i 0) t] (setAdd S (.int (ns.getD i 0) t))>>=_) _ _ _;refine O2 (QE ?_);unfold setAdd;refine QE (O2 ((SL pr wo).pyHash (k:=ns.getD i 0) (intKind_is _ _ _ _) ?_));have hu':jH pr wo led g' S (met (ns.take i)):=u7 hu λo e=>by rw[sb.2 S hSI];exact e
  have hroom:(met (ns.take i)).length+1<scanBound:=by
   have:=zd (ns.take i);rw[P1] at this;lia
  refine DM hu' hroom λg2 sb2 hu2=>?_
  have et:met (ns.take (i+1))=if ns.getD i 0∈met (ns.take i) then met (ns.take i) else met (ns.take i)++[ns.getD i 0]:=by
   rw[<- Ih]
   congr 1
   rw[List.take_succ];simp[hlt,List.getD]
  rw[<- et] at hu2;refine O5 ⟨T9 T1 _,ih (i+1) g2 (tk+1) (by lia) hlt ?_ ?_ hu2 (λb o h1 h2 e=>?_) (Nat.le_succ_of_le le)⟩
  ·obtain⟨o,q,r⟩:=hit';exact⟨o,by rw[sb2.2 I (RZ hSI)];exact q,r⟩
  ·obtain⟨o,q,r⟩:=hl;exact⟨o,by rw[sb2.2 l (RZ hSl)];rw[show g'.get? l=g.get? l from sb.2 l hlI];exact q,r⟩
  ·rw[sb2.2 b h1];show g'.get? b=M o;rw[sb.2 b h2];exact up b o h1 h2 e
theorem DT (a:O6)
  (h:Q₁ (.ref st.heap.objs.size) { st with heap:=st.heap.push { cls:=.type "set",dict:=none,data:=.set #[] 0 (.fresh 0 0 (!yc wo)) } }):
  R5 (PX pr wo) Ar (.call (.builtin "set.__new__") ⟨[.type "set",a],[]⟩) (wants Q₁ Ex) st:=by
 refine Wy ?_;show Pp _ Ar.in1 (do checkBuiltinCall "set.__new__" ⟨[.type "set",a],[]⟩;again (.builtin "set.__new__" ⟨[.type "set",a],[]⟩)) _ _ st;refine O2 (Xh (F.newCall_set_1 a) (O5 ⟨T9 F.plain_set_new _,RC F.entry_set_new ?_⟩));rw[Rn F.plain_set_new _];unfold Si.«set.__new__» Builtin.Frozenset.newClass;have hsub:=sub_set_self;dsimp only
 wp_walk
 refine TD (O5 ?_);dsimp only;simp only[newObj];refine O2 (wpAny_alloc (O5 ?_));exact O5 h
theorem AL (h:H.get? a=M { cls:=.type "set",dict:=none,data:=.set #[] 0 (.fresh 0 0 led) }):jH pr wo led H a []:=
 ⟨_,#[],0,_,h,⟨Y,Y,Y⟩,Y,λe he=>by simp at he,λk=>by simp,by decide,by cases led<;>decide,Y,Vt,VG,Y⟩
end
section
variable {pr:PU}{wo:Qq}{Ar:QB}{Ex:O6->Pf->Prop}{st:Pf}
theorem F_ (hh:Ar.handled=none) (hl:st.heap.IsList l its) (hi:Sy its.toList ns) (hb:ns.length + 1 < scanBound)
  (h:∀ (g:Q9) (tk:Nat),jH pr wo (!yc wo) g st.heap.objs.size (met ns)->(∀ b o,st.heap.get? b=M o->g.get? b=M o)->st.toks<=tk->Q (.ref st.heap.objs.size) { st with heap:=g,toks:=tk }):
  Pp (PX pr wo) Ar (call (.type "set") [.ref l]) Q Ex st:=by
 obtain⟨c,tl,hmro⟩:=Ta.mro;have hmade:=Ta.made;have hsub:=Ta.sub;refine UL (Wy ?_);show Pp _ _ (callAny (.type "set") _) _ _ _;refine O5 ⟨Xj _ (by decide +kernel),RC F.entry_type_call ?_⟩;rw[Around.under_plain (weight_type_call_type "set" [.ref l] []) Y];have h1:=Ta.notType;have h2:=Ta.canCreate;have hct:=F.typeCall_set_1 (.ref l)
 repeat (any_goals (first|assumption|wp_step))
 refine Se (DT (pr:=pr) (wo:=wo) (Ex:=Ex) (.ref l) (Q₁:=λobj s₁=>obj=.ref st.heap.objs.size/\s₁={ st with heap:=st.heap.push { cls:=.type "set",dict:=none,data:=.set #[] 0 (.fresh 0 0 (!yc wo)) } }) ⟨Y,Y⟩) λr s₁ hr=>?_
 cases r with
 |error e=>exact hr
 |ok fl=>
  cases fl with
  |ret obj=>
   obtain⟨rfl,rfl⟩:=hr;have hS:(st.heap.push { cls:=.type "set",dict:=none,data:=.set #[] 0 (.fresh 0 0 (!yc wo)) }).get? st.heap.objs.size=M { cls:=.type "set",dict:=none,data:=.set #[] 0 (.fresh 0 0 (!yc wo)) }:=O8 _ Y;have hz:(st.heap.push { cls:=.type "set",dict:=none,data:=.set #[] 0 (.fresh 0 0 (!yc wo)) }).objs.size=st.heap.objs.size+1:=P' _ _;have up0:∀ b o,st.heap.get? b=M o->(st.heap.push { cls:=.type "set",dict:=none,data:=.set #[] 0 (.fresh 0 0 (!yc wo)) }).get? b=M o:=λb o e=>O3 _ e
   generalize st.heap.push { cls:=.type "set",dict:=none,data:=.set #[] 0 (.fresh 0 0 (!yc wo)) }=g1 at hS hz up0 ⊢;have hT:Xs { st with heap:=g1 } (.ref st.heap.objs.size) "set":=⟨_,hS,Y⟩
   have hli:=Ta.init.lookup;have hbi:=Ta.init.bind (.ref st.heap.objs.size)
   repeat (any_goals (first|assumption|wp_step))
   refine Se (codeAny_call_builtin (R:=wants (fun r s₂=>r=.none/\∃ g tk,s₂={ st with heap:=g,toks:=tk }/\jH pr wo (!yc wo) g st.heap.objs.size (met ns) /\
     (∀ b o,st.heap.get? b=M o->g.get? b=M o)/\st.toks<=tk) Ex) Ta.init.plain F.entry_set_init (check_set_init_1 hT ?_)) λr₂ s₂ hr₂=>?_
   ·have hl1:g1.IsList l its:=by obtain⟨o,q,r⟩:=hl;exact⟨o,up0 _ _ q,r⟩
    have hlS:l<st.heap.objs.size:=by obtain⟨o,q,r⟩:=hl;exact O7 q
    obtain⟨ol,hol,hcl,nl,hdl⟩:=id hl1;obtain⟨ocls,odict,odata,oslots⟩:=ol;simp only at hcl hdl;subst hcl;subst hdl;have hsls:=F.sub_list_set;have hslf:=F.sub_list_frozenset;have hne:(Q0 "list"==Q0 "dict")=false:=by decide
    unfold Si.«set.__init__» noKeywords Builtin.Frozenset.updateFrom;generalize hPI:Xv=PI
    wp_walk
    subst hPI;refine Ri hl1 ?_;refine O2 (W6 ?_);have up1:∀ b o,g1.get? b=M o->(g1.push { cls:=.type "list_iterator",data:=.fields #[.ref l,.int 0 0] }).get? b=M o:=λb o e=>O3 _ e
    have hl1s:l<g1.objs.size:=by rw[hz];exact To hlS
    have hSs:st.heap.objs.size<g1.objs.size:=by rw[hz];exact Rc _
    refine G_ (st:={ st with heap:=g1 }) (l:=l) (I:=g1.objs.size) (S:=st.heap.objs.size) (led:=!yc wo) (by simp[hh]) (Pr hl1s) (Pr hSs) (P8 hlS) hi hb (λg tk a1 a2 a3=>?_)
     (ns.length-0) 0 _ st.toks rfl (Qm _) ⟨_,O8 _ Y,Y,Y⟩ (hl1.push _) (AL (up1 _ _ hS)) (λb o _ _ e=>up1 b o e) (Pe _)
    show Pp _ _ _ _ _ _;refine O5 ?_;show Pp _ _ (ret QT) _ _ _;refine O5 ⟨Y,g,tk,Y,a1,λb o e=>?_,a3⟩;have lb:=O7 e;exact a2 b o (Pr lb) (Pr (Te lb hSs)) (up0 b o e)
   ·cases r₂ with
    |error e=>exact hr₂
    |ok fl₂=>
     cases fl₂ with
     |ret r=>
      obtain⟨rfl,g,tk,rfl,a1,a2,a3⟩:=hr₂
      repeat (any_goals (first|assumption|wp_step))
      exact h _ _ a1 a2 a3
     |_=>exact hr₂.elim
  |_=>exact hr.elim
end
open L2
theorem wE:∀ {ns:List Int}{us:List O6},aU (ns.map V.int) us->Sy us ns:=by
 intro ns
 induction ns with
 |nil=>intro us r;cases r;exact .nil
 |cons a ns ih=>
  intro us r;cases r with
  |cons h t=>obtain⟨k,rfl⟩:=h;exact .cons a k (ih t)
theorem kq:∀ {ns:List Int}{us:List O6},Sy us ns->aU (ns.map V.int) us:=by
 intro ns us h
 induction h with
 |nil=>exact .nil
 |cons n t _ ih=>exact .cons ⟨t,Y⟩ ih
theorem D1 (ns:List Int):(met ns).Nodup:=by
 have go:∀ (ns ks:List Int),ks.Nodup->(ns.foldl (λks k=>if k∈ks then ks else ks++[k]) ks).Nodup:=by
  intro ns
  induction ns with
  |nil=>intro ks h;exact h
  |cons a ns ih=>
   intro ks h;refine ih _ ?_;dsimp only
   split
   ·exact h
   ·rename_i hn
    exact XJ.mpr ⟨h,by simp,λx hx y hy=>by
     rw[O9] at hy;subst hy;exact λq=>hn (q▸hx)⟩
 exact go ns [] Vt
theorem DI {ns:List Int}(h1:ns.Pairwise (·<=·))(h2:ns.Nodup):ns.Pairwise (·<·):=by
 induction ns with
 |nil=>exact .nil
 |cons a l ih=>
  have p:=Rl.mp h1;have n:=Q_.mp h2;refine Rl.mpr ⟨λx hx=>?_,ih p.2 n.2⟩;have:=p.1 x hx;have ne:a≠x:=λe=>n.1 (e▸hx)
  lia
section
variable {X:Cx}{K:KE}{pins:List (Po×Obj)}{σ:L2.St}{H:Hp}{s:Pf}
theorem E3 (I:aJ X pins σ H s)(d:Drawn):aJ X pins σ H { s with drawn:=d }:=⟨I.ok,I.os,I.bare,I.base,I.loc,I.cell,I.free,I.freeC,I.pin,I.hok,I.len⟩
def OZ (K:KE)(ta:TA):TE:=λσ H Q=>ta σ H λvs H1=>∃ (q:Po) (ns:List Int),vs=[.ref q]/\bK K H1 q (ns.map V.int)/\ns.length<64 /\
 ∀ (L:Po) (ns':List Int),H1 L=none->ns'.Pairwise (·<·)->(∀ x:Int,x∈ns'↔x∈ns)->ns'.length<=ns.length->Q (.ref L) (upd H1 L (.lst (ns'.map V.int)))
theorem rL (hK:X.K=K) {e:Rz}{ta:TA}{p p2 pos pos2:Pos} (hc:X.calm=true) (hg:Gl X "sorted") (hm:X.mg "sorted"=none) (hg2:Gl X "set") (hm2:X.mg "set"=none) (ha:WA X [e] ta)
  (hs:PN [e] X.env=(false,Ts e X.env)::PN [] X.env:=by rfl)(hs2:(Tu pos2 (PN [] X.env)).any (·.1)=false:=by rfl)
  (hs3:PN [Expr.Call (.Name "set" p2) [e] [] pos2] X.env=[(false,Ts (.Call (.Name "set" p2) [e] [] pos2) X.env)]:=by rfl):
  WE X (.Call (.Name "sorted" p) [.Call (.Name "set" p2) [e] [] pos2] [] pos) (OZ K ta):=by
 have ha:=ha.go;refine⟨?_⟩;subst hK;intro pins s σ H Q I h;refine QL (ig I hg hm qJ ?_);refine Uu ?_ hs3 rfl;rw[hs3];show Pp _ _ (spliced ((false,Ts (.Call (.Name "set" p2) [e] [] pos2) X.env)::[])) _ _ s;refine Vd ?_;refine Call_ (ig I hg2 hm2 KP (Qx (cy (ha pos2 pins s σ H _ I h) λus s1 ⟨vs,H1,I1,r1,q1⟩=>?_) hs hs2));obtain⟨q,ns,rfl,hq,hl,k⟩:=q1;cases r1 with
 |cons ru rt=>
 cases rt;cases ru;obtain⟨its,rv,⟨o,n,po,pc,pd,pdat⟩,hsz⟩:=I1.list hq;refine F_ (I1.ok.hd hc) ⟨o,po,pc,n,pdat⟩ (wE rv) (by unfold scanBound;lia) λg tk hu up le=>VD ?_
 refine CA (st:={ s1 with heap:=g,toks:=tk }) (I1.ok.hd hc) hu (by have:=zd ns;lia) λL g2 d tk2 out ns' m hL hgL io pe sr up2 kO=>?_
 have lL:s1.heap.objs.size<=L:=PP (QD (by obtain⟨_,_,_,_,w,_⟩:=hu;exact O7 w)) hL;have fL:=I1.hok.fresh lL;have FL:=I1.fpOk lL fL;have J0:aJ X pins σ H1 { s1 with heap:=g2,toks:=tk2,drawn:=d }:=E3 (I1.kept (t':=tk2) λb o e=>up2 b o (up b o e)) d;have ln:ns'.length<=ns.length:=by rw[pe.length_eq];exact zd ns
 have J1:=dM (o:=.lst (ns'.map V.int)) J0 fL (PP I1.sz lL) FL.2.1 FL.2.2.2.2.1 FL.2.2.2.2.2 ⟨by rw[Pb,QU];lia,out.toList,m,kq io,hgL⟩;exact⟨.ref L,_,J1,Y,k L ns' fL (DI sr (pe.nodup_iff.mpr (D1 ns))) (λx=>by rw[pe.mem_iff,JF]) ln⟩
def De (K:KE):List V->Hp->VK->Prop:=λvs H Q=>∃ (q:Po) (ns:List Int),vs=[.ref q]/\bK K H q (ns.map V.int)/\ns.length<64 /\
 ∀ (L:Po) (ns':List Int),H L=none->ns'.Pairwise (·<=·)->ns'.Perm ns->Q (.ref L) (upd H L (.lst (ns'.map V.int)))
theorem A4:dD X (.builtin "sorted") (De X.K):=by
 intro pins s σ H vs us Q I r h;obtain⟨q,ns,rfl,hq,hl,k⟩:=h;cases r with
 |cons ru rt=>
 cases rt;cases ru;obtain⟨its,rv,⟨o,n,po,pc,pd,pdat⟩,hsz⟩:=I.list hq;have hln:its.length=ns.length:=by have:=aU.length rv;simpa using this.symm
 refine sorted_ints (vs:=its) (ns:=ns) ⟨o,po,pc,n,pdat⟩ (wE rv) (by lia) λout ns' a1 a2 a3=>?_
 have hz:((s.heap.push (TX "list" #[] 0)).update s.heap.objs.size (QO (·++its.toArray))).objs.size=s.heap.objs.size+1:=by rw[Heap.size_update,size_push']
 have hoL:(((s.heap.push (TX "list" #[] 0)).update s.heap.objs.size (QO (·++its.toArray))).push (TX "list" its.toArray 0)).get? (s.heap.objs.size+1)=M (TX "list" its.toArray 0):=by
  rw[<- hz];exact O8 _ Y
 have up:∀ b o,s.heap.get? b=M o->(sortedAll s.heap its out).get? b=M o:=λb o e=>by
  have lb:=O7 e;unfold sortedAll;refine j5 (P8 (To lb)) (O3 _ ?_);rw[Q6 _ _ (P8 lb)];exact O3 _ e
 obtain⟨m,hm⟩:=lf (out:=out) hoL;have lL:s.heap.objs.size<=s.heap.objs.size+1:=UW _;have fL:=I.hok.fresh lL;have FL:=I.fpOk lL fL;have J0:aJ X pins σ H { s with heap:=sortedAll s.heap its out }:=I.kept (t':=s.toks) up;have ln:ns'.length=ns.length:=a2.length_eq;have J1:=dM (o:=.lst (ns'.map V.int)) J0 fL (PP I.sz lL) FL.2.1 FL.2.2.2.2.1 FL.2.2.2.2.2 ⟨by rw[Pb,QU];lia,out.toList,m,kq a1,hm⟩;exact⟨.ref (s.heap.objs.size+1),_,J1,Y,k _ ns' fL a3 a2⟩
theorem Gw (e:X.K=K):dD X (.builtin "sorted") (De K):=by subst e;exact A4
end
def wY (p r:Pt):Rat:=((r.2-p.2:Int):Rat)/((r.1-p.1:Int):Rat)
theorem rX {g:TG}{tt:TT}{te:TE}{σ0:L2.St}{Fin:List V->Hp->Prop}{H1:Hp}{lo:Int}{t r:Po}{n:Nat}{m:Int} (tw:ci H1 t r) (hl:n <= 1000)
  (he:∀ (i:Nat) (H:Hp),i<n->ci H t r->Mv [t,r] H1 H->lq g tt te σ0 (.int (lo+i)) H λy H'=>∃ k:Int,y=.int k/\0<=k/\k<=m/\ci H' t r/\Mv [t,r] H H')
  (hd:∀ (ks:List Int) (H:Hp),ks.length=n->(∀ k∈ks,0<=k/\k<=m)->ci H t r->Mv [t,r] H1 H->Fin (ks.map V.int) H):gf (HH lo n) g tt te σ0 Fin H1:=by
 refine oE (λi ys H=>ci H t r/\Mv [t,r] H1 H/\∃ ks:List Int,ks.length=i/\(∀ k∈ks,0<=k/\k<=m)/\ys=ks.map V.int) ⟨tw,Mv.refl,[],Y,λ_ h=>(PR h).elim,Y⟩ hl (λi ys H hi p=>?_) (λi ys H hi p=>?_) (λys H p=>?_)
 ·obtain⟨_,_,ks,e,_,rfl⟩:=p;rw[Pb,e];exact Pe _
 ·obtain⟨tw2,mv2,ks,e,hk,rfl⟩:=p;intro R kk S;refine he i H hi tw2 mv2 R (λy H' hy=>?_) S;obtain⟨k,rfl,k0,k1,rO,mv3⟩:=hy;refine kk _ _ ⟨rO,mv2.trans mv3,ks++[k],by simp[e],λx hx=>?_,by simp⟩;rcases Qe.mp hx with h|h
  ·exact hk x h
  ·rw[O9] at h;subst h;exact⟨k0,k1⟩
 ·obtain⟨tw2,mv2,ks,e,hk,rfl⟩:=p;exact hd ks H e hk tw2 mv2
theorem JD (ps:List Pt):jG (ps.map rY)=true:=by
 induction ps with
 |nil=>rfl
 |cons p ps ih=>rw[PF];simp only[jG,Qu];exact⟨Y,ih⟩
theorem Dg {K:KE}{H:Hp}:∀ {ns:List Int}{ys:List V},az K H (ns.map Rt) ys->ys=ns.map V.int
 |[],_,.nil=>rfl
 |_::_,_,.cons (.int _) q=>by rw[Dg q];rfl
theorem Fk (xs:List V)(n:Nat)(h:1<=n):A9 xs none (M ((n:Int)-1))=xs.take (n-1):=by
 unfold A9;have e:((n:Int)-1)=((n-1:Nat):Int):=by lia
 rw[e,HT.sIx_none,HT.sIx_nat,List.drop_zero,Nat.sub_zero];apply XG;intro i;rw[Vf,Vf]
 by_cases h1:i<n-1
 ·by_cases h2:i<xs.length
  ·rw[Qh (by lia),Qh h1]
  ·rw[P3 (by lia),Qh h1,List.getElem?_eq_none (by lia)]
 ·rw[P3 (by lia),P3 h1]
structure Pl (last:Int)(ns:List Int):Prop where
 up:ns.Pairwise (·<·)
 z:ns[0]?=M 0
 l:ns.getLast?=M last
 inn:∀ x∈ns,0<=x/\x<=last
 two:2<=ns.length
 few:ns.length<=12
theorem vF {R:Int->Int->Prop}{ns:List Int}(h:ns.Pairwise R){i j:Nat}{a b:Int}(hij:i<j)(ea:ns[i]?=M a)(eb:ns[j]?=M b):R a b:=by
 obtain⟨hi,rfl⟩:=Pk.mp ea;obtain⟨hj,rfl⟩:=Pk.mp eb;exact Tw.mp h i j hi hj hij
theorem Bu {ns:List Int}{a:Int}(h:ns.getLast?=M a):ns[ns.length-1]?=M a:=by
 rw[QC] at h;exact h
theorem Mr {last:Int}{ns:List Int}(h1:1<=last)(up:ns.Pairwise (·<·))(m0:0∈ns)(ml:last∈ns)(inn:∀ x∈ns,0<=x/\x<=last)(few:ns.length<=12):Pl last ns:=by
 obtain⟨i,hi,ei⟩:=QX m0;obtain⟨j,hj,ej⟩:=QX ml;have ei':ns[i]?=M 0:=by rw[Pw hi,ei]
 have ej':ns[j]?=M last:=by rw[Pw hj,ej]
 have i0:i=0:=by
  by_cases h:i=0
  ·exact h
  ·have h0:ns[0]?=M ns[0]:=Pw (by lia);have a:=vF up (by lia) h0 ei';have b:=(inn ns[0] (RK _)).1;lia
 have jl:j=ns.length-1:=by
  by_cases h:j=ns.length-1
  ·exact h
  ·have hl:ns[ns.length-1]?=M ns[ns.length-1]:=Pw (by lia);have a:=vF up (by lia) ej' hl;have b:=(inn ns[ns.length-1] (RK _)).2;lia
 have ne:i≠j:=λe=>by subst e;rw[ei'] at ej';injection ej';lia
 subst i0;refine⟨up,ei',by rw[QC,<- jl];exact ej',inn,by lia,few⟩
theorem K4 {last:Int}{ns:List Int}{m:Nat}(h:Pl last ns)(m1:1<m)(m2:m<=ns.length):Pl last (ns.take (m-1)++[last])/\(ns.take (m-1)++[last]).length=m:=by
 have len:(ns.take (m-1)++[last]).length=m:=by rw[PV,P1];simp;lia
 refine⟨⟨?_,?_,by simp,?_,by lia,by have:=h.few;lia⟩,len⟩
 ·refine WZ.mpr ⟨h.up.sublist (VJ _ _),List.pairwise_singleton _ _,λa ha b hb=>?_⟩;rw[O9] at hb;subst hb;obtain⟨i,hi,rfl⟩:=QX ha;rw[P1] at hi;rw[VI];exact vF h.up (i:=i) (j:=ns.length-1) (by lia) (Pw (by lia)) (Bu h.l)
 ·rw[Ry (by rw[P1];lia),Vf,Qh (by lia)];exact h.z
 ·intro x hx;rcases Qe.mp hx with q|q
  ·exact h.inn x (List.mem_of_mem_take q)
  ·rw[O9] at q;subst q;exact h.inn _ (Sq h.l)
theorem K' {last:Int}(h:1<=last):Pl last [0,last]:=⟨by simp;lia,rfl,rfl,λx hx=>by simp at hx;lia,by simp,by simp⟩
theorem Cp {last:Int}{ns vs:List Int}(h:Pl last ns)(l1:last<=1000)(hv:vs.Pairwise (·<=·))(iv:∀ x∈vs,0<=x/\x<=1000)(hl:vs.length=ns.length):z_ (ns.zip vs)/\∃ z,(ns.zip vs).getLast?=M z/\z.1=last:=by
 have len:(ns.zip vs).length=ns.length:=by rw[UT];lia
 have two:=h.two;have few:=h.few;refine⟨⟨by lia,by lia,λp hp=>?_,λp hp=>?_,λi p q e1 e2=>?_⟩,?_⟩
 ·have:=(Qr.mp hp).1;rw[h.z] at this;injection this with e
  exact e.symm
 ·obtain⟨a,b⟩:=SB (a:=p.1) (b:=p.2) hp;have:=h.inn _ a;have:=iv _ b;exact⟨by lia,by lia,by lia,by lia⟩
 ·obtain⟨a1,b1⟩:=Qr.mp e1;obtain⟨a2,b2⟩:=Qr.mp e2;exact⟨vF h.up (Rc i) a1 a2,vF hv (Rc i) b1 b2⟩
 ·have e:=Bu h.l;have hb:ns.length-1<vs.length:=by lia
  refine⟨(last,vs[ns.length-1]),?_,rfl⟩;rw[QC,len];exact Qr.mpr ⟨e,Pw hb⟩
theorem Jm {a:Rat}:(p.2:Rat)+((q.2:Rat)-(p.2:Rat))/((q.1:Rat)-(p.1:Rat))*(a-(p.1:Rat))=Ef p q a:=by
 unfold Ef;rw[Xf,Xf];grind
theorem yQ (p q:Pt)(a:Rat):Ef p q a=(p.2:Rat)+wY p q*(a-(p.1:Rat)):=by
 rw[<- Jm];unfold wY;rw[Qj,Qj]
theorem Ht (h1:p.1<q.1)(h2:p.2<=q.2):0<=wY p q:=by
 unfold wY;have a:(0:Rat)<=((q.2-p.2:Int):Rat):=by
  have:(0:Int)<=q.2-p.2:=by lia
  exact_mod_cast this
 have b:(0:Rat)<((q.1-p.1:Int):Rat):=by
  have:(0:Int)<q.1-p.1:=by lia
  exact_mod_cast this
 rw[Xf];exact Rat.mul_nonneg a (X7 (Rat.inv_pos.mpr b))
theorem FM (h1:p.1<q.1)(h2:p.2<=q.2){a b:Rat}(h:a<=b):Ef p q a<=Ef p q b:=by
 have m0:=Ht h1 h2;rw[yQ,yQ];generalize wY p q=m at m0;have:=Rat.mul_nonneg m0 (show 0<=b-a by grind);grind
theorem Lv (p q:Pt):Ef p q (p.1:Rat)=(p.2:Rat):=by
 rw[yQ];grind
theorem KR (h1:p.1<q.1):Ef p q (q.1:Rat)=(q.2:Rat):=by
 have nz:((q.1-p.1:Int):Rat)≠0:=by
  have:(q.1-p.1:Int)≠0:=by lia
  exact_mod_cast this
 rw[yQ];unfold wY;rw[Qj] at nz;rw[Qj,Qj,Xf];grind
theorem Cm:∀ {ns:List Int}{us:List O6},aU (ns.map V.int) us->∃ ps:List (Int×Tok),us=ps.map (λp=>SD p.1 p.2)/\ps.map (·.1)=ns:=by
 intro ns
 induction ns with
 |nil=>intro us r;cases r;exact⟨[],Y,Y⟩
 |cons a ns ih=>
  intro us r;cases r with
  |cons h t=>
   obtain⟨k,rfl⟩:=h;obtain⟨ps,rfl,rfl⟩:=ih t;exact⟨(a,k)::ps,Y,Y⟩
theorem DD {ps:List (Int×Tok)}{i:Nat}{p:Int×Tok}(h:ps[i]?=M p):numAt ps.toArray i=p.1:=by
 unfold numAt;rw[List.getElem?_toArray,h];rfl
theorem HW (ps:List (Int×Tok)):(ps.map λp=>SD p.1 p.2).toArray=intItems ps.toArray:=by
 unfold intItems;simp
section
variable {X:Cx}{K:KE}
def OT:ND:=λx y H Q=>∃ i j,x=.int i/\y=.int j/\lV i j/\Q (.int (i*j)) H
theorem HP:On X .Mult OT:=by
 intro pins s σ H x y v u Q I r1 r2 h;obtain⟨i,j,e1,e2,hc,q⟩:=h;subst e1;subst e2;obtain⟨t,rfl⟩:=r1;obtain⟨t',rfl⟩:=r2;refine imul_int ⟨.int _,H,I.tok _,⟨_,Y⟩,q⟩ ?_;rcases hc with ⟨h1,h2⟩|h1
 ·exact X9 (PP h1.bits (by decide)) (PP h2.bits (by decide))
 ·exact X' h1.bits
end
theorem LY {K:KE}{fd:QR}{p:Str}{ps ks:List Str}{n m:Nat}{D:Po}{o:Obj}{i:Int}{t:Tok} (e:K.lookup D=M o)
  (h:∀ us ws:List O6,us.length=n->ws.length=m->∃ (part:Option O6) (kk:Obj->Sem (List (Str×O6))),QA fd ⟨us,ks.zip ws⟩=Yd D part kk/\kk o=pure ((p::ps).zip (us++(ws++[.int i t])))):
  jt K fd (p::ps) ks (iK n m [.int i t]) (iK n m [.int i]):=
 ⟨λs us ws X hl=>by
  obtain⟨a,b,c⟩:=vc hl;rw[c];obtain⟨part,kk,h1,h2⟩:=h us ws a b;exact AN X e h1 h2,λa b=>uA (show aU [V.int i] [SD i t] from .cons ⟨t,rfl⟩ .nil) a b⟩
theorem DL {K:KE}{mg:Str->Option O6}{x p:Str}{st:Q1}{ps ks:List Str}{n m:Nat}{f D:Po}{o:Obj}{oc:O6}{od an:Option Po}{osl:Array (Option O6)}{doc pm cdv ct:O6}{i:Int}{t:Tok}
  (l:K.lookup f=M ⟨oc,od,.func (Pu x x (aN st) (aH st) (ae st) .none (.ref D) doc pm an cdv ct),osl⟩)
  (c:PZ K cdv x=true)(kp:PM K (.ref f)=true)(g:mg x=M (.ref f))(e:K.lookup D=M o)
  (h:∀ us ws:List O6,us.length=n->ws.length=m->∃ (part:Option O6) (kk:Obj->Sem (List (Str×O6))),QA (Pu x x (aN st) (aH st) (ae st) .none (.ref D) doc pm an cdv ct) ⟨us,ks.zip ws⟩=Yd D part kk/\kk o=pure ((p::ps).zip (us++(ws++[.int i t])))):qM K mg x st (p::ps) ks n m [.int i]:=
 ⟨f,_,oc,od,.none,.ref D,doc,pm,an,cdv,ct,osl,[.int i t],rfl,l,c,g,kp,LY e h⟩
def D6 (rs:List Rat):Rat:=rs.foldl (·+·) 0
theorem wV (rs:List Rat)(q:Rat):D6 (rs++[q])=D6 rs+q:=by unfold D6;rw[VH];rfl
theorem yH {rs:List Rat}{i:Nat}{d:P5}(h:(rs.map rD)[i]?=M d):∃ q,rs[i]?=M q/\d=rD q:=by
 rw[Ps,PC] at h;obtain⟨q,e,rfl⟩:=h;exact⟨q,e,rfl⟩
theorem CM {b:Nat}{rs:List Rat}(h:∀ r∈rs,Bq b r):∀ n,n<=rs.length->Bq (n*(b+1)+1) (D6 (rs.take n))
 |0,_=>by
  show Bq _ (0:Rat);exact⟨by decide,by decide,by unfold Sm;simp,by unfold Sm;simp⟩
 |n+1,hn=>by
  have hg:rs[n]?=M rs[n]:=by simp[show n<rs.length by lia]
  rw[b8 hg,wV];have:=(CM h n (by lia)).add (h _ (RK (show n<rs.length by lia)));exact this.mono (by rw[TW];lia)
def eD (rs:List Rat):Int:=rs.foldl (λn r=>n*(r.den:Int)) 1
theorem uO (rs:List Rat)(q:Rat):eD (rs++[q])=eD rs*(q.den:Int):=by unfold eD;rw[VH];rfl
theorem mH {b:Nat}{rs:List Rat}(h:∀ r∈rs,Bq b r):∀ n,n<=rs.length->0<eD (rs.take n)/\Sm (n*b+1) (eD (rs.take n))
 |0,_=>by
  show 0<(1:Int)/\Sm _ (1:Int);exact⟨by decide,by unfold Sm;simp⟩
 |n+1,hn=>by
  have hg:rs[n]?=M rs[n]:=by simp[show n<rs.length by lia]
  rw[b8 hg,uO];obtain⟨h1,h2⟩:=mH h n (by lia);have k:=h _ (RK (show n<rs.length by lia));refine⟨Int.mul_pos h1 k.pos,(h2.mul k.sd).mono (by rw[TW];lia)⟩
theorem D_ {r:Rat}(h:r∈rs):(r.den:Int)∣eD rs:=by
 have go:∀ (rs:List Rat) (n:Int),n∣rs.foldl (λn r=>n*(r.den:Int)) n:=by
  intro rs
  induction rs with
  |nil=>intro n;exact Int.dvd_refl _
  |cons a rs ih=>intro n;exact Int.dvd_trans ⟨_,Y⟩ (ih _)
 have go2:∀ (rs:List Rat) (n:Int),r∈rs->(r.den:Int)∣rs.foldl (λn r=>n*(r.den:Int)) n:=by
  intro rs
  induction rs with
  |nil=>intro n h;cases h
  |cons a rs ih=>
   intro n h;rcases Pq.mp h with rfl|h
   ·exact Int.dvd_trans (Int.dvd_mul_left _ _) (go _ _)
   ·exact ih _ h
 exact go2 _ _ h
def ov (B:Int)(r:Rat):Int:=r.num*(B/(r.den:Int))
theorem Ff {B:Int}{r:Rat}(h:(r.den:Int)∣B):((ov B r:Int):Rat)=r*(B:Rat):=by
 obtain⟨k,rfl⟩:=h;have hd:(r.den:Int)≠0:=by have:=r.den_nz;lia
 unfold ov;rw[Int.mul_ediv_cancel_left _ hd,PY,PY];have h1:=kJ r;have e1:=jT r;grind
theorem Nd {b:Nat}{rs:List Rat}{r:Rat}(h:∀ r∈rs,Bq b r)(hr:r∈rs):Sm (rs.length*b+b+1) (ov (eD rs) r):=by
 obtain⟨h1,h2⟩:=mH h rs.length (Pe _);rw[SQ] at h1 h2;have k:=h r hr;refine(k.sn.mul (j:=rs.length*b+1) ?_).mono (by lia);have hd:0<(r.den:Int):=k.pos;have e1:eD rs/(r.den:Int)<=eD rs:=Int.ediv_le_self _ (by lia);have e2:0<=eD rs/(r.den:Int):=Wj (by lia) (by lia);unfold Sm at h2 ⊢;lia
def sw (p:Pt):Pt:=(p.2,p.1)
theorem Gn (h:z_ ps){a c:Rat}(hy:ps[0]?=M y)(hz:ps.getLast?=M z)(a0:0<=a)(x:Ej ps a c):(y.2:Rat)<=c/\c<=(z.2:Rat):=by
 obtain⟨j,p,q,st,rfl⟩:=x;have hlast:ps[ps.length-1]?=M z:=by rw[<- QC];exact hz
 obtain⟨u1,u2⟩:=h.up j p q st.lo st.hi;have hj:=(Pk.mp st.hi).1;have m1:=(h.mono j 0 y p hy (by rw[RW];exact st.lo)).2.1;have m2:=(h.mono (ps.length-1-(j+1)) (j+1) q z st.hi (by rw[show j+1+(ps.length-1-(j+1))=ps.length-1 by lia];exact hlast)).2.1;have pa:(p.1:Rat)<=a:=by
  rcases st.gt with e|e
  ·subst e;have e1:=st.lo;have p0:=h.zero p e1;rw[p0];exact a0
  ·exact X7 e
 have e1:Ef p q a<=(q.2:Rat):=by rw[<- KR u1];exact FM u1 u2 st.le
 have e2:(p.2:Rat)<=Ef p q a:=by
  have:=FM u1 u2 pa;rw[Lv] at this;exact this
 have m1':(y.2:Rat)<=(p.2:Rat):=by exact_mod_cast m1
 have m2':(q.2:Rat)<=(z.2:Rat):=by exact_mod_cast m2
 exact⟨Ww m1' e2,Ww e1 m2'⟩
def HB (k:Nat)(d:P5):Prop:=∀ ds,d=.tuple ds->ds.length<=1000/\∀ q,rD q∈ds->Bq k q
def Kz (K:KE)(y x:Str):Bool:=(lN K y).any λD=>(lN K x).any λC=>Sk K (.ref D) (.ref C)==M false
theorem vy (h1:WE X e t)(h2:WE X e u):WE X e (λσ H Q=>t σ H Q\/u σ H Q):=by
 have h1:=h1.go;have h2:=h2.go;exact⟨λpins s σ H Q I h=>h.elim (h1 pins s σ H Q I) (h2 pins s σ H Q I)⟩
theorem mS {H:Hp}{a b C dx:Po}{fs:List (Str×V)}{o:HO}(ha:H a=M (.ins C dx fs))(hb:H b=M o)(hn:o≠.ins C dx fs):b≠a:=λz=>by
 rw[z,ha] at hb;exact hn (O4 hb).symm
theorem yq {K:KE}{H:Hp}{a C dx:Po}{fs:List (Str×V)}{o:HO}(ha:H a=M (.ins C dx fs)):∀ {ps:List Pt}{xs:List V},az K H (ps.map rY) xs->az K (upd H a o) (ps.map rY) xs
 |[],_,.nil=>.nil
 |p::ps,_,.cons h t=>by
  refine .cons ?_ (yq ha t);obtain⟨pa,rfl,hpa⟩:=bj (n:=p.1) (d:=p.2) h;exact iA (by rw[au (mS ha hpa (λz=>nomatch z))];exact hpa)
theorem mo.put {K:KE}{H:Hp}{a C dx:Po}{fs:List (Str×V)}{o:HO}(ha:H a=M (.ins C dx fs))(hf:∀ l:Po,fs≠[(("points":Str),V.ref l)]){ps:List Pt}{v:V}(h:mo K H ps v):mo K (upd H a o) ps v:=by
 obtain⟨b,Cb,dxb,l,rfl,hC,hH,hd⟩:=h;have nb:b≠a:=mS ha hH (λz=>by cases z;exact hf l rfl);refine⟨b,Cb,dxb,l,Y,hC,by rw[au nb];exact hH,?_⟩;cases hd with
 |lst h q=>
  rcases h with h|h
  ·exact .lst (.inl (by rw[au (mS ha h (λz=>nomatch z))];exact h)) (yq ha q)
  ·obtain⟨o',h⟩:=h;exact .lst (.inr ⟨o',by rw[au (mS ha h (λz=>nomatch z))];exact h⟩) (yq ha q)
theorem mR (h:a∉T):cut T (upd H a o)=upd (cut T H) a o:=by
 funext b
 by_cases e:b=a
 ·subst e;rw[fF h,ag,ag]
 ·rw[au e];unfold cut
  split
  ·rfl
  ·rw[au e]
theorem rZ (ps:List (Int×Tok)):∀ n,n<=ps.length->preSum (numAt ps.toArray) n=((ps.take n).map (·.1)).sum
 |0,_=>rfl
 |n+1,h=>by
  have e:ps[n]?=M ps[n]:=Pw (by lia);rw[b8 e,QN,List.sum_append];show preSum (numAt ps.toArray) n+numAt ps.toArray n=_;rw[rZ ps n (by lia),DD e];simp
section
variable {X:Cx}{K:KE}
def JY (K:KE):List V->Hp->VK->Prop:=λxs H Q=>∃ (p:Po) (ns:List Int),xs=[.ref p]/\bK K H p (ns.map V.int)/\Q (.int ns.sum) H
theorem DW (hc:X.calm=true):dD X (.builtin "sum") (JY X.K):=by
 intro pins s σ H xs us Q I r h;obtain⟨p,ns,rfl,hp,q⟩:=h;obtain⟨u,rfl,ru⟩:=md r;cases ru;obtain⟨its,rv,pl,hz⟩:=I.list hp;obtain⟨ps,rfl,rfl⟩:=Cm rv;have hl:=pl.isList;rw[HW] at hl;refine sum_intListG (I.ok.hd hc) hl λh' tk t' kk=>?_
 have I1:aJ X pins σ H { s with heap:=h',toks:=tk }:=I.kept kk;refine⟨.int _,H,I1,⟨t',Y⟩,?_⟩;rw[PD,rZ ps _ (Pe _),SQ];exact q
theorem Hx (e:X.K=K)(hc:X.calm=true):dD X (.builtin "sum") (JY K):=by subst e;exact DW hc
end
abbrev K7 (X:Cx)(o:Rz)(m:Str)(args:List Rz)(kws:List Vq)(pl:Sem Bool)(apos pos:Pos):Prop:=
 Ts (.Call (.Attribute o m apos) args kws pos) X.env=(do let ov <- Ts o X.env;WD apos.atName;let (f,first) <- holding [ov] (getMethod ov m pl);callWith pos f first (Tu pos (PN args X.env)) (RQ pos (QM kws X.env)))
def Mm (K:KE)(x m:Str)(sp:Sp)(gV:List V->List V->List V)(E:XK)(ta:TE)(t tk:TA):TE:=λσ H Q=>ta σ H λv H1=>∃ a C dx fs,v=.ref a/\cM K x C/\H1 a=M (.ins C dx fs)/\fs.lookup m=none /\
 t σ H1 λvs H2=>tk σ H2 λzs H3=>sp (gV (v::vs) zs) H3 Q E
section
variable {X:Cx}{CX:l7}{K:KE}{k n j:Nat}{x m:Str}{ps ks:List Str}{sp:Sp}{dvs:List V}{pos apos:Pos}{o e:Rz}{es:List Rz}{kws:List Vq}{ta:TE}{t tk:TA}
theorem GO (hK:X.K=K) (hX:Fa CX) (C:rH X.prog X.w X.K X.mg X.base CX k x m ps ks n j dvs sp) (hr:Room k X.A) (he:WE X o ta) (ha:WA X (e :: es) t) (hkw:WK X kws tk)
  (hall:(RQ pos (QM kws X.env)).all (·.1.isSome)=true:=by rfl)(hks:(RQ pos (QM kws X.env)).filterMap (·.1)=ks:=by rfl)
  (hst:PN (e::es) X.env=(false,Ts e X.env)::PN es X.env:=by rfl)
  (hpl:((Tu pos (PN (e::es) X.env)).any (·.1)||(RQ pos (QM kws X.env)).any (·.1.isNone))=false:=by rfl)
  (ht:K7 X o m (e::es) kws pl apos pos:=by rfl):WE X (.Call (.Attribute o m apos) (e::es) kws pos) (Mm K x m sp (iK n j dvs) E0 ta t tk):=by
 have he:=he.go;have ha:=ha.go;have hkw:=hkw.go;refine⟨?_⟩;subst hK;obtain⟨D,f,fd,ds,fs0,F,cf,hm,_,hb⟩:=C.ex;intro pins s σ H Q I h;refine Uv (pl:=pl) (cy (he pins s σ H _ I h) λu s1 ⟨v,H1,I1,rv,a,E,dx,fs,ev,ec,ea,l,q⟩=>?_) ht;subst ev;cases bH ec cf.at_;obtain rfl:u=P2 a:=rv;refine om I1 ea cf.cls hm l ?_;refine UY (first:=[.ref a]) (h₀:=X.base) I.ok.mod.kin hm.kp hall (cy (ha pos pins s1 σ H1 _ I1 q) λus s2 ⟨vs,H2,I2,r,q2⟩=>?_) hpl hst;refine cy (hkw pos pins s2 σ H2 _ I2 q2) λws s3 ⟨zs,H3,I3,rz,q3⟩=>⟨I3.kIn,?_⟩
 rw[hks];exact Di (us:=.ref a::us) (vs:=.ref a::vs) F hr hb (qm hX) I3 (.cons rfl r) rz q3
end
theorem Lj {K:KE}{fd:QR}{p:Str}{ps ks:List Str}{n m:Nat}{D:Po}{o:Obj}{z:Str}{t:Tok} (e:K.lookup D=M o)
  (h:∀ us ws:List O6,us.length=n->ws.length=m->∃ (part:Option O6) (kk:Obj->Sem (List (Str×O6))),QA fd ⟨us,ks.zip ws⟩=Yd D part kk/\kk o=pure ((p::ps).zip (us++(ws++[.str z t])))):
  jt K fd (p::ps) ks (iK n m [.str z t]) (iK n m [.str z]):=
 ⟨λs us ws X hl=>by
  obtain⟨a,b,c⟩:=vc hl;rw[c];obtain⟨part,kk,h1,h2⟩:=h us ws a b;exact AN X e h1 h2,λa b=>uA (show aU [V.str z] [VQ z t] from .cons ⟨t,Y⟩ .nil) a b⟩
theorem EJ {K:KE}{mg:Str->Option O6}{x m qual p:Str}{st:Q1}{ps ks fs:List Str}{n j:Nat}{C f D:Po}{o:Obj}{oc:O6}{od an:Option Po}{osl:Array (Option O6)}{doc pm cdv ct:O6}{z:Str}{t:Tok}
  (l:K.lookup f=M ⟨oc,od,.func (Pu m qual (aN st) (aH st) (ae st) .none (.ref D) doc pm an cdv ct),osl⟩)
  (c:PZ K cdv qual=true)(kp:PM K (.ref f)=true)(fn:RA K (.ref f)=true)(a:Pm K O_ x=M (M (.ref C)))(b:P0 K (.ref C) m=M (M (.ref f)))(hc:gE K x fs=true)(g:mg x=M (.ref C))
  (e:K.lookup D=M o)
  (h:∀ us ws:List O6,us.length=n->ws.length=j->∃ (part:Option O6) (kk:Obj->Sem (List (Str×O6))),QA (Pu m qual (aN st) (aH st) (ae st) .none (.ref D) doc pm an cdv ct) ⟨us,ks.zip ws⟩=Yd D part kk/\kk o=pure ((p::ps).zip (us++(ws++[.str z t])))):
  j9 K mg x m qual st (p::ps) ks n j [.str z]:=by
 obtain⟨D',cf⟩:=kW hc;cases bH cf.at_ a;exact⟨_,f,_,oc,od,.none,.ref D,doc,pm,an,cdv,ct,osl,[.str z t],fs,Y,l,c,cf,⟨b,fn,kp⟩,g,Lj e h⟩
def q_ (elt:Rz)(gens:List TZ)(scope:Uw)(pos:Pos)(acc:O6)(env:Env)(d:Nat):Sem Unit:=match gens[d+1]? with
 |some g'=>do
  let x <- Ts g'.iter env
  WD g'.iter.pos
  let x <- if g'.is_async != 0 then foldedIterable g'.iter x else Rg g'.iter env x
  let _ <- runOwn (.compStart (.ListComp elt gens scope pos) (d+1) (<- holding [x] (if g'.is_async != 0 then asyncIter x else Xv x)) acc env) env
 |none=>do let _ <- call (.builtin "list.append") [acc,<- Ts elt env]
theorem Ab {d:Nat} (h:gens[d]?=M ⟨target,iter,ifs,0⟩) :
  compTurn (.ListComp elt gens scope pos) d it acc env=(do
   WD iter.pos
   match <- SE it with
   |none=>pure (.done .next)
   |some v=>
    T8 target it v
    assign target env v
    let mut ok:=true
    for c in ifs do
     if ok then ok <- isTrue c env (Ts c env)
    if ok then
     q_ elt gens scope pos acc env d
    again (.compLoop (.ListComp elt gens scope pos) d it acc env)):=by
 unfold compTurn q_;dsimp only;rw[h];cases hg:gens[d+1]? with
 |none=>rfl
 |some g'=>
  dsimp only;have z0:((0:Nat) != 0)=false:=Y
  by_cases hz:(g'.is_async != 0)=true
  ·simp only[hz,z0,bind_assoc,SK,Qv,Ss];rfl
  ·have hz:(g'.is_async != 0)=false:=by simpa using hz
   simp only[hz,z0,bind_assoc,SK,Qv,Ss];rfl
theorem rT {d:Nat} (hd:gens[d]?=M ⟨target,iter,ifs,0⟩) (I:Nat->Pf->Prop)
  (lF:∀ n s,I n s->Pp (PX prog w) A (SE it) (λr s₁=>match r with
   |none=>R (.ok .next) s₁
   | some v=>Pp (PX prog w) A (T8 target it v) (fun _ s₁'=>Pp (PX prog w) A (assign target env v) (fun _ s₂=>
     Pp (PX prog w) A (forIn ifs true λc r=>if r=true then do let ok <- isTrue c env (Ts c env);pure (Tc ok) else pure (Tc r)) (λok s₃=>
      if ok=true then Pp (PX prog w) A (q_ elt gens scope pos acc env d) (λ_ s₅=>∃ m,m<n/\I m s₅) (λ_ _=>False) s₃
      else ∃ m,m<n/\I m s₃) (λ_ _=>False) s₂) (λ_ _=>False) s₁') (λ_ _=>False) s₁) (λ_ _=>False) s)
  (n:Nat)(h:I n s):R5 (PX prog w) A (.compLoop (.ListComp elt gens scope pos) d it acc env) R s:=by
 refine codeAny_loop rfl I (λn s hI=>?_) n h;show Pp _ A ((compTurn (.ListComp elt gens scope pos) d it acc env).onRaise (λx=>do noteFrame x env;theTreesLotGoes x)) _ _ s;refine wpAny_noted ?_;rw[Ab hd];refine O2 (Sg (O2 (QI (lF n s hI) (λr s₁ h₁=>?_) λ_ _ z=>z.elim)));cases r with
 |none=>exact O5 h₁
 |some v=>
  refine O2 (QI h₁ (λ_ s₁' h₁'=>?_) λ_ _ z=>z.elim);refine O2 (QI h₁' (λ_ s₂ h₂=>O2 (QI h₂ (λok s₃ h₃=>?_) λ_ _ z=>z.elim)) λ_ _ z=>z.elim);cases ok with
  |false=>exact O5 ⟨Y,h₃⟩
  |true=>exact O2 (QI h₃ (λ_ s₅ h₅=>O5 ⟨Y,h₅⟩) λ_ _ z=>z.elim)
theorem y4 {d:Nat} (hd:gens[d]?=M ⟨target,iter,ifs,0⟩)
  (h0:R5 (PX prog w) A (.compLoop (.ListComp elt gens scope pos) d it acc env) R s)
  (h:Pp (PX prog w) A (Xv it) (λit' s'=>R5 (PX prog w) A (.compLoop (.ListComp elt gens scope pos) d it' acc env) R s')
   (notedBy (PX prog w) A env λx s'=>R (.error x) s') s) :
  R5 (PX prog w) A (.compStart (.ListComp elt gens scope pos) d it acc env) R s:=by
 refine Wy ?_;show Pp _ _ ((compStart (.ListComp elt gens scope pos) d it acc env).onRaise (λx=>do noteFrame x env;WD theWindowsPlace)) _ _ s;refine wpAny_notedAt ?_;have hd':(clausesOf (.ListComp elt gens scope pos))[d]?=M ⟨target,iter,ifs,0⟩:=hd;unfold compStart;rw[hd'];show Pp _ _ (ask>>=_) _ _ s;refine O2 (TD (wpAny_ite ?_))
 split
 ·first
   |exact O2 (O5 (O5 (Ye rfl h0)))
   |exact O5 (Ye rfl h0)
 ·first
   |exact O2 (SG (O2 (Sg (O2 (QI h (λit' s' h'=>O5 (Ye rfl h')) λ_ _ x=>x)))))
   |(refine O2 (SG ?_);show Pp _ _ (WD iter.pos>>=_) _ _ s;exact O2 (Sg (O2 (QI h (λit' s' h'=>O5 (Ye rfl h')) λ_ _ x=>x))))
abbrev TB:=L2.St->Hp->List V->(L2.St->Hp->List V->Prop)->Prop
def GS (its:List O6)(n:Nat):Obj:={ cls:=.type "list",data:=.seq its.toArray n }
def N1 (X:Cx)(pins:List (Po×Obj))(D:Po):Prop:=
 D≠X.env.locals/\(D∈X.ex\/X.s₀.heap.objs.size<=D)/\(∀ x c,X.env.cells.lookup x=M c->c≠D)/\∀ p∈X.pn++pins,p.1≠D
def PB (X:Cx)(elt:Rz)(gens:List TZ)(scope:Uw)(pos:Pos)(d:Nat)(t:TB):Prop:=
 ∀ (D:Po) (pins:List (Po×Obj)) (s:Pf) (σ:L2.St) (H:Hp) (ys:List V) (its:List O6) (n:Nat) (Q:L2.St->Hp->List V->Prop),aJ X ((D,GS its n)::pins) σ H s->N1 X pins D->aU ys its->t σ H ys Q ->
  Pp (PX X.prog X.w) X.A (q_ elt gens scope pos (.ref D) X.env d) (λ_ s'=>∃ σ' H' ys' its' n',aJ X ((D,GS its' n')::pins) σ' H' s'/\aU ys' its'/\Q σ' H' ys') (λ_ _=>False) s
structure WB (X:Cx)(elt:Rz)(gens:List TZ)(scope:Uw)(pos:Pos)(d:Nat)(t:TB):Prop where
 go:PB X elt gens scope pos d t
section
variable {X:Cx}{elt:Rz}{gens:List TZ}{scope:Uw}{pos:Pos}{d:Nat}
def CT (te:TE):TB:=λσ H ys Q=>ys.length<Pz/\te σ H λy H'=>Q σ H' (ys++[y])
theorem C6 (hx:X.xe=λ_ _=>False)(hd:gens[d+1]?=none)(he:PE X elt te):PB X elt gens scope pos d (CT te):=by
 intro D pins s σ H ys its n Q I hD rv h;obtain⟨hz,h⟩:=h;unfold q_;rw[hd];dsimp only;have he':=he _ s σ H _ I h;rw[hx] at he';refine O2 (cy he' λy s8 h8=>?_);obtain⟨yv,H8,I8,r8,q8⟩:=h8;have pD:=I8.pin (D,GS its n) (Py _ PQ);have hsz:its.toArray.size<=Pz:=by
  have:=rv.length;rw[PD,<- this];exact QD hz
 refine O2 (append_at (hsz:=hsz) pD.1 λh9 hs9 hD9=>O5 ?_);have J8:aJ X pins σ H8 s8:=I8.pins_of λp hp=>I8.pin p (Py _ (Pj _ hp))
 have J9:aJ X pins σ H8 { s8 with heap:=h9 }:=J8.turned (it:=D) (t':=s8.toks) (λb o hb e=>hs9.extBut b o hb e) pD.2.1 hD.1 hD.2.1 hD.2.2.1 hD.2.2.2;refine⟨σ,H8,ys++[yv],its++[y],n+1,J9.pins_of λp hp=>?_,rv.append (.cons r8 .nil),q8⟩;rcases Pq.mp hp with rfl|hp
 ·have e9:({ cls:=.type "list",data:=.seq (its.toArray.push y) (n+1) }:Obj)=GS (its++[y]) (n+1):=by unfold GS;rw[List.push_toArray]
  exact⟨by rw[<- e9];exact hD9,pD.2.1,pD.2.2.1,pD.2.2.2.1,λv z=>nomatch z⟩
 ·exact J9.pin p (Py _ hp)
def Mq (wi:TI)(g:TG)(tt:TT)(tb:TB):TB:=λσ H ys Q=>wi σ H λJ H1=>∃ W:Nat->Nat->L2.St->Hp->List V->Prop,(∃ m,W 0 m σ H1 ys)/\∀ i m σ2 H2 ys2,W i m σ2 H2 ys2 ->
 (J.stop i H2/\Q σ2 H2 ys2) \/
 (J.go i H2/\∀ x H3,J.yld i H2 x H3->g x σ2 H3 λσ3 H4=>tt σ3 H4 λb H5=>if b=true then tb σ3 H5 ys2 λσ' H' ys'=>∃ m',m'<m/\W (i+1) m' σ' H' ys' else ∃ m',m'<m/\W (i+1) m' σ3 H5 ys2)
theorem A3 (hx:X.xe=fun _ _=>False) (hc:X.calm=true) (hd:gens[d + 1]?=M ⟨tg,iter,ifs,0⟩) (hi:WI X tg iter wi) (hg:WG X tg g) (ht:Kl X ifs tt) (hb:WB X elt gens scope pos (d + 1) tb)
  (hs:∀ x,Rg iter X.env x=pure x:=by intro _;rfl):WB X elt gens scope pos d (Mq wi g tt tb):=by
 have hi:=hi.go;have hg:=hg.go;have ht:=ht.go;have hb:=hb.go;refine ⟨?_⟩;intro D pins s σ H ys its n Q I hD rv h;unfold q_;rw [hd];dsimp only;have hi':=hi _ s σ H _ I h;rw [hx] at hi';refine O2 (cy hi' fun v s1 h1=>?_);refine O2 (Sg ?_);show Pp _ _ (Rg iter X.env v >>= fun x=>holding [x] (Xv x) >>= fun it=>runOwn (.compStart (.ListComp elt gens scope pos) (d + 1) it (.ref D) X.env) X.env >>= fun _=>pure ()) _ _ s1;rw [hs];refine O2 (O5 (O2 (QE (cy h1 fun itv s2 h2=>?_))));obtain ⟨it,fp,tn,J,H2,rfl,I2,T,st2,f2,W,⟨m0,w0⟩,lF⟩:=h2;refine O2 (wpAny_runOwn ?_);have loop:R5 (PX X.prog X.w) X.A (.compLoop (.ListComp elt gens scope pos) (d + 1) (.ref it) (.ref D) X.env) (fun r s'=>match r with
   |.ok _=>Pp (PX X.prog X.w) X.A (pure ()) (λ_ s'=>∃ σ' H' ys' its' n',aJ X ((D,GS its' n')::pins) σ' H' s'/\aU ys' its'/\Q σ' H' ys') (λ_ _=>False) s'
   |.error e=>cameBackBy (PX X.prog X.w) X.A X.env (λ_ _=>False) e s') s2:=by
  refine rT hd (λk s'=>∃ i σ' H' ys' its' n',aJ X ((D,GS its' n')::pins) σ' H' s'/\tn i s'.heap/\(∀ b∈fp,H' b=none)/\aU ys' its'/\W i k σ' H' ys') ?_ m0
   ⟨0,σ,H2,ys,its,n,I2,st2,λb hb=>(f2 b hb).1,rv,w0⟩
  rintro k s' ⟨i,σ',H',ys',its',n',I',tn',fr',rv',w'⟩;have fpOk:∀ {H':Hp}{o:Obj},(∀ b∈fp,H' b=none)->∀ b∈fp,oQ X ((D,o)::pins) H' b:=λ{H' o} hn b hb=>by
   obtain⟨_,g1,g2,g3,g4,g5⟩:=f2 b hb;refine⟨hn b hb,g1,g2,g3,g4,λp hp=>?_⟩;rcases Qe.mp hp with hp|hp
   ·exact g5 p (RL _ hp)
   ·rcases Pq.mp hp with rfl|hp
    ·exact g5 (D,GS its n) (Py _ PQ)
    ·exact g5 p (Py _ (Pj _ hp))
  rcases lF i k σ' H' ys' w' with ⟨stop,fin⟩|⟨go,step⟩
  ·refine QI (T.done X rfl rfl rfl hc i _ s' σ' H' (λ_ _=>False) I' (fpOk fr') tn' stop) (λr s1 hr=>?_) λ_ _ z=>z
   obtain⟨rfl,I1⟩:=hr;exact O5 ⟨σ',H',ys',its',n',I1,rv',fin⟩
  ·refine QI (T.item X rfl rfl rfl hc i _ s' σ' H' (λ_ _=>False) I' (fpOk fr') tn' go) (λr s4 hr=>?_) λ_ _ z=>z
   obtain⟨u,rfl,h4⟩:=hr;refine QI h4 (λ_ s5 h5=>?_) λ_ _ z=>z
   obtain⟨x,H5,I5,r5,y5,tn5,fr5⟩:=h5;have I5':=I5.pinned (fpOk fr5) (T.obj _ _ tn5);have hg':=hg _ s5 σ' H5 x u _ I5' r5 (step x H5 y5);rw[hx] at hg';refine cy hg' λ_ s6 h6=>?_
   obtain⟨σ6,H6,I6,q6⟩:=h6;have ht':=ht _ s6 σ6 H6 _ I6 q6;rw[hx] at ht';refine cy ht' λok s7 h7=>?_
   obtain⟨H7,I7,q7⟩:=h7;have weak:∀ {s8:Pf}{σ8:L2.St}{H8:Hp}{its8:List O6}{n8:Nat},aJ X ((D,GS its8 n8)::(pins++kE fp s5.heap)) σ8 H8 s8->aJ X ((D,GS its8 n8)::pins) σ8 H8 s8/\tn (i+1) s8.heap/\∀ b∈fp,H8 b=none:=λ{s8 σ8 H8 its8 n8} I8=>by
    refine⟨I8.pins_of λp hp=>I8.pin p (Py _ ?_),T.keep _ _ _ tn5 λb hb o e=>(I8.pin (b,o) (Py _ (Pj _ (Py _ (gg hb e))))).1,λb hb=>?_⟩
    ·rcases Pq.mp hp with rfl|hp
     ·exact PQ
     ·exact Pj _ (RL _ hp)
    ·obtain⟨o,e,_⟩:=T.obj _ _ tn5 b hb;exact(I8.pin (b,o) (Py _ (Pj _ (Py _ (gg hb e))))).2.1
   cases ok with
   |false=>
    obtain⟨m',hm,w8⟩:=q7;obtain⟨a,b,c⟩:=weak I7;exact⟨m',hm,i+1,σ6,H7,ys',its',n',a,b,c,rv',w8⟩
   |true=>
    have D7:N1 X (pins++kE fp s5.heap) D:=⟨hD.1,hD.2.1,hD.2.2.1,λp hp=>by
     rcases Qe.mp hp with hp|hp
     ·exact hD.2.2.2 p (RL _ hp)
     ·rcases Qe.mp hp with hp|hp
      ·exact hD.2.2.2 p (Py _ hp)
      ·exact λz=>(f2 _ (rE hp).1).2.2.2.2.2 (D,GS its n) (Py _ PQ) z.symm⟩
    refine QI (hb D _ s7 σ6 H7 ys' its' n' _ I7 D7 rv' q7) (λ_ s8 h8=>?_) λ_ _ z=>z
    obtain⟨σ8,H8,ys8,its8,n8,I8,rv8,m',hm,w8⟩:=h8;obtain⟨a,b,c⟩:=weak I8;exact⟨m',hm,i+1,σ8,H8,ys8,its8,n8,a,b,c,rv8,w8⟩
 exact y4 hd loop (T.self _ 0 _ _ _ st2 loop)
end
def Cd (J:It)(g:TG)(tt:TT)(tb:TB)(σ0:L2.St)(Fin:List V->Hp->Prop)(H1:Hp):Prop:=∃ W:Nat->Nat->List V->Hp->Prop,(∃ m,W 0 m [] H1)/\∀ i m ys H2,W i m ys H2 ->
 (J.stop i H2/\ys.length<=Pz/\Fin ys H2) \/
 (J.go i H2/\∀ x H3,J.yld i H2 x H3->g x σ0 H3 λσ' H4=>tt σ' H4 λb H5=>if b=true then tb σ' H5 ys λ_ H6 ys'=>∃ m',m'<m/\W (i+1) m' ys' H6 else ∃ m',m'<m/\W (i+1) m' ys H5)
section
variable {X:Cx}{pins:List (Po×Obj)}{σ:L2.St}{H H2:Hp}{s s2:Pf}
theorem rG {N:List Str}{scope:Uw}{elt tg iter:Rz}{ifs:List Rz}{gZ:List TZ}{pos:Pos}{it:Po}{fp:List Po}{tn:Nat->Q9->Prop}{J:It}{g:TG}{tt:TT}{tb:TB}{σ0:L2.St}{Fin:List V->Hp->Prop}
  {E:O6->Pf->Prop}{RR:O6->Po->Result->Pf->Prop}(hc:X.calm=true)(I:aJ X pins σ H2 s2)(S:A' X scope)
  (hcap:uz X scope N σ σ0)(hlen:σ0.length=N.length)(f2:∀ b∈fp,oQ X pins H2 b)(T:xR X.prog X.w X.K tg J fp it tn)(st2:tn 0 s2.heap)
  (hg:∀ C,PG (bR X N scope (bB X scope C) C s2 H2 fp pins) tg g)(ht:∀ C,Ov (bR X N scope (bB X scope C) C s2 H2 fp pins) ifs tt)(he:∀ C,PB (bR X N scope (bB X scope C) C s2 H2 fp pins) elt (⟨tg,iter,ifs,0⟩::gZ) scope pos 0 tb)(hw:Cd J g tt tb σ0 Fin H2)
  (hRR:∀ (D C:Po) (s':Pf) (H':Hp) (ys:List V),aJ X pins σ (upd H' D (.lst ys)) s'->H' D=none->Fin ys H'->(∃ m,s'.heap.Ns C m)->H' C=none->D≠C->s2.heap.objs.size<=C->RR (.ref D) C (.ok .next) s'):
  Pp (PX X.prog X.w) X.A (newList []) (λacc s₃=>Pp (PX X.prog X.w) X.A (Vy scope X.env.globals (vX X.env.cells scope.names []) [] X.env.qual none .none (M X.env)) (λcenv s₄=>
   R5 (PX X.prog X.w) X.A (.compStart (.ListComp elt (⟨tg,iter,ifs,0⟩::gZ) scope pos) 0 (.ref it) acc { cenv with scope:=relabel scope X.env }) (RR acc cenv.locals) s₄) E s₃) E s2:=by
 obtain⟨W,⟨m0,w0⟩,lF⟩:=hw;refine QJ (G4 λh1 hns1 own1 kk1=>?_);dsimp only at hns1 own1 kk1 ⊢;generalize hG:s2.heap.push { cls:=.type "list",dict:=none,data:=.seq ([]:List O6).toArray }=G at hns1 own1 kk1 ⊢;have hC:G.objs.size=s2.heap.objs.size+1:=by rw[<- hG,P']
 have hDC:s2.heap.objs.size≠G.objs.size:=by rw[hC];exact Pr (Rc _)
 have below:∀ b,b<s2.heap.objs.size->b≠G.objs.size:=λb hb=>by rw[hC];exact Pr (To hb)
 have old:∀ b o,s2.heap.get? b=M o->h1.get? b=M o:=λb o e=>kk1 b o (hG▸O3 _ e)
 have hacc:h1.get? s2.heap.objs.size=M { cls:=.type "list",data:=.seq ([]:List O6).toArray 0 }:=kk1 _ _ (hG▸O8 _ Y);have cellLt:∀ x c,X.env.cells.lookup x=M c->c<s2.heap.objs.size:=λx c e=>by
  obtain⟨v,q⟩:=I.cell x c e;exact q.lt
 have big:∀ c:Po,G.objs.size+1<=c->s2.heap.objs.size+2<=c:=λc h=>by rw[hC] at h;exact h
 have fo:∀ b∈fp,∃ o,s2.heap.get? b=M o:=λb hb=>let ⟨o,e,_⟩:=T.obj 0 _ st2 b hb;⟨o,e⟩
 have fpLt:∀ b∈fp,b<s2.heap.objs.size:=λb hb=>let ⟨o,e⟩:=fo b hb;O7 e
 have st1:tn 0 h1:=T.keep 0 _ _ st2 λb _ o e=>old b o e
 have hCle:s2.heap.objs.size<=G.objs.size:=by rw[hC];exact UW _
 have I0:∀ tk,aJ (bR X N scope (bB X scope G.objs.size) G.objs.size s2 H2 fp pins) [(s2.heap.objs.size,{ cls:=.type "list",data:=.seq ([]:List O6).toArray 0 })] σ0 H2 { s2 with heap:=h1,toks:=tk }:=λtk=>
  Fp I S hcap hlen f2 fo hCle (Pe _) hDC old hns1 hacc (λv z=>nomatch z) λx c e l=>(own1 x c e).resolve_left λz=>by
   rcases jq S.free z with z|⟨_,z⟩
   ·cases z
   ·exact absurd (cellLt x c z) (Q7.mpr (PP (SR _ 2) (big c l)))
 have fpOk:∀ {H':Hp}{o:Obj},(∀ b∈fp,H' b=none)->∀ b∈fp,oQ (bR X N scope (bB X scope G.objs.size) G.objs.size s2 H2 fp pins) [(s2.heap.objs.size,o)] H' b:=λ{H' o} hn b hb=>by
  obtain⟨_,g1,g2,g3,g4,g5⟩:=f2 b hb;refine⟨hn b hb,below b (fpLt b hb),xV I g1 g2,.inl hb,λx c e=>?_,λp hp=>?_⟩;rcases iW S e with ⟨e,_⟩|⟨l,_⟩
  ·exact g4 x c e
  ·exact λz=>absurd (fpLt b hb) (Q7.mpr (z▸PP (SR _ 2) (big c l)))
  rcases Qe.mp hp with hp|hp
  ·exact g5 p hp
  ·cases O9.mp hp;exact λz=>absurd (z▸fpLt b hb) (Qk _)
 have loop:∀ s3:Pf,s3.heap=h1->s3.gens=s2.gens->s3.os=s2.os->aJ (bR X N scope (bB X scope G.objs.size) G.objs.size s2 H2 fp pins) [(s2.heap.objs.size,{ cls:=.type "list",data:=.seq ([]:List O6).toArray 0 })] σ0 H2 s3 ->
   R5 (PX X.prog X.w) X.A (.compLoop (.ListComp elt (⟨tg,iter,ifs,0⟩::gZ) scope pos) 0 (.ref it) (.ref s2.heap.objs.size) (Vm scope (bB X scope G.objs.size) G.objs.size X.env)) (RR (.ref s2.heap.objs.size) G.objs.size) s3:=by
  intro s3 e3 _ _ I3;refine rT (d:=0) Y (λk s'=>∃ i ys its n H',aJ (bR X N scope (bB X scope G.objs.size) G.objs.size s2 H2 fp pins) [(s2.heap.objs.size,{ cls:=.type "list",data:=.seq (its:List O6).toArray n })] σ0 H' s'/\tn i s'.heap/\(∀ b∈fp,H' b=none)/\aU ys its/\W i k ys H') ?_ m0
   ⟨0,[],[],0,H2,I3,by rw[e3];exact st1,λb hb=>(f2 b hb).1,.nil,w0⟩
  rintro k s' ⟨i,ys,its,n,H',I',tn',fr',rv,w'⟩;rcases lF i k ys H' w' with ⟨stop,hz,fin⟩|⟨go,step⟩
  ·refine QI (T.done (bR X N scope (bB X scope G.objs.size) G.objs.size s2 H2 fp pins) rfl rfl rfl hc i _ s' σ0 H' (λ_ _=>False) I' (fpOk fr') tn' stop) (λr s1 hr=>?_) λ_ _ z=>z
   obtain⟨rfl,I1⟩:=hr;obtain⟨m,hn,_⟩:=id I1.loc;exact hRR _ _ s1 H' ys (Fv I f2 (Pe _) I1 rv hz) (I1.pin _ (Py _ PQ)).2.1 fin ⟨m,hn⟩ I1.free hDC hCle
  ·refine QI (T.item (bR X N scope (bB X scope G.objs.size) G.objs.size s2 H2 fp pins) Y Y Y hc i _ s' σ0 H' (λ_ _=>False) I' (fpOk fr') tn' go) (λr s4 hr=>?_) λ_ _ z=>z
   obtain⟨u,rfl,h4⟩:=hr;refine QI h4 (λ_ s5 h5=>?_) λ_ _ z=>z
   obtain⟨x,H5,I5,r5,y5,tn5,fr5⟩:=h5;have I5':=I5.pinned (fpOk fr5) (T.obj _ _ tn5);refine cy (hg G.objs.size _ s5 σ0 H5 x u _ I5' r5 (step x H5 y5)) λ_ s6 h6=>?_
   obtain⟨σ6,H6,I6,q6⟩:=h6;refine cy (ht G.objs.size _ s6 σ6 H6 _ I6 q6) λok s7 h7=>?_
   obtain ⟨H7,I7,q7⟩:=h7;have weak:∀ {s8:Pf}{σ8:L2.St}{H8:Hp}{its':List O6}{n':Nat},aJ (bR X N scope (bB X scope G.objs.size) G.objs.size s2 H2 fp pins) ([(s2.heap.objs.size,{ cls:=.type "list",data:=.seq its'.toArray n' })] ++ kE fp s5.heap) σ8 H8 s8 ->
     aJ (bR X N scope (bB X scope G.objs.size) G.objs.size s2 H2 fp pins) [(s2.heap.objs.size,{ cls:=.type "list",data:=.seq its'.toArray n' })] σ0 H8 s8/\tn (i+1) s8.heap/\∀ b∈fp,H8 b=none:=λ{s8 σ8 H8 its' n'} I8=>by
    have st8:tn (i+1) s8.heap:=T.keep _ _ _ tn5 λb hb o e=>(I8.pin (b,o) (Py _ (Py _ (gg hb e)))).1
    have fr8:∀ b∈fp,H8 b=none:=λb hb=>by
     obtain⟨o,e,d⟩:=T.obj _ _ tn5 b hb;exact(I8.pin (b,o) (Py _ (Py _ (gg hb e)))).2.1
    refine⟨?_,st8,fr8⟩;obtain⟨m8,hn8,_⟩:=id I8.loc;have J:=I8.unpinned;exact⟨J.ok,J.os,J.bare,J.base,⟨m8,hn8,λj y v e1 e2 _=>by
     obtain⟨m00,_,hm00⟩:=(I0 0).loc;obtain⟨u',r',l'⟩:=hm00 j y v e1 e2 (by
      obtain⟨_,_,_,_,_,z⟩:=hcap j y v e1 e2;exact .inr z)
     obtain⟨j',j1,j2,j3,jf,j4⟩:=hcap j y v e1 e2;rcases l' with ⟨k',_⟩|⟨k',c,ec,z⟩
     ·exfalso;have k'':(Vm scope [] 0 X.env).kindOf y=M .local:=k';rcases j4 with q|q<;>(rw[q] at k'';cases k'')
     ·have eo:X.env.cells.lookup y=M c:=by
       rcases iW S ec with ⟨e,_⟩|⟨_,k2⟩
       ·exact e
       ·rw[jf] at k2;cases k2
      refine⟨u',r',.inr ⟨k',c,ec,?_⟩⟩;obtain⟨oc,hoc,hd⟩:=z;have hlt:c<s2.heap.objs.size:=by
       obtain⟨v',q⟩:=I.cell y c eo;exact q.lt
      have hoc2:s2.heap.get? c=M oc:=by
       obtain⟨v',o',q',d'⟩:=I.cell y c eo;have e':=old c o' q';have hoc':h1.get? c=M oc:=hoc;rw[e'] at hoc';cases hoc';exact q'
      have nfp:c∉fp:=λz=>(f2 c z).2.2.2.2.1 y c eo rfl
      by_cases hfs:c∈Bw X.stack
      ·obtain⟨sl,q⟩:=J.base.slot c oc hoc2 (I.freeC y c eo) hfs nfp;exact⟨_,q,hd⟩
      ·exact⟨oc,J.base.keep c oc hoc2 (I.freeC y c eo) hfs nfp,hd⟩⟩,J.cell,J.free,J.freeC,J.pin,J.hok,hlen⟩
   cases ok with
   |false=>
    obtain⟨m',hm,w8⟩:=q7;obtain⟨I8,st8,fr8⟩:=weak I7;exact⟨m',hm,i+1,ys,its,n,H7,I8,st8,fr8,rv,w8⟩
   |true=>
    have D7:N1 (bR X N scope (bB X scope G.objs.size) G.objs.size s2 H2 fp pins) (kE fp s5.heap) s2.heap.objs.size:=by
     refine⟨hDC,.inr (Pe _),λx c e z=>?_,λp hp z=>?_⟩
     ·rcases iW S e with ⟨e,_⟩|⟨l,_⟩
      ·exact absurd (z▸cellLt x c e) (Qk _)
      ·exact absurd (PP (SR _ 1) (big c l)) (by rw[z];exact Nat.not_succ_le_self _)
     ·rcases Qe.mp hp with hp|hp
      ·exact absurd (z▸O7 (I.pin p hp).1) (Qk _)
      ·exact absurd (z▸fpLt _ (rE hp).1) (Qk _)
    refine QI (he G.objs.size _ (kE fp s5.heap) s7 σ6 H7 ys its n _ I7 D7 rv q7) (λ_ s8 h8=>?_) λ_ _ z=>z
    obtain⟨σ8,H8,ys8,its8,n8,I8,rv8,m',hm,w8⟩:=h8;obtain⟨L1,L2',L3⟩:=weak I8;exact⟨m',hm,i+1,ys8,its8,n8,H8,L1,L2',L3,rv8,w8⟩
 exact codeAny_compStart_list (loop _ Y Y Y (I0 _)) (T.self _ 0 _ _ _ st1 (loop _ Y Y Y (I0 _)))
end
section
variable {X:Cx}{pos:Pos}
def LJ (wi:TI)(g:TG)(tt:TT)(tb:TB)(mk:L2.St->L2.St):TE:=λσ H Q=>wi σ H λJ H1=>Cd J g tt tb (mk σ) (λys H2=>∀ D,H2 D=none->Q (.ref D) (upd H2 D (.lst ys))) H1
theorem EY {N:List Str}{gZ:List TZ}{scope:Uw}{elt tg iter:Rz}{ifs:List Rz}{wi:TI}{g:TG}{tt:TT}{tb:TB}{mk:L2.St->L2.St} (hc:X.calm=true) (hi:WI X tg iter wi) (S:A' X scope) (hcap:∀ σ,σ.length=X.N.length->uz X scope N σ (mk σ)/\(mk σ).length=N.length)
  (hg:∀ C s0 H0 fp pn,WG (bR X N scope (bB X scope C) C s0 H0 fp pn) tg g)(ht:∀ C s0 H0 fp pn,Kl (bR X N scope (bB X scope C) C s0 H0 fp pn) ifs tt)(he:∀ C s0 H0 fp pn,WB (bR X N scope (bB X scope C) C s0 H0 fp pn) elt (⟨tg,iter,ifs,0⟩::gZ) scope pos 0 tb)
  (hs:∀ x,Rg iter X.env x=pure x:=by intro _;rfl):WE X (.ListComp elt (⟨tg,iter,ifs,0⟩::gZ) scope pos) (LJ wi g tt tb mk):=by
 have hi:=hi.go;have hg:=λC s0 H0 fp pn=>(hg C s0 H0 fp pn).go
 have ht:=λC s0 H0 fp pn=>(ht C s0 H0 fp pn).go
 have he:=λC s0 H0 fp pn=>(he C s0 H0 fp pn).go
 refine⟨?_⟩;intro pins s σ H Q I h;rw[eval_ListComp];refine TY (use:=none) Y hs (uB S.free) S.kind (λy hy e=>by rw[S.once y hy,e]) ?_;refine cy (hi pins s σ H _ I h) λv s1 h1=>cy h1 λitv s2 h2=>?_
 obtain⟨it,fp,tn,J,H2,rfl,I2,T,st2,f2,hw⟩:=h2;have hcp:=hcap σ I2.len;refine rG hc I2 S hcp.1 hcp.2 f2 T st2 (λC=>hg C _ _ _ _) (λC=>ht C _ _ _ _) (λC=>he C _ _ _ _) hw ?_;intro D C s' H' ys I' hD fin hm hC hDC hle;obtain⟨m,hn⟩:=hm;refine⟨m,hn,λh' hs'=>⟨.ref D,_,?_,Y,fin D hD⟩⟩;exact I'.turned (it:=C) (t':=s'.toks) (λb o hb e=>hs'.extBut b o hb e) (by rw[au (RZ hDC)];exact hC) (λz=>absurd (z▸I2.lt) (Q7.mpr hle)) (.inr (PP I2.sz hle))
  (λx c e z=>by
   obtain⟨v',q⟩:=I2.cell x c e;exact absurd (z▸q.lt) (Q7.mpr hle))
  (λp hp z=>absurd (z▸O7 (I2.pin p hp).1) (Q7.mpr hle))
end
section
variable {X:Cx}{pins:List (Po×Obj)}{σ:L2.St}{H H2:Hp}{s s2:Pf}
theorem ub {N:List Str}{scope:Uw}{elt tg iter:Rz}{ifs:List Rz}{pos:Pos}{it:Po}{fp:List Po}{tn:Nat->Q9->Prop}{J:It}{g:TG}{tt:TT}{te:TE}{σ0:L2.St}{Fin:List V->Hp->Prop}
  {E:O6->Pf->Prop}{RR:O6->Po->Result->Pf->Prop}(hc:X.calm=true)(I:aJ X pins σ H2 s2)(S:A' X scope)
  (hcap:uz X scope N σ σ0)(hlen:σ0.length=N.length)(f2:∀ b∈fp,oQ X pins H2 b)(T:xR X.prog X.w X.K tg J fp it tn)(st2:tn 0 s2.heap)
  (hg:∀ C,PG (bR X N scope (bB X scope C) C s2 H2 fp pins) tg g)(ht:∀ C,Ov (bR X N scope (bB X scope C) C s2 H2 fp pins) ifs tt)(he:∀ C,PE (bR X N scope (bB X scope C) C s2 H2 fp pins) elt te)(hw:gf J g tt te σ0 Fin H2)
  (hRR:∀ (D C:Po) (s':Pf) (H':Hp) (ys:List V),aJ X pins σ (upd H' D (.lst ys)) s'->H' D=none->Fin ys H'->(∃ m,s'.heap.Ns C m)->H' C=none->D≠C->s2.heap.objs.size<=C->RR (.ref D) C (.ok .next) s'):
  Pp (PX X.prog X.w) X.A (newList []) (λacc s₃=>Pp (PX X.prog X.w) X.A (Vy scope X.env.globals (vX X.env.cells scope.names []) [] X.env.qual none .none (M X.env)) (λcenv s₄=>
   R5 (PX X.prog X.w) X.A (.compStart (.ListComp elt [⟨tg,iter,ifs,0⟩] scope pos) 0 (.ref it) acc { cenv with scope:=relabel scope X.env }) (RR acc cenv.locals) s₄) E s₃) E s2:=by
 obtain⟨W,h0,lF⟩:=hw;refine rG (gZ:=[]) (tb:=CT te) hc I S hcap hlen f2 T st2 hg ht (λC=>C6 rfl rfl (he C)) ⟨W,h0,λi m ys H w=>?_⟩ hRR;rcases lF i m ys H w with h|⟨h1,h2,h3⟩
 ·exact .inl h
 ·refine .inr ⟨h1,λx H3 y=>?_⟩;have:=h3 x H3 y
  simpa only [CT,h2,true_and] using this
end
section
variable {X:Cx}{pos:Pos}
def Db (wi:TI)(g:TG)(tt:TT)(te:TE)(mk:L2.St->L2.St):TE:=λσ H Q=>wi σ H λJ H1=>gf J g tt te (mk σ) (λys H2=>∀ D,H2 D=none->Q (.ref D) (upd H2 D (.lst ys))) H1
theorem GR (hc:X.calm=true) (hi:WI X tg iter wi) (S:A' X scope) (hcap:∀ σ,σ.length=X.N.length->uz X scope N σ (mk σ)/\(mk σ).length=N.length)
  (hg:∀ C s0 H0 fp pn,WG (bR X N scope (bB X scope C) C s0 H0 fp pn) tg g)(ht:∀ C s0 H0 fp pn,Kl (bR X N scope (bB X scope C) C s0 H0 fp pn) ifs tt)(he:∀ C s0 H0 fp pn,WE (bR X N scope (bB X scope C) C s0 H0 fp pn) elt te)
  (hs:∀ x,Rg iter X.env x=pure x:=by intro _;rfl):WE X (.ListComp elt [⟨tg,iter,ifs,0⟩] scope pos) (Db wi g tt te mk):=by
 have hi:=hi.go;have hg:=λC s0 H0 fp pn=>(hg C s0 H0 fp pn).go
 have ht:=λC s0 H0 fp pn=>(ht C s0 H0 fp pn).go
 have he:=λC s0 H0 fp pn=>(he C s0 H0 fp pn).go
 refine⟨?_⟩;intro pins s σ H Q I h;rw[eval_ListComp];refine TY (use:=none) Y hs (uB S.free) S.kind (λy hy e=>by rw[S.once y hy,e]) ?_;refine cy (hi pins s σ H _ I h) λv s1 h1=>cy h1 λitv s2 h2=>?_
 obtain⟨it,fp,tn,J,H2,rfl,I2,T,st2,f2,hw⟩:=h2;have hcp:=hcap σ I2.len;refine ub hc I2 S hcp.1 hcp.2 f2 T st2 (λC=>hg C _ _ _ _) (λC=>ht C _ _ _ _) (λC=>he C _ _ _ _) hw ?_;intro D C s' H' ys I' hD fin hm hC hDC hle;obtain⟨m,hn⟩:=hm;refine⟨m,hn,λh' hs'=>⟨.ref D,_,?_,Y,fin D hD⟩⟩;exact I'.turned (it:=C) (t':=s'.toks) (λb o hb e=>hs'.extBut b o hb e) (by rw[au (RZ hDC)];exact hC) (λz=>absurd (z▸I2.lt) (Q7.mpr hle)) (.inr (PP I2.sz hle))
  (λx c e z=>by
   obtain⟨v',q⟩:=I2.cell x c e;exact absurd (z▸q.lt) (Q7.mpr hle))
  (λp hp z=>absurd (z▸O7 (I2.pin p hp).1) (Q7.mpr hle))
end
section
variable {X:Cx}{pos:Pos}
def HZ (i:Nat)(wi:TI)(g:TG)(tt:TT)(te:TE)(mk:L2.St->L2.St):TS:=λE σ H=>wi σ H λJ H1=>gf J g tt te (mk σ) (λys H2=>∀ D,H2 D=none->E.nx (σ.set i (M (.ref D))) (upd H2 D (.lst ys))) H1
theorem Al {i:Nat} (hc:X.calm=true) (hN:X.N.Nodup) (hi':X.N[i]?=M y) (hy:X.env.scope.names.lookup y=M .local)
  (hi:WI X tg iter wi)(S:A' X scope)(hcap:∀ σ,σ.length=X.N.length->uz X scope N σ (mk σ)/\(mk σ).length=N.length)
  (hg:∀ C s0 H0 fp pn,WG (bR X N scope (bB X scope C) C s0 H0 fp pn) tg g)(ht:∀ C s0 H0 fp pn,Kl (bR X N scope (bB X scope C) C s0 H0 fp pn) ifs tt)(he:∀ C s0 H0 fp pn,WE (bR X N scope (bB X scope C) C s0 H0 fp pn) elt te)
  (hsw:VU (.ListComp elt [⟨tg,iter,ifs,0⟩] scope pos) (M (.Name y py)) spos.line X.env=pure true:=by rfl)
  (hs:∀ x,Rg iter X.env x=pure x:=by intro _;rfl):WS X (.Assign [.Name y py] (.ListComp elt [⟨tg,iter,ifs,0⟩] scope pos) spos) (HZ i wi g tt te mk):=by
 have hi:=hi.go;have hg:=λC s0 H0 fp pn=>(hg C s0 H0 fp pn).go
 have ht:=λC s0 H0 fp pn=>(ht C s0 H0 fp pn).go
 have he:=λC s0 H0 fp pn=>(he C s0 H0 fp pn).go
 refine⟨?_⟩;intro pins s σ H E I h;rw[exec_Assign_Name_used _ _ _ _ hsw];refine O2 (Sg (O2 ?_));show Pp _ X.A (do let _ <- comprehension (.ListComp elt [⟨tg,iter,ifs,0⟩] scope pos) scope X.env _ (newList []) false (Ts iter X.env) (M (assign (.Name y py) X.env))) _ _ s;refine O2 (QI (TY (use:=M (assign (.Name y py) X.env)) (Q:=λ_ s'=>SP X pins E .next s') Y hs (uB S.free) S.kind (λy hy e=>by rw[S.once y hy,e]) ?_) (λ_ s' hq=>O5 (O5 hq)) λ_ _ e=>e);refine cy (hi pins s σ H _ I h) λv s1 h1=>cy h1 λitv s2 h2=>?_
 obtain⟨it,fp,tn,J,H2,rfl,I2,T,st2,f2,hw⟩:=h2;have hcp:=hcap σ I2.len;refine ub hc I2 S hcp.1 hcp.2 f2 T st2 (λC=>hg C _ _ _ _) (λC=>ht C _ _ _ _) (λC=>he C _ _ _ _) hw ?_;intro D C s' H' ys I' hD fin hm hC hDC hle;obtain⟨m,hn⟩:=hm;have neC:X.env.locals≠C:=λz=>absurd (z▸I2.lt) (Q7.mpr hle)
 have upC:(upd H' D (.lst ys)) C=none:=by rw[au (RZ hDC)];exact hC
 show Pp _ X.A (assign (.Name y py) X.env (.ref D)) _ _ s';refine wpAny_assign_Name (wS I' hN hi' (.inl hy) (v:=.ref D) (u:=.ref D) Y (λs3 I3 ⟨a,sb,ha⟩=>?_) (.inr hy));have aC:C≠a:=by
  rcases ha with e|e
  ·rw[e];exact RZ neC
  ·intro z;obtain⟨v',q⟩:=I2.cell y a e;exact absurd (z▸q.lt) (Q7.mpr hle)
 refine⟨m,hn.sameBut sb aC,λh' hs'=>⟨_,_,?_,fin D hD⟩⟩;exact I3.turned (it:=C) (t':=s3.toks) (λb o hb e=>hs'.extBut b o hb e) upC (RZ neC) (.inr (PP I2.sz hle))
  (λx c e z=>by
   obtain⟨v',q⟩:=I2.cell x c e;exact absurd (z▸q.lt) (Q7.mpr hle))
  (λp hp z=>absurd (z▸O7 (I2.pin p hp).1) (Q7.mpr hle))
end
end TR
namespace L2
open PySem PySem.Spec PyProof.Rows
section
variable {κ:Type}[DecidableEq κ]
def pK (kvs:List (κ×V))(k:κ):Option V:=(kvs.find? λkv=>decide (kv.1=k)).map (·.2)
def oC (kvs:List (κ×V))(k:κ)(v:V):List (κ×V):=
 if(kvs.any λkv=>decide (kv.1=k))=true then kvs.map (λkv=>if kv.1=k then(kv.1,v) else kv) else kvs++[(k,v)]
theorem pX {p:κ×V}{r:List (κ×V)}{k:κ}(e:p.1=k):pK (p::r) k=M p.2:=by simp[pK,RY,e]
theorem l0 {p:κ×V}{r:List (κ×V)}{k:κ}(e:¬ p.1=k):pK (p::r) k=pK r k:=by simp[pK,RY,e]
theorem vg (k:κ):∀ kvs:List (κ×V),(kvs.any λkv=>decide (kv.1=k))=(pK kvs k).isSome
 |[]=>rfl
 |p::r=>by
  rw[Xn]
  by_cases e:p.1=k
  ·simp only[pX e,Ph e,Bool.true_or,Xp]
  ·rw[l0 e,Qf e,Bool.false_or];exact vg k r
theorem rP (kvs:List (κ×V))(k:κ)(v:V):(oC kvs k v).length<=kvs.length+1:=by
 unfold oC
 split
 ·rw[Pb];lia
 ·rw[PV,Qw,US];lia
theorem FF {kvs:List (κ×V)}{k:κ}(v:V)(h:pK kvs k=none):oC kvs k v=kvs++[(k,v)]:=by
 unfold oC;rw[vg,h];exact P3 (by decide)
theorem nJ.isSome_eq (r:nJ o u):o.isSome=u.isSome:=by
 cases o with
 |none=>cases u with
  |none=>rfl
  |some _=>exact(show False from r).elim
 |some _=>cases u with
  |none=>exact(show False from r).elim
  |some _=>rfl
theorem KV.val {kvs:List (κ×V)}{vs:List (κ×O6)}(r:KV kvs vs)(k:κ):nJ (pK kvs k) (XV vs k):=by
 unfold KV at r
 induction r with
 |nil=>exact True.intro
 |@cons p q ps qs h t ih=>
  obtain⟨h1,h2⟩:=h
  by_cases e:p.1=k
  ·have e':q.1=k:=h1.symm.trans e;have b:XV (q::qs) k=M q.2:=by simp[XV,RY,e']
   rw[pX e,b];exact h2
  ·have e':¬ q.1=k:=λz=>e (h1.trans z)
   have b:XV (q::qs) k=XV qs k:=by simp[XV,RY,e']
   rw[l0 e,b];exact ih
theorem KV.any (r:KV kvs vs)(k:κ):(kvs.any λkv=>decide (kv.1=k))=vs.any λkv=>decide (kv.1=k):=by
 unfold KV at r
 induction r with
 |nil=>rfl
 |cons h t ih=>rw[Xn,Xn,ih,h.1]
theorem KV.repl (r:KV kvs vs) (k:κ) (ry:bO y u) :
  KV (kvs.map λkv=>if kv.1=k then(kv.1,y) else kv) (vs.map λkv=>if kv.1=k then(kv.1,u) else kv):=by
 unfold KV at r ⊢
 induction r with
 |nil=>exact .nil
 |@cons p q ps qs h t ih=>
  rw[PF,PF];refine .cons ?_ ih;obtain⟨h1,h2⟩:=h
  by_cases e:p.1=k
  ·rw[Qh e,Qh (h1.symm.trans e)];exact⟨h1,ry⟩
  ·rw[P3 e,P3 (λz=>e (h1.trans z))];exact⟨h1,h2⟩
theorem KV.put (r:KV kvs vs)(k:κ)(ry:bO y u):KV (oC kvs k y) (stored vs k u):=by
 unfold oC stored;rw[r.any k]
 by_cases e:(vs.any λkv=>decide (kv.1=k))=true
 ·rw[Qh e,Qh e];exact r.repl k ry
 ·rw[P3 e,P3 e];exact Paired.snoc r ⟨Y,ry⟩
theorem KV.length (r:KV kvs vs):kvs.length=vs.length:=Xq r
end
theorem GL (r:bO (kV k) u):(cq P w).is k u=true:=by
 cases k with
 |inl i=>obtain⟨t,e⟩:=(show ∃ t,u=SD i t from r);subst e;exact Af P w i t
 |inr x=>obtain⟨t,e⟩:=(show ∃ t,u=VQ x t from r);subst e;exact Bs P w x t
theorem wU:∀ {ks:List ij}{us:List O6},aU (ks.map kV) us->ItemsAre (cq P w) ks us
 |[],_,r=>by rw[Sa] at r;cases r;exact .nil
 |k::ks,_,r=>by
  rw[PF] at r;cases r with
  |cons h t=>exact .cons (GL h) (wU t)
abbrev KT (H:Hp):List (List ij×V)->List (List ij×Po×O6)->Prop:=Vi λp q=>p.1=q.1/\H q.2.1=M (.tup (p.1.map kV))/\bO p.2 q.2.2
theorem KT.val {H:Hp}{kvs:List (List ij×V)}{xs:List (List ij×Po×O6)}(r:KT H kvs xs)(k:List ij):nJ (pK kvs k) ((atKey xs k).map (·.2)):=by
 induction r with
 |nil=>exact True.intro
 |@cons p q ps qs h t ih=>
  obtain⟨h1,_,h2⟩:=h
  by_cases e:p.1=k
  ·have e':q.1=k:=h1.symm.trans e;have b:atKey (q::qs) k=M q.2:=by simp[atKey,RY,e']
   rw[pX e,b];exact h2
  ·have e':¬ q.1=k:=λz=>e (h1.trans z)
   have b:atKey (q::qs) k=atKey qs k:=by simp[atKey,RY,e']
   rw[l0 e,b];exact ih
theorem KT.repl (r:KT H kvs xs) (k:List ij) (ry:bO y u) :
  KT H (kvs.map λkv=>if kv.1=k then(kv.1,y) else kv) (xs.map (putAt k u)):=by
 induction r with
 |nil=>exact .nil
 |@cons p q ps qs h t ih=>
  rw[PF,PF];refine .cons ?_ ih;obtain⟨h1,h2,h3⟩:=h;unfold putAt
  by_cases e:p.1=k
  ·rw[Qh e,Qh (h1.symm.trans e)];exact⟨h1,h2,ry⟩
  ·rw[P3 e,P3 (λz=>e (h1.trans z))];exact⟨h1,h2,h3⟩
theorem KT.put (r:KT H kvs xs) (k:List ij) (hb:H b=M (.tup (k.map kV))) (ry:bO y u) :
  KT H (oC kvs k y) (storedH xs k b u):=by
 have e:(kvs.any λkv=>decide (kv.1=k))=(atKey xs k).isSome:=by
  rw[vg,(r.val k).isSome_eq,Option.isSome_map]
 unfold oC storedH;rw[e]
 by_cases q:(atKey xs k).isSome=true
 ·rw[Qh q,Qh q];exact r.repl k ry
 ·rw[P3 q,P3 q];exact Paired.snoc r ⟨Y,hb,ry⟩
theorem KT.keeps (r:KT H kvs xs)(ht:∀ b ys,H b=M (.tup ys)->H' b=M (.tup ys)):KT H' kvs xs:=
 Paired.mapP r λ_ _ z=>⟨z.1,ht _ _ z.2.1,z.2.2⟩
section
variable {P:PU}{w:Qq}{H:Hp}{h:Q9}{a:Po}
theorem Kj (ok:pE P w H h)(e:Rd H a u):ce P w H h a u:=e.ok ok
theorem FV (ok:pE P w H h)(e:Rd H a (.dK kvs)):kvs.length<=Pz/\(a==Rh)=false/\∃ vs,KV kvs vs/\h.DictOf (cq P w) a vs:=
 show ce P w H h a (.dK kvs) from Kj ok e
theorem Nx (ok:pE P w H h)(e:H a=M (.dK kvs)):kvs.length<=Pz/\(a==Rh)=false/\∃ vs,KV kvs vs/\h.DictOf (cq P w) a vs:=FV ok (.inl e)
theorem zP (ok:pE P w H h)(e:H a=M (.tup (ks.map kV))):(Th (cq P w)).is h ks a:=by
 obtain⟨_,its,r,o,h1,h2,n,h3⟩:=(show ce P w H h a (.tup (ks.map kV)) from ok a _ e)
 exact⟨o,its.toArray,n,h1,h2,h3,by simpa using wU r⟩
theorem xF (ok:pE P w H h) (e:Rd H a (.dT kvs)):kvs.length <= Pz/\(a == Rh)=false /\
  ∃ xs,KT H kvs xs/\h.DictOfH (Th (cq P w)) a xs:=by
 obtain⟨z,y,xs,r,o,es,ep,h1,h2,h3,h4,h5⟩:=(show ce P w H h a (.dT kvs) from Kj ok e)
 refine⟨z,y,xs,r,o,es,ep,h1,h2,h3,h4,λx hx=>?_,h5⟩;have all:∀ {l:List (List ij×V)}{m:List (List ij×Po×O6)},KT H l m->∀ x∈m,(Th (cq P w)).is h x.1 x.2.1:=by
  intro l m q
  induction q with
  |nil=>intro x hx;exact nomatch hx
  |@cons p q ps qs hq t ih=>
   intro x hx;rcases Pq.mp hx with e|hx
   ·subst e;exact zP ok (by rw[<- hq.1];exact hq.2.1)
   ·exact ih x hx
 exact all r x hx
theorem Nh (ok:pE P w H h) (e:H a=M (.dT kvs)):kvs.length <= Pz/\(a == Rh)=false /\
  ∃ xs,KT H kvs xs/\h.DictOfH (Th (cq P w)) a xs:=xF ok (.inl e)
end
def Cw (H:Hp)(a:Po)(y:V)(r:Option V):Prop:=
 (∃ kvs k,Rd H a (.dK kvs)/\y=kV k/\r=pK kvs k)\/∃ kvs k b,Rd H a (.dT kvs)/\y=.ref b/\H b=M (.tup (k.map kV))/\r=pK kvs k
def ES (H:Hp)(a:Po)(y v:V)(H':Hp):Prop:=
 (∃ kvs k,H a=M (.dK kvs)/\y=kV k/\kvs.length<Pz/\H'=upd H a (.dK (oC kvs k v))) \/
 ∃ kvs k b,H a=M (.dT kvs)/\y=.ref b/\H b=M (.tup (k.map kV))/\kvs.length<Pz/\H'=upd H a (.dT (oC kvs k v))
theorem Cw.t {H:Hp}{a b:Po}{kvs:List (List ij×V)}{k:List ij}(e:H a=M (.dT kvs))(eb:H b=M (.tup (k.map kV))):Cw H a (.ref b) (pK kvs k):=.inr ⟨kvs,k,b,.inl e,rfl,eb,rfl⟩
theorem ES.t {H:Hp}{a b:Po}{kvs:List (List ij × V)}{k:List ij}{v:V} (e:H a=M (.dT kvs)) (eb:H b=M (.tup (k.map kV))) (hl:kvs.length < Pz) :
  ES H a (.ref b) v (upd H a (.dT (oC kvs k v))):=.inr ⟨kvs,k,b,e,rfl,eb,hl,rfl⟩
section
variable {X:Cx}{pins:List (Po×Obj)}{σ:St}{H:Hp}{s:Pf}{a:Po}{y v:V}{u r:O6}{o:Option V}{A:QB}{E:O6->Pf->Prop}
theorem aJ.big (I:aJ X pins σ H s):Rh<s.heap.objs.size:=by
 have h:O_<s.heap.objs.size:=(I.mod.glob.keeps I.bk).lt;exact Te (by decide) h
theorem Ed (hu:A.units + 1 < cLine) (I:aJ X pins σ H s) (g:Cw H a y (M v)) (ry:bO y u) (h:∀ w' s',aJ X pins σ H s'->bO v w'->Q w' s') :
  Pp (PX X.prog X.w) A (Yl (.ref a) u) Q E s:=by
 rcases g with ⟨kvs,k,e,ey,l⟩|⟨kvs,k,b,e,ey,eb,l⟩
 ·subst ey;obtain⟨z,hd,vs,rel,dd⟩:=FV I.hok e;obtain⟨w',hw,rw'⟩:=nJ.some_of (v:=v) (o:=XV vs k) (by rw[l];exact rel.val k);exact wpAny_getItem_of (GL ry) dd.mapOf hw (h w' _ (I.tok _) rw')
 ·subst ey;cases(show u=P2 b from ry);obtain⟨z,hd,xs,rel,dd⟩:=xF I.hok e;obtain⟨w',hw,rw'⟩:=nJ.some_of (v:=v) (o:=(atKey xs k).map (·.2)) (by rw[l];exact rel.val k);obtain⟨p,hp,hp2⟩:=PC.mp hw;refine wpAny_getItem_heap (tupleKind_room_in1 hu) (zP I.hok eb) dd hp ?_;rw[hp2];exact h w' _ (I.tok _) rw'
theorem CQ {t':Nat} (I:aJ X pins σ H s) (mu:Nn (H a)) (hs:Qg a s.heap h') (he:∃ q,h'.get? a=M q) (new:ce X.prog X.w (upd H a ob) h' a ob) :
  aJ X pins σ (upd H a ob) { s with heap:=h',toks:=t' }:=
 I.write (x:=a) (e:=a) mu (.inl rfl) (λb q hb z=>(hs.2 b hb).trans z) he new
theorem KO (z:kvs.length <= Pz) (hd:(a == Rh)=false) (rel:KV kvs vs) (dd:h'.DictOf (cq P w) a vs) :
  ce P w H' h' a (.dK kvs):=⟨z,hd,vs,rel,dd⟩
theorem EB (hu:A.units + 1 < cLine) (I:aJ X pins σ H s) (g:ES H a y v H') (ry:bO y u) (rv:bO v r) (h:∀ s',aJ X pins σ H' s'->Q () s') :
  Pp (PX X.prog X.w) A (setItem (.ref a) u r) Q E s:=by
 rcases g with ⟨kvs,k,e,ey,l,eH⟩|⟨kvs,k,b,e,ey,eb,l,eH⟩
 ·subst ey eH;obtain⟨z,hd,vs,rel,dd⟩:=Nx I.hok e;have hz:vs.length<=Pz:=by rw[<- rel.length];exact z
  have hl:(oC kvs k v).length<=Pz:=by have:=rP kvs k v;lia
  refine wpAny_setItem_pairs (hsz:=hz) (GL ry) dd λh' dd' hs=>h _ ?_
  have he:∃ q,h'.get? a=M q:=let ⟨q,_,_,hq,_⟩:=dd';⟨q,hq⟩
  exact CQ I (by rw[e];exact True.intro) hs he (KO hl hd (rel.put k rv) dd')
 ·subst ey eH;cases(show u=P2 b from ry);obtain⟨z,hd,xs,rel,dd⟩:=Nh I.hok e;have hz:xs.length<=Pz:=by rw[<- Xq rel];exact z
  have hl:(oC kvs k v).length<=Pz:=by have:=rP kvs k v;lia
  refine wpAny_setItem_heap (hsz:=hz) (tupleKind_room_in1 hu) (zP I.hok eb) dd λh' dd' hs=>h _ ?_
  obtain⟨q,es,ep,hq,h2,h3,h4,_,h5⟩:=dd';refine CQ I (by rw[e];exact True.intro) hs ⟨q,hq⟩ ⟨hl,hd,_,(rel.put k eb rv).keeps λc ys ec=>?_,q,es,ep,hq,h2,h3,h4,h5⟩;rw[au (JV ec e (λz=>nomatch z))];exact ec
end
def MI (i:Rz):Prop:=∀ ov iv,subscripted i false ov iv=operate [ov,iv] (Yl ov iv)
theorem JK {prog:PU}{w:Qq}{A:QB}{E:O6->Pf->Prop}{s:Pf}{env:Env}{value slice:Rz}{pos:Pos}{T id:String}{Q:O6->Pf->Prop}
  (hl:WN (.type T) "__getitem__"=pure (M (.builtin id)))(hs:MI slice)
  (h:Pp (PX prog w) A (Ts value env) (λo s₁=>Pp (PX prog w) A (Ts slice env) (λi s₂=>s₂.TypeIs o T/\Pp (PX prog w) A (Yl o i) Q E s₂) E s₁) E s):
  Pp (PX prog w) A (Ts (.Subscript value slice pos) env) Q E s:=by
 refine XS (QI h (λo s₁ h₁=>QI h₁ (λi s₂ h₂=>?_) λ_ _ x=>x) λ_ _ x=>x);obtain⟨hT,h₂⟩:=h₂;unfold Xz;refine O2 ?_;rw[getitemInPython_of_ne hT.not_modules];refine O2 (Tj hT hl ?_);have fin:Pp (PX prog w) A (subscripted slice false o i) (λr s₃=>Pp (PX prog w) A (letTemporaryGo value o r>>=λ_=>pure r) Q E s₃) E s₂:=by
  rw[hs o i];exact wpAny_operating (QI h₂ (λr s₃ h₃=>O2 (wpAny_letTemporaryGo (O5 h₃))) λ_ _ x=>x)
 first
  |exact O5 (O2 fin)
  |exact O2 (O5 (O2 fin))
  |exact O2 fin
theorem Bg (I:aJ X pins σ H s)(g:Cw H a y o):s.TypeIs (.ref a) "dict":=by
 rcases g with ⟨kvs,k,e,_,_⟩|⟨kvs,k,b,e,_,_,_⟩
 ·obtain⟨_,_,vs,_,dd⟩:=FV I.hok e;exact dd.typeIs
 ·obtain⟨_,_,xs,_,dd⟩:=xF I.hok e;exact dd.typeIs
def Nc (td ty:TE):TE:=λσ H Q=>td σ H λx H1=>ty σ H1 λy H2=>∃ a v,x=.ref a/\Cw H2 a y (M v)/\Q v H2
def M8 (td ty tv:TE):TS:=λD σ H=>tv σ H λv H1=>td σ H1 λx H2=>ty σ H2 λy H3=>∃ a H4,x=.ref a/\ES H3 a y v H4/\D.nx σ H4
section
variable {X:Cx}{o i e value:Rz}{pos pos' tpos:Pos}{td ty tv:TE}
theorem pT (hu:X.A.units+1<cLine)(ho:WE X o td)(hi:WE X i ty)(hs:MI i):WE X (.Subscript o i pos) (Nc td ty):=by
 have ho:=ho.go;have hi:=hi.go;refine⟨?_⟩;intro pins s σ H Q I h;refine JK PySem.F.slot_dict_getitem.lookup hs (cy (ho pins s σ H _ I h) λu s1 ⟨x,H1,I1,rx,q1⟩=>cy (hi pins s1 σ H1 _ I1 q1) λiv s2 ⟨y,H2,I2,ry,a,v,ex,g,q2⟩=>?_);subst ex;obtain rfl:u=P2 a:=rx;exact⟨Bg I2 g,Ed hu I2 g ry λw' s3 I3 rw'=>⟨v,H2,I3,rw',q2⟩⟩
theorem AA (hu:X.A.units + 1 < cLine) (ho:WE X o td) (hi:WE X i ty) (hv:WE X value tv) (hs:VU value (M (.Subscript o i pos')) pos.line X.env=pure false) :
  WS X (.Assign [.Subscript o i pos'] value pos) (M8 td ty tv):=by
 have ho:=ho.go;have hi:=hi.go;have hv:=hv.go;refine⟨?_⟩;intro pins s σ H D I h;refine wpAny_Assign_Subscript (cy (hv pins s σ H _ I h) λr s1 ⟨v,H1,I1,rv,q1⟩=>cy (ho pins s1 σ H1 _ I1 q1) λu s2 ⟨x,H2,I2,rx,q2⟩=>cy (hi pins s2 σ H2 _ I2 q2) λiv s3 ⟨y,H3,I3,ry,a,H4,ex,g,q3⟩=>?_) hs;subst ex;obtain rfl:u=P2 a:=rx;exact EB hu I3 g ry rv λs4 I4=>⟨σ,H4,I4,q3⟩
end
theorem FA (h:Q9)(hb:Rh<h.objs.size):ce P w H (h.push { cls:=.type "dict",data:=.dict #[] }) h.objs.size (.dT []):=
 ⟨Qm _,Rv.mpr (RZ (Pr hb)),[],.nil,_,#[],0,O8 _ Y,⟨Y,Y,Y⟩,Y,Y,Vt⟩
def Lh:TE:=λ_ H Q=>∀ p,H p=none->Q (.ref p) (upd H p (.dT []))
section
variable {X:Cx}{pos:Pos}
theorem wI:WE X (.Dict [] [] pos) Lh:=by
 exact⟨λpins s σ H Q I h=>
 wpAny_Dict_empty ⟨.ref s.heap.objs.size,_,I.laid (a:=s.heap.objs.size) (o:=.dT []) (t':=s.toks) (λ_ _ q=>O3 _ q) (Pe _) (FA s.heap I.big),Y,h _ (I.hok.fresh (Pe _))⟩⟩
end
def ay (H:Hp)(a:Po):Prop:=(∃ kvs,Rd H a (.dK kvs))\/∃ kvs,Rd H a (.dT kvs)
end L2
namespace PySem
section
variable {prog:PU}{w:Qq}{K:Type}[DecidableEq K]{knd:HeapKind prog w K}{A:QB}{E:O6->Pf->Prop}{s:Pf}
theorem sJ (knd:HeapKind prog w K) (d:Po) (hd:(d == Rh)=false) :
  MeetsIn prog w (Si.«dict.__len__» ⟨[.ref d],[]⟩) (λ_ R s=>∃ xs,s.heap.DictOfH knd d xs/\R (.ok (.ret (.int xs.length s.toks))) { s with toks:=s.toks+1 }):=
 .of_wp λA R s ⟨xs,hm,h⟩=>by
  obtain⟨o,es,ep,ho,hc,hdat,he,hi,hn⟩:=hm;show Pp _ _ (dictSize d>>=_) _ _ s;unfold dictSize;refine O2 (O2 (RX ho hdat (O5 ?_)));show Pp _ _ (Builtin.Dict.pendingCount d>>=_) _ _ s;refine O2 (wpAny_pendingCount_other hd ?_);refine wpAny_ret_mkInt ?_;rw[X2,WC he];exact h
theorem EL {d:Po}{xs:List (K × Po × O6)}{Q:O6->Pf->Prop} (hd:(d == Rh)=false) (hm:s.heap.DictOfH knd d xs) (hfit:(xs.length:Int) < 2 ^ 63)
  (h:Q (.int xs.length (s.toks+1)) { s with toks:=s.toks+1+1 }):Pp (PX prog w) A (Si.«len» ⟨[.ref d],[]⟩) (λfin s'=>∃ r,fin=.done (.ret r)/\Q r s') E s:=by
 unfold Si.«len»;refine O2 (m:=oneArg "len" _) (O5 ?_);refine O2 (m:=callSpecial? (.ref d) (QQ "__len__")) (P_ (name:=QQ "__len__") hm.typeIs F.slot_dict_len
  (call_meetsIn F.slot_dict_len hm.typeIs F.entry_dict_len (F.args_dict_len_1 _) (sJ knd d hd) ⟨xs,hm,?_⟩))
 show Pp _ _ _ _ _ { s with toks:=s.toks+1 };refine O2 (QE (O5 ?_));refine O2 (Ti ?_);show Pp _ _ (if((xs.length:Nat):Int)<0 then _ else _) _ _ _;rw[P3 (by lia)];show Pp _ _ (if((xs.length:Nat):Int)>=2^63 then _ else _) _ _ _;rw[P3 (by lia)];exact O2 (wpAny_mkInt (O5 ⟨_,Y,h⟩))
theorem EI (hd:(d == Rh)=false) (hm:s.heap.DictOfH knd d xs) (hfit:(xs.length:Int) < 2 ^ 63)
  (h:Q (.int xs.length (s.toks+1)) { s with toks:=s.toks+1+1 }):Pp (PX prog w) A (call (.builtin "len") [.ref d]) Q E s:=
 Vn kind_len plain_len entry_len (args_len1 _) (EL hd hm hfit h)
theorem rF:∀ (l:List Re) (h:Int),(l.map (·.hash)).Nodup->(l.filter (·.hash==h)).length<=1
 |[],_,_=>Qm _
 |e::r,h,hn=>by
  rw[PF,Q_] at hn;rw[List.filter_cons]
  by_cases q:(e.hash==h)=true
  ·rw[Qh q];have q':e.hash=h:=by simpa using q
   have z:r.filter (·.hash==h)=[]:=List.filter_eq_nil_iff.mpr λa ha y=>hn.1 (by
    have y':a.hash=h:=by simpa using y
    rw[q',<- y'];exact Qy.mpr ⟨a,ha,Y⟩)
   rw[z];exact Pe _
  ·rw[P3 q];exact rF r h hn.2
theorem B1 {id:String}{d:Po}{o:Obj}{es:Array Re}{ep:Nat}{Q:Array Re->Pf->Prop} (ho:s.heap.get? d=M o) (hd:o.data=.dict es ep)
  (hk:∀ e∈es.toList,∃ a,e.key=.ref a/\s.TypeIs (.ref a) "tuple")(hn:(es.toList.map (·.hash)).Nodup)(h:Q es s):Pp (PX prog w) A (UF id d) Q E s:=by
 unfold UF;refine O2 (RX ho hd ?_);refine O2 ?_;rw[<- Vc];refine wpAny_forIn_list _ (λgZ _ s'=>s'=s/\∀ e∈gZ,e∈es.toList) _ ?_ ?_ _ _ ⟨Y,λe q=>q⟩
 ·rintro e gZ b s' ⟨rfl,hr⟩;obtain⟨a,ha,hT⟩:=hk e (hr e PQ);have hf:¬ (es.filter (·.hash==e.hash)).size>1:=by
   have z:=rF es.toList e.hash hn;have z2:(es.filter (·.hash==e.hash)).size=(es.toList.filter (·.hash==e.hash)).length:=by
    rw[<- QV,Array.toList_filter]
   lia
  have q:Pp (PX prog w) A (WR e.key) (λr s''=>r=false/\s''=s') E s':=by
   rw[ha];unfold WR;exact O2 (Tj hT F.slot_tuple_eq.lookup (O5 ⟨by decide,Y⟩))
  refine O2 (QI q (λr s'' hq=>?_) λ_ _ z=>z);obtain⟨rfl,rfl⟩:=hq;rw[Qh (by decide),P3 hf];exact O5 ⟨Y,λe q=>hr e (Pj _ q)⟩
 ·rintro b s' ⟨rfl,_⟩;exact O5 h
theorem HU (hdo:d ≠ o) (hoS:(o == Rh)=false) (hd:s.heap.DictOfH knd d []) (ho:s.heap.DictOfH knd o xs)
  (hT:∀ x∈xs,s.TypeIs (.ref x.2.1) "tuple")(hh:(xs.map λx=>knd.hash x.1).Nodup)(hsz:xs.length<=Pz)(hne0:xs≠[])
  (hQ:∀ h',h'.DictOfH knd d xs->Qg d s.heap h'->Q () { s with heap:=h' }):Pp (PX prog w) A (V8 nm d o) Q E s:=by
 obtain⟨od,esd,epd,hod,hcd,hdd,hed,hid,hnd⟩:=id hd;obtain⟨oo,eso,epo,hoo,hco,hdo',heo,hio,hno⟩:=id ho;have e0:esd=#[]:=by
  have z:=WC hed;exact Array.eq_empty_of_size_eq_zero z
 subst e0;have hzo:eso.size=xs.length:=WC heo;unfold V8;rw[P3 (by simpa using hdo)];unfold Wg;rw[P3 (by rw[hoS];exact QK)];refine O2 (O5 ?_);refine O2 (RX hoo hdo' ?_);dsimp only;cases xs with
 |nil=>exact absurd rfl hne0
 |cons x r=>
  have hfew:(decide (eso.size<=8)&&eso.all λe=>(keyPart e.key).isSome)=false:=by
   have z:(eso.all λe=>(keyPart e.key).isSome)=false:=by
    rw[<- Array.all_toList,heo,PF,UH];rfl
   rw[z,W2]
  rw[hfew,Qh (by decide)];refine O2 (RX hod hdd ?_);rw[Qh (by decide)];refine O2 (B1 hoo hdo' (λe q=>?_) ?_ ?_)
  ·rw[heo] at q;obtain⟨y,hy,rfl⟩:=Qy.mp q;exact⟨_,Y,hT y hy⟩
  ·rw[heo,TU];exact hh
  ·have hne:¬ eso.isEmpty=true:=λz=>by
    rw[Array.isEmpty_iff.mp z] at hzo;cases hzo
   rw[Qh (by simpa using hne)];have hto:eso.size<=Pz+1:=by lia
   refine O2 (wpAny_updateDictKeysTo hod hdd (O5 (hQ _ ⟨_,_,epd+1,P7 _ hod (Obj.isFreed_of_dict (W1 hdd _)),hcd.mapDictKeys _,
    W1 hdd _,heo,λy hy=>knd.keeps (hio y hy) hod hdd (P6 ..),hno⟩ (P6 ..))) hto)
theorem II (hoS:(o == Rh)=false) (ho:s.heap.DictOfH knd o xs) (hsz:xs.length <= Pz) (hne0:xs ≠ [])
  (hT:∀ x∈xs,s.TypeIs (.ref x.2.1) "tuple")(hh:(xs.map λx=>knd.hash x.1).Nodup)(hpush:∀ x∈xs,knd.is (s.heap.push { cls:=.type "dict",data:=.dict #[] }) x.1 x.2.1)
  (h:∀ h',h'.DictOfH knd s.heap.objs.size xs->Qg s.heap.objs.size (s.heap.push { cls:=.type "dict",data:=.dict #[] }) h'->Q (.ref s.heap.objs.size) { s with heap:=h' }):
  Pp (PX prog w) A (call (.type "dict") [.ref o]) Q E s:=by
 refine callType_codes (Q₁:=λobj s₁=>obj=.ref s.heap.objs.size/\s₁={ s with heap:=s.heap.push { cls:=.type "dict",data:=.dict #[] } }) F.kt_called_dict (F.kt_typeCall_dict_1 _) F.entry_dict_init (kt_code_dict_new _ ⟨Y,Y⟩) ?_;rintro obj s₁ ⟨rfl,rfl⟩;have hnew:(s.heap.push { cls:=.type "dict",data:=.dict #[] }).DictOfH knd s.heap.objs.size []:=Heap.DictOfH.new s.heap;have hdo:s.heap.objs.size≠o:=by
  obtain⟨_,_,_,hg,_⟩:=ho;exact λe=>absurd (O7 hg) (by rw[e];exact Qk _)
 have ho':(s.heap.push { cls:=.type "dict",data:=.dict #[] }).DictOfH knd o xs:=by
  obtain⟨oo,es,ep,h1,h2,h3,h4,h5,h6⟩:=ho;exact⟨oo,es,ep,O3 _ h1,h2,h3,h4,hpush,h6⟩
 refine⟨hnew.typeIs,F.args_dict_init_2 _ _,?_⟩;unfold Si.«dict.__init__»;refine O2 ?_;unfold Builtin.Dict.selfAndRest;refine O2 (wpAny_notOrdered_dict hnew.typeIs ?_);show Pp _ _ (pure (s.heap.objs.size,[P2 o])) _ _ _;refine O5 ?_;show Pp _ _ (VY "dict.__init__" s.heap.objs.size (.ref o) [] .none) _ _ _;unfold VY;refine O2 (WH ho'.typeIs ?_);rw[P3 (by decide)];refine O2 ?_;unfold Builtin.Dict.merge;refine O2 ?_;unfold Builtin.Dict.readDirectly;refine O2 (R' ho'.typeIs isSubtype_dict_dict ?_);simp only[Bool.not_true,Qv,Ss];refine O2 (Tj ho'.typeIs F.slot_dict_iter.lookup (O5 ?_));simp only[UB,SK];refine O2 (O5 ?_);refine HU hdo hoS hnew ho' (λx hx=>?_) hh hsz hne0 λh' hd' hs'=>?_
 ·obtain⟨oo,e,c⟩:=hT x hx;exact⟨oo,O3 _ e,c⟩
 show Pp _ _ (Builtin.Dict.addKeywords s.heap.objs.size []>>=_) _ _ _;exact O2 (O5 (O5 ⟨Y,h h' hd' hs'⟩))
end
end PySem
namespace TR
open PySem PySem.Spec PyProof.Rows L2
section
variable {X:Cx}
theorem ET:dD X (.builtin "len") (λxs H Q=>∃ p kvs,xs=[.ref p]/\Rd H p (.dT kvs)/\Q (.int kvs.length) H):=by
 intro pins s σ H xs us Q I r h;obtain⟨p,kvs,rfl,e,q⟩:=h;obtain⟨u,rfl,rx⟩:=md r;cases rx;obtain⟨z,hd,vs,rel,dd⟩:=xF I.hok e;have hn:=qI;have hl:kvs.length=vs.length:=rel.length;exact EI hd dd (by lia) ⟨.int kvs.length,H,I.tok _,⟨_,by rw[hl]⟩,q⟩
end
def FZ (kvs:List (List ij×V)):Prop:=∀ (P:PU) (w:Qq),(kvs.map λkv=>(Th (cq P w)).hash kv.1).Nodup
section
variable {X:Cx}
theorem IR (r:L2.KT H kvs xs) :
  (kvs.map λkv=>(Th (cq P w)).hash kv.1)=xs.map λx=>(Th (cq P w)).hash x.1:=by
 induction r with
 |nil=>rfl
 |cons h t ih=>rw[PF,PF,ih,h.1]
theorem Jx (r:L2.KT H kvs xs):∀ x∈xs,H x.2.1=M (.tup (x.1.map kV)):=by
 induction r with
 |nil=>intro x hx;exact nomatch hx
 |@cons p q ps qs h t ih=>
  intro x hx;rcases Pq.mp hx with rfl|hx
  ·rw[<- h.1];exact h.2.1
  ·exact ih x hx
theorem Cs:dD X (.type "dict") (λxs H Q=>∃ p kvs,xs=[.ref p]/\Rd H p (.dT kvs)/\kvs≠[]/\FZ kvs/\∀ a,H a=none->Q (.ref a) (upd H a (.dT kvs))):=by
 intro pins s σ H xs us Q I r h;obtain⟨p,kvs,rfl,e,hne,hh,q⟩:=h;obtain⟨u,rfl,rx⟩:=md r;cases rx;obtain⟨z,hd,vs,rel,dd⟩:=xF I.hok e;have hl:kvs.length=vs.length:=rel.length;have hk:=Jx rel;have is0:∀ x∈vs,(Th (cq X.prog X.w)).is s.heap x.1 x.2.1:=λx hx=>zP I.hok (hk x hx)
 refine II hd dd (by lia) (λz0=>?_) (λx hx=>(is0 x hx).typeIs) (by rw[<- IR rel];exact hh _ _) (λx hx=>?_) λh' hm hs=>?_
 ·rw[z0] at hl;exact hne (List.length_eq_zero_iff.mp hl)
 ·obtain⟨o,its,n,h1,h2,h3,h4⟩:=is0 x hx;exact⟨o,its,n,O3 _ h1,h2,h3,h4⟩
 ·have kk:∀ b u,s.heap.get? b=M u->h'.get? b=M u:=λb u e=>(hs.2 b (Pr (O7 e))).trans (O3 _ e)
  obtain⟨oo,es,ep,g1,g2,g3,g4,g5,g6⟩:=hm;have fr:=I.hok.fresh (Pe s.heap.objs.size);refine⟨.ref s.heap.objs.size,_,I.laid (a:=s.heap.objs.size) (o:=.dT kvs) (t':=s.toks) kk (Pe _) ⟨z,Rv.mpr (RZ (Pr I.big)),vs,?_,oo,es,ep,g1,g2,g3,g4,g6⟩,Y,q _ fr⟩;exact Paired.mapP rel λa b c=>⟨c.1,by rw[au (aS c.2.1 fr)];exact c.2.1,c.2.2⟩
end
def dw (t:Nat×Nat×Nat):List ij:=[.inl (t.1:Int),.inl (t.2.1:Int),.inl (t.2.2:Int)]
def bQ (k:Nat):List (Nat×Nat×Nat):=(Rq k).flatMap λa=>(Rq k).flatMap λb=>(Rq k).map λc=>(a,b,c)
def vf (t:Nat×Nat×Nat):Int:=reduceHash (Builtin.Tuple.tupleHashOf [hashInt (t.1:Int),hashInt (t.2.1:Int),hashInt (t.2.2:Int)])
theorem GZ (P:PU)(w:Qq)(t:Nat×Nat×Nat):(Th (cq P w)).hash (dw t)=vf t:=by
 show tupleKeyHash (cq P w) (dw t)=vf t;unfold tupleKeyHash dw vf;simp only[PF,Sa];rfl
set_option maxRecDepth 1000000 in
theorem JQ:((bQ 7).map vf).Nodup:=by decide +kernel
theorem Kp:∀ {l:List α},(l.map f).Nodup->∀ {a b:α},a∈l->b∈l->f a=f b->a=b
 |[],_,_,_,h,_,_=>nomatch h
 |x::r,hn,a,b,ha,hb,e=>by
  rw[PF,Q_] at hn;rcases Pq.mp ha with za|ha
  ·rcases Pq.mp hb with zb|hb
   ·rw[za,zb]
   ·exact absurd (Qy.mpr ⟨b,hb,by rw[<- e,za]⟩) hn.1
  ·rcases Pq.mp hb with zb|hb
   ·exact absurd (Qy.mpr ⟨a,ha,by rw[e,zb]⟩) hn.1
   ·exact Kp hn.2 ha hb e
theorem cE {k:Nat}:t∈bQ k↔t.1<k/\t.2.1<k/\t.2.2<k:=by
 obtain⟨a,b,c⟩:=t;unfold bQ;simp only[V6,Qy,RV,Prod.mk.injEq];constructor
 ·rintro⟨x,hx,y,hy,z,hz,rfl,rfl,rfl⟩;exact⟨hx,hy,hz⟩
 ·rintro⟨hx,hy,hz⟩;exact⟨a,hx,b,hy,c,hz,rfl,rfl,rfl⟩
theorem Ep (ht:t∈bQ 7)(hu:u∈bQ 7)(e:vf t=vf u):t=u:=Kp JQ ht hu e
theorem Ik {h:List ij->Int}{g:Nat×Nat×Nat->Int}(hg:∀ t,h (dw t)=g t):∀ {kvs:List (List ij×V)}{ts:List (Nat×Nat×Nat)},kvs.map (·.1)=ts.map dw->(kvs.map λkv=>h kv.1)=ts.map g
 |[],[],_=>rfl
 |[],_::_,e=>nomatch e
 |_::_,[],e=>nomatch e
 |p::r,t::q,e=>by
  rw[PF,PF] at e;injection e with e1 e2
  rw[PF,PF,Ik hg e2,e1,hg]
theorem As {g:Nat×Nat×Nat->Int}{l:List (Nat×Nat×Nat)}(hg:∀ {t u},t∈l->u∈l->g t=g u->t=u):∀ {ts:List (Nat×Nat×Nat)},ts.Nodup->(∀ t∈ts,t∈l)->(ts.map g).Nodup
 |[],_,_=>Vt
 |t::r,hn,hb=>by
  rw[Q_] at hn;rw[PF,Q_];refine⟨λz=>?_,As hg hn.2 λu hu=>hb u (Pj _ hu)⟩;obtain⟨u,hu,e⟩:=Qy.mp z;have:=hg (hb u (Pj _ hu)) (hb t PQ) e;exact hn.1 (this▸hu)
theorem IJ {h:List ij->Int}{g:Nat × Nat × Nat->Int}{l:List (Nat × Nat × Nat)} (h1:∀ t,h (dw t)=g t) (h2:∀ {t u},t ∈ l->u ∈ l->g t=g u->t=u) {kvs:List (List ij × V)}{ts:List (Nat × Nat × Nat)}
  (hk:kvs.map (·.1)=ts.map dw)(hn:ts.Nodup)(hb:∀ t∈ts,t∈l):(kvs.map λkv=>h kv.1).Nodup:=by
 rw[Ik h1 hk];exact As h2 hn hb
theorem Bc {kvs:List (List ij×V)}{ts:List (Nat×Nat×Nat)}(hk:kvs.map (·.1)=ts.map dw)(hn:ts.Nodup)(hb:∀ t∈ts,t∈bQ 7):FZ kvs:=
 λP w=>IJ (h:=(Th (cq P w)).hash) (g:=vf) (l:=bQ 7) (GZ P w) Ep hk hn hb
end TR
namespace PySem
def Heap.RawD (h:Q9)(d:Po)(es:Array Re)(ep:Nat):Prop:=∃ o,h.get? d=M o/\o.ExactDict/\o.data=.dict es ep
section
variable {prog:PU}{w:Qq}{A:QB}{E:O6->Pf->Prop}{s:Pf}{d v:Po}{es:Array Re}{ep:Nat}
theorem Heap.RawD.typeIs (hm:s.heap.RawD d es ep):s.TypeIs (.ref d) "dict":=by obtain⟨o,ho,hc,_⟩:=hm;exact⟨o,ho,hc.1⟩
theorem Heap.RawD.of {K:Type}[DecidableEq K]{knd:HeapKind prog w K}{xs:List (K×Po×O6)}(hm:s.heap.DictOfH knd d xs):∃ es ep,s.heap.RawD d es ep/\es.toList=xs.map (entryOfKey knd):=by
 obtain⟨o,es,ep,h1,h2,h3,h4,_⟩:=hm;exact⟨es,ep,⟨o,h1,h2,h3⟩,h4⟩
theorem Eu (d:Po) (hd:(d == Rh)=false) :
  MeetsIn prog w (Si.«dict.items» ⟨[.ref d],[]⟩) (λ_ R s=>(∃ es ep,s.heap.RawD d es ep) /\
   R (.ok (.ret (.ref s.heap.objs.size))) { s with heap:=s.heap.push { cls:=.type "dict_items",data:=.fields #[.ref d] } }):=
 .of_wp λA R s ⟨⟨es,ep,hm⟩,h⟩=>by
  unfold Si.«dict.items» Builtin.Dict.noArgs;refine O2 (O2 (wpAny_notOrdered_dict hm.typeIs (O5 ?_)));unfold Wg;rw[P3 (by rw[hd];exact QK)];exact O2 (O5 (O2 (QJ (O5 ⟨_,Y,h⟩))))
theorem Gc (hv:s.heap.IsItemsView v d) (hm:s.heap.RawD d es ep)
  (hQ:Q (.ref s.heap.objs.size) { s with heap:=s.heap.push { cls:=.type "dict_itemiterator",data:=.fields #[.none,.bool false,.ref d,.int 0 0,.int es.size 0,.int ep 0,.none,.none] } }):
  Pp (PX prog w) A (Xv (.ref v)) Q E s:=by
 obtain⟨ov,hov,hcv,hdv⟩:=id hv;obtain⟨o,ho,hc,hdat⟩:=id hm;refine VW hv.typeIs Wa (Qn Wa hv.typeIs F.entry_dict_items_iter ?_ (F.args_dict_items_iter_1 _));unfold Si.«dict_items.__iter__» Ym XX;refine O2 (O5 (O2 (O2 (Qd hov hdv (x:=.ref d) Y (O5 ?_)))));refine O2 (O2 (RX ho hdat (O2 (WF ho hdat ?_))));have hown:SX "dict_itemiterator"=true:=by decide
 simp only[hown,SK];refine QJ (O5 ⟨_,Y,"dict_itemiterator",_,⟨_,O8 _ Y,Y⟩,Ra.lookup,?_⟩)
  (by simp only[sizeOk,TH,PD,PV,Qw,US,QU];lia)
 simpa [RO,TH] using hQ
end
section
variable {prog:PU}{w:Qq}{A:QB}{E:O6->Pf->Prop}{s:Pf}{d it:Po}{es:Array Re}{i ep:Nat}{ok ov:O6}
theorem IP (hh:A.handled=none) (hit:Uf s.heap it d i es.size ep ok ov) (hm:s.heap.RawD d es ep) (hx:es.size <= i)
  (hQ:∀ h',UN it s.heap h'->Q none { s with heap:=h' }):Pp (PX prog w) A (SE (.ref it)) Q E s:=by
 obtain⟨od,hod,hcd,hdd⟩:=id hm;have hT:s.TypeIs (.ref it) "dict_itemiterator":=⟨_,hit,Y⟩
 have hown:SX "dict_itemiterator"=true:=by decide
 unfold SE;refine O2 (RS (P_ (name:=QQ "__next__") hT Ra
  (Qn Ra hT Us ?_ (Ud _))))
 refine O2 (O5 (O2 (O2 ?_)))
 first|refine O2 (RE hT (O5 ?_))|refine O2 (So hT (O5 ?_))
 refine O2 (VA hit rfl ?_);simp only[hown,SK];show Pp _ _ (if(P2 d==QT)=true then _ else _) _ _ s;rw[P3 (show ¬ ((P2 d==QT)=true) from QK)];refine O2 (O5 (O2 (RX hod hdd ?_)));rw[P3 (by simp)];refine O2 (O5 (O2 (WF hod hdd ?_)));rw[P3 (by simp)];refine O5 ?_;simp only[show ¬ ((i:Int)<0) from by lia,Ss,Qc,Array.getElem?_eq_none hx];refine O2 ?_
 first|refine O2 (RE hT (O5 ?_))|refine O2 (So hT (O5 ?_))
 show Pp _ _ (setField (.ref it) 2 .none>>=_) _ _ s;refine O2 (Sn hit rfl (by simp) ?_);show Pp _ _ (newExc (.type "StopIteration") []>>=_) _ _ _;refine O2 ?_;simp only[newExc,newTuple];refine O2 (QJ ?_ (by size_fits));refine O2 (m:=Tx _ _) (Xh (a:=QT) (by first|rfl|(simp only[Tx];rfl)) ?_);refine QJ ?_ (by size_fits);simp only[raiseNew];refine O2 (XA ?_);rw[show A.in1.handled=none from hh];refine O2 (O5 (wpAny_throw ?_));refine O2 (R' (T:="StopIteration") (b:=true) ⟨_,O8 _ rfl,rfl⟩ Uq ?_);exact O5 (hQ _ (((P6 ..).extBut.push _).push _))
theorem GH (hit:Uf s.heap it d i es.size ep ok ov) (hm:s.heap.RawD d es ep) (hx:es[i]?=M e)
  (hQ:∀ h',Xm h' it d (i+1) es.size ep e.key e.val s.heap.objs.size->h'.get? s.heap.objs.size=M { cls:=.type "tuple",data:=.seq #[e.key,e.val] }->h'.objs.size=s.heap.objs.size+1 ->
   (∀ b o,b≠it->s.heap.get? b=M o->h'.get? b=M o)->Q (M (.ref s.heap.objs.size)) { s with heap:=h' }):Pp (PX prog w) A (SE (.ref it)) Q E s:=by
 obtain⟨hp,g,dr,tk,os⟩:=s;obtain⟨od,hod,hcd,hdd⟩:=id hm;have hT:Xs ⟨hp,g,dr,tk,os⟩ (.ref it) "dict_itemiterator":=⟨_,hit,rfl⟩
 have hown:SX "dict_itemiterator"=true:=by decide
 unfold SE;refine O2 (RS (P_ (name:=QQ "__next__") hT Ra
  (Qn Ra hT Us ?_ (Ud _))))
 refine O2 (O5 (O2 (O2 ?_)))
 first|refine O2 (RE hT (O5 ?_))|refine O2 (So hT (O5 ?_))
 refine O2 (VA hit rfl ?_);simp only[hown,SK];show Pp _ _ (if(P2 d==QT)=true then _ else _) _ _ _;rw[P3 (show ¬ ((P2 d==QT)=true) from QK)];refine O2 (O5 (O2 (RX hod hdd ?_)));rw[P3 (by simp)];refine O2 (O5 (O2 (WF hod hdd ?_)));rw[P3 (by simp)];refine O5 ?_;simp only[show ¬ ((i:Int)<0) from by lia,Ss,Qc,hx];refine O2 ?_
 first|refine O2 (RE hT (O5 ?_))|refine O2 (So hT (O5 ?_))
 refine O2 (Uc hT ?_);show Pp _ _ (setField (.ref it) 3 (RO ((i:Int)+1))>>=_) _ _ ⟨hp,g,dr,tk,os⟩;refine O2 (Qb hit (by simp) λh₁ he₁ hs₁=>?_);replace hs₁:Qg it hp h₁:=hs₁;replace he₁:Uf h₁ it d (i+1) es.size ep ok ov:=by
  have e:((i+1:Nat):Int)=(i:Int)+1:=by lia
  unfold Uf;rw[e];simpa [RO] using he₁
 have hT₁:Xs ⟨h₁,g,dr,tk,os⟩ (.ref it) "dict_itemiterator":=⟨_,he₁,rfl⟩
 refine O2 (QE (O2 (Uc hT₁ (O2 (Uc hT₁ ?_)))));show Pp _ _ (T_ (.ref it) 6 e.key e.val) _ _ ⟨h₁,g,dr,tk,os⟩;unfold T_;refine O2 (Ur ?_);have hz₁:h₁.objs.size=hp.objs.size:=hs₁.1;have hil:it<hp.objs.size:=O7 hit;have up:∀ b o,b≠it->hp.get? b=M o->(h₁.push { cls:=.type "tuple",data:=.seq #[e.key,e.val] }).get? b=M o:=λb o hb q=>O3 _ (hs₁.extBut b o hb q)
 have he₂:Uf (h₁.push { cls:=.type "tuple",data:=.seq #[e.key,e.val] }) it d (i+1) es.size ep ok ov:=O3 _ he₁;have ht₂:(h₁.push { cls:=.type "tuple",data:=.seq #[e.key,e.val] }).get? hp.objs.size=M { cls:=.type "tuple",data:=.seq #[e.key,e.val] }:=by rw[<- hz₁];exact O8 _ Y
 have hz₂:(h₁.push { cls:=.type "tuple",data:=.seq #[e.key,e.val] }).objs.size=hp.objs.size+1:=by rw[P',hz₁]
 rw[hz₁];generalize h₁.push { cls:=.type "tuple",data:=.seq #[e.key,e.val] }=h₂ at up he₂ ht₂ hz₂ ⊢;show Pp _ _ (TJ (.ref it)>>=_) _ _ ⟨h₂,g,dr,tk,os⟩;clear he₁ hs₁ hT₁ hz₁ h₁;refine O2 ?_;unfold TJ;refine O2 (Qd he₂ rfl (x:=.none) Y (O5 ?_));simp only[SK];refine O2 (Qd he₂ rfl (x:=ok) Y (O2 (Qd he₂ rfl (x:=ov) Y ?_)));refine O2 (Qb he₂ (by simp) λh₃ he₃ hs₃=>?_);replace hs₃:Qg it h₂ h₃:=hs₃;replace he₃:Uf h₃ it d (i+1) es.size ep e.key ov:=he₃;refine O2 (Qb he₃ (by simp) λh₄ he₄ hs₄=>?_);replace hs₄:Qg it h₃ h₄:=hs₄;replace he₄:Uf h₄ it d (i+1) es.size ep e.key e.val:=he₄;refine O2 (Qb he₄ (by simp) λh₅ he₅ hs₅=>?_);replace hs₅:Qg it h₄ h₅:=hs₅;replace he₅:Xm h₅ it d (i+1) es.size ep e.key e.val hp.objs.size:=he₅;refine O2 (Qb he₅ (by simp) λh₆ he₆ hs₆=>?_);replace hs₆:Qg it h₅ h₆:=hs₆;replace he₆:Xm h₆ it d (i+1) es.size ep e.key e.val hp.objs.size:=he₆;have all:∀ b o,b≠it->h₂.get? b=M o->h₆.get? b=M o:=λb o hb q=>hs₆.extBut b o hb (hs₅.extBut b o hb (hs₄.extBut b o hb (hs₃.extBut b o hb q)))
 refine O2 (Ti (O5 (O5 ⟨_,Y,O5 (hQ h₆ he₆ (all _ _ (P8 hil) ht₂) ?_ λb o hb q=>all b o hb (up b o hb q))⟩)));show h₆.objs.size=hp.objs.size+1;rw[hs₆.1,hs₅.1,hs₄.1,hs₃.1,hz₂]
end
end PySem
namespace TR
open PySem PySem.Spec PyProof.Rows L2
section
variable {X:Cx}{pins:List (Po×Obj)}{σ:L2.St}{H:Hp}{s:Pf}{d:Po}{u u':HO}
theorem AJ (I:aJ X pins σ H s)(e:H d=M u)(nt:∀ xs,u≠.tup xs)(no:∀ x,u≠.own x)(ntb:∀ ps,u≠.tbl ps)(nf:∀ o w,X.H₀ d≠M (.frz o w))(new:ce X.prog X.w (upd H d u') s.heap d u'):aJ X pins σ (upd H d u') s:=by
 have ne:∀ b,H b=none->b≠d:=λb z q=>by rw[q,e] at z;cases z
 have fr:∀ b,H b=none->upd H d u' b=none:=λb z=>by rw[au (ne b z)];exact z
 refine⟨I.ok,I.os,I.bare,⟨I.base.keep,I.base.slot,λb o q n hx=>fr b (I.base.free b o q n hx),I.base.there,λb xs q=>?_,λb o w q=>?_,λb ps q=>?_⟩,I.loc,I.cell,fr _ I.free,λx c q=>fr _ (I.freeC x c q),λp hp=>?_,λb o q=>?_,I.len⟩
 ·have z:=I.base.tups b xs q;rw[au (λk=>nt xs (by rw[k,e] at z;exact O4 z))];exact z
 ·have z:=I.base.frzs b o w q;rw[au (λk=>nf o w (by rw[<- k];exact q))];exact z
 ·obtain⟨more,z⟩:=I.base.tbls b ps q;exact⟨more,by rw[au (λk=>ntb _ (by rw[k,e] at z;exact O4 z))];exact z⟩
 ·obtain⟨a1,a2,a3⟩:=I.pin p hp;exact⟨a1,fr _ a2,a3⟩
 ·by_cases hb:b=d
  ·subst hb;rw[ag] at q;cases q;exact new
  ·rw[au hb] at q;refine(I.hok b o q).stay (λ_ _ _ z=>z) (λc z=>?_) λc xs z=>?_
   ·rw[au (λk=>no b (by rw[k,e] at z;exact O4 z))];exact z
   ·rw[au (λk=>nt xs (by rw[k,e] at z;exact O4 z))];exact z
theorem B8 (I:aJ X pins σ H s)(e:H d=M (.dT kvs)):∃ o,s.heap.get? d=M o/\aJ X pins σ (upd H d (.frz o (.dT kvs))) s:=by
 have ok:=I.hok d _ e;obtain⟨_,_,_,_,o,es,ep,g1,_⟩:=id ok;refine⟨o,g1,AJ I e (λ_ z=>nomatch z) (λ_ z=>nomatch z) (λ_ z=>nomatch z) (λob w z=>?_) ⟨g1,?_⟩⟩
 ·have:=I.base.frzs d ob w z;rw[e] at this;cases this
 ·exact(show ce X.prog X.w H s.heap d (.dT kvs) from ok).stay (λ_ _ _ z=>z) (λc z=>by
   by_cases k:c=d
   ·rw[k,e] at z;cases z
   ·rw[au k];exact z) λc xs z=>by
   by_cases k:c=d
   ·rw[k,e] at z;cases z
   ·rw[au k];exact z
theorem Ho (I:aJ X pins σ H s)(e:H d=M (.frz o (.dT kvs)))(nf:∀ o w,X.H₀ d≠M (.frz o w)):aJ X pins σ (upd H d (.dT kvs)) s:=by
 have ok:=I.hok d _ e;obtain⟨_,ok⟩:=(show s.heap.get? d=M o/\ce X.prog X.w H s.heap d (.dT kvs) from ok)
 refine AJ I e (λ_ z=>nomatch z) (λ_ z=>nomatch z) (λ_ z=>nomatch z) nf (ok.stay (λ_ _ _ z=>z) (λc z=>?_) λc xs z=>?_)
 ·by_cases k:c=d
  ·rw[k,e] at z;cases z
  ·rw[au k];exact z
 ·by_cases k:c=d
  ·rw[k,e] at z;cases z
  ·rw[au k];exact z
end
section
variable {X:Cx}
def My (t:TE):TE:=λσ H Q=>t σ H λv H'=>∃ d o kvs,H d=M (.dT kvs)/\H' d=M (.frz o (.dT kvs))/\Q v (upd H' d (.dT kvs))
theorem GM (h:WE X e t):WE X e (My t):=by
 have h:=h.go;refine⟨?_⟩;intro pins s σ H Q I q;refine cy (h pins s σ H _ I q) λu s1 h1=>?_
 obtain⟨v,H1,I1,r1,d,o,kvs,e0,e1,q1⟩:=h1;exact⟨v,_,Ho I1 e1 λo w z=>(by
  have:=I.base.frzs d o w z;rw[e0] at this;cases this),r1,q1⟩
end
def NX (d:Po)(o:Obj)(kvs:List (List ij×V)):It:=
 ⟨λi H=>H d=M (.frz o (.dT kvs))/\i<kvs.length,
  λi H v H'=>∃ (k:List ij) (x:V) (ka T:Po),kvs[i]?=M (k,x)/\H ka=M (.tup (k.map kV))/\H T=none/\v=.ref T/\H'=upd H T (.tup [.ref ka,x]),
  λi H=>H d=M (.frz o (.dT kvs))/\kvs.length<=i⟩
theorem w9:∀ {l₁:List α}{l₂:List β}{i:Nat}{a:α},Vi F l₁ l₂->l₁[i]?=M a->∃ b,l₂[i]?=M b/\F a b
 |_,_,_,_,.nil,e=>by simp at e
 |_,_,0,_,.cons r _,e=>by simp at e;subst e;exact⟨_,Y,r⟩
 |_,_,i+1,x,.cons _ t,e=>by
  obtain⟨u,h1,h2⟩:=w9 (i:=i) (a:=x) t (by simpa using e);exact⟨u,by simpa using h1,h2⟩
theorem C4 {ep:Nat} (hd:o.data=.dict es ep) (ok:ce P w H h d (.frz o (.dT kvs))) :
  h.RawD d es ep/\es.size=kvs.length/\∀ (i:Nat) (k:List ij) (x:V),kvs[i]?=M (k,x)->∃ (e:Re) (ka:Po) (u:O6),es[i]?=M e/\e.key=.ref ka/\e.val=u/\H ka=M (.tup (k.map kV))/\bO x u:=by
 obtain⟨g1,_,_,xs,pr,o',es',ep',g2,ex,dd,ee,_⟩:=ok;rw[g1] at g2;cases g2;rw[hd] at dd;cases dd;refine⟨⟨_,g1,ex,hd⟩,?_,λi k x hx=>?_⟩
 ·have z:=S0 Xd ee;rw[Pb,QV] at z;rw[z];exact pr.length.symm
 ·obtain⟨⟨k',ka,u⟩,h1,h2,h3,h4⟩:=w9 pr hx;refine⟨entryOfKey (Th (cq P w)) (k',ka,u),ka,u,?_,Y,Y,h3,h4⟩;rw[<- S8,ee,Ps,h1];rfl
theorem By {P:PU}{w:Qq}{K:KE}{elts:List Rz}{tk:Nat}{pos:Pos}{it d:Po}{o:Obj}{kvs:List (List ij × V)}{es:Array Re}{ep:Nat} (hd:o.data=.dict es ep) :
  xR P w K (.Tuple elts tk pos) (NX d o kvs) [it] it (λi h=>∃ ok ov,Uf h it d i es.size ep ok ov) where
 mem:=by simp
 obj:=λi h st b hb=>by
  obtain⟨ok,ov,e⟩:=st;cases O9.mp hb;exact⟨_,e,λv z=>nomatch z⟩
 keep:=λi h h' st k=>by
  obtain⟨ok,ov,e⟩:=st;exact⟨ok,ov,k it (by simp) _ e⟩
 item:=by
  intro X hP hw hK hc i pins s σ H E I hf st hg;subst hP hw hK;obtain⟨ok,ov,hit⟩:=st;obtain⟨hH,hi⟩:=hg;obtain⟨raw,hsz,at_⟩:=C4 hd (I.hok d _ hH);obtain⟨e,ka,u,e1,e2,e3,e4,e5⟩:=at_ i _ _ (Pw hi);refine GH hit raw e1 λh' hit' hT hz kk=>⟨_,Y,?_⟩
  refine wpAny_letOwnedTupleGo_items hit' λg' z' sb=>?_
  have nit:it<s.heap.objs.size:=O7 hit;have tz:s.heap.objs.size≠it:=P8 nit;have k2:∀ b o,b≠it->s.heap.get? b=M o->g'.get? b=M o:=λb o hb e=>sb.extBut b o hb (kk b o hb e)
  have fit:=hf it (by simp);have I1:aJ X pins σ H { s with heap:=g' }:=I.turned (it:=it) (t':=s.toks) k2 fit.1 fit.2.1 fit.2.2.2.1 fit.2.2.2.2.1 fit.2.2.2.2.2;have hT':g'.get? s.heap.objs.size=M { cls:=.type "tuple",data:=.seq #[e.key,e.val] }:=sb.extBut _ _ tz hT;have fT:H s.heap.objs.size=none:=I.hok.fresh (Pe _);have F:=I.fpOk (b:=s.heap.objs.size) (H':=H) (Pe _) fT;have I2:aJ X pins σ (upd H s.heap.objs.size (.tup [.ref ka,kvs[i].2])) { s with heap:=g' }:=dM I1 fT I.sz F.2.1 F.2.2.2.2.1 F.2.2.2.2.2
   ⟨by show 2<=Pz;decide,[e.key,e.val],.cons (by rw[e2];rfl) (.cons (by rw[e3];exact e5) .nil),⟨_,hT',Y,_,Y⟩⟩
  exact⟨.ref s.heap.objs.size,_,I2,Y,⟨kvs[i].1,kvs[i].2,ka,s.heap.objs.size,Pw hi,e4,fT,Y,Y⟩,⟨_,_,z'⟩,λb hb=>by
   cases O9.mp hb;rw[au (RZ tz)];exact fit.1⟩
 done:=by
  intro X hP hw hK hc i pins s σ H E I hf st hg;subst hP hw hK;obtain⟨ok,ov,hit⟩:=st;obtain⟨hH,hi⟩:=hg;obtain⟨raw,hsz,_⟩:=C4 hd (I.hok d _ hH);have fit:=hf it (by simp);exact IP (I.ok.hd hc) hit raw (by lia) λh' ex=>⟨Y,I.turned (it:=it) (t':=s.toks) (λb o hb e=>ex b o hb e) fit.1 fit.2.1 fit.2.2.2.1 fit.2.2.2.2.1 fit.2.2.2.2.2⟩
 self:=λ_ _ _ _ _ st h=>by
  obtain⟨ok,ov,hit⟩:=st;exact PySem.W.kcp_self hit h
section
variable {X:Cx}
def Kw (to:TE):TI:=λσ H R=>to σ H λx H1=>∃ d kvs,x=.ref d/\H1 d=M (.dT kvs)/\∀ o,R (NX d o kvs) (upd H1 d (.frz o (.dT kvs)))
theorem EC {o:Rz}{to:TE}{apos cpos tpos:Pos}{elts:List Rz}{tk:Nat} (ho:WE X o to)
  (hbase:V3 o "items" X.env (Ts o X.env)=Ts o X.env:=by rfl)(hline:(apos.endLine==cpos.line)=true:=by rfl):WI X (.Tuple elts tk tpos) (.Call (.Attribute o "items" apos) [] [] cpos) (Kw to):=by
 have ho:=ho.go;refine⟨?_⟩;intro pins s σ H R I h;refine wpAny_Call_method0_late hbase hline (cy (ho pins s σ H _ I h) λv s1 ⟨x,H1,I1,r1,q1⟩=>?_);obtain⟨d,kvs,rfl,hH,q⟩:=q1;obtain⟨h1,h2⟩:=GW (T:="dict") I1 r1 (.inr (.inr (.inl ⟨Y,.inr ⟨kvs,hH⟩⟩)));cases r1;refine⟨"dict","dict.items",PySem.F.plainAttrs_dict,V1,PySem.F.type_dict_items,h1,h2,V_ rfl (PySem.evalArgs_none ?_)⟩;obtain⟨z,hd,vs,rel,dd⟩:=xF I1.hok (.inl hH);obtain⟨es,ep,raw,hes⟩:=Heap.RawD.of dd;refine call_meetsIn V1 h1 PySem.F.entry_dict_items (PySem.F.args_dict_items_1 _) (Eu d hd) ⟨⟨es,ep,raw⟩,?_⟩;obtain⟨ob,g1,I2⟩:=B8 I1 hH;obtain⟨o',g1',_,gd⟩:=id raw;rw[g1] at g1';cases g1';have k1:∀ b u,s1.heap.get? b=M u->(s1.heap.push { cls:=.type "dict_items",data:=.fields #[.ref d] }).get? b=M u:=λb u e=>O3 _ e
 have I3:=I2.kept (t':=s1.toks) k1;have raw3:(s1.heap.push { cls:=.type "dict_items",data:=.fields #[.ref d] }).RawD d es ep:=by
  obtain⟨o',a1,a2,a3⟩:=raw;exact⟨o',k1 _ _ a1,a2,a3⟩
 have hv:(s1.heap.push { cls:=.type "dict_items",data:=.fields #[.ref d] }).IsItemsView s1.heap.objs.size d:=⟨_,O8 _ Y,Y,Y⟩
 refine Gc (s:={ s1 with heap:=s1.heap.push { cls:=.type "dict_items",data:=.fields #[.ref d] } }) hv raw3 ?_;generalize s1.heap.push { cls:=.type "dict_items",data:=.fields #[.ref d] }=g at I3 raw3 hv ⊢;refine⟨g.objs.size,[g.objs.size],_,_,_,Y,I3.kept (t':=s1.toks) λb u e=>O3 _ e,By gd,⟨_,_,O8 _ Y⟩,λb hb=>?_,q ob⟩;cases O9.mp hb;exact I3.fpOk (Pe _) (I3.hok.fresh (Pe _))
end
end TR
namespace TR
open PySem PySem.Spec PyProof.Rows
def uR (n:Nat):List Int:=(Rq n).map λ(i:Nat)=>(i:Int)
theorem CB {n i:Nat}(h:i<n):(uR n)[i]?=M (i:Int):=by unfold uR;simp[h]
theorem jI (n:Nat):(uR n).length=n:=by unfold uR;simp
theorem Hq {n:Nat}(hl:vs.length=n)(h:∀ (i:Nat) (v:O6),vs[i]?=M v->∃ t,v=SD (i:Int) t):Sy vs (uR n):=by
 have go:∀ (vs:List O6) (k:Nat),(∀ (i:Nat) (v:O6),vs[i]?=M v->∃ t,v=SD ((k+i:Nat):Int) t)->Sy vs ((List.range' k vs.length).map λ(i:Nat)=>(i:Int)):=by
  intro vs
  induction vs with
  |nil=>intro k _;exact .nil
  |cons v vs ih=>
   intro k h;obtain⟨t,e⟩:=h 0 v rfl;subst e;rw[Qw,List.range'_succ,PF];refine .cons _ t (ih (k+1) λi v hv=>?_);obtain⟨t',e⟩:=h (i+1) v (by simpa using hv);exact⟨t',by rw[e];congr 1;lia⟩
 have:=go vs 0 λi v hv=>by simpa using h i v hv
 rw[<- List.range_eq_range',hl] at this;exact this
section
variable {prog:PU}{w:Qq}{A:QB}{E:O6->Pf->Prop}{s:Pf}
theorem Bp {n:Nat} (hh:A.handled=none) (hr:IsRange s.heap r 0 n 1 t u v) (hl:n <= 1000)
  (h:∀ vs h' tk,Sy vs (uR n)->(∀ b o,s.heap.get? b=M o->h'.get? b=M o)->s.heap.objs.size<h'.objs.size->Q vs { s with heap:=h',toks:=tk }):
  Pp (PX prog w) A (collect (.ref r)) Q E s:=by
 have key:∀ R:Result->Pf->Prop,(∀ h' tk acc' c',(∀ b o,b ≠ s.heap.objs.size->(s.heap.push (TX "list" #[] 0)).get? b=M o->h'.get? b=M o)->h'.get? s.heap.objs.size=M { cls:=.type "list",dict:=none,data:=.seq acc' c',slots:=#[] } ->
   ItemsOf (λi v=>∃ t,v=.int (0+i*1) t) acc' n->R (.ok (.ret (.ref s.heap.objs.size))) { s with heap:=h',toks:=tk }) ->
   R5 (PX prog w) A (.builtin "list.__iadd__" ⟨[.ref s.heap.objs.size,.ref r],[]⟩) R { s with heap:=s.heap.push (TX "list" #[] 0) }:=λR hR=>by
  refine RC entry_list_iadd' ?_;rw[Rn VE _];show Pp _ _ (QG (.ref s.heap.objs.size) (.ref r) (.ref s.heap.objs.size)) _ _ { s with heap:=s.heap.push (TX "list" #[] 0) };refine wpAny_extend_range (R:=R) (s:={ s with heap:=s.heap.push (TX "list" #[] 0) }) hh (O3 _ hr) (small_one (a:=0) (b:=n) (by lia) (by lia) (by lia) (by lia)) (n:=n) ?_ (by lia) s.heap.objs.size _ 0 (O8 _ Y) λh' tk acc' c' hk hS' hacc=>hR h' tk acc' c' hk hS' hacc
  rw[Xw]
  split<;>lia
 unfold collect;refine O2 (W6 (RC entry_proto_collect' ?_));show Pp _ _ (do again (.builtin "list.__iadd__" ⟨[<- newList [],.ref r],[]⟩)) _ _ s;refine O2 (XB (O5 ⟨Xj _ (by decide +kernel),key _ fun h' tk acc' c' hk hS' hacc=>?_⟩));show Pp (PX prog w) A (do
   let o <- load s.heap.objs.size
   match o.data with
   |.seq xs _=>pure xs.toList
   |_=>unsupported "internal:collect") Q E { s with heap:=h',toks:=tk }
 refine O2 (wpAny_load hS' (O5 (h _ _ _ (Hq (by rw[QV];exact hacc.1) λi v hv=>?_) (λb o e=>hk b o (Pr (O7 e)) (O3 _ e)) (O7 hS'))));obtain⟨t',e⟩:=hacc.2 i v (by rw[<- S8];exact hv);exact⟨t',by rw[e];congr 1;lia⟩
theorem BD {n:Nat}
  (hh:A.handled=none)(F:Fr h₀ L s.heap m)(N:News h₀ L s.heap news)(hr:IsRange s.heap r 0 n 1 t u v)(hl:n<64)(hlen:kz.length=n)
  (ha1:Yj "sorted" ⟨[.ref r],kw⟩)(ha2:∀ x,Yj "list.sort" ⟨[.ref x],kw⟩)(ht:∀ x,Si.«list.sort» ⟨[.ref x],kw⟩=ksk_tree x f b)
  (lF:∀ (i:Nat) (k:Int) (t:Tok),i<n->kz[i]?=M k->∀ (h:Q9) (tk:Nat) (own:List (Po×Obj)),Fr h₀ L h m->News h₀ L h (news++own) ->
   Pp (PX prog w) A.in1.in1 (call f [.int i t]) (KskEnd h₀ L m (news++own) k { s with heap:=h,toks:=tk }) (λ_ _=>False) { s with heap:=h,toks:=tk })
  (h:∀ D h' tk out c vs,Sy vs (uR n)->Fr h₀ L h' m->News h₀ L h' ((D,TX "list" out c)::news)->s.heap.objs.size<=D->KskOut b kz vs out.toList->Q (.ref D) { s with heap:=h',toks:=tk }):
  Pp (PX prog w) A (call (.builtin "sorted") [.ref r] kw) Q E s:=by
 refine call_function_entry_kw kind_sorted plain_sorted entry_sorted ha1 ?_;unfold Si.«sorted»;refine O2 (m:=checkCount "sorted" 1 1 _) (O5 ?_);refine O2 (Bp (show A.in1.handled=none from hh) hr (by lia) λvs g tk hi kk hlt=>?_);have hvs:vs.length=n:=by rw[hi.length,jI]
 refine O2 (XB ?_ (by rw[QU];lia));have hL:L<s.heap.objs.size:=F.ns.lt;have hsz:s.heap.objs.size<=g.objs.size:=QD hlt;have hoL:(g.push (TX "list" vs.toArray 0)).get? g.objs.size=M (TX "list" vs.toArray 0):=O8 _ Y;have keep:∀ b o,s.heap.get? b=M o->(g.push (TX "list" vs.toArray 0)).get? b=M o:=λb o q=>O3 _ (kk b o q)
 have hLg:L<g.objs.size:=(F.kept kk).ns.lt;show Pp _ _ _ _ _ { s with heap:=g.push (TX "list" vs.toArray 0),toks:=tk };refine O2 (QE (wpAny_call_entry_kw slot_list_sort ⟨_,hoL,Y⟩ entry_list_sort ?body (ha2 _)))
 case body=>
  have ht':=ht g.objs.size;show Pp (PX prog w) A.in1.in1 (Si.«list.sort» ⟨[.ref g.objs.size],kw⟩) _ _ _;rw[ht'];refine ksk_sort (s:={ s with heap:=g.push (TX "list" vs.toArray 0),toks:=tk }) (kz:=kz)
   (F.kept keep) (N.grown keep) hoL (P8 hLg) (WV (PP F.above (QD hLg)))
   (λp hp=>Pr (Pg (O7 (N p hp).1) hsz)) (by lia) (by lia) (λi v k hv hk h tk own F' N'=>?_) λh' tk out c F' N' k'=>⟨_,Y,?_⟩
  ·have hin:i<n:=by rw[<- hvs];exact(Pk.mp hv).1
   obtain⟨t',e⟩:=hi.get i _ (CB hin);rw[e] at hv;cases hv;exact lF i k t' hin hk h tk own F' N'
  ·exact O5 ⟨_,Y,h _ h' tk out c vs hi F' N' hsz k'⟩
abbrev HN (qual far kn:Str)(params:Arguments)(pf pk pp:Pos)(scope:Uw)(cl:List (Str×Po))(pm cd ctv:O6):QR:=
 W5 "<lambda>" qual params (.Subscript (.Name far pf) (.Name kn pk) pp) scope cl pm cd ctv
theorem Fy {i:Nat}{k:Int}
  (hlim:s.heap.NoLimit)(hroom:A.depth<recursionLimit)(ho:s.heap.get? f=M { cls:=.type "function",data:=.func (HN qual far kn params pf pk pp scope cl pm (.ref c') ctv) })(hcd:s.heap.CodeRec (.ref c') qual)
  (hbind:∀ u,QA (HN qual far kn params pf pk pp scope cl pm (.ref c') ctv) ⟨[u],[]⟩=pure [(kn,u)])
  (hco:scope.isCoroutine=false)(hgen:scope.isGenerator=false)(hk:scope.kind=.function)(hnc:∀ x∈scope.names,x.2≠.cell)(hkl:scope.names.lookup kn=M .local)(hff:scope.names.lookup far=M .free)
  (hd1:(far==("__debug__":Str))=false)(hd2:(kn==("__debug__":Str))=false)(hd3:(far==("__classdict__":Str))=false)
  (hcl:cl.lookup far=M cf)(hcell:s.heap.IsCell cf (M (.ref l)))(hl:s.heap.IsList l vs.toArray)(hi:Sy vs ns)(hx:ns[i]?=M k)(hsm:ns.length<=1000)
  (h:∀ h' tk t',(∀ b o,s.heap.get? b=M o->h'.get? b=M o)->Q (.int k t') { s with heap:=h',toks:=tk }):
  Pp (PX prog w) A (call (.ref f) [.int i t]) Q E s:=by
 refine UL (PySem.W.kla_callFunE hroom ho rfl hco hgen rfl hcd ?_);rw[hbind];refine O5 (wpAny_newFunctionEnv hnc (λx hx=>?_) (λh₁ hns hsb=>⟨hlim.fresh _ hsb,PySem.W.kla_codeExpr ?_⟩) hk)
 ·cases O9.mp hx;exact hkl
 have hk₁:∀ b o,s.heap.get? b=M o->h₁.get? b=M o:=λb o e=>hsb.extBut b o (Pr (O7 e)) (O3 _ e)
 have hin:i<ns.length:=(Pk.mp hx).1;refine XS ?_;refine WP (wpAny_loadName_free hk ?_ hcl (hcell.keeps hk₁) ?_ hd3) hd1
 ·exact hff
 refine WP (UC hk ?_ hns (v:=.int i t) ?_ ?_) hd2
 ·exact hkl
 ·simp
 refine item_list_intsR (let ⟨o,e,q⟩:=hl;⟨o,hk₁ _ _ e,q⟩) hi (by lia) (by lia) (by lia) (λt'=>?_) Y;have e:ns.getD (i:Int).toNat 0=k:=by
  rw[Qc,Va,hx];rfl
 rw[e];exact h _ _ _ hk₁
end
open L2
theorem kA:∀ {vs:List O6}{ns:List Int},Sy vs ns->aU (ns.map V.int) vs
 |_,_,.nil=>.nil
 |_,_,.cons n t h=>.cons ⟨t,Y⟩ (kA h)
section
variable {X:Cx}
def Of (ta:TA):TE:=λσ H Q=>ta σ H λvs H1=>∃ n:Nat,vs=[.int n]/\n<=1000/\∀ p,H1 p=none->Q (.ref p) (upd H1 p (.rng 0 n))
theorem DB (hg:Gl X "range")(hm:X.mg "range"=none)(ha:WA X [a] ta)(hs:PN [a] X.env=[(false,Ts a X.env)]:=by rfl):WE X (.Call (.Name "range" p) [a] [] pos) (Of ta):=by
 have ha:=ha.go;refine⟨?_⟩;intro pins s σ H Q I h;refine Call_ (ig I hg hm boot_range (Qx (cy (ha pos pins s σ H _ I h) λus s1 ⟨vs,H1,I1,r1,q1⟩=>?_) hs rfl));obtain⟨n,rfl,hn,q⟩:=q1;cases r1 with
 |cons r rr=>
  cases rr;obtain⟨t,rfl⟩:=r;exact call_range_1 ⟨.ref s1.heap.objs.size,_,I1.laid (a:=s1.heap.objs.size) (o:=.rng 0 n) (t':=_) (λb o e=>O3 _ e) (Pe _) ⟨_,_,_,O8 _ Y⟩,Y,q _ (I1.hok.fresh (Pe _))⟩
def HY:List V->Hp->VK->Prop:=λxs H Q=>∃ (p:Po) (n:Nat),xs=[.ref p]/\H p=M (.rng 0 n)/\n<=1000/\∀ l,H l=none->Q (.ref l) (upd H l (.lst ((uR n).map V.int)))
theorem zJ (hc:X.calm=true):dD X (.type "list") HY:=by
 intro pins s σ H xs us Q I r h;obtain⟨p,n,rfl,hp,hn,q⟩:=h;obtain⟨u,rfl,ru⟩:=md r;cases ru;obtain⟨t,u,v,e⟩:=(show ce X.prog X.w H s.heap p (.rng 0 n) from I.hok _ _ hp)
 refine call_list_range (n:=n) (I.ok.hd hc) e (small_one (a:=0) (b:=n) (by lia) (by lia) (by lia) (by lia)) (by rw[Xw];split<;>lia) (by lia) λh' tk acc c hk hD hI=>?_
 have hv:Sy acc.toList (uR n):=Hq (by rw[QV];exact hI.1) λi v hv=>by
  obtain⟨t',e⟩:=hI.2 i v (by rw[<- S8];exact hv);exact⟨t',by rw[e];congr 1;lia⟩
 refine⟨.ref s.heap.objs.size,_,I.laid (a:=s.heap.objs.size) (o:=.lst ((uR n).map V.int)) (t':=tk) hk (Pe _) ⟨?_,acc.toList,c,kA hv,by rw[WQ];exact hD⟩,Y,q _ (I.hok.fresh (Pe _))⟩;rw[Pb,jI];exact cY hn
end
theorem nO {l c:Int}{t u:Nat}:∀ (ps:List O6),Xt ps->Ux pos (ps++[.int l t,.int c u,cd])=((Ux pos ps).or (if(l==pos.line&&c==pos.col)=true then M cd else none))
 |[],_=>by
  show(if(l==pos.line&&c==pos.col)=true then M cd else Ux pos [])=_;rfl
 |.int a t::.int b u::e::r,h=>by
  show(if(a==pos.line&&b==pos.col)=true then M e else Ux pos (r++[.int l _,.int c _,cd]))=Option.or (if(a==pos.line&&b==pos.col)=true then M e else Ux pos r) _
  by_cases q:(a==pos.line&&b==pos.col)=true
  ·rw[Qh q,Qh q];rfl
  ·rw[P3 q,P3 q];exact nO r h
theorem rJ {l c:Int}{t u:Nat}:∀ (ps:List O6),Xt ps->Xt (ps++[.int l t,.int c u,cd])
 |[],_=>trivial
 |.int a t::.int b u::e::r,h=>rJ r h
abbrev E6 (q:Str):HO:=.tbl #[.str q 0]
section
variable {X:Cx}{pins:List (Po×Obj)}{σ:L2.St}{H:Hp}{s:Pf}
theorem Ig (I:aJ X pins σ H s) (hcode:X.env.code=.ref c) (hcd:∀ h,X.K.In h->Vv h c P) (hP:H P=M (E6 (X.env.qual ++ "<lambda>")))
  (hfree:∀ y∈scope.names,y.2=.free->∃ c,X.env.cells.lookup y.1=M c)(hdef:defaultsOf params X.env=([],[]))
  (h:∀ fa c' pm ctv H2 s2,aJ X pins σ H2 s2->ah H H2->s2.heap.get? fa=M { cls:=.type "function",data:=.func (W5 "<lambda>" (X.env.qual++"<lambda>") params body scope (vX X.env.cells scope.names []) pm (.ref c') ctv) } ->
   s2.heap.CodeRec (.ref c') (X.env.qual++"<lambda>")->Q (.ref fa) s2) :
  Pp (PX X.prog X.w) X.A (Ts (.Lambda params body scope lp) X.env) Q E s:=by
 have okP:∃ ps:Array O6,s.heap.get? P=M (Yo ps)/\Xt ps.toList/\∀ pos cv,Ux pos ps.toList=M cv->∃ c' o vs t',cv=.ref c'/\H c'=M (.own P)/\s.heap.get? c'=M o/\o.data=.fields vs/\vs[1]?=M (.str (X.env.qual++"<lambda>") t'):=by
  obtain⟨ps,e,tr,q,t,e0,f⟩:=(show ce X.prog X.w H s.heap P (E6 (X.env.qual++"<lambda>")) from I.hok _ _ hP)
  have e0':M (VQ (X.env.qual++"<lambda>") 0)=M (.str q t):=e0;cases e0';exact⟨ps,e,tr,f⟩
 obtain⟨ps,eP,tr,fP⟩:=okP;obtain⟨bm,ob,b1,b2,b3,b4,b5,b6⟩:=I.mod.bm;have hgs:s.heap.Ns O_ X.mg:=I.mod.glob.keeps I.bk;have hgP:O_≠P:=λq=>by
  obtain⟨o,es,ep,e,hd,_⟩:=hgs;rw[q,eP] at e;cases e;cases hd
 have hbP:bm≠P:=λq=>by
  have e:=I.bk _ _ b3;rw[q,eP] at e;cases e;cases b4
 have hbG:bm≠O_:=λq=>by
  obtain⟨o,es,ep,e,hd,_⟩:=hgs;have e':=I.bk _ _ b3;rw[q,e] at e';cases e';rw[hd] at b6;cases b6
 have B:s.heap.BuiltinsAt X.mg P:=⟨bm,ob,b1,b2,hbG,hbP,I.bk _ _ b3,b4,b5,b6⟩
 refine PySem.W.kla_eval hdef ?_;cases hcm:Ux lp ps.toList with
 |some cv=>
  obtain⟨c',o,vs,t',rfl,w2,w3,w4,w5⟩:=fP lp cv hcm;refine PySem.W.kla_makeFunctionHit (mg:=X.mg) (uB hfree) I.ok.glob hgs hcode (hcd _ I.kIn) eP tr hcm B λctv h' tk hk hsz=>?_
  have kk:∀ b u,s.heap.get? b=M u->(h'.push { cls:=.type "function",data:=.func (W5 "<lambda>" (X.env.qual++"<lambda>") params body scope (vX X.env.cells scope.names []) ((X.mg "__name__").getD .none) (.ref c') ctv) }).get? b=M u:=λb u e=>O3 _ (hk b u e)
  exact h h'.objs.size c' _ ctv H _ (I.kept (t':=tk) kk) (ah.refl _) (O8 _ Y) ⟨c',o,vs,t',Y,kk _ _ w3,w4,w5⟩
 |none=>
  refine PySem.W.kla_makeFunction (mg:=X.mg) (uB hfree) I.ok.glob hgs hcode (hcd _ I.kIn) eP tr hcm hgP B λc' ctv h' tk hx hge hlt hrec htb=>?_
  have fc:H c'=none:=I.hok.fresh hge;obtain⟨c2,oc,vs,t,ec,g1,g2,g3⟩:=hrec;cases ec;have nP:∀ b u,b≠P->s.heap.get? b=M u->(h'.push (Tf "<lambda>" (X.env.qual++"<lambda>") params body scope (vX X.env.cells scope.names []) ((X.mg "__name__").getD .none) c' ctv)).get? b=M u:=λb u nb e=>O3 _ (hx b u nb e)
  have gc:(h'.push (Tf "<lambda>" (X.env.qual++"<lambda>") params body scope (vX X.env.cells scope.names []) ((X.mg "__name__").getD .none) c' ctv)).get? c'=M oc:=O3 _ g1;have gP:(h'.push (Tf "<lambda>" (X.env.qual++"<lambda>") params body scope (vX X.env.cells scope.names []) ((X.mg "__name__").getD .none) c' ctv)).get? P=M (Yo (ps++#[RO lp.line,RO lp.col,.ref c'])):=O3 _ htb;have gF:(h'.push (Tf "<lambda>" (X.env.qual++"<lambda>") params body scope (vX X.env.cells scope.names []) ((X.mg "__name__").getD .none) c' ctv)).get? h'.objs.size=M (Tf "<lambda>" (X.env.qual++"<lambda>") params body scope (vX X.env.cells scope.names []) ((X.mg "__name__").getD .none) c' ctv):=O8 _ Y;generalize h'.push (Tf "<lambda>" (X.env.qual++"<lambda>") params body scope (vX X.env.cells scope.names []) ((X.mg "__name__").getD .none) c' ctv)=g at nP gc gP gF ⊢;have sm:ah H (upd H c' (.own P)):=λb o e=>by rw[au (aS e fc)];exact e
  have ne:∀ b,H b=none->b≠P:=λb n z=>by rw[z,hP] at n;cases n
  have lc:∀ b u,s.heap.get? b=M u->b≠c':=λb u e=>Pr (Pg (O7 e) hge)
  refine h h'.objs.size c' _ ctv (upd H c' (.own P)) _ (I.un (t':=tk) ⟨λb u q n _ _=>nP b u (ne b n) q,λb u q n _ _=>⟨u.slots,nP b u (ne b n) q⟩,λb u q n _=>by rw[au (lc b u q)];exact n,λb u q _=>?_,λb xs q=>sm _ _ q,λb u w q=>sm _ _ q,λb qs q=>⟨#[],by rw[sm _ _ q];simp⟩⟩ λb u q=>?_) sm gF ⟨c',oc,vs,t,Y,gc,g2,g3⟩
  ·by_cases hb:b=P
   ·exact⟨_,by rw[hb];exact gP⟩
   ·exact⟨u,nP b u hb q⟩
  ·by_cases hb:b=c'
   ·subst hb;rw[ag] at q;cases q;exact⟨oc,gc⟩
   ·rw[au hb] at q
    by_cases hbP':b=P
    ·subst hbP';rw[hP] at q;cases q;refine⟨_,gP,?_,_,_,Y,λpos cv z=>?_⟩
     ·rw[W9];exact rJ _ tr
     ·rw[W9] at z;have z':=(nO (pos:=pos) (l:=(lp.line:Int)) (c:=(lp.col:Int)) (t:=0) (u:=0) (cd:=.ref c') ps.toList tr).symm.trans z;cases zz:Ux pos ps.toList with
      |some cv'=>
       rw[zz] at z';have z2:cv'=cv:=O4 z';subst z2;obtain⟨c2,o2,vs2,t2,w1,w2,w3,w4,w5⟩:=fP pos cv' zz;exact⟨c2,o2,vs2,t2,w1,sm _ _ w2,nP c2 o2 (λz=>by rw[z,hP] at w2;cases w2) w3,w4,w5⟩
      |none=>
       rw[zz] at z';have z2:(if((lp.line:Int)==pos.line&&(lp.col:Int)==pos.col)=true then M (P2 c') else none)=M cv:=z'
       split at z2
       ·cases z2;exact⟨c',oc,vs,t,Y,ag,gc,g2,g3⟩
       ·cases z2
    ·refine(I.hok b u q).stay (λd v hd r=>nP d v ?_ r) (λd r=>sm _ _ r) λd xs r=>sm _ _ r
     rcases hd with rfl|hd
     ·exact hbP'
     ·exact λz=>by rw[z,hP] at hd;cases hd
end
theorem vp [BEq α][LawfulBEq α]:∀ {l:List (α×β)},l.lookup x=M y->(x,y)∈l
 |[],h=>nomatch h
 |(a,b)::r,h=>by
  rw[QF] at h;cases q:x==a with
  |true=>
   rw[q] at h;have e:x=a:=eq_of_beq q;cases h;rw[e];exact PQ
  |false=>
   rw[q] at h;exact Pj _ (vp h)
def Bj (sc:Uw)(far kn:Str):Bool:=sc.kind==.function&&!sc.isCoroutine&&!sc.isGenerator&&sc.names.all (λy=>!(y.2==.cell))&&sc.names.lookup kn==M .local&&sc.names.lookup far==M .free
def F8 (K:KE)(i:Nat)(P:Po)(q:Str)(tr:TE):TE:=λσ H Q=>tr σ H λx H1=>∃ (r:Po) (n:Nat) (l:Po) (ns:List Int),x=.ref r/\H1 r=M (.rng 0 n)/\n<64/\σ[i]?=M (M (.ref l))/\bK K H1 l (ns.map V.int)/\ns.length=n/\H1 P=M (E6 q) /\
 ∀ (H2:Hp) (D:Po) (order:List Int),ah H1 H2->H2 D=none->order.Perm (uR n)->order.Pairwise (λa b=>ns.getD b.toNat 0<=ns.getD a.toNat 0)->Q (.ref D) (upd H2 D (.lst (order.map V.int)))
section
variable {X:Cx}{K:KE}
theorem Ba {i k:Nat}{cj:Nat} (hK:X.K=K) (hc:X.calm=true) (hr:Room k X.A) (hg:Gl X "sorted") (hm:X.mg "sorted"=none)
  (hcode:X.env.code=.ref c)(hcd:∀ h,K.In h->Vv h c P)(hN:X.N[i]?=M far)(hv:X.env.kindOf far=M .cell)(he:WE X er tr)
  (hst:PN [er] X.env=[(false,Ts er X.env)]:=by rfl)
  (hsc:Bj scope far kn=true:=by decide +kernel)(hfr:(scope.names.all λy=>!(y.2==.free)||(X.env.cells.lookup y.1).isSome)=true:=by rfl)(hdef:defaultsOf params X.env=([],[]):=by rfl)
  (hbind:∀ qual cl pm cd ctv u,QA (HN qual far kn params pf pk pp scope cl pm cd ctv) ⟨[u],[]⟩=pure [(kn,u)]:=by intros;rfl)
  (hd1:(far==("__debug__":Str))=false:=by decide)(hd2:(kn==("__debug__":Str))=false:=by decide)(hd3:(far==("__classdict__":Str))=false:=by decide):
  WE X (.Call (.Name "sorted" p) [er] [⟨M "key",.Lambda params (.Subscript (.Name far pf) (.Name kn pk) pp) scope lp,kp1⟩,⟨M "reverse",.Constant (.bool true) cj cp,kp2⟩] pos) (F8 K i P (X.env.qual++"<lambda>") tr):=by
 have he:=he.go;refine⟨?_⟩;subst hK;unfold Bj at hsc;simp only[Qu,Rb,RJ] at hsc;obtain⟨⟨⟨⟨⟨k1,k2⟩,k3⟩,k4⟩,k5⟩,k6⟩:=hsc;have hfree:∀ y∈scope.names,y.2=.free->∃ c,X.env.cells.lookup y.1=M c:=λy hy e=>by
  rw[Rb] at hfr;have:=hfr y hy;rw[e] at this;exact RH.mp (by simpa using this)
 intro pins s σ H Q I h;refine QL (ig I hg hm qJ ?_);refine callWith_kw (env:=X.env) (he:=by rw[hst];rfl) (hplain:=by rw[hst];rfl) (cy ((CL he Hk hst) pos pins s σ H (λvs H1=>match vs with
  |[x]=>∃ (r:Po) (n:Nat) (l:Po) (ns:List Int),x=.ref r/\H1 r=M (.rng 0 n)/\n<64/\σ[i]?=M (M (.ref l))/\bK X.K H1 l (ns.map V.int)/\ns.length=n/\H1 P=M (E6 (X.env.qual++"<lambda>")) /\
   ∀ (H2:Hp) (D:Po) (order:List Int),ah H1 H2->H2 D=none->order.Perm (uR n)->order.Pairwise (λa b=>ns.getD b.toNat 0<=ns.getD a.toNat 0)->Q (.ref D) (upd H2 D (.lst (order.map V.int)))
  |_=>False) I h) λus s1 ⟨vs,H1,I1,r1,q1⟩=>?_)
 match vs,r1,q1 with
 |[x],r1,q1=>
  obtain⟨r,n,l,ns,rfl,hr1,hn,hσ,hl,hlen,hP,q⟩:=q1;obtain⟨u,rfl,ru⟩:=md r1;cases ru;refine kws_cons (Ig I1 hcode hcd hP hfree hdef λfa c' pm ctv H2 s2 I2 sm ho hrec=>?_);refine kws_cons (Constant_bool (kws_nil ?_));show Pp _ _ (call (.builtin "sorted") [.ref r] [(QQ "key",.ref fa),(QQ "reverse",.bool true)]) _ _ s2;obtain⟨t,u,v,hrng⟩:=(show ce X.prog X.w H2 s2.heap r (.rng 0 n) from I2.hok _ _ (sm _ _ hr1))
  obtain⟨m,hnm,hloc⟩:=id I2.loc;obtain⟨w,rw',lk⟩:=hloc i far (.ref l) hN hσ (.inr (.inl hv));cases rw';obtain⟨cf,ecf,hcell⟩:∃ cf,X.env.cells.lookup far=M cf/\s2.heap.IsCell cf (M (.ref l)):=by
   rcases lk with ⟨z,_⟩|⟨_,cf,e,z⟩
   ·rw[hv] at z;cases z
   ·exact⟨cf,e,z⟩
  have hcl:(vX X.env.cells scope.names []).lookup far=M cf:=by
   have mem:(far,QZ)∈scope.names:=vp k6;obtain⟨c2,e2⟩:=mP (cells:=X.env.cells) (names:=scope.names) (acc:=[]) (x:=far) (.inr mem);rcases jq hfree e2 with z|⟨_,z⟩
   ·cases z
   ·rw[ecf] at z;cases z;exact e2
  obtain⟨its,rv,pl,_⟩:=I2.list (sm.seq hl);have hints:=t9 rv;obtain⟨oL,esL,epL,eL,dL,_⟩:=id hnm;have F:Fr X.base X.env.locals s2.heap m:=⟨hnm,I2.bk,PP I2.ok.bsz I2.ok.above⟩
  have all:∀ {h:Q9},Fr X.base X.env.locals h m->News X.base X.env.locals h (mQ X.base s2.heap X.env.locals)->∀ b o,b≠X.env.locals->s2.heap.get? b=M o->h.get? b=M o:=λ{h} F' N' b o nb e=>by
   cases z:X.base.get? b with
   |some o'=>
    have:=I2.bk b o' z;rw[e] at this;cases this;exact F'.keep b o z
   |none=>exact(N' (b,o) (A1 nb z e)).1
  have nL:∀ b o,s2.heap.get? b=M o->(∀ es ep,o.data≠.dict es ep)->b≠X.env.locals:=λb o e hd z=>by
   rw[z,eL] at e;cases e;exact hd _ _ dL
  have rm:=hr.dp;refine BD (h₀:=X.base) (L:=X.env.locals) (m:=m) (news:=mQ X.base s2.heap X.env.locals) (b:=true) (kz:=ns) (I2.ok.hd hc) F GV hrng hn hlen (ksk_s2 _ _ _) (λx=>ksk_l2 _ _ _) (λx=>ksk_t2 _ _ _) (λj k t hj hk h tk own F' N'=>?_) λD h' tk out cc vs hi F' N' hD ko=>?_
  ·have al:=all F' (λp hp=>N' p (RL _ hp));obtain⟨oc,hoc,hdc⟩:=hcell;obtain⟨ol,nl,el,cl,dl,xl⟩:=id pl;obtain⟨c2,o2,vs2,t2,ec,g1,g2,g3⟩:=id hrec;cases ec;refine Fy (s:={ s2 with heap:=h,toks:=tk }) (ns:=ns) (I2.ok.mod.nolimit.keeps F'.keep) (by show X.A.depth<recursionLimit;lia) (al _ _ (nL _ _ ho λ_ _ z=>nomatch z) ho) ⟨_,o2,vs2,t2,Y,al _ _ (nL _ _ g1 λ_ _ z=>by rw[g2] at z;cases z) g1,g2,g3⟩ (λu=>hbind _ _ _ _ _ u)
    (by simpa using k2) (by simpa using k3) k1 (λx hx z=>by have:=k4 x hx;rw[z] at this;cases this) k5 k6 hd1 hd2 hd3 hcl ⟨oc,al _ _ (nL _ _ hoc λ_ _ z=>by rw[hdc] at z;cases z) hoc,hdc⟩ ⟨ol,al _ _ (nL _ _ el λ_ _ z=>by rw[xl] at z;cases z) el,cl,nl,xl⟩ hints hk (by lia) λh'' tk' t' kk=>?_
   exact KskEnd.intro (F'.kept kk) (N'.grown kk) λp hp=>hp
  ·have al:=all F' (λp hp=>N' p (Pj _ hp));have gD:=(N' _ PQ).1;have fD:H2 D=none:=I2.hok.fresh hD;obtain⟨pz,pp1,po,pw⟩:=ko;have hvl:vs.length=n:=by rw[hi.length,jI]
   have hint:∀ q∈pz,∃ (j:Nat) (t:Tok),j<n/\q.2=.int j t/\q.1=ns.getD j 0:=λq hq=>by
    have hq':=pp1.mem_iff.mp hq;obtain⟨j,hj⟩:=List.getElem?_of_mem hq';rw[Qr] at hj;have jn:j<n:=by rw[<- hlen];exact(Pk.mp hj.1).1
    obtain⟨t',e⟩:=hi.get j _ (CB jn);rw[e] at hj;refine⟨j,t',jn,(O4 hj.2).symm,?_⟩;rw[Va,hj.1];rfl
   have hout:Sy out.toList (pz.map λq=>numOf q.2):=by
    rw[po];have go:∀ (l:List (Int×O6)),(∀ q∈l,∃ (j:Nat) (t:Tok),j<n/\q.2=.int j t/\q.1=ns.getD j 0)->Sy (l.map Prod.snd) (l.map λq=>numOf q.2):=by
     intro l
     induction l with
     |nil=>intro _;exact .nil
     |cons q l ih=>
      intro hl;obtain⟨j,t,_,e,_⟩:=hl q PQ;rw[PF,PF,e];exact .cons _ _ (ih λq hq=>hl q (Pj _ hq))
    exact go pz hint
   have hperm:(pz.map λq=>numOf q.2).Perm (uR n):=by
    have h1:=(pp1.map Prod.snd).map numOf;rw[List.map_snd_zip (by lia),hi.nums,TU] at h1;exact h1
   have hpw:(pz.map λq=>numOf q.2).Pairwise (λa b=>ns.getD b.toNat 0<=ns.getD a.toNat 0):=by
    rw[List.pairwise_map];refine pw.imp_of_mem λ{a b} ha hb hab=>?_
    obtain⟨ja,ta,_,ea,va⟩:=hint a ha;obtain⟨jb,tb,_,eb,vb⟩:=hint b hb;have hab':b.1<=a.1:=hab;rw[ea,eb];show ns.getD (jb:Int).toNat 0<=ns.getD (ja:Int).toNat 0;rw[Qc,Qc,<- va,<- vb];exact hab'
   refine⟨.ref D,_,?_,Y,q H2 D _ sm fD hperm hpw⟩;have keepT:∀ b u,H2 b=M u->b≠X.env.locals:=λb u e z=>by rw[z,I2.free] at e;cases e
   have I3:aJ X pins σ H2 { s2 with heap:=h',toks:=tk }:=by
    refine I2.step (g':=s2.gens) (d':=s2.drawn) (ch:=[]) (λ_ z=>nomatch z) (λb o nb _ _ e _=>al b o nb e) (λb o nb _ _ e _=>⟨o.slots,al b o nb e⟩) (λ_ _ _ _ n=>n) (λb o _ e=>?_) (λ_ _ e=>e) (λ_ _ _ e=>e) (λb ps e=>⟨#[],by rw[e];simp⟩) (λm' hm'=>?_) (λb u e=>?_) I2.bare
    ·by_cases nb:b=X.env.locals
     ·obtain⟨o',_,_,e',_⟩:=F'.ns;exact⟨o',by rw[nb];exact e'⟩
     ·exact⟨o,al b o nb e⟩
    ·rw[hm'.eq_nsMap,<- hnm.eq_nsMap];exact F'.ns
    ·refine(I2.hok b u e).stay (λd v hd r=>al d v ?_ r) (λ_ r=>r) λ_ _ r=>r
     rcases hd with rfl|hd
     ·exact keepT _ _ e
     ·exact keepT _ _ hd
   have F3:=I2.fpOk (b:=D) (H':=H2) hD fD;exact dM I3 fD (PP I2.sz hD) F3.2.1 F3.2.2.2.2.1 F3.2.2.2.2.2 ⟨by
    rw[Pb];have:=hperm.length_eq;rw[jI] at this;rw[this];exact cY (by lia),out.toList,cc,kA hout,by rw[WQ];exact gD⟩
end
def Jk (Tb:Po->Option Str)(own:Bool)(a:Po)(o:Obj)(ns:List Int):Hp:=λb=>match Tb b with
 |some q=>M (E6 q)
 |none=>if own=true/\b=a then M (.frz o (.lst (ns.map V.int))) else none
theorem DF {P:PU}{w:Qq}{K:KE}{mg mb:Str->Option O6}{CX:l7}{k:Nat}{fa a:Po}{fd:QR}{x:Str}{sp:Sp}{s₁:Pf}{vs:List O6}{ns:List Int} (Tb:Po->Option Str)
  (KX:K.In s₁.heap)(hns:s₁.heap.Ns O_ mg)(hb:s₁.heap.Ns Ul mb)(hbb:∀ x:Str,x≠"__name__"->mb x=Qt x)(hlim:s₁.heap.NoLimit)(hg:s₁.gens=#[])
  (hbm:∃ bm o,mg "__builtins__"=M (.ref bm)/\bm≠Ul/\s₁.heap.get? bm=M o/\o.cls=.type "module"/\o.dict=M Ul/\o.data=.plain)
  (hT:∀ b q,Tb b=M q->s₁.heap.get? b=M { cls:=.none,data:=.fields #[] }/\isCodeTable s₁.heap b/\K.lookup b=none)
  (ha:s₁.heap.get? a=M { cls:=.type "list",data:=.seq vs.toArray })(hi:Sy vs ns)(hl:ns.length<=Pz)(hr:Room k Yk)
  (F:∀ base:Q9,K.In base->base.Ns O_ mg->jm P w K mg base CX k fa fd [x] sp)(hbind:∀ (s:Pf) (u:O6),W' s fd ⟨[u],[]⟩ [(x,u)])
  (hsp:∀ H:Hp,(∀ b q,Tb b=M q->H b=M (E6 q))->bK K H a (ns.map V.int)->sp [.ref a] H (λv _=>v=.bl true) λ_ _ _=>False)
  (hCX:∀ H e s',CX [] H s₁ (λ_ _ _=>False) e s'->False):
  R5 (PX P w) Yk (.call (.ref fa) ⟨[.ref a],[]⟩) (λr s'=>r=.ok (.ret (.bool true))/\OldK s₁.heap s'.heap/\s'.os=s₁.os/\W7 s'.gens) s₁:=by
 have rv:=kq hi;have nTa:Tb a=none:=by
  cases q:Tb a with
  |none=>rfl
  |some z=>
   have:=(hT a z q).1;rw[ha] at this;cases this
 obtain⟨own,hown⟩:∃ own:Bool,own=(K.lookup a).isNone:=⟨_,Y⟩
 let H:Hp:=Jk Tb own a { cls:=.type "list",data:=.seq vs.toArray } ns
 have HT:∀ b q,Tb b=M q->H b=M (E6 q):=λb q e=>by
  show(match Tb b with|some q=>M (E6 q)|none=>_)=_;rw[e]
 have cases_:∀ b u,H b=M u->(∃ q,Tb b=M q/\u=E6 q)\/(own=true/\b=a/\u=.frz { cls:=.type "list",data:=.seq vs.toArray } (.lst (ns.map V.int))):=λb u e=>by
  have e':(match Tb b with|some q=>M (E6 q)|none=>if own=true/\b=a then M (HO.frz { cls:=.type "list",data:=.seq vs.toArray } (.lst (ns.map V.int))) else none)=M u:=e;cases q:Tb b with
  |some z=>
   rw[q] at e';exact .inl ⟨z,Y,(O4 e').symm⟩
  |none=>
   rw[q] at e';dsimp only at e'
   split at e'
   ·rename_i hc
    exact .inr ⟨hc.1,hc.2,(O4 e').symm⟩
   ·cases e'
 have ok:pE P w H s₁.heap:=λb u e=>by
  rcases cases_ b u e with ⟨q,hq,rfl⟩|⟨_,rfl,rfl⟩
  ·exact⟨#[],(hT b q hq).1,trivial,q,0,rfl,λpos cv z=>nomatch z⟩
  ·exact⟨ha,by rw[Pb];exact hl,vs,_,rv,ha⟩
 have hS:bK K H a (ns.map V.int):=by
  cases hk:K.lookup a with
  |some o=>
   have e:=KX a o hk;rw[ha] at e;cases e;exact .inr ⟨_,vs.toArray,_,hk,Y,Y,Y,by rw[PD,hi.length];exact hl,by simpa using rv⟩
  |none=>
   refine .inl (.inr ⟨{ cls:=.type "list",data:=.seq vs.toArray },?_⟩);show(match Tb a with|some q=>M (E6 q)|none=>if own=true/\a=a then M (HO.frz { cls:=.type "list",data:=.seq vs.toArray } (.lst (ns.map V.int))) else none)=_;rw[nTa];dsimp only;rw[Qh ⟨by rw[hown,hk];rfl,Y⟩]
 have un:∀ {b:Po}{o:Obj},s₁.heap.get? b=M o->(∀ its n,o.data≠.seq its n)->(∀ ws,o.data≠.fields ws)->H b=none:=λ{b o} e h1 h2=>by
  cases q:H b with
  |none=>rfl
  |some u=>
   rcases cases_ b u q with ⟨z,hz,_⟩|⟨_,rfl,_⟩
   ·have:=(hT b z hz).1;rw[e] at this;cases this;exact absurd rfl (h2 _)
   ·rw[ha] at e;cases e;exact absurd rfl (h1 _ _)
 have nsK:∀ {b:Po}{m:Str->Option O6},s₁.heap.Ns b m->(At s₁.heap H).Ns b m:=λ{b m} ⟨o,es,ep,e,d,r⟩=>⟨o,es,ep,uN e (un e (λ_ _ z=>by rw[d] at z;cases z) λ_ z=>by rw[d] at z;cases z),d,r⟩
 have hKb:K.In (At s₁.heap H):=λb o e=>uN (KX b o e) (by
  cases q:H b with
  |none=>rfl
  |some u=>
   rcases cases_ b u q with ⟨z,hz,_⟩|⟨ho,rfl,_⟩
   ·rw[(hT b z hz).2.2] at e;cases e
   ·rw[hown,e] at ho;cases ho)
 have hM:Mod K mg (At s₁.heap H):=⟨hKb,nsK hns,⟨mb,nsK hb,hbb⟩,let ⟨mc,h1,h2⟩:=hlim;⟨mc,nsK h1,h2⟩,by
  obtain⟨bm,o,b1,b2,b3,b4,b5,b6⟩:=hbm;exact⟨bm,o,b1,b2,uN b3 (un b3 (λ_ _ z=>by rw[b6] at z;cases z) λ_ z=>by rw[b6] at z;cases z),b4,b5,b6⟩⟩
 have e0:B6 P w K mg (At s₁.heap H) Yk [] s₁ H:=⟨Y,hM,λb o e=>Jg e,Nat.le_of_eq (EA _ _),trivial,λb hb=>absurd (show b∈([]:List Po) from hb) (by simp),ok,.of_eq hg⟩
 refine Se ((F _ hKb (nsK hns)).run Yk [] s₁ H ⟨[.ref a],[]⟩ [.ref a] [.ref a] _ _ hr e0 (hbind s₁ (.ref a)) (.cons rfl .nil) (hsp H HT hS)) λr s' h=>?_
 cases r with
 |error e=>exact(hCX H e s' h).elim
 |ok fl=>
  cases fl with
  |next=>exact Rp h
  |brk=>exact Rp h
  |cont=>exact Rp h
  |ret u=>
   obtain⟨v,H',os,bare,un',hok',r',q⟩:=h;have q':v=.bl true:=q;subst q';obtain rfl:u=UK true:=r';have old:∀ b o,s₁.heap.get? b=M o->asItWas s₁.heap s'.heap b o:=λb o e=>by
    cases z:H b with
    |none=>exact .inl (un'.keep b o e z (by intro z;exact absurd (show b∈([]:List Po) from z) (by simp)) (by simp))
    |some u=>
     rcases cases_ b u z with ⟨n,hn,rfl⟩|⟨_,rfl,rfl⟩
     ·obtain⟨more,z2⟩:=un'.tbls b _ z;obtain⟨ps,e2,_⟩:=(show ce P w H' s'.heap b (.tbl _) from hok' b _ z2)
      obtain⟨e1,ct,_⟩:=hT b n hn;rw[e] at e1;cases e1;exact .inr (.inl ⟨ct,rfl,#[],ps,rfl,by simpa using e2⟩)
     ·have z2:=un'.frzs _ _ _ z;obtain⟨e2,_⟩:=(show s'.heap.get? _=M _/\_ from hok' _ _ z2)
      rw[ha] at e;cases e;exact .inl e2
   refine⟨rfl,⟨old,λb o e=>?_⟩,os,bare⟩;rcases old b o e with x|⟨_,_,_,_,_,x⟩|⟨_,_,⟨o',_,_,x,_⟩,_⟩
   ·exact⟨_,x⟩
   ·exact⟨_,x⟩
   ·exact⟨_,x⟩
def Dn (K:KE)(x:Str)(P:Po):Prop:=∃ (f:Po) (oc:O6) (od:Option Po) (fd:QR) (sl:Array (Option O6)) (c:Po),Pm K O_ x=M (M (.ref f))/\K.lookup f=M ⟨oc,od,.func fd,sl⟩/\fd.code=.ref c /\
 (∀ h:Q9,K.In h->Vv h c P)/\fd.qualname=x
def BV (K:KE)(x:Str)(H:Hp):Prop:=∃ P,Dn K x P/\H P=M (E6 (x++".<locals>."++"<lambda>"))
theorem BV.same {K:KE}{x:Str}{H H':Hp}(h:BV K x H)(s:ah H H'):BV K x H':=by obtain⟨P,a,b⟩:=h;exact⟨P,a,s _ _ b⟩
theorem BV.mv {K:KE}{x:Str}{T:List Po}{H H':Hp}(h:BV K x H)(m:Mv T H H')(l:b_ H T):BV K x H':=by obtain⟨P,a,b⟩:=h;exact⟨P,a,m _ _ b (l.not b λ_ z=>nomatch z)⟩
structure IT (K:KE)(mg:Str->Option O6)(x:Str)(st:Q1)(ps:List Str):Prop where
 dfn:cN K mg x st ps []
 at_:∃ f,Pm K O_ x=M (M (.ref f))/\mg x=M (.ref f)
section
variable {P:PU}{w:Qq}{K:KE}{mg:Str->Option O6}{base:Q9}{CX:l7}
theorem IT.cal {x:Str}{st:Q1}{N ps:List Str}{k:Nat}{sp:Sp} (F:IT K mg x st ps) (S:ao N ps (ae st)) (len:∀ vs H Q E,sp vs H Q E->vs.length=ps.length:=by intro _ _ _ _ h;cases h;subst_vars;rfl)
  (bb:∀ (f:Po) (cdv:O6) (A:QB) (outer:List Env) (s:Pf) (H:Hp) (vs:List V) (Q:VK) (E:XK),(∀ Pt,Dn K x Pt->∃ c,cdv=.ref c/\∀ h:Q9,K.In h->Vv h c Pt)->Room k (A.deeper (VT x (ae st) s.heap.objs.size f cdv))->sp vs H Q E ->
   ∃ t,HI (uW CX P w K mg base N x (ae st) f cdv A outer s H E).nox (aH st) t/\t { nx:=λ_ H'=>Q .non H',rt:=Q } (ki N vs) H):c9 P w K mg base CX (k+1) x ps [] sp:=by
 obtain⟨f,fd,oc,od,dV,kV,doc,pm,an,cdv,ct,osl,ds,rfl,lk,hcd,hm,hk,hb,hv⟩:=F.dfn.ex;refine⟨f,_,ds,wW lk hcd S len λA outer s H vs Q E hr hsp=>?_,hm,hk,hb,hv⟩;obtain⟨t,h,q⟩:=bb f cdv A outer s H vs Q E (λPt ⟨f',oc',od',fd',sl',c,e1,e2,e3,e4,_⟩=>by
  obtain⟨f2,z1,z2⟩:=F.at_;rw[e1] at z1;cases z1;rw[hm] at z2;cases z2;rw[lk] at e2;cases e2;exact⟨c,e3,e4⟩) hr hsp
 exact⟨t,h.nox,q⟩
end
def vB (xs:List Str)(K:KE):Sp:=λvs H Q _=>∃ (a:Po) (ns:List Int),vs=[.ref a]/\bK K H a (ns.map V.int)/\ns.length<=63/\(∀ x∈xs,BV K x H)/\∀ H',Q (.bl true) H'
def Hu (ts:List (Str×Po))(b:Po):Option Str:=(ts.find? λp=>p.2==b).map λp=>p.1++".<locals>."++"<lambda>"
def GP (vs:Array O6)(c P:Po):Prop:=∃ file tf flags tg inF text tt,vs[11]?=M (.ref P)/\vs.getD 11 .none=.ref P/\vs.getD 18 .none=.str file tf/\vs.getD 7 .none=.int flags tg/\vs.getD 9 .none=.bool inF/\vs.getD 10 .none=.int text tt/\c≠P
theorem L7 {K:KE}{x:Str}{f c P:Po}{oc:O6}{od odc:Option Po}{fd:QR}{sl slc:Array (Option O6)}{vs:Array O6} (a:Pm K O_ x=M (M (.ref f))) (l:K.lookup f=M ⟨oc,od,.func fd,sl⟩) (e:fd.code=.ref c) (qn:fd.qualname=x)
  (cc:K.lookup c=M ⟨.type "code",odc,.fields vs,slc⟩)(h:GP vs c P):Dn K x P:=by
 obtain⟨file,tf,flags,tg,inF,text,tt,h1,h2,h3,h4,h5,h6,h7⟩:=h;exact⟨f,oc,od,fd,sl,c,a,l,e,λhp X=>⟨_,vs,file,tf,flags,tg,inF,text,tt,X _ _ cc,Y,Y,h1,h2,h3,h4,h5,h6,h7⟩,qn⟩
theorem Lu {K:KE}{c P:Po}{odc:Option Po}{slc:Array (Option O6)}{vs:Array O6}(cc:K.lookup c=M ⟨.type "code",odc,.fields vs,slc⟩)(h:GP vs c P)(hp:Q9)(X:K.In hp):isCodeTable hp P:=by
 obtain⟨_,_,_,_,_,_,_,h1,_⟩:=h;exact⟨c,_,vs,X _ _ cc,Y,Y,h1⟩
structure yk (K:KE)(tA:List Po)(ts:List (Str×Po)):Prop where
 nodup:(ts.map (·.2)).Nodup
 tab:∀ p∈ts,p.2∈tA/\K.lookup p.2=none/\(∀ h:Q9,K.In h->isCodeTable h p.2)/\Dn K p.1 p.2
theorem GD (h:Hu ts b=M q):∃ p∈ts,p.2=b/\q=p.1++".<locals>."++"<lambda>":=by
 unfold Hu at h;obtain⟨p,e,rfl⟩:=PC.mp h;exact⟨p,List.mem_of_find?_eq_some e,eq_of_beq (List.find?_some (p:=λr:Str×Po=>r.2==b) e),Y⟩
theorem Jh {ts:List (Str×Po)}{p:Str×Po}(hn:(ts.map (·.2)).Nodup)(hp:p∈ts):Hu ts p.2=M (p.1++".<locals>."++"<lambda>"):=by
 unfold Hu;have e:ts.find? (λr=>r.2==p.2)=M p:=by
  induction ts with
  |nil=>nomatch hp
  |cons r ts ih=>
   rw[PF,Q_] at hn;rw[RY];rcases Pq.mp hp with rfl|hp
   ·rw[UB]
   ·have:(r.2==p.2)=false:=Rv.mpr λz=>hn.1 (z▸Qy.mpr ⟨p,hp,Y⟩)
    rw[this];exact ih hn.2 hp
 rw[e];rfl
theorem GN {l:Ws}{k:Nat}{q:PU}{loose:List Str}{XP:(Str->Option O6)->Q9->Prop}{YP:Qq->Q9->Prop}{d:DefRec}{K:Params->KE}{CX:Qq->l7}{x:Str}{sp:List Str->KE->Sp}{tA:List Po}
  (hn:l.most=M 63)(hdf:d.params.defaults=[])(hr:Room k Yk)
  (hY:∀ (w:Qq) (h:Q9),YP w h->(K w.params).In h)(hY2:∀ (w:Qq) (h:Q9),YP w h->∀ P∈tA,h.get? P=M { cls:=.none,data:=.fields #[] })
  (F:∀ (w:Qq) (mg:Str->Option O6) (fa:Po) (h:Q9),(K w.params).In h->h.Ns O_ mg->mg d.name=M (.ref fa) ->
   ∃ (ts:List (Str×Po)) (fd:QR),yk (K w.params) tA ts/\(∀ (s:Pf) (u:O6),W' s fd ⟨[u],[]⟩ [(x,u)]) /\
    ∀ base:Q9,(K w.params).In base->base.Ns O_ mg->jm l.prog w (K w.params) mg base (CX w) k fa fd [x] (sp (ts.map (·.1)) (K w.params)))
  (hsp:∀ (xs:List Str) (K:KE) (H:Hp) (a:Po) (ns:List Int),ns.length<=63->bK K H a (ns.map V.int)->(∀ x∈xs,BV K x H)->sp xs K [.ref a] H (λv _=>v=.bl true) λ_ _ _=>False)
  (hCX:∀ (w:Qq) (H:Hp) (s:Pf) (e:O6) (s':Pf),CX w [] H s (λ_ _ _=>False) e s'->False):
  PySem.W.WalkO q loose XP YP l.row.toRowW d [] (λf vs=>Yr f vs):=by
 refine Att.attach_call hn hdf λw s₀ s₁ mg mb fa o pm cd doc a vs ns G zzQ ho hd hcd hmg hobj hints hlen hg=>?_
 have KX:=hY w _ zzQ;obtain⟨ts,fd,tk,hb,hF⟩:=F w mg fa _ KX G.T.g hmg;refine DF (K:=K w.params) (Hu ts) KX G.T.g G.T.b G.T.builtins G.T.nolimit hg G.T.bmain (λb z e=>?_) hobj hints (PP hlen (by decide)) hr hF hb (λH hH hS=>hsp _ _ H a ns hlen hS λy hy=>?_) λH e s'=>hCX w H s₁ e s'
 ·obtain⟨p,m,rfl,rfl⟩:=GD e;obtain⟨t1,t2,t3,_⟩:=tk.tab p m;exact⟨hY2 w _ zzQ _ t1,t3 _ KX,t2⟩
 ·obtain⟨p,m,rfl⟩:=Qy.mp hy;exact⟨p.2,(tk.tab p m).2.2.2,hH _ _ (Jh tk.nodup m)⟩
theorem Dr {K:KE}{a:Po}{o:Obj}{its:Array O6}{n:Nat}{xs:List V}(l:K.lookup a=M o)(h:o.cls=.type "tuple"/\o.data=.seq its n/\its.size<=Pz/\aU xs its.toList):KT K a xs:=⟨o,its,n,l,h.1,h.2.1,h.2.2.1,h.2.2.2⟩
theorem _root_.L2.Room.u1 {k:Nat}(r:Room k A):A.units+1<cLine:=Vh (by lia) r.units
abbrev Kn:=Nat×Nat×Nat
def Js (t:Kn):P5:=.tuple [.int t.1,.int t.2.1,.int t.2.2]
def kr (t:Kn):List V:=[.int t.1,.int t.2.1,.int t.2.2]
theorem Ib (t:Kn):(dw t).map kV=kr t:=Y
theorem pO {K:KE}{H:Hp}{t:Kn}{v:V}(h:ay K H (Js t) v):∃ a,v=.ref a/\H a=M (.tup (kr t)):=by
 cases h with
 |tup h q=>
  cases q with
  |cons q1 q=>
   cases q1;cases q with
   |cons q2 q=>
    cases q2;cases q with
    |cons q3 q=>
     cases q3;cases q;exact⟨_,Y,h⟩
theorem mq {K:KE}{H:Hp}{t:Kn}{a:Po}(h:H a=M (.tup (kr t))):ay K H (Js t) (.ref a):=.tup h (.cons (.int _) (.cons (.int _) (.cons (.int _) .nil)))
theorem xE (h:dw t=dw u):t=u:=by
 obtain⟨a,b,c⟩:=t;obtain⟨x,y,z⟩:=u;have h:[UA (a:Int),UA (b:Int),UA (c:Int)]=([UA (x:Int),UA (y:Int),UA (z:Int)]:List ij):=h;injection h with h1 h
 injection h with h2 h
 injection h with h3 h
 injection h1 with h1
 injection h2 with h2
 injection h3 with h3
 have e1:a=x:=by lia
 have e2:b=y:=by lia
 have e3:c=z:=by lia
 rw[e1,e2,e3]
def nQ:List Kn->List V->List (List ij×V)
 |t::ts,v::vs=>(dw t,v)::nQ ts vs
 |_,_=>[]
theorem ux:∀ {ts:List Kn}{vs:List V},ts.length=vs.length->(nQ ts vs).length=ts.length
 |[],[],_=>rfl
 |[],_::_,h=>by simp at h
 |_::_,[],h=>by simp at h
 |t::ts,v::vs,h=>by
  rw[nQ,Qw,ux (by simpa using h),Qw]
theorem Dy:∀ {ts:List Kn}{vs:List V},ts.length=vs.length->(nQ ts vs).map (·.1)=ts.map dw
 |[],[],_=>rfl
 |[],_::_,h=>by simp at h
 |_::_,[],h=>by simp at h
 |t::ts,v::vs,h=>by
  rw[nQ,PF,Dy (by simpa using h),PF]
theorem Ko:∀ {ts:List Kn}{vs:List V}{i:Nat}{k:List ij}{v:V},(nQ ts vs)[i]?=M (k,v)->∃ t,ts[i]?=M t/\k=dw t/\vs[i]?=M v
 |[],_,_,_,_,h=>by simp[nQ] at h
 |_::_,[],_,_,_,h=>by simp[nQ] at h
 |t::ts,w::vs,0,k,v,h=>by
  have h:M (dw t,w)=M (k,v):=h;cases h;exact⟨t,Y,Y,Y⟩
 |t::ts,w::vs,i+1,k,v,h=>by
  obtain⟨u,a,b,c⟩:=Ko (ts:=ts) (vs:=vs) (i:=i) (by simpa [nQ] using h);exact⟨u,by simpa using a,b,by simpa using c⟩
theorem Gy {K:KE}{H:Hp}{f:Kn->P5}{t:Kn}:∀ {ts:List Kn}{vs:List V},az K H (ts.map f) vs->t∈ts->∃ v,pK (nQ ts vs) (dw t)=M v/\ay K H (f t) v
 |[],_,_,m=>nomatch m
 |u::ts,vs,h,m=>by
  cases h with
  |@cons d v ds vs h1 h2=>
   by_cases e:u=t
   ·subst e;exact⟨v,pX (p:=(dw u,v)) Y,h1⟩
   ·rcases Pq.mp m with z|m
    ·exact absurd z.symm e
    ·obtain⟨w,a,b⟩:=Gy h2 m;exact⟨w,by rw[nQ,l0 (p:=(dw u,v)) (λz=>e (xE z))];exact a,b⟩
theorem CY:∀ {ts:List Kn}{vs:List V},t∉ts->pK (nQ ts vs) (dw t)=none
 |[],_,_=>rfl
 |_::_,[],_=>rfl
 |u::ts,v::vs,m=>by
  rw[nQ,l0 (p:=(dw u,v)) (λz=>m (by rw[xE z];exact PQ))];exact CY λz=>m (Pj _ z)
theorem Hv:∀ {ts:List Kn}{vs:List V}{t:Kn}{v:V},ts.length=vs.length->nQ (ts++[t]) (vs++[v])=nQ ts vs++[(dw t,v)]
 |[],[],_,_,_=>rfl
 |[],_::_,_,_,h=>by simp at h
 |_::_,[],_,_,h=>by simp at h
 |u::ts,w::vs,t,v,h=>by
  rw[V5,V5,nQ,nQ,Hv (by simpa using h),V5]
theorem FE (hl:ts.length=vs.length)(h:t∉ts):oC (nQ ts vs) (dw t) v=nQ (ts++[t]) (vs++[v]):=by
 rw[FF v (CY h),Hv hl]
def wD (r:R3):P5:=c6 false r
structure R3.Wt (r:R3):Prop where
 a0:0<=r.a
 a1:r.a<=1000
 b0:0<=r.b
 b1:r.b<=1000
 c0:0<=r.c
 c1:r.c<=1000
def yt (K:KE)(H:Hp)(ts:List Kn)(f:Kn->R3)(d:Po):Prop:=∃ vs,H d=M (.dT (nQ ts vs))/\az K H (ts.map λt=>wD (f t)) vs
def Gr (K:KE)(H:Hp)(n:Nat)(f:Kn->R3)(d:Po):Prop:=∃ ts,ts.Perm (bQ n)/\yt K H ts f d
def EH (n:Nat)(f:Kn->R3):Prop:=∀ t∈bQ n,(f t).Wt
theorem C5 {f:Kn->R3}:∀ ts:List Kn,jG (ts.map λt=>wD (f t))=true
 |[]=>rfl
 |t::ts=>by
  rw[PF,jG,C5 ts];rfl
theorem yt.len {K:KE}{ts:List Kn}{f:Kn->R3}{H:Hp}{vs:List V}(h:az K H (ts.map λt=>wD (f t)) vs):ts.length=vs.length:=by
 have:=h.length
 rwa [Pb] at this
theorem yt.same {K:KE}{H H':Hp}{ts:List Kn}{f:Kn->R3}{d:Po}(h:yt K H ts f d)(s:ah H H'):yt K H' ts f d:=by obtain⟨vs,a,b⟩:=h;exact⟨vs,s _ _ a,az.same s b⟩
theorem Gr.same {K:KE}{H H':Hp}{n:Nat}{f:Kn->R3}{d:Po}(h:Gr K H n f d)(s:ah H H'):Gr K H' n f d:=by obtain⟨ts,p,g⟩:=h;exact⟨ts,p,g.same s⟩
theorem yt.mv {K:KE}{T:List Po}{H H':Hp}{ts:List Kn}{f:Kn->R3}{d:Po}(h:yt K H ts f d)(m:Mv T H H')(l:b_ H T):yt K H' ts f d:=by
 obtain⟨vs,a,b⟩:=h;exact⟨vs,m _ _ a (l.not a λ_ z=>nomatch z),az.mv m l (C5 ts) b⟩
theorem Gr.mv {K:KE}{T:List Po}{H H':Hp}{n:Nat}{f:Kn->R3}{d:Po}(h:Gr K H n f d)(m:Mv T H H')(l:b_ H T):Gr K H' n f d:=by obtain⟨ts,p,g⟩:=h;exact⟨ts,p,g.mv m l⟩
theorem xX {K:KE}{H:Hp}{n:Nat}{f:Kn->R3}{d b:Po}{t:Kn}(h:Gr K H n f d)(ht:t∈bQ n)(hb:H b=M (.tup (kr t))):∃ v,Cw H d (.ref b) (M v)/\ay K H (wD (f t)) v:=by
 obtain⟨ts,p,vs,a,q⟩:=h;obtain⟨v,e,hv⟩:=Gy (f:=λt=>wD (f t)) q (p.mem_iff.mpr ht);refine⟨v,?_,hv⟩;have:=Cw.t (k:=dw t) a (by rw[Ib];exact hb)
 rwa [e] at this
theorem Ay {n:Nat}(h:n<=7):(bQ n).Nodup:=by
 match n,h with
 |0,_=>decide +kernel
 |1,_=>decide +kernel
 |2,_=>decide +kernel
 |3,_=>decide +kernel
 |4,_=>decide +kernel
 |5,_=>decide +kernel
 |6,_=>decide +kernel
 |7,_=>decide +kernel
theorem mW {n:Nat}:(bQ n).length=n^3:=by
 unfold bQ;have h1:∀ (m:Nat) {α:Type} (g:Nat->List α) (k:Nat),(∀ i,(g i).length=k)->((Rq m).flatMap g).length=m*k:=λm α g k hg=>by
  induction m with
  |zero=>simp
  |succ m ih=>rw[UU,UR,PV,ih];simp[hg,TW]
 rw[h1 n _ (n*n) λi=>by rw[h1 n _ n λj=>by simp]];rw[X4,Nat.pow_two,X3 n (n*n)]
theorem Om {n:Nat}(h:n<=7)(m:t∈bQ n):t∈bQ 7:=by
 rw[cE] at m ⊢;lia
theorem IG {n:Nat}(h:n<=7)(p:ts.Perm (bQ n))(hl:ts.length=vs.length):FZ (nQ ts vs):=
 Bc (Dy hl) (p.nodup_iff.mpr (Ay h)) λt ht=>Om h (p.mem_iff.mp ht)
def kf (K:KE)(H:Hp)(n:Nat)(f:Kn->R3)(v:V):Prop:=∃ a C dx d,v=.ref a/\cM K "Grid" C/\H a=M (.ins C dx [("knots",.int n),("table",.ref d)])/\Gr K H n f d
theorem kf.same {K:KE}{H H':Hp}{n:Nat}{f:Kn->R3}{v:V}(h:kf K H n f v)(s:ah H H'):kf K H' n f v:=by obtain⟨a,C,dx,d,h1,h2,h3,h4⟩:=h;exact⟨a,C,dx,d,h1,h2,s _ _ h3,h4.same s⟩
theorem kf.mv {K:KE}{T:List Po}{H H':Hp}{n:Nat}{f:Kn->R3}{v:V}(h:kf K H n f v)(m:Mv T H H')(l:b_ H T):kf K H' n f v:=by
 obtain⟨a,C,dx,d,h1,h2,h3,h4⟩:=h;exact⟨a,C,dx,d,h1,h2,m _ _ h3 (l.not h3 λ_ z=>nomatch z),h4.mv m l⟩
section
variable {K:KE}{g:TG}{tt:TT}{te:TE}{σ0:L2.St}{Fin:List V->Hp->Prop}{H1:Hp}
theorem Ce {d:Po}{o:Obj}{kvs:List (List ij × V)}{bs:List Bool} (hH:H1 d=M (.frz o (.dT kvs))) (hlb:bs.length=kvs.length) (hl:kvs.length <= 1000)
  (he:∀ (i:Nat) (k:List ij) (x:V) (ka T:Po) (b:Bool) (H:Hp),kvs[i]?=M (k,x)->bs[i]?=M b->ah H1 H->H ka=M (.tup (k.map kV))->H T=M (.tup [.ref ka,x])->lq g tt te σ0 (.ref T) H λy H'=>ah H H'/\y=.bl b)
  (hd:∀ H,ah H1 H->Fin (bs.map V.bl) H):gf (NX d o kvs) g tt te σ0 Fin H1:=by
 refine⟨λi m ys H=>m=kvs.length-i/\i<=kvs.length/\ah H1 H/\ys=(bs.take i).map V.bl,⟨kvs.length,by lia,Qm _,ah.refl _,Y⟩,?_⟩;rintro i m ys H ⟨rfl,hi,s,rfl⟩;have hyl:((bs.take i).map V.bl).length<=1000:=by rw[Pb,P1];lia
 by_cases hlt:i<kvs.length
 ·refine .inr ⟨⟨s _ _ hH,hlt⟩,bJ hyl,λv H3 y3=>?_⟩;obtain⟨k,x,ka,T,e1,e2,e3,rfl,rfl⟩:=y3;have sT:ah H (upd H T (.tup [.ref ka,x])):=ah.new e3;have hb:bs[i]?=M bs[i]:=by simp[show i<bs.length by lia]
  refine he i k x ka T bs[i] _ e1 hb (s.trans sT) (sT _ _ e2) ag _ (λy H' ⟨s',hy⟩=>⟨kvs.length-(i+1),by lia,Y,hlt,(s.trans sT).trans s',?_⟩) λH5=>∃ m',m'<kvs.length-i/\(m'=kvs.length-(i+1)/\i+1<=kvs.length/\ah H1 H5/\(bs.take i).map V.bl=(bs.take (i+1)).map V.bl)
  rw[b8 hb,QN,hy];rfl
 ·have e:i=kvs.length:=by lia
  subst e;refine .inl ⟨⟨s _ _ hH,Pe _⟩,cY hyl,?_⟩;rw[P9 (by lia)];exact hd H s
end
section
variable {K:KE}{g:TG}{tt:TT}{tb:TB}{σ0:L2.St}
theorem E5 {a:Po}{b:Bool}{xs:List V}{Fin:List V->Hp->Prop}{H1:Hp} (Pv:Nat->List V->Hp->Prop) (h0:Pv 0 [] H1) (hsrc:∀ i ys H,i <= xs.length->Pv i ys H->bU K H a xs b)
  (he:∀ i x ys H,xs[i]?=M x->Pv i ys H->∀ R:L2.St->Hp->List V->Prop,(∀ σ' H' ys',Pv (i+1) ys' H'->R σ' H' ys')->∀ S:Hp->Prop,g x σ0 H λσ' H4=>tt σ' H4 λc H5=>if c=true then tb σ' H5 ys R else S H5)
  (hd:∀ ys H,Pv xs.length ys H->ys.length<=1000/\Fin ys H):Cd (t5 K a b) g tt tb σ0 Fin H1:=by
 refine⟨λi m ys H=>m=xs.length-i/\i<=xs.length/\Pv i ys H,⟨xs.length,by lia,Qm _,h0⟩,?_⟩;rintro i m ys H ⟨rfl,hi,p⟩;have q:=hsrc i ys H hi p
 by_cases hlt:i<xs.length
 ·have go:(t5 K a b).go i H:=by
   cases b with
   |true=>exact⟨xs,xs[i],q,by simp[hlt]⟩
   |false=>exact⟨xs,xs[i],q,by simp[hlt]⟩
  refine .inr ⟨go,λx H3 y3=>?_⟩;have e3:H3=H/\xs[i]?=M x:=by
   cases b with
   |true=>exact⟨y3.1,y3.2 xs q⟩
   |false=>exact⟨y3.1,y3.2 xs q⟩
  obtain⟨rfl,hx⟩:=e3;exact he i x ys _ hx p _ (λσ' H' ys' p'=>⟨xs.length-(i+1),by lia,Y,hlt,p'⟩) λH5=>∃ m',m'<xs.length-i/\(m'=xs.length-(i+1)/\i+1<=xs.length/\Pv (i+1) ys H5)
 ·have e:i=xs.length:=by lia
  subst e;have stop:(t5 K a b).stop xs.length H:=by
   cases b with
   |true=>exact⟨xs,q,Pe _⟩
   |false=>exact⟨xs,q,Pe _⟩
  exact .inl ⟨stop,cY (hd ys H p).1,(hd ys H p).2⟩
theorem Ao {a:Po}{b:Bool}{xs:List V}{σ:L2.St}{H:Hp}{ys:List V}{Q:L2.St->Hp->List V->Prop} (Pv:Nat->L2.St->List V->Hp->Prop) (h0:Pv 0 σ ys H) (hsrc:∀ i σ ys H,i <= xs.length->Pv i σ ys H->bU K H a xs b)
  (he:∀ i x σ ys H,xs[i]?=M x->Pv i σ ys H->∀ R:L2.St->Hp->List V->Prop,(∀ σ' H' ys',Pv (i+1) σ' ys' H'->R σ' H' ys')->∀ S:L2.St->Hp->Prop,g x σ H λσ' H4=>tt σ' H4 λc H5=>if c=true then tb σ' H5 ys R else S σ' H5)
  (hd:∀ σ ys H,Pv xs.length σ ys H->Q σ H ys):∃ W:Nat->Nat->L2.St->Hp->List V->Prop,(∃ m,W 0 m σ H ys)/\∀ i m σ2 H2 ys2,W i m σ2 H2 ys2 ->
   ((t5 K a b).stop i H2/\Q σ2 H2 ys2) \/
   ((t5 K a b).go i H2/\∀ x H3,(t5 K a b).yld i H2 x H3->g x σ2 H3 λσ3 H4=>tt σ3 H4 λb H5=>if b=true then tb σ3 H5 ys2 λσ' H' ys'=>∃ m',m'<m/\W (i+1) m' σ' H' ys' else ∃ m',m'<m/\W (i+1) m' σ3 H5 ys2):=by
 refine⟨λi m σ H ys=>m=xs.length-i/\i<=xs.length/\Pv i σ ys H,⟨xs.length,by lia,Qm _,h0⟩,?_⟩;rintro i m σ H ys ⟨rfl,hi,p⟩;have q:=hsrc i σ ys H hi p
 by_cases hlt:i<xs.length
 ·have go:(t5 K a b).go i H:=by
   cases b with
   |true=>exact⟨xs,xs[i],q,by simp[hlt]⟩
   |false=>exact⟨xs,xs[i],q,by simp[hlt]⟩
  refine .inr ⟨go,λx H3 y3=>?_⟩;have e3:H3=H/\xs[i]?=M x:=by
   cases b with
   |true=>exact⟨y3.1,y3.2 xs q⟩
   |false=>exact⟨y3.1,y3.2 xs q⟩
  obtain⟨rfl,hx⟩:=e3;exact he i x σ ys _ hx p _ (λσ' H' ys' p'=>⟨xs.length-(i+1),by lia,Y,hlt,p'⟩) λσ5 H5=>∃ m',m'<xs.length-i/\(m'=xs.length-(i+1)/\i+1<=xs.length/\Pv (i+1) σ5 ys H5)
 ·have e:i=xs.length:=by lia
  subst e;have stop:(t5 K a b).stop xs.length H:=by
   cases b with
   |true=>exact⟨xs,q,Pe _⟩
   |false=>exact⟨xs,q,Pe _⟩
  exact .inl ⟨stop,hd σ ys H p⟩
end
section
variable {X:Cx}
def JA:V->List V->Hp->VK->Prop:=λx vs H Q=>∃ (l:Po) (xs:List V) (i:Nat) (y:V),x=.ref l/\vs=[.int i,y]/\H l=M (.lst xs)/\i<=xs.length/\xs.length<=1000/\Q .non (upd H l (.lst (xs.take i++y::xs.drop i)))
theorem Ae {prog:PU}{w:Qq}{A:QB}{E:O6->Pf->Prop}{s:Pf}{l:Po}{its:List O6}{n:Nat}{x:Int}{u:Tok}{y:O6}{Q:O6->Pf->Prop} (hf:U' x=true) (hz:its.length <= 1000)
  (e:s.heap.get? l=M { cls:=.type "list",data:=.seq its.toArray n })(h:Q .none { s with heap:=s.heap.update l (QO λxs=>have k:=if x<0 then(x+(xs.size:Int)).toNat else min x.toNat xs.size;(xs.extract 0 k).push y++xs.extract k),toks:=s.toks }):
  Pp (PX prog w) A (call (.builtin "list.insert") [.ref l,.int x u,y]) Q E s:=
 VS VL ⟨_,e,Y⟩ PySem.F.entry_list_insert (PySem.F.args_list_insert_3 _ _ _) (PySem.AutoSeq1.list_insert_list_int_val_1 l _ n x u y (by simp[hf]) (by rw[PD,QU];lia)) ⟨e,h⟩
theorem DS:OH X "list.insert" JA:=by
 intro pins s σ H x vs v us Q I rx rv h;obtain⟨l,xs,i,y,rfl,rfl,hH,hi,hz,q⟩:=h;cases rx;obtain⟨u,w,rfl,ru,rw'⟩:=k9 rv;obtain⟨t,rfl⟩:=ru;obtain⟨z,its,n,r,hl,e⟩:=I.lstM hH;refine Ae (fitsIndex_both (by lia) (by lia)) (by lia) e ?_;refine⟨.non,_,I.lset (its':=its.take i++w::its.drop i) hH e ?_ ((r.take i).append (.cons rw' (r.drop i))) ?_,Y,q⟩
 ·dsimp only;rw[P3 (by lia),Qc,PD,Nat.min_eq_left (by lia)];apply Array.ext';simp;exact P9 (by rw[R8];exact Pe _)
 ·rw[PV,Qw,P1,R8];rw[QU];lia
end
def Fh (K:KE)(a:Po)(rows:List (List Int)):Prop:=∃ bs:List Po,KT K a (bs.map V.ref)/\Vi (λb r=>KT K b (r.map V.int)) bs rows
def OK (K:KE)(rows:List (List Int)):TE:=λ_ H Q=>∀ a,Fh K a rows->Q (.ref a) H
theorem IB {X:Cx}{K:KE}{x:Str}{rows:List (List Int)}{pos:Pos}(hg:Gl X x)(hm:∃ a,X.mg x=M (.ref a)/\Fh K a rows)(hd:(x==("__debug__":Str))=false:=by decide):WE X (.Name x pos) (OK K rows):=by
 refine⟨?_⟩;obtain⟨a,e,z⟩:=hm;intro pins s σ H Q I h;exact iN I hg e ⟨.ref a,H,I,Y,h a z⟩ hd
theorem kh {K:KE}{H:Hp}:∀ ns:List Int,az K H (ns.map Rt) (ns.map V.int)
 |[]=>.nil
 |n::ns=>.cons (.int n) (kh ns)
theorem dB {K:KE}{H:Hp}:∀ {ns:List Int}{ys:List V},az K H (ns.map Rt) ys->ys=ns.map V.int
 |[],_,h=>by cases h;rfl
 |n::ns,_,h=>by
  cases h with
  |cons h1 h2=>
   cases h1;rw[dB h2];rfl
def wT (a b k:Nat):List Kn:=(Rq k).map λc=>(a,b,c)
def vQ (n a j:Nat):List Kn:=(Rq j).flatMap λb=>wT a b n
def wm (n i:Nat):List Kn:=(Rq i).flatMap λa=>vQ n a n
theorem JH (n:Nat):wm n n=bQ n:=Y
theorem A2 (a b k:Nat):wT a b (k+1)=wT a b k++[(a,b,k)]:=by unfold wT;rw[UU,QN];rfl
theorem vx (n a j:Nat):vQ n a (j+1)=vQ n a j++wT a j n:=by unfold vQ;rw[UU,UR];simp
theorem ur (n i:Nat):wm n (i+1)=wm n i++vQ n i n:=by unfold wm;rw[UU,UR];simp
theorem CK (a b k:Nat):(wT a b k).length=k:=by unfold wT;simp
theorem zw (n a:Nat):∀ j,(vQ n a j).length=j*n
 |0=>by simp[vQ]
 |j+1=>by rw[vx,PV,zw n a j,CK,TW]
theorem CO (n:Nat):∀ i,(wm n i).length=i*(n*n)
 |0=>by simp[wm]
 |i+1=>by rw[ur,PV,CO n i,zw,TW]
theorem Dz {a b k:Nat}:t∈wT a b k↔t.1=a/\t.2.1=b/\t.2.2<k:=by
 obtain⟨x,y,z⟩:=t;unfold wT;simp only[Qy,RV,Prod.mk.injEq];constructor
 ·rintro⟨c,hc,rfl,rfl,rfl⟩;exact⟨Y,Y,hc⟩
 ·rintro⟨h1,h2,h3⟩;exact⟨z,h3,h1.symm,h2.symm,Y⟩
theorem CN {n a j:Nat}:t∈vQ n a j↔t.1=a/\t.2.1<j/\t.2.2<n:=by
 unfold vQ;simp only[V6,RV,Dz];constructor
 ·rintro⟨b,hb,h1,h2,h3⟩;exact⟨h1,by lia,h3⟩
 ·rintro⟨h1,h2,h3⟩;exact⟨t.2.1,h2,h1,Y,h3⟩
theorem IQ {n i:Nat}:t∈wm n i↔t.1<i/\t.2.1<n/\t.2.2<n:=by
 unfold wm;simp only[V6,RV,CN];constructor
 ·rintro⟨b,hb,h1,h2,h3⟩;exact⟨by lia,h2,h3⟩
 ·rintro⟨h1,h2,h3⟩;exact⟨t.1,h1,Y,h2,h3⟩
theorem HQ {n i j k:Nat}(h:n<=7)(hi:i<n)(hj:j<n)(hk:k<=n):(wm n i++vQ n i j++wT i j k).length<=343:=by
 rw[PV,PV,CO,zw,CK];have h1:n*n<=49:=Vu h h;have h2:i*(n*n)<=6*49:=Vu (by lia) h1;have h3:j*n<=6*7:=Vu (by lia) h;lia
theorem ya {n i:Nat}{x:V}(h:((uR n).map V.int)[i]?=M x):i<n/\x=.int (i:Int):=by
 rw[Ps] at h;obtain⟨z,e,rfl⟩:=PC.mp h;have hi:i<(uR n).length:=(Pk.mp e).1;rw[jI] at hi;rw[CB hi] at e;cases e;exact⟨hi,Y⟩
theorem OI:[a,b,c,d].length<=Pz:=by show 4<=Pz;decide
structure Q3.Wi (c:Q3)(m:Rat):Prop where
 a0:0<=c.a
 a1:c.a<=m
 b0:0<=c.b
 b1:c.b<=m
 c0:0<=c.c
 c1:c.c<=m
def iI (H H':Hp):Prop:=∀ b o,H b=M o->(∀ kvs,o≠.dT kvs)->H' b=M o
theorem iI.put (h:H d=M (.dT kvs)):iI H (upd H d (.dT kvs')):=λb o e n=>by
 rw[au (λz=>by rw[z,h] at e;cases e;exact n _ Y)];exact e
theorem iI.cut (h:iI H H'):iI (TR.cut T H) (TR.cut T H'):=λb o e n=>by
 unfold TR.cut at e ⊢
 split at e
 ·cases e
 ·rename_i nb
  rw[P3 nb];exact h b o e n
theorem Rd.sameD (e:iI H H')(h:Rd H a (.lst xs)):Rd H' a (.lst xs):=by
 rcases h with h|⟨o,h⟩
 ·exact .inl (e _ _ h λ_ z=>nomatch z)
 ·exact .inr ⟨o,e _ _ h λ_ z=>nomatch z⟩
mutual
theorem ay.sameD {K:KE}{H H':Hp}(e:iI H H'):∀ {d:P5}{v:V},ay K H d v->ay K H' d v
 |_,_,.non=>.non
 |_,_,.bl b=>.bl b
 |_,_,.int i=>.int i
 |_,_,.str x=>.str x
 |_,_,.lst h q=>.lst (Rd.sameD e h) (az.sameD e q)
 |_,_,.tup h q=>.tup (e _ _ h λ_ z=>nomatch z) (az.sameD e q)
 |_,_,.dct h=>.dct (e _ _ h λ_ z=>nomatch z)
theorem az.sameD {K:KE}{H H':Hp}(e:iI H H'):∀ {ds:List P5}{vs:List V},az K H ds vs->az K H' ds vs
 |_,_,.nil=>.nil
 |_,_,.cons h q=>.cons (ay.sameD e h) (az.sameD e q)
end
theorem ci.sameD (h:ci H t r)(e:iI H H'):ci H' t r:=by
 obtain⟨c,k,h1,h2,h3,h4⟩:=h;exact⟨c,k,e _ _ h1 (λ_ z=>nomatch z),e _ _ h2 (λ_ z=>nomatch z),h3,h4⟩
theorem Mv.wide (m:Mv [t,r] H H'):Mv [t,r,d] H H':=λb o e n=>m b o e λz=>n (by
 simp only[Pq,PR,Rj] at z ⊢;rcases z with z|z
 ·exact .inl z
 ·exact .inr (.inl z))
theorem Cc (i j:Int):(if j<i then j else i)=min i j:=by
 by_cases h:j<i
 ·rw[Qh h];lia
 ·rw[P3 h];lia
end TR
namespace TR
open PySem PySem.Spec PyProof.Rows L2
def un:Nat->Kn
 |0=>(1,0,0)
 |1=>(0,1,0)
 |_=>(0,0,1)
def aG (s t:Kn):Kn:=(s.1+t.1,s.2.1+t.2.1,s.2.2+t.2.2)
def a_ (x y z:Int):Nat->Int
 |0=>x
 |1=>y
 |_=>z
abbrev Pc:=Kn×Int
def HR (p:Pc):P5:=.tuple [Js p.1,.int p.2]
def ju (g:Nat->Int)(whole:Int)(u v w:Nat):List Pc:=[((0,0,0),whole-g u),(un u,g u-g v),(aG (un u) (un v),g v-g w),(aG (aG (un u) (un v)) (un w),g w)]
def vU:List (Nat×Nat×Nat):=[(0,1,2),(0,2,1),(1,0,2),(1,2,0),(2,0,1),(2,1,0)]
theorem BQ (h:o∈vU):o.1<3/\o.2.1<3/\o.2.2<3:=by
 simp only[vU,Pq,PR,Rj] at h;rcases h with rfl|rfl|rfl|rfl|rfl|rfl<;>decide
theorem LC (h:l.Perm (uR 3)):∃ o∈vU,l=[(o.1:Int),(o.2.1:Int),(o.2.2:Int)]:=by
 have h':l.Perm [0,1,2]:=h;rcases ksk_perm3 h' with e|e|e|e|e|e
 ·exact⟨(0,1,2),by decide,e⟩
 ·exact⟨(0,2,1),by decide,e⟩
 ·exact⟨(1,0,2),by decide,e⟩
 ·exact⟨(1,2,0),by decide,e⟩
 ·exact⟨(2,0,1),by decide,e⟩
 ·exact⟨(2,1,0),by decide,e⟩
theorem Dq {x y z:Int}{u:Nat}(h:u<3):Dw [V.int x,V.int y,V.int z] (u:Int)=M (.int (a_ x y z u)):=by
 match u,h with
 |0,_=>rfl
 |1,_=>rfl
 |2,_=>rfl
theorem mY {x y z:Int}{u:Nat}(h:u<3):[x,y,z].getD (u:Int).toNat 0=a_ x y z u:=by
 match u,h with
 |0,_=>rfl
 |1,_=>rfl
 |2,_=>rfl
theorem Ia {K:KE}{a:Po}{u:Nat}(h:Fh K a [[1,0,0],[0,1,0],[0,0,1]])(hu:u<3):∃ (bs:List V) (b:Po),KT K a bs/\Dw bs (u:Int)=M (.ref b)/\KT K b (kr (un u)):=by
 obtain⟨bs,h1,h2⟩:=h;cases h2 with
 |cons k1 h2=>
  cases h2 with
  |cons k2 h2=>
   cases h2 with
   |cons k3 h2=>
    cases h2
    match u,hu with
    |0,_=>exact⟨_,_,h1,Y,k1⟩
    |1,_=>exact⟨_,_,h1,Y,k2⟩
    |2,_=>exact⟨_,_,h1,Y,k3⟩
theorem GI (s t:Kn):(TV (·+·) [(s.1:Int),(s.2.1:Int),(s.2.2:Int)] [(t.1:Int),(t.2.1:Int),(t.2.2:Int)]).map V.int=kr (aG s t):=by
 simp only[Ua,Ut,PF,Sa,kr,aG,Int.natCast_add]
theorem tW:∀ ps:List Pc,jG (ps.map HR)=true
 |[]=>rfl
 |p::ps=>by
  rw[PF,jG,tW ps];rfl
theorem FR {K:KE}{H:Hp}{p:Pc}{v:V}(h:ay K H (HR p) v):∃ a c,v=.ref a/\H a=M (.tup [.ref c,.int p.2])/\H c=M (.tup (kr p.1)):=by
 cases h with
 |tup h q=>
  cases q with
  |cons q1 q=>
   cases q with
   |cons q2 q=>
    cases q2;cases q;obtain⟨c,rfl,hc⟩:=pO q1;exact⟨_,c,Y,h,hc⟩
def pF (g:Nat->Int)(whole:Int)(k b:Nat):Int:=if b=1 then g k else whole-g k
def dE (g:Nat->Int)(whole:Int)(t:Kn):Nat->Int
 |0=>1
 |1=>1*pF g whole 0 t.1
 |2=>1*pF g whole 0 t.1*pF g whole 1 t.2.1
 |_=>1*pF g whole 0 t.1*pF g whole 1 t.2.1*pF g whole 2 t.2.2
def dk (g:Nat->Int)(whole:Int):List Pc:=(bQ 2).map λt=>(t,dE g whole t 3)
theorem Hw {x y z whole:Int}{b:Nat}(hx:Sm b x)(hy:Sm b y)(hz:Sm b z)(hw:Sm b whole)(k c:Nat):Sm (b+1) (pF (a_ x y z) whole k c):=by
 have hg:Sm b (a_ x y z k):=by
  match k with
  |0=>exact hx
  |1=>exact hy
  |_+2=>exact hz
 unfold pF
 split
 ·exact hg.mono (by lia)
 ·exact hw.sub hg
theorem Bk {whole:Int}{b:Nat}(h:∀ k c,Sm (b+1) (pF g whole k c))(t:Kn):∀ j,Sm (1+3*(b+1)) (dE g whole t j)
 |0=>Sm.mono (k:=1) (show Sm 1 (1:Int) by unfold Sm;decide) (by lia)
 |1=>((show Sm 1 (1:Int) by unfold Sm;decide).mul (h _ _)).mono (by lia)
 |2=>(((show Sm 1 (1:Int) by unfold Sm;decide).mul (h _ _)).mul (h _ _)).mono (by lia)
 |_+3=>((((show Sm 1 (1:Int) by unfold Sm;decide).mul (h _ _)).mul (h _ _)).mul (h _ _)).mono (by lia)
def Jv (f:Kn->R3)(base:Kn)(h:R3->Int)(ps:List Pc):Int:=(TV (·*·) (ps.map λp=>h (f (aG base p.1))) (ps.map (·.2))).sum
def vo (f:Kn->R3)(base:Kn)(h:R3->Int)(ps:List Pc):Rat:=((Jv f base h ps:Int):Rat)/(((ps.map (·.2)).sum:Int):Rat)
def ED (f:Kn->R3)(base:Kn)(ps:List Pc):Q3:=⟨vo f base R3.a ps,vo f base R3.b ps,vo f base R3.c ps⟩
theorem NS {i:Nat}(h:(ED f base ps).ds[i]?=M d):∃ g:R3->Int,d=rD (vo f base g ps)/\i<3/\∀ r:R3,r.vs[i]?=M (.int (g r)):=by
 rcases lA h with ⟨rfl,rfl⟩|⟨rfl,rfl⟩|⟨rfl,rfl⟩
 ·exact⟨R3.a,rfl,by decide,λr=>rfl⟩
 ·exact⟨R3.b,rfl,by decide,λr=>rfl⟩
 ·exact⟨R3.c,rfl,by decide,λr=>rfl⟩
def lQ (n:Nat):Int:=60/((n:Int)-1)
theorem kH {n:Nat}(h2:2<=n)(h7:n<=7):0<lQ n/\lQ n*((n:Int)-1)=60/\lQ n<=60:=by
 match n,h2,h7 with
 |2,_,_=>decide
 |3,_,_=>decide
 |4,_,_=>decide
 |5,_,_=>decide
 |6,_,_=>decide
 |7,_,_=>decide
def eB (n:Nat)(x:Rat):Rat:=((x.num:Int):Rat)/(((x.den:Int)*lQ n:Int):Rat)
def Mj (s:Rat):Int:=s.num.fdiv (s.den:Int)
def cA (n:Nat)(x:Rat):Nat:=(min (Mj (eB n x)) ((n:Int)-2)).toNat
def kg (n:Nat)(x:Rat):Rat:=eB n x-((cA n x:Int):Rat)
theorem JU {n:Nat}(h2:2<=n)(h7:n<=7):((lQ n:Int):Rat)≠0:=by
 intro z;have:lQ n=0:=by exact_mod_cast z
 have:=(kH h2 h7).1;lia
theorem LN {n:Nat}(h2:2<=n)(h7:n<=7)(x:Rat):eB n x=x/((lQ n:Int):Rat):=by
 have h1:=kJ x;have h2:=JU h2 h7;have e:=jT x;unfold eB;rw[PY];generalize ((x.num:Int):Rat)=a at *;generalize ((x.den:Int):Rat)=b at *;generalize ((lQ n:Int):Rat)=c at *;grind
theorem FU (s:Rat):Mj s=s.floor:=by
 unfold Mj;rw[Qo _ (by have:=s.den_pos;lia),Rat.floor_def]
structure Dv (n:Nat)(x:Rat):Prop where
 n2:2<=n
 n7:n<=7
 lo:0<=x
 hi:x<=((60:Int):Rat)
section
variable {n:Nat}{x:Rat}(h:Dv n x)
include h
theorem Lp:0<=eB n x:=by
 rw[LN h.n2 h.n7];have hp:(0:Rat)<((lQ n:Int):Rat):=by exact_mod_cast (kH h.n2 h.n7).1
 refine Tt (c:=((lQ n:Int):Rat)) ?_ hp;rw[Vj (JU h.n2 h.n7),Rat.zero_mul];exact h.lo
theorem KC:0<=Mj (eB n x):=by
 rw[FU];exact Rat.le_floor_iff.mpr (by simpa using Lp h)
theorem zg:((cA n x:Nat):Int)=min (Mj (eB n x)) ((n:Int)-2):=by
 unfold cA;have h1:=KC h;have h2:=h.n2;lia
theorem fh:cA n x+2<=n:=by
 have h1:=zg h;have h2:=h.n2;lia
end
def fR (x y z:Rat):Nat->Rat
 |0=>x
 |1=>y
 |_=>z
def nX (h:Kn->Rat)(p:Nat->Rat)(u v w:Nat):Rat:=h (0,0,0)*(1-p u)+h (un u)*(p u-p v)+h (aG (un u) (un v))*(p v-p w)+h (aG (aG (un u) (un v)) (un w))*p w
def yw (h:Kn->Rat)(x y z:Rat):Rat:=h (0,0,0)*((1-x)*(1-y)*(1-z))+h (0,0,1)*((1-x)*(1-y)*z)+h (0,1,0)*((1-x)*y*(1-z))+h (0,1,1)*((1-x)*y*z) +
 h (1,0,0)*(x*(1-y)*(1-z))+h (1,0,1)*(x*(1-y)*z)+h (1,1,0)*(x*y*(1-z))+h (1,1,1)*(x*y*z)
def Er (p:Nat->Rat)(o:Nat×Nat×Nat):Prop:=o∈vU/\p o.2.1<=p o.1/\p o.2.2<=p o.2.1
def wK (x y z:Rat):Nat×Nat×Nat:=if y<=x then(if z<=y then(0,1,2) else if z<=x then(0,2,1) else(2,0,1)) else(if z<=x then(1,0,2) else if z<=y then(1,2,0) else(2,1,0))
theorem vt (x y z:Rat):Er (fR x y z) (wK x y z):=by
 unfold wK
 split
 ·rename_i h1
  split
  ·rename_i h2
   exact⟨by decide,h1,h2⟩
  ·rename_i h2
   split
   ·rename_i h3
    exact⟨by decide,h3,by show y<=z;grind⟩
   ·rename_i h3
    exact⟨by decide,by show x<=z;grind,h1⟩
 ·rename_i h1
  split
  ·rename_i h2
   exact⟨by decide,by show x<=y;grind,h2⟩
  ·rename_i h2
   split
   ·rename_i h3
    exact⟨by decide,h3,by show x<=z;grind⟩
   ·rename_i h3
    exact⟨by decide,by show y<=z;grind,by show x<=y;grind⟩
theorem EW {x y z:Rat}(a:Er (fR x y z) o)(b:Er (fR x y z) o'):nX h (fR x y z) o.1 o.2.1 o.2.2=nX h (fR x y z) o'.1 o'.2.1 o'.2.2:=by
 obtain⟨m,a1,a2⟩:=a;obtain⟨m',b1,b2⟩:=b;simp only[vU,Pq,PR,Rj] at m m';rcases m with rfl|rfl|rfl|rfl|rfl|rfl<;>rcases m' with rfl|rfl|rfl|rfl|rfl|rfl <;>
  first|rfl|(simp only[fR,nX,un,aG,X2,RW] at *;generalize h (0,0,0)=h0 at *;generalize h (1,0,0)=h1 at *;generalize h (0,1,0)=h2 at *;generalize h (0,0,1)=h3 at *;generalize h (1,1,0)=h4 at *;generalize h (1,0,1)=h5 at *;generalize h (0,1,1)=h6 at *;generalize h (1,1,1)=h7 at *;first|(have e:x=y:=(by grind);subst e;first|grind|(have e:x=z:=(by grind);subst e;grind))|(have e:y=z:=(by grind);subst e;grind)|(have e:x=z:=(by grind);subst e;grind))
theorem Gf {f:Kn->R3}{base:Kn}{g:R3->Int}{x y z B:Int}{X zzQ Z:Rat}{u v w:Nat} (hB:(B:Rat) ≠ 0) (hx:(x:Rat)=X * (B:Rat)) (hy:(y:Rat)=zzQ * (B:Rat)) (hz:(z:Rat)=Z * (B:Rat)) :
  vo f base g (ju (a_ x y z) B u v w)=nX (λt=>((g (f (aG base t)):Int):Rat)) (fR X zzQ Z) u v w:=by
 have hp:∀ k,((a_ x y z k:Int):Rat)=fR X zzQ Z k*(B:Rat):=λk=>by
  match k with
  |0=>exact hx
  |1=>exact hy
  |_+2=>exact hz
 have hu:=hp u;have hv:=hp v;have hw:=hp w;unfold vo Jv ju nX;simp only[PF,Sa,Ua,Ut,UI,Wp,U3,PY,Qj];rw[hu,hv,hw];have e0:((0:Int):Rat)=0:=Y;rw[e0];generalize ((g (f (aG base (0,0,0))):Int):Rat)=a0;generalize ((g (f (aG base (un u))):Int):Rat)=a1;generalize ((g (f (aG base (aG (un u) (un v)))):Int):Rat)=a2;generalize ((g (f (aG base (aG (aG (un u) (un v)) (un w)))):Int):Rat)=a3;generalize fR X zzQ Z u=p;generalize fR X zzQ Z v=q;generalize fR X zzQ Z w=r;generalize (B:Rat)=b at *;grind
theorem Bo:bQ 2=[(0,0,0),(0,0,1),(0,1,0),(0,1,1),(1,0,0),(1,0,1),(1,1,0),(1,1,1)]:=by decide
theorem uX {B:Int}{u v w:Nat}:((ju g B u v w).map (·.2)).sum=B:=by
 unfold ju;simp only[PF,Sa,UI,Wp];lia
theorem qX {x y z B:Int}:((dk (a_ x y z) B).map (·.2)).sum=B*B*B:=by
 unfold dk;rw[Bo];have n01:¬ (0:Nat)=1:=by decide
 simp only[PF,Sa,UI,Wp,dE,pF,P3 n01,SK,a_];grind
theorem DK {f:Kn->R3}{base:Kn}{g:R3->Int}{x y z B:Int}{X zzQ Z:Rat} (hB:(B:Rat) ≠ 0) (hx:(x:Rat)=X * (B:Rat)) (hy:(y:Rat)=zzQ * (B:Rat)) (hz:(z:Rat)=Z * (B:Rat)) :
  vo f base g (dk (a_ x y z) B)=yw (λt=>((g (f (aG base t)):Int):Rat)) X zzQ Z:=by
 have hN:((Jv f base g (dk (a_ x y z) B):Int):Rat)=yw (λt=>((g (f (aG base t)):Int):Rat)) X zzQ Z*((B:Rat)*(B:Rat)*(B:Rat)):=by
  unfold Jv dk yw;rw[Bo];have n01:¬ (0:Nat)=1:=by decide
  simp only[PF,Sa,Ua,Ut,UI,Wp,dE,pF,P3 n01,SK,a_,U3,PY,Qj];rw[hx,hy,hz];have e0:((0:Int):Rat)=0:=Y;have e1:((1:Int):Rat)=1:=Y;rw[e0,e1];clear hx hy hz hB;generalize ((g (f (aG base (0,0,0))):Int):Rat)=a0;generalize ((g (f (aG base (0,0,1))):Int):Rat)=a1;generalize ((g (f (aG base (0,1,0))):Int):Rat)=a2;generalize ((g (f (aG base (0,1,1))):Int):Rat)=a3;generalize ((g (f (aG base (1,0,0))):Int):Rat)=a4;generalize ((g (f (aG base (1,0,1))):Int):Rat)=a5;generalize ((g (f (aG base (1,1,0))):Int):Rat)=a6;generalize ((g (f (aG base (1,1,1))):Int):Rat)=a7;generalize (B:Rat)=b;grind
 unfold vo;rw[hN,qX,PY,PY];refine Rat.mul_div_cancel λz=>?_
 generalize (B:Rat)=b at *;grind
def iU (n:Nat)(c:Q3):Kn:=(cA n c.a,cA n c.b,cA n c.c)
def eh (n:Nat)(f:Kn->R3)(c:Q3)(g:R3->Int)(t:Kn):Rat:=((g (f (aG (iU n c) t)):Int):Rat)
def bn (n:Nat)(c:Q3):Nat->Rat:=fR (kg n c.a) (kg n c.b) (kg n c.c)
def uY (n:Nat)(f:Kn->R3)(c:Q3)(g:R3->Int):Rat:=nX (eh n f c g) (bn n c) (wK (kg n c.a) (kg n c.b) (kg n c.c)).1 (wK (kg n c.a) (kg n c.b) (kg n c.c)).2.1 (wK (kg n c.a) (kg n c.b) (kg n c.c)).2.2
def Cz (n:Nat)(f:Kn->R3)(c:Q3)(g:R3->Int):Rat:=yw (eh n f c g) (kg n c.a) (kg n c.b) (kg n c.c)
def W4 (n:Nat)(f:Kn->R3)(c:Q3):Q3:=⟨uY n f c R3.a,uY n f c R3.b,uY n f c R3.c⟩
def W8 (n:Nat)(f:Kn->R3)(c:Q3):Q3:=⟨Cz n f c R3.a,Cz n f c R3.b,Cz n f c R3.c⟩
theorem Bl {n:Nat}(h:Er (bn n c) o):nX (eh n f c g) (bn n c) o.1 o.2.1 o.2.2=uY n f c g:=EW h (vt _ _ _)
theorem B9 {m:Nat}:∀ {l:List Int},(∀ x∈l,Sm m x)->Sm (m+l.length) l.sum
 |[],_=>Sm.mono (k:=0) (show Sm 0 (0:Int) by unfold Sm;decide) (Qm _)
 |x::l,h=>by
  rw[UI,Qw];exact(Sm.add ((h x PQ).mono (SR m l.length)) (B9 λy hy=>h y (Pj _ hy))).mono (by lia)
theorem lh {r:R3}(h:r.Wt):Sm 10 r.a/\Sm 10 r.b/\Sm 10 r.c:=by
 obtain⟨a0,a1,b0,b1,c0,c1⟩:=h;refine⟨?_,?_,?_⟩<;>(unfold Sm;lia)
theorem FI {n:Nat}{m:Nat}(hw:∀ p∈ps,Sm 10 (g (f (aG base p.1))))(hp:∀ p∈ps,Sm m p.2)(h0:(ps.map (·.2)).sum≠0):Bq (10+m+ps.length) (vo f base g ps):=by
 refine jg h0 ?_ ?_
 ·have h1:∀ x∈TV (·*·) (ps.map λp=>g (f (aG base p.1))) (ps.map (·.2)),Sm (10+m) x:=λx hx=>by
   rw[List.zipWith_map_left,List.zipWith_map_right,List.zipWith_self] at hx;obtain⟨p,hp',rfl⟩:=Qy.mp hx;exact(hw p hp').mul (hp p hp')
  have:=B9 h1;rw[List.length_zipWith,Pb,Pb,Nat.min_self] at this;exact this
 ·have h1:∀ x∈ps.map (·.2),Sm m x:=λx hx=>by
   obtain⟨p,hp',rfl⟩:=Qy.mp hx;exact hp p hp'
  have:=B9 h1;rw[Pb] at this;exact this.mono (by lia)
theorem HK {t b:Int}(hb:0<b):Mj ((t:Rat)/(b:Rat))=t.fdiv b:=by
 rw[FU,Qo _ (by lia)];have hp:(0:Rat)<(b:Rat):=by exact_mod_cast hb
 have hn:(b:Rat)≠0:=GY (by lia);have key:∀ z:Int,z<=((t:Rat)/(b:Rat)).floor↔z<=t/b:=λz=>by
  rw[Rat.le_floor_iff,Int.le_ediv_iff_mul_le hb];constructor
  ·intro h;have h':=Rat.mul_le_mul_of_nonneg_right h (X7 hp);rw[Vj hn,<- PY] at h'
   exact_mod_cast h'
  ·intro h;refine Tt (c:=(b:Rat)) ?_ hp;rw[Vj hn,<- PY]
   exact_mod_cast h
 exact Int.le_antisymm ((key _).mp (Xc _)) ((key _).mpr (Xc _))
def Q3.lst (q:Q3):P5:=.list q.ds
def Dc (n:Nat)(c:Q3):Q3:=⟨kg n c.a,kg n c.b,kg n c.c⟩
def Lg (n:Nat)(c:Q3):P5:=.list [.int ((cA n c.a:Nat):Int),.int ((cA n c.b:Nat):Int),.int ((cA n c.c:Nat):Int)]
theorem Ge {n k:Nat}{y:Rat}(h2:2<=n)(h7:n<=7)(h:Bq k y):Bq (k+6) (eB n y):=by
 obtain⟨ap0,ap1,ap2⟩:=kH h2 h7;exact jg (Qi h.ne (by lia)) (h.sn.mono (by lia)) (h.sd.mul (show Sm 6 (lQ n) by unfold Sm;lia))
theorem qA {n k:Nat}{y:Rat}(dv:Dv n y)(h:Bq k y):Bq (k+10) (kg n y):=by
 have h1:=Ge dv.n2 dv.n7 h;have h2:Bq 3 (((cA n y:Nat):Int):Rat):=fS (by have:=fh dv;have:=dv.n7;unfold Sm;lia) (by decide);exact Ok.mono (Bq.sub h1 h2) (by lia)
theorem NR {i:Nat}(hi:i<3):∃ g:R3->Int,(∀ r:R3,r.vs[i]?=M (.int (g r)))/\(∀ r:R3,r.Wt->Sm 10 (g r))/\∀ {α:Type} (F:(R3->Int)->α),[F R3.a,F R3.b,F R3.c][i]?=M (F g):=by
 match i,hi with
 |0,_=>exact⟨R3.a,λ_=>rfl,λ_ h=>(lh h).1,λ_=>rfl⟩
 |1,_=>exact⟨R3.b,λ_=>rfl,λ_ h=>(lh h).2.1,λ_=>rfl⟩
 |2,_=>exact⟨R3.c,λ_=>rfl,λ_ h=>(lh h).2.2,λ_=>rfl⟩
theorem AR (s:ah H0 H)(h:H0 F=none):ah H0 (upd H F o):=λb o' e=>by
 rw[au (λz=>by rw[z,h] at e;cases e)];exact s _ _ e
theorem zn {K:KE}{H:Hp}{d1 d2:P5}{xs:List V}(h:az K H [d1,d2] xs):∃ x y,xs=[x,y]/\ay K H d1 x/\ay K H d2 y:=by
 cases h with
 |cons h1 h=>
  cases h with
  |cons h2 h=>
   cases h;exact⟨_,_,Y,h1,h2⟩
theorem HL {K:KE}{H:Hp}{n:Nat}{c:Q3}{w:V}(h:ay K H (.tuple [Lg n c,(Dc n c).lst]) w):∃ T B R y0 y1 y2,w=.ref T/\H T=M (.tup [.ref B,.ref R])/\bU K H B [.int ((cA n c.a:Nat):Int),.int ((cA n c.b:Nat):Int),.int ((cA n c.c:Nat):Int)] true/\bU K H R [y0,y1,y2] true/\ay K H (rD (kg n c.a)) y0/\ay K H (rD (kg n c.b)) y1/\ay K H (rD (kg n c.c)) y2/\ay K H (Lg n c) (.ref B):=by
 cases h with
 |tup h q=>
  cases q with
  |cons q1 q=>
   cases q with
   |cons q2 q=>
    cases q;obtain⟨B,xs,rfl,hB,hx⟩:=aO (b:=true) (ds:=[.int ((cA n c.a:Nat):Int),.int ((cA n c.b:Nat):Int),.int ((cA n c.c:Nat):Int)]) q1;have e:xs=_:=dB (ns:=[((cA n c.a:Nat):Int),((cA n c.b:Nat):Int),((cA n c.c:Nat):Int)]) hx;subst e;obtain⟨R,ys,rfl,hR,hy⟩:=aO (b:=true) (ds:=(Dc n c).ds) q2;obtain⟨y0,y1,y2,rfl,g0,g1,g2⟩:=fw hy;exact⟨_,B,R,y0,y1,y2,Y,h,hB,hR,g0,g1,g2,q1⟩
def eM (p:Nat->Rat)(r:Nat)(l:List Nat):List Nat:=l.filter λo=>!decide (p o<p r)
def pY (p:Nat->Rat)(l:List Nat)(r:Nat):List Nat:=l.take (eM p r l).length++r::l.drop (eM p r l).length
def gi (p:Nat->Rat):Nat->List Nat
 |0=>[]
 |i+1=>pY p (gi p i) i
def i' (l:List Nat):List V:=l.map λ(k:Nat)=>V.int (k:Int)
theorem FH {r x:Nat}:x∈pY p l r↔x∈l\/x=r:=by
 unfold pY;generalize (eM p r l).length=m;rw[Qe,Pq];have h:x∈l↔x∈l.take m\/x∈l.drop m:=by rw[<- Qe,List.take_append_drop]
 rw[h];constructor
 ·rintro(a|b|c)
  ·exact .inl (.inl a)
  ·exact .inr b
  ·exact .inl (.inr c)
 ·rintro((a|c)|b)
  ·exact .inl a
  ·exact .inr (.inr c)
  ·exact .inr (.inl b)
theorem Do:∀ {i x:Nat},x∈gi p i->x<i
 |0,_,h=>nomatch h
 |i+1,x,h=>by
  rcases FH.mp h with h|h
  ·have:=Do h;lia
  ·lia
theorem rd {r:Nat}:(eM p r l).length<=l.length:=List.length_filter_le _ _
theorem AH:∀ {i:Nat},(gi p i).length=i
 |0=>rfl
 |i+1=>by
  show(pY p (gi p i) i).length=i+1;unfold pY;have:=rd (p:=p) (r:=i) (l:=gi p i);have e:=AH (p:=p) (i:=i);rw[PV,P1,Qw,R8];lia
theorem DR (p:Nat->Rat):∃ o,Er p o/\gi p 3=[o.1,o.2.1,o.2.2]:=by
 have e2:gi p 2=if p 0<p 1 then[1,0] else[0,1]:=by
  by_cases h:p 0<p 1
  ·simp[gi,pY,eM,h]
  ·simp[gi,pY,eM,h]
 have e3:gi p 3=pY p (gi p 2) 2:=Y;rw[e3,e2]
 by_cases h01:p 0<p 1<;>by_cases h02:p 0<p 2<;>by_cases h12:p 1<p 2
 ·exact⟨(2,1,0),⟨by decide,by show p 1<=p 2;grind,by show p 0<=p 1;grind⟩,by simp[pY,eM,h01,h02,h12]⟩
 ·exact⟨(1,2,0),⟨by decide,by show p 2<=p 1;grind,by show p 0<=p 2;grind⟩,by simp[pY,eM,h01,h02,h12]⟩
 ·exact absurd h02 (by grind)
 ·exact⟨(1,0,2),⟨by decide,by show p 0<=p 1;grind,by show p 2<=p 0;grind⟩,by simp[pY,eM,h01,h02,h12]⟩
 ·exact⟨(2,0,1),⟨by decide,by show p 0<=p 2;grind,by show p 1<=p 0;grind⟩,by simp[pY,eM,h01,h02,h12]⟩
 ·exact absurd h02 (by grind)
 ·exact⟨(0,2,1),⟨by decide,by show p 2<=p 0;grind,by show p 1<=p 2;grind⟩,by simp[pY,eM,h01,h02,h12]⟩
 ·exact⟨(0,1,2),⟨by decide,by show p 1<=p 0;grind,by show p 2<=p 1;grind⟩,by simp[pY,eM,h01,h02,h12]⟩
def zU (o:Nat×Nat×Nat):Nat->Nat
 |0=>o.1
 |1=>o.2.1
 |_=>o.2.2
def g_ (o:Nat×Nat×Nat):Nat->Kn
 |0=>(0,0,0)
 |i+1=>aG (g_ o i) (un (zU o i))
theorem Fz {i:Nat}(h:o∈vU)(hi:i<=3):(g_ o i).1<=1/\(g_ o i).2.1<=1/\(g_ o i).2.2<=1:=by
 simp only[vU,Pq,PR,Rj] at h
 match i,hi with
 |0,_=>rcases h with rfl|rfl|rfl|rfl|rfl|rfl<;>decide
 |1,_=>rcases h with rfl|rfl|rfl|rfl|rfl|rfl<;>decide
 |2,_=>rcases h with rfl|rfl|rfl|rfl|rfl|rfl<;>decide
 |3,_=>rcases h with rfl|rfl|rfl|rfl|rfl|rfl<;>decide
theorem HG {i:Nat}(h:o∈vU):zU o i<3:=by
 obtain⟨a,b,c⟩:=BQ h
 match i with
 |0=>exact a
 |1=>exact b
 |_+2=>exact c
def nr (h:Kn->Rat)(p:Nat->Rat)(o:Nat×Nat×Nat):Nat->Rat
 |0=>h (0,0,0)
 |i+1=>nr h p o i+p (zU o i)*(h (g_ o (i+1))-h (g_ o i))
theorem OE (t:Kn):aG (0,0,0) t=t:=by
 simp only[aG,RW]
theorem Gb (r s t:Kn):aG (aG r s) t=aG r (aG s t):=by
 simp only[aG,Nat.add_assoc]
theorem Fo (h:Kn->Rat)(p:Nat->Rat)(o:Nat×Nat×Nat):nr h p o 3=nX h p o.1 o.2.1 o.2.2:=by
 simp only[nr,g_,zU,OE,nX];generalize h (0,0,0)=h0;generalize h (un o.1)=h1;generalize h (aG (un o.1) (un o.2.1))=h2;generalize h (aG (aG (un o.1) (un o.2.1)) (un o.2.2))=h3;grind
theorem KS {r:Nat}(hr:r<3):∃ m:Int,(kr t)[r]?=M (.int m)/\(kr t).set r (.int (m+1))=kr (aG t (un r)):=by
 match r,hr with
 |0,_=>exact⟨_,Y,by simp[kr,aG,un]⟩
 |1,_=>exact⟨_,Y,by simp[kr,aG,un]⟩
 |2,_=>exact⟨_,Y,by simp[kr,aG,un]⟩
theorem ID {K:KE}{H:Hp}{n k r:Nat}{c:Q3}{y0 y1 y2:V}(h0:ay K H (rD (kg n c.a)) y0)(h1:ay K H (rD (kg n c.b)) y1)(h2:ay K H (rD (kg n c.c)) y2)(b0:Bq k (kg n c.a))(b1:Bq k (kg n c.b))(b2:Bq k (kg n c.c))(hr:r<3):∃ y,[y0,y1,y2][r]?=M y/\ay K H (rD (bn n c r)) y/\Bq k (bn n c r):=by
 match r,hr with
 |0,_=>exact⟨_,Y,h0,b0⟩
 |1,_=>exact⟨_,Y,h1,b1⟩
 |2,_=>exact⟨_,Y,h2,b2⟩
theorem KB (l:List Nat)(k r:Nat):(i' l).take k++V.int (r:Int)::(i' l).drop k=i' (l.take k++r::l.drop k):=by
 simp only[i',QN,List.map_take,PF,List.map_drop]
theorem IV {n k:Nat}(h:k<n):C0 n (k:Int)=M k:=by
 unfold C0;simp[h]
theorem qr {K:KE}{H:Hp}(r:R3):az K H r.ds r.vs:=.cons (.int _) (.cons (.int _) (.cons (.int _) .nil))
theorem Ke {K:KE}{H:Hp}:∀ {ds:List P5}{xs:List V}{i:Nat}{d:P5},az K H ds xs->ds[i]?=M d->∃ x,xs[i]?=M x/\ay K H d x
 |_,_,_,_,.nil,e=>by simp at e
 |_,_,0,_,.cons h _,e=>by simp at e;subst e;exact⟨_,Y,h⟩
 |_,_,i+1,x,.cons _ q,e=>by
  obtain⟨x,a,b⟩:=Ke (i:=i) q (by simpa using e);exact⟨x,by simpa using a,b⟩
theorem zY:∀ ns:List Int,Sc (ns.map Rt) (ns.map Rt)=true
 |[]=>rfl
 |n::ns=>by
  rw[PF,Sc,zY ns];simp[RI]
theorem LU (r:R3):RI (wD r) (wD r)=true:=by
 show Sc r.ds r.ds=true;exact zY [r.a,r.b,r.c]
def HJ (n:Nat)(t:Kn):Q3:=⟨((lQ n*t.1:Int):Rat),((lQ n*t.2.1:Int):Rat),((lQ n*t.2.2:Int):Rat)⟩
theorem Ks {n i:Nat}(h2:2<=n)(h7:n<=7):((i:Int)*60).fdiv ((n:Int)-1)=lQ n*(i:Int):=by
 obtain⟨h1,h3,_⟩:=kH h2 h7;rw[Qo _ (by lia)];refine Int.ediv_eq_of_eq_mul_left (by lia) ?_;rw[<- h3];rw[R_ (i:Int),SJ,SJ,R_ (i:Int)]
theorem NN (h:u.1<=1/\u.2.1<=1/\u.2.2<=1):u∈bQ 2:=cE.mpr (by lia)
theorem GJ {n:Nat}(h2:2<=n)(h7:n<=7)(ht:t∈bQ n):(HJ n t).Wi ((60:Int):Rat)/\(HJ n t).Bd 17:=by
 obtain⟨h1,h3,h4⟩:=kH h2 h7;obtain⟨ha,hb,hc⟩:=cE.mp ht;have one:∀ {i:Nat},i<n->(0:Rat)<=((lQ n*(i:Int):Int):Rat)/\((lQ n*(i:Int):Int):Rat)<=((60:Int):Rat)/\Bq 17 ((lQ n*(i:Int):Int):Rat):=λ{i} hi=>by
  have p0:0<=lQ n*(i:Int):=RU (by lia) (by lia);have p1:lQ n*(i:Int)<=60:=by
   rw[<- h3];exact Int.mul_le_mul_of_nonneg_left (by lia) (by lia)
  exact⟨by exact_mod_cast p0,by exact_mod_cast p1,fS (by unfold Sm;lia) (by decide)⟩
 obtain⟨a1,a2,a3⟩:=one ha;obtain⟨b1,b2,b3⟩:=one hb;obtain⟨c1,c2,c3⟩:=one hc;exact⟨⟨a1,a2,b1,b2,c1,c2⟩,⟨a3,b3,c3⟩⟩
def LK (o:Nat×Nat×Nat)(k:Nat):Nat:=if o.1=k then 0 else if o.2.1=k then 1 else 2
def Oh (F:Kn->Rat)(b:Option Kn)(t:Kn):Option Kn:=match b with
 |none=>M t
 |some u=>if F t<F u then M t else M u
def Ou (F:Kn->Rat)(ts:List Kn):Option Kn:=ts.foldl (Oh F) none
theorem MA {n:Nat}{k:Nat}(n2:2<=n)(n7:n<=7)(wt:EH n f)(wi:c.Wi ((60:Int):Rat))(bd:c.Bd k):(W4 n f c).Bd (6*k+120):=by
 have dva:Dv n c.a:=⟨n2,n7,wi.a0,wi.a1⟩
 have dvb:Dv n c.b:=⟨n2,n7,wi.b0,wi.b1⟩
 have dvc:Dv n c.c:=⟨n2,n7,wi.c0,wi.c1⟩
 have ba:=qA dva bd.a;have bb:=qA dvb bd.b;have bc:=qA dvc bd.c;have lta:=fh dva;have ltb:=fh dvb;have ltc:=fh dvc;have pk:∀ j,Bq (k+10) (bn n c j):=λj=>by
  match j with
  |0=>exact ba
  |1=>exact bb
  |_+2=>exact bc
 have one:Bq 1 (1:Rat):=by
  rw[show(1:Rat)=((1:Int):Rat) from rfl];exact fS (by unfold Sm;decide) (by decide)
 have fo:=vt (kg n c.a) (kg n c.b) (kg n c.c);have h:∀ {g:R3->Int},(∀ r:R3,r.Wt->Sm 10 (g r))->Bq (6*k+120) (uY n f c g):=λ{g} gs=>by
  have hh:∀ i,i<=3->Bq 10 (eh n f c g (g_ (wK (kg n c.a) (kg n c.b) (kg n c.c)) i)):=λi hi=>by
   refine fS (gs _ (wt _ (cE.mpr ?_))) (by decide);have:=Fz fo.1 hi;show cA n c.a+_<n/\cA n c.b+_<n/\cA n c.c+_<n;refine⟨?_,?_,?_⟩<;>lia
  have h0:=hh 0 (by decide);have h1:=hh 1 (by decide);have h2:=hh 2 (by decide);have h3:=hh 3 (by decide);simp only[g_,zU,OE] at h0 h1 h2 h3;unfold uY nX;refine Ok.mono (Bq.add (Bq.add (Bq.add (Bq.mul h0 (Bq.sub one (pk _))) (Bq.mul h1 (Bq.sub (pk _) (pk _)))) (Bq.mul h2 (Bq.sub (pk _) (pk _)))) (Bq.mul h3 (pk _))) (by lia)
 exact⟨h λr hr=>(lh hr).1,h λr hr=>(lh hr).2.1,h λr hr=>(lh hr).2.2⟩
def LW (t:Kn):Nat->Nat
 |0=>t.1
 |1=>t.2.1
 |_=>t.2.2
def lF (o:Nat×Nat×Nat)(t:Kn):Kn:=(LW t o.1,LW t o.2.1,LW t o.2.2)
def Oe (o:Nat×Nat×Nat):Nat×Nat×Nat:=(LK o 0,LK o 1,LK o 2)
def fT (o:Nat×Nat×Nat)(f:Kn->R3)(t:Kn):R3:=f (lF (Oe o) t)
theorem yt.more {K:KE}{H:Hp}{ts:List Kn}{f:Kn->R3}{d:Po}{t:Kn}{v:V}{vs:List V}(hd:H d=M (.dT (nQ ts vs)))(h:az K H (ts.map λt=>wD (f t)) vs)(nt:t∉ts)(hv:ay K H (wD (f t)) v):yt K (upd H d (.dT (oC (nQ ts vs) (dw t) v))) (ts++[t]) f d:=by
 have hlen:=yt.len h;rw[FE hlen nt];refine⟨_,ag,?_⟩;rw[QN];exact(az.sameD (iI.put hd) h).snoc (ay.sameD (iI.put hd) hv)
theorem Kf {K:KE}{H:Hp}{c:Q3}{xs:List V}(h:az K H c.ds xs){k:Nat}(hk:k<3):∃ v,xs[k]?=M v/\ay K H (rD (fR c.a c.b c.c k)) v:=by
 obtain⟨x,y,z,rfl,h0,h1,h2⟩:=fw h
 match k,hk with
 |0,_=>exact⟨x,Y,h0⟩
 |1,_=>exact⟨y,Y,h1⟩
 |2,_=>exact⟨z,Y,h2⟩
theorem OD {zzW:V->Hp->Prop}{I:V->Hp->Prop}{G:Prop}(gZ:∀ v H,I v H->zzW v H)(main:(∀ v H,I v H->zzW v H)->G):G:=main gZ
structure Rw where
 w:Int
 x:Int
 y:Int
 z:Int
def Rw.ns (r:Rw):List Int:=[r.w,r.x,r.y,r.z]
def Rw.d (r:Rw):P5:=.tuple (r.ns.map Rt)
structure Rw.In (r:Rw)(m:Int):Prop where
 w0:-m<=r.w
 w1:r.w<=m
 x0:-m<=r.x
 x1:r.x<=m
 y0:-m<=r.y
 y1:r.y<=m
 z0:-m<=r.z
 z1:r.z<=m
def BI (i:Int):Int:=min (max i 0) 1000
theorem qW (i:Int):0<=BI i/\BI i<=1000:=by unfold BI;lia
def Rw.at (r:Rw)(t:Kn):Int:=BI (r.w+(r.x*(t.1:Int)+(r.y*(t.2.1:Int)+r.z*(t.2.2:Int))))
def LI (r1 r2 r3:Rw)(t:Kn):R3:=⟨r1.at t,r2.at t,r3.at t⟩
def R3.sub (r s:R3):R3:=⟨r.a-s.a,r.b-s.b,r.c-s.c⟩
theorem rO {l m a b c:Int}(ha:l<=a/\a<=m)(hb:l<=b/\b<=m)(hc:l<=c/\c<=m):OP 3 l m (.tuple [.int a,.int b,.int c])=true:=by
 show((decide (l<=a)&&decide (a<=m))&&((decide (l<=b)&&decide (b<=m))&&((decide (l<=c)&&decide (c<=m))&&true)))=true;rw[Ph ha.1,Ph ha.2,Ph hb.1,Ph hb.2,Ph hc.1,Ph hc.2];rfl
open PySem.W PySem.Calls
def MZ (t u:Kn):Prop:=¬ (t.1<u.1\/(t.1=u.1/\(t.2.1<u.2.1\/(t.2.1=u.2.1/\t.2.2<u.2.2))))
theorem CV {q:Q3}{j k:Nat}(h:q.Bd j)(hk:k<3):Bq j (fR q.a q.b q.c k):=by
 match k,hk with
 |0,_=>exact h.a
 |1,_=>exact h.b
 |2,_=>exact h.c
instance {t u:Kn}:Decidable (MZ t u):=by unfold MZ;infer_instance
def Rw.co (r:Rw):Nat->Int
 |0=>r.x
 |1=>r.y
 |_=>r.z
def fG (H H':Hp):Prop:=∀ b o,H b=M o->(∀ C dx fs,o≠.ins C dx fs)->H' b=M o
theorem fG.put (ha:H a=M (.ins C dx fs)):fG H (upd H a o):=λb u e n=>by
 rw[au (λz=>by rw[z,ha] at e;cases e;exact n _ _ _ Y)];exact e
theorem Rd.sameI (e:fG H H')(h:Rd H a (.lst xs)):Rd H' a (.lst xs):=by
 rcases h with h|⟨o,h⟩
 ·exact .inl (e _ _ h λ_ _ _ z=>nomatch z)
 ·exact .inr ⟨o,e _ _ h λ_ _ _ z=>nomatch z⟩
mutual
theorem ay.sameI {K:KE}{H H':Hp}(e:fG H H'):∀ {d:P5}{v:V},ay K H d v->ay K H' d v
 |_,_,.non=>.non
 |_,_,.bl b=>.bl b
 |_,_,.int i=>.int i
 |_,_,.str x=>.str x
 |_,_,.lst h q=>.lst (Rd.sameI e h) (az.sameI e q)
 |_,_,.tup h q=>.tup (e _ _ h λ_ _ _ z=>nomatch z) (az.sameI e q)
 |_,_,.dct h=>.dct (e _ _ h λ_ _ _ z=>nomatch z)
theorem az.sameI {K:KE}{H H':Hp}(e:fG H H'):∀ {ds:List P5}{vs:List V},az K H ds vs->az K H' ds vs
 |_,_,.nil=>.nil
 |_,_,.cons h q=>.cons (ay.sameI e h) (az.sameI e q)
end
def dJ (K:KE)(H:Hp)(e:En)(v:V):Prop:=∃ (a C dx:Po) (x y:V),v=.ref a/\cM K "Ends" C/\H a=M (.ins C dx [("white",x),("black",y)])/\ay K H (c6 false e.w) x/\ay K H (c6 false e.b) y
theorem dJ.same {K:KE}{H H':Hp}{e:En}{v:V}(h:dJ K H e v)(s:ah H H'):dJ K H' e v:=by
 obtain⟨a,C,dx,x,y,h1,h2,h3,h4,h5⟩:=h;exact⟨a,C,dx,x,y,h1,h2,s _ _ h3,ay.same s h4,ay.same s h5⟩
theorem dJ.mv {K:KE}{T:List Po}{H H':Hp}{e:En}{v:V}(h:dJ K H e v)(m:Mv T H H')(l:b_ H T):dJ K H' e v:=by
 obtain⟨a,C,dx,x,y,h1,h2,h3,h4,h5⟩:=h;exact⟨a,C,dx,x,y,h1,h2,m _ _ h3 (l.not h3 λ_ z=>nomatch z),ay.mv m l rfl h4,ay.mv m l rfl h5⟩
theorem dJ.put {K:KE}{H:Hp}{a C dx:Po}{fs:List (Str×V)}{o:HO}{e:En}{v:V}(h:dJ K H e v)(ha:H a=M (.ins C dx fs))(hf:fs.map (·.1)≠[("white":Str),"black"]):dJ K (upd H a o) e v:=by
 obtain⟨b,D,dy,x,y,h1,h2,h3,h4,h5⟩:=h;refine⟨b,D,dy,x,y,h1,h2,?_,ay.sameI (fG.put ha) h4,ay.sameI (fG.put ha) h5⟩;rw[au (λz=>by rw[z,ha] at h3;cases h3;exact hf rfl)];exact h3
theorem dJ.en {K:KE}{H:Hp}{e:En}{v:V}(h:dJ K H e v):uD K H e v:=by
 obtain⟨a,C,dx,x,y,h1,h2,h3,h4,h5⟩:=h;exact⟨a,C,dx,x,y,h1,h2,h3,T3.of h4,T3.of h5⟩
theorem kf.put {K:KE}{H:Hp}{a C dx:Po}{fs:List (Str×V)}{o:HO}{n:Nat}{f:Kn->R3}{v:V}(h:kf K H n f v)(ha:H a=M (.ins C dx fs))(hf:fs.map (·.1)≠[("knots":Str),"table"]):kf K (upd H a o) n f v:=by
 obtain⟨b,D,dy,d,h1,h2,h3,ts,p,vs,h4,h5⟩:=h;refine⟨b,D,dy,d,h1,h2,?_,ts,p,vs,fG.put ha _ _ h4 (λ_ _ _ z=>nomatch z),az.sameI (fG.put ha) h5⟩;rw[au (λz=>by rw[z,ha] at h3;cases h3;exact hf rfl)];exact h3
structure C3 where
 p:List Pt
 q:List Pt
 r:List Pt
def C3.at (P:C3):Nat->List Pt
 |0=>P.p
 |1=>P.q
 |_=>P.r
def C3.In (P:C3)(cap:Int):Prop:=∀ i,i<3->z_ (P.at i)/\∃ y z,(P.at i)[0]?=M y/\(P.at i).getLast?=M z/\z.1=60/\z.2<=cap
theorem C3.In.mono {P:C3}{j k:Int}(h:P.In j)(l:j<=k):P.In k:=λi hi=>let ⟨a,y,z,b,c,d,e⟩:=h i hi;⟨a,y,z,b,c,d,Int.le_trans e l⟩
def jj (K:KE)(H:Hp)(P:C3)(vs:List V):Prop:=vs.length=3/\∀ (i:Nat) (v:V),vs[i]?=M v->mo K H (P.at i) v
theorem jj.same {K:KE}{H H':Hp}{P:C3}{vs:List V}(h:jj K H P vs)(s:ah H H'):jj K H' P vs:=⟨h.1,λi v e=>(h.2 i v e).same s⟩
theorem jj.put {K:KE}{H:Hp}{a C dx:Po}{fs:List (Str×V)}{o:HO}{P:C3}{vs:List V}(h:jj K H P vs)(ha:H a=M (.ins C dx fs))(hf:fs.map (·.1)≠[("points":Str)]):jj K (upd H a o) P vs:=⟨h.1,λi v e=>mo.put ha (λl z=>hf (by rw[z];rfl)) (h.2 i v e)⟩
def xQ (K:KE)(H:Hp)(P:C3)(s:S9)(e:En)(v:V):Prop:=∃ (a C dx cl:Po) (vs:List V) (q en:V),v=.ref a/\cM K "SquareProfile" C/\H a=M (.ins C dx [("curves",.ref cl),("square",q),("bounds",en)])/\H cl=M (.lst vs)/\jj K H P vs/\ay K H s.d q/\dJ K H e en
def yU (K:KE)(H:Hp)(P:C3)(f:Kn->R3)(e:En)(v:V):Prop:=∃ (a C dx cl:Po) (vs:List V) (g en:V),v=.ref a/\cM K "GridProfile" C/\H a=M (.ins C dx [("curves",.ref cl),("grid",g),("bounds",en)])/\H cl=M (.lst vs)/\jj K H P vs/\kf K H 2 f g/\dJ K H e en
theorem xQ.same {K:KE}{H H':Hp}{P:C3}{q:S9}{e:En}{v:V}(h:xQ K H P q e v)(s:ah H H'):xQ K H' P q e v:=by
 obtain⟨a,C,dx,cl,vs,q,en,h1,h2,h3,h4,h5,h6,h7⟩:=h;exact⟨a,C,dx,cl,vs,q,en,h1,h2,s _ _ h3,s _ _ h4,h5.same s,ay.same s h6,h7.same s⟩
theorem yU.same {K:KE}{H H':Hp}{P:C3}{f:Kn->R3}{e:En}{v:V}(h:yU K H P f e v)(s:ah H H'):yU K H' P f e v:=by
 obtain⟨a,C,dx,cl,vs,q,en,h1,h2,h3,h4,h5,h6,h7⟩:=h;exact⟨a,C,dx,cl,vs,q,en,h1,h2,s _ _ h3,s _ _ h4,h5.same s,h6.same s,h7.same s⟩
theorem Mv.self:Mv T H (TR.cut T H):=λb o e n=>by rw[fF n];exact e
theorem b_.new (l:b_ H T)(h:H b=none):b∉T:=λm=>by
 obtain⟨xs,e⟩:=l b m;rw[h] at e;cases e
theorem b_.same (l:b_ H T)(s:ah H H'):b_ H' T:=λb m=>let ⟨xs,e⟩:=l b m;⟨xs,s _ _ e⟩
def tm (P:C3)(c r:Q3):Prop:=Ej P.p c.a r.a/\Ej P.q c.b r.b/\Ej P.r c.c r.c
section
variable {K:KE}{g:TG}{tt:TT}{te:TE}{σ0:L2.St}{Fin:List V->Hp->Prop}{H1:Hp}
theorem DZ (Pv:Nat->List V->Hp->Prop) (h0:Pv 0 [] H1) (hle:xs.length=ys.length) (hl:xs.length <= 1000) (hsrc:∀ i zs H,Pv i zs H->bU K H a1 xs b1/\bU K H a2 ys b2/\zs.length <= i)
  (he:∀ (i:Nat) (x y:V) (zs:List V) (T:Po) (H:Hp),xs[i]?=M x->ys[i]?=M y->Pv i zs H->H T=none->lq g tt te σ0 (.ref T) (upd H T (.tup [x,y])) λz H'=>Pv (i+1) (zs++[z]) H')
  (hd:∀ zs H,Pv xs.length zs H->Fin zs H):gf (Me K b1 b2 a1 a2) g tt te σ0 Fin H1:=by
 refine⟨λi m zs H=>m=xs.length-i/\i<=xs.length/\Pv i zs H,⟨xs.length,by lia,Qm _,h0⟩,?_⟩;rintro i m zs H ⟨rfl,hi,pv⟩;obtain⟨q1,q2,hzl⟩:=hsrc i zs H pv
 by_cases hlt:i<xs.length
 ·have hlt2:i<ys.length:=by lia
  refine .inr ⟨⟨xs,ys,xs[i],ys[i],q1,q2,by simp[hlt],by simp[hlt2]⟩,bJ (by lia),λv H3 y3=>?_⟩;obtain⟨x,y,T,k1,k2,kT,rfl,rfl⟩:=y3;exact he i x y zs T H (k1 xs q1) (k2 ys q2) pv kT _ (λz H' p=>⟨xs.length-(i+1),by lia,Y,hlt,p⟩) λH5=>∃ m',m'<xs.length-i/\(m'=xs.length-(i+1)/\i+1<=xs.length/\Pv (i+1) zs H5)
 ·have e:i=xs.length:=by lia
  subst e;exact .inl ⟨⟨xs,ys,q1,q2,.inl (Pe _)⟩,cY (by lia),hd zs H pv⟩
end
theorem LH (h:l.length=3):∃ a b c,l=[a,b,c]:=by
 match l,h with
 |[a,b,c],_=>exact⟨a,b,c,Y⟩
theorem B3 {n:Nat}:∀ {vs:List V},vs.length=n->(∀ v∈vs,v=.bl true)->vs=(Px n true).map V.bl:=λ{vs} h1 h2=>by
 rw[Vg];exact Wm.mpr ⟨h1,h2⟩
theorem mO {j:Nat}(h:(l++[x])[j]?=M v):(j<l.length/\l[j]?=M v)\/(j=l.length/\v=x):=by
 by_cases hj:j<l.length
 ·rw[Ry hj] at h;exact .inl ⟨hj,h⟩
 ·rw[Ro (by lia)] at h;have h0:j-l.length<1:=by
   have:=(Pk.mp h).1
   simpa using this
  have e:j=l.length:=by lia
  subst e;rw[Nat.sub_self] at h;exact .inr ⟨Y,(O4 h).symm⟩
theorem tQ {c:Q3}{m:Rat}(h:c.Wi m){k:Nat}(hk:k<3):0<=fR c.a c.b c.c k/\fR c.a c.b c.c k<=m:=by
 match k,hk with
 |0,_=>exact⟨h.a0,h.a1⟩
 |1,_=>exact⟨h.b0,h.b1⟩
 |2,_=>exact⟨h.c0,h.c1⟩
def Kv (K:KE)(x:Str)(sp:Sp)(gV:List V->List V->List V)(E:XK)(t tk:TA):TE:=λσ H Q=>t σ H λvs H0=>tk σ H0 λzs H1=>∀ C a dx,cM K x C->H1 a=none->H1 dx=none->dx≠a ->
 sp (gV (.ref a::vs) zs) (upd (upd H1 dx (.own a)) a (.ins C dx [])) (λv H2=>v=.non/\Q (.ref a) H2) E
section
variable {X:Cx}{CX:l7}{K:KE}{k n j:Nat}{x:Str}{ps ks:List Str}{sp:Sp}{dvs:List V}{p pos:Pos}{t tk:TA}{e:Rz}{es:List Rz}{kws:List Vq}
theorem Ew (zzW:Mk X.K C f) (F:jm X.prog X.w X.K X.mg X.base CX k f fd ps sp) (hr:Room (k + 1) X.A)
  (hb:jt X.K fd ps ks g gV)(hx:∀ J:Hp,∀ s1:Pf,aJ X pins σ J s1->∀ e s',CX X.stack J s1 E e s'->X.xe e s')(I:aJ X pins σ H s)(ru:aU vs us)(rz:aU zs ws)
  (h:∀ a dx,H a=none->H dx=none->dx≠a->sp (gV (.ref a::vs) zs) (upd (upd H dx (.own a)) a (.ins C dx [])) (λv H2=>v=.non/\Q (.ref a) H2) E):
  Pp (PX X.prog X.w) X.A (call (.ref C) us (ks.zip ws)) (EP X pins σ Q) X.xe s:=by
 have hq:=h (s.heap.objs.size+1) s.heap.objs.size (I.hok.fresh (UW _)) (I.hok.fresh (Pe _)) (Pr (Rc _));have J:=aJ.made (C:=C) I;have rr:=hb.rel (show aU (V.ref (s.heap.objs.size+1)::vs) (P2 (s.heap.objs.size+1)::us) from .cons rfl ru) rz;have hn:(g (P2 (s.heap.objs.size+1)::us) ws).length=ps.length:=rr.length.symm.trans (F.len _ _ _ _ hq);refine UL (vI (f:=f) I.kIn zzW.makes zzW.init (RJ.mp zzW.fn) (Se (F.run _ X.stack _ _ ⟨P2 (s.heap.objs.size+1)::us,ks.zip ws⟩ (g (P2 (s.heap.objs.size+1)::us) ws) _ _ E (hr.make C us (ks.zip ws))
  (J.env0.make C us (ks.zip ws)) (hb.to _ (P2 (s.heap.objs.size+1)::us) ws J.kIn hn) rr hq) λz s' hz=>?_))
 match z,hz with
 |.error v,hz=>exact hx _ _ J v s' hz
 |.ok (.ret u),hz=>
  obtain⟨v,H',J3,rv,ev,q3⟩:=J.after hz;subst ev;exact⟨rv,⟨V.ref (s.heap.objs.size+1),H',J3,Y,q3⟩⟩
theorem wM (hK:X.K=K) (hX:Fa CX) (C:rH X.prog X.w X.K X.mg X.base CX k x "__init__" ps ks n j dvs sp) (hr:Room (k + 1) X.A) (hg:Gl X x) (ha:WA X (e :: es) t) (hkw:WK X kws tk)
  (hall:(RQ pos (QM kws X.env)).all (·.1.isSome)=true:=by rfl)(hks:(RQ pos (QM kws X.env)).filterMap (·.1)=ks:=by rfl)(hdb:(x==("__debug__":Str))=false:=by decide)
  (hst:PN (e::es) X.env=(false,Ts e X.env)::PN es X.env:=by rfl)
  (hpl:((Tu pos (PN (e::es) X.env)).any (·.1)||(RQ pos (QM kws X.env)).any (·.1.isNone))=false:=by rfl):
  WE X (.Call (.Name x p) (e::es) kws pos) (Kv K x sp (iK n j dvs) E0 t tk):=by
 have ha:=ha.go;have hkw:=hkw.go;refine⟨?_⟩;subst hK;obtain⟨D,f,fd,ds,fs0,F,cf,hm,hmg,hb⟩:=C.ex;intro pins s σ H Q I h;refine QL (iN I hg hmg ?_ hdb);refine UY (first:=[]) (h₀:=X.base) I.ok.mod.kin cf.kp hall (cy (ha pos pins s σ H _ I h) λus s1 ⟨vs,H1,I1,ru,q1⟩=>?_) hpl hst;refine cy (hkw pos pins s1 σ H1 _ I1 q1) λws s2 ⟨zs,H2,I2,rz,q2⟩=>⟨I2.kIn,?_⟩
 rw[hks];exact Ew ⟨cf.makes,hm.at_,hm.fn,cf.kp⟩ F hr hb (λJ s1 I1 e s' z=>(qm hX) _ _ _ _ _ _ I1 z) I2 ru rz λa dx h1 h2 h3=>q2 D a dx cf.at_ h1 h2 h3
end
theorem G6 {cap:Int}(h:P.In cap)(o:tm P c r)(bd:c.Bd 17):r.Bd 400:=
 ⟨Ok.mono (qU (h 0 (by decide)).1 bd.a o.1) (by decide),Ok.mono (qU (h 1 (by decide)).1 bd.b o.2.1) (by decide),Ok.mono (qU (h 2 (by decide)).1 bd.c o.2.2) (by decide)⟩
theorem Fg {a v:Rat}(h:z_ ps)(hy:ps[0]?=M y)(hz:ps.getLast?=M z)(z2:z.2<=60)(a0:0<=a)(o:Ej ps a v):0<=v/\v<=((60:Int):Rat):=by
 obtain⟨l,u⟩:=Gn h hy hz a0 o;have y0:(0:Rat)<=(y.2:Rat):=Vk.mpr (h.inn y (PL hy)).b1;exact⟨Ww y0 l,Ww u (Wd.mpr z2)⟩
theorem GK (h:P.In 60)(o:tm P c r)(wi:c.Wi ((60:Int):Rat)):r.Wi ((60:Int):Rat):=by
 obtain⟨p0,y0,z0,a0,b0,_,d0⟩:=h 0 (by decide);obtain⟨p1,y1,z1,a1,b1,_,d1⟩:=h 1 (by decide);obtain⟨p2,y2,z2,a2,b2,_,d2⟩:=h 2 (by decide);have x:=Fg p0 a0 b0 d0 wi.a0 o.1;have y:=Fg p1 a1 b1 d1 wi.b0 o.2.1;have z:=Fg p2 a2 b2 d2 wi.c0 o.2.2;exact⟨x.1,x.2,y.1,y.2,z.1,z.2⟩
def S9.cp (s:S9):S9:=⟨true,true,true,true,s.x,s.y,s.z⟩
theorem S9.In.cp {s:S9}(h:s.In):s.cp.In:=⟨h.x,h.y,h.z⟩
def S9.row (s:S9):Nat->R3
 |0=>s.x
 |1=>s.y
 |_=>s.z
theorem Lo {K:KE}{H:Hp}{s:S9}{xs:List V}(h:az K H s.rows xs){i:Nat}{x:V}(e:xs[i]?=M x):i<3/\∃ k,ay K H (c6 k (s.row i)) x:=by
 obtain⟨x0,x1,x2,rfl,h0,h1,h2⟩:=fw h;rcases lA e with ⟨rfl,rfl⟩|⟨rfl,rfl⟩|⟨rfl,rfl⟩
 ·exact⟨by decide,_,h0⟩
 ·exact⟨by decide,_,h1⟩
 ·exact⟨by decide,_,h2⟩
def MT:S9 ⊕ (Kn->R3)->Q3->Q3
 |.inl s,r=>s.m.led r
 |.inr f,r=>W4 2 f r
theorem l6 (m:Mv T H H')(h:H' l=none)(n:l∉T):H l=none:=by
 cases z:H l with
 |none=>rfl
 |some o=>rw[m _ _ z n] at h;cases h
theorem CC {cap:Int}(h:P.In cap)(o:tm P c r)(bd:c.Bd 17):r.Bd 60:=
 ⟨Ok.mono (qU (h 0 (by decide)).1 bd.a o.1) (by decide),Ok.mono (qU (h 1 (by decide)).1 bd.b o.2.1) (by decide),Ok.mono (qU (h 2 (by decide)).1 bd.c o.2.2) (by decide)⟩
def Mn (K:KE)(H:Hp)(P:C3)(sv dv:V):S9 ⊕ (Kn->R3)->Prop
 |.inl s=>ay K H s.d sv/\s.In
 |.inr f=>sv=.non/\(∃ d,dv=.ref d/\Gr K H 2 f d)/\EH 2 f/\P.In 60
def AtD (K:KE)(x:Str)(st:Q1):Prop:=∃ f oc od osl kV doc pm an cdv ct,Pm K O_ x=M (M (.ref f))/\K.lookup f=M ⟨oc,od,.func (Pu x x (aN st) (aH st) (ae st) .none kV doc pm an cdv ct),osl⟩/\PZ K cdv x=true/\PM K (.ref f)=true
def AtM (K:KE)(x m qual:Str)(st:Q1):Prop:=∃ C f oc od osl kV doc pm an cdv ct,Pm K O_ x=M (M (.ref C))/\P0 K (.ref C) m=M (M (.ref f))/\K.lookup f=M ⟨oc,od,.func (Pu m qual (aN st) (aH st) (ae st) .none kV doc pm an cdv ct),osl⟩/\PZ K cdv qual=true/\PM K (.ref f)=true/\RA K (.ref f)=true
theorem AtD.of {K:KE}{x:Str}{st:Q1}{f:Po}{oc kV doc pm cdv ct:O6}{od an:Option Po}{osl:Array (Option O6)}(h1:Pm K O_ x=M (M (.ref f)))(h2:K.lookup f=M ⟨oc,od,.func (Pu x x (aN st) (aH st) (ae st) .none kV doc pm an cdv ct),osl⟩)(h3:PZ K cdv x=true)(h4:PM K (.ref f)=true):AtD K x st:=⟨_,_,_,_,_,_,_,_,_,_,h1,h2,h3,h4⟩
theorem AtM.of {K:KE}{x m qual:Str}{st:Q1}{C f:Po}{oc kV doc pm cdv ct:O6}{od an:Option Po}{osl:Array (Option O6)}(h1:Pm K O_ x=M (M (.ref C)))(h2:P0 K (.ref C) m=M (M (.ref f)))(h3:K.lookup f=M ⟨oc,od,.func (Pu m qual (aN st) (aH st) (ae st) .none kV doc pm an cdv ct),osl⟩)(h4:PZ K cdv qual=true)(h5:PM K (.ref f)=true)(h6:RA K (.ref f)=true):AtM K x m qual st:=⟨_,_,_,_,_,_,_,_,_,_,_,h1,h2,h3,h4,h5,h6⟩
theorem gOf {K:KE}{x:Str}{i:Int}{t:Tok}(h:Pm K O_ x=M (M (.int i t))):∃ t,Pm K O_ x=M (M (.int i t)):=⟨t,h⟩
section
variable {K:KE}{mg:Str->Option O6}{x m qual:Str}{st:Q1}{ps fs:List Str}{h:Q9}
theorem AtD.dfn (a:AtD K x st)(X:K.In h)(G:h.Ns O_ mg)(hb:∀ kV doc pm an cdv ct us,us.length=ps.length->QA (Pu x x (aN st) (aH st) (ae st) .none kV doc pm an cdv ct) ⟨us,[]⟩=pure (ps.zip us)):cN K mg x st ps []:=by
 obtain⟨_,_,_,_,_,_,_,_,_,_,h1,h2,h3,h4⟩:=a;exact Gs h2 h3 h4 (P4 X G h1) (hb _ _ _ _ _ _)
theorem AtM.dfn (a:AtM K x m qual st)(X:K.In h)(G:h.Ns O_ mg)(hc:gE K x fs=true)(hb:∀ kV doc pm an cdv ct us,us.length=ps.length->QA (Pu m qual (aN st) (aH st) (ae st) .none kV doc pm an cdv ct) ⟨us,[]⟩=pure (ps.zip us)):kB K mg x m qual st ps []:=by
 obtain⟨_,_,_,_,_,_,_,_,_,_,_,h1,h2,h3,h4,h5,h6⟩:=a;exact Jr h3 h4 h5 h6 h1 h2 hc (P4 X G h1) (hb _ _ _ _ _ _)
theorem Nu {P:List O6->Prop}{us:List O6}{n:Nat}(h:us.length=n+1)(k:∀ a vs,vs.length=n->P (a::vs)):P us:=by
 cases us with
 |nil=>cases h
 |cons a vs=>exact k a vs (Nat.succ.inj h)
theorem OR {P:List O6->Prop}{us:List O6}(h:us.length=0)(k:P []):P us:=by
 cases us with
 |nil=>exact k
 |cons a vs=>cases h
theorem N2 {P:List O6->Prop}{us:List O6}(h:us.length=1)(k:∀ a,P [a]):P us:=Nu h λa _ h=>OR (P:=λv=>P (a::v)) h (k a)
theorem N6 {P:List O6->Prop}{us:List O6}(h:us.length=2)(k:∀ a b,P [a,b]):P us:=Nu h λa _ h=>N2 (P:=λv=>P (a::v)) h (k a)
theorem NK {P:List O6->Prop}{us:List O6}(h:us.length=3)(k:∀ a b c,P [a,b,c]):P us:=Nu h λa _ h=>N6 (P:=λv=>P (a::v)) h (k a)
theorem Oc {P:List O6->Prop}{us:List O6}(h:us.length=4)(k:∀ a b c d,P [a,b,c,d]):P us:=Nu h λa _ h=>NK (P:=λv=>P (a::v)) h (k a)
theorem OF {P:List O6->Prop}{us:List O6}(h:us.length=5)(k:∀ a b c d e,P [a,b,c,d,e]):P us:=Nu h λa _ h=>Oc (P:=λv=>P (a::v)) h (k a)
theorem AtD.d1 {p:Str}(a:AtD K x st)(X:K.In h)(G:h.Ns O_ mg)(hb:∀ kV doc pm an cdv ct a,QA (Pu x x (aN st) (aH st) (ae st) .none kV doc pm an cdv ct) ⟨[a],[]⟩=pure (([p]:List Str).zip [a])):cN K mg x st [p] []:=a.dfn X G λ_ _ _ _ _ _ us hl=>N2 (P:=λus=>QA _ ⟨us,[]⟩=pure ([p].zip us)) hl (hb _ _ _ _ _ _)
theorem AtM.d1 {p:Str}(a:AtM K x m qual st)(X:K.In h)(G:h.Ns O_ mg)(hc:gE K x fs=true)(hb:∀ kV doc pm an cdv ct a,QA (Pu m qual (aN st) (aH st) (ae st) .none kV doc pm an cdv ct) ⟨[a],[]⟩=pure (([p]:List Str).zip [a])):kB K mg x m qual st [p] []:=a.dfn X G hc λ_ _ _ _ _ _ us hl=>N2 (P:=λus=>QA _ ⟨us,[]⟩=pure ([p].zip us)) hl (hb _ _ _ _ _ _)
theorem AtD.d2 {p q:Str}(a:AtD K x st)(X:K.In h)(G:h.Ns O_ mg)(hb:∀ kV doc pm an cdv ct a b,QA (Pu x x (aN st) (aH st) (ae st) .none kV doc pm an cdv ct) ⟨[a,b],[]⟩=pure (([p,q]:List Str).zip [a,b])):cN K mg x st [p,q] []:=a.dfn X G λ_ _ _ _ _ _ us hl=>N6 (P:=λus=>QA _ ⟨us,[]⟩=pure ([p,q].zip us)) hl (hb _ _ _ _ _ _)
theorem AtM.d2 {p q:Str}(a:AtM K x m qual st)(X:K.In h)(G:h.Ns O_ mg)(hc:gE K x fs=true)(hb:∀ kV doc pm an cdv ct a b,QA (Pu m qual (aN st) (aH st) (ae st) .none kV doc pm an cdv ct) ⟨[a,b],[]⟩=pure (([p,q]:List Str).zip [a,b])):kB K mg x m qual st [p,q] []:=a.dfn X G hc λ_ _ _ _ _ _ us hl=>N6 (P:=λus=>QA _ ⟨us,[]⟩=pure ([p,q].zip us)) hl (hb _ _ _ _ _ _)
theorem AtD.d3 {p q r:Str}(a:AtD K x st)(X:K.In h)(G:h.Ns O_ mg)(hb:∀ kV doc pm an cdv ct a b c,QA (Pu x x (aN st) (aH st) (ae st) .none kV doc pm an cdv ct) ⟨[a,b,c],[]⟩=pure (([p,q,r]:List Str).zip [a,b,c])):cN K mg x st [p,q,r] []:=a.dfn X G λ_ _ _ _ _ _ us hl=>NK (P:=λus=>QA _ ⟨us,[]⟩=pure ([p,q,r].zip us)) hl (hb _ _ _ _ _ _)
theorem AtM.d3 {p q r:Str}(a:AtM K x m qual st)(X:K.In h)(G:h.Ns O_ mg)(hc:gE K x fs=true)(hb:∀ kV doc pm an cdv ct a b c,QA (Pu m qual (aN st) (aH st) (ae st) .none kV doc pm an cdv ct) ⟨[a,b,c],[]⟩=pure (([p,q,r]:List Str).zip [a,b,c])):kB K mg x m qual st [p,q,r] []:=a.dfn X G hc λ_ _ _ _ _ _ us hl=>NK (P:=λus=>QA _ ⟨us,[]⟩=pure ([p,q,r].zip us)) hl (hb _ _ _ _ _ _)
theorem AtD.d4 {p q r u:Str}(a:AtD K x st)(X:K.In h)(G:h.Ns O_ mg)(hb:∀ kV doc pm an cdv ct a b c d,QA (Pu x x (aN st) (aH st) (ae st) .none kV doc pm an cdv ct) ⟨[a,b,c,d],[]⟩=pure (([p,q,r,u]:List Str).zip [a,b,c,d])):cN K mg x st [p,q,r,u] []:=a.dfn X G λ_ _ _ _ _ _ us hl=>Oc (P:=λus=>QA _ ⟨us,[]⟩=pure ([p,q,r,u].zip us)) hl (hb _ _ _ _ _ _)
theorem AtM.d4 {p q r u:Str}(a:AtM K x m qual st)(X:K.In h)(G:h.Ns O_ mg)(hc:gE K x fs=true)(hb:∀ kV doc pm an cdv ct a b c d,QA (Pu m qual (aN st) (aH st) (ae st) .none kV doc pm an cdv ct) ⟨[a,b,c,d],[]⟩=pure (([p,q,r,u]:List Str).zip [a,b,c,d])):kB K mg x m qual st [p,q,r,u] []:=a.dfn X G hc λ_ _ _ _ _ _ us hl=>Oc (P:=λus=>QA _ ⟨us,[]⟩=pure ([p,q,r,u].zip us)) hl (hb _ _ _ _ _ _)
theorem AtD.d5 {p q r u v:Str}(a:AtD K x st)(X:K.In h)(G:h.Ns O_ mg)(hb:∀ kV doc pm an cdv ct a b c d e,QA (Pu x x (aN st) (aH st) (ae st) .none kV doc pm an cdv ct) ⟨[a,b,c,d,e],[]⟩=pure (([p,q,r,u,v]:List Str).zip [a,b,c,d,e])):cN K mg x st [p,q,r,u,v] []:=a.dfn X G λ_ _ _ _ _ _ us hl=>OF (P:=λus=>QA _ ⟨us,[]⟩=pure ([p,q,r,u,v].zip us)) hl (hb _ _ _ _ _ _)
theorem AtM.d5 {p q r u v:Str}(a:AtM K x m qual st)(X:K.In h)(G:h.Ns O_ mg)(hc:gE K x fs=true)(hb:∀ kV doc pm an cdv ct a b c d e,QA (Pu m qual (aN st) (aH st) (ae st) .none kV doc pm an cdv ct) ⟨[a,b,c,d,e],[]⟩=pure (([p,q,r,u,v]:List Str).zip [a,b,c,d,e])):kB K mg x m qual st [p,q,r,u,v] []:=a.dfn X G hc λ_ _ _ _ _ _ us hl=>OF (P:=λus=>QA _ ⟨us,[]⟩=pure ([p,q,r,u,v].zip us)) hl (hb _ _ _ _ _ _)
theorem Io {i:Int}(X:K.In h)(G:h.Ns O_ mg)(a:∃ t,Pm K O_ x=M (M (.int i t))):∃ t,mg x=M (.int i t):=by obtain⟨t,e⟩:=a;exact⟨t,P4 X G e⟩
end
theorem cI (a:sc.kind=.function:=by rfl)(b:sc.isCoroutine=false:=by rfl)(c:sc.isGenerator=false:=by rfl)(d:N.Nodup:=by decide +kernel)(e:N.take P.length=P:=by rfl)(f:∀ x∈P,sc.names.lookup x=M .local\/sc.names.lookup x=M .cell:=by decide +kernel)(g:∀ y∈sc.names,y.2≠.free:=by decide +kernel):ao N P sc:=⟨a,b,c,d,e,f,g⟩
theorem gY (hp:H p=none)(e:upd H p o=H1):ah H H1:=e▸ah.new hp
theorem fB (e:upd H p o=H1):H1 p=M o:=e▸ag
theorem v9 (ha:H a=none)(hd:H dx=none)(hn:dx≠a)(e:upd (upd H dx o1) a o=H1):ah H H1:=e▸(ah.new hd).trans (ah.new (by rw[au hn.symm];exact ha))
def Q3.at (q:Q3):Nat->Rat:=fR q.a q.b q.c
def Nf (K:KE)(x y:Str):List V->Hp->VK->Prop:=λxs H Q=>∃ v C D p,xs=[v,.ref p]/\cM K x C/\cM K y D/\H p=M (.tup [.ref C,.ref D]) /\
 ((∃ a dx fs,v=.ref a/\(H a=M (.ins C dx fs)\/H a=M (.ins D dx fs))/\Q (.bl true) H)\/∃ T,Ty K H v T/\T∈zu/\Q (.bl false) H)
theorem L5 {X:Cx}{K:KE}{x y:Str}{fs0 fs1:List Str}(hK:X.K=K)(hc:gE K x fs0=true)(hi:ER K x=true)(hc':gE K y fs1=true)(hi':ER K y=true)(hn:Kz K y x=true):dD X (.builtin "isinstance") (Nf K x y):=by
 subst hK;intro pins s σ H xs us Q I r h;obtain⟨v,C,D,p,rfl,hC,hD,hp,h⟩:=h;obtain⟨u,w,rfl,rx,rw'⟩:=k9 r;cases(show w=P2 p from rw');obtain⟨_,its,rr,⟨cl,dd,dt,sl⟩,h1,h2,n,h3⟩:=I.hok p _ hp;obtain⟨u1,u2,rfl,w1,w2⟩:=k9 rr;cases(show u1=P2 C from w1);cases(show u2=P2 D from w2);simp only at h2 h3;subst h2 h3;obtain⟨C',cf⟩:=kW hc;cases bH hC cf.at_;obtain⟨D',cg⟩:=kW hc';cases bH hD cg.at_;obtain⟨E,e,q⟩:=iT hi;rw[iZ hC] at e;cases e;obtain⟨E,e,q'⟩:=iT hi';rw[iZ hD] at e;cases e;simp only[Qu,RJ,Rb] at q q';obtain⟨⟨⟨⟨q1,q2⟩,q3⟩,q4⟩,q5⟩:=q;obtain⟨⟨⟨⟨r1,r2⟩,r3⟩,r4⟩,r5⟩:=q';obtain⟨E1,e1,n1⟩:=iT hn;rw[iZ hD] at e1;cases e1;obtain⟨E2,e2,n2⟩:=iT n1;rw[iZ hC] at e2;cases e2;have n2:=RJ.mp n2;have self:∀ c:O6,Sk X.K c c=M true:=λc=>by unfold Sk;rw[Qh (UB _)]
 rcases h with ⟨a,dx,fs,rfl,ha|ha,h⟩|⟨T,ty,ht,h⟩
 ·exact Jy I rx (.ins ha cf.cls q1 q2 q3 q4) h1 (by unfold Sj;rw[self]) λtk=>⟨.bl true,H,I.tok tk,Y,h⟩
 ·exact Jy I rx (.ins ha cg.cls r1 r2 r3 r4) h1 (by unfold Sj;rw[n2];unfold Sj;rw[self]) λtk=>⟨.bl true,H,I.tok tk,Y,h⟩
 ·exact Jy I rx ty h1 (by unfold Sj;rw[q5 T ht];unfold Sj;rw[r5 T ht];rfl) λtk=>⟨.bl false,H,I.tok tk,Y,h⟩
def JJ (K:KE)(H:Hp)(v:V):Prop:=∃ a C dx fs,v=.ref a/\H a=M (.ins C dx fs)/\(cM K "SquareProfile" C\/cM K "GridProfile" C)
theorem xQ.pr {K:KE}{H:Hp}{P:C3}{s:S9}{e:En}{v:V}(h:xQ K H P s e v):JJ K H v:=by obtain⟨a,C,dx,_,_,_,_,h1,h2,h3,_⟩:=h;exact⟨a,C,dx,_,h1,h3,.inl h2⟩
theorem yU.pr {K:KE}{H:Hp}{P:C3}{f:Kn->R3}{e:En}{v:V}(h:yU K H P f e v):JJ K H v:=by obtain⟨a,C,dx,_,_,_,_,h1,h2,h3,_⟩:=h;exact⟨a,C,dx,_,h1,h3,.inr h2⟩
def BC (K:KE)(H:Hp)(P:C3)(b:S9 ⊕ (Kn->R3))(e:En)(v:V):Prop:=match b with
 |.inl s=>xQ K H P s.cp e v/\s.In/\P.In 1000
 |.inr f=>yU K H P f e v/\EH 2 f/\P.In 60
theorem BC.same {K:KE}{H H':Hp}{P:C3}{b:S9 ⊕ (Kn->R3)}{e:En}{v:V}(h:BC K H P b e v)(s:ah H H'):BC K H' P b e v:=by
 cases b with
 |inl q=>exact⟨h.1.same s,h.2⟩
 |inr f=>exact⟨h.1.same s,h.2⟩
theorem BC.pr {K:KE}{H:Hp}{P:C3}{b:S9 ⊕ (Kn->R3)}{e:En}{v:V}(h:BC K H P b e v):JJ K H v:=by
 cases b with
 |inl q=>exact h.1.pr
 |inr f=>exact h.1.pr
theorem BC.pin {K:KE}{H:Hp}{P:C3}{b:S9 ⊕ (Kn->R3)}{e:En}{v:V}(h:BC K H P b e v):P.In 1000:=by
 cases b with
 |inl q=>exact h.2.2
 |inr f=>exact h.2.2.mono (by decide)
noncomputable def NC (ps:List Pt) (a:Rat):Rat:=Classical.epsilon (Ej ps a)
theorem B4 (h:z_ ps){a v:Rat}(x:Ej ps a v):NC ps a=v:=Hf h (Classical.epsilon_spec ⟨v,x⟩) x
noncomputable def Ec (P:C3) (c:Q3):Q3:=⟨NC P.p c.a,NC P.q c.b,NC P.r c.c⟩
theorem xJ {cap:Int}(h:P.In cap)(o:tm P c r):Ec P c=r:=Q3.ext (B4 (h 0 (by decide)).1 o.1) (B4 (h 1 (by decide)).1 o.2.1) (B4 (h 2 (by decide)).1 o.2.2)
noncomputable def Ma (i:Str) (e e2:En) (b:S9 ⊕ (Kn->R3)) (P:C3) (c:Q3):Q3:=Mc i e e2 (MT b (Ec P c))
def nw (q:Rat):Int:=(2*q.num+(q.den:Int)).fdiv (2*(q.den:Int))
def hq (q:Q3):R3:=⟨BI (nw q.a),BI (nw q.b),BI (nw q.c)⟩
noncomputable def i9 (n:Nat) (i:Str) (e e2:En) (b:S9 ⊕ (Kn->R3)) (P:C3) (t:Kn):R3:=hq (Ma i e e2 b P (HJ n t))
theorem IW {n m:Nat}:EH m (i9 n i e e2 b P):=λt _=>⟨(qW _).1,(qW _).2,(qW _).1,(qW _).2,(qW _).1,(qW _).2⟩
theorem CZ {K:KE}(h:BC K H P b e v)(on:tm P c r)(wi:c.Wi ((60:Int):Rat))(bd:c.Bd 17):(MT b r).Bd 480:=by
 cases b with
 |inl s=>exact(KU (J' h.2.1) (CC h.2.2 on bd)).mono (by decide)
 |inr f=>exact(MA (by decide) (by decide) h.2.1 (GK h.2.2 on wi) (CC h.2.2 on bd)).mono (by decide)
theorem BC.bounds {K:KE}{k:Nat} (h:BC K H P b e v) (h0:σ[k]?=M (M v)) (q:∀ u,uD K H e u->Q u H) :
  FG K "SquareProfile" (re k) "bounds" σ H Q\/FG K "GridProfile" (re k) "bounds" σ H Q:=by
 cases b with
 |inl s=>
  obtain⟨a,C,dx,l,vs,q1,en,rfl,hC,ha,_,_,_,r1⟩:=h.1;exact .inl ⟨_,h0,a,C,dx,_,_,Y,hC,ha,Y,q _ r1.en⟩
 |inr f=>
  obtain⟨a,C,dx,l,vs,q1,en,rfl,hC,ha,_,_,_,r1⟩:=h.1;exact .inr ⟨_,h0,a,C,dx,_,_,Y,hC,ha,Y,q _ r1.en⟩
section
variable {prog:PU}{w:Qq}{A:QB}{E:O6->Pf->Prop}{s:Pf}{K:KE}{x C:Po}{ox:Obj}{od:Option Obj}
theorem instObj {zzW:Model}(X:K.In s.heap)(I:Yn s.heap x ox C od)(ho:Tq K (.ref C) (.type "object")=M true):PySem.W.Looks zzW s.heap (WJ (.ref x) (.type "object")) true:=I.type.andThen (PySem.W.looks_subIn X ho)
end
theorem WW.pt {X:Cx}{e:Rz}{t:TT}(h:WW X e t):WT X e t:=⟨PW.pt h.go⟩
set_option autoImplicit true
set_option relaxedAutoImplicit true
section
variable {X:Cx}{st:Q1}{K:KE}
theorem aQ :WA X [] xM:=⟨Hk ⟩
theorem aj (ha:WE X e te)(hr:WA X es t)(hs:PN (e::es) X.env=(false,Ts e X.env)::PN es X.env:=by rfl):WA X (e::es) (lv te t):=⟨CL ha.go hr.go hs⟩
theorem ak (i:Nat)(hN:X.N[i]?=M x:=by rfl)(hv:Md X.env.scope x:=by first|exact X5 rfl|exact W3 (X5 rfl)|exact W3 (W3 rfl))(hd:(x==("__debug__":Str))=false:=by decide)(hcd:(x==("__classdict__":Str))=false:=by decide):WE X (.Name x pos) (re i):=⟨pv i hN hv hd hcd⟩
theorem Ft (hx:X.xe=λ_ _=>False)(hd:gens[d+1]?=none)(he:WE X elt te):WB X elt gens scope pos d (CT te):=⟨C6 hx hd he.go⟩
end
section
variable {X:Cx}
theorem aw (i:Nat){x:Str}{e:Rz}{te:TE}{pos pos':Pos}(hN:X.N.Nodup)(he:WE X e te)(hi:X.N[i]?=M x:=by rfl)(hx:KM X.env.scope x:=by first|exact X5 rfl|exact W3 rfl)(hs:VU e (M (.Name x pos')) pos.line X.env=pure false:=by rfl)(hf:X.fn x=true\/X.env.scope.names.lookup x=M .local:=by first|exact .inl rfl|exact .inr rfl|assumption):WS X (.Assign [.Name x pos'] e pos) (Lk te (uC i)):=Jw hN hi hx he hs hf
theorem ai (i:Nat){x:Str}{pos:Pos}(hN:X.N.Nodup)(hi:X.N[i]?=M x:=by rfl)(hx:KM X.env.scope x:=by first|exact X5 rfl|exact W3 rfl)(hf:X.fn x=true\/X.env.scope.names.lookup x=M .local:=by first|exact .inl rfl|exact .inr rfl|assumption):WG X (.Name x pos) (uC i):=FC hN hi hx hf
theorem am (K:KE){a b:Rz}{ta tb:TE}{pos:Pos}(ha:WE X a ta)(hb:WE X b tb)(e:X.K=K:=by rfl)(hs:C7 b:=by intro _ _;rfl):WE X (.Subscript a b pos) (Nj (JR K) ta tb):=BL (NL e) ha hb hs
theorem ac {CX:l7}{k j:Nat}{x:Str}{ps:List Str}{sp:Sp}{dvs:List V}{p pos:Pos}{e:Rz}{es:List Rz}{t:TA}(hX:Fa CX)(C:c9 X.prog X.w X.K X.mg X.base CX k x ps dvs sp)(hr:Room j X.A)(ha:WA X (e::es) t)(hj:k<=j:=by decide)(hg:Gl X x:=by rfl)(hdb:(x==("__debug__":Str))=false:=by decide)(he:PN (e::es) X.env=(false,Ts e X.env)::PN es X.env:=by rfl)(hpl:(Tu pos (PN es X.env)).any (·.1)=false:=by rfl):WE X (.Call (.Name x p) (e::es) [] pos) (xH sp dvs E0 t):=Jz hX C (hr.mono hj) hg ha hdb he hpl
theorem aE {e:Rz}{te:TE}(h:WE X e te)(hs:PN [e] X.env=(false,Ts e X.env)::PN [] X.env:=by rfl):WA X [e] (lv te xM):=aj h aQ hs
theorem aA {e f:Rz}{te tf:TE}(h:WE X e te)(g:WE X f tf)(hs:PN [e,f] X.env=(false,Ts e X.env)::PN [f] X.env:=by rfl)(gs:PN [f] X.env=(false,Ts f X.env)::PN [] X.env:=by rfl):WA X [e,f] (lv te (lv tf xM)):=aj h (aj g aQ gs) hs
theorem aF {scope:Uw}{elt tg iter:Rz}{ifs:List Rz}{wi:TI}{g:TG}{tt:TT}{te:TE}{pos:Pos}(ts cs:List Str)(js:List Nat)(k:Nat)(hi:WI X tg iter wi)(hg:(ts++cs).Nodup->∀ {C s0 H0 fp pn},WG (bR X (ts++cs) scope (bB X scope C) C s0 H0 fp pn) tg g)(ht:∀ {C s0 H0 fp pn},Kl (bR X (ts++cs) scope (bB X scope C) C s0 H0 fp pn) ifs tt)(he:∀ {C s0 H0 fp pn},WE (bR X (ts++cs) scope (bB X scope C) C s0 H0 fp pn) elt te)(nd:(ts++cs).Nodup:=by decide +kernel)(hc:X.calm=true:=by rfl)(h1:tO scope=true:=by decide +kernel)(h2:(scope.names.all λy=>!(y.2==.free)||(X.env.cells.lookup y.1).isSome)=true:=by rfl)(h3:qf X scope cs js=true:=by rfl)(h4:cs.length=js.length:=by rfl)(h5:ts.length=k:=by rfl)(hs:∀ x,Rg iter X.env x=pure x:=by intro _;rfl):WE X (.ListComp elt [⟨tg,iter,ifs,0⟩] scope pos) (Db wi g tt te (A8 k js)):=GR hc hi (yd h1 h2) (BK (ts:=ts) h3 h4 h5) (λ_ _ _ _ _=>hg nd) (λ_ _ _ _ _=>ht) (λ_ _ _ _ _=>he) hs
theorem c_ (i:Nat){y:Str}{py spos:Pos}{scope:Uw}{elt tg iter:Rz}{ifs:List Rz}{wi:TI}{g:TG}{tt:TT}{te:TE}{pos:Pos}(ts cs:List Str)(js:List Nat)(k:Nat)(hN:X.N.Nodup)(hi:WI X tg iter wi)(hg:(ts++cs).Nodup->∀ {C s0 H0 fp pn},WG (bR X (ts++cs) scope (bB X scope C) C s0 H0 fp pn) tg g)(ht:∀ {C s0 H0 fp pn},Kl (bR X (ts++cs) scope (bB X scope C) C s0 H0 fp pn) ifs tt)(he:∀ {C s0 H0 fp pn},WE (bR X (ts++cs) scope (bB X scope C) C s0 H0 fp pn) elt te)(nd:(ts++cs).Nodup:=by decide +kernel)(hc:X.calm=true:=by rfl)(hi':X.N[i]?=M y:=by rfl)(hy:X.env.scope.names.lookup y=M .local:=by rfl)(h1:tO scope=true:=by decide +kernel)(h2:(scope.names.all λy=>!(y.2==.free)||(X.env.cells.lookup y.1).isSome)=true:=by rfl)(h3:qf X scope cs js=true:=by rfl)(h4:cs.length=js.length:=by rfl)(h5:ts.length=k:=by rfl)(hsw:VU (.ListComp elt [⟨tg,iter,ifs,0⟩] scope pos) (M (.Name y py)) spos.line X.env=pure true:=by rfl)(hs:∀ x,Rg iter X.env x=pure x:=by intro _;rfl):WS X (.Assign [.Name y py] (.ListComp elt [⟨tg,iter,ifs,0⟩] scope pos) spos) (HZ i wi g tt te (A8 k js)):=Al hc hN hi' hy hi (yd h1 h2) (BK (ts:=ts) h3 h4 h5) (λ_ _ _ _ _=>hg nd) (λ_ _ _ _ _=>ht) (λ_ _ _ _ _=>he) hsw hs
end
end TR
set_option Elab.async false
set_option linter.all false
set_option maxRecDepth 100000
set_option maxHeartbeats 8000000
namespace TR
open PySem PySem.Spec PyProof.Rows L2
set_option autoImplicit false
abbrev j0:List Str:=["thing"]
abbrev oR:List Str:=["_law_one","_law_two"]
abbrev tR:List Str:=["number","here","there"]
abbrev uA0:List Str:=["_law_town_here","_law_cap"]
abbrev uA1:List Str:=["_law_town_here"]
abbrev uA2:List Str:=["profile","intent","there","knots"]
abbrev uA3:List Str:=["one","other"]
abbrev uA4:List Str:=["_law_town_here","_law_cap","_law_climbs"]
abbrev uA5:List Str:=["thing","most"]
abbrev uA6:List Str:=["profile","intent","colour","there"]
abbrev uA7:List Str:=["here","there"]
abbrev uA8:List Str:=["_law_thing"]
abbrev uA9:List Str:=["self","curves","square","ends"]
abbrev uB0:List Str:=["_law_town_here","_law_last","_law_cap","_law_climbs"]
abbrev uB1:List Str:=["self","curves","grid","ends"]
abbrev uB2:List Str:=["_law_k"]
abbrev uB3:List Str:=["thing","knots"]
abbrev uB4:List Str:=["self","colour"]
abbrev uB5:List Str:=["_law_script"]
abbrev uB6:List Str:=["worth","intent","here","there"]
abbrev uB7:List Str:=["thing","many","least","most"]
abbrev uB8:List Str:=["top","below"]
abbrev uB9:List Str:=["self","white","black"]
abbrev uC0:List Str:=["_law_town_here","_law_some"]
abbrev uC1:List Str:=["_law_table","_law_size","_law_colour"]
abbrev uC2:List Str:=["self","colour","way"]
abbrev uC3:List Str:=["self","place"]
abbrev uC4:List Str:=["self"]
abbrev uC5:List Str:=["ends"]
abbrev uC6:List Str:=["_law_parts","_law_colour"]
abbrev uC7:List Str:=["_law_one"]
abbrev uC8:List Str:=["far","whole"]
abbrev uC9:List Str:=["thing","least","most"]
abbrev uD0:List Str:=["self","knots","table"]
abbrev uD1:List Str:=["number"]
abbrev uD2:List Str:=["_law_town_here","_law_many"]
abbrev uD3:List Str:=["_law_town_here","_law_size"]
abbrev uD4:List Str:=["one","least","most"]
abbrev uD5:List Str:=["white","black"]
abbrev uD6:List Str:=["_law_rows","_law_colour"]
abbrev uD7:List Str:=["_law_size","_law_colour"]
abbrev uD8:List Str:=["_law_square_here"]
abbrev uD9:List Str:=["square","colour"]
abbrev uE0:List Str:=["curves","colour"]
abbrev uE1:List Str:=["_law_w","_law_x","_law_y","_law_z"]
abbrev uE2:List Str:=["self","least","parts"]
abbrev uE3:List Str:=["low","high"]
abbrev uE4:List Str:=["a","b","c","numbers"]
abbrev uE5:List Str:=["place","steps"]
abbrev uE6:List Str:=["self","points"]
abbrev uE7:List Str:=["row","colour"]
abbrev uE8:List Str:=["row","other"]
abbrev uE9:List Str:=["low","high","at"]
abbrev uF0:List Str:=["knots"]
def cJ (i:Nat):Q1:=PySem.Challenge.pw_tintroads_k22_whole_links.main.body.getD i (.Pass ⟨0,0,0,0⟩)
abbrev oV:Q1:=cJ 12
abbrev fX:Q1:=cJ 13
abbrev fI:Q1:=cJ 14
abbrev fe:Q1:=cJ 15
abbrev pq:Q1:=cJ 16
abbrev fY:Q1:=cJ 17
abbrev iM:Q1:=cJ 18
abbrev yz:Q1:=cJ 19
abbrev ky:Q1:=cJ 20
abbrev oW:Q1:=cJ 21
abbrev im:Q1:=cJ 22
abbrev rk:Q1:=cJ 23
abbrev uG:Q1:=cJ 24
abbrev l_:Q1:=cJ 25
abbrev gG:Q1:=cJ 26
abbrev mw:Q1:=cJ 30
abbrev um:Q1:=cJ 31
abbrev lI:Q1:=cJ 32
abbrev fj:Q1:=cJ 33
abbrev fm:Q1:=cJ 34
abbrev mK:Q1:=cJ 35
abbrev l4:Q1:=cJ 36
abbrev FS:Q1:=cJ 37
abbrev pA:Q1:=cJ 44
abbrev qE:Q1:=cJ 45
abbrev ou:Q1:=cJ 46
abbrev yx:Q1:=cJ 47
abbrev BM:Q1:=cJ 48
abbrev oB:Q1:=cJ 49
abbrev fZ:Q1:=cJ 50
abbrev c7:Q1:=cJ 51
abbrev i_:Q1:=cJ 52
abbrev yI:Q1:=cJ 53
abbrev c8:Q1:=cJ 54
abbrev gH:Q1:=cJ 55
abbrev uP:Q1:=cJ 57
abbrev fK:Q1:=dX (cJ 58) 0
abbrev jR:Q1:=dX (cJ 58) 1
abbrev jK:Q1:=dX (cJ 58) 2
abbrev jc:Q1:=dX (cJ 58) 4
abbrev cR:Q1:=dX (cJ 58) 3
abbrev cB:Q1:=dX (cJ 60) 0
abbrev zN:Q1:=cJ 61
abbrev h_:Q1:=cJ 62
abbrev fb:Q1:=cJ 63
abbrev oJ:Q1:=cJ 64
abbrev i8:Q1:=cJ 65
abbrev i7:Q1:=cJ 66
abbrev jO:Q1:=cJ 67
abbrev lR:Q1:=cJ 69
abbrev ff:Q1:=cJ 70
abbrev gK:Q1:=cJ 71
abbrev fA:Q1:=cJ 72
abbrev oS:Q1:=cJ 77
abbrev l9:Q1:=cJ 78
abbrev lY:Q1:=cJ 79
abbrev kC:Q1:=cJ 80
abbrev qR:Q1:=cJ 81
abbrev e_:Q1:=dX (cJ 82) 0
abbrev jo:Q1:=dX (cJ 82) 5
abbrev ix:Q1:=dX (cJ 82) 1
abbrev jp:Q1:=dX (cJ 82) 6
abbrev jU:Q1:=cJ 85
abbrev mB:Q1:=cJ 86
abbrev eW:Q1:=cJ 87
abbrev fg:Q1:=cJ 88
abbrev hJ:Q1:=cJ 89
abbrev jS:Q1:=cJ 90
abbrev mN:Q1:=cJ 91
abbrev bx:Q1:=dX (cJ 92) 0
abbrev cZ:Q1:=dX (cJ 92) 1
abbrev bE:Q1:=dX (cJ 93) 0
abbrev df:Q1:=dX (cJ 93) 1
abbrev eO:Q1:=cJ 94
abbrev gj:Q1:=cJ 96
abbrev fO:Q1:=cJ 97
abbrev lJ:Q1:=cJ 99
abbrev mz:Q1:=cJ 100
abbrev ma:Q1:=cJ 101
abbrev kY:Q1:=cJ 102
abbrev o9:Q1:=cJ 103
abbrev lS:Q1:=cJ 104
abbrev mf:Q1:=cJ 105
abbrev kN:Q1:=cJ 106
abbrev kQ:Q1:=cJ 107
abbrev kU:Q1:=cJ 108
abbrev kD:Q1:=cJ 109
abbrev ic:Q1:=cJ 110
abbrev ia:Q1:=cJ 111
abbrev jN:Q1:=cJ 112
abbrev jQ:Q1:=cJ 113
abbrev oZ:Q1:=cJ 114
abbrev mF:Q1:=cJ 115
abbrev lH:Q1:=cJ 116
abbrev mM:Q1:=cJ 117
abbrev lG:Q1:=cJ 118
abbrev mn:Q1:=cJ 119
abbrev jW:Q1:=cJ 120
abbrev je:Q1:=cJ 121
abbrev kX:Q1:=cJ 122
abbrev qk:Q1:=cJ 123
structure cH (K:KE)(mg:Str->Option O6)(w:Qq):Prop where
 x5:gE K "Curve" ["points"]=true
 x6:gE K "Ends" uD5=true
 x3:gE K "Grid" ["knots","table"]=true
 x7:gE K "GridProfile" ["curves","grid","bounds"]=true
 x8:gE K "SquareProfile" ["curves","square","bounds"]=true
 xt:∃ D,mg "LEADS"=M (.ref D)/\u_ K w mg D [("same","led_same"),("white","led_by_white"),("squeezed","led_squeezed"),("clipped","led_clipped")]
 xu:∃ D,mg "WAYS"=M (.ref D)/\u_ K w mg D [("four","parts_by_four"),("eight","parts_by_eight")]
 xv:∃ t,mg "FEWEST_KNOTS"=M (.int 2 t)
 xw:∃ t,mg "FEWEST_POINTS"=M (.int 2 t)
 xx:∃ t,mg "GREATEST_TO_SQUARE"=M (.int 1000 t)
 xy:∃ t,mg "GREATEST_curves"=M (.int 1000 t)
 xi:∃ t,mg "GREATEST_grids"=M (.int 1000 t)
 xj:∃ t,mg "GREATEST_squares"=M (.int 4000 t)
 xz:∃ t,mg "MOST_KNOTS"=M (.int 7 t)
 x10:∃ t,mg "MOST_POINTS"=M (.int 12 t)
 xf:∃ t,mg "REACH"=M (.int 60 t)
 x11:∃ t,mg "UNIT"=M (.int 1000 t)
 x12:ER K "Curve"=true
 xk:ER K "Ends"=true
 xl:ER K "Grid"=true
 x13:ER K "GridProfile"=true
 x14:ER K "SquareProfile"=true
 x3p:∃ a,mg "STEPS"=M (.ref a)/\Fh K a [[1,0,0],[0,1,0],[0,0,1]]
 xm:mg "abs"=none
 x9:mg "all"=none
 xn:mg "bool"=none
 xo:mg "dict"=none
 xp:mg "int"=none
 x2:mg "isinstance"=none
 x4:mg "len"=none
 xa:mg "list"=none
 xh:mg "max"=none
 xc:mg "min"=none
 x1:mg "range"=none
 xq:mg "set"=none
 xg:mg "sorted"=none
 xr:mg "str"=none
 xs:mg "sum"=none
 x0:mg "tuple"=none
 xb:mg "zip"=none
 x15:Kz K "GridProfile" "SquareProfile"=true
 x16:cN K mg "is_whole" oV j0 []
 x17:cN K mg "is_whole_within" fX uC9 []
 x18:cN K mg "is_tuple_within" fI uB7 []
 x19:cN K mg "greatest_measure" fe uA3 []
 x1a:cN K mg "is_share" pq j0 []
 x1b:cN K mg "refuse_no_share" fY j0 []
 xd:cN K mg "share" iM uB8 []
 xe:cN K mg "share" iM uB8 [.int 1]
 x1c:cN K mg "added" yz uA3 []
 x1d:cN K mg "multiplied" ky uA3 []
 x1e:cN K mg "floor_of" oW ["one"] []
 x1f:cN K mg "nearest_whole" im ["one"] []
 x1g:cN K mg "is_less" rk uA3 []
 x1h:cN K mg "sum_of" uG ["many"] []
 x1i:cN K mg "is_within" l_ uD4 []
 x1j:cN K mg "over_one_below" gG ["numbers"] []
 x1k:cN K mg "is_colour" mw j0 []
 x1l:cN K mg "is_row" um j0 []
 x1m:cN K mg "is_square" lI j0 []
 x1n:cN K mg "refuse_no_square" fj j0 []
 x1o:cN K mg "refuse_no_colour" fm j0 []
 x1p:cN K mg "whole_sum" mK uE8 []
 x1q:cN K mg "share_sum" l4 uE7 []
 x1r:cN K mg "led" FS uD9 []
 x1s:cN K mg "is_knots" pA j0 []
 x1t:cN K mg "is_knot" qE uB3 []
 x1u:cN K mg "is_worth" ou j0 []
 x1v:cN K mg "apart" yx uF0 []
 x1w:cN K mg "held" BM uD1 []
 x1x:cN K mg "is_table" oB uB3 []
 x1y:cN K mg "refuse_no_knots" fZ j0 []
 x1z:cN K mg "refuse_no_device_colour" c7 j0 []
 x20:cN K mg "places_below" i_ ["many"] []
 x21:cN K mg "moved" yI uE5 []
 x3q:IT K mg "parts_by_four" c8 uC8
 x22:cN K mg "parts_by_eight" gH uC8 []
 x23:cN K mg "is_way" uP j0 []
 x24:kB K mg "Grid" "__init__" "Grid.__init__" fK uD0 []
 x25:kB K mg "Grid" "knot" "Grid.knot" jR uC3 []
 x26:kB K mg "Grid" "size" "Grid.size" jK uC4 []
 x27:kB K mg "Grid" "mixed" "Grid.mixed" jc uE2 []
 x3r:j9 K mg "Grid" "worth" "Grid.worth" cR uC2 [] 2 0 [.str "four"]
 x3s:j9 K mg "Ends" "__init__" "Ends.__init__" cB uB9 uD5 1 2 []
 x28:cN K mg "spans" zN uC5 []
 x29:cN K mg "white_measure" h_ uA7 []
 x2a:cN K mg "squeezed_measure" fb uA7 []
 x2b:cN K mg "led_same" oJ tR []
 x2c:cN K mg "led_by_white" i8 tR []
 x2d:cN K mg "led_squeezed" i7 tR []
 x2e:cN K mg "led_clipped" jO tR []
 x2f:cN K mg "is_intent" lR j0 []
 x2g:cN K mg "refuse_no_intent" ff j0 []
 x2h:cN K mg "refuse_no_ends" gK j0 []
 x3t:qM K mg "led_worth" fA uB6 uA7 2 2 []
 x2i:cN K mg "is_point" oS j0 []
 x2j:cN K mg "is_onward" l9 uE3 []
 x2k:cN K mg "is_points" lY j0 []
 x2l:cN K mg "stretch_to" kC ["pairs","at"] []
 x2m:cN K mg "on_line" qR uE9 []
 x2n:kB K mg "Curve" "__init__" "Curve.__init__" e_ uE6 []
 x2o:kB K mg "Curve" "last" "Curve.last" jo uC4 []
 x2p:kB K mg "Curve" "value" "Curve.value" ix uC3 []
 x2q:kB K mg "Curve" "ends" "Curve.ends" jp uC4 []
 x2r:cN K mg "is_curve_to" jU uA5 []
 x2s:cN K mg "is_curves" mB uA5 []
 x2t:cN K mg "refuse_no_curves" eW uA5 []
 x2u:cN K mg "refuse_no_bounds" fg j0 []
 x2v:cN K mg "copied_curves" hJ ["curves"] []
 x2w:cN K mg "copied_ends" jS uC5 []
 x2x:cN K mg "values_at" mN uE0 []
 x3u:j9 K mg "SquareProfile" "__init__" "SquareProfile.__init__" bx uA9 uC5 3 1 []
 x2y:kB K mg "SquareProfile" "to_worth" "SquareProfile.to_worth" cZ uB4 []
 x3v:j9 K mg "GridProfile" "__init__" "GridProfile.__init__" bE uB1 uC5 3 1 []
 x2z:kB K mg "GridProfile" "to_worth" "GridProfile.to_worth" df uB4 []
 x30:cN K mg "refuse_no_profile" eO j0 []
 x3w:qM K mg "stepwise" gj uA6 ["there"] 3 1 []
 x3x:qM K mg "linked" fO uA2 ["there","knots"] 2 2 []
 x3y:qM K mg "linked" fO uA2 ["there"] 2 1 [.int 4]
 x31:cN K mg "_law_town" lJ uB5 []
 x32:cN K mg "_law_draw" mz uD2 []
 x33:cN K mg "_law_pick" ma uC0 []
 x34:cN K mg "_law_whole" kY uA8 []
 x35:cN K mg "_law_low" o9 oR []
 x36:cN K mg "_law_plus" lS oR []
 x37:cN K mg "_law_less" mf oR []
 x38:cN K mg "_law_times" kN oR []
 x39:cN K mg "_law_below" kQ oR []
 x3a:cN K mg "_law_share" kU uA0 []
 x3b:cN K mg "_law_three" kD uA0 []
 x3c:cN K mg "_law_is_share" ic uA8 []
 x3d:cN K mg "_law_is_three" ia uA8 []
 x3e:cN K mg "_law_points" jN uB0 []
 x3f:cN K mg "_law_square" jQ uA1 []
 x3g:cN K mg "_law_led" oZ uD6 []
 x3h:cN K mg "_law_over" mF uD8 []
 x3i:cN K mg "_law_grid" lH uD3 []
 x3j:cN K mg "_law_cell" mM uD7 []
 x3k:cN K mg "_law_four" lG uC1 []
 x3l:cN K mg "_law_ends" mn uA1 []
 x3m:cN K mg "_law_curves" jW uA4 []
 x3n:cN K mg "_law_profile" je uA1 []
 x3o:cN K mg "_law_worth" kX uC6 []
section
variable {P:PU}{w:Qq}{K:KE}{mg:Str->Option O6}{base:Q9}
theorem Bh:ao j0 j0 (ae oV):=cI
inductive AW (K:KE)(vs:List V)(H:Hp)(Q:VK)(_:XK):Prop
 |mk (x T) (_:vs=[x]) (_:Ty K H x T) (_:Q (.bl (zV x)) H)
theorem gW (T:cH K mg w):c9 P w K mg base cn 1 "is_whole" j0 [] (AW K):=by
  refine T.x16.cal Bh (bb:=λ_ _ _ _ _ H vs Q E hr h=>?_);obtain⟨x,S,rfl,ty,q⟩:=h;refine⟨_,(cr.go (af (aq (dA (av (km (K:=K) rfl) (by rfl) T.x2 aK (aA (ak 0) (bY (v:=.ty "int") rfl T.xp F7 rfl))) (eT (Ds (av (km (K:=K) rfl) (by rfl) T.x2 aK (aA (ak 0) (bY (v:=.ty "bool") rfl T.xn Dl rfl))))))))),?_⟩;obtain⟨b,e1,e2⟩:=FN ty;refine⟨_,rfl,_,_,_,b,rfl,ty,e1,b,rfl,?_⟩;cases b with
  |false=>
   refine bI ?_;rw[show zV x=false from e2] at q;exact q
  |true=>
   obtain⟨c,e3,e4⟩:=(show ∃ c,iD S "bool"=M c/\zV x=!c from e2)
   refine aX ⟨_,Y,_,_,_,c,Y,ty,e3,c,Y,?_⟩;rw[e4] at q;exact q
theorem ph:ao uC9 uC9 (ae fX):=cI
inductive oM (K:KE)(vs:List V)(H:Hp)(Q:VK)(_:XK):Prop
 |mk (x d l m) (_:vs=[x,.int l,.int m]) (_:ay K H d x) (_:Q (.bl (Gj l m d)) H)
theorem eV (T:cH K mg w):c9 P w K mg base cn 2 "is_whole_within" uC9 [] (oM K):=by
  refine T.x17.cal ph (bb:=λ_ _ _ _ _ H vs Q E hr h=>?_);obtain⟨x,d,l,m,rfl,hx,q⟩:=h;refine⟨_,(cr.go (af (aq (dA (ac ax (gW T) hr (aE (ak 0))) (eT (xB rR rR (ak 1) (ak 0) (ak 2))))))),?_⟩;refine⟨_,rfl,_,_,rfl,hx.ty,_,rfl,?_⟩;cases hx with
  |int i=>
   refine aX ⟨_,Y,_,Y,_,_,Y,Y,decide (l<=i),Y,?_⟩;refine f9 (λhc=>?_) (λhc=>?_)
   ·refine⟨_,Y,_,_,Y,Y,?_⟩;have q:Q (.bl (decide (l<=i)&&decide (i<=m))) H:=q;rw[hc,VX] at q;exact q
   ·have hc:decide (l<=i)=false:=by simpa using hc
    have q:Q (.bl (decide (l<=i)&&decide (i<=m))) H:=q;rw[hc,Tv] at q;exact q
  |non=>exact bI q
  |bl b=>exact bI q
  |str z=>exact bI q
  |lst h1 h2=>exact bI q
  |tup h1 h2=>exact bI q
  |dct h1=>exact bI q
theorem oh:ao uB7 uB7 (ae fI):=cI
inductive oU (K:KE)(vs:List V)(H:Hp)(Q:VK)(_:XK):Prop
 |mk (x:V) (ns:List Int) (n l m:Int) (_:vs=[x,.int n,.int l,.int m]) (_:ay K H (.tuple (ns.map Rt)) x) (_:n=ns.length) (_:ns.length<=1000) (_:∀ H',ah H H'->Q (.bl (ns.all λk=>decide (l<=k)&&decide (k<=m))) H')
theorem eY (T:cH K mg w):c9 P w K mg base cn 3 "is_tuple_within" uB7 [] (oU K):=by
  refine T.x18.cal oh (bb:=λ_ _ _ _ _ H vs Q E hr h=>?_);obtain⟨x,ns,n,l,m,rfl,hx,rfl,hl,q⟩:=h;refine⟨_,(cr.go (ab (bg (WW.pt (dO (aV (aR (av (km (K:=K) rfl) (by rfl) T.x2 aK (aA (ak 0) (bY (v:=.ty "tuple") rfl T.x0 bA rfl))))) (dI (be o_ (av (f_ (K:=K) rfl) (by rfl) T.x4 dH (aE (ak 0))) (ak 1) (aZ _))))) (af (aq iy)) aI)
   (af (aq (av (nY (K:=K) rfl rfl) (by rfl) T.x9 jM (aE (aF uD1 ["least","most"] [2,3] 1 (bo (K:=K) rfl (ak 0)) (λnd=>(ai 0 nd)) aD (ac ax (eV T) hr (aj (ak 0) (aj (ak 1) (aj (ak 2) aQ))))))))))),?_⟩
  refine⟨_,rfl,_,_,_,true,rfl,hx.ty,(show iD "tuple" "tuple"=M true by decide +kernel),_,rfl,bI ?_⟩;obtain⟨a,xs,rfl,ha,hds⟩:=aO (b:=false) hx;have hlen:=hds.length;rw[Pb] at hlen;refine⟨_,rfl,a,_,rfl,oO ha,_,rfl,_,_,rfl,rfl,false,by show V.bl (!decide ((xs.length:Int)=ns.length))=_;rw[Ph (by lia)];rfl,bI ?_⟩;refine⟨_,rfl,a,false,rfl,⟨_,ha⟩,mD (f:=λd=>.bool (Gj l m d)) ha hds (by rw[Pb];exact hl) (λi d x H2 hd s2 hx2 R kk S=>?_) (λys H2 s2 hys D hD=>?_)⟩
  ·exact aX (B:=S H2) ⟨_,rfl,_,rfl,_,rfl,x,d,l,m,rfl,hx2,kk _ _ ⟨ah.refl _,.bl _⟩⟩
  ·have hys:az K H2 (((ns.map Rt).map (Gj l m)).map TM) ys:=by rw[TU];exact hys
   have e:=f6 hys;subst e;refine⟨D,_,rfl,bK.of ag,?_⟩;have e:((ns.map Rt).map (Gj l m)).all id=ns.all λk=>decide (l<=k)&&decide (k<=m):=by
    rw[TU,List.all_map];rfl
   rw[e];exact q _ (s2.trans (ah.new hD))
theorem eQ:ao uA3 uA3 (ae fe):=cI
inductive nA (_:KE)(vs:List V)(H:Hp)(Q:VK)(_:XK):Prop
 |mk (a b) (_:vs=[.int a,.int b]) (_:Q (.int (Q2 a b)) H)
theorem iB (T:cH K mg w):c9 P w K mg base cn 1 "greatest_measure" uA3 [] (nA K):=by
  refine T.x19.cal eQ (bb:=λ_ _ _ _ _ H vs Q E hr h=>?_);obtain⟨a,b,rfl,q⟩:=h;refine⟨_,(cr.go (ab (mV (i:=0) (j:=1) rfl eQ.nd rfl rfl (by decide) rfl rfl (aA (av AU (by rfl) T.xm Gx (aE (ak 0))) (av AU (by rfl) T.xm Gx (aE (ak 1)))) rfl)
   (ab (rn Qp (be wL (ak 1) aa (aZ _)) (af (mV (i:=0) (j:=1) rfl eQ.nd rfl rfl (by decide) rfl rfl (aA (ak 1) (ar mx (ak 0) (ak 1))) rfl)))
   (af (aq (ak 0)))))),?_⟩
  refine⟨_,rfl,_,rfl,_,rfl,_,rfl,_,_,rfl,?_⟩;refine⟨λm σ H'=>∃ x y:Int,σ=[M (.int x),M (.int y)]/\H'=H/\0<=x/\0<=y/\Q2 x y=Q2 a b/\m=y.toNat,⟨_,_,_,rfl,rfl,?_,?_,?_,rfl⟩,?_⟩
  ·split<;>lia
  ·split<;>lia
  ·rw[Dp]
  ·rintro m σ H' ⟨x,y,rfl,rfl,hx,hy,hg,rfl⟩;refine⟨_,rfl,_,_,rfl,rfl,_,rfl,?_⟩;refine f9 (λhc=>?_) (λhc=>?_)
   ·have hc:=QH hc;refine⟨_,λ_ _ z=>z,?_⟩;refine⟨_,rfl,_,rfl,_,rfl,_,_,rfl,rfl,hc,_,_,rfl,?_⟩;have h1:=Sw x (show y≠0 by lia);have h2:=RF x hc;exact⟨(x%y).toNat,by lia,y,x%y,rfl,rfl,hy,h1,by rw[Ac hx hc];exact hg,rfl⟩
   ·have hc:¬ (0<y):=λz=>hc (Ph z)
    have hy0:y=0:=by lia
    subst hy0;refine⟨_,Y,?_⟩;have e:x=(Q2 a b:Int):=by
     rw[<- hg,Xl];lia
    rw[e];exact q
theorem lE:ao ["thing","top","below"] j0 (ae pq):=cI
inductive Bv (K:KE)(vs:List V)(H:Hp)(Q:VK)(_:XK):Prop
 |mk (x d) (_:vs=[x]) (_:ay K H d x) (_:Q (.bl (shB d)) H)
theorem lW (T:cH K mg w):c9 P w K mg base cn 2 "is_share" j0 [] (Bv K):=by
  refine T.x1a.cal lE (bb:=λ_ _ _ _ _ H vs Q E hr h=>?_);obtain⟨x,d,rfl,hd,q⟩:=h;refine⟨_,(cr.go (ab (bg (WW.pt (dO (aV (aR (av (km (K:=K) rfl) (by rfl) T.x2 aK (aA (ak 0) (bY (v:=.ty "tuple") rfl T.x0 bA rfl))))) (dI (be o_ (av (f_ (K:=K) rfl) (by rfl) T.x4 dH (aE (ak 0))) aa (aZ _))))) (af (aq iy)) aI)
   (ab (gR (ak 0) (dC (K:=K) (n:=2) rfl rfl (aB (ai 1 lE.nd) (aB (ai 2 lE.nd) bL))))
   (ab (bg (WW.pt (dO (aV (aR (ac ax (gW T) hr (aE (ak 1))))) (dO (aV (aR (ac ax (gW T) hr (aE (ak 2))))) (dI (be wX (ak 2) aa (aZ _)))))) (af (aq iy)) aI)
   (af (aq (bX eA (ac ax (iB T) hr (aA (ak 1) (ak 2))) aa (aZ _)))))))),?_⟩
  cases hd with
  |non=>exact⟨_,Y,_,_,_,false,Y,.non,by decide +kernel,_,Y,aX (aX q)⟩
  |bl b=>exact⟨_,Y,_,_,_,false,Y,.bl b,by decide +kernel,_,Y,aX (aX q)⟩
  |int i=>exact⟨_,Y,_,_,_,false,Y,.int i,by decide +kernel,_,Y,aX (aX q)⟩
  |str z=>exact⟨_,Y,_,_,_,false,Y,.str z,by decide +kernel,_,Y,aX (aX q)⟩
  |dct h1=>exact⟨_,Y,_,_,_,false,Y,.dK h1,(show iD "dict" "tuple"=M false by decide +kernel),_,Y,aX (aX q)⟩
  |lst h1 h2=>exact⟨_,Y,_,_,_,false,Y,(ay.lst h1 h2).ty,(show iD "list" "tuple"=M false by decide +kernel),_,Y,aX (aX q)⟩
  |@tup p xs ds h1 h2=>
   refine⟨_,Y,_,_,_,true,Y,.tup h1,by decide +kernel,_,Y,bI ?_⟩;refine⟨_,Y,p,xs,Y,.inr (dR.of h1),_,_,Y,Y,_,Y,?_⟩;have hl:=h2.length;refine f9 (λhc=>?_) (λhc=>?_)
   ·have hc:¬ ((xs.length:Int)=2):=S5 (by simpa using hc);have e:shB (.tuple ds)=false:=Iw (by lia);rw[e] at q;exact q
   ·have hc:(xs.length:Int)=2:=by simpa using hc
    cases h2 with
    |nil=>simp at hc
    |@cons d1 x1 _ _ g1 g2=>
     cases g2 with
     |nil=>simp at hc
     |@cons d2 x2 _ _ g3 g4=>
      cases g4 with
      |cons _ _=>simp at hc;lia
      |nil=>
       refine⟨_,Y,p,_,Y,dR.of h1,Y,_,_,Y,_,_,Y,Y,?_⟩;refine⟨_,Y,_,_,Y,g1.ty,_,Y,?_⟩;refine f9 (λhc=>?_) (λhc=>?_)
       ·refine aX ?_;have e:zV x1=false:=by simpa using hc
        rw[Ny g1 e] at q;exact q
       ·have e1:zV x1=true:=by simpa using hc
        refine⟨_,Y,_,_,Y,g3.ty,_,Y,?_⟩;refine f9 (λhc=>?_) (λhc=>?_)
        ·refine aX ?_;have e:zV x2=false:=by simpa using hc
         rw[MN g3 e] at q;exact q
        ·have e2:zV x2=true:=by simpa using hc
         obtain⟨n,rfl,rfl⟩:=Dh g1 e1;obtain⟨m,rfl,rfl⟩:=Dh g3 e2;refine⟨_,Y,_,_,Y,Y,_,Y,?_⟩;have e:shB (ot n m)=(decide (1<=m)&&decide (Q2 n m=1)):=Y;refine f9 (λhc=>?_) (λhc=>?_)
         ·have hc:m<1:=QH hc;rw[e,Qf (show ¬ (1<=m) by lia)] at q;exact q
         ·have hc:¬ (m<1):=S5 (by simpa using hc);refine⟨_,Y,_,Y,n,m,Y,_,_,Y,Y,?_⟩;rw[e,Ph (show 1<=m by lia),VX] at q;have e3:decide ((Q2 n m:Int)=1)=decide (Q2 n m=1):=by
           by_cases z:Q2 n m=1
           ·rw[Ph z,Ph (by lia)]
           ·rw[Qf z,Qf (by lia)]
          show Q (.bl (decide ((Q2 n m:Int)=1))) H;rw[e3];exact q
theorem oN:ao j0 j0 (ae fY):=cI
inductive oF (K:KE)(vs:List V)(H:Hp)(Q:VK)(_:XK):Prop
 |mk (x d) (_:vs=[x]) (_:ay K H d x) (_:shB d=true) (_:Q .non H)
theorem ck (T:cH K mg w):c9 P w K mg base cn 3 "refuse_no_share" j0 [] (oF K):=by
  refine T.x1b.cal oN (bb:=λ_ _ _ _ _ H vs Q E hr h=>?_);obtain⟨x,d,rfl,hd,hs,q⟩:=h;refine⟨_,(cr.go (af (bg (aV (aR (ac ax (lW T) hr (aE (ak 0))))) (af bD) aI))),?_⟩;refine⟨_,rfl,x,d,rfl,hd,_,rfl,?_⟩;rw[hs];exact bI q
theorem uS:ao ["top","below","measure"] uB8 (ae iM):=cI
inductive AE (K:KE)(vs:List V)(H:Hp)(Q:VK)(_:XK):Prop
 |mk (t b:Int) (_:vs=[.int t,.int b]) (_:b≠0) (_:Sm 8000 b) (_:Sh K H t b Q)
theorem cW (T:cH K mg w) {dvs:List V} (D:cN K mg "share" iM uB8 dvs):c9 P w K mg base cn 2 "share" uB8 dvs (AE K):=by
  refine D.cal uS (bb:=λ_ _ _ _ _ H vs Q E hr h=>?_);obtain⟨t,b,rfl,hb,sb,q⟩:=h;refine⟨_,(cr.go (ab (bg (WW.pt (dO (aV (aR (ac ax (gW T) hr (aE (ak 0))))) (dI (aV (aR (ac ax (gW T) hr (aE (ak 1)))))))) (af bD) aI)
   (ab (bg (be eA (ak 1) aa (aZ _)) (af bD) aI)
   (ab (aw 2 uS.nd (ac ax (iB T) hr (aA (ak 0) (ak 1))))
   (ab (bg (be wX (ak 1) aa (aZ _)) (af (aw 2 uS.nd (uK ud (ak 2)))) aI)
   (af (aq (aY (aA (ar cu (ak 0) (ak 2)) (ar cu (ak 1) (ak 2))))))))))),?_⟩
  refine⟨_,rfl,_,_,rfl,.int t,_,rfl,bI ?_⟩;refine⟨_,rfl,_,_,rfl,.int b,_,rfl,bI ?_⟩;refine⟨_,rfl,_,_,rfl,rfl,_,rfl,?_⟩;refine f9 (λhc=>absurd (QH hc) hb) (λ_=>?_);refine⟨_,rfl,_,rfl,t,b,rfl,?_⟩;refine⟨_,rfl,_,_,rfl,rfl,_,rfl,?_⟩;have gb:Sm 8000 (Q2 t b:Int):=sb.le (Fx hb);have gn:(Q2 t b:Int)≠0:=by
   have:=SY t hb;lia
  refine f9 (λhc=>?_) (λhc=>?_)
  ·have hc:=QH hc;refine⟨_,rfl,_,rfl,?_⟩;refine⟨_,rfl,_,rfl,_,_,rfl,rfl,⟨by lia,gb.neg⟩,_,rfl,_,rfl,_,_,rfl,rfl,⟨by lia,gb.neg⟩,kO,λp hp=>?_⟩;exact q _ _ _ _ (ah.new hp) (iA ag) (B2 hb rfl (by rw[Qh hc]))
  ·have hc:¬ (b<0):=λz=>hc (Ph z)
   refine⟨_,Y,_,Y,_,_,Y,Y,⟨gn,gb⟩,_,Y,_,Y,_,_,Y,Y,⟨gn,gb⟩,kO,λp hp=>?_⟩;exact q _ _ _ _ (ah.new hp) (iA ag) (B2 hb rfl (by rw[P3 hc]))
theorem Go:ao uA3 uA3 (ae yz):=cI
inductive Gi (K:KE)(vs:List V)(H:Hp)(Q:VK)(_:XK):Prop
 |mk (x y n d m e) (_:vs=[x,y]) (_:ay K H (ot n d) x) (_:ay K H (ot m e) y) (_:Ok 3900 n d) (_:Ok 3900 m e) (_:Sh K H (n*e+m*d) (d*e) Q)
theorem vD (T:cH K mg w):c9 P w K mg base cn 4 "added" uA3 [] (Gi K):=by
  refine T.x1c.cal Go (bb:=λ_ _ _ _ _ H vs Q E hr h=>?_);obtain⟨x,y,n,d,m,e,rfl,hx,hy,ox,oy,q⟩:=h;obtain⟨a,rfl,ha⟩:=bj hx;obtain⟨b,rfl,hb⟩:=bj hy;refine⟨_,(cr.go (ab (bt (ac ax (ck T) hr (aE (ak 0))))
   (ab (bt (ac ax (ck T) hr (aE (ak 1))))
   (af (aq (ac ax (cW T T.xd) hr (aA (ar cL (ar aM (am K (ak 0) aa) (am K (ak 1) aa)) (ar aM (am K (ak 1) aa) (am K (ak 0) aa))) (ar aM (am K (ak 0) aa) (am K (ak 1) aa))))))))),?_⟩
  refine⟨_,rfl,_,_,rfl,hx,ox.shB,?_⟩;refine⟨_,rfl,_,_,rfl,hy,oy.shB,?_⟩;have c:∀ {i j:Int},Sm 3900 i->Sm 3900 j->lV i j:=λh1 h2=>.inl ⟨h1.mono (by decide),h2.mono (by decide)⟩
  refine⟨_,Y,cx ha ⟨_,Y,bM hb ⟨_,_,Y,Y,c ox.sn oy.sd,?_⟩⟩⟩;refine⟨_,Y,cx hb ⟨_,Y,bM ha ⟨_,_,Y,Y,c oy.sn ox.sd,_,_,Y,Y,?_⟩⟩⟩;refine⟨_,Y,bM ha ⟨_,Y,bM hb ⟨_,_,Y,Y,c ox.sd oy.sd,?_⟩⟩⟩;exact⟨_,_,Y,Qi ox.ne oy.ne,(ox.sd.mul oy.sd).mono (by decide),q⟩
theorem wg:ao uA3 uA3 (ae ky):=cI
inductive ww (K:KE)(vs:List V)(H:Hp)(Q:VK)(_:XK):Prop
 |mk (x y n d m e) (_:vs=[x,y]) (_:ay K H (ot n d) x) (_:ay K H (ot m e) y) (_:Ok 3900 n d) (_:Ok 3900 m e) (_:Sh K H (n*m) (d*e) Q)
theorem jL (T:cH K mg w):c9 P w K mg base cn 4 "multiplied" uA3 [] (ww K):=by
  refine T.x1d.cal wg (bb:=λ_ _ _ _ _ H vs Q E hr h=>?_);obtain⟨x,y,n,d,m,e,rfl,hx,hy,ox,oy,q⟩:=h;obtain⟨a,rfl,ha⟩:=bj hx;obtain⟨b,rfl,hb⟩:=bj hy;refine⟨_,(cr.go (ab (bt (ac ax (ck T) hr (aE (ak 0))))
   (ab (bt (ac ax (ck T) hr (aE (ak 1))))
   (af (aq (ac ax (cW T T.xd) hr (aA (ar aM (am K (ak 0) aa) (am K (ak 1) aa)) (ar aM (am K (ak 0) aa) (am K (ak 1) aa))))))))),?_⟩
  refine⟨_,rfl,_,_,rfl,hx,ox.shB,?_⟩;refine⟨_,rfl,_,_,rfl,hy,oy.shB,?_⟩;have c:∀ {i j:Int},Sm 3900 i->Sm 3900 j->lV i j:=λh1 h2=>.inl ⟨h1.mono (by decide),h2.mono (by decide)⟩
  refine⟨_,Y,cx ha ⟨_,Y,cx hb ⟨_,_,Y,Y,c ox.sn oy.sn,?_⟩⟩⟩;refine⟨_,Y,bM ha ⟨_,Y,bM hb ⟨_,_,Y,Y,c ox.sd oy.sd,?_⟩⟩⟩;exact⟨_,_,Y,Qi ox.ne oy.ne,(ox.sd.mul oy.sd).mono (by decide),q⟩
theorem Bi:ao ["one"] ["one"] (ae oW):=cI
inductive zW (K:KE)(vs:List V)(H:Hp)(Q:VK)(_:XK):Prop
 |mk (x n d) (_:vs=[x]) (_:ay K H (ot n d) x) (_:Ok 3900 n d) (_:Q (.int (n.fdiv d)) H)
theorem Ag (T:cH K mg w):c9 P w K mg base cn 4 "floor_of" ["one"] [] (zW K):=by
  refine T.x1e.cal Bi (bb:=λ_ _ _ _ _ H vs Q E hr h=>?_);obtain⟨x,n,d,rfl,hx,ox,q⟩:=h;obtain⟨a,rfl,ha⟩:=bj hx;refine⟨_,(cr.go (ab (bt (ac ax (ck T) hr (aE (ak 0))))
   (af (aq (ar cu (am K (ak 0) aa) (am K (ak 0) aa)))))),?_⟩
  refine⟨_,rfl,_,_,rfl,hx,ox.shB,?_⟩;exact⟨_,rfl,cx ha ⟨_,rfl,bM ha ⟨_,_,rfl,rfl,⟨ox.ne,ox.sd.mono (by decide)⟩,q⟩⟩⟩
theorem qQ:ao ["one"] ["one"] (ae im):=cI
inductive qZ (K:KE)(vs:List V)(H:Hp)(Q:VK)(_:XK):Prop
 |mk (x n d) (_:vs=[x]) (_:ay K H (ot n d) x) (_:Ok 3900 n d) (_:Q (.int ((2*n+d).fdiv (2*d))) H)
theorem q9 (T:cH K mg w):c9 P w K mg base cn 4 "nearest_whole" ["one"] [] (qZ K):=by
  refine T.x1f.cal qQ (bb:=λ_ _ _ _ _ H vs Q E hr h=>?_);obtain⟨x,n,d,rfl,hx,ox,q⟩:=h;obtain⟨a,rfl,ha⟩:=bj hx;refine⟨_,(cr.go (ab (bt (ac ax (ck T) hr (aE (ak 0))))
   (af (aq (ar cu (ar cL (ar aM aa (am K (ak 0) aa)) (am K (ak 0) aa)) (ar aM aa (am K (ak 0) aa))))))),?_⟩
  refine⟨_,rfl,_,_,rfl,hx,ox.shB,?_⟩;have s2:Sm 64 2:=by unfold Sm;decide
  have c2:∀ {j:Int},lV 2 j:=.inr s2;have hd:=ox.pos;refine⟨_,rfl,cx ha ⟨_,_,rfl,rfl,c2,?_⟩⟩;refine⟨_,rfl,bM ha ⟨_,_,rfl,rfl,?_⟩⟩;refine⟨_,rfl,bM ha ⟨_,_,rfl,rfl,c2,?_⟩⟩;exact⟨_,_,rfl,rfl,⟨by lia,(s2.mul ox.sd).mono (by decide)⟩,q⟩
theorem CD:ao uA3 uA3 (ae rk):=cI
inductive Cy (K:KE)(vs:List V)(H:Hp)(Q:VK)(_:XK):Prop
 |mk (x y:V) (p q:Rat) (_:vs=[x,y]) (_:ay K H (rD p) x) (_:ay K H (rD q) y) (_:Bq 3900 p) (_:Bq 3900 q) (_:Q (.bl (decide (p<q))) H)
theorem oH (T:cH K mg w):c9 P w K mg base cn 1 "is_less" uA3 [] (Cy K):=by
  refine T.x1g.cal CD (bb:=λ_ _ _ _ _ H vs Q E hr h=>?_);obtain⟨x,y,p,r,rfl,hx,hy,ox,oy,q⟩:=h;obtain⟨a,rfl,ha⟩:=bj hx;obtain⟨b,rfl,hb⟩:=bj hy;refine⟨_,(cr.go (af (aq (bX wX (ar aM (am K (ak 0) aa) (am K (ak 1) aa)) (ar aM (am K (ak 1) aa) (am K (ak 0) aa)) (aZ _))))),?_⟩;have c:∀ {i j:Int},Sm 3900 i->Sm 3900 j->lV i j:=λh1 h2=>.inl ⟨h1.mono (by decide),h2.mono (by decide)⟩
  refine⟨_,Y,cx ha ⟨_,Y,bM hb ⟨_,_,Y,Y,c ox.sn oy.sd,?_⟩⟩⟩;refine⟨_,Y,cx hb ⟨_,Y,bM ha ⟨_,_,Y,Y,c oy.sn ox.sd,_,_,Y,Y,?_⟩⟩⟩;rw[show decide (p<r)=decide (p.num*(r.den:Int)<r.num*(p.den:Int)) from V7.mpr (Rat.lt_iff p r)] at q;exact q
theorem mX:ao ["many","total","one"] ["many"] (ae uG):=cI
inductive Eh (K:KE)(vs:List V)(H:Hp)(Q:VK)(_:XK):Prop
 |mk (x:V) (k:Bool) (b:Nat) (rs:List Rat) (_:vs=[x]) (_:ay K H (CG k (rs.map rD)) x) (_:(∀ r∈rs,Bq b r)) (_:b<=3900) (_:rs.length*(b+1)+1<=3900) (_:jY K H (D6 rs) Q)
theorem EE (T:cH K mg w):c9 P w K mg base cn 5 "sum_of" ["many"] [] (Eh K):=by
  refine T.x1h.cal mX (bb:=λ_ _ _ _ _ H vs Q E hr h=>?_);obtain⟨x,k,b,rs,rfl,hx,br,b1,b2,q⟩:=h;obtain⟨a,xs,rfl,ha,hxs⟩:=aO hx;have lx:=hxs.length;rw[Pb] at lx;refine⟨_,(cr.go (ab (aw 1 mX.nd (ac ax (cW T T.xe) hr (aE aa)))
   (ab (dW Qp rfl (bo (K:=K) rfl (ak 0)) (ai 2 mX.nd) (af (aw 1 mX.nd (ac ax (vD T) hr (aA (ak 1) (ak 2))))))
   (af (aq (ak 1)))))),?_⟩
  refine⟨0,1,rfl,by decide,by unfold Sm;decide,λv n d H1 s1 hv lw=>?_⟩;obtain⟨rfl,rfl⟩:=kL (by decide) lw (GX 1);have ha1:=bU.same s1 ha;refine⟨_,rfl,a,k,rfl,⟨_,ha1⟩,kK (λi σ H'=>∃ v o2,σ=[M (.ref a),M v,o2]/\ah H1 H'/\ay K H' (rD (D6 (rs.take i))) v)
   ⟨_,_,rfl,ah.refl _,hv⟩ (λi σ H2 hi ⟨_,_,_,s2,_⟩=>bU.same s2 ha1) ?_ ?_⟩
  ·rintro i w σ H2 ew ⟨v,o2,rfl,s2,hv2⟩;obtain⟨d,ed,hd⟩:=(az.same (s1.trans s2) hxs).get ew;obtain⟨r,er,rfl⟩:=yH ed;have hi:i<rs.length:=(Pk.mp er).1;refine⟨_,rfl,_,rfl,_,_,_,_,_,_,rfl,hv2,hd,((CM br i (by lia)).mono ?_),(br r (PL er)).mono b1,jY.add λv5 H5 s5 hv5=>?_⟩
   ·exact PP (Nat.add_le_add_right (W0 _ (QD hi)) 1) b2
   ·exact⟨v5,_,rfl,s2.trans s5,by rw[b8 er,wV];exact hv5⟩
  ·rintro σ H2 ⟨v,o2,rfl,s2,hv2⟩;rw[<- lx,SQ] at hv2;exact⟨_,rfl,q _ _ (s1.trans s2) hv2⟩
theorem yR:ao uD4 uD4 (ae l_):=cI
inductive zj (K:KE)(vs:List V)(H:Hp)(Q:VK)(_:XK):Prop
 |mk (x:V) (p:Rat) (l m:Int) (_:vs=[x,.int l,.int m]) (_:ay K H (rD p) x) (_:Bq 3900 p) (_:Sm 60 l) (_:Sm 60 m) (_:Q (.bl (decide (l*(p.den:Int)<=p.num)&&decide (p.num<=m*(p.den:Int)))) H)
theorem qw (T:cH K mg w):c9 P w K mg base cn 1 "is_within" uD4 [] (zj K):=by
  refine T.x1i.cal yR (bb:=λ_ _ _ _ _ H vs Q E hr h=>?_);obtain⟨x,p,l,m,rfl,hx,ox,sl,sm,q⟩:=h;obtain⟨a,rfl,ha⟩:=bj hx;refine⟨_,(cr.go (af (aq (xB rR rR (ar aM (ak 1) (am K (ak 0) aa)) (am K (ak 0) aa) (ar aM (ak 2) (am K (ak 0) aa)))))),?_⟩;refine⟨_,rfl,_,rfl,bM ha ⟨_,_,rfl,rfl,.inr (sl.mono (by decide)),_,rfl,cx ha ⟨_,_,rfl,rfl,_,rfl,?_⟩⟩⟩;cases hc:decide (l*(p.den:Int)<=p.num) with
  |true=>
   rw[hc,VX] at q;exact aX ⟨_,Y,_,Y,bM ha ⟨_,_,Y,Y,.inr (sm.mono (by decide)),_,_,Y,Y,q⟩⟩
  |false=>
   rw[hc,Tv] at q;exact bI q
theorem dY:ao ["numbers","below","number"] ["numbers"] (ae gG):=cI
inductive qd (K:KE)(vs:List V)(H:Hp)(Q:VK)(_:XK):Prop
 |mk (x:V) (k:Bool) (b:Nat) (rs:List Rat) (_:vs=[x]) (_:ay K H (CG k (rs.map rD)) x) (_:(∀ r∈rs,Bq b r)) (_:rs.length<=500) (_:b<=7900) (_:rs.length*b+b+1<=7900) (_:∀ (v:V) (H':Hp),ah H H'->ay K H' (.tuple [.list (rs.map λr=>.int (ov (eD rs) r)),.int (eD rs)]) v->Q v H')
theorem pU (T:cH K mg w):c9 P w K mg base cn 1 "over_one_below" ["numbers"] [] (qd K):=by
  refine T.x1j.cal dY (bb:=λ_ _ _ _ _ H vs Q E hr h=>?_);obtain⟨x,k,b,rs,rfl,hx,br,l5,b7,lb,q⟩:=h;obtain⟨a,xs,rfl,ha,hxs⟩:=aO hx;have lx:=hxs.length;rw[Pb] at lx;refine⟨_,(cr.go (ab (aw 1 dY.nd aa)
   (ab (dW Qp rfl (bo (K:=K) rfl (ak 0)) (ai 2 dY.nd) (af (yS (i:=1) dY.nd rfl (by first|exact X5 rfl|exact W3 rfl) (am K (ak 2) aa) HP)))
   (af (aq (aY (aA (aF ["top","part"] ["below"] [1] 2 (bo (K:=K) rfl (ak 0)) (λnd=>(dC (K:=K) (n:=2) rfl rfl (aB (ai 0 nd) (aB (ai 1 nd) bL)))) aD (ar aM (ak 0) (ar cu (ak 2) (ak 1)))) (ak 1)))))))),?_⟩
  refine⟨_,rfl,a,k,rfl,⟨_,ha⟩,kK (λi σ H'=>∃ o2,σ=[M (.ref a),M (.int (eD (rs.take i))),o2]/\H'=H)
   ⟨_,rfl,rfl⟩ (λi σ H2 hi ⟨_,_,e⟩=>e▸ha) ?_ ?_⟩
  ·rintro i w σ H2 ew ⟨o2,rfl,rfl⟩;obtain⟨d,ed,hd⟩:=hxs.get ew;obtain⟨r,er,rfl⟩:=yH ed;have hi:i<rs.length:=(Pk.mp er).1;have k1:=(mH br i (by lia)).2;have k2:=br r (PL er);have hm:i*b<=rs.length*b:=W0 _ (QD hi);obtain⟨wa,rfl,hw⟩:=bj hd;refine⟨_,rfl,_,rfl,bM hw ⟨_,_,rfl,rfl,.inl ⟨k1.mono (by lia),k2.sd.mono (by lia)⟩,M (.ref wa),?_,rfl⟩⟩;rw[b8 er,uO];rfl
  ·rintro σ H2 ⟨o2,rfl,rfl⟩;rw[<- lx,SQ];obtain⟨B0,BS⟩:=mH br rs.length (Pe _);rw[SQ] at B0 BS;refine⟨_,rfl,a,k,rfl,⟨_,ha⟩,bG (es:=rs.map λr=>.int (ov (eD rs) r)) ha hxs (by simp) (by simp;lia) (λi d e u H1 hd he s1 hu R kk S=>?_) (λzs H1 s1 hzs D hD=>?_)⟩
   ·obtain⟨r,er,rfl⟩:=yH hd;rw[Ps,er] at he;cases he;obtain⟨wa,rfl,hw⟩:=bj hu;have k2:=br r (PL er);have dp:=k2.pos;have ed:(eD rs).fdiv (r.den:Int)=eD rs/(r.den:Int):=Qo _ (by lia);refine⟨wa,_,rfl,dR.of hw,rfl,_,_,rfl,_,_,rfl,rfl,aX (B:=S H1) ?_⟩;refine⟨_,rfl,_,rfl,_,rfl,_,_,rfl,rfl,⟨by lia,k2.sd.mono (by lia)⟩,_,_,rfl,rfl,.inl ⟨k2.sn.mono (by lia),?_⟩,kk _ _ ⟨ah.refl _,?_⟩⟩
    ·rw[ed];have e1:eD rs/(r.den:Int)<=eD rs:=Int.ediv_le_self _ (by lia);have e2:0<=eD rs/(r.den:Int):=Wj (by lia) (by lia);exact(show Sm _ _ from by unfold Sm at BS ⊢;lia:Sm (rs.length*b+1) (eD rs/(r.den:Int))).mono (by lia)
    ·rw[ed];exact .int _
   ·refine⟨_,rfl,kO,λT hT=>?_⟩;have sD:ah H1 (upd H1 D (.lst zs)):=ah.new hD;exact q _ _ ((s1.trans sD).trans (ah.new hT)) (ay.tupN hT (.cons (ay.listN hD hzs) (.cons (.int _) .nil)))
theorem yV:ao j0 j0 (ae mw):=cI
inductive yX (K:KE)(vs:List V)(H:Hp)(Q:VK)(_:XK):Prop
 |mk (x:V) (p r t:Rat) (_:vs=[x]) (_:ay K H (MF p r t) x) (_:∀ H',ah H H'->Q (.bl true) H')
theorem qg (T:cH K mg w):c9 P w K mg base cn 3 "is_colour" j0 [] (yX K):=by
  refine T.x1k.cal yV (bb:=λ_ _ _ _ _ H vs Q E hr h=>?_);obtain⟨x,p,r,t,rfl,hx,q⟩:=h;refine⟨_,(cr.go (af (aq (dA (av (km (K:=K) rfl) (by rfl) T.x2 aK (aA (ak 0) (bY (v:=.ty "tuple") rfl T.x0 bA rfl))) (dA (bX eA (av (f_ (K:=K) rfl) (by rfl) T.x4 dH (aE (ak 0))) aa (aZ _)) (eT (av (nY (K:=K) rfl rfl) (by rfl) T.x9 jM (aE (aF uD1 [] [] 1 (bo (K:=K) rfl (ak 0)) (λnd=>(ai 0 nd)) aD (ac ax (lW T) hr (aE (ak 0)))))))))))),?_⟩;refine⟨_,rfl,_,_,_,true,rfl,hx.ty,(show iD "tuple" "tuple"=M true by decide +kernel),_,rfl,aX ?_⟩;obtain⟨a,xs,rfl,ha,hds⟩:=aO (b:=false) hx;have hl:=hds.length;refine⟨_,rfl,a,_,rfl,oO ha,_,_,rfl,rfl,true,qi (by rw[<- hl];rfl),aX ?_⟩;have sh:∀ z:Rat,shB (rD z)=true:=λz=>(show Ok (z.num.natAbs+z.den) z.num z.den from⟨by have:=z.den_pos;lia,z.reduced,by unfold Sm;exact Pg (TL) (Sr (by decide) (SR _ _)),by unfold Sm;exact Pg (TL) (Sr (by decide) (Nat.le_add_left _ _))⟩).shB
  refine⟨_,Y,a,false,Y,⟨_,ha⟩,mD (f:=λd=>.bool (shB d)) ha hds (by show 3<=1000;decide) (λi d x H2 hd s2 hx2 R kk S=>?_) (λys H2 s2 hys D hD=>?_)⟩
  ·exact aX (B:=S H2) ⟨_,Y,x,d,Y,hx2,kk _ _ ⟨ah.refl _,.bl _⟩⟩
  ·have hys:az K H2 (([rD p,rD r,rD t].map shB).map TM) ys:=by rw[TU];exact hys
   have e:=f6 hys;subst e;refine⟨D,_,Y,bK.of ag,?_⟩;have e:([rD p,rD r,rD t].map shB).all id=true:=by
    show(shB (rD p)&&(shB (rD r)&&(shB (rD t)&&true)))=true;rw[sh p,sh r,sh t];rfl
   rw[e];exact q _ (s2.trans (ah.new hD))
theorem Ee:ao j0 j0 (ae um):=cI
inductive DJ (K:KE)(vs:List V)(H:Hp)(Q:VK)(_:XK):Prop
 |mk (x k r) (_:vs=[x]) (_:ay K H (c6 k r) x) (_:R3.In r 4000) (_:∀ H',ah H H'->Q (.bl true) H')
theorem DG (T:cH K mg w):c9 P w K mg base cn 3 "is_row" j0 [] (DJ K):=by
  refine T.x1l.cal Ee (bb:=λ_ _ _ _ _ H vs Q E hr h=>?_);obtain⟨x,k,r,rfl,hx,hin,q⟩:=h;refine⟨_,(cr.go (ab (bg (WW.pt (dO (aV (aR (av (B7 (K:=K) rfl) (by rfl) T.x2 aK (aA (ak 0) (aY (aA (bY (v:=.ty "list") rfl T.xa gS rfl) (bY (v:=.ty "tuple") rfl T.x0 bA rfl))))))) (dI (be o_ (av (f_ (K:=K) rfl) (by rfl) T.x4 dH (aE (ak 0))) aa (aZ _))))) (af (aq iy)) aI)
   (af (aq (av (nY (K:=K) rfl rfl) (by rfl) T.x9 jM (aE (aF uD1 [] [] 1 (bo (K:=K) rfl (ak 0)) (λnd=>(ai 0 nd)) aD (ac ax (eV T) hr (aj (ak 0) (aj (uK ud (c5 rfl T.xj)) (aj (c5 rfl T.xj) aQ))))))))))),?_⟩
  refine⟨_,rfl,kO,λp hp=>?_⟩;have s1:ah H (upd H p (.tup [.ty "list",.ty "tuple"])):=ah.new hp;generalize hH1:upd H p (.tup [.ty "list",.ty "tuple"])=H1 at s1 ⊢;have hp1:H1 p=M (.tup [.ty "list",.ty "tuple"]):=by rw[<- hH1];exact ag
  have hx1:=ay.same s1 hx;obtain⟨T',ty,ek⟩:=Gq hx1;refine⟨_,_,p,_,_,true,rfl,ty,hp1,ek,_,rfl,bI ?_⟩;obtain⟨a,rfl,ha⟩:=ku hx1;refine⟨_,rfl,a,_,rfl,oO ha,_,_,rfl,rfl,_,rfl,bI ?_⟩;obtain⟨a',xs,e',hs',hds⟩:=aO hx1;cases e';refine⟨_,rfl,a,k,rfl,⟨_,hs'⟩,mD (f:=λd=>.bool (Gj (-4000) 4000 d)) hs' hds (by show 3<=1000;decide) (λi d x H2 hd s2 hx2 R kk S=>?_) (λys H2 s2 hys D hD=>?_)⟩
  ·exact aX (B:=S H2) ⟨_,rfl,_,rfl,x,d,-4000,4000,rfl,hx2,kk _ _ ⟨ah.refl _,.bl _⟩⟩
  ·have hys:az K H2 ((r.ds.map (Gj (-4000) 4000)).map TM) ys:=by rw[TU];exact hys
   have e:=f6 hys;subst e;refine⟨D,_,rfl,bK.of ag,?_⟩;have e:(r.ds.map (Gj (-4000) 4000)).all id=true:=by
    obtain⟨a1,a2,b1,b2,c1,c2⟩:=hin;show((decide (-4000<=r.a)&&decide (r.a<=4000))&&((decide (-4000<=r.b)&&decide (r.b<=4000))&&((decide (-4000<=r.c)&&decide (r.c<=4000))&&true)))=true;rw[Ph a1,Ph a2,Ph b1,Ph b2,Ph c1,Ph c2];rfl
   rw[e];exact q _ ((s1.trans s2).trans (ah.new hD))
theorem y9:ao j0 j0 (ae lI):=cI
inductive yb (K:KE)(vs:List V)(H:Hp)(Q:VK)(_:XK):Prop
 |mk (x:V) (s:S9) (_:vs=[x]) (_:ay K H s.d x) (_:s.In) (_:∀ H',ah H H'->Q (.bl true) H')
theorem yg (T:cH K mg w):c9 P w K mg base cn 4 "is_square" j0 [] (yb K):=by
  refine T.x1m.cal y9 (bb:=λ_ _ _ _ _ H vs Q E hr h=>?_);obtain⟨x,sq,rfl,hx,hin,q⟩:=h;refine⟨_,(cr.go (af (aq (dA (av (B7 (K:=K) rfl) (by rfl) T.x2 aK (aA (ak 0) (aY (aA (bY (v:=.ty "list") rfl T.xa gS rfl) (bY (v:=.ty "tuple") rfl T.x0 bA rfl))))) (dA (bX eA (av (f_ (K:=K) rfl) (by rfl) T.x4 dH (aE (ak 0))) aa (aZ _)) (eT (av (nY (K:=K) rfl rfl) (by rfl) T.x9 jM (aE (aF ["row"] [] [] 1 (bo (K:=K) rfl (ak 0)) (λnd=>(ai 0 nd)) aD (ac ax (DG T) hr (aE (ak 0)))))))))))),?_⟩;refine⟨_,rfl,kO,λp hp=>?_⟩;have s1:ah H (upd H p (.tup [.ty "list",.ty "tuple"])):=ah.new hp;generalize hH1:upd H p (.tup [.ty "list",.ty "tuple"])=H1 at s1 ⊢;have hp1:H1 p=M (.tup [.ty "list",.ty "tuple"]):=by rw[<- hH1];exact ag
  have hx1:=ay.same s1 hx;obtain⟨T',ty,ek⟩:=Gq hx1;refine⟨_,_,p,_,_,true,rfl,ty,hp1,ek,_,rfl,aX ?_⟩;obtain⟨a,xs,rfl,ha,hds⟩:=aO hx1;have hl:=hds.length;refine⟨_,rfl,a,_,rfl,oO ha,_,_,rfl,rfl,true,qi (by rw[<- hl];rfl),aX ?_⟩;refine⟨_,rfl,a,sq.k,rfl,⟨_,ha⟩,mD (f:=λ_=>.bool true) ha hds (by show 3<=1000;decide) (λi d x H2 hd s2 hx2 R kk S=>?_) (λys H2 s2 hys D hD=>?_)⟩
  ·refine aX (B:=S H2) ⟨_,rfl,?_⟩
   match i,hd with
   |0,hd=>cases(O4 hd);exact⟨x,_,_,Y,hx2,hin.x,λH' s'=>kk _ _ ⟨s',.bl _⟩⟩
   |1,hd=>cases(O4 hd);exact⟨x,_,_,Y,hx2,hin.y,λH' s'=>kk _ _ ⟨s',.bl _⟩⟩
   |2,hd=>cases(O4 hd);exact⟨x,_,_,Y,hx2,hin.z,λH' s'=>kk _ _ ⟨s',.bl _⟩⟩
   |n+3,hd=>simp[S9.rows] at hd
  ·have e:=f6 (bs:=[true,true,true]) hys;subst e;exact⟨D,[true,true,true],Y,bK.of ag,q _ ((s1.trans s2).trans (ah.new hD))⟩
theorem m7:ao j0 j0 (ae fj):=cI
inductive nj (K:KE)(vs:List V)(H:Hp)(Q:VK)(_:XK):Prop
 |mk (x:V) (s:S9) (_:vs=[x]) (_:ay K H s.d x) (_:s.In) (_:∀ H',ah H H'->Q .non H')
theorem iH (T:cH K mg w):c9 P w K mg base cn 5 "refuse_no_square" j0 [] (nj K):=by
  refine T.x1n.cal m7 (bb:=λ_ _ _ _ _ H vs Q E hr h=>?_);obtain⟨x,sq,rfl,hx,hin,q⟩:=h;refine⟨_,(cr.go (af (bg (aV (aR (ac ax (yg T) hr (aE (ak 0))))) (af bD) aI))),?_⟩;exact⟨_,rfl,x,sq,rfl,hx,hin,λH' s'=>⟨_,rfl,bI (q _ s')⟩⟩
theorem nG:ao j0 j0 (ae fm):=cI
inductive nH (K:KE)(vs:List V)(H:Hp)(Q:VK)(_:XK):Prop
 |mk (x:V) (p r t:Rat) (_:vs=[x]) (_:ay K H (MF p r t) x) (_:∀ H',ah H H'->Q .non H')
theorem iG (T:cH K mg w):c9 P w K mg base cn 4 "refuse_no_colour" j0 [] (nH K):=by
  refine T.x1o.cal nG (bb:=λ_ _ _ _ _ H vs Q E hr h=>?_);obtain⟨x,p,r,t,rfl,hx,q⟩:=h;refine⟨_,(cr.go (af (bg (aV (aR (ac ax (qg T) hr (aE (ak 0))))) (af bD) aI))),?_⟩;exact⟨_,rfl,x,p,r,t,rfl,hx,λH' s'=>⟨_,rfl,bI (q _ s')⟩⟩
theorem xP:ao uE8 uE8 (ae mK):=cI
inductive u5 (K:KE)(vs:List V)(H:Hp)(Q:VK)(_:XK):Prop
 |mk (a b:Po) (k j:Bool) (ns ms:List Int) (_:vs=[.ref a,.ref b]) (_:bU K H a (ns.map V.int) k) (_:bU K H b (ms.map V.int) j) (_:ns.length=ms.length) (_:ns.length<=1000) (_:(∀ n∈ns,Sm 8000 n)) (_:(∀ m∈ms,Sm 8000 m)) (_:∀ H',ah H H'->Q (.int (TV (·*·) ns ms).sum) H')
theorem u8 (T:cH K mg w):c9 P w K mg base cn 1 "whole_sum" uE8 [] (u5 K):=by
  refine T.x1p.cal xP (bb:=λ_ _ _ _ _ H vs Q E hr h=>?_);obtain⟨a,b,k,j,ns,ms,rfl,ha,hb,hl,h10,sn,sm,q⟩:=h;refine⟨_,(cr.go (af (aq (av (Hx (K:=K) rfl rfl) (by rfl) T.xs Hn (aE (aF ["part","number"] [] [] 2 (mC (K:=K) rfl rfl T.xb (aA (ak 0) (ak 1))) (λnd=>(dC (K:=K) (n:=2) rfl rfl (aB (ai 0 nd) (aB (ai 1 nd) bL)))) aD (ar aM (ak 0) (ak 1)))))))),?_⟩;refine⟨_,rfl,_,rfl,a,b,k,j,rfl,⟨_,ha⟩,⟨_,hb⟩,kc (fs:=(TV (·*·) ns ms).map Rt) ha hb (kh ns) (kh ms) (by simp[hl]) (by simp[hl]) (by simp;lia) (λi d e g x y T H1 hd he hg s1 hx hy hT R kk S=>?_) (λzs H1 s1 hzs D hD=>?_)⟩
  ·rw[Ps] at hd he hg;obtain⟨n,en,rfl⟩:=PC.mp hd;obtain⟨m,em,rfl⟩:=PC.mp he;obtain⟨z,ez,rfl⟩:=PC.mp hg;rw[Uy] at ez;obtain⟨n',m',en',em',rfl⟩:=ez;rw[en] at en';rw[em] at em';cases en';cases em';cases hx;cases hy;exact⟨T,_,rfl,dR.of hT,rfl,_,_,rfl,_,_,rfl,rfl,aX (B:=S H1) ⟨_,rfl,_,rfl,_,_,rfl,rfl,.inl ⟨sn _ (PL en),sm _ (PL em)⟩,kk _ _ ⟨ah.refl _,.int _⟩⟩⟩
  ·have e:=dB hzs;subst e;exact⟨D,_,rfl,bK.of ag,q _ (s1.trans (ah.new hD))⟩
theorem yW:ao uE7 uE7 (ae l4):=cI
inductive qe (K:KE)(vs:List V)(H:Hp)(Q:VK)(_:XK):Prop
 |mk (x y:V) (k:Bool) (p c:Q3) (_:vs=[x,y]) (_:ay K H (CG k p.ds) x) (_:ay K H c.col y) (_:p.Bd 600) (_:c.Bd 600) (_:jY K H (vq p c) Q)
theorem yM (T:cH K mg w):c9 P w K mg base cn 6 "share_sum" uE7 [] (qe K):=by
  refine T.x1q.cal yW (bb:=λ_ _ _ _ _ H vs Q E hr h=>?_);obtain⟨x,y,k,p,c,rfl,hx,hy,bp,bc,q⟩:=h;obtain⟨a,xs,rfl,ha,hxs⟩:=aO hx;obtain⟨b,ys,rfl,hb,hys⟩:=aO (b:=false) hy;refine⟨_,(cr.go (af (aq (ac ax (EE T) hr (aE (aF ["part","number"] [] [] 2 (mC (K:=K) rfl rfl T.xb (aA (ak 0) (ak 1))) (λnd=>(dC (K:=K) (n:=2) rfl rfl (aB (ai 0 nd) (aB (ai 1 nd) bL)))) aD (ac ax (jL T) hr (aA (ak 0) (ak 1))))))))),?_⟩;refine⟨_,rfl,_,rfl,a,b,k,false,rfl,⟨_,ha⟩,⟨_,hb⟩,kc (fs:=(Q3.mk (p.a*c.a) (p.b*c.b) (p.c*c.c)).ds) ha hb hxs hys rfl rfl (by show 3<=1000;decide) (λi d e f u v T H1 hd he hf s1 hu hv hT R kk S=>?_) (λzs H1 s1 hzs D hD=>?_)⟩
  ·refine⟨T,_,rfl,dR.of hT,rfl,_,_,rfl,_,_,rfl,rfl,aX (B:=S H1) ?_⟩;obtain⟨P,C,rfl,rfl,rfl,bP,bC⟩:∃ P C:Rat,d=rD P/\e=rD C/\f=rD (P*C)/\Bq 600 P/\Bq 600 C:=by
    rcases lA hd with ⟨rfl,rfl⟩|⟨rfl,rfl⟩|⟨rfl,rfl⟩
    ·cases(O4 he);cases(O4 hf);exact⟨_,_,rfl,rfl,rfl,bp.a,bc.a⟩
    ·cases(O4 he);cases(O4 hf);exact⟨_,_,rfl,rfl,rfl,bp.b,bc.b⟩
    ·cases(O4 he);cases(O4 hf);exact⟨_,_,rfl,rfl,rfl,bp.c,bc.c⟩
   exact⟨_,rfl,_,rfl,_,_,_,_,_,_,rfl,hu,hv,bP.mono (by decide),bC.mono (by decide),jY.mul λv4 H4 s4 hv4=>kk _ _ ⟨s4,hv4⟩⟩
  ·refine⟨.ref D,true,1200,[p.a*c.a,p.b*c.b,p.c*c.c],rfl,ay.listN hD hzs,λr hr=>?_,by decide,by show 3*(1200+1)+1<=3900;decide,λv5 H5 s5 hv5=>q v5 H5 ((s1.trans (ah.new hD)).trans s5) hv5⟩;rcases Pq.mp hr with rfl|hr
   ·exact bp.a.mul bc.a
   ·rcases Pq.mp hr with rfl|hr
    ·exact bp.b.mul bc.b
    ·cases O9.mp hr;exact bp.c.mul bc.c
theorem KW:ao uD9 uD9 (ae FS):=cI
inductive KA (K:KE)(vs:List V)(H:Hp)(Q:VK)(_:XK):Prop
 |mk (x y:V) (s:S9) (c:Q3) (_:vs=[x,y]) (_:ay K H s.d x) (_:s.In) (_:ay K H c.col y) (_:c.Bd 600) (_:∀ v H',ah H H'->ay K H' (s.m.led c).col v->Q v H')
theorem Kq (T:cH K mg w):c9 P w K mg base cn 7 "led" uD9 [] (KA K):=by
  refine T.x1r.cal KW (bb:=λ_ _ _ _ _ H vs Q E hr h=>?_);obtain⟨x,y,sq,c,rfl,hx,hin,hy,bc,q⟩:=h;refine⟨_,(cr.go (ab (bt (ac ax (iH T) hr (aE (ak 0))))
   (ab (bt (ac ax (iG T) hr (aE (ak 1))))
   (af (aq (aW (cK (K:=K) rfl) (by rfl) T.x0 bA (aE (aF ["row"] ["colour"] [1] 1 (bo (K:=K) rfl (ak 0)) (λnd=>(ai 0 nd)) aD (ac ax (yM T) hr (aA (aF ["part"] [] [] 1 (bo (K:=K) rfl (ak 0)) (λnd=>(ai 0 nd)) aD (ac ax (cW T T.xd) hr (aA (ak 0) (c5 rfl T.x11)))) (ak 1))))))))))),?_⟩
  refine⟨_,rfl,x,sq,rfl,hx,hin,λH1 s1=>?_⟩;refine⟨_,rfl,y,c.a,c.b,c.c,rfl,ay.same s1 hy,λH2 s2=>?_⟩;have s12:=s1.trans s2;have hx2:=ay.same s12 hx;have hy2:=ay.same s12 hy;obtain⟨a,xs,rfl,ha,hds⟩:=aO hx2;have u13:Sm 13 (1000:Int):=by unfold Sm;decide
  have row:∀ (k:Bool) (r:R3),r.In 4000->∀ (v:V) (H3:Hp) (Q4:VK),ay K H3 (c6 k r) v->ay K H3 c.col y->jY K H3 (vq r.q c) Q4 ->
    xH (qe K) [] E0 (lv (Db (IM K (re 0)) (uC 0) KN (xH (AE K) [] E0 (lv (re 0) (lv (tC (.int 1000)) xM))) (A8 1 [])) (lv (re 1) xM)) [M v,M y] H3 Q4:=λk r ir v H3 Q4 hv hc hq=>by
   obtain⟨b,ys,rfl,hb,hys⟩:=aO hv;refine⟨_,Y,b,k,Y,⟨_,hb⟩,bG (es:=r.q.ds) hb hys rfl (by show 3<=1000;decide) (λi d e u H4 hd he s4 hu R kk S=>?_) (λzs H4 s4 hzs D hD=>?_)⟩
   ·refine aX (B:=S H4) ?_;rcases lA hd with ⟨rfl,rfl⟩|⟨rfl,rfl⟩|⟨rfl,rfl⟩<;>(cases hu;cases(O4 he);exact⟨_,rfl,_,_,rfl,by decide,u13.mono (by decide),jY.sh (by decide) λv5 H5 s5 hv5=>kk _ _ ⟨s5,hv5⟩⟩)
   ·exact⟨_,rfl,.ref D,y,true,r.q,c,rfl,ay.listN hD hzs,ay.same (s4.trans (ah.new hD)) hc,(C9 ir).mono (by decide),bc,λv5 H5 s5 hv5=>hq v5 H5 ((s4.trans (ah.new hD)).trans s5) hv5⟩
  refine⟨_,rfl,a,sq.k,rfl,⟨_,ha⟩,bG (es:=(sq.m.led c).ds) ha hds rfl (by show 3<=1000;decide) (λi d e u H3 hd he s3 hu R kk S=>?_) (λys H3 s3 hys D hD=>?_)⟩
  ·refine aX (B:=S H3) ?_;have hy3:=ay.same s3 hy2;rcases lA hd with ⟨rfl,rfl⟩|⟨rfl,rfl⟩|⟨rfl,rfl⟩
   ·cases(O4 he);exact row _ _ hin.x _ _ _ hu hy3 λv5 H5 s5 hv5=>kk _ _ ⟨s5,hv5⟩
   ·cases(O4 he);exact row _ _ hin.y _ _ _ hu hy3 λv5 H5 s5 hv5=>kk _ _ ⟨s5,hv5⟩
   ·cases(O4 he);exact row _ _ hin.z _ _ _ hu hy3 λv5 H5 s5 hv5=>kk _ _ ⟨s5,hv5⟩
  ·refine⟨D,ys,Y,.inl ⟨bK.of ag,λl hl=>?_⟩⟩;exact q _ _ ((s12.trans s3).trans ((ah.new hD).trans (ah.new hl))) (ay.tupN (ds:=(sq.m.led c).ds) hl (az.same (ah.new hD) hys))
theorem An:ao j0 j0 (ae pA):=cI
inductive Au (K:KE)(vs:List V)(H:Hp)(Q:VK)(_:XK):Prop
 |mk (x:V) (d:P5) (_:vs=[x]) (_:ay K H d x) (_:Q (.bl (Gj 2 7 d)) H)
theorem rV (T:cH K mg w):c9 P w K mg base cn 3 "is_knots" j0 [] (Au K):=by
  refine T.x1s.cal An (bb:=λ_ _ _ _ _ H vs Q E hr h=>?_);obtain⟨x,d,rfl,hx,q⟩:=h;refine⟨_,(cr.go (af (aq (ac ax (eV T) hr (aj (ak 0) (aj (c5 rfl T.xv) (aj (c5 rfl T.xz) aQ))))))),?_⟩;exact⟨_,rfl,x,d,2,7,rfl,hx,q⟩
theorem Cj:ao uB3 uB3 (ae qE):=cI
inductive CH (K:KE)(vs:List V)(H:Hp)(Q:VK)(_:XK):Prop
 |mk (x:V) (ns:List Int) (n:Int) (_:vs=[x,.int n]) (_:ay K H (.tuple (ns.map Rt)) x) (_:ns.length=3) (_:∀ H',ah H H'->Q (.bl (ns.all λk=>decide (0<=k)&&decide (k<=n-1))) H')
theorem uo (T:cH K mg w):c9 P w K mg base cn 4 "is_knot" uB3 [] (CH K):=by
  refine T.x1t.cal Cj (bb:=λ_ _ _ _ _ H vs Q E hr h=>?_);obtain⟨x,ns,n,rfl,hx,hl,q⟩:=h;refine⟨_,(cr.go (af (aq (ac ax (eY T) hr (aj (ak 0) (aj aa (aj aa (aj (ar cC (ak 1) aa) aQ)))))))),?_⟩;exact⟨_,rfl,_,rfl,_,_,rfl,rfl,x,ns,3,0,n-1,rfl,hx,by lia,by lia,q⟩
theorem Ax:ao j0 j0 (ae ou):=cI
inductive Ap (K:KE)(vs:List V)(H:Hp)(Q:VK)(_:XK):Prop
 |mk (x:V) (ns:List Int) (_:vs=[x]) (_:ay K H (.tuple (ns.map Rt)) x) (_:ns.length=3) (_:∀ H',ah H H'->Q (.bl (ns.all λk=>decide (0<=k)&&decide (k<=1000))) H')
theorem lP (T:cH K mg w):c9 P w K mg base cn 4 "is_worth" j0 [] (Ap K):=by
  refine T.x1u.cal Ax (bb:=λ_ _ _ _ _ H vs Q E hr h=>?_);obtain⟨x,ns,rfl,hx,hl,q⟩:=h;refine⟨_,(cr.go (af (aq (ac ax (eY T) hr (aj (ak 0) (aj aa (aj aa (aj (c5 rfl T.xi) aQ)))))))),?_⟩;exact⟨_,rfl,x,ns,3,0,1000,rfl,hx,by lia,by lia,q⟩
theorem FJ:ao uF0 uF0 (ae yx):=cI
inductive FW (K:KE)(vs:List V)(H:Hp)(Q:VK)(_:XK):Prop
 |mk (n:Nat) (_:vs=[.int n]) (_:2<=n) (_:n<=7) (_:Q (.int (lQ n)) H)
theorem AB (T:cH K mg w):c9 P w K mg base cn 1 "apart" uF0 [] (FW K):=by
  refine T.x1v.cal FJ (bb:=λ_ _ _ _ _ H vs Q E hr h=>?_);obtain⟨n,rfl,h2,h7,q⟩:=h;refine⟨_,(cr.go (af (aq (ar cu (c5 rfl T.xf) (ar cC (ak 0) aa))))),?_⟩;refine⟨_,rfl,_,_,rfl,rfl,_,_,rfl,rfl,⟨by lia,Sm.mono (k:=20) (by unfold Sm;lia) (by decide)⟩,?_⟩;dsimp only;rw[Qo _ (by lia)];exact q
theorem JO:ao uD1 uD1 (ae BM):=cI
inductive Ix (_:KE)(vs:List V)(H:Hp)(Q:VK)(_:XK):Prop
 |mk (i:Int) (_:vs=[.int i]) (_:Q (.int (BI i)) H)
theorem IY (T:cH K mg w):c9 P w K mg base cn 1 "held" uD1 [] (Ix K):=by
  refine T.x1w.cal JO (bb:=λ_ _ _ _ _ H vs Q E hr h=>?_);obtain⟨i,rfl,q⟩:=h;refine⟨_,(cr.go (af (aq (av (gJ rfl) (by rfl) T.xc oP (aA (av (qF rfl) (by rfl) T.xh BY (aA (ak 0) aa)) (c5 rfl T.xi)))))),?_⟩;refine⟨_,rfl,_,_,rfl,_,_,rfl,?_⟩;have e:(if(1000:Int)<(if 0>i then 0 else i) then 1000 else(if 0>i then 0 else i))=BI i:=by
   unfold BI
   split<;>split at*<;> lia
  rw[e];exact q
theorem AY:ao uB3 uB3 (ae oB):=cI
inductive Az (K:KE)(vs:List V)(H:Hp)(Q:VK)(_:XK):Prop
 |mk (d:Po) (n:Nat) (f:Kn->R3) (_:vs=[.ref d,.int n]) (_:Gr K H n f d) (_:EH n f) (_:n<=7) (_:∀ H',ah H H'->Q (.bl true) H')
theorem AV (T:cH K mg w):c9 P w K mg base cn 5 "is_table" uB3 [] (Az K):=by
  refine T.x1x.cal AY (bb:=λ_ _ _ _ _ H vs Q E hr h=>?_);obtain⟨d,n,f,rfl,hg,hw,h7,q⟩:=h;obtain⟨ts,pm,vs,hd,hvs⟩:=hg;have hlen:=yt.len hvs;have kl:(nQ ts vs).length=n^3:=by rw[ux hlen,pm.length_eq,mW]
  have n3:n^3<=7^3:=UX h7 3;refine⟨_,(cr.go (ab (bg (WW.pt (dO (aV (aR (av (km (K:=K) rfl) (by rfl) T.x2 aK (aA (ak 0) (bY (v:=.ty "dict") rfl T.xo Dx rfl))))) (dI (be o_ (av ET (by rfl) T.x4 dH (aE (ak 0))) (ar Hd (ak 1) aa) (aZ _))))) (af (aq iy)) aI)
   (af (aq (av (nY (K:=K) rfl rfl) (by rfl) T.x9 jM (aE (GM (aF ["place","worth"] uF0 [1] 2 (EC (ak 0)) (λnd=>(dC (K:=K) (n:=2) rfl rfl (aB (ai 0 nd) (aB (ai 1 nd) bL)))) aD (dA (ac ax (uo T) hr (aA (ak 0) (ak 2))) (eT (ac ax (lP T) hr (aE (ak 1))))))))))))),?_⟩
  refine⟨_,rfl,_,_,_,true,rfl,.dT hd,(show iD "dict" "dict"=M true by decide +kernel),_,rfl,bI ?_⟩;refine⟨_,rfl,d,_,rfl,.inl hd,_,rfl,_,_,rfl,rfl,⟨by decide,by decide,by lia⟩,_,_,rfl,rfl,false,?_,bI ?_⟩
  ·show V.bl (!decide (((nQ ts vs).length:Int)=(n:Int)^(3:Int).toNat))=_;rw[kl,Ph (by show((n^3:Nat):Int)=(n:Int)^3;simp)];rfl
  refine⟨_,rfl,d,_,rfl,hd,λo=>Ce (d:=d) (bs:=Px (nQ ts vs).length true) ag (by simp) (by lia) (λi k x ka T b H1 hk hb s1 hka hT R kk S=>?_) (λH1 s1 D hD=>?_)⟩
  ·obtain⟨t,e1,rfl,e2⟩:=Ko hk;have hb:b=true:=by
    rw[T4] at hb
    split at hb
    ·exact(O4 hb).symm
    ·cases hb
   subst hb;have ht:t∈bQ n:=pm.mem_iff.mp (PL e1);have hm:=cE.mp ht;have wt:=hw t ht;have hx:ay K H1 (wD (f t)) x:=by
    obtain⟨dd,ed,hx⟩:=hvs.get e2;rw[Ps,e1] at ed;cases ed;have hT':ay K (upd H d (.frz o (.dT (nQ ts vs)))) (wD (f t)) x:=by
     obtain⟨a,xs,rfl,ha,hxs⟩:=aO (b:=false) (ds:=(f t).ds) hx;have hx':ay K H (.tuple (f t).ds) (.ref a):=hx;cases hx' with
     |tup h1 h2=>exact .tup (by rw[au (λz=>by rw[z,hd] at h1;cases h1)];exact h1) (by cases fu h2;exact .cons (.int _) (.cons (.int _) (.cons (.int _) .nil)))
    exact ay.same s1 hT'
   have e3:([(t.1:Int),(t.2.1:Int),(t.2.2:Int)].all λk=>decide (0<=k)&&decide (k<=(n:Int)-1))=true:=by
    simp only[UH,X1,UE,Qu,Um];lia
   have e4:([(f t).a,(f t).b,(f t).c].all λk=>decide (0<=k)&&decide (k<=1000))=true:=by
    obtain⟨a0,a1,b0,b1,c0,c1⟩:=wt;simp only[UH,X1,UE,Qu,Um];lia
   refine⟨T,_,Y,dR.of hT,Y,_,_,Y,_,_,Y,Y,aX (B:=S H1) ?_⟩;refine⟨_,Y,_,Y,.ref ka,[(t.1:Int),(t.2.1:Int),(t.2.2:Int)],n,Y,mq hka,Y,λH2 s2=>⟨true,by rw[e3],aX ?_⟩⟩;exact⟨_,Y,x,[(f t).a,(f t).b,(f t).c],Y,ay.same s2 hx,Y,λH3 s3=>by rw[e4];exact kk _ _ ⟨s2.trans s3,Y⟩⟩
  ·have nd:D≠d:=λz=>by rw[z,s1 _ _ ag] at hD;cases hD
   refine⟨d,o,nQ ts vs,hd,by rw[au (RZ nd)];exact s1 _ _ ag,D,_,Y,bK.of (by rw[au nd];exact ag),?_⟩;rw[show(Px (nQ ts vs).length true).all id=true by simp];refine q _ λb u e=>?_
   by_cases hb:b=d
   ·subst hb;rw[hd] at e;cases e;exact ag
   ·rw[au hb];have e':=s1 b u (by rw[au hb];exact e);rw[au (λz=>by rw[z,hD] at e';cases e')];exact e'
theorem o8:ao j0 j0 (ae fZ):=cI
inductive oA (_:KE)(vs:List V)(H:Hp)(Q:VK)(_:XK):Prop
 |mk (n:Nat) (_:vs=[.int n]) (_:2<=n) (_:n<=7) (_:Q .non H)
theorem oG (T:cH K mg w):c9 P w K mg base cn 4 "refuse_no_knots" j0 [] (oA K):=by
  refine T.x1y.cal o8 (bb:=λ_ _ _ _ _ H vs Q E hr h=>?_);obtain⟨n,rfl,h2,h7,q⟩:=h;refine⟨_,(cr.go (af (bg (aV (aR (ac ax (rV T) hr (aE (ak 0))))) (af bD) aI))),?_⟩;have e1:Gj 2 7 (.int (n:Int))=true:=by
   show(decide ((2:Int)<=n)&&decide ((n:Int)<=7))=true;rw[Ph (show(2:Int)<=n by lia),Ph (show(n:Int)<=7 by lia)];rfl
  exact⟨_,rfl,.int n,.int n,rfl,.int _,true,by rw[e1],bI q⟩
theorem ji:ao j0 j0 (ae c7):=cI
inductive iX (K:KE)(vs:List V)(H:Hp)(Q:VK)(_:XK):Prop
 |mk (x:V) (c:Q3) (_:vs=[x]) (_:ay K H c.col x) (_:c.Wi ((60:Int):Rat)) (_:c.Bd 3000) (_:∀ H',ah H H'->Q .non H')
theorem vi {p:Rat}{m:Int}(h0:0<=p)(h1:p<=(m:Rat)):(decide (0*(p.den:Int)<=p.num)&&decide (p.num<=m*(p.den:Int)))=true:=by
 have e1:decide (0*(p.den:Int)<=p.num)=true:=Ph (by rw[Int.zero_mul];exact Rat.num_nonneg.mpr h0);have e2:decide (p.num<=m*(p.den:Int))=true:=Ph (by
  have h:=(Rat.le_iff p (m:Rat)).mp h1;rw[U5,U2] at h
  simpa using h)
 rw[e1,e2];rfl
theorem cU (T:cH K mg w):c9 P w K mg base cn 4 "refuse_no_device_colour" j0 [] (iX K):=by
  refine T.x1z.cal ji (bb:=λ_ _ _ _ _ H vs Q E hr h=>?_);obtain⟨x,c,rfl,hx,hw,hb,q⟩:=h;refine⟨_,(cr.go (af (bg (WW.pt (dO (aV (aR (ac ax (qg T) hr (aE (ak 0))))) (dI (aV (aR (av (nY (K:=K) rfl rfl) (by rfl) T.x9 jM (aE (aF uD1 [] [] 1 (bo (K:=K) rfl (ak 0)) (λnd=>(ai 0 nd)) aD (ac ax (qw T) hr (aj (ak 0) (aj aa (aj (c5 rfl T.xf) aQ)))))))))))) (af bD) aI))),?_⟩;refine⟨_,rfl,x,c.a,c.b,c.c,rfl,hx,λH1 s1=>⟨_,rfl,bI ?_⟩⟩;obtain⟨a,xs,rfl,ha,hds⟩:=aO (b:=false) (ds:=c.ds) (ay.same s1 hx);have s60:Sm 60 (60:Int):=by unfold Sm;decide
  have s00:Sm 60 (0:Int):=by unfold Sm;decide
  refine⟨_,rfl,a,false,rfl,⟨_,ha⟩,bG (es:=[.bool true,.bool true,.bool true]) ha hds rfl (by show 3<=1000;decide) (λi d e u H2 hd he s2 hu R kk S=>?_) (λzs H2 s2 hzs D hD=>?_)⟩
  ·refine aX (B:=S H2) ⟨_,rfl,?_⟩;rcases lA hd with ⟨rfl,rfl⟩|⟨rfl,rfl⟩|⟨rfl,rfl⟩
   ·cases(O4 he);exact⟨u,c.a,0,60,rfl,hu,hb.a.mono (by decide),s00,s60,by rw[vi hw.a0 hw.a1];exact kk _ _ ⟨ah.refl _,.bl _⟩⟩
   ·cases(O4 he);exact⟨u,c.b,0,60,rfl,hu,hb.b.mono (by decide),s00,s60,by rw[vi hw.b0 hw.b1];exact kk _ _ ⟨ah.refl _,.bl _⟩⟩
   ·cases(O4 he);exact⟨u,c.c,0,60,rfl,hu,hb.c.mono (by decide),s00,s60,by rw[vi hw.c0 hw.c1];exact kk _ _ ⟨ah.refl _,.bl _⟩⟩
  ·have e:=f6 (bs:=[true,true,true]) hzs;subst e;exact⟨D,_,rfl,bK.of ag,_,rfl,bI (q _ ((s1.trans s2).trans (ah.new hD)))⟩
theorem k8:ao ["many","numbers"] ["many"] (ae i_):=cI
inductive r9 (K:KE)(vs:List V)(H:Hp)(Q:VK)(_:XK):Prop
 |mk (n:Nat) (_:vs=[.int n]) (_:n<=7) (_:∀ (D:Po) (ys:List V) (H':Hp),ah H H'->H' D=M (.lst ys)->az K H' ((bQ n).map Js) ys->Q (.ref D) H')
theorem k_ (T:cH K mg w):c9 P w K mg base cn 1 "places_below" ["many"] [] (r9 K):=by
  refine T.x20.cal k8 (bb:=λ_ _ _ _ _ H vs Q E hr h=>?_);obtain⟨n,rfl,h7,q⟩:=h;refine⟨_,(cr.go (ab (aw 1 k8.nd (aW (zJ rfl) (by rfl) T.xa gS (aj (DB rfl T.x1 (aE (ak 0))) aQ)))
   (af (aq (EY rfl (bo (K:=K) rfl (ak 1)) (yd (by decide +kernel) (by rfl)) (BK (ts:=["a","b","c"]) (cs:=["numbers"]) (js:=[1]) (k:=3) (by rfl) rfl rfl) (λ_ _ _ _ _=>(ai 0 (show Yp (α:=Str) uE4 by decide +kernel))) (λ_ _ _ _ _=>aD) (λ_ _ _ _ _=>(A3 rfl rfl rfl (bo (K:=K) rfl (ak 3)) (ai 1 (show Yp (α:=Str) uE4 by decide +kernel)) aD (A3 rfl rfl rfl (bo (K:=K) rfl (ak 3)) (ai 2 (show Yp (α:=Str) uE4 by decide +kernel)) aD (Ft rfl rfl (aY (aj (ak 0) (aj (ak 1) (aj (ak 2) aQ))))))))))))),?_⟩
  refine⟨_,rfl,n,rfl,by lia,λp hp=>⟨p,n,rfl,ag,by lia,λl hl=>?_⟩⟩;have s0:ah H (upd (upd H p (.rng 0 n)) l (.lst ((uR n).map V.int))):=(ah.new hp).trans (ah.new hl);have hl0:bU K (upd (upd H p (.rng 0 n)) l (.lst ((uR n).map V.int))) l ((uR n).map V.int) true:=bK.of ag;generalize upd (upd H p (.rng 0 n)) l (.lst ((uR n).map V.int))=H0 at s0 hl0 ⊢;refine⟨_,rfl,l,true,rfl,⟨_,hl0⟩,E5 (xs:=(uR n).map V.int) (λi ys H'=>ah H0 H'/\az K H' ((wm n i).map Js) ys) ⟨ah.refl _,.nil⟩ (λi ys H' _ p=>bU.same p.1 hl0) (λi x ys H1 hx p R kk S=>?_) (λys H1 p=>?_)⟩
  ·obtain⟨hi,rfl⟩:=ya hx;obtain⟨s1,d1⟩:=p;refine aX (B:=S H1) ⟨_,rfl,l,true,rfl,⟨_,bU.same s1 hl0⟩,Ao (xs:=(uR n).map V.int) (λj σ ys' H'=>(∃ o1 o2,σ=[M (.int i),o1,o2,M (.ref l)])/\ah H0 H'/\az K H' ((wm n i++vQ n i j).map Js) ys') ⟨⟨none,none,rfl⟩,s1,by simpa [vQ] using d1⟩ (λj σ ys' H' _ p=>bU.same p.2.1 hl0) (λj x σ ys' H2 hx p R2 kk2 S2=>?_) (λσ ys' H2 p=>?_)⟩
   ·obtain⟨hj,rfl⟩:=ya hx;obtain⟨⟨o1,o2,rfl⟩,s2,d2⟩:=p;refine aX (B:=S2 [M (.int i),M (.int j),o2,M (.ref l)] H2) ⟨_,rfl,l,true,rfl,⟨_,bU.same s2 hl0⟩,Ao (xs:=(uR n).map V.int) (λk σ ys'' H'=>(∃ o2,σ=[M (.int i),M (.int j),o2,M (.ref l)])/\ah H0 H'/\az K H' ((wm n i++vQ n i j++wT i j k).map Js) ys'') ⟨⟨o2,rfl⟩,s2,by simpa [wT] using d2⟩ (λj σ ys' H' _ p=>bU.same p.2.1 hl0) (λk x σ ys'' H3 hx p R3 kk3 S3=>?_) (λσ ys'' H3 p=>?_)⟩
    ·obtain⟨hk,rfl⟩:=ya hx;obtain⟨⟨o3,rfl⟩,s3,d3⟩:=p;have hlen:=d3.length;rw[Pb] at hlen;refine aX (B:=S3 [M (.int i),M (.int j),M (.int k),M (.ref l)] H3) ⟨bJ (by rw[<- hlen];exact PP (HQ h7 hi hj (QD hk)) (by decide)),_,rfl,_,rfl,_,rfl,EF,λp hp=>kk3 _ _ _ ⟨⟨_,rfl⟩,s3.trans (ah.new hp),?_⟩⟩;rw[A2,<- Sz,QN];exact(az.same (ah.new hp) d3).snoc (mq (t:=(i,j,k)) ag)
    ·obtain⟨⟨o3,rfl⟩,s3,d3⟩:=p;rw[Pb,jI] at d3;exact kk2 _ _ _ ⟨⟨_,_,rfl⟩,s3,by rw[vx,<- Sz];exact d3⟩
   ·obtain⟨⟨o1,o2,rfl⟩,s2,d2⟩:=p;rw[Pb,jI] at d2;exact kk _ _ _ ⟨s2,by rw[ur];exact d2⟩
  ·obtain⟨s1,d1⟩:=p;rw[Pb,jI,JH] at d1;have hlen:=d1.length;rw[Pb,mW] at hlen;refine⟨?_,λD hD=>q D ys _ ((s0.trans s1).trans (ah.new hD)) ag (az.same (ah.new hD) d1)⟩;have:n^3<=7^3:=UX h7 3;lia
theorem Hz:ao uE5 uE5 (ae yI):=cI
inductive G8 (K:KE)(vs:List V)(H:Hp)(Q:VK)(_:XK):Prop
 |mk (a b:Po) (ns ms:List Int) (_:vs=[.ref a,.ref b]) (_:dR K H a (ns.map V.int)) (_:dR K H b (ms.map V.int)) (_:ns.length=ms.length) (_:ns.length<=10) (_:∀ (p:Po) (H':Hp),ah H H'->H' p=M (.tup ((TV (·+·) ns ms).map V.int))->Q (.ref p) H')
theorem AF (T:cH K mg w):c9 P w K mg base cn 1 "moved" uE5 [] (G8 K):=by
  refine T.x21.cal Hz (bb:=λ_ _ _ _ _ H vs Q E hr h=>?_);obtain⟨a,b,ns,ms,rfl,ha,hb,hl,h10,q⟩:=h;refine⟨_,(cr.go (af (aq (aW (cK (K:=K) rfl) (by rfl) T.x0 bA (aE (aF ["number","step"] [] [] 2 (mC (K:=K) rfl rfl T.xb (aA (ak 0) (ak 1))) (λnd=>(dC (K:=K) (n:=2) rfl rfl (aB (ai 0 nd) (aB (ai 1 nd) bL)))) aD (ar cL (ak 0) (ak 1)))))))),?_⟩;refine⟨_,rfl,_,rfl,a,b,false,false,rfl,⟨_,ha⟩,⟨_,hb⟩,kc (fs:=(TV (·+·) ns ms).map Rt) (show bU K H a (ns.map V.int) false from ha) (show bU K H b (ms.map V.int) false from hb) (kh ns) (kh ms) (by simp[hl]) (by simp[hl]) (by simp;lia) (λi d e g x y T H1 hd he hg s1 hx hy hT R kk S=>?_) (λzs H1 s1 hzs D hD=>?_)⟩
  ·rw[Ps] at hd he hg;obtain⟨n,en,rfl⟩:=PC.mp hd;obtain⟨m,em,rfl⟩:=PC.mp he;obtain⟨z,ez,rfl⟩:=PC.mp hg;rw[Uy] at ez;obtain⟨n',m',en',em',rfl⟩:=ez;rw[en] at en';rw[em] at em';cases en';cases em';cases hx;cases hy;exact⟨T,_,rfl,dR.of hT,rfl,_,_,rfl,_,_,rfl,rfl,aX (B:=S H1) ⟨_,rfl,_,rfl,_,_,rfl,rfl,kk _ _ ⟨ah.refl _,.int _⟩⟩⟩
  ·have e:=dB hzs;subst e;exact⟨D,_,rfl,.inl ⟨bK.of ag,λl hl=>q _ _ ((s1.trans (ah.new hD)).trans (ah.new hl)) ag⟩⟩
theorem cm:ao ["far","whole","corner","left","parts","way"] uC8 (ae c8):=cI
inductive kb (K:KE)(vs:List V)(H:Hp)(Q:VK)(_:XK):Prop
 |mk (a:Po) (x y z whole:Int) (_:vs=[.ref a,.int whole]) (_:bK K H a [.int x,.int y,.int z]) (_:BV K "parts_by_four" H) (_:∀ (o:Nat×Nat×Nat) (D:Po) (ys:List V) (H':Hp),o∈vU->a_ x y z o.2.1<=a_ x y z o.1->a_ x y z o.2.2<=a_ x y z o.2.1->ah H H'->H' D=M (.lst ys)->az K H' ((ju (a_ x y z) whole o.1 o.2.1 o.2.2).map HR) ys->Q (.ref D) H')
theorem qY (T:cH K mg w):c9 P w K mg base cn 2 "parts_by_four" uC8 [] (kb K):=by
  refine T.x3q.cal cm (bb:=λ_ _ _ _ _ H vs Q E hcv hr h=>?_);obtain⟨a,x,y,z,whole,rfl,ha,⟨Pt,tb,hP⟩,q⟩:=h;obtain⟨c,rfl,hcd⟩:=hcv Pt tb;refine⟨_,(cr.go (ab (aw 2 cm.nd (aY (aj aa (aj aa (aj aa aQ)))))
   (ab (aw 3 cm.nd (ak 1))
   (ab (aw 4 cm.nd (bV aQ))
   (ab (dW Qp rfl (bo (K:=K) rfl (Ba (K:=K) (i:=0) rfl rfl hr rfl T.xg rfl hcd rfl rfl (DB rfl T.x1 (aE aa)))) (ai 5 cm.nd) (ab (bt (uF RP RT SC mT (ak 4) (aE (aY (aA (ak 2) (ar cC (ak 3) (am K (ak 0) (ak 5))))))))
   (ab (aw 2 cm.nd (ac ax (AF T) hr (aA (ak 2) (am K (IB (K:=K) (rows:=[[1,0,0],[0,1,0],[0,0,1]]) rfl T.x3p) (ak 5)))))
   (af (aw 3 cm.nd (am K (ak 0) (ak 5)))))))
   (ab (bt (uF RP RT SC mT (ak 4) (aE (aY (aA (ak 2) (ak 3))))))
   (af (aq (ak 4))))))))),?_⟩
  refine⟨EF,λc0 hc0=>⟨_,rfl,by decide,λPa hPa=>⟨3,rfl,by decide,λrg hrg=>?_⟩⟩⟩;have s0:ah H (upd (upd (upd H c0 (.tup [.int 0,.int 0,.int 0])) Pa (.lst [])) rg (.rng 0 3)):=((ah.new hc0).trans (ah.new hPa)).trans (ah.new hrg);have gc:upd (upd (upd H c0 (.tup [.int 0,.int 0,.int 0])) Pa (.lst [])) rg (.rng 0 3) c0=M (.tup (kr (0,0,0))):=ah.new hrg _ _ (ah.new hPa _ _ ag);have gP:upd (upd (upd H c0 (.tup [.int 0,.int 0,.int 0])) Pa (.lst [])) rg (.rng 0 3) Pa=M (.lst []):=ah.new hrg _ _ ag;have gr:upd (upd (upd H c0 (.tup [.int 0,.int 0,.int 0])) Pa (.lst [])) rg (.rng 0 3) rg=M (.rng 0 3):=ag;have fP:H Pa=none:=(ah.new (o:=.tup [.int 0,.int 0,.int 0]) hc0).free hPa;generalize upd (upd (upd H c0 (.tup [.int 0,.int 0,.int 0])) Pa (.lst [])) rg (.rng 0 3)=H1 at s0 gc gP gr ⊢;refine⟨rg,3,a,[x,y,z],rfl,gr,by decide,rfl,s0.seq ha,rfl,s0 _ _ hP,λH2 D order s2 hD perm pw=>?_⟩;obtain⟨⟨u,v,w⟩,ho,rfl⟩:=LC perm;obtain⟨u3,v3,w3⟩:=BQ ho;have p1:a_ x y z v<=a_ x y z u:=by
   have:=(Rl.mp pw).1 (v:Int) (by simp)
   rwa [mY u3,mY v3] at this
  have p2:a_ x y z w<=a_ x y z v:=by
   have:=(Rl.mp (Rl.mp pw).2).1 (w:Int) (by simp)
   rwa [mY v3,mY w3] at this
  have s3:ah H (upd H2 D (.lst ([(u:Int),(v:Int),(w:Int)].map V.int))):=(s0.trans s2).trans (ah.new hD);have hD3:bU K (upd H2 D (.lst ([(u:Int),(v:Int),(w:Int)].map V.int))) D [.int (u:Int),.int (v:Int),.int (w:Int)] true:=bK.of ag;have gc3:=(s2.trans (ah.new (o:=.lst ([(u:Int),(v:Int),(w:Int)].map V.int)) hD)) _ _ gc;have gP3:=(s2.trans (ah.new (o:=.lst ([(u:Int),(v:Int),(w:Int)].map V.int)) hD)) _ _ gP;have DP:D≠Pa:=λz=>by rw[z,s2 _ _ gP] at hD;cases hD
  generalize upd H2 D (.lst ([(u:Int),(v:Int),(w:Int)].map V.int))=H3 at s3 hD3 gc3 gP3 ⊢;have fr:∀ {H':Hp},Mv [Pa] H3 H'->∀ b o,H3 b=M o->b≠Pa->H' b=M o:=λm b o e n=>m b o e (by simp[n])
  have sq:∀ {H':Hp},Mv [Pa] H3 H'->bK K H' a [.int x,.int y,.int z]:=λ{H'} m=>by
   have aP:∀ o,H a=M o->H' a=M o:=λo e=>m _ _ (s3 _ _ e) (λz=>by rw[O9.mp z,fP] at e;cases e)
   rcases ha with (h|⟨o,h⟩)|h
   ·exact .inl (.inl (aP _ h))
   ·exact .inl (.inr ⟨o,aP _ h⟩)
   ·exact .inr h
  have hlD:∀ {H':Hp},Mv [Pa] H3 H'->bU K H' D [.int (u:Int),.int (v:Int),.int (w:Int)] true:=λ{H'} m=>by
   rcases hD3 with (h|⟨o,h⟩)|h
   ·exact .inl (.inl (fr m _ _ h DP))
   ·exact .inl (.inr ⟨o,fr m _ _ h DP⟩)
   ·exact .inr h
  have lF:∀ (g:Nat) (cc:Kn) (left:Int) (ps:List Pc) (H4:Hp) (ca:Po) (ys:List V),g < 3->Mv [Pa] H3 H4->H4 ca=M (.tup (kr cc))->H4 Pa=M (.lst ys)->az K H4 (ps.map HR) ys->ps.length <= 10 ->
    ∀ R:Hp->Po->List V->Prop,(∀ H5 cb zs,Mv [Pa] H3 H5->H5 cb=M (.tup (kr (aG cc (un g))))->H5 Pa=M (.lst zs)->az K H5 ((ps++[(cc,left-a_ x y z g)]).map HR) zs->R H5 cb zs) ->
    ∀ p,H4 p=none->(∀ sa,Fh K sa [[1,0,0],[0,1,0],[0,0,1]]->∃ (bs:List V) (b:Po),KT K sa bs/\Dw bs (g:Int)=M (.ref b)/\KT K b (kr (un g))) /\
     ∀ cb H5,ah (upd (upd H4 p (.tup [.ref ca,.int (left-a_ x y z g)])) Pa (.lst (ys++[.ref p]))) H5->H5 cb=M (.tup (kr (aG cc (un g))))->R H5 cb (ys++[.ref p]):=by
   intro g cc left ps H4 ca ys g3 m4 hca hPa4 hys hpl R kk p hp;refine⟨λsa hs=>Ia hs g3,λcb H5 s5 hcb=>?_⟩;have pP:p≠Pa:=λz=>by rw[z,hPa4] at hp;cases hp
   have m5:Mv [Pa] H4 (upd (upd H4 p (.tup [.ref ca,.int (left-a_ x y z g)])) Pa (.lst (ys++[.ref p]))):=λb o e n=>by
    rw[au (λz=>n (by simp[z])),au (aS e hp)];exact e
   have li:b_ H4 [Pa]:=λb mm=>⟨ys,by rw[O9.mp mm];exact hPa4⟩
   refine kk H5 cb _ ((m4.trans m5).trans (Mv.of s5)) hcb (s5 _ _ ag) ?_;rw[QN];refine az.same s5 ((az.mv m5 li (tW ps) hys).snoc (.tup (by rw[au pP];exact ag) (.cons ?_ (.cons (.int _) .nil))));exact mq (m5 _ _ hca (λz=>by rw[O9.mp z,hPa4] at hca;cases hca))
  refine ⟨D,true,Y,⟨_,hD3⟩,kK (xs:=[.int (u:Int),.int (v:Int),.int (w:Int)]) (fun i σ H'=>∃ (ca:Po) (ys:List V) (ow:Option V) (cc:Kn) (left:Int),σ=[M (.ref a),M (.int whole),M (.ref ca),M (.int left),M (.ref Pa),ow]/\Mv [Pa] H3 H'/\H' ca=M (.tup (kr cc))/\H' Pa=M (.lst ys) /\
    az K H' (((ju (a_ x y z) whole u v w).take i).map HR) ys/\(cc=match i with|0=>(0,0,0)|1=>un u|2=>aG (un u) (un v)|_=>aG (aG (un u) (un v)) (un w))/\left=match i with|0=>whole|1=>a_ x y z u|2=>a_ x y z v|_=>a_ x y z w)
   ⟨c0,[],none,(0,0,0),whole,Y,Mv.refl,gc3,gP3,.nil,Y,Y⟩ (λi σ H' hi ⟨_,_,_,_,_,_,m,_⟩=>hlD m) ?_ ?_⟩
  ·rintro i wv σ H4 ew ⟨ca,ys,ow,cc,left,rfl,m4,hca,hPa4,hys,ecc,eleft⟩;have hpl:((ju (a_ x y z) whole u v w).take i).length<=10:=by rw[P1];show min i 4<=10;lia
   obtain⟨g,rfl,g3,hg⟩:∃ g:Nat,wv=.int (g:Int)/\g<3/\((i=0/\g=u)\/(i=1/\g=v)\/(i=2/\g=w)):=by
    rcases lA ew with ⟨rfl,rfl⟩|⟨rfl,rfl⟩|⟨rfl,rfl⟩
    ·exact⟨u,rfl,u3,.inl ⟨rfl,rfl⟩⟩
    ·exact⟨v,rfl,v3,.inr (.inl ⟨rfl,rfl⟩)⟩
    ·exact⟨w,rfl,w3,.inr (.inr ⟨rfl,rfl⟩)⟩
   have hl:=hys.length;rw[Pb] at hl;refine⟨_,rfl,.inl ⟨rfl,_,bK.of hPa4⟩,_,rfl,_,rfl,_,rfl,_,rfl,.inl ⟨a,_,_,_,rfl,rfl,sq m4,Dq g3,_,_,rfl,rfl,kO,λp hp=>?_⟩⟩;have pP:p≠Pa:=λz=>by rw[z,hPa4] at hp;cases hp
   obtain⟨t1,t2⟩:=lF g cc left _ H4 ca ys g3 m4 hca hPa4 hys hpl (λH5 cb zs=>∃ (ca:Po) (ys:List V) (ow:Option V) (cc:Kn) (left:Int),[M (V.ref a),M (V.int whole),M (V.ref cb),M (V.int (a_ x y z g)),M (V.ref Pa),M (V.int (g:Int))]=[M (.ref a),M (.int whole),M (.ref ca),M (.int left),M (.ref Pa),ow]/\Mv [Pa] H3 H5/\H5 ca=M (.tup (kr cc))/\H5 Pa=M (.lst ys) /\
    az K H5 (((ju (a_ x y z) whole u v w).take (i+1)).map HR) ys/\(cc=match i+1 with|0=>(0,0,0)|1=>un u|2=>aG (un u) (un v)|_=>aG (aG (un u) (un v)) (un w))/\left=match i+1 with|0=>whole|1=>a_ x y z u|2=>a_ x y z v|_=>a_ x y z w) (λH5 cb zs m5 hcb hP5 hzs=>by
     refine⟨cb,zs,_,_,_,Y,m5,hcb,hP5,?_,?_,?_⟩
     ·rcases hg with ⟨rfl,rfl⟩|⟨rfl,rfl⟩|⟨rfl,rfl⟩<;>(subst ecc;subst eleft;exact hzs)
     ·rcases hg with ⟨rfl,rfl⟩|⟨rfl,rfl⟩|⟨rfl,rfl⟩
      ·subst ecc;show aG (0,0,0) (un g)=un g;unfold aG;simp
      ·subst ecc;rfl
      ·subst ecc;rfl
     ·rcases hg with ⟨rfl,rfl⟩|⟨rfl,rfl⟩|⟨rfl,rfl⟩<;>rfl) p hp
   have gP5:upd H4 p (.tup [.ref ca,.int (left-a_ x y z g)]) Pa=M (.lst ys):=by rw[au (RZ pP)];exact hPa4
   refine⟨Pa,ys,.ref p,Y,Y,gP5,bJ (by lia),?_⟩;have m6:Mv [Pa] H4 (upd (upd H4 p (.tup [.ref ca,.int (left-a_ x y z g)])) Pa (.lst (ys++[.ref p]))):=λb o e n=>by
    rw[au (λz=>n (by simp[z])),au (aS e hp)];exact e
   have ca6:upd (upd H4 p (.tup [.ref ca,.int (left-a_ x y z g)])) Pa (.lst (ys++[.ref p])) ca=M (.tup (kr cc)):=m6 _ _ hca (λz=>by rw[O9.mp z,hPa4] at hca;cases hca);have sq6:=sq (m4.trans m6);refine⟨_,Y,λsa hsa=>?_⟩;obtain⟨bs,b,k1,k2,k3⟩:=t1 sa hsa;refine⟨_,Y,.inr (.inl ⟨sa,bs,_,_,Y,Y,k1.sq,k2,ca,b,[(cc.1:Int),(cc.2.1:Int),(cc.2.2:Int)],[((un g).1:Int),((un g).2.1:Int),((un g).2.2:Int)],Y,dR.of ca6,k3.sq,Y,by show 3<=10;decide,λcb H5 s5 hcb=>?_⟩)⟩;rw[GI] at hcb;exact⟨_,Y,_,Y,.inl ⟨a,_,_,_,Y,Y,s5.seq sq6,Dq g3,t2 cb H5 s5 hcb⟩⟩
  ·rintro σ H4 ⟨ca,ys,ow,cc,left,rfl,m4,hca,hPa4,hys,ecc,eleft⟩;have hl:=hys.length;rw[Pb] at hl;refine⟨_,Y,.inl ⟨Y,_,bK.of hPa4⟩,_,Y,_,Y,kO,λp hp=>?_⟩;have pP:p≠Pa:=λz=>by rw[z,hPa4] at hp;cases hp
   refine⟨Pa,ys,.ref p,Y,Y,by rw[au (RZ pP)];exact hPa4,bJ (by rw[<- hl];show 3<=1000;decide),_,Y,?_⟩;have m6:Mv [Pa] H4 (upd (upd H4 p (.tup [.ref ca,.int left])) Pa (.lst (ys++[.ref p]))):=λb o e n=>by
    rw[au (λz=>n (by simp[z])),au (aS e hp)];exact e
   have li:b_ H4 [Pa]:=λb mm=>⟨ys,by rw[O9.mp mm];exact hPa4⟩
   subst ecc eleft;refine q (u,v,w) Pa _ _ ho p1 p2 (λb o e=>(m4.trans m6) b o (s3 _ _ e) (λz=>by rw[O9.mp z,fP] at e;cases e)) ag ?_;refine(az.mv m6 li (tW _) hys).snoc (d:=HR (aG (aG (un u) (un v)) (un w),a_ x y z w)) (.tup (by rw[au pP];exact ag) (.cons ?_ (.cons (.int _) .nil)));exact mq (m6 _ _ hca (λz=>by rw[O9.mp z,hPa4] at hca;cases hca))
theorem bZ:ao ["far","whole","parts","corner","part","beyond","distance"] uC8 (ae gH):=cI
inductive jJ (K:KE)(vs:List V)(H:Hp)(Q:VK)(_:XK):Prop
 |mk (a:Po) (x y z whole:Int) (b:Nat) (_:vs=[.ref a,.int whole]) (_:bK K H a [.int x,.int y,.int z]) (_:Sm b x) (_:Sm b y) (_:Sm b z) (_:Sm b whole) (_:b<=2000) (_:∀ (D:Po) (ys:List V) (H':Hp),ah H H'->H' D=M (.lst ys)->az K H' ((dk (a_ x y z) whole).map HR) ys->Q (.ref D) H')
theorem qo (T:cH K mg w):c9 P w K mg base cn 2 "parts_by_eight" uC8 [] (jJ K):=by
  refine T.x22.cal bZ (bb:=λ_ _ _ _ _ H vs Q E hr h=>?_);obtain⟨a,x,y,z,whole,b,rfl,ha,sx,sy,sz,sw,hb,q⟩:=h;refine⟨_,(cr.go (ab (aw 2 bZ.nd (bV aQ))
   (ab (dW Qp rfl (bo (K:=K) rfl (ac ax (k_ T) hr (aE aa))) (ai 3 bZ.nd) (ab (aw 4 bZ.nd aa)
   (ab (dW Qp rfl (mC (K:=K) rfl rfl T.xb (aA (ak 3) (ak 0))) (dC (K:=K) (n:=2) rfl rfl (aB (ai 5 bZ.nd) (aB (ai 6 bZ.nd) bL))) (af (yS (i:=4) bZ.nd rfl (by first|exact X5 rfl|exact W3 rfl) (j_ (be eA (ak 5) aa (aZ _)) (ak 6) (ar cC (ak 1) (ak 6))) HP)))
   (af (bt (uF RP RT SC mT (ak 2) (aE (aY (aA (ak 3) (ak 4))))))))))
   (af (aq (ak 2)))))),?_⟩
  have fs:=Hw sx sy sz sw;have gs:∀ k c,Sm 8000 (pF (a_ x y z) whole k c):=λk c=>(fs k c).mono (by lia)
  have ps:∀ t j,Sm 8000 (dE (a_ x y z) whole t j):=λt j=>(Bk fs t j).mono (by lia)
  refine⟨by decide,λPa hPa=>⟨2,Y,by decide,λD xs H1 s1 hD hxs=>?_⟩⟩;have gP:=s1 _ _ (ag (H:=H) (a:=Pa) (o:=.lst []));have s0:ah H H1:=(ah.new hPa).trans s1;have DP:D≠Pa:=λz=>by
   rw[z,gP] at hD;cases hD;have:=hxs.length;exact absurd this (by decide)
  have lx:=hxs.length;rw[Pb] at lx;refine⟨D,true,Y,⟨_,bK.of hD⟩,kK (xs:=xs) (λi σ H'=>∃ (ys:List V) (o1 o2 o3 o4:Option V),σ=[M (.ref a),M (.int whole),M (.ref Pa),o1,o2,o3,o4]/\Mv [Pa] H1 H'/\H' Pa=M (.lst ys)/\az K H' (((dk (a_ x y z) whole).take i).map HR) ys)
   ⟨[],_,_,_,_,Y,Mv.refl,gP,.nil⟩ (λi σ H' hi ⟨_,_,_,_,_,_,m,_⟩=>bK.of (m _ _ hD (by simp[DP]))) ?_ ?_⟩
  ·rintro i wv σ H4 ew ⟨ys,o1,o2,o3,o4,rfl,m4,hP4,hys⟩;obtain⟨d,ed,hd⟩:=hxs.get ew;rw[Ps] at ed;obtain⟨t,et,rfl⟩:=PC.mp ed;obtain⟨ca,rfl,hca⟩:=pO hd;have hca4:H4 ca=M (.tup (kr t)):=m4 _ _ hca (λz=>by rw[O9.mp z,gP] at hca;cases hca);have ha4:bK K H4 a [.int x,.int y,.int z]:=by
    have aP:∀ o,H a=M o->H4 a=M o:=λo e=>m4 _ _ (s0 _ _ e) (λz=>by rw[O9.mp z,hPa] at e;cases e)
    rcases ha with (h|⟨o,h⟩)|h
    ·exact .inl (.inl (aP _ h))
    ·exact .inl (.inr ⟨o,aP _ h⟩)
    ·exact .inr h
   have hl:=hys.length;have e8:(dk (a_ x y z) whole).length=8:=by unfold dk;rw[Pb];rfl
   rw[Pb,P1,e8] at hl;refine⟨_,rfl,_,rfl,ca,a,false,true,rfl,⟨_,dR.of hca4⟩,⟨_,ha4⟩,IX (K:=K) (xs:=kr t) (ys:=[.int x,.int y,.int z]) (λj σ H'=>(∃ o3 o4,σ=[M (.ref a),M (.int whole),M (.ref Pa),M (.ref ca),M (.int (dE (a_ x y z) whole t j)),o3,o4])/\ah H4 H')
    ⟨⟨_,_,rfl⟩,ah.refl _⟩ rfl (λj σ H' _ ⟨_,s⟩=>⟨jZ s (dR.of hca4),s.seq ha4⟩) ?_ ?_⟩
   ·rintro j u v T σ H5 eu ev ⟨⟨o3,o4,rfl⟩,s5⟩ hT;refine⟨T,_,rfl,dR.of ag,rfl,_,_,rfl,_,_,rfl,rfl,_,rfl,?_⟩;have sT:=s5.trans (ah.new (o:=.tup [u,v]) hT);rcases lA eu with ⟨rfl,rfl⟩|⟨rfl,rfl⟩|⟨rfl,rfl⟩
    ·cases(O4 ev);refine⟨_,rfl,_,_,rfl,rfl,_,rfl,f9 (λhc=>?_) (λhc=>?_)⟩
     ·have e:t.1=1:=by have:=QH hc;lia
      have hf:pF (a_ x y z) whole 0 t.1=x:=by unfold pF;rw[Qh e];rfl
      have g0:=gs 0 t.1;rw[hf] at g0;exact⟨_,rfl,_,_,rfl,rfl,.inl ⟨ps t 0,g0⟩,⟨_,_,by rw[show dE (a_ x y z) whole t (0+1)=dE (a_ x y z) whole t 0*x from(show _=dE (a_ x y z) whole t 0*pF (a_ x y z) whole 0 t.1 from rfl).trans (S0 _ hf)];rfl⟩,sT⟩
     ·have e:¬ t.1=1:=by have:=S5 (by simpa using hc);lia
      have hf:pF (a_ x y z) whole 0 t.1=whole-x:=by unfold pF;rw[P3 e];rfl
      have g0:=gs 0 t.1;rw[hf] at g0;exact⟨_,rfl,_,rfl,_,_,rfl,rfl,_,_,rfl,rfl,.inl ⟨ps t 0,g0⟩,⟨_,_,by rw[show dE (a_ x y z) whole t (0+1)=dE (a_ x y z) whole t 0*(whole-x) from(show _=dE (a_ x y z) whole t 0*pF (a_ x y z) whole 0 t.1 from rfl).trans (S0 _ hf)];rfl⟩,sT⟩
    ·cases(O4 ev);refine⟨_,rfl,_,_,rfl,rfl,_,rfl,f9 (λhc=>?_) (λhc=>?_)⟩
     ·have e:t.2.1=1:=by have:=QH hc;lia
      have hf:pF (a_ x y z) whole 1 t.2.1=y:=by unfold pF;rw[Qh e];rfl
      have g0:=gs 1 t.2.1;rw[hf] at g0;exact⟨_,rfl,_,_,rfl,rfl,.inl ⟨ps t 1,g0⟩,⟨_,_,by rw[show dE (a_ x y z) whole t (1+1)=dE (a_ x y z) whole t 1*y from(show _=dE (a_ x y z) whole t 1*pF (a_ x y z) whole 1 t.2.1 from rfl).trans (S0 _ hf)];rfl⟩,sT⟩
     ·have e:¬ t.2.1=1:=by have:=S5 (by simpa using hc);lia
      have hf:pF (a_ x y z) whole 1 t.2.1=whole-y:=by unfold pF;rw[P3 e];rfl
      have g0:=gs 1 t.2.1;rw[hf] at g0;exact⟨_,rfl,_,rfl,_,_,rfl,rfl,_,_,rfl,rfl,.inl ⟨ps t 1,g0⟩,⟨_,_,by rw[show dE (a_ x y z) whole t (1+1)=dE (a_ x y z) whole t 1*(whole-y) from(show _=dE (a_ x y z) whole t 1*pF (a_ x y z) whole 1 t.2.1 from rfl).trans (S0 _ hf)];rfl⟩,sT⟩
    ·cases(O4 ev);refine⟨_,rfl,_,_,rfl,rfl,_,rfl,f9 (λhc=>?_) (λhc=>?_)⟩
     ·have e:t.2.2=1:=by have:=QH hc;lia
      have hf:pF (a_ x y z) whole 2 t.2.2=z:=by unfold pF;rw[Qh e];rfl
      have g0:=gs 2 t.2.2;rw[hf] at g0;exact⟨_,rfl,_,_,rfl,rfl,.inl ⟨ps t 2,g0⟩,⟨_,_,by rw[show dE (a_ x y z) whole t (2+1)=dE (a_ x y z) whole t 2*z from(show _=dE (a_ x y z) whole t 2*pF (a_ x y z) whole 2 t.2.2 from rfl).trans (S0 _ hf)];rfl⟩,sT⟩
     ·have e:¬ t.2.2=1:=by have:=S5 (by simpa using hc);lia
      have hf:pF (a_ x y z) whole 2 t.2.2=whole-z:=by unfold pF;rw[P3 e];rfl
      have g0:=gs 2 t.2.2;rw[hf] at g0;exact⟨_,rfl,_,rfl,_,_,rfl,rfl,_,_,rfl,rfl,.inl ⟨ps t 2,g0⟩,⟨_,_,by rw[show dE (a_ x y z) whole t (2+1)=dE (a_ x y z) whole t 2*(whole-z) from(show _=dE (a_ x y z) whole t 2*pF (a_ x y z) whole 2 t.2.2 from rfl).trans (S0 _ hf)];rfl⟩,sT⟩
   ·rintro σ H5 ⟨⟨o3,o4,rfl⟩,s5⟩;have hP5:=s5 _ _ hP4;refine⟨_,rfl,.inl ⟨rfl,_,bK.of hP5⟩,_,rfl,_,rfl,kO,λp hp=>?_⟩;have pP:p≠Pa:=λz=>by rw[z,hP5] at hp;cases hp
    refine⟨Pa,ys,.ref p,Y,Y,by rw[au (RZ pP)];exact hP5,bJ (by lia),?_⟩;have m6:Mv [Pa] H5 (upd (upd H5 p (.tup [.ref ca,.int (dE (a_ x y z) whole t (kr t).length)])) Pa (.lst (ys++[.ref p]))):=λb o e n=>by
     rw[au (λz=>n (by simp[z])),au (aS e hp)];exact e
    have li:b_ H5 [Pa]:=λb mm=>⟨ys,by rw[O9.mp mm];exact hP5⟩
    refine⟨_,_,_,_,_,Y,(m4.trans (Mv.of s5)).trans m6,ag,?_⟩;have et':(dk (a_ x y z) whole)[i]?=M (t,dE (a_ x y z) whole t 3):=by
     unfold dk;rw[Ps,et];rfl
    rw[b8 et',QN];refine(az.mv m6 li (tW _) (az.same s5 hys)).snoc (.tup (by rw[au pP];exact ag) (.cons ?_ (.cons (.int _) .nil)));exact mq (m6 _ _ (s5 _ _ hca4) (λz=>by rw[O9.mp z,hP4] at hca4;cases hca4))
  ·rintro σ H4 ⟨ys,o1,o2,o3,o4,rfl,m4,hP4,hys⟩;rw[P9 (by rw[<- lx];show(dk (a_ x y z) whole).length<=_;unfold dk;rw[Pb];exact Pe _)] at hys;exact⟨_,Y,q Pa ys H4 (λb o e=>m4 b o (s0 _ _ e) (λz=>by rw[O9.mp z,hPa] at e;cases e)) hP4 hys⟩
theorem EX:ao j0 j0 (ae uP):=cI
def Kc:List (Str×Str):=[("four","parts_by_four"),("eight","parts_by_eight")]
inductive E4 (K:KE)(vs:List V)(H:Hp)(Q:VK)(_:XK):Prop
 |mk (i:Str) (_:vs=[.str i]) (_:Q (.bl (Kc.lookup i).isSome) H)
theorem Ey (T:cH K mg w):c9 P w K mg base cn 1 "is_way" j0 [] (E4 K):=by
  refine T.x23.cal EX (bb:=λ_ _ _ _ _ H vs Q E hr h=>?_);obtain⟨i,rfl,q⟩:=h;refine⟨_,(cr.go (af (aq (dA (av (km (K:=K) rfl) (by rfl) T.x2 aK (aA (ak 0) (bY (v:=.ty "str") rfl T.xr Gu rfl))) (eT (bX (Ai (K:=K) (w:=w) (mg:=mg) (kvs:=[("four","parts_by_four"),("eight","parts_by_eight")]) rfl rfl) (ak 0) (tH (K:=K) (w:=w) (mg:=mg) (kvs:=[("four","parts_by_four"),("eight","parts_by_eight")]) rfl T.xu) rfl)))))),?_⟩;refine⟨_,rfl,_,_,_,true,rfl,.str i,(show iD "str" "str"=M true by decide +kernel),_,rfl,aX ?_⟩;exact⟨_,rfl,λD hD=>⟨i,D,rfl,rfl,hD,q⟩⟩
theorem n9:ao uD0 uD0 (ae fK):=cI
inductive oX (K:KE)(vs:List V)(H:Hp)(Q:VK)(_:XK):Prop
 |mk (a C dx d:Po) (n:Nat) (f:Kn->R3) (_:vs=[.ref a,.int n,.ref d]) (_:cM K "Grid" C) (_:H a=M (.ins C dx [])) (_:Gr K H n f d) (_:EH n f) (_:2<=n) (_:n<=7) (_:∀ (H':Hp) (L:Po),Mv [a] H H'->H' a=M (.ins C dx [("knots",.int n),("table",.ref L)])->Gr K H' n f L->H L=none->Q .non H')
theorem eX (T:cH K mg w):pM P w K mg base cn 6 "Grid" "__init__" uD0 [] (oX K):=by
  refine T.x24.cal n9 (bb:=λ_ _ _ _ _ H vs Q E hr h=>?_);obtain⟨a,C,dx,d,n,f,rfl,hC,ha,hg,hw,h2,h7,q⟩:=h;refine⟨_,(cr.go (ab (bg (aV (aR (ac ax (rV T) hr (aE (ak 1))))) (af bD) aI)
   (ab (bg (aV (aR (ac ax (AV T) hr (aA (ak 2) (ak 1))))) (af bD) aI)
   (ab (dZ (K:=K) (x:="Grid") rfl T.x3 (.head _) (ak 0) (ak 1))
   (af (dZ (K:=K) (x:="Grid") rfl T.x3 (.tail _ (.head _)) (ak 0) (aW Cs (by rfl) T.xo Dx (aE (ak 2))))))))),?_⟩
  have e1:Gj 2 7 (.int (n:Int))=true:=by
   show(decide ((2:Int)<=n)&&decide ((n:Int)<=7))=true;rw[Ph (show(2:Int)<=n by lia),Ph (show(n:Int)<=7 by lia)];rfl
  refine⟨_,rfl,.int n,.int n,rfl,.int _,true,by rw[e1],bI ?_⟩;refine⟨_,rfl,_,rfl,d,n,f,rfl,hg,hw,h7,λH1 s1=>⟨_,rfl,bI ?_⟩⟩;have ha1:=s1 _ _ ha;have hg1:=hg.same s1;refine⟨_,rfl,_,rfl,a,C,dx,[],rfl,hC,ha1,by decide,?_⟩;obtain⟨ts,pm,vs,hd,hvs⟩:=id hg1;have hlen:=yt.len hvs;have na:d≠a:=λz=>by rw[z,ha1] at hd;cases hd
  have mv1:Mv [a] H1 (upd H1 a (.ins C dx (eJ "knots" (.int n) []))):=λb o e nb=>by rw[au (λz=>nb (by simp[z]))];exact e
  have ne:nQ ts vs≠[]:=λz=>by
   have:=S0 Xd z;rw[ux hlen,pm.length_eq,mW] at this;have:0<n^3:=Nat.pow_pos (by lia);rw[US] at *;lia
  refine⟨_,Y,d,_,Y,.inl (mv1 _ _ hd (by simp[na])),ne,IG h7 pm hlen,λL hL=>?_⟩;refine⟨_,Y,a,C,dx,_,Y,hC,by rw[au (λz=>by rw[<- z,ag] at hL;cases hL)];exact ag,by show 1<1000;decide,?_⟩;have La:L≠a:=λz=>by rw[z,ag] at hL;cases hL
  have mv2:Mv [a] H1 (upd (upd (upd H1 a (.ins C dx (eJ "knots" (.int n) []))) L (.dT (nQ ts vs))) a (.ins C dx (eJ "table" (.ref L) (eJ "knots" (.int n) [])))):=λb o e nb=>by
   have nb:b≠a:=λz=>nb (by simp[z])
   rw[au nb,au (λz=>by rw[<- z,au nb,e] at hL;cases hL),au nb];exact e
  have wkeep:∀ {ts:List Kn}{ws:List V}{H':Hp},Mv [a] H1 H'->az K H1 (ts.map λt=>wD (f t)) ws->az K H' (ts.map λt=>wD (f t)) ws:=λ{ts ws H'} m h=>by
   induction ts generalizing ws with
   |nil=>cases h;exact .nil
   |cons t ts ih=>
    cases h with
    |cons h1 h2=>
     refine .cons ?_ (ih h2);have h1':ay K H1 (.tuple (f t).ds) _:=h1;cases h1' with
     |tup k1 k2=>
      cases fu k2;exact .tup (m _ _ k1 (λz=>by rw[O9.mp z,ha1] at k1;cases k1)) (.cons (.int _) (.cons (.int _) (.cons (.int _) .nil)))
  refine q _ L (λb o e nb=>mv2 b o (s1 _ _ e) nb) ag ⟨ts,pm,vs,?_,wkeep mv2 hvs⟩ ?_
  ·rw[au La];exact ag
  ·cases z:H L with
   |none=>rfl
   |some o=>
    rw[au La,s1 _ _ z] at hL;cases hL
theorem vJ:ao uC3 uC3 (ae jR):=cI
inductive vm (K:KE)(vs:List V)(H:Hp)(Q:VK)(_:XK):Prop
 |mk (v x:V) (n:Nat) (f:Kn->R3) (t:Kn) (_:vs=[v,x]) (_:kf K H n f v) (_:ay K H (Js t) x) (_:t∈bQ n) (_:∀ (w:V) (H':Hp),ah H H'->ay K H' (wD (f t)) w->Q w H')
theorem lB (T:cH K mg w):pM P w K mg base cn 5 "Grid" "knot" uC3 [] (vm K):=by
  refine T.x25.cal vJ (bb:=λ_ _ _ _ _ H vs Q E hr h=>?_);obtain⟨v,x,n,f,t,rfl,hv,hx,ht,q⟩:=h;obtain⟨a,C,dx,d,rfl,hC,ha,hg⟩:=id hv;refine⟨_,(cr.go (ab (bg (aV (aR (ac ax (uo T) hr (aA (ak 1) (bN (K:=K) (x:="Grid") rfl T.x3 (.head _) (ak 0)))))) (af bD) aI)
   (af (aq (pT hr.u1 (bN (K:=K) (x:="Grid") rfl T.x3 (.tail _ (.head _)) (ak 0)) (ak 1) (λ_ _=>rfl)))))),?_⟩
  have hm:=cE.mp ht;have e:([(t.1:Int),(t.2.1:Int),(t.2.2:Int)].all λk=>decide (0<=k)&&decide (k<=(n:Int)-1))=true:=by
   simp only[UH,X1,UE,Qu,Um];lia
  refine⟨_,rfl,_,rfl,a,C,dx,_,_,rfl,hC,ha,rfl,x,[(t.1:Int),(t.2.1:Int),(t.2.2:Int)],n,rfl,hx,rfl,λH1 s1=>⟨true,by rw[e],bI ?_⟩⟩;obtain⟨b,rfl,hb⟩:=pO (ay.same s1 hx);obtain⟨w,g1,g2⟩:=xX (hg.same s1) ht hb;exact⟨_,rfl,a,C,dx,_,_,rfl,hC,s1 _ _ ha,rfl,_,rfl,d,w,rfl,g1,q _ _ s1 g2⟩
theorem uH:ao uC4 uC4 (ae jK):=cI
inductive ve (K:KE)(vs:List V)(H:Hp)(Q:VK)(_:XK):Prop
 |mk (v:V) (n:Nat) (f:Kn->R3) (_:vs=[v]) (_:kf K H n f v) (_:2<=n) (_:n<=7) (_:∀ (w:V) (H':Hp),ah H H'->ay K H' (.tuple [.int n,.int (lQ n)]) w->Q w H')
theorem jv (T:cH K mg w):pM P w K mg base cn 2 "Grid" "size" uC4 [] (ve K):=by
  refine T.x26.cal uH (bb:=λ_ _ _ _ _ H vs Q E hr h=>?_);obtain⟨v,n,f,rfl,hv,h2,h7,q⟩:=h;obtain⟨a,C,dx,d,rfl,hC,ha,hg⟩:=hv;refine⟨_,(cr.go (af (aq (aY (aA (bN (K:=K) (x:="Grid") rfl T.x3 (.head _) (ak 0)) (ac ax (AB T) hr (aE (bN (K:=K) (x:="Grid") rfl T.x3 (.head _) (ak 0))))))))),?_⟩;refine⟨_,rfl,a,C,dx,_,_,rfl,hC,ha,rfl,_,rfl,a,C,dx,_,_,rfl,hC,ha,rfl,n,rfl,h2,h7,kO,λp hp=>?_⟩;exact q _ _ (ah.new hp) (ay.tupN hp (.cons (.int _) (.cons (.int _) .nil)))
theorem hU:ao ["self","least","parts","worths","amounts"] uE2 (ae jc):=cI
inductive sH (K:KE)(vs:List V)(H:Hp)(Q:VK)(_:XK):Prop
 |mk (v x:V) (D:Po) (ys:List V) (n:Nat) (f:Kn->R3) (base:Kn) (ps:List Pc) (_:vs=[v,x,.ref D]) (_:kf K H n f v) (_:ay K H (Js base) x) (_:H D=M (.lst ys)) (_:az K H (ps.map HR) ys) (_:ps.length<=10) (_:EH n f) (_:(∀ p∈ps,aG base p.1∈bQ n)) (_:(∀ p∈ps,Sm 7000 p.2)) (_:(ps.map (·.2)).sum≠0) (_:Sm 8000 (ps.map (·.2)).sum) (_:∀ (w:V) (H':Hp),ah H H'->ay K H' (ED f base ps).col w->Q w H')
theorem tG (T:cH K mg w):pM P w K mg base cn 6 "Grid" "mixed" uE2 [] (sH K):=by
  refine T.x27.cal hU (bb:=λ_ _ _ _ _ H vs Q E hr h=>?_);obtain⟨v,x,D,ys,n,f,base,ps,rfl,hv,hx,hD,hys,hl,hw,hk,hp,h0,hS,q⟩:=h;refine⟨_,(cr.go (ab (aw 3 hU.nd (aF ["corner","part"] ["self","least"] [0,1] 2 (bo (K:=K) rfl (ak 2)) (λnd=>(dC (K:=K) (n:=2) rfl rfl (aB (ai 0 nd) (aB (ai 1 nd) bL)))) aD (kG (K:=K) rfl ax (lB T) (hr.mono (by decide)) (ak 2) (aE (ac ax (AF T) hr (aA (ak 3) (ak 0)))))))
   (ab (aw 4 hU.nd (aF ["corner","part"] [] [] 2 (bo (K:=K) rfl (ak 2)) (λnd=>(dC (K:=K) (n:=2) rfl rfl (aB (ai 0 nd) (aB (ai 1 nd) bL)))) aD (ak 1)))
   (af (aq (aW (cK (K:=K) rfl) (by rfl) T.x0 bA (aE (aF ["k"] ["worths","amounts"] [3,4] 1 (bh rfl T.x1 (aE aa)) (λnd=>(ai 0 nd)) aD (ac ax (cW T T.xd) hr (aA (ac ax (u8 T) hr (aA (aF ["worth"] ["k"] [0] 1 (bo (K:=K) rfl (ak 1)) (λnd=>(ai 0 nd)) aD (am K (ak 0) (ak 1))) (ak 2))) (av (Hx (K:=K) rfl rfl) (by rfl) T.xs Hn (aE (ak 2))))))))))))),?_⟩
  obtain⟨a,C,dx,d,rfl,hC,ha,hg⟩:=id hv;obtain⟨la,rfl,hla⟩:=pO hx;have lw:∀ {r:R3},r.Wt->∀ g:R3->Int,(∀ r:R3,g r=r.a\/g r=r.b\/g r=r.c)->Sm 8000 (g r):=λ{r} h g hgr=>by
   refine Sm.mono (k:=20) ?_ (by decide);obtain⟨a0,a1,b0,b1,c0,c1⟩:=h;unfold Sm;rcases hgr r with e|e|e<;>(rw[e];lia)
  refine⟨_,rfl,D,true,rfl,⟨_,bK.of hD⟩,bG (es:=ps.map λp=>wD (f (aG base p.1))) (show bU K H D ys true from bK.of hD) hys (by simp) (by simp;lia) (λi e e' u H1 hd he s1 hu R kk S=>?_) (λws H1 s1 hws W hW=>?_)⟩
  ·rw[Ps] at hd he;obtain⟨p,ep,rfl⟩:=PC.mp hd;rw[ep] at he;cases he;obtain⟨ta,ca,rfl,hta,hca⟩:=FR hu;refine⟨ta,_,rfl,dR.of hta,rfl,_,_,rfl,_,_,rfl,rfl,aX (B:=S H1) ?_⟩;refine⟨_,rfl,a,C,dx,_,rfl,hC,s1 _ _ ha,rfl,_,rfl,_,rfl,la,ca,[(base.1:Int),(base.2.1:Int),(base.2.2:Int)],[(p.1.1:Int),(p.1.2.1:Int),(p.1.2.2:Int)],rfl,dR.of (s1 _ _ hla),dR.of hca,rfl,by show 3<=10;decide,λpa H2 s2 hpa=>?_⟩;rw[GI] at hpa;exact⟨.ref a,.ref pa,n,f,aG base p.1,rfl,hv.same (s1.trans s2),mq hpa,hk p (PL ep),λw H3 s3 hw3=>kk _ _ ⟨s2.trans s3,hw3⟩⟩
  have sW:ah H1 (upd H1 W (.lst ws)):=ah.new hW;have hW2:bU K (upd H1 W (.lst ws)) W ws true:=bK.of ag;have hws2:=az.same sW hws;have s2:=s1.trans sW;generalize upd H1 W (.lst ws)=H2 at sW hW2 hws2 s2 ⊢;refine⟨_,rfl,D,true,rfl,⟨_,bK.of (s2 _ _ hD)⟩,bG (es:=(ps.map (·.2)).map Rt) (show bU K H2 D ys true from bK.of (s2 _ _ hD)) (az.same s2 hys) (by simp) (by simp;lia) (λi e e' u H3 hd he s3 hu R kk S=>?_) (λks H3 s3 hks L hL=>?_)⟩
  ·rw[Ps] at hd he;obtain⟨p,ep,rfl⟩:=PC.mp hd;rw[Ps,ep] at he;cases he;obtain⟨ta,ca,rfl,hta,hca⟩:=FR hu;exact⟨ta,_,rfl,dR.of hta,rfl,_,_,rfl,_,_,rfl,rfl,aX (B:=S H3) ⟨_,rfl,kk _ _ ⟨ah.refl _,.int _⟩⟩⟩
  have eks:=dB hks;subst eks;have sL:ah H3 (upd H3 L (.lst ((ps.map (·.2)).map V.int))):=ah.new hL;have hL4:bU K (upd H3 L (.lst ((ps.map (·.2)).map V.int))) L ((ps.map (·.2)).map V.int) true:=bK.of ag;have s4:=s3.trans sL;generalize upd H3 L (.lst ((ps.map (·.2)).map V.int))=H4 at sL hL4 s4 ⊢;have hW4:=bU.same s4 hW2;have hws4:=az.same s4 hws2;refine⟨3,rfl,by decide,by decide,d_ (K:=K) (lo:=0) (ds:=(ED f base ps).ds) (n:=3) rfl (by decide) (λi e H5 he s5 R kk S=>?_) (λzs H5 s5 hzs Z hZ=>?_)⟩
  ·obtain⟨g,rfl,hi,hgv⟩:=NS he;have hgr:∀ r:R3,g r=r.a\/g r=r.b\/g r=r.c:=λr=>by
    have:=hgv r;rcases lA this with ⟨_,e⟩|⟨_,e⟩|⟨_,e⟩
    ·injection e with e;exact .inl e
    ·injection e with e;exact .inr (.inl e)
    ·injection e with e;exact .inr (.inr e)
   refine aX (B:=S H5) ⟨_,rfl,W,true,rfl,⟨_,bU.same s5 hW4⟩,bG (es:=(ps.map λp=>g (f (aG base p.1))).map Rt) (bU.same s5 hW4) (az.same s5 hws4) (by simp) (by simp;lia) (λj e e' u H6 hd he s6 hu R2 kk2 S2=>?_) (λns H6 s6 hns N hN=>?_)⟩
   ·rw[Ps] at hd he;obtain⟨p,ep,rfl⟩:=PC.mp hd;rw[Ps,ep] at he;cases he;obtain⟨wa,rfl,hwa⟩:=ku (b:=false) hu;refine aX (B:=S2 H6) ⟨_,rfl,_,rfl,?_⟩;have:=nF (K:=K) (Q:=R2) hwa (hgv (f (aG base p.1))) (kk2 _ _ ⟨ah.refl _,.int _⟩);rw[show((0:Int)+(i:Int))=(i:Int) from TQ _];exact this
   ·have ens:=dB hns;subst ens;have hL7:=bU.same ((s5.trans s6).trans (ah.new (o:=.lst ((ps.map λp=>g (f (aG base p.1))).map V.int)) hN)) hL4;refine⟨_,rfl,N,L,true,true,_,_,rfl,bK.of ag,hL7,by simp,by simp;lia,λz hz=>?_,λz hz=>?_,λH7 s7=>?_⟩
    ·obtain⟨p,hp',rfl⟩:=Qy.mp hz;exact lw (hw _ (hk p hp')) g hgr
    ·obtain⟨p,hp',rfl⟩:=Qy.mp hz;exact(hp p hp').mono (by decide)
    ·refine⟨_,rfl,L,_,rfl,bU.same s7 hL7,_,_,rfl,h0,hS,?_⟩;refine jY.sh h0 λw H8 s8 hw8=>kk _ _ ⟨((s6.trans (ah.new hN)).trans s7).trans s8,hw8⟩
  ·exact⟨Z,zs,Y,.inl ⟨bK.of ag,λl hl=>q _ _ ((((s2.trans s4).trans s5).trans (ah.new hZ)).trans (ah.new hl)) (ay.tupN (ds:=(ED f base ps).ds) hl (az.same (ah.new hZ) hzs))⟩⟩
theorem cF:ao ["self","colour","way","parts_of","steps","least","tops","below","far"] uC2 (ae cR):=cI
inductive tD (K:KE)(vs:List V)(H:Hp)(Q:VK)(_:XK):Prop
 |mk (v x:V) (zU:Str) (n:Nat) (f:Kn->R3) (c:Q3) (k:Nat) (_:vs=[v,x,.str zU]) (_:kf K H n f v) (_:EH n f) (_:2<=n) (_:n<=7) (_:ay K H c.col x) (_:c.Wi ((60:Int):Rat)) (_:c.Bd k) (_:k<=400) (_:BV K "parts_by_four" H) (_:(zU="four"\/zU="eight")) (_:∀ (r:Q3) (w:V) (H':Hp),ah H H'->(zU="four"->r=W4 n f c)->(zU="eight"->r=W8 n f c)->r.Bd (12*k+120)->ay K H' r.col w->Q w H')
theorem tj (T:cH K mg w):rH P w K mg base cn 7 "Grid" "worth" uC2 [] 2 0 [.str "four"] (tD K):=by
  refine T.x3r.cal cF (bb:=λ_ _ _ _ _ H vs Q E hr h=>?_);obtain⟨v,x,zU,n,f,c,k,rfl,hv,hw,h2,h7,hx,wi,bd,hk,tb,hway,q⟩:=h;obtain⟨a,C,dx,d,rfl,hC,ha,hg⟩:=id hv;obtain⟨ap0,ap1,ap2⟩:=kH h2 h7;have hlk:∃ fnm,Kc.lookup zU=M fnm:=by
   rcases hway with rfl|rfl
   ·exact⟨_,rfl⟩
   ·exact⟨_,rfl⟩
  obtain⟨fnm,hlk⟩:=hlk;have dva:Dv n c.a:=⟨h2,h7,wi.a0,wi.a1⟩
  have dvb:Dv n c.b:=⟨h2,h7,wi.b0,wi.b1⟩
  have dvc:Dv n c.c:=⟨h2,h7,wi.c0,wi.c1⟩
  have sap:Sm 6 (lQ n):=by unfold Sm;lia
  have bqs:∀ {y:Rat},Bq k y->Bq (k+6) (eB n y):=λ{y} h=>jg (Qi h.ne (by lia)) (h.sn.mono (by lia)) ((h.sd.mul sap))
  refine⟨_,(cr.go (ab (bg (aV (aR (ac ax (Ey T) hr (aE (ak 2))))) (af bD) aI)
   (ab (bt (ac ax (cU T) hr (aE (ak 1))))
   (ab (aw 3 cF.nd (BL (Fu (K:=K) (w:=w) (mg:=mg) (kvs:=[("four","parts_by_four"),("eight","parts_by_eight")]) Y Y) (tH (K:=K) (w:=w) (mg:=mg) (kvs:=[("four","parts_by_four"),("eight","parts_by_eight")]) Y T.xu) (ak 2) (λ_ _=>rfl)))
   (ab (c_ 4 uB8 uC4 [0] 2 cF.nd (bo (K:=K) Y (ak 1)) (λnd=>(dC (K:=K) (n:=2) Y Y (aB (ai 0 nd) (aB (ai 1 nd) bL)))) aD (ac ax (cW T T.xd) hr (aA (ak 0) (ar aM (ak 1) (am K (kj (K:=K) Y ax (jv T) (hr.mono (by decide)) (ak 2)) aa)))))
   (ab (aw 5 cF.nd (aW (cK (K:=K) Y) (by rfl) T.x0 bA (aE (aF ["step"] uC4 [0] 1 (bo (K:=K) Y (ak 4)) (λnd=>(ai 0 nd)) aD (av (gJ rfl) (by rfl) T.xc oP (aA (ac ax (Ag T) hr (aE (ak 0))) (ar cC (bN (K:=K) (x:="Grid") Y T.x3 (.head _) (ak 1)) aa)))))))
   (ab (gR (ac ax (pU T) hr (aE (ak 4))) (dC (K:=K) (n:=2) Y Y (aB (ai 6 cF.nd) (aB (ai 7 cF.nd) bL))))
   (ab (c_ 8 ["top","number"] ["below"] [7] 2 cF.nd (mC (K:=K) Y Y T.xb (aA (ak 6) (ak 5))) (λnd=>(dC (K:=K) (n:=2) Y Y (aB (ai 0 nd) (aB (ai 1 nd) bL)))) aD (ar cC (ak 0) (ar aM (ak 1) (ak 2))))
   (af (aq (kG (K:=K) Y ax (tG T) (hr.mono (by decide)) (ak 0) (aA (ak 5) (Bb (P:=P) (w:=w) (K:=K) (mg:=mg) (base:=base) (CX:=cn) (k:=2) Y Y Y Y Y ax (hr.mono (by decide)) (ak 3) (aA (ak 8) (ak 7))))))))))))))),?_⟩
  refine⟨_,Y,zU,Y,true,by rw[hlk];rfl,bI ?_⟩;refine⟨_,Y,x,c,Y,hx,wi,bd.mono (by lia),λH1 s1=>?_⟩;refine λD hD=>⟨_,Y,zU,fnm,D,Y,Y,hD,hlk,λfa hfa=>?_⟩
  have hx1:=ay.same s1 hx;obtain⟨ca,xs,rfl,hca,hxs⟩:=aO (b:=false) (ds:=c.ds) hx1;have hv1:=hv.same s1;refine⟨_,Y,ca,false,Y,⟨_,hca⟩,bG (es:=[rD (eB n c.a),rD (eB n c.b),rD (eB n c.c)]) hca hxs rfl (by show 3<=1000;decide) (λi e e' u H2 hd he s2 hu R kk S=>?_) (λss H2 s2 hss St hSt=>?_)⟩
  ·obtain⟨y,rfl,rfl,by_⟩:∃ y:Rat,e=rD y/\e'=rD (eB n y)/\Bq k y:=by
    rcases lA hd with ⟨rfl,rfl⟩|⟨rfl,rfl⟩|⟨rfl,rfl⟩
    ·exact⟨c.a,rfl,(O4 he).symm,bd.a⟩
    ·exact⟨c.b,rfl,(O4 he).symm,bd.b⟩
    ·exact⟨c.c,rfl,(O4 he).symm,bd.c⟩
   obtain⟨wa,rfl,hwa⟩:=bj hu;refine⟨wa,_,rfl,dR.of hwa,rfl,_,_,rfl,_,_,rfl,rfl,aX (B:=S H2) ?_⟩;refine⟨_,rfl,_,rfl,_,rfl,a,C,dx,_,rfl,hC,(s1.trans s2) _ _ ha,rfl,.ref a,n,f,rfl,hv1.same s2,h2,h7,λw H3 s3 hw3=>?_⟩;obtain⟨wb,rfl,hwb⟩:=bj (n:=(n:Int)) (d:=lQ n) hw3;refine bM hwb ⟨_,_,rfl,rfl,.inl ⟨by_.sd.mono (by lia),sap.mono (by decide)⟩,_,_,rfl,Qi by_.ne (by lia),(by_.sd.mul sap).mono (by lia),?_⟩;exact jY.sh (Qi by_.ne (by lia)) λw H4 s4 hw4=>kk _ _ ⟨s3.trans s4,hw4⟩
  have sS:ah H2 (upd H2 St (.lst ss)):=ah.new hSt;have hS3:ay K (upd H2 St (.lst ss)) (.list [rD (eB n c.a),rD (eB n c.b),rD (eB n c.c)]) (.ref St):=ay.listN hSt hss;have s3:=(s1.trans s2).trans sS;generalize upd H2 St (.lst ss)=H3 at sS hS3 s3 ⊢;obtain⟨St',ss',eS,hSq,hss3⟩:=aO (b:=true) (ds:=[rD (eB n c.a),rD (eB n c.b),rD (eB n c.c)]) hS3;cases eS;refine⟨_,Y,St,true,Y,⟨_,hSq⟩,bG (es:=[.int ((cA n c.a:Nat):Int),.int ((cA n c.b:Nat):Int),.int ((cA n c.c:Nat):Int)]) hSq hss3 rfl (by show 3<=1000;decide) (λi e e' u H4 hd he s4 hu R kk S=>?_) (λls H4 s4 hls L hL=>?_)⟩
  ·obtain⟨y,rfl,rfl,by_,dv⟩:∃ y:Rat,e=rD (eB n y)/\e'=.int ((cA n y:Nat):Int)/\Bq k y/\Dv n y:=by
    rcases lA hd with ⟨rfl,rfl⟩|⟨rfl,rfl⟩|⟨rfl,rfl⟩
    ·exact⟨c.a,rfl,(O4 he).symm,bd.a,dva⟩
    ·exact⟨c.b,rfl,(O4 he).symm,bd.b,dvb⟩
    ·exact⟨c.c,rfl,(O4 he).symm,bd.c,dvc⟩
   refine aX (B:=S H4) ⟨_,rfl,u,_,_,rfl,hu,(bqs by_).mono (by lia),_,rfl,a,C,dx,_,_,rfl,hC,(s3.trans s4) _ _ ha,rfl,_,_,rfl,rfl,_,_,rfl,?_⟩;have e:(if(n:Int)-2<(eB n y).num.fdiv ((eB n y).den:Int) then(n:Int)-2 else(eB n y).num.fdiv ((eB n y).den:Int))=((cA n y:Nat):Int):=by
    rw[Cc,zg dv];rfl
   rw[e];exact kk _ _ ⟨ah.refl _,.int _⟩
  have els:=dB (ns:=[((cA n c.a:Nat):Int),((cA n c.b:Nat):Int),((cA n c.c:Nat):Int)]) hls;subst els;refine⟨L,_,rfl,.inl ⟨bK.of ag,λle hle=>?_⟩⟩;have s5:ah H3 (upd (upd H4 L (.lst ([((cA n c.a:Nat):Int),((cA n c.b:Nat):Int),((cA n c.c:Nat):Int)].map V.int))) le (.tup ([((cA n c.a:Nat):Int),((cA n c.b:Nat):Int),((cA n c.c:Nat):Int)].map V.int))):=(s4.trans (ah.new hL)).trans (ah.new hle);have hle5:upd (upd H4 L (.lst ([((cA n c.a:Nat):Int),((cA n c.b:Nat):Int),((cA n c.c:Nat):Int)].map V.int))) le (.tup ([((cA n c.a:Nat):Int),((cA n c.b:Nat):Int),((cA n c.c:Nat):Int)].map V.int)) le=M (.tup (kr (iU n c))):=ag;generalize upd (upd H4 L (.lst ([((cA n c.a:Nat):Int),((cA n c.b:Nat):Int),((cA n c.c:Nat):Int)].map V.int))) le (.tup ([((cA n c.a:Nat):Int),((cA n c.b:Nat):Int),((cA n c.c:Nat):Int)].map V.int))=H5 at s5 hle5 ⊢;have brs:∀ r∈[eB n c.a,eB n c.b,eB n c.c],Bq (k+6) r:=λr hr=>by
   simp only[Pq,PR,Rj] at hr;rcases hr with rfl|rfl|rfl
   ·exact bqs bd.a
   ·exact bqs bd.b
   ·exact bqs bd.c
  refine⟨_,rfl,.ref St,true,k+6,[eB n c.a,eB n c.b,eB n c.c],rfl,ay.same s5 hS3,brs,by show 3<=500;decide,by lia,by show 3*(k+6)+(k+6)+1<=7900;lia,λtv H6 s6 htv=>?_⟩;obtain⟨B0,BS⟩:=mH brs 3 (by show 3<=3;decide);rw[P9 (by show 3<=3;decide)] at B0 BS;have dvd:∀ r∈[eB n c.a,eB n c.b,eB n c.c],(r.den:Int)∣eD [eB n c.a,eB n c.b,eB n c.c]:=λr hr=>D_ hr
  have ovs:∀ r∈[eB n c.a,eB n c.b,eB n c.c],Sm (3*(k+6)+(k+6)+1) (ov (eD [eB n c.a,eB n c.b,eB n c.c]) r):=λr hr=>Nd brs hr
  generalize eD [eB n c.a,eB n c.b,eB n c.c]=B at *;obtain⟨ta,ts,rfl,hta,hts⟩:=aO (b:=false) (ds:=[.list ([eB n c.a,eB n c.b,eB n c.c].map λr=>.int (ov B r)),.int B]) htv;obtain⟨t0,rfl,ht0⟩:∃ t0,ts=[t0,.int B]/\ay K H6 (.list ([eB n c.a,eB n c.b,eB n c.c].map λr=>.int (ov B r))) t0:=by
   cases hts with
   |cons k1 k2=>
    cases k2 with
    |cons k3 k4=>
     cases k3;cases k4;exact⟨_,Y,k1⟩
  refine⟨ta,_,Y,hta,Y,_,_,Y,_,_,Y,Y,?_⟩;obtain⟨tl,tls,rfl,htl,htls⟩:=aO (b:=true) (ds:=[eB n c.a,eB n c.b,eB n c.c].map λr=>.int (ov B r)) ht0;have hle6:=s6 _ _ hle5;refine⟨_,Y,_,Y,tl,le,true,false,Y,⟨_,htl⟩,⟨_,dR.of hle6⟩,kc (fs:=[.int (ov B (eB n c.a)-((cA n c.a:Nat):Int)*B),.int (ov B (eB n c.b)-((cA n c.b:Nat):Int)*B),.int (ov B (eB n c.c)-((cA n c.c:Nat):Int)*B)]) htl (show bU K H6 le (kr (iU n c)) false from dR.of hle6) htls (kh [((cA n c.a:Nat):Int),((cA n c.b:Nat):Int),((cA n c.c:Nat):Int)]) Y Y (by show 3<=1000;decide) (λi e e' e'' u v T H7 hd he hf s7 hu hv' hT R kk S=>?_) (λfs H7 s7 hfs F hF=>?_)⟩
  ·have sle:∀ {m:Nat},m+2<=n->Sm 8000 (m:Int):=λh=>Sm.mono (k:=20) (by unfold Sm;lia) (by decide)
   have sB:Sm 8000 B:=BS.mono (by lia);have l1:=fh dva;have l2:=fh dvb;have l3:=fh dvc;rcases lA hd with ⟨rfl,rfl⟩|⟨rfl,rfl⟩|⟨rfl,rfl⟩
   ·cases(O4 he);cases(O4 hf);cases hu;cases hv';exact⟨T,_,rfl,dR.of hT,rfl,_,_,rfl,_,_,rfl,rfl,aX (B:=S H7) ⟨_,rfl,_,rfl,_,rfl,_,_,rfl,rfl,.inl ⟨sle l1,sB⟩,_,_,rfl,rfl,kk _ _ ⟨ah.refl _,.int _⟩⟩⟩
   ·cases(O4 he);cases(O4 hf);cases hu;cases hv';exact⟨T,_,rfl,dR.of hT,rfl,_,_,rfl,_,_,rfl,rfl,aX (B:=S H7) ⟨_,rfl,_,rfl,_,rfl,_,_,rfl,rfl,.inl ⟨sle l2,sB⟩,_,_,rfl,rfl,kk _ _ ⟨ah.refl _,.int _⟩⟩⟩
   ·cases(O4 he);cases(O4 hf);cases hu;cases hv';exact⟨T,_,rfl,dR.of hT,rfl,_,_,rfl,_,_,rfl,rfl,aX (B:=S H7) ⟨_,rfl,_,rfl,_,rfl,_,_,rfl,rfl,.inl ⟨sle l3,sB⟩,_,_,rfl,rfl,kk _ _ ⟨ah.refl _,.int _⟩⟩⟩
  have efs:=dB (ns:=[ov B (eB n c.a)-((cA n c.a:Nat):Int)*B,ov B (eB n c.b)-((cA n c.b:Nat):Int)*B,ov B (eB n c.c)-((cA n c.c:Nat):Int)*B]) hfs;subst efs;have BR:(B:Rat)≠0:=by
   intro z;have:B=0:=by exact_mod_cast z
   lia
  have ra:((ov B (eB n c.a)-((cA n c.a:Nat):Int)*B:Int):Rat)=kg n c.a*(B:Rat):=by
   rw[Qj,PY,Ff (dvd _ (by simp))];unfold kg;grind
  have rb:((ov B (eB n c.b)-((cA n c.b:Nat):Int)*B:Int):Rat)=kg n c.b*(B:Rat):=by
   rw[Qj,PY,Ff (dvd _ (by simp))];unfold kg;grind
  have rc:((ov B (eB n c.c)-((cA n c.c:Nat):Int)*B:Int):Rat)=kg n c.c*(B:Rat):=by
   rw[Qj,PY,Ff (dvd _ (by simp))];unfold kg;grind
  have sf:∀ {y:Rat},y∈[c.a,c.b,c.c]->Dv n y->Sm (4*k+30) (ov B (eB n y)-((cA n y:Nat):Int)*B):=λ{y} hy dv=>by
   have h1:=ovs (eB n y) (by simp only[Pq,PR,Rj] at hy ⊢;rcases hy with rfl|rfl|rfl<;>simp);have h2:Sm (3+(3*(k+6)+1)) (((cA n y:Nat):Int)*B):=(show Sm 3 ((cA n y:Nat):Int) by have:=fh dv;unfold Sm;lia).mul BS;have h3:Sm (4*k+29) (ov B (eB n y)):=h1.mono (by lia);have h4:Sm (4*k+29) (((cA n y:Nat):Int)*B):=h2.mono (by lia);exact h3.sub h4
  have sfa:=sf (by simp) dva;have sfb:=sf (by simp) dvb;have sfc:=sf (by simp) dvc;generalize ov B (eB n c.a)-((cA n c.a:Nat):Int)*B=fx at *;generalize ov B (eB n c.b)-((cA n c.b:Nat):Int)*B=fy at *;generalize ov B (eB n c.c)-((cA n c.c:Nat):Int)*B=fz at *;have s8:ah H7 (upd H7 F (.lst ([fx,fy,fz].map V.int))):=ah.new hF;have hF8:bK K (upd H7 F (.lst ([fx,fy,fz].map V.int))) F [.int fx,.int fy,.int fz]:=bK.of ag;have sAll:ah H (upd H7 F (.lst ([fx,fy,fz].map V.int))):=(((s3.trans s5).trans s6).trans s7).trans s8;have hle8:=(s7.trans s8) _ _ hle6;generalize upd H7 F (.lst ([fx,fy,fz].map V.int))=H8 at s8 hF8 sAll hle8 ⊢;have hB8:Sm (4*k+30) B:=BS.mono (by lia);have cin:∀ t:Kn,t.1<=1->t.2.1<=1->t.2.2<=1->aG (iU n c) t∈bQ n:=λt u1 u2 u3=>by
   rw[cE];have l1:=fh dva;have l2:=fh dvb;have l3:=fh dvc;show cA n c.a+t.1<n/\cA n c.b+t.2.1<n/\cA n c.c+t.2.2<n;lia
  have LI:∀ j,Sm (4*k+30) (a_ fx fy fz j):=λj=>by
   match j with
   |0=>exact sfa
   |1=>exact sfb
   |_+2=>exact sfc
  refine⟨_,Y,a,C,dx,_,Y,hC,sAll _ _ ha,Y,_,Y,?_⟩;rcases hway with rfl|rfl
  ·cases(O4 hlk);refine⟨_,rfl,kb K,(qY T).fnV hfa (by decide),_,rfl,_,rfl,F,fx,fy,fz,B,rfl,hF8,tb.same sAll,λo D9 ys H9 ho p1 p2 s9 hD9 hys=>?_⟩;have fall:Er (bn n c) o:=by
    have mono:∀ i j,a_ fx fy fz i<=a_ fx fy fz j->bn n c i<=bn n c j:=λi j h=>by
     have hp:∀ k,((a_ fx fy fz k:Int):Rat)=bn n c k*(B:Rat):=λk=>by
      match k with
      |0=>exact ra
      |1=>exact rb
      |_+2=>exact rc
     have h':((a_ fx fy fz i:Int):Rat)<=((a_ fx fy fz j:Int):Rat):=by exact_mod_cast h
     rw[hp,hp] at h';exact Tt h' (by exact_mod_cast B0)
    exact⟨ho,mono _ _ p1,mono _ _ p2⟩
   obtain⟨o1,o2,o3⟩:=BQ ho;have un1:∀ {j:Nat},j<3->(un j).1<=1/\(un j).2.1<=1/\(un j).2.2<=1:=λ{j} h=>by
    match j,h with
    |0,_=>decide
    |1,_=>decide
    |2,_=>decide
   have u2:∀ {p:Pc},p∈ju (a_ fx fy fz) B o.1 o.2.1 o.2.2->(p.1.1<=1/\p.1.2.1<=1/\p.1.2.2<=1)/\Sm (4*k+31) p.2:=λ{p} hp=>by
    simp only[vU,Pq,PR,Rj] at ho;simp only[ju,Pq,PR,Rj] at hp;refine⟨?_,?_⟩
    ·rcases ho with rfl|rfl|rfl|rfl|rfl|rfl<;>rcases hp with rfl|rfl|rfl|rfl<;>(dsimp only;decide)
    ·rcases hp with rfl|rfl|rfl|rfl
     ·exact hB8.sub (LI _)
     ·exact(LI _).sub (LI _)
     ·exact(LI _).sub (LI _)
     ·exact(LI _).mono (by lia)
   have wtp:∀ p∈ju (a_ fx fy fz) B o.1 o.2.1 o.2.2,(f (aG (iU n c) p.1)).Wt:=λp hp=>hw _ (cin p.1 (u2 hp).1.1 (u2 hp).1.2.1 (u2 hp).1.2.2)
   refine⟨.ref a,.ref le,D9,ys,n,f,iU n c,_,Y,hv.same (sAll.trans s9),mq (s9 _ _ hle8),hD9,hys,by show 4<=10;decide,hw,λp hp=>cin p.1 (u2 hp).1.1 (u2 hp).1.2.1 (u2 hp).1.2.2,λp hp=>(u2 hp).2.mono (by lia),by rw[uX];lia,by rw[uX];exact hB8.mono (by lia),λw Ha sa hwr=>?_⟩;refine q (ED f (iU n c) (ju (a_ fx fy fz) B o.1 o.2.1 o.2.2)) w Ha ((sAll.trans s9).trans sa) (λ_=>?_) (λz=>absurd z (by decide)) ?_ hwr
   ·refine Q3.ext ?_ ?_ ?_<;>exact(Gf BR ra rb rc).trans (Bl fall)
   ·have h0:((ju (a_ fx fy fz) B o.1 o.2.1 o.2.2).map (·.2)).sum≠0:=by rw[uX];lia
    have bb:∀ {g:R3->Int},(∀ p∈ju (a_ fx fy fz) B o.1 o.2.1 o.2.2,Sm 10 (g (f (aG (iU n c) p.1))))->Bq (12*k+120) (vo f (iU n c) g (ju (a_ fx fy fz) B o.1 o.2.1 o.2.2)):=λhg=>Ok.mono (FI (n:=n) hg (λp hp=>(u2 hp).2) h0) (by show 10+(4*k+31)+4<=12*k+120;lia)
    exact⟨bb λp hp=>(lh (wtp p hp)).1,bb λp hp=>(lh (wtp p hp)).2.1,bb λp hp=>(lh (wtp p hp)).2.2⟩
  ·cases(O4 hlk);refine⟨_,Y,jJ K,(qo T).fnV hfa (by decide),_,Y,_,Y,F,fx,fy,fz,B,4*k+30,Y,hF8,sfa,sfb,sfc,hB8,by lia,λD9 ys H9 s9 hD9 hys=>?_⟩;have u2:∀ {p:Pc},p∈dk (a_ fx fy fz) B->(p.1.1<=1/\p.1.2.1<=1/\p.1.2.2<=1)/\Sm (12*k+94) p.2:=λ{p} hp=>by
    obtain⟨t,ht,rfl⟩:=Qy.mp hp;have:=cE.mp ht;exact⟨by show t.1<=1/\t.2.1<=1/\t.2.2<=1;lia,(Bk (Hw sfa sfb sfc hB8) t 3).mono (by lia)⟩
   have wtp:∀ p∈dk (a_ fx fy fz) B,(f (aG (iU n c) p.1)).Wt:=λp hp=>hw _ (cin p.1 (u2 hp).1.1 (u2 hp).1.2.1 (u2 hp).1.2.2)
   have l8:(dk (a_ fx fy fz) B).length=8:=by unfold dk;rw[Pb];rfl
   have h0:((dk (a_ fx fy fz) B).map (·.2)).sum≠0:=by
    rw[qX];exact Qi (Qi (by lia) (by lia)) (by lia)
   refine⟨.ref a,.ref le,D9,ys,n,f,iU n c,_,Y,hv.same (sAll.trans s9),mq (s9 _ _ hle8),hD9,hys,by rw[l8];decide,hw,λp hp=>cin p.1 (u2 hp).1.1 (u2 hp).1.2.1 (u2 hp).1.2.2,λp hp=>(u2 hp).2.mono (by lia),h0,by rw[qX];exact((hB8.mul hB8).mul hB8).mono (by lia),λw Ha sa hwr=>?_⟩;refine q (ED f (iU n c) (dk (a_ fx fy fz) B)) w Ha ((sAll.trans s9).trans sa) (λz=>absurd z (by decide)) (λ_=>?_) ?_ hwr
   ·refine Q3.ext ?_ ?_ ?_<;>exact DK BR ra rb rc
   ·have bb:∀ {g:R3->Int},(∀ p∈dk (a_ fx fy fz) B,Sm 10 (g (f (aG (iU n c) p.1))))->Bq (12*k+120) (vo f (iU n c) g (dk (a_ fx fy fz) B)):=λhg=>Ok.mono (FI (n:=n) hg (λp hp=>(u2 hp).2) h0) (by rw[l8];lia)
    exact⟨bb λp hp=>(lh (wtp p hp)).1,bb λp hp=>(lh (wtp p hp)).2.1,bb λp hp=>(lh (wtp p hp)).2.2⟩
theorem oI:ao uB9 uB9 (ae cB):=cI
inductive n_ (K:KE)(vs:List V)(H:Hp)(Q:VK)(_:XK):Prop
 |mk (a C dx:Po) (x y:V) (e:En) (_:vs=[.ref a,x,y]) (_:cM K "Ends" C) (_:H a=M (.ins C dx [])) (_:ay K H (c6 false e.w) x) (_:ay K H (c6 false e.b) y) (_:e.In) (_:∀ H',Mv [a] H H'->dJ K H' e (.ref a)->Q .non H')
theorem dG (T:cH K mg w):rH P w K mg base cn 5 "Ends" "__init__" uB9 uD5 1 2 [] (n_ K):=by
  refine T.x3s.cal oI (bb:=λ_ _ _ _ _ H vs Q E hr h=>?_);obtain⟨a,C,dx,x,y,e,rfl,hC,hH,hx,hy,ie,q⟩:=h;refine⟨_,(cr.go (ab (bg (WW.pt (dO (aV (aR (ac ax (lP T) hr (aE (ak 1))))) (dI (aV (aR (ac ax (lP T) hr (aE (ak 2)))))))) (af bD) aI)
   (ab (bg (aV (aR (av (nY (K:=K) rfl rfl) (by rfl) T.x9 jM (aE (aF ["high","low"] [] [] 2 (mC (K:=K) rfl rfl T.xb (aA (ak 1) (ak 2))) (λnd=>(dC (K:=K) (n:=2) rfl rfl (aB (ai 0 nd) (aB (ai 1 nd) bL)))) aD (bX wL (ak 0) (ak 1) (aZ _))))))) (af bD) aI)
   (ab (dZ (K:=K) (x:="Ends") rfl T.x6 (.head _) (ak 0) (ak 1))
   (af (dZ (K:=K) (x:="Ends") rfl T.x6 (.tail _ (.head _)) (ak 0) (ak 2))))))),?_⟩
  have ok:∀ {i j k:Int},0<=i->i<=1000->0<=j->j<=1000->0<=k->k<=1000->([i,j,k].all λz=>decide (0<=z)&&decide (z<=1000))=true:=λ{i j k} h1 h2 h3 h4 h5 h6=>by
   simp[h1,h2,h3,h4,h5,h6]
  have⟨a0,a1,a2,b0,b1,b2,c0,c1,c2⟩:=ie;refine⟨_,Y,x,[e.w.a,e.w.b,e.w.c],Y,hx,Y,λH1 s1=>⟨_,Y,?_⟩⟩;rw[ok (by lia) (by lia) (by lia) (by lia) (by lia) (by lia)];refine bI ?_;refine⟨_,Y,y,[e.b.a,e.b.b,e.b.c],Y,ay.same s1 hy,Y,λH2 s2=>⟨_,Y,?_⟩⟩;rw[ok (by lia) (by lia) (by lia) (by lia) (by lia) (by lia)];refine bI ?_;have s12:=s1.trans s2;obtain⟨p,xs,rfl,hp,hds⟩:=aO (b:=false) (ay.same s12 hx);obtain⟨r,ys,rfl,hr',hes⟩:=aO (b:=false) (ay.same s12 hy);refine⟨_,Y,_,Y,p,r,false,false,Y,⟨_,hp⟩,⟨_,hr'⟩,kc (fs:=[.bool true,.bool true,.bool true]) hp hr' hds hes rfl rfl (by show 3<=1000;decide) (λi d e' f x y T H3 hd he hf s3 hx3 hy3 hT R kk S=>?_) (λzs H3 s3 hzs D hD=>?_)⟩
  ·obtain⟨n,rfl,hn⟩:=R3.at (r:=e.w) hd;obtain⟨m,rfl,hm⟩:=R3.at (r:=e.b) he;have hf:f=.bool true:=by rcases lA hf with ⟨_,rfl⟩|⟨_,rfl⟩|⟨_,rfl⟩<;>rfl
   subst hf;cases hx3;cases hy3;refine⟨T,_,rfl,dR.of hT,rfl,_,_,rfl,_,_,rfl,rfl,?_⟩;refine aX (B:=S H3) ⟨_,rfl,_,rfl,_,_,rfl,rfl,?_⟩
   (try dsimp only)
   rw[Ph (show m<n by lia)];exact kk _ _ ⟨ah.refl _,.bl _⟩
  ·have ez:=f6 (bs:=[true,true,true]) hzs;subst ez;refine⟨D,[true,true,true],rfl,bK.of ag,_,rfl,bI ?_⟩;have sD:ah H (upd H3 D (.lst ([true,true,true].map V.bl))):=(s12.trans s3).trans (ah.new hD);generalize upd H3 D (.lst ([true,true,true].map V.bl))=G at sD ⊢;have hx':=ay.same sD hx;have hy':=ay.same sD hy;have ha:=sD _ _ hH;refine⟨_,rfl,_,rfl,a,C,dx,[],rfl,hC,ha,by decide,?_⟩;refine⟨_,rfl,_,rfl,a,C,dx,_,rfl,hC,ag,(by show 1<1000;decide),?_⟩;rw[JN];have mv:∀ {o:HO},Mv [a] G (upd G a o):=λb u z nb=>by rw[au (λw=>nb (by simp[w]))];exact z
   refine q _ (λb u z nb=>mv b u (sD _ _ z) nb) ⟨a,C,dx,_,_,Y,hC,ag,ay.sameI (fG.put ha) hx',ay.sameI (fG.put ha) hy'⟩
theorem Ii:ao uC5 uC5 (ae zN):=cI
inductive GB (K:KE)(vs:List V)(H:Hp)(Q:VK)(_:XK):Prop
 |mk (v:V) (e:En) (_:vs=[v]) (_:uD K H e v) (_:∀ L H',ah H H'->xU K H' e L->Q (.ref L) H')
theorem AZ (T:cH K mg w):c9 P w K mg base cn 1 "spans" uC5 [] (GB K):=by
  refine T.x28.cal Ii (bb:=λ_ _ _ _ _ H vs Q E hr h=>?_);obtain⟨v,e,rfl,he,q⟩:=h;obtain⟨a,C,dx,x,y,rfl,hC,ha,⟨p,rfl,hp⟩,⟨r,rfl,hr'⟩⟩:=he;refine⟨_,(cr.go (af (aq (AM (K:=K) rfl rfl (by rfl) T.xa (by rfl) T.xb (aA (bN (K:=K) (x:="Ends") rfl T.x6 (.tail _ (.head _)) (ak 0)) (bN (K:=K) (x:="Ends") rfl T.x6 (.head _) (ak 0))))))),?_⟩;refine⟨_,rfl,a,C,dx,_,_,rfl,hC,ha,rfl,_,rfl,a,C,dx,_,_,rfl,hC,ha,rfl,?_⟩;refine⟨r,p,false,false,_,_,_,_,_,_,rfl,hr',hp,λL t0 t1 t2 h0 h1 h2 hL n01 n02 n12 n0 n1 n2=>?_⟩;have h1':upd H t0 (.tup [V.int e.b.a,.int e.w.a]) t1=none:=by rw[au n01.symm];exact h1
  have h2':upd (upd H t0 (.tup [V.int e.b.a,.int e.w.a])) t1 (.tup [V.int e.b.b,.int e.w.b]) t2=none:=by rw[au n12.symm,au n02.symm];exact h2
  have hL':upd (upd (upd H t0 (.tup [V.int e.b.a,.int e.w.a])) t1 (.tup [V.int e.b.b,.int e.w.b])) t2 (.tup [V.int e.b.c,.int e.w.c]) L=none:=by rw[au n2.symm,au n1.symm,au n0.symm];exact hL
  have s1:ah H (upd H t0 (.tup [V.int e.b.a,.int e.w.a])):=ah.new h0;have s2:=ah.new (o:=.tup [V.int e.b.b,.int e.w.b]) h1';have s3:=ah.new (o:=.tup [V.int e.b.c,.int e.w.c]) h2';have s4:=ah.new (o:=.lst [.ref t0,.ref t1,.ref t2]) hL';exact q L _ (((s1.trans s2).trans s3).trans s4) ⟨t0,t1,t2,ag,s4 _ _ (s3 _ _ (s2 _ _ ag)),s4 _ _ (s3 _ _ ag),s4 _ _ ag⟩
theorem rh:ao uA7 uA7 (ae h_):=cI
inductive rj (K:KE)(vs:List V)(H:Hp)(Q:VK)(_:XK):Prop
 |mk (y z:V) (b1 w1 b2 w2:Int) (_:vs=[y,z]) (_:ay K H (ot b1 w1) y) (_:ay K H (ot b2 w2) z) (_:(0<=b1/\b1<w1/\w1<=1000)) (_:(0<=b2/\b2<w2/\w2<=1000)) (_:jY K H ((w2:Rat)/(w1:Rat)) Q)
theorem qC (T:cH K mg w):c9 P w K mg base cn 3 "white_measure" uA7 [] (rj K):=by
  refine T.x29.cal rh (bb:=λ_ _ _ _ _ H vs Q E hr h=>?_);obtain⟨y,z,b1,w1,b2,w2,rfl,hy,hz,⟨i1,i2,i3⟩,⟨j1,j2,j3⟩,k⟩:=h;refine⟨_,(cr.go (af (aq (ac ax (cW T T.xd) hr (aA (am K (ak 1) aa) (am K (ak 0) aa)))))),?_⟩;obtain⟨a,rfl,ha⟩:=bj hy;obtain⟨b,rfl,hb⟩:=bj hz;exact⟨_,rfl,bM hb ⟨_,rfl,bM ha ⟨_,_,rfl,by lia,(pW (by lia) (by lia)).mono (by decide),jY.sh (by lia) k⟩⟩⟩
theorem nC:ao uA7 uA7 (ae fb):=cI
inductive nv (K:KE)(vs:List V)(H:Hp)(Q:VK)(_:XK):Prop
 |mk (y z:V) (b1 w1 b2 w2:Int) (_:vs=[y,z]) (_:ay K H (ot b1 w1) y) (_:ay K H (ot b2 w2) z) (_:(0<=b1/\b1<w1/\w1<=1000)) (_:(0<=b2/\b2<w2/\w2<=1000)) (_:jY K H (((w2-b2:Int):Rat)/((w1-b1:Int):Rat)) Q)
theorem nK (T:cH K mg w):c9 P w K mg base cn 3 "squeezed_measure" uA7 [] (nv K):=by
  refine T.x2a.cal nC (bb:=λ_ _ _ _ _ H vs Q E hr h=>?_);obtain⟨y,z,b1,w1,b2,w2,rfl,hy,hz,⟨i1,i2,i3⟩,⟨j1,j2,j3⟩,k⟩:=h;refine⟨_,(cr.go (af (aq (ac ax (cW T T.xd) hr (aA (ar cC (am K (ak 1) aa) (am K (ak 1) aa)) (ar cC (am K (ak 0) aa) (am K (ak 0) aa))))))),?_⟩;obtain⟨a,rfl,ha⟩:=bj hy;obtain⟨b,rfl,hb⟩:=bj hz;refine⟨_,rfl,bM hb ⟨_,rfl,cx hb ⟨_,_,rfl,rfl,?_⟩⟩⟩;exact⟨_,rfl,bM ha ⟨_,rfl,cx ha ⟨_,_,rfl,rfl,_,_,rfl,by lia,(pW (by lia) (by lia)).mono (by decide),jY.sh (by lia) k⟩⟩⟩
theorem AO:ao tR tR (ae oJ):=cI
def A0 (K:KE):Sp:=Hl K "same"
theorem AK (T:cH K mg w):c9 P w K mg base cn 1 "led_same" tR [] (A0 K):=by
 refine T.x2b.cal AO (λvs H Q E h=>?_) (λf cdv A outer s H vs Q E hr h=>?_)
 ·obtain⟨x,y,z,q,b1,w1,b2,w2,rfl,_⟩:=h;rfl
 ·obtain⟨x,y,z,q,b1,w1,b2,w2,rfl,hx,bq,hy,hz,i1,i2,k⟩:=h;refine⟨_,(cr.go (af (aq (ak 0)))),?_⟩;rw[Gh] at k;exact⟨_,rfl,k x H (ah.refl _) hx⟩
theorem sV:ao tR tR (ae i8):=cI
def sX (K:KE):Sp:=Hl K "white"
theorem r0 (T:cH K mg w):c9 P w K mg base cn 5 "led_by_white" tR [] (sX K):=by
 refine T.x2c.cal sV (λvs H Q E h=>?_) (λf cdv A outer s H vs Q E hr h=>?_)
 ·obtain⟨x,y,z,q,b1,w1,b2,w2,rfl,_⟩:=h;rfl
 ·obtain⟨x,y,z,q,b1,w1,b2,w2,rfl,hx,bq,hy,hz,⟨i1,i2,i3⟩,⟨j1,j2,j3⟩,k⟩:=h;refine⟨_,(cr.go (af (aq (ac ax (jL T) hr (aA (ak 0) (ac ax (qC T) hr (aA (ak 1) (ak 2)))))))),?_⟩;rw[Et] at k;refine⟨_,rfl,_,rfl,_,rfl,y,z,b1,w1,b2,w2,rfl,hy,hz,⟨i1,i2,i3⟩,⟨j1,j2,j3⟩,λv H1 s1 hv=>?_⟩;have bw:Bq 10 ((w2:Rat)/(w1:Rat)):=jg (by lia) (pW (by lia) j3) (pW (by lia) i3);exact⟨_,_,_,_,_,_,rfl,ay.same s1 hx,hv,bq.mono (by decide),bw.mono (by decide),jY.mul λv2 H2 s2 hv2=>k v2 H2 (s1.trans s2) hv2⟩
theorem lr:ao ["number","here","there","above"] tR (ae i7):=cI
def sY (K:KE):Sp:=Hl K "squeezed"
theorem tF (T:cH K mg w):c9 P w K mg base cn 5 "led_squeezed" tR [] (sY K):=by
 refine T.x2d.cal lr (λvs H Q E h=>?_) (λf cdv A outer s H vs Q E hr h=>?_)
 ·obtain⟨x,y,z,q,b1,w1,b2,w2,rfl,_⟩:=h;rfl
 ·obtain⟨x,y,z,q,b1,w1,b2,w2,rfl,hx,bq,hy,hz,⟨i1,i2,i3⟩,⟨j1,j2,j3⟩,k⟩:=h;refine⟨_,(cr.go (ab (aw 3 lr.nd (ac ax (vD T) hr (aA (ak 0) (ac ax (cW T T.xe) hr (aE (uK ud (am K (ak 1) aa)))))))
   (af (aq (ac ax (vD T) hr (aA (ac ax (cW T T.xe) hr (aE (am K (ak 2) aa))) (ac ax (jL T) hr (aA (ak 3) (ac ax (nK T) hr (aA (ak 1) (ak 2))))))))))),?_⟩
  rw[xO] at k;obtain⟨a,rfl,ha⟩:=bj hy;obtain⟨b,rfl,hb⟩:=bj hz;have one:∀ {n:Int}{Q:VK}{H:Hp},jY K H (n:Rat) Q->Sh K H n 1 Q:=λ{n Q H} h=>jY.sh (by decide) (by rw[ul];exact h)
  have s1':Sm 8000 (1:Int):=by unfold Sm;decide
  refine⟨_,Y,_,Y,cx ha ⟨_,Y,_,_,Y,by decide,s1',one λv1 H1 s1 hv1=>?_⟩⟩;have bb:Bq 10 ((-b1:Int):Rat):=fS (pW (by lia) (by lia)) (by decide);refine⟨_,_,_,_,_,_,Y,ay.same s1 hx,hv1,bq.mono (by decide),bb.mono (by decide),jY.add λv2 H2 s2 hv2=>?_⟩;have s12:=s1.trans s2;have ba:Bq 611 (q+((-b1:Int):Rat)):=Bq.add bq bb;refine⟨_,Y,cx (s12 _ _ hb) ⟨_,_,Y,by decide,s1',one λv4 H4 s4 hv4=>?_⟩⟩;have s14:=s12.trans s4;refine⟨_,Y,_,Y,_,Y,_,_,b1,w1,b2,w2,Y,ay.same s14 hy,ay.same s14 hz,⟨i1,i2,i3⟩,⟨j1,j2,j3⟩,λv3 H3 s3 hv3=>?_⟩;have bm:Bq 10 (((w2-b2:Int):Rat)/((w1-b1:Int):Rat)):=jg (by lia) (pW (by lia) (by lia)) (pW (by lia) (by lia));refine⟨_,_,_,_,_,_,Y,ay.same (s4.trans s3) hv2,hv3,ba.mono (by decide),bm.mono (by decide),jY.mul λv5 H5 s5 hv5=>?_⟩;have b2q:Bq 10 (b2:Rat):=fS (pW (by lia) (by lia)) (by decide);exact⟨_,_,_,_,_,_,Y,ay.same (s3.trans s5) hv4,hv5,b2q.mono (by decide),(ba.mul bm).mono (by decide),jY.add λv6 H6 s6 hv6=>k v6 H6 (((s14.trans s3).trans s5).trans s6) hv6⟩
theorem mj:ao ["number","here","there","black","white"] tR (ae jO):=cI
def vn (K:KE):Sp:=Hl K "clipped"
theorem u6 (T:cH K mg w):c9 P w K mg base cn 3 "led_clipped" tR [] (vn K):=by
 refine T.x2e.cal mj (λvs H Q E h=>?_) (λf cdv A outer s H vs Q E hr h=>?_)
 ·obtain⟨x,y,z,q,b1,w1,b2,w2,rfl,_⟩:=h;rfl
 ·obtain⟨x,y,z,q,b1,w1,b2,w2,rfl,hx,bq,hy,hz,⟨i1,i2,i3⟩,⟨j1,j2,j3⟩,k⟩:=h;refine⟨_,(cr.go (ab (mV (i:=3) (j:=4) Y mj.nd rfl rfl (by decide) Y Y (aA (ac ax (cW T T.xe) hr (aE (am K (ak 2) aa))) (ac ax (cW T T.xe) hr (aE (am K (ak 2) aa)))) Y)
   (ab (bg (aR (ac ax (oH T) hr (aA (ak 0) (ak 3)))) (af (aq (ak 3))) aI)
   (ab (bg (aR (ac ax (oH T) hr (aA (ak 4) (ak 0)))) (af (aq (ak 4))) aI)
   (af (aq (ak 0))))))),?_⟩
  rw[Be] at k;obtain⟨b,rfl,hb⟩:=bj hz;have one:∀ {n:Int}{Q:VK}{H:Hp},jY K H (n:Rat) Q->Sh K H n 1 Q:=λ{n Q H} h=>jY.sh (by decide) (by rw[ul];exact h)
  have s1':Sm 8000 (1:Int):=by unfold Sm;decide
  have bi:∀ {n:Int},-1000<=n->n<=1000->Bq 3900 (n:Rat):=λh0 h=>(fS (pW h0 h) (by decide)).mono (by decide)
  refine⟨_,Y,cx hb ⟨_,_,Y,by decide,s1',one λv1 H1 s1 hv1=>?_⟩⟩;refine⟨_,Y,bM (s1 _ _ hb) ⟨_,_,Y,by decide,s1',one λv2 H2 s2 hv2=>⟨_,_,Y,?_⟩⟩⟩;have hx2:=ay.same (s1.trans s2) hx;refine⟨_,Y,_,Y,_,_,_,_,Y,hx2,ay.same s2 hv1,bq.mono (by decide),bi (by lia) (by lia),_,Y,?_⟩;refine f9 (λhc=>?_) (λhc=>?_)
  ·rw[Qh (QH hc)] at k;exact⟨_,Y,k _ _ (s1.trans s2) (ay.same s2 hv1)⟩
  ·rw[P3 (λz=>hc (Ph z))] at k;refine⟨_,Y,_,Y,_,_,_,_,Y,hv2,hx2,bi (by lia) (by lia),bq.mono (by decide),_,Y,?_⟩;refine f9 (λhc=>?_) (λhc=>?_)
   ·rw[Qh (QH hc)] at k;exact⟨_,Y,k _ _ (s1.trans s2) hv2⟩
   ·rw[P3 (λz=>hc (Ph z))] at k;exact⟨_,Y,k _ _ (s1.trans s2) hx2⟩
theorem zH:ao j0 j0 (ae lR):=cI
inductive yf (K:KE)(vs:List V)(H:Hp)(Q:VK)(_:XK):Prop
 |mk (i:Str) (_:vs=[.str i]) (_:Q (.bl (mI.lookup i).isSome) H)
theorem yP (T:cH K mg w):c9 P w K mg base cn 1 "is_intent" j0 [] (yf K):=by
  refine T.x2f.cal zH (bb:=λ_ _ _ _ _ H vs Q E hr h=>?_);obtain⟨i,rfl,q⟩:=h;refine⟨_,(cr.go (af (aq (dA (av (km (K:=K) rfl) (by rfl) T.x2 aK (aA (ak 0) (bY (v:=.ty "str") rfl T.xr Gu rfl))) (eT (bX (Ai (K:=K) (w:=w) (mg:=mg) (kvs:=[("same","led_same"),("white","led_by_white"),("squeezed","led_squeezed"),("clipped","led_clipped")]) rfl rfl) (ak 0) (tH (K:=K) (w:=w) (mg:=mg) (kvs:=[("same","led_same"),("white","led_by_white"),("squeezed","led_squeezed"),("clipped","led_clipped")]) rfl T.xt) rfl)))))),?_⟩;refine⟨_,rfl,_,_,_,true,rfl,.str i,(show iD "str" "str"=M true by decide +kernel),_,rfl,aX ?_⟩;exact⟨_,rfl,λD hD=>⟨i,D,rfl,rfl,hD,q⟩⟩
theorem ni:ao j0 j0 (ae ff):=cI
inductive nB (K:KE)(vs:List V)(H:Hp)(Q:VK)(_:XK):Prop
 |mk (i n:Str) (_:vs=[.str i]) (_:mI.lookup i=M n) (_:Q .non H)
theorem nk (T:cH K mg w):c9 P w K mg base cn 2 "refuse_no_intent" j0 [] (nB K):=by
  refine T.x2g.cal ni (bb:=λ_ _ _ _ _ H vs Q E hr h=>?_);obtain⟨i,n,rfl,hn,q⟩:=h;refine⟨_,(cr.go (af (bg (aV (aR (ac ax (yP T) hr (aE (ak 0))))) (af bD) aI))),?_⟩;refine⟨_,rfl,i,rfl,_,rfl,?_⟩;rw[hn];exact bI q
theorem pV:ao j0 j0 (ae gK):=cI
inductive pR (K:KE)(vs:List V)(H:Hp)(Q:VK)(_:XK):Prop
 |mk (v:V) (e:En) (_:vs=[v]) (_:uD K H e v) (_:Q .non H)
theorem jF (T:cH K mg w):c9 P w K mg base cn 1 "refuse_no_ends" j0 [] (pR K):=by
  refine T.x2h.cal pV (bb:=λ_ _ _ _ _ H vs Q E hr h=>?_);obtain⟨v,e,rfl,he,q⟩:=h;obtain⟨a,C,dx,x,y,rfl,hC,ha,_⟩:=he;refine⟨_,(cr.go (af (bg (aV (aR (av (Aq (K:=K) (x:="Ends") rfl T.x6 T.xk) (by rfl) T.x2 aK (aA (ak 0) (kI (K:=K) (x:="Ends") rfl rfl (gh T.x6)))))) (af bD) aI))),?_⟩;refine⟨_,rfl,λD hD=>?_⟩;cases bH hD hC;exact⟨_,_,rfl,hC,.inl ⟨a,dx,_,rfl,ha,_,rfl,bI q⟩⟩
theorem p7:ao ["worth","intent","here","there","lead"] uB6 (ae fA):=cI
inductive yY (K:KE)(vs:List V)(H:Hp)(Q:VK)(_:XK):Prop
 |mk (x u t:V) (i n:Str) (c:Q3) (e1 e2:En) (_:vs=[x,.str i,u,t]) (_:ay K H c.col x) (_:c.Bd 600) (_:mI.lookup i=M n) (_:uD K H e1 u) (_:uD K H e2 t) (_:e1.In) (_:e2.In) (_:∀ v H',ah H H'->ay K H' (Mc i e1 e2 c).col v->Q v H')
theorem qx (T:cH K mg w):GG P w K mg base cn 6 "led_worth" uB6 uA7 2 2 [] (yY K):=by
  refine T.x3t.cal p7 (bb:=λ_ _ _ _ _ H vs Q E hr h=>?_);obtain⟨x,u,t,i,n,c,e1,e2,rfl,hx,bc,hn,h1,h2,i1,i2,q⟩:=h;refine⟨_,(cr.go (ab (bt (ac ax (iG T) hr (aE (ak 0))))
   (ab (bt (ac ax (nk T) hr (aE (ak 1))))
   (ab (bt (ac ax (jF T) hr (aE (ak 2))))
   (ab (bt (ac ax (jF T) hr (aE (ak 3))))
   (ab (aw 4 p7.nd (BL (Fu (K:=K) (w:=w) (mg:=mg) (kvs:=[("same","led_same"),("white","led_by_white"),("squeezed","led_squeezed"),("clipped","led_clipped")]) rfl rfl) (tH (K:=K) (w:=w) (mg:=mg) (kvs:=[("same","led_same"),("white","led_by_white"),("squeezed","led_squeezed"),("clipped","led_clipped")]) rfl T.xt) (ak 1) (λ_ _=>rfl)))
   (af (aq (aW (cK (K:=K) rfl) (by rfl) T.x0 bA (aE (aF ["number","near","far"] ["lead"] [4] 3 (Je (K:=K) rfl rfl T.xb (aj (ak 0) (aj (ac ax (AZ T) hr (aE (ak 2))) (aj (ac ax (AZ T) hr (aE (ak 3))) aQ)))) (λnd=>(BW (K:=K) (n:=3) rfl rfl (aB (ai 0 nd) (aB (ai 1 nd) (aB (ai 2 nd) bL))))) aD (Bb (P:=P) (w:=w) (K:=K) (mg:=mg) (base:=base) (CX:=cn) (k:=5) rfl rfl rfl rfl rfl ax (hr.mono (by decide)) (ak 3) (aj (ak 0) (aj (ak 1) (aj (ak 2) aQ))))))))))))))),?_⟩
  refine⟨_,rfl,x,c.a,c.b,c.c,rfl,hx,λH1 s1=>?_⟩;refine⟨_,rfl,i,n,rfl,hn,?_⟩;refine⟨_,rfl,u,e1,rfl,h1.same s1,?_⟩;refine⟨_,rfl,t,e2,rfl,h2.same s1,?_⟩;refine λD hD=>⟨_,Y,i,n,D,Y,Y,hD,hn,λf hf=>?_⟩
  have fn:∀ {k:Nat},5<=k->Oj P w K mg base cn k (.ref f) (Hl K i):=λ{k} hk=>by
   rcases Bt hn with ⟨rfl,rfl⟩|⟨rfl,rfl⟩|⟨rfl,rfl⟩|⟨rfl,rfl⟩
   ·exact(AK T).fnV hf (by lia)
   ·exact(r0 T).fnV hf (by lia)
   ·exact(tF T).fnV hf (by lia)
   ·exact(u6 T).fnV hf (by lia)
  refine⟨_,rfl,_,rfl,u,e1,rfl,h1.same s1,λL H2 s2 hL=>?_⟩;refine⟨_,rfl,t,e2,rfl,h2.same (s1.trans s2),λL2 H3 s3 hL2=>?_⟩;have hx3:=ay.same ((s1.trans s2).trans s3) hx;obtain⟨a,xs,rfl,ha,hds⟩:=aO (b:=false) hx3;obtain⟨x0,x1,x2,rfl,d0,d1,d2⟩:=fw hds;obtain⟨t0,t1,t2,g,g0,g1,g2⟩:=hL.same s3;obtain⟨u0,u1,u2,k,k0,k1,k2⟩:=hL2;refine⟨a,L,L2,rfl,⟨_,ha⟩,⟨_,bK.of g⟩,⟨_,bK.of k⟩,Gz (es:=(Mc i e1 e2 c).ds) ha (bK.of g) (bK.of k) rfl (λj e x y z T H4 he hx hy hz s4 hT R kk S=>?_) (λvs H4 s4 hvs D2 hD2=>?_)⟩
  ·refine⟨T,_,rfl,.inr (dR.of hT),rfl,_,_,rfl,_,_,rfl,_,_,rfl,rfl,?_⟩;refine aX (B:=S H4) ⟨_,rfl,_,fn (by decide),_,rfl,_,rfl,_,rfl,?_⟩;rcases lA he with ⟨rfl,rfl⟩|⟨rfl,rfl⟩|⟨rfl,rfl⟩
   ·cases hx;cases hy;cases hz;exact⟨_,_,_,c.a,_,_,_,_,rfl,ay.same s4 d0,bc.a,iA (s4 _ _ g0),iA (s4 _ _ k0),⟨i1.a0,i1.a1,i1.a2⟩,⟨i2.a0,i2.a1,i2.a2⟩,λv5 H5 s5 hv5=>kk _ _ ⟨s5,hv5⟩⟩
   ·cases hx;cases hy;cases hz;exact⟨_,_,_,c.b,_,_,_,_,rfl,ay.same s4 d1,bc.b,iA (s4 _ _ g1),iA (s4 _ _ k1),⟨i1.b0,i1.b1,i1.b2⟩,⟨i2.b0,i2.b1,i2.b2⟩,λv5 H5 s5 hv5=>kk _ _ ⟨s5,hv5⟩⟩
   ·cases hx;cases hy;cases hz;exact⟨_,_,_,c.c,_,_,_,_,rfl,ay.same s4 d2,bc.c,iA (s4 _ _ g2),iA (s4 _ _ k2),⟨i1.c0,i1.c1,i1.c2⟩,⟨i2.c0,i2.c1,i2.c2⟩,λv5 H5 s5 hv5=>kk _ _ ⟨s5,hv5⟩⟩
  ·refine⟨D2,vs,rfl,.inl ⟨bK.of ag,λl hl=>?_⟩⟩;exact q _ _ ((((s1.trans s2).trans s3).trans s4).trans ((ah.new hD2).trans (ah.new hl))) (ay.tupN (ds:=(Mc i e1 e2 c).ds) hl (az.same (ah.new hD2) hvs))
theorem AI:ao j0 j0 (ae oS):=cI
inductive Ak (K:KE)(vs:List V)(H:Hp)(Q:VK)(_:XK):Prop
 |mk (x:V) (p:Pt) (_:vs=[x]) (_:ay K H (rY p) x) (_:p.In) (_:∀ H',ah H H'->Q (.bl true) H')
theorem Bf (T:cH K mg w):c9 P w K mg base cn 4 "is_point" j0 [] (Ak K):=by
  refine T.x2i.cal AI (bb:=λ_ _ _ _ _ H vs Q E hr h=>?_);obtain⟨x,p,rfl,hx,ip,q⟩:=h;refine⟨_,(cr.go (af (aq (ac ax (eY T) hr (aj (ak 0) (aj aa (aj aa (aj (c5 rfl T.xy) aQ)))))))),?_⟩;refine⟨_,rfl,x,[p.1,p.2],2,0,1000,rfl,hx,rfl,by show 2<=1000;decide,λH' s=>?_⟩;have e:([p.1,p.2].all λk=>decide (0<=k)&&decide (k<=1000))=true:=by
   show((decide (0<=p.1)&&decide (p.1<=1000))&&((decide (0<=p.2)&&decide (p.2<=1000))&&true))=true;rw[Ph ip.a1,Ph ip.a2,Ph ip.b1,Ph ip.b2];rfl
  rw[e];exact q _ s
theorem yJ:ao uE3 uE3 (ae l9):=cI
inductive zK (K:KE)(vs:List V)(H:Hp)(Q:VK)(_:XK):Prop
 |mk (x y:V) (p q:Pt) (_:vs=[x,y]) (_:ay K H (rY p) x) (_:ay K H (rY q) y) (_:Q (.bl (decide (p.1<q.1)&&decide (p.2<=q.2))) H)
theorem zh (T:cH K mg w):c9 P w K mg base cn 1 "is_onward" uE3 [] (zK K):=by
  refine T.x2j.cal yJ (bb:=λ_ _ _ _ _ H vs Q E hr h=>?_);obtain⟨x,y,p,r,rfl,hx,hy,q⟩:=h;obtain⟨a,rfl,ha⟩:=bj hx;obtain⟨b,rfl,hb⟩:=bj hy;refine⟨_,(cr.go (af (aq (dA (bX wX (am K (ak 0) aa) (am K (ak 1) aa) (aZ _)) (eT (bX rR (am K (ak 0) aa) (am K (ak 1) aa) (aZ _))))))),?_⟩;refine⟨_,rfl,cx ha ⟨_,rfl,cx hb ⟨_,_,rfl,rfl,decide (p.1<r.1),rfl,?_⟩⟩⟩;cases hc:decide (p.1<r.1) with
  |true=>
   rw[hc,VX] at q;exact aX ⟨_,Y,bM ha ⟨_,Y,bM hb ⟨_,_,Y,Y,q⟩⟩⟩
  |false=>
   rw[hc,Tv] at q;exact bI q
theorem ym:ao j0 j0 (ae lY):=cI
inductive zo (K:KE)(vs:List V)(H:Hp)(Q:VK)(_:XK):Prop
 |mk (x:V) (ps:List Pt) (_:vs=[x]) (_:ay K H (Jb ps) x) (_:z_ ps) (_:∀ H',ah H H'->Q (.bl true) H')
theorem y7 (T:cH K mg w):c9 P w K mg base cn 5 "is_points" j0 [] (zo K):=by
  refine T.x2k.cal ym (bb:=λ_ _ _ _ _ H vs Q E hr h=>?_);obtain⟨x,ps,rfl,hx,hp,q⟩:=h;refine⟨_,(cr.go (ab (bg (WW.pt (dO (aV (aR (av (km (K:=K) rfl) (by rfl) T.x2 aK (aA (ak 0) (bY (v:=.ty "list") rfl T.xa gS rfl))))) (dI (aV (Ez rR rR (c5 rfl T.xw) (av (f_ (K:=K) rfl) (by rfl) T.x4 dH (aE (ak 0))) (c5 rfl T.x10)))))) (af (aq iy)) aI)
   (ab (bg (WW.pt (dO (aV (aR (av (nY (K:=K) rfl rfl) (by rfl) T.x9 jM (aE (aF ["point"] [] [] 1 (bo (K:=K) rfl (ak 0)) (λnd=>(ai 0 nd)) aD (ac ax (Bf T) hr (aE (ak 0)))))))) (dI (be o_ (am K (am K (ak 0) aa) aa) aa (aZ _))))) (af (aq iy)) aI)
   (af (aq (av (nY (K:=K) rfl rfl) (by rfl) T.x9 jM (aE (aF uE3 [] [] 2 (mC (K:=K) rfl rfl T.xb (aA (ak 0) (wZ (M2 (K:=K) rfl) (ak 0) (Bm aa) AC))) (λnd=>(dC (K:=K) (n:=2) rfl rfl (aB (ai 0 nd) (aB (ai 1 nd) bL)))) aD (ac ax (zh T) hr (aA (ak 0) (ak 1))))))))))),?_⟩
  refine⟨_,rfl,_,_,_,true,rfl,hx.ty,(show iD "list" "list"=M true by decide +kernel),_,rfl,bI ?_⟩;obtain⟨l,xs,rfl,hl,hds⟩:=aO (b:=true) hx;have hlen:=hds.length;rw[Pb] at hlen;have two:=hp.two;have few:=hp.few;refine⟨_,rfl,l,_,rfl,oO hl,?_⟩;refine⟨_,_,rfl,rfl,true,qi (by lia),aX ⟨_,_,rfl,rfl,true,qi (by lia),bI ?_⟩⟩;have tr:∀ n:Nat,(Px n true).all id=true:=λn=>by induction n with
   |zero=>rfl
   |succ n ih=>rw[Rs,UH,ih];rfl
  refine⟨_,Y,l,true,Y,⟨_,hl⟩,mD (f:=λ_=>.bool true) hl hds (by rw[Pb];lia) (λi d x H2 hd s2 hx2 R kk S=>?_) (λys H2 s2 hys D hD=>?_)⟩
  ·rw[Ps] at hd;cases e:ps[i]? with
   |none=>rw[e] at hd;cases hd
   |some p=>
    rw[e] at hd;cases hd;exact aX (B:=S H2) ⟨_,Y,x,p,Y,hx2,hp.inn p (PL e),λH3 s3=>kk _ _ ⟨s3,.bl _⟩⟩
  have hys:az K H2 ((Px ps.length true).map TM) ys:=by
   have e:(ps.map rY).map (λ_=>TM true)=(Px ps.length true).map TM:=by
    rw[TU,Vg];exact Wm.mpr ⟨by simp,λb hb=>by obtain⟨_,_,h⟩:=Qy.mp hb;exact h.symm⟩
   rw[<- e];exact hys
  have e:=f6 hys;subst e;refine⟨D,_,Y,bK.of ag,_,Y,?_⟩;rw[tr];refine bI ?_;have s3:ah H (upd H2 D (.lst ((Px ps.length true).map V.bl))):=s2.trans (ah.new hD);generalize upd H2 D (.lst ((Px ps.length true).map V.bl))=H3 at s3 ⊢;clear hys s2 hD;have e0:ps[0]?=M ps[0]:=Pw (by lia);obtain⟨v0,ev0,hv0⟩:=qt (az.same s3 hds) e0;obtain⟨p0,rfl,hp0⟩:=bj hv0;refine⟨_,Y,nF (i:=0) (bU.same s3 hl) ev0 (cx hp0 ⟨_,_,Y,Y,_,Y,Ni (hp.zero _ e0) ?_⟩)⟩;have l3:=bU.same s3 hl;refine⟨_,Y,_,Y,1,Y,l,xs,Y,l3,λL hL=>?_⟩;rw[F5 xs (by lia)];have sL:ah H3 (upd H3 L (.lst (xs.drop 1))):=ah.new hL;have hL1:bU K (upd H3 L (.lst (xs.drop 1))) L (xs.drop 1) true:=bK.of ag;generalize upd H3 L (.lst (xs.drop 1))=H4 at sL hL1 ⊢;have d4:=az.same (s3.trans sL) hds;have d5:=az.drop 1 d4;refine⟨l,L,true,true,Y,⟨_,bU.same sL l3⟩,⟨_,hL1⟩,?_⟩;refine DU (fs:=Px (ps.length-1) (.bool true)) (bU.same sL l3) hL1 d4 d5 (by simp) (by simp) (by simp;lia) (λi d e f x y Z H5 hd he hf s5 hx5 hy5 hZ R kk S=>?_) (λzs H5 s5 hzs D2 hD2=>?_)
  ·have hf:f=.bool true:=(List.mem_replicate.mp (PL hf)).2;subst hf;rw[Ps] at hd;rw[List.getElem?_drop,Ps] at he;cases e1:ps[i]? with
   |none=>rw[e1] at hd;cases hd
   |some p=>
    cases e2:ps[1+i]? with
    |none=>rw[e2] at he;cases he
    |some r=>
     rw[e1] at hd;rw[e2] at he;cases hd;cases he;obtain⟨u1,u2⟩:=hp.up i p r e1 (by rw[Nat.add_comm];exact e2);refine⟨Z,_,Y,dR.of hZ,Y,_,_,Y,_,_,Y,Y,?_⟩;refine aX (B:=S H5) ⟨_,Y,_,Y,x,y,p,r,Y,hx5,hy5,?_⟩;rw[Ph u1,Ph u2];exact kk _ _ ⟨ah.refl _,.bl _⟩
  ·have hzs:az K H5 ((Px (ps.length-1) true).map TM) zs:=by rw[Vg];exact hzs
   have e:=f6 hzs;subst e;refine⟨D2,_,Y,bK.of ag,?_⟩;rw[tr];exact q _ (((s3.trans sL).trans s5).trans (ah.new hD2))
theorem jV:ao ["pairs","at","k"] ["pairs","at"] (ae kC):=cI
inductive wx (K:KE)(vs:List V)(H:Hp)(Q:VK)(_:XK):Prop
 |mk (x y:V) (ps:List Pt) (a:Rat) (z:Pt) (_:vs=[x,y]) (_:ay K H (Jb ps) x) (_:ay K H (rD a) y) (_:2<=ps.length) (_:(∀ p∈ps,p.In)) (_:Bq 600 a) (_:ps.getLast?=M z) (_:a<=(z.1:Rat)) (_:∀ (v:V) (k:Nat) (p q:Pt) (H':Hp),ah H H'->EO ps a k p q->ay K H' (.tuple [rY p,rY q]) v->Q v H')
theorem wd (T:cH K mg w):c9 P w K mg base cn 3 "stretch_to" ["pairs","at"] [] (wx K):=by
  refine T.x2l.cal jV (bb:=λ_ _ _ _ _ H vs Q E hr h=>?_);obtain⟨x,y,ps,a,z,rfl,hx,hy,two,inn,oa,hz,ha,q⟩:=h;obtain⟨l,xs,rfl,hl,hds⟩:=aO (b:=true) hx;refine⟨_,(cr.go (ab (aw 2 jV.nd aa)
   (ab (rn Qp (aR (ac ax (oH T) hr (aA (ac ax (cW T T.xe) hr (aE (am K (am K (ak 0) (ak 2)) aa))) (ak 1)))) (af (yS (i:=2) jV.nd rfl (by first|exact X5 rfl|exact W3 rfl) aa LX)))
   (af (aq (aY (aA (am K (ak 0) (ar cC (ak 2) aa)) (am K (ak 0) (ak 2))))))))),?_⟩
  have hlast:ps[ps.length-1]?=M z:=by rw[<- QC];exact hz
  refine⟨λm σ H'=>∃ k:Nat,σ=[M (.ref l),M y,M (.int k)]/\ah H H'/\1<=k/\k<ps.length/\(k=1\/∃ p,ps[k-1]?=M p/\(p.1:Rat)<a)/\m=ps.length-k,⟨_,1,rfl,ah.refl _,by decide,by lia,.inl rfl,rfl⟩,?_⟩;rintro m σ H1 ⟨k,rfl,s1,k1,k2,hk,rfl⟩;have e1:ps[k]?=M ps[k]:=Pw k2;obtain⟨v,ev,hv⟩:=qt (az.same s1 hds) e1;obtain⟨pa,rfl,hpa⟩:=bj hv;have ip:=inn _ (PL e1);have l1:=bU.same s1 hl;have st:Sm 20 (ps[k]).1:=by have:=ip.a1;have:=ip.a2;unfold Sm;lia
  refine⟨_,rfl,_,rfl,nF l1 ev (cx hpa ⟨_,_,rfl,by decide,Sm.mono (k:=4) (by unfold Sm;decide) (by decide),jY.sh (by decide) λv2 H2 s2 hv2=>?_⟩)⟩;have e2:((ps[k]).1:Rat)/((1:Int):Rat)=((ps[k]).1:Rat):=by
   rw[show((1:Int):Rat)=1 from rfl];grind
  rw[e2] at hv2;refine⟨_,rfl,v2,y,_,a,rfl,hv2,ay.same (s1.trans s2) hy,?_,oa.mono (by decide),_,rfl,?_⟩
  ·show Ok 3900 (((ps[k]).1:Rat)).num ((((ps[k]).1:Rat)).den:Int);rw[U5,U2];exact⟨by decide,by simp,st.mono (by decide),Sm.mono (k:=4) (by unfold Sm;decide) (by decide)⟩
  refine f9 (λhc=>?_) (λhc=>?_)
  ·have hc:((ps[k]).1:Rat)<a:=QH hc;have kn:k+1<ps.length:=by
    by_cases e:k=ps.length-1
    ·exfalso;have ez:ps[k]?=M z:=by rw[e];exact hlast
     rw[e1] at ez;rw[O4 ez] at hc;grind
    ·lia
   refine⟨_,λ_ _ w=>w,?_⟩;refine⟨_,rfl,_,_,rfl,rfl,?_⟩;exact⟨ps.length-(k+1),by lia,k+1,rfl,s1.trans s2,by lia,kn,.inr ⟨ps[k],by rw[Nat.add_sub_cancel];exact e1,hc⟩,rfl⟩
  ·have hc:¬ ((ps[k]).1:Rat)<a:=λw=>hc (Ph w)
   have e0:ps[k-1]?=M ps[k-1]:=Pw (by lia);obtain⟨v0,ev0,hv0⟩:=qt (az.same (s1.trans s2) hds) e0;have l2:=bU.same s2 l1;have ek:((k:Nat):Int)-1=((k-1:Nat):Int):=by lia
   refine⟨_,Y,_,Y,_,_,Y,Y,?_⟩;dsimp only;rw[ek];refine nF l2 ev0 ⟨_,Y,_,Y,nF l2 ev ⟨kO,λr hr=>?_⟩⟩;have sr:=s2.trans (ah.new (o:=.tup [v0,.ref pa]) hr);refine q _ (k-1) ps[k-1] ps[k] _ (s1.trans sr) ⟨e0,by rw[Nat.sub_add_cancel k1];exact e1,?_,by grind⟩ (ay.tupN hr (.cons hv0 (.cons (ay.same s2 hv) .nil)));rcases hk with w|⟨p,w1,w2⟩
   ·exact .inl (by lia)
   ·rw[e0] at w1;cases w1;exact .inr w2
theorem iY:ao ["low","high","at","run","rise","top","below"] uE9 (ae qR):=cI
inductive BF (K:KE)(vs:List V)(H:Hp)(Q:VK)(_:XK):Prop
 |mk (x y z:V) (p q:Pt) (a:Rat) (_:vs=[x,y,z]) (_:ay K H (rY p) x) (_:ay K H (rY q) y) (_:ay K H (rD a) z) (_:p.In) (_:q.In) (_:p.1<q.1) (_:Bq 600 a) (_:jY K H (Ef p q a) Q)
theorem BP (T:cH K mg w):c9 P w K mg base cn 3 "on_line" uE9 [] (BF K):=by
  refine T.x2m.cal iY (bb:=λ_ _ _ _ _ H vs Q E hr h=>?_);obtain⟨x,y,z,p,r,c,rfl,hx,hy,hz,ip,ir,hlt,oc,q⟩:=h;obtain⟨a,rfl,ha⟩:=bj hx;obtain⟨b,rfl,hb⟩:=bj hy;obtain⟨d,rfl,hd⟩:=bj hz;refine⟨_,(cr.go (ab (aw 3 iY.nd (ar cC (am K (ak 1) aa) (am K (ak 0) aa)))
   (ab (aw 4 iY.nd (ar cC (am K (ak 1) aa) (am K (ak 0) aa)))
   (ab (gR (ak 2) (dC (K:=K) (n:=2) rfl rfl (aB (ai 5 iY.nd) (aB (ai 6 iY.nd) bL))))
   (af (aq (ac ax (cW T T.xd) hr (aA (ar cL (ar aM (ar aM (am K (ak 0) aa) (ak 3)) (ak 6)) (ar aM (ar cC (ak 5) (ar aM (am K (ak 0) aa) (ak 6))) (ak 4))) (ar aM (ak 3) (ak 6)))))))))),?_⟩
  have s11:∀ {i:Int},0<=i->i<=1000->Sm 10 i:=λh1 h2=>by unfold Sm;lia
  have s12:∀ {i j:Int},0<=i->i<=1000->0<=j->j<=1000->Sm 11 (i-j):=λh1 h2 h3 h4=>by unfold Sm;lia
  refine⟨_,Y,cx hb ⟨_,Y,cx ha ⟨_,_,Y,Y,?_⟩⟩⟩;refine⟨_,Y,bM hb ⟨_,Y,bM ha ⟨_,_,Y,Y,?_⟩⟩⟩;refine⟨_,Y,d,_,Y,dR.of hd,Y,_,_,Y,_,_,Y,Y,?_⟩;have sr:Sm 11 (r.1-p.1):=s12 ir.a1 ir.a2 ip.a1 ip.a2;have su:Sm 11 (r.2-p.2):=s12 ir.b1 ir.b2 ip.b1 ip.b2;refine⟨_,Y,bM ha ⟨_,Y,_,_,Y,Y,.inr ((s11 ip.b1 ip.b2).mono (by decide)),?_⟩⟩;refine⟨_,Y,_,_,Y,Y,.inr (((s11 ip.b1 ip.b2).mul sr).mono (by decide)),?_⟩;refine⟨_,Y,_,Y,cx ha ⟨_,Y,_,_,Y,Y,.inr ((s11 ip.a1 ip.a2).mono (by decide)),_,_,Y,Y,_,Y,?_⟩⟩;refine⟨_,_,Y,Y,.inl ⟨?_,su.mono (by decide)⟩,_,_,Y,Y,?_⟩
  ·exact((oc.sn.mono (show 600<=610 by decide)).sub ((s11 ip.a1 ip.a2).mul oc.sd)).mono (by decide)
  refine⟨_,Y,_,Y,_,_,Y,Y,.inr (sr.mono (by decide)),_,_,Y,?_,?_,?_⟩
  ·exact Qi (by lia) (by exact_mod_cast c.den_nz)
  ·exact(sr.mul oc.sd).mono (by decide)
  ·rw[Ic hlt] at q;exact jY.sh (Qi (by lia) (by exact_mod_cast c.den_nz)) q
theorem nM:ao uE6 uE6 (ae e_):=cI
inductive m_ (K:KE)(vs:List V)(H:Hp)(Q:VK)(_:XK):Prop
 |mk (a C dx:Po) (x:V) (ps:List Pt) (_:vs=[.ref a,x]) (_:cM K "Curve" C) (_:H a=M (.ins C dx [])) (_:ay K H (Jb ps) x) (_:z_ ps) (_:∀ H',Mv [a] H H'->mo K H' ps (.ref a)->(∀ T,b_ H T->mo K (cut T H') ps (.ref a))->Q .non H')
theorem iC (T:cH K mg w):pM P w K mg base cn 6 "Curve" "__init__" uE6 [] (m_ K):=by
  refine T.x2n.cal nM (bb:=λ_ _ _ _ _ H vs Q E hr h=>?_);obtain⟨a,C,dx,x,ps,rfl,hC,hH,hx,hp,q⟩:=h;refine⟨_,(cr.go (ab (bg (aV (aR (ac ax (y7 T) hr (aE (ak 1))))) (af bD) aI)
   (af (dZ (K:=K) (x:="Curve") rfl T.x5 (.head _) (ak 0) (aW (pI (K:=K) rfl) (by rfl) T.xa gS (aE (ak 1))))))),?_⟩
  refine⟨_,rfl,x,ps,rfl,hx,hp,λH1 s1=>⟨_,rfl,bI ?_⟩⟩;have hx1:=ay.same s1 hx;obtain⟨l,xs,rfl,hl,hds⟩:=aO (b:=true) hx1;refine⟨_,rfl,l,xs,rfl,.inl hl,λL hL=>?_⟩;have sL:ah H1 (upd H1 L (.lst xs)):=ah.new hL;have ha:=sL _ _ (s1 _ _ hH);refine⟨_,rfl,a,C,dx,[],rfl,hC,ha,by decide,?_⟩;have na:L≠a:=λz=>by rw[z,s1 _ _ hH] at hL;cases hL
  have mv:Mv [a] (upd H1 L (.lst xs)) (upd (upd H1 L (.lst xs)) a (.ins C dx (eJ "points" (.ref L) []))):=λb o e nb=>by rw[au (λz=>nb (by simp[z]))];exact e
  have tup:∀ p∈ps.map rY,wj p=true:=λp hp=>by obtain⟨r,_,rfl⟩:=Qy.mp hp;rfl
  have keep:∀ {ds:List P5}{ys:List V},(∀ p∈ds,∃ r:Pt,p=rY r)->az K (upd H1 L (.lst xs)) ds ys->az K (upd (upd H1 L (.lst xs)) a (.ins C dx (eJ "points" (.ref L) []))) ds ys:=λ{ds ys} hd h=>by
   induction ds generalizing ys with
   |nil=>cases h;exact .nil
   |cons d ds ih=>
    cases h with
    |cons h1 h2=>
     refine .cons ?_ (ih (λp hp=>hd p (Pj _ hp)) h2);obtain⟨r,rfl⟩:=hd d (PQ ..);obtain⟨pa,rfl,hpa⟩:=bj h1;exact iA (mv _ _ hpa (λz=>by rw[O9.mp z,ha] at hpa;cases hpa))
  have kd:=keep (ds:=ps.map rY) (λp hp=>by obtain⟨r,_,rfl⟩:=Qy.mp hp;exact⟨r,Y⟩) (az.same sL hds);have gL:upd (upd H1 L (.lst xs)) a (.ins C dx (eJ "points" (.ref L) [])) L=M (.lst xs):=by rw[au na];exact ag
  refine q _ (λb o e nb=>mv b o (sL _ _ (s1 _ _ e)) nb) ⟨a,C,dx,L,Y,hC,ag,.lst (.inl gL) kd⟩ λT lT=>?_
  have aT:a∉T:=lT.not hH λ_ z=>nomatch z
  have LT:L∉T:=λm=>by
   obtain⟨ys,e⟩:=lT L m;rw[s1 _ _ e] at hL;cases hL
  have lT':b_ (upd (upd H1 L (.lst xs)) a (.ins C dx (eJ "points" (.ref L) []))) T:=λb m=>by
   obtain⟨ys,e⟩:=lT b m;exact⟨ys,mv _ _ (sL _ _ (s1 _ _ e)) (λz=>aT (O9.mp z▸m))⟩
  exact⟨a,C,dx,L,Y,hC,by rw[fF aT];exact ag,.lst (.inl (by rw[fF LT];exact gL)) (az.cutT lT' (JD ps) kd)⟩
theorem sR:ao uC4 uC4 (ae jo):=cI
inductive sk (K:KE)(vs:List V)(H:Hp)(Q:VK)(_:XK):Prop
 |mk (v:V) (ps:List Pt) (z:Pt) (_:vs=[v]) (_:mo K H ps v) (_:ps.getLast?=M z) (_:Q (.int z.1) H)
theorem lj (T:cH K mg w):pM P w K mg base cn 1 "Curve" "last" uC4 [] (sk K):=by
  refine T.x2o.cal sR (bb:=λ_ _ _ _ _ H vs Q E hr h=>?_);obtain⟨v,ps,z,rfl,⟨a,C,dx,l,rfl,hC,hH,hd⟩,hz,q⟩:=h;refine⟨_,(cr.go (af (aq (am K (am K (bN (K:=K) (x:="Curve") rfl T.x5 (.head _) (ak 0)) (uK ud aa)) aa)))),?_⟩;obtain⟨l',xs,e,hl,hds⟩:=aO (b:=true) hd;cases e;obtain⟨u,eu,hu⟩:=Am hds hz;obtain⟨pa,rfl,hpa⟩:=bj hu;exact⟨_,rfl,a,C,dx,_,_,rfl,hC,hH,rfl,_,rfl,.inl ⟨l,xs,_,_,rfl,rfl,hl,uj eu,cx hpa q⟩⟩
theorem gx:ao ["self","place","low","high"] uC3 (ae ix):=cI
inductive qD (K:KE)(vs:List V)(H:Hp)(Q:VK)(_:XK):Prop
 |mk (v x:V) (ps:List Pt) (a:Rat) (z:Pt) (_:vs=[v,x]) (_:mo K H ps v) (_:ay K H (rD a) x) (_:z_ ps) (_:Bq 600 a) (_:ps.getLast?=M z) (_:0<=a) (_:a<=(z.1:Rat)) (_:∀ (w:V) (c:Rat) (H':Hp),ah H H'->Ej ps a c->ay K H' (rD c) w->Q w H')
theorem j7 (T:cH K mg w):pM P w K mg base cn 4 "Curve" "value" uC3 [] (qD K):=by
  refine T.x2p.cal gx (bb:=λ_ _ _ _ _ H vs Q E hr h=>?_);obtain⟨v,x,ps,c,z,rfl,hv,hx,hp,oc,hz,c0,cz,q⟩:=h;refine⟨_,(cr.go (ab (bg (WW.pt (dO (aV (aR (ac ax (lW T) hr (aE (ak 1))))) (dI (aV (aR (ac ax (qw T) hr (aj (ak 1) (aj aa (aj (kj (K:=K) rfl ax (lj T) (hr.mono (by decide)) (ak 0)) aQ))))))))) (af bD) aI)
   (ab (gR (ac ax (wd T) hr (aA (bN (K:=K) (x:="Curve") rfl T.x5 (.head _) (ak 0)) (ak 1))) (dC (K:=K) (n:=2) rfl rfl (aB (ai 2 gx.nd) (aB (ai 3 gx.nd) bL))))
   (af (aq (ac ax (BP T) hr (aj (ak 2) (aj (ak 3) (aj (ak 1) aQ))))))))),?_⟩
  refine⟨_,rfl,x,_,rfl,hx,_,rfl,?_⟩;rw[JP];refine bI ?_;obtain⟨a,C,dx,l,rfl,hC,hH,hd⟩:=id hv;have iz:=hp.inn z (Sq hz);refine⟨_,rfl,_,rfl,a,C,dx,_,rfl,hC,hH,rfl,.ref a,ps,z,rfl,hv,hz,x,c,0,z.1,rfl,hx,oc.mono (by decide),?_,?_,?_⟩
  ·unfold Sm;decide
  ·refine Sm.mono (k:=20) ?_ (by decide);have:=iz.a1;have:=iz.a2;unfold Sm;lia
  have e1:decide (0*(c.den:Int)<=c.num)=true:=Ph (by rw[Int.zero_mul];exact Rat.num_nonneg.mpr c0);have e2:decide (c.num<=z.1*(c.den:Int))=true:=Ph (by
   have h:=(Rat.le_iff c (z.1:Rat)).mp cz;rw[U5,U2] at h
   simpa using h)
  rw[e1,e2];refine⟨_,rfl,bI ?_⟩;refine⟨_,rfl,a,C,dx,_,_,rfl,hC,hH,rfl,_,rfl,.ref l,x,ps,c,z,rfl,hd,hx,hp.two,hp.inn,oc,hz,cz,λu k p r H1 s1 st hu=>?_⟩;obtain⟨tp,ys,rfl,ht,hys⟩:=aO (b:=false) hu;obtain⟨y0,y1,rfl,g0,g1⟩:∃ y0 y1,ys=[y0,y1]/\ay K H1 (rY p) y0/\ay K H1 (rY r) y1:=by
   cases hys with
   |cons h1 h2=>
    cases h2 with
    |cons h3 h4=>
     cases h4;exact⟨_,_,Y,h1,h3⟩
  refine⟨tp,_,Y,ht,Y,_,_,Y,_,_,Y,Y,?_⟩;have hlt:=(hp.up k p r st.lo st.hi).1;refine⟨_,Y,_,Y,_,Y,y0,y1,x,p,r,c,Y,g0,g1,ay.same s1 hx,hp.inn p (PL st.lo),hp.inn r (PL st.hi),hlt,oc,λw H2 s2 hw=>?_⟩;exact q w _ H2 (s1.trans s2) ⟨k,p,r,st,Y⟩ hw
theorem s_:ao uC4 uC4 (ae jp):=cI
inductive sK (K:KE)(vs:List V)(H:Hp)(Q:VK)(_:XK):Prop
 |mk (v:V) (ps:List Pt) (y z:Pt) (_:vs=[v]) (_:mo K H ps v) (_:ps[0]?=M y) (_:ps.getLast?=M z) (_:∀ u H',ah H H'->ay K H' (.tuple [.int y.2,.int z.2]) u->Q u H')
theorem so (T:cH K mg w):pM P w K mg base cn 1 "Curve" "ends" uC4 [] (sK K):=by
  refine T.x2q.cal s_ (bb:=λ_ _ _ _ _ H vs Q E hr h=>?_);obtain⟨v,ps,y,z,rfl,⟨a,C,dx,l,rfl,hC,hH,hd⟩,hy,hz,q⟩:=h;refine⟨_,(cr.go (af (aq (aY (aA (am K (am K (bN (K:=K) (x:="Curve") rfl T.x5 (.head _) (ak 0)) aa) aa) (am K (am K (bN (K:=K) (x:="Curve") rfl T.x5 (.head _) (ak 0)) (uK ud aa)) aa)))))),?_⟩;obtain⟨l',xs,e,hl,hds⟩:=aO (b:=true) hd;cases e;obtain⟨u0,eu0,hu0⟩:=qt hds hy;obtain⟨pb,rfl,hpb⟩:=bj hu0;obtain⟨u,eu,hu⟩:=Am hds hz;obtain⟨pa,rfl,hpa⟩:=bj hu;refine⟨_,rfl,a,C,dx,_,_,rfl,hC,hH,rfl,nF (i:=0) hl eu0 (bM hpb ?_)⟩;refine⟨_,rfl,a,C,dx,_,_,rfl,hC,hH,rfl,_,rfl,.inl ⟨l,xs,_,_,rfl,rfl,hl,uj eu,bM hpa ⟨kO,λp hp=>?_⟩⟩⟩;exact q _ _ (ah.new hp) (ay.tupN hp (.cons (.int _) (.cons (.int _) .nil)))
theorem uJ:ao uA5 uA5 (ae jU):=cI
inductive uT (K:KE)(vs:List V)(H:Hp)(Q:VK)(_:XK):Prop
 |mk (v:V) (ps:List Pt) (y z:Pt) (most:Int) (_:vs=[v,.int most]) (_:mo K H ps v) (_:ps[0]?=M y) (_:ps.getLast?=M z) (_:z.1=60) (_:z.2<=most) (_:∀ H',ah H H'->Q (.bl true) H')
theorem uy (T:cH K mg w):c9 P w K mg base cn 2 "is_curve_to" uA5 [] (uT K):=by
  refine T.x2r.cal uJ (bb:=λ_ _ _ _ _ H vs Q E hr h=>?_);obtain⟨v,ps,y,z,most,rfl,hv,e0,ez,z1,z2,q⟩:=h;refine⟨_,(cr.go (af (aq (dA (av (Aq (K:=K) (x:="Curve") rfl T.x5 T.x12) (by rfl) T.x2 aK (aA (ak 0) (kI (K:=K) (x:="Curve") rfl rfl (gh T.x5)))) (dA (bX (Dj (K:=K) rfl hr.units) (kj (K:=K) rfl ax (lj T) (hr.mono (by decide)) (ak 0)) (c5 rfl T.xf) (aZ _)) (eT (bX rR (am K (kj (K:=K) rfl ax (so T) (hr.mono (by decide)) (ak 0)) aa) (ak 1) (aZ _)))))))),?_⟩;obtain⟨a,C,dx,l,rfl,hC,ha,hl⟩:=id hv;refine⟨_,rfl,λD hD=>?_⟩;cases bH hD hC;refine⟨_,_,rfl,hC,.inl ⟨a,dx,_,rfl,ha,_,rfl,aX ?_⟩⟩;refine⟨_,rfl,a,C,dx,_,rfl,hC,ha,rfl,.ref a,ps,z,rfl,hv,ez,.int z.1,.int 60,.int _,.int _,rfl,rfl,true,by rw[z1];rfl,aX ?_⟩;refine⟨_,rfl,a,C,dx,_,rfl,hC,ha,rfl,.ref a,ps,y,z,rfl,hv,e0,ez,λu H1 s1 hu=>?_⟩;obtain⟨p,rfl,hp⟩:=bj hu;refine nF (b:=false) (i:=1) (dR.of hp) rfl ⟨_,rfl,_,_,rfl,rfl,?_⟩;dsimp only;rw[Ph z2];exact q _ s1
theorem zc:ao uA5 uA5 (ae mB):=cI
inductive yO (K:KE)(vs:List V)(H:Hp)(Q:VK)(_:XK):Prop
 |mk (l:Po) (ws:List V) (P:C3) (most:Int) (_:vs=[.ref l,.int most]) (_:H l=M (.lst ws)) (_:jj K H P ws) (_:P.In most) (_:∀ H',ah H H'->Q (.bl true) H')
theorem xS (T:cH K mg w):c9 P w K mg base cn 3 "is_curves" uA5 [] (yO K):=by
  refine T.x2s.cal zc (bb:=λ_ _ _ _ _ H vs Q E hr h=>?_);obtain⟨l,ws,P,most,rfl,hl,hw,hp,q⟩:=h;refine⟨_,(cr.go (ab (bg (WW.pt (dO (aV (aR (av (B7 (K:=K) rfl) (by rfl) T.x2 aK (aA (ak 0) (aY (aA (bY (v:=.ty "list") rfl T.xa gS rfl) (bY (v:=.ty "tuple") rfl T.x0 bA rfl))))))) (dI (be o_ (av (f_ (K:=K) rfl) (by rfl) T.x4 dH (aE (ak 0))) aa (aZ _))))) (af (aq iy)) aI)
   (af (aq (av (nY (K:=K) rfl rfl) (by rfl) T.x9 jM (aE (aF ["curve"] ["most"] [1] 1 (bo (K:=K) rfl (ak 0)) (λnd=>(ai 0 nd)) aD (ac ax (uy T) hr (aA (ak 0) (ak 1)))))))))),?_⟩
  refine⟨_,rfl,kO,λp hpp=>?_⟩;generalize e0:upd H p _=H1;have s1:=gY hpp e0;have g1:=fB e0;obtain⟨T0,ty0,ek0⟩:∃ T,Ty K H1 (.ref l) T/\vj T ["list","tuple"]=M true:=⟨"list",.lst (s1 _ _ hl),by decide +kernel⟩
  refine⟨_,T0,p,_,_,true,rfl,ty0,g1,ek0,_,rfl,bI ?_⟩;refine⟨_,rfl,l,ws,rfl,.inl (bK.of (s1 _ _ hl)),_,_,rfl,rfl,false,by rw[hw.1];rfl,bI ?_⟩;refine⟨_,rfl,l,true,rfl,⟨_,bK.of (s1 _ _ hl)⟩,mU (K:=K) (b:=true) (xs:=ws) (λi ys H'=>ah H1 H'/\ys.length=i/\∀ v∈ys,v=.bl true) ⟨ah.refl _,rfl,λ_ h=>nomatch h⟩ (by rw[hw.1];decide) (λi ys H' hi ⟨s',e,_⟩=>⟨bK.of (s' _ _ (s1 _ _ hl)),by lia⟩) (λi x ys H' hx ⟨s',e,hb⟩ R S kk _=>?_) (λys H' ⟨s',e,hb⟩ D hD=>?_)⟩
  ·have hi:i<3:=by rw[<- hw.1];exact(Pk.mp hx).1
   obtain⟨pp,y,z,e0,ez,z1,z2⟩:=hp i hi;refine aX (B:=S H') ⟨_,rfl,_,rfl,x,_,y,z,most,rfl,(hw.2 i x hx).same (s1.trans s'),e0,ez,z1,z2,λH2 s2=>kk _ _ ⟨s'.trans s2,by rw[PV,e];rfl,λv hv=>?_⟩⟩;rcases Qe.mp hv with hv|hv
   ·exact hb v hv
   ·exact O9.mp hv
  ·rw[hw.1] at e;have ey:=B3 e hb;subst ey;exact⟨D,_,rfl,bK.of ag,q _ ((s1.trans s').trans (ah.new hD))⟩
theorem ng:ao uA5 uA5 (ae eW):=cI
inductive nh (K:KE)(vs:List V)(H:Hp)(Q:VK)(_:XK):Prop
 |mk (l:Po) (ws:List V) (P:C3) (most:Int) (_:vs=[.ref l,.int most]) (_:H l=M (.lst ws)) (_:jj K H P ws) (_:P.In most) (_:∀ H',ah H H'->Q .non H')
theorem iE (T:cH K mg w):c9 P w K mg base cn 4 "refuse_no_curves" uA5 [] (nh K):=by
  refine T.x2t.cal ng (bb:=λ_ _ _ _ _ H vs Q E hr h=>?_);obtain⟨l,ws,P,most,rfl,hl,hw,hp,q⟩:=h;refine⟨_,(cr.go (af (bg (aV (aR (ac ax (xS T) hr (aA (ak 0) (ak 1))))) (af bD) aI))),?_⟩;exact⟨_,rfl,_,rfl,l,ws,P,most,rfl,hl,hw,hp,λH1 s1=>⟨_,rfl,bI (q _ s1)⟩⟩
theorem ny:ao j0 j0 (ae fg):=cI
inductive nE (K:KE)(vs:List V)(H:Hp)(Q:VK)(_:XK):Prop
 |mk (v:V) (e:En) (_:vs=[v]) (_:dJ K H e v) (_:Q .non H)
theorem iF (T:cH K mg w):c9 P w K mg base cn 1 "refuse_no_bounds" j0 [] (nE K):=by
  refine T.x2u.cal ny (bb:=λ_ _ _ _ _ H vs Q E hr h=>?_);obtain⟨v,e,rfl,hv,q⟩:=h;refine⟨_,(cr.go (af (bg (aV (aR (av (Aq (K:=K) (x:="Ends") rfl T.x6 T.xk) (by rfl) T.x2 aK (aA (ak 0) (kI (K:=K) (x:="Ends") rfl rfl (gh T.x6)))))) (af bD) aI))),?_⟩;obtain⟨a,C,dx,x,y,rfl,hC,ha,_⟩:=hv;refine⟨_,rfl,λD hD=>?_⟩;cases bH hD hC;exact⟨_,_,rfl,hC,.inl ⟨a,dx,_,rfl,ha,_,rfl,bI q⟩⟩
theorem qV:ao ["curves"] ["curves"] (ae hJ):=cI
inductive rB (K:KE)(vs:List V)(H:Hp)(Q:VK)(_:XK):Prop
 |mk (l:Po) (ws:List V) (P:C3) (most:Int) (_:vs=[.ref l]) (_:H l=M (.lst ws)) (_:jj K H P ws) (_:P.In most) (_:∀ (D:Po) (us:List V) (H':Hp),ah H H'->H D=none->H' D=M (.lst us)->jj K H' P us->(∀ T,b_ H T->jj K (cut T H') P us)->Q (.ref D) H')
theorem j6 (T:cH K mg w):c9 P w K mg base cn 8 "copied_curves" ["curves"] [] (rB K):=by
  refine T.x2v.cal qV (bb:=λ_ _ _ _ _ H vs Q E hr h=>?_);obtain⟨l,ws,P,most,rfl,hl,hw,hp,q⟩:=h;refine⟨_,(cr.go (af (aq (aF ["curve"] [] [] 1 (bo (K:=K) rfl (ak 0)) (λnd=>(ai 0 nd)) aD (p_ (K:=K) rfl ax (iC T) (hr.mono (by decide)) rfl (aE (bN (K:=K) (x:="Curve") rfl T.x5 (.head _) (ak 0)))))))),?_⟩;refine⟨_,rfl,l,true,rfl,⟨_,bK.of hl⟩,mU (K:=K) (b:=true) (xs:=ws) (λi us H'=>ah H H'/\us.length=i/\(∀ (j:Nat) (v:V),us[j]?=M v->mo K H' (P.at j) v)/\∀ T,b_ H T->∀ (j:Nat) (v:V),us[j]?=M v->mo K (cut T H') (P.at j) v) ⟨ah.refl _,rfl,λj v e=>by simp at e,λ_ _ j v e=>by simp at e⟩ (by rw[hw.1];decide) (λi us H' hi ⟨s',e,_⟩=>⟨bK.of (s' _ _ hl),by lia⟩) (λi x us H' hx ⟨s',e,hc,hcT⟩ R S kk _=>?_) (λus H' ⟨s',e,hc,hcT⟩=>?_)⟩
  ·have hi:i<3:=by rw[<- hw.1];exact(Pk.mp hx).1
   obtain⟨pp,_⟩:=hp i hi;obtain⟨a,C,dx,l2,rfl,hC,ha,hl2⟩:=(hw.2 i x hx).same s';refine aX (B:=S H') ⟨_,rfl,a,C,dx,_,_,rfl,hC,ha,rfl,λC2 b dy hC2 hb hdy hne=>?_⟩;have s5:ah H' (upd (upd H' dy (.own b)) b (.ins C2 dy [])):=(ah.new hdy).trans (ah.new (by rw[au hne.symm];exact hb));have gv:upd (upd H' dy (.own b)) b (.ins C2 dy []) b=M (.ins C2 dy []):=ag;generalize upd (upd H' dy (.own b)) b (.ins C2 dy [])=H5 at s5 gv ⊢;refine⟨b,C2,dy,_,P.at i,rfl,hC2,gv,ay.same s5 hl2,pp,λH6 mv6 cv6 cT6=>⟨rfl,kk _ _ ?_⟩⟩;have s6:ah H' H6:=λb' o e=>mv6 _ _ (s5 _ _ e) (λz=>by rw[O9.mp z,hb] at e;cases e)
   refine⟨s'.trans s6,by rw[PV,e];rfl,λj v ej=>?_,λT lT j v ej=>?_⟩
   ·rcases mO ej with ⟨_,ej⟩|⟨rfl,rfl⟩
    ·exact(hc j v ej).same s6
    ·rw[e];exact cv6
   ·rcases mO ej with ⟨_,ej⟩|⟨rfl,rfl⟩
    ·exact(hcT T lT j v ej).same (ah.cut s6)
    ·rw[e];exact cT6 T ((lT.same s').same s5)
  ·intro D hD;rw[hw.1] at e;refine q D us _ (s'.trans (ah.new hD)) ?_ ag ⟨e,λj v ej=>(hc j v ej).same (ah.new hD)⟩ λT lT=>⟨e,λj v ej=>(hcT T lT j v ej).same (ah.cut (ah.new hD))⟩
   cases z:H D with
   |none=>rfl
   |some o=>rw[s' _ _ z] at hD;cases hD
theorem ui:ao uC5 uC5 (ae jS):=cI
inductive vG (K:KE)(vs:List V)(H:Hp)(Q:VK)(_:XK):Prop
 |mk (v:V) (e:En) (_:vs=[v]) (_:dJ K H e v) (_:e.In) (_:∀ (u:V) (H':Hp),ah H H'->dJ K H' e u->Q u H')
theorem lC (T:cH K mg w):c9 P w K mg base cn 7 "copied_ends" uC5 [] (vG K):=by
  refine T.x2w.cal ui (bb:=λ_ _ _ _ _ H vs Q E hr h=>?_);obtain⟨v,e,rfl,hv,ie,q⟩:=h;refine⟨_,(cr.go (af (aq (qh (K:=K) rfl ax (dG T) (hr.mono (by decide)) rfl (bT (bN (K:=K) (x:="Ends") rfl T.x6 (.head _) (ak 0)) (bT (bN (K:=K) (x:="Ends") rfl T.x6 (.tail _ (.head _)) (ak 0)) dU)))))),?_⟩;obtain⟨a,C,dx,x,y,rfl,hC,ha,hx,hy⟩:=hv;refine⟨_,rfl,a,C,dx,_,_,rfl,hC,ha,rfl,_,rfl,a,C,dx,_,_,rfl,hC,ha,rfl,λC2 b dy hC2 hb hdy hne=>?_⟩;generalize e0:upd (upd H dy _) b _=H5;have s5:=v9 hb hdy hne e0;have gv:=fB e0;refine⟨b,C2,dy,x,y,e,rfl,hC2,gv,ay.same s5 hx,ay.same s5 hy,ie,λH6 mv6 en6=>⟨rfl,q _ _ (λb' o e=>mv6 _ _ (s5 _ _ e) (λz=>by rw[O9.mp z,hb] at e;cases e)) en6⟩⟩
theorem x_:ao uE0 uE0 (ae mN):=cI
inductive zQ (K:KE)(vs:List V)(H:Hp)(Q:VK)(_:XK):Prop
 |mk (l:Po) (x:V) (ws:List V) (P:C3) (most:Int) (c:Q3) (_:vs=[.ref l,x]) (_:H l=M (.lst ws)) (_:jj K H P ws) (_:P.In most) (_:ay K H c.col x) (_:c.Bd 17) (_:c.Wi ((60:Int):Rat)) (_:∀ (r:Q3) (u:V) (H':Hp),ah H H'->tm P c r->ay K H' r.col u->Q u H')
theorem pS (T:cH K mg w):c9 P w K mg base cn 5 "values_at" uE0 [] (zQ K):=by
  refine T.x2x.cal x_ (bb:=λ_ _ _ _ _ H vs Q E hr h=>?_);obtain⟨l,x,ws,P,most,c,rfl,hl,hw,hp,hx,bd,wi,q⟩:=h;refine⟨_,(cr.go (af (aq (aW (cK (K:=K) rfl) (by rfl) T.x0 bA (aE (aF ["curve","number"] [] [] 2 (mC (K:=K) rfl rfl T.xb (aA (ak 0) (ak 1))) (λnd=>(dC (K:=K) (n:=2) rfl rfl (aB (ai 0 nd) (aB (ai 1 nd) bL)))) aD (kG (K:=K) rfl ax (j7 T) (hr.mono (by decide)) (ak 0) (aE (ak 1))))))))),?_⟩;obtain⟨ca,xs,rfl,hca,hxs⟩:=aO (b:=false) (ds:=c.ds) hx;have hxl:xs.length=3:=by rw[<- hxs.length];rfl
  refine⟨_,rfl,_,rfl,l,ca,true,false,rfl,⟨_,bK.of hl⟩,⟨_,hca⟩,DZ (K:=K) (b1:=true) (b2:=false) (xs:=ws) (ys:=xs) (λi us H'=>ah H H'/\us.length=i/\∀ (j:Nat) (v:V),us[j]?=M v->∃ r:Rat,Ej (P.at j) (fR c.a c.b c.c j) r/\ay K H' (rD r) v) ⟨ah.refl _,rfl,λj v e=>by simp at e⟩ (by rw[hw.1,hxl]) (by rw[hw.1];decide) (λi us H' ⟨s',e,_⟩=>⟨bK.of (s' _ _ hl),bU.same s' hca,by lia⟩) (λi x y us T H' hx hy ⟨s',e,hc⟩ hT R kk S=>?_) (λus H' ⟨s',e,hc⟩ D hD=>?_)⟩
  ·have hi:i<3:=by rw[<- hw.1];exact(Pk.mp hx).1
   generalize e0:upd H' T _=H2;have sT:=gY hT e0;have gT:=fB e0;obtain⟨pp,yy,z,e0,ez,z1,z2⟩:=hp i hi;obtain⟨yv,ey,hyv⟩:=Kf hxs hi;rw[hy] at ey;cases ey;have hcv:=(hw.2 i x hx).same (s'.trans sT);obtain⟨a,C,dx,l2,rfl,hC,ha,hl2⟩:=id hcv;refine⟨T,_,rfl,dR.of gT,rfl,_,_,rfl,_,_,rfl,rfl,aX (B:=S H2) ⟨_,rfl,a,C,dx,_,rfl,hC,ha,rfl,_,rfl,.ref a,y,P.at i,_,z,rfl,hcv,ay.same (s'.trans sT) hyv,pp,Ok.mono (CV bd hi) (by decide),ez,(tQ wi hi).1,by rw[z1];exact(tQ wi hi).2,λw r H3 s3 on hw3=>kk _ _ ⟨(s'.trans sT).trans s3,by rw[PV,e];rfl,λj v ej=>?_⟩⟩⟩;rcases mO ej with ⟨_,ej⟩|⟨rfl,rfl⟩
   ·obtain⟨r',o',h'⟩:=hc j v ej;exact⟨r',o',ay.same (sT.trans s3) h'⟩
   ·rw[e];exact⟨r,on,hw3⟩
  ·rw[hw.1] at e;obtain⟨u0,u1,u2,rfl⟩:=LH e;obtain⟨x0,o0,h0⟩:=hc 0 u0 rfl;obtain⟨x1,o1,h1⟩:=hc 1 u1 rfl;obtain⟨x2,o2,h2⟩:=hc 2 u2 rfl;refine⟨D,_,rfl,.inl ⟨bK.of ag,λy hy=>?_⟩⟩;have sD:=ah.new (o:=.lst [u0,u1,u2]) hD;exact q ⟨x0,x1,x2⟩ (.ref y) _ ((s'.trans sD).trans (ah.new hy)) ⟨o0,o1,o2⟩ (ay.tupN (ds:=(Q3.mk x0 x1 x2).ds) hy (az.same sD (.cons h0 (.cons h1 (.cons h2 .nil)))))
theorem iO:ao uA9 uA9 (ae bx):=cI
inductive iQ (K:KE)(vs:List V)(H:Hp)(Q:VK)(_:XK):Prop
 |mk (a C dx l:Po) (x y:V) (ws:List V) (P:C3) (s:S9) (e:En) (_:vs=[.ref a,.ref l,x,y]) (_:cM K "SquareProfile" C) (_:H a=M (.ins C dx [])) (_:H l=M (.lst ws)) (_:jj K H P ws) (_:P.In 1000) (_:ay K H s.d x) (_:s.In) (_:dJ K H e y) (_:e.In) (_:∀ H',Mv [a] H H'->(∀ T,b_ H T->xQ K (cut T H') P s.cp e (.ref a))->Q .non H')
theorem iP (T:cH K mg w):rH P w K mg base cn 9 "SquareProfile" "__init__" uA9 uC5 3 1 [] (iQ K):=by
  refine T.x3u.cal iO (bb:=λ_ _ _ _ _ H vs Q E hr h=>?_);obtain⟨a,C,dx,l,x,y,ws,P,s,e,rfl,hC,hH,hl,hw,hp,hx,hs,hy,ie,q⟩:=h;refine⟨_,(cr.go (ab (bt (ac ax (iE T) hr (aA (ak 1) (c5 rfl T.xx))))
   (ab (bt (ac ax (iF T) hr (aE (ak 3))))
   (ab (bt (ac ax (iH T) hr (aE (ak 2))))
   (ab (dZ (K:=K) (x:="SquareProfile") rfl T.x8 (.head _) (ak 0) (ac ax (j6 T) hr (aE (ak 1))))
   (ab (dZ (K:=K) (x:="SquareProfile") rfl T.x8 (.tail _ (.head _)) (ak 0) (aF ["row"] [] [] 1 (bo (K:=K) rfl (ak 2)) (λnd=>(ai 0 nd)) aD (aW (pI (K:=K) rfl) (by rfl) T.xa gS (aE (ak 0)))))
   (af (dZ (K:=K) (x:="SquareProfile") rfl T.x8 (.tail _ (.tail _ (.head _))) (ak 0) (ac ax (lC T) hr (aE (ak 3))))))))))),?_⟩
  refine⟨_,rfl,l,ws,P,1000,rfl,hl,hw,hp,λH1 s1=>?_⟩;refine⟨_,rfl,y,e,rfl,hy.same s1,?_⟩;refine⟨_,rfl,x,s,rfl,ay.same s1 hx,hs,λH2 s2=>?_⟩;have s12:=s1.trans s2;refine⟨_,rfl,l,ws,P,1000,rfl,s12 _ _ hl,hw.same s12,hp,λD us H3 s3 hD gD c3 cT=>?_⟩;have s13:=s12.trans s3;have ha:=s13 _ _ hH;refine⟨_,rfl,a,C,dx,[],rfl,hC,ha,by decide,?_⟩;generalize hG:upd H3 a (.ins C dx (eJ "curves" (.ref D) []))=G;have ga:G a=M (.ins C dx [("curves",.ref D)]):=by rw[<- hG];exact ag
  have sI:fG H3 G:=by rw[<- hG];exact fG.put ha
  have mG:Mv [a] H G:=λb o z nb=>by rw[<- hG,au (λw=>nb (by simp[w]))];exact s13 _ _ z
  have gD':G D=M (.lst us):=sI _ _ gD λ_ _ _ z=>nomatch z
  have yG:dJ K G e y:=by rw[<- hG];exact(hy.same s13).put ha (by decide)
  have cG:∀ T,b_ H T->jj K (cut T G) P us:=λT lT=>by
   have aT:a∉T:=lT.not hH λ_ z=>nomatch z
   have e:cut T G=upd (cut T H3) a (.ins C dx (eJ "curves" (.ref D) [])):=by rw[<- hG];exact mR aT
   rw[e];exact(cT T (lT.same s12)).put (by rw[fF aT];exact ha) (by decide)
  have xG:=ay.sameI sI (ay.same s13 hx);have hD0:H D=none:=l6 (T:=[]) (l:=D) (Mv.of s12) hD (by simp);clear hG sI s1 s2 s3 s12 s13 ha hl hw hx hy gD c3 cT;obtain⟨xa,xs,rfl,hxa,hxs⟩:=aO xG;have hxl:xs.length=3:=by rw[<- hxs.length];rfl
  refine⟨_,Y,xa,s.k,Y,⟨_,hxa⟩,mU (K:=K) (xs:=xs) (λi zs H'=>ah G H'/\zs.length=i/\∀ (j:Nat) (v:V),zs[j]?=M v->∃ l,v=.ref l/\H l=none/\H' l=M (.lst (s.row j).vs)) ⟨ah.refl _,Y,λj v e=>by simp at e⟩ (by rw[hxl];decide) (λi zs H' hi ⟨s',el,_⟩=>⟨bU.same s' hxa,by lia⟩) (λi x zs H' hx ⟨s',el,hz⟩ R S kk _=>?_) (λzs H' ⟨s',el,hz⟩=>?_)⟩
  ·obtain⟨hi,k,hr⟩:=Lo (az.same s' hxs) hx;obtain⟨ra,rfl,hra⟩:=ku hr;refine aX (B:=S H') ⟨_,Y,ra,_,Y,oO hra,λl hl=>kk _ _ ⟨s'.trans (ah.new hl),by rw[PV,el];rfl,λj v ej=>?_⟩⟩;rcases mO ej with ⟨_,ej⟩|⟨rfl,rfl⟩
   ·obtain⟨l',h1,h2,h3⟩:=hz j v ej;exact⟨l',h1,h2,ah.new hl _ _ h3⟩
   ·rw[el];refine⟨l,rfl,l6 (T:=[a]) (λb o z nb=>s' _ _ (mG _ _ z nb)) hl (λz=>?_),ag⟩;rw[O9.mp z,s' _ _ ga] at hl;cases hl
  intro D2 hD2;have sZ:=s'.trans (ah.new (o:=.lst zs) hD2);have eZ:upd H' D2 (.lst zs) D2=M (.lst zs):=ag;have hD20:H D2=none:=l6 (T:=[a]) (λb o z nb=>s' _ _ (mG _ _ z nb)) hD2 (λz=>by rw[O9.mp z,s' _ _ ga] at hD2;cases hD2);replace hz:∀ (j:Nat) (v:V),zs[j]?=M v->∃ l,v=.ref l/\H l=none/\upd H' D2 (.lst zs) l=M (.lst (s.row j).vs):=λj v ej=>let ⟨l,h1,h2,h3⟩:=hz j v ej;⟨l,h1,h2,ah.new hD2 _ _ h3⟩
  generalize upd H' D2 (.lst zs)=H4 at sZ eZ hz ⊢;rw[hxl] at el;obtain⟨z0,z1,z2,rfl⟩:∃ z0 z1 z2,zs=[z0,z1,z2]:=by
   match zs,el with
   |[z0,z1,z2],_=>exact⟨z0,z1,z2,Y⟩
  have ga4:=sZ _ _ ga;refine⟨_,Y,a,C,dx,_,Y,hC,ga4,(by show 1<1000;decide),?_⟩;generalize hG2:upd H4 a (.ins C dx (eJ "square" (.ref D2) [("curves",.ref D)]))=G2;have ga2:G2 a=M (.ins C dx [("curves",.ref D),("square",.ref D2)]):=by rw[<- hG2];exact ag
  have sI2:fG H4 G2:=by rw[<- hG2];exact fG.put ga4
  have mG2:Mv [a] H G2:=λb o z nb=>by rw[<- hG2,au (λw=>nb (by simp[w]))];exact sZ _ _ (mG _ _ z nb)
  have yG2:dJ K G2 e y:=by rw[<- hG2];exact(yG.same sZ).put ga4 (by show([("curves":Str)]:List Str)≠[("white":Str),("black":Str)];decide)
  have cG2:∀ T,b_ H T->jj K (cut T G2) P us:=λT lT=>by
   have aT:a∉T:=lT.not hH λ_ z=>nomatch z
   have e:cut T G2=upd (cut T H4) a (.ins C dx (eJ "square" (.ref D2) [("curves",.ref D)])):=by rw[<- hG2];exact mR aT
   rw[e];exact((cG T lT).same (ah.cut sZ)).put (by rw[fF aT];exact ga4) (by show([("curves":Str)]:List Str)≠[("points":Str)];decide)
  refine⟨_,Y,y,e,Y,yG2,ie,λu H5 s5 en5=>?_⟩;have ga5:=s5 _ _ ga2;refine⟨_,Y,a,C,dx,_,Y,hC,ga5,(by show 2<1000;decide),?_⟩;have aT:∀ {T},b_ H T->a∉T:=λlT=>lT.not hH λ_ z=>nomatch z
  have m5:Mv [a] H H5:=λb o z nb=>s5 _ _ (mG2 _ _ z nb)
  refine q _ (λb o z nb=>by rw[au (λw=>nb (by simp[w]))];exact m5 _ _ z nb) λT lT=>?_
  have aT:=aT lT;have lT5:b_ H5 T:=λb m=>let ⟨w,e⟩:=lT b m;⟨w,m5 _ _ e (λz=>aT (O9.mp z▸m))⟩
  rw[mR aT];have hcut:cut T H5 a=M (.ins C dx [("curves",.ref D),("square",.ref D2)]):=by rw[fF aT];exact ga5
  have at5:∀ {l:Po}{o:HO},H l=none->H4 l=M o->(∀ C dx fs,o≠.ins C dx fs)->upd (cut T H5) a (.ins C dx (eJ "bounds" u [("curves",.ref D),("square",.ref D2)])) l=M o:=λ{l o} h0 h4 hn=>by
   rw[au (λz=>by rw[z,hH] at h0;cases h0),fF (lT.new h0)];exact s5 _ _ (sI2 _ _ h4 hn)
  have rows:∀ (j:Nat) (v:V),[z0,z1,z2][j]?=M v->ay K (upd (cut T H5) a (.ins C dx (eJ "bounds" u [("curves",.ref D),("square",.ref D2)]))) (c6 true (s.row j)) v:=λj v ej=>by
   obtain⟨l,rfl,h0,h4⟩:=hz j v ej;exact .lst (.inl (at5 h0 h4 λ_ _ _ z=>nomatch z)) (qr _)
  exact⟨a,C,dx,D,us,.ref D2,u,Y,hC,ag,at5 hD0 (sZ _ _ gD') (λ_ _ _ z=>nomatch z),((cG2 T lT).same (ah.cut s5)).put hcut (by show([("curves":Str),("square":Str)]:List Str)≠[("points":Str)];decide),
   .lst (.inl (at5 hD20 eZ λ_ _ _ z=>nomatch z)) (.cons (rows 0 z0 rfl) (.cons (rows 1 z1 rfl) (.cons (rows 2 z2 rfl) .nil))),(en5.mv Mv.self lT5).put hcut (by show([("curves":Str),("square":Str)]:List Str)≠[("white":Str),("black":Str)];decide)⟩
theorem iL:ao uB4 uB4 (ae cZ):=cI
inductive dS (K:KE)(vs:List V)(H:Hp)(Q:VK)(_:XK):Prop
 |mk (v x:V) (P:C3) (s:S9) (e:En) (c:Q3) (_:vs=[v,x]) (_:xQ K H P s e v) (_:P.In 1000) (_:s.In) (_:ay K H c.col x) (_:c.Wi ((60:Int):Rat)) (_:c.Bd 17) (_:∀ (r:Q3) (u:V) (H':Hp),ah H H'->tm P c r->r.Bd 400->ay K H' (s.m.led r).col u->Q u H')
theorem iJ (T:cH K mg w):pM P w K mg base cn 8 "SquareProfile" "to_worth" uB4 [] (dS K):=by
  refine T.x2y.cal iL (bb:=λ_ _ _ _ _ H vs Q E hr h=>?_);obtain⟨v,x,P,s,e,c,rfl,hv,hp,hs,hx,wi,bd,q⟩:=h;refine⟨_,(cr.go (ab (bt (ac ax (cU T) hr (aE (ak 1))))
   (af (aq (ac ax (Kq T) hr (aA (bN (K:=K) (x:="SquareProfile") rfl T.x8 (.tail _ (.head _)) (ak 0)) (ac ax (pS T) hr (aA (bN (K:=K) (x:="SquareProfile") rfl T.x8 (.head _) (ak 0)) (ak 1))))))))),?_⟩
  refine⟨_,rfl,x,c,rfl,hx,wi,bd.mono (by decide),λH1 s1=>?_⟩;obtain⟨a,C,dx,cl,us,qv,en,rfl,hC,ha,hcl,h3,hq,he⟩:=hv.same s1;refine⟨_,rfl,a,C,dx,_,_,rfl,hC,ha,rfl,_,rfl,a,C,dx,_,_,rfl,hC,ha,rfl,_,rfl,cl,x,us,P,1000,c,rfl,hcl,h3,hp,ay.same s1 hx,bd,wi,λr u H2 s2 on hu=>?_⟩;have rb:=G6 hp on bd;exact⟨qv,u,s,r,rfl,ay.same s2 hq,hs,hu,rb.mono (by decide),λv H3 s3 hv3=>q r v H3 ((s1.trans s2).trans s3) on rb hv3⟩
theorem jB:ao uB1 uB1 (ae bE):=cI
inductive jC (K:KE)(vs:List V)(H:Hp)(Q:VK)(_:XK):Prop
 |mk (a C dx l:Po) (x y:V) (ws:List V) (P:C3) (f:Kn->R3) (e:En) (_:vs=[.ref a,.ref l,x,y]) (_:cM K "GridProfile" C) (_:H a=M (.ins C dx [])) (_:H l=M (.lst ws)) (_:jj K H P ws) (_:P.In 60) (_:kf K H 2 f x) (_:EH 2 f) (_:dJ K H e y) (_:e.In) (_:∀ H',Mv [a] H H'->(∀ T,b_ H T->yU K (cut T H') P f e (.ref a))->Q .non H')
theorem jw (T:cH K mg w):rH P w K mg base cn 9 "GridProfile" "__init__" uB1 uC5 3 1 [] (jC K):=by
  refine T.x3v.cal jB (bb:=λ_ _ _ _ _ H vs Q E hr h=>?_);obtain⟨a,C,dx,l,x,y,ws,P,f,e,rfl,hC,hH,hl,hw,hp,hx,wt,hy,ie,q⟩:=h;refine⟨_,(cr.go (ab (bt (ac ax (iE T) hr (aA (ak 1) (c5 rfl T.xf))))
   (ab (bt (ac ax (iF T) hr (aE (ak 3))))
   (ab (bg (aV (aR (av (Aq (K:=K) (x:="Grid") rfl T.x3 T.xl) (by rfl) T.x2 aK (aA (ak 2) (kI (K:=K) (x:="Grid") rfl rfl (gh T.x3)))))) (af bD) aI)
   (ab (dZ (K:=K) (x:="GridProfile") rfl T.x7 (.head _) (ak 0) (ac ax (j6 T) hr (aE (ak 1))))
   (ab (dZ (K:=K) (x:="GridProfile") rfl T.x7 (.tail _ (.head _)) (ak 0) (p_ (K:=K) rfl ax (eX T) (hr.mono (by decide)) rfl (aA (bN (K:=K) (x:="Grid") rfl T.x3 (.head _) (ak 2)) (bN (K:=K) (x:="Grid") rfl T.x3 (.tail _ (.head _)) (ak 2)))))
   (af (dZ (K:=K) (x:="GridProfile") rfl T.x7 (.tail _ (.tail _ (.head _))) (ak 0) (ac ax (lC T) hr (aE (ak 3))))))))))),?_⟩
  refine⟨_,rfl,l,ws,P,60,rfl,hl,hw,hp,λH1 s1=>?_⟩;refine⟨_,rfl,y,e,rfl,hy.same s1,?_⟩;obtain⟨g,Cg,dy,Lt,rfl,hCg,hg,gLt⟩:=hx.same s1;refine⟨_,rfl,λD hD=>?_⟩;cases bH hD hCg;refine⟨_,_,rfl,hCg,.inl ⟨g,dy,_,rfl,hg,_,rfl,bI ?_⟩⟩;refine⟨_,rfl,l,ws,P,60,rfl,s1 _ _ hl,hw.same s1,hp,λD us H3 s3 hD gD c3 cT=>?_⟩;have s13:=s1.trans s3;have ha:=s13 _ _ hH;refine⟨_,rfl,a,C,dx,[],rfl,hC,ha,by decide,?_⟩;generalize hG:upd H3 a (.ins C dx (eJ "curves" (.ref D) []))=G;have ga:G a=M (.ins C dx [("curves",.ref D)]):=by rw[<- hG];exact ag
  have sI:fG H3 G:=by rw[<- hG];exact fG.put ha
  have mG:Mv [a] H G:=λb o z nb=>by rw[<- hG,au (λw=>nb (by simp[w]))];exact s13 _ _ z
  have gD':G D=M (.lst us):=sI _ _ gD λ_ _ _ z=>nomatch z
  have yG:dJ K G e y:=by rw[<- hG];exact(hy.same s13).put ha (by decide)
  have cG:∀ T,b_ H T->jj K (cut T G) P us:=λT lT=>by
   have aT:a∉T:=lT.not hH λ_ z=>nomatch z
   have e:cut T G=upd (cut T H3) a (.ins C dx (eJ "curves" (.ref D) [])):=by rw[<- hG];exact mR aT
   rw[e];exact(cT T (lT.same s1)).put (by rw[fF aT];exact ha) (by decide)
  have xG:kf K G 2 f (.ref g):=by rw[<- hG];exact(hx.same s13).put ha (by decide)
  have hD0:H D=none:=l6 (T:=[]) (l:=D) (Mv.of s1) hD (by simp);clear hG s1 s3 s13 ha hl hw hx hy gD c3 cT hg gLt hCg sI;obtain⟨_,Cg,dy,Lt,eg,hCg,hg,gLt⟩:=id xG;cases eg;refine⟨_,Y,g,Cg,dy,_,_,Y,hCg,hg,Y,_,Y,g,Cg,dy,_,_,Y,hCg,hg,Y,λC3 b dz hC3 hb hdz hne=>?_⟩;generalize e0:upd (upd G dz _) b _=H5;have s5:=v9 hb hdz hne e0;have gv:=fB e0;refine⟨b,C3,dz,Lt,2,f,Y,hC3,gv,gLt.same s5,wt,by decide,by decide,λH4 L4 mv4 hb4 gL4 hL4=>⟨Y,?_⟩⟩;have sZ:ah G H4:=λb' o e=>mv4 _ _ (s5 _ _ e) (λz=>by rw[O9.mp z,hb] at e;cases e)
  have gr4:kf K H4 2 f (.ref b):=⟨b,C3,dz,L4,Y,hC3,hb4,gL4⟩
  clear s5 gv mv4 hb4 gL4 hL4 hg gLt xG;have ga4:=sZ _ _ ga;refine⟨_,Y,a,C,dx,_,Y,hC,ga4,(by show 1<1000;decide),?_⟩;generalize hG2:upd H4 a (.ins C dx (eJ "grid" (.ref b) [("curves",.ref D)]))=G2;have ga2:G2 a=M (.ins C dx [("curves",.ref D),("grid",.ref b)]):=by rw[<- hG2];exact ag
  have sI2:fG H4 G2:=by rw[<- hG2];exact fG.put ga4
  have mG2:Mv [a] H G2:=λb o z nb=>by rw[<- hG2,au (λw=>nb (by simp[w]))];exact sZ _ _ (mG _ _ z nb)
  have yG2:dJ K G2 e y:=by rw[<- hG2];exact(yG.same sZ).put ga4 (by show([("curves":Str)]:List Str)≠[("white":Str),("black":Str)];decide)
  have gr2:kf K G2 2 f (.ref b):=by rw[<- hG2];exact gr4.put ga4 (by show([("curves":Str)]:List Str)≠[("knots":Str),("table":Str)];decide)
  have cG2:∀ T,b_ H T->jj K (cut T G2) P us:=λT lT=>by
   have aT:a∉T:=lT.not hH λ_ z=>nomatch z
   have e:cut T G2=upd (cut T H4) a (.ins C dx (eJ "grid" (.ref b) [("curves",.ref D)])):=by rw[<- hG2];exact mR aT
   rw[e];exact((cG T lT).same (ah.cut sZ)).put (by rw[fF aT];exact ga4) (by show([("curves":Str)]:List Str)≠[("points":Str)];decide)
  refine⟨_,Y,y,e,Y,yG2,ie,λu H5 s5 en5=>?_⟩;have ga5:=s5 _ _ ga2;refine⟨_,Y,a,C,dx,_,Y,hC,ga5,(by show 2<1000;decide),?_⟩;have aT:∀ {T},b_ H T->a∉T:=λlT=>lT.not hH λ_ z=>nomatch z
  have m5:Mv [a] H H5:=λb o z nb=>s5 _ _ (mG2 _ _ z nb)
  refine q _ (λb o z nb=>by rw[au (λw=>nb (by simp[w]))];exact m5 _ _ z nb) λT lT=>?_
  have aT:=aT lT;have lT5:b_ H5 T:=λb m=>let ⟨w,e⟩:=lT b m;⟨w,m5 _ _ e (λz=>aT (O9.mp z▸m))⟩
  rw[mR aT];have hcut:cut T H5 a=M (.ins C dx [("curves",.ref D),("grid",.ref b)]):=by rw[fF aT];exact ga5
  refine⟨a,C,dx,D,us,.ref b,u,Y,hC,ag,?_,((cG2 T lT).same (ah.cut s5)).put hcut (by show([("curves":Str),("grid":Str)]:List Str)≠[("points":Str)];decide),((gr2.same s5).mv Mv.self lT5).put hcut (by show([("curves":Str),("grid":Str)]:List Str)≠[("knots":Str),("table":Str)];decide),(en5.mv Mv.self lT5).put hcut (by show([("curves":Str),("grid":Str)]:List Str)≠[("white":Str),("black":Str)];decide)⟩;rw[au (λz=>by rw[z,hH] at hD0;cases hD0),fF (lT.new hD0)];exact s5 _ _ (sI2 _ _ (sZ _ _ gD') λ_ _ _ z=>nomatch z)
theorem jx:ao uB4 uB4 (ae df):=cI
inductive eN (K:KE)(vs:List V)(H:Hp)(Q:VK)(_:XK):Prop
 |mk (v x:V) (P:C3) (f:Kn->R3) (e:En) (c:Q3) (_:vs=[v,x]) (_:yU K H P f e v) (_:P.In 60) (_:EH 2 f) (_:ay K H c.col x) (_:c.Wi ((60:Int):Rat)) (_:c.Bd 17) (_:BV K "parts_by_four" H) (_:∀ (r:Q3) (u:V) (H':Hp),ah H H'->tm P c r->r.Wi ((60:Int):Rat)->r.Bd 400->ay K H' (W4 2 f r).col u->(W4 2 f r).Bd 3900->Q u H')
theorem jy (T:cH K mg w):pM P w K mg base cn 8 "GridProfile" "to_worth" uB4 [] (eN K):=by
  refine T.x2z.cal jx (bb:=λ_ _ _ _ _ H vs Q E hr h=>?_);obtain⟨v,x,P,f,e,c,rfl,hv,hp,wt,hx,wi,bd,tb,q⟩:=h;refine⟨_,(cr.go (ab (bt (ac ax (cU T) hr (aE (ak 1))))
   (af (aq (GO (K:=K) rfl ax (tj T) (hr.mono (by decide)) (bN (K:=K) (x:="GridProfile") rfl T.x7 (.tail _ (.head _)) (ak 0)) (aE (ac ax (pS T) hr (aA (bN (K:=K) (x:="GridProfile") rfl T.x7 (.head _) (ak 0)) (ak 1)))) dU))))),?_⟩
  refine⟨_,rfl,x,c,rfl,hx,wi,bd.mono (by decide),λH1 s1=>?_⟩;obtain⟨a,C,dx,cl,us,gv,en,rfl,hC,ha,hcl,h3,hq,he⟩:=hv.same s1;obtain⟨g,C2,dy,L,rfl,hC2,hg,gL⟩:=id hq;refine⟨_,rfl,a,C,dx,_,_,rfl,hC,ha,rfl,g,C2,dy,_,rfl,hC2,hg,rfl,_,rfl,a,C,dx,_,_,rfl,hC,ha,rfl,_,rfl,cl,x,us,P,60,c,rfl,hcl,h3,hp,ay.same s1 hx,bd,wi,λr u H2 s2 on hu=>?_⟩;have rb:=G6 (cap:=60) hp on bd;have rw:=GK hp on wi;exact⟨.ref g,u,"four",2,f,r,60,rfl,hq.same s2,wt,by decide,by decide,hu,rw,CC hp on bd,by decide,(tb.same s1).same s2,.inl rfl,λr4 v H3 s3 e4 _ b4 hv3=>by
   rw[e4 rfl] at hv3 b4;exact q r v H3 ((s1.trans s2).trans s3) on rw rb hv3 (b4.mono (by decide))⟩
theorem me:ao j0 j0 (ae eO):=cI
inductive mh (K:KE)(vs:List V)(H:Hp)(Q:VK)(_:XK):Prop
 |mk (v:V) (_:vs=[v]) (_:JJ K H v) (_:∀ H',ah H H'->Q .non H')
theorem mJ (T:cH K mg w):c9 P w K mg base cn 1 "refuse_no_profile" j0 [] (mh K):=by
  refine T.x30.cal me (bb:=λ_ _ _ _ _ H vs Q E hr h=>?_);obtain⟨v,rfl,⟨a,E,dx,fs,rfl,ha,hE⟩,q⟩:=h;refine⟨_,(cr.go (af (bg (aV (aR (av (L5 (K:=K) (x:="SquareProfile") (y:="GridProfile") rfl T.x8 T.x14 T.x7 T.x13 T.x15) (by rfl) T.x2 aK (aA (ak 0) (aY (aA (kI (K:=K) (x:="SquareProfile") rfl rfl (gh T.x8)) (kI (K:=K) (x:="GridProfile") rfl rfl (gh T.x7)))))))) (af bD) aI))),?_⟩;refine⟨_,rfl,λC hC D hD=>⟨kO,λp hp=>?_⟩⟩;have s1:=ah.new (o:=.tup [.ref C,.ref D]) hp;refine⟨_,C,D,p,rfl,hC,hD,ag,.inl ⟨a,dx,fs,rfl,?_,_,rfl,bI (q _ s1)⟩⟩;rcases hE with z|z
  ·cases bH hC z;exact .inl (s1 _ _ ha)
  ·cases bH hD z;exact .inr (s1 _ _ ha)
theorem Br:ao uA6 uA6 (ae gj):=cI
theorem BC.worth {K:KE}{H:Hp}{P:C3}{b:S9 ⊕ (Kn->R3)}{e:En}{v:V}{k:Nat}{ta:TA}{σ:L2.St}{Q:VK}{c:Q3} (h:BC K H P b e v) (tb:BV K "parts_by_four" H) (h0:σ[k]?=M (M v)) (hta:∀ R:List V->Hp->Prop,(∀ x H',ah H H'->ay K H' c.col x->R [x] H')->ta σ H R) (wi:c.Wi ((60:Int):Rat)) (bd:c.Bd 17)
  (q:∀ (u:V) (H':Hp),ah H H'->tm P c (Ec P c)->ay K H' (MT b (Ec P c)).col u->Q u H'):
  DA K "SquareProfile" "to_worth" (dS K) [] E0 (re k) ta σ H Q\/DA K "GridProfile" "to_worth" (eN K) [] E0 (re k) ta σ H Q:=by
 cases b with
 |inl s=>
  obtain⟨a,C,dx,l,vs,q1,en,rfl,hC,ha,r1⟩:=id h.1;refine .inl ⟨_,h0,a,C,dx,_,Y,hC,ha,Y,hta _ λx H1 s1 hx=>?_⟩;exact⟨.ref a,x,P,s.cp,e,c,Y,h.1.same s1,h.2.2,h.2.1.cp,hx,wi,bd,λr u H2 s2 on rb hu=>by
   cases xJ h.2.2 on;exact q u H2 (s1.trans s2) on hu⟩
 |inr f=>
  obtain⟨a,C,dx,l,vs,q1,en,rfl,hC,ha,r1⟩:=id h.1;refine .inr ⟨_,h0,a,C,dx,_,Y,hC,ha,Y,hta _ λx H1 s1 hx=>?_⟩;exact⟨.ref a,x,P,f,e,c,Y,h.1.same s1,h.2.2,h.2.1,hx,wi,bd,tb.same s1,λr u H2 s2 on _ _ hu b4=>by
   cases xJ h.2.2 on;exact q u H2 (s1.trans s2) on hu⟩
inductive Av (K:KE)(vs:List V)(H:Hp)(Q:VK)(_:XK):Prop
 |mk (pv x tv:V) (i n:Str) (P:C3) (b:S9 ⊕ (Kn->R3)) (e e2:En) (c:Q3) (_:vs=[pv,.str i,x,tv]) (_:BC K H P b e pv) (_:mI.lookup i=M n) (_:ay K H c.col x) (_:c.Wi ((60:Int):Rat)) (_:c.Bd 17) (_:BV K "parts_by_four" H) (_:uD K H e2 tv) (_:e.In) (_:e2.In) (_:∀ (v:V) (H':Hp),ah H H'->tm P c (Ec P c)->ay K H' (Ma i e e2 b P c).col v->(Ma i e e2 b P c).Bd 520->Q v H')
theorem mi (T:cH K mg w):GG P w K mg base cn 9 "stepwise" uA6 ["there"] 3 1 [] (Av K):=by
  refine T.x3w.cal Br (bb:=λ_ _ _ _ _ H vs Q E hr h=>?_);obtain⟨pv,x,tv,i,n,P,b,e,e2,c,rfl,hp,hn,hx,wi,bd,tb,h2,i1,i2,q⟩:=h;refine⟨_,(cr.go (ab (bt (ac ax (mJ T) hr (aE (ak 0))))
   (af (aq (jk ax (qx T) (hr.mono (by decide)) rfl (aA (vy (kG (K:=K) rfl ax (iJ T) (hr.mono (by decide)) (ak 0) (aE (ak 2))) (kG (K:=K) rfl ax (jy T) (hr.mono (by decide)) (ak 0) (aE (ak 2)))) (ak 1)) (bT (vy (bN (K:=K) (x:="SquareProfile") rfl T.x8 (.tail _ (.tail _ (.head _))) (ak 0)) (bN (K:=K) (x:="GridProfile") rfl T.x7 (.tail _ (.tail _ (.head _))) (ak 0))) (bT (ak 3) dU))))))),?_⟩
  refine⟨_,rfl,pv,rfl,hp.pr,λH1 s1=>?_⟩;refine(hp.same s1).worth (tb.same s1) rfl (λR k=>⟨_,rfl,k _ _ (ah.refl _) (ay.same s1 hx)⟩) wi bd λu H2 s2 on hu=>?_
  have s12:=s1.trans s2;have bw:=CZ hp on wi bd;refine⟨_,Y,(hp.same s12).bounds rfl λen hen=>⟨_,Y,u,en,tv,i,n,_,e,e2,Y,hu,bw.mono (by decide),hn,hen,h2.same s12,i1,i2,λv H3 s3 hv=>q v H3 (s12.trans s3) on hv (KG bw i1 i2)⟩⟩
theorem j8:ao ["profile","intent","there","knots","table","place","colour","worth"] uA2 (ae fO):=cI
inductive Ea (K:KE)(vs:List V)(H:Hp)(Q:VK)(_:XK):Prop
 |mk (pv tv:V) (i nm:Str) (n:Nat) (P:C3) (b:S9 ⊕ (Kn->R3)) (e e2:En) (_:vs=[pv,.str i,tv,.int n]) (_:2<=n) (_:n<=7) (_:BC K H P b e pv) (_:mI.lookup i=M nm) (_:BV K "parts_by_four" H) (_:uD K H e2 tv) (_:e.In) (_:e2.In) (_:∀ (g C dx L:Po) (H':Hp),ah H H'->cM K "Grid" C->H' g=M (.ins C dx [("knots",.int n),("table",.ref L)])->Gr K H' n (i9 n i e e2 b P) L->Q (.ref g) H')
theorem xC (T:cH K mg w) {ks:List Str}{n m:Nat}{dvs:List V} (D:qM K mg "linked" fO uA2 ks n m dvs):GG P w K mg base cn 10 "linked" uA2 ks n m dvs (Ea K):=by
  refine D.cal j8 (bb:=λ_ _ _ _ _ H vs Q E hr h=>?_);obtain⟨pv,tv,i,nm,n,P,b,e,e2,rfl,n2,n7,hp,hn,tb,h2,i1,i2,q⟩:=h;refine⟨_,(cr.go (ab (bt (ac ax (oG T) hr (aE (ak 3))))
   (ab (aw 4 j8.nd wI)
   (ab (dW Qp rfl (bo (K:=K) rfl (ac ax (k_ T) hr (aE (ak 3)))) (ai 5 j8.nd) (ab (aw 6 j8.nd (aW (cK (K:=K) rfl) (by rfl) T.x0 bA (aE (aF ["at"] uF0 [3] 1 (bo (K:=K) rfl (ak 5)) (λnd=>(ai 0 nd)) aD (ac ax (cW T T.xe) hr (aE (ar aM (ak 0) (ac ax (AB T) hr (aE (ak 1))))))))))
   (ab (aw 7 j8.nd (jk ax (mi T) (hr.mono (by decide)) rfl (aj (ak 0) (aj (ak 1) (aj (ak 6) aQ))) (bT (ak 2) dU)))
   (af (AA hr.u1 (ak 4) (ak 5) (aW (cK (K:=K) rfl) (by rfl) T.x0 bA (aE (aF uD1 [] [] 1 (bo (K:=K) rfl (ak 7)) (λnd=>(ai 0 nd)) aD (ac ax (IY T) hr (aE (ac ax (q9 T) hr (aE (ak 0)))))))) rfl)))))
   (af (aq (p_ (K:=K) rfl ax (eX T) (hr.mono (by decide)) rfl (aA (ak 3) (ak 4))))))))),?_⟩
  refine⟨_,rfl,n,rfl,n2,n7,λd hd=>?_⟩;generalize e0:upd H d _=H1;have s0:=gY hd e0;have g0:=fB e0;refine⟨_,rfl,n,rfl,n7,λD ys H2 s2 hD hys=>?_⟩;refine⟨D,true,rfl,⟨_,bK.of hD⟩,kK (λk σ H'=>(∃ o1 o2 o3,σ=[M pv,M (.str i),M tv,M (.int n),M (.ref d),o1,o2,o3])/\ah H H'/\iI H2 H'/\yt K H' ((bQ n).take k) (i9 n i e e2 b P) d)
   ⟨⟨_,_,_,rfl⟩,s0.trans s2,λ_ _ e _=>e,[],s2 _ _ g0,.nil⟩ (λk σ H' _ ⟨_,_,sd,_⟩=>bK.of (sd _ _ hD λ_ z=>nomatch z)) ?_ ?_⟩
  ·rintro k x σ H3 ex ⟨⟨o1,o2,o3,rfl⟩,s3,sd,ws,e3,hws⟩;obtain⟨dd,ed,hdd⟩:=hys.get ex;rw[Ps] at ed;obtain⟨t,et,rfl⟩:=PC.mp ed;have htm:=PL et;have fresh:t∉(bQ n).take k:=λz=>by
    obtain⟨j,hj,ej⟩:=QX z;rw[P1] at hj;rw[VI] at ej;obtain⟨hi,ei⟩:=Pk.mp et;exact Tw.mp (Ay n7) j k (by lia) hi (by lia) (ej.trans ei.symm)
   obtain⟨ka,rfl,hka⟩:=pO (ay.sameD sd hdd);have few:(bQ n).length<=343:=by
    rw[mW];exact UX n7 3
   obtain⟨wi,bd⟩:=GJ n2 n7 htm;obtain⟨a0,_,a60⟩:=kH n2 n7;refine⟨_,Y,ka,false,Y,⟨_,dR.of hka⟩,bG (b:=false) (ds:=[.int t.1,.int t.2.1,.int t.2.2]) (es:=(HJ n t).ds) (dR.of hka) (.cons (.int _) (.cons (.int _) (.cons (.int _) .nil))) Y (by show 3<=1000;decide) (λj dj ej u H4 hdj hej s4 hu R4 kk4 S4=>?_) (λzs H4 s4 hzs Z hZ=>?_)⟩
   ·obtain⟨m,hm,rfl,rfl⟩:∃ m:Nat,m<7/\dj=.int m/\ej=rD (((lQ n*m:Int)):Rat):=by
     obtain⟨t1,t2,t3⟩:=cE.mp htm;rcases lA hdj with ⟨rfl,rfl⟩|⟨rfl,rfl⟩|⟨rfl,rfl⟩
     ·exact⟨t.1,by lia,rfl,(O4 hej).symm⟩
     ·exact⟨t.2.1,by lia,rfl,(O4 hej).symm⟩
     ·exact⟨t.2.2,by lia,rfl,(O4 hej).symm⟩
    cases hu;refine aX (B:=S4 H4) ⟨_,rfl,_,rfl,n,rfl,n2,n7,_,_,rfl,rfl,.inr (by unfold Sm;lia),_,1,rfl,by decide,Sm.mono (k:=20) (by unfold Sm;decide) (by decide),λv n' d' H5 s5 hv lw=>?_⟩;obtain⟨rfl,rfl⟩:=kL (by decide) lw (Jl _);exact kk4 _ _ ⟨s5,by rw[rp,R_];exact hv⟩
   refine⟨Z,_,rfl,.inl ⟨bK.of ag,λy hy=>?_⟩⟩;have sZ:=ah.new (o:=.lst zs) hZ;have s5:=(s4.trans sZ).trans (ah.new (o:=.tup zs) hy);have gy:ay K (upd (upd H4 Z (.lst zs)) y (.tup zs)) (HJ n t).col (.ref y):=ay.tupN (ds:=(HJ n t).ds) hy (az.same sZ hzs);generalize upd (upd H4 Z (.lst zs)) y (.tup zs)=H5 at s5 gy ⊢;have sH5:=s3.trans s5;refine⟨_,rfl,_,rfl,_,rfl,_,rfl,pv,.ref y,tv,i,nm,P,b,e,e2,_,rfl,hp.same sH5,hn,gy,wi,bd,tb.same sH5,h2.same sH5,i1,i2,λwv H6 s6 on hw bw=>?_⟩;obtain⟨wa,ws',rfl,hwa,hws'⟩:=aO (b:=false) (ds:=(Ma i e e2 b P (HJ n t)).ds) hw;have s36:=s5.trans s6;refine⟨_,rfl,wa,false,rfl,⟨_,hwa⟩,bG (b:=false) (es:=(i9 n i e e2 b P t).ds) hwa hws' rfl (by show 3<=1000;decide) (λj dj ej u H7 hdj hej s7 hu R7 kk7 S7=>?_) (λzs' H7 s7 hzs' Z' hZ'=>?_)⟩
   ·obtain⟨m,bm,rfl,rfl⟩:∃ m:Rat,Bq 520 m/\dj=rD m/\ej=.int (BI (nw m)):=by
     rcases lA hdj with ⟨rfl,rfl⟩|⟨rfl,rfl⟩|⟨rfl,rfl⟩
     ·exact⟨_,bw.a,rfl,(O4 hej).symm⟩
     ·exact⟨_,bw.b,rfl,(O4 hej).symm⟩
     ·exact⟨_,bw.c,rfl,(O4 hej).symm⟩
    exact aX (B:=S7 H7) ⟨_,rfl,u,_,_,rfl,hu,Ok.mono bm (by decide),_,rfl,kk7 _ _ ⟨ah.refl _,.int _⟩⟩
   have ez:=fu hzs';subst ez;refine⟨Z',_,rfl,.inl ⟨bK.of ag,λz hz=>?_⟩⟩;have s8:=(s7.trans (ah.new (o:=.lst (i9 n i e e2 b P t).vs) hZ')).trans (ah.new (o:=.tup (i9 n i e e2 b P t).vs) hz);have gz:ay K (upd (upd H7 Z' (.lst (i9 n i e e2 b P t).vs)) z (.tup (i9 n i e e2 b P t).vs)) (wD (i9 n i e e2 b P t)) (.ref z):=.tup ag (qr _);generalize upd (upd H7 Z' (.lst (i9 n i e e2 b P t).vs)) z (.tup (i9 n i e e2 b P t).vs)=H8 at s8 gz ⊢;have s38:=s36.trans s8;have e8:=s38 _ _ e3;refine⟨_,rfl,_,rfl,d,_,rfl,ES.t (k:=dw t) e8 (by rw[Ib];exact s38 _ _ hka) (by rw[ux (yt.len hws),P1];exact bJ (by lia)),⟨_,_,_,rfl⟩,λb' o z'=>?_,λb' o z' nz=>iI.put e8 _ _ (s38 _ _ (sd _ _ z' nz)) nz,?_⟩
   ·rw[au (λw=>by rw[w,hd] at z';cases z')];exact s38 _ _ (s3 _ _ z')
   ·rw[b8 et];exact yt.more e8 (az.same s38 hws) fresh gz
  ·rintro σ H3 ⟨⟨o1,o2,o3,rfl⟩,s3,sd,gp⟩;have ly:=hys.length;rw[Pb] at ly;rw[P9 (by lia)] at gp;refine⟨_,rfl,_,rfl,λC g dx hC hg hdx hne=>?_⟩;generalize e0:upd (upd H3 dx _) g _=H5;have s5:=v9 hg hdx hne e0;have gv:=fB e0;refine⟨g,C,dx,d,n,_,rfl,hC,gv,⟨_,.refl _,gp.same s5⟩,IW,n2,n7,λH6 L mv6 hg6 gL hL=>⟨rfl,?_⟩⟩;have s6:ah H3 H6:=λb' o z=>mv6 _ _ (s5 _ _ z) (λw=>by rw[O9.mp w,hg] at z;cases z)
   exact q g C dx L H6 (s3.trans s6) hC hg6 gL
theorem ye:ao uB5 uB5 (ae lJ):=cI
inductive yp (K:KE)(vs:List V)(H:Hp)(Q:VK)(_:XK):Prop
 |mk (a:Po) (ns:List Int) (_:vs=[.ref a]) (_:bK K H a (ns.map V.int)) (_:ns.length<=63) (_:∀ t r H',ah H H'->H t=none->H r=none->ci H' t r->Q (.ref t) H')
theorem yZ (T:cH K mg w):c9 P w K mg base cn 1 "_law_town" uB5 [] (yp K):=by
  refine T.x31.cal ye (bb:=λ_ _ _ _ _ H vs Q E hr h=>?_);obtain⟨a,ns,rfl,hS,hl,q⟩:=h;refine⟨_,(cr.go (af (aq (bV (aA (j_ (be (JI (K:=K) rfl hr.units) (ak 0) (bV aQ) (aZ _)) (aW (pI (K:=K) rfl) (by rfl) T.xa gS (aE (ak 0))) (bV (aE aa))) aa))))),?_⟩;refine⟨_,rfl,by decide,λp hp=>⟨a,p,ns,rfl,rfl,(ah.new hp).seq hS,ag,_,rfl,?_⟩⟩;have s1:ah H (upd H p (.lst [])):=ah.new hp
  by_cases hn:ns=[]
  ·rw[Ph hn];refine bI ⟨by decide,λr hr=>⟨kO,λt ht=>?_⟩⟩;have s2:=s1.trans (ah.new (o:=.lst [.int 0]) hr);exact q t r _ (s2.trans (ah.new ht)) (s2.free ht) (s1.free hr) ⟨[0],0,ag,by rw[au (aS ag ht)];exact ag,by decide,by decide⟩
  ·rw[Qf hn];refine aX ⟨_,rfl,a,ns.map V.int,rfl,.inl (s1.seq hS),λr hr=>⟨kO,λt ht=>?_⟩⟩;have s2:=s1.trans (ah.new (o:=.lst (ns.map V.int)) hr);exact q t r _ (s2.trans (ah.new ht)) (s2.free ht) (s1.free hr) ⟨ns,0,ag,by rw[au (aS ag ht)];exact ag,hn,hl⟩
theorem eI:ao ["_law_town_here","_law_many","_law_row","_law_at","_law_cell_here","_law_mixed"] uD2 (ae mz):=cI
inductive xI (_:KE)(vs:List V)(H:Hp)(Q:VK)(_:XK):Prop
 |mk (t r:Po) (many:Int) (_:vs=[.ref t,.int many]) (_:ci H t r) (_:0<many) (_:Sm 8000 many) (_:∀ (d:Int) (H':Hp),0<=d->d<many->ci H' t r->Mv [t,r] H H'->Q (.int d) H')
theorem aL (T:cH K mg w):c9 P w K mg base cn 1 "_law_draw" uD2 [] (xI K):=by
  refine T.x32.cal eI (bb:=λ_ _ _ _ _ H vs Q E hr h=>?_);obtain⟨t,r,many,rfl,tw,hm,sm,q⟩:=h;have htr:=tw.ne;obtain⟨cells,k,ht,hw,hne,hlen⟩:=tw;refine⟨_,(cr.go (ab (aw 2 eI.nd (am K (ak 0) aa))
   (ab (gR (ar cL (am K (ak 0) aa) aa) (yh (ak 0) aa uE))
   (ab (aw 3 eI.nd (ar mx (am K (ak 0) aa) (av (f_ (K:=K) rfl) (by rfl) T.x4 dH (aE (ak 2)))))
   (ab (aw 4 eI.nd (am K (ak 2) (ak 3)))
   (ab (bg (be MQ (ak 4) aa (aZ _)) (ab (gR (ar cu (ak 4) (ak 1)) (yh (ak 2) (ak 3) uE))
   (af (aq (ar mx (ak 4) (ak 1))))) aI)
   (ab (aw 5 eI.nd (ar mx (ar cL (ak 4) (ar aM aa (am K (ak 0) aa))) aa))
   (ab (aw 5 eI.nd (ar mx (ar Hd (ak 5) aa) aa))
   (af (aq (ar mx (ar cu (ar mx (ar cL (ar aM (ar cu (ak 5) aa) aa) (ak 5)) aa) aa) (ak 1)))))))))))),?_⟩
  have nz:0<cells.length:=Xe.mpr hne;have hw1:∀ o,upd H t o r=M (.lst (cells.map V.int)):=λo=>by rw[au htr.symm];exact hw
  refine⟨_,Y,Lx ht ?_⟩;refine⟨_,Y,CF ht ⟨_,_,Y,Y,_,Y,t,_,1,1,Y,Y,ht,Y,?_⟩⟩;refine⟨_,Y,CF (x:=.ref r) (y:=.int (k+1)) ag ⟨_,Y,r,cells.map V.int,Y,.inl (bK.of (hw1 _)),_,_,Y,Y,?_,?_⟩⟩
  ·show(0:Int)<((cells.map V.int).length:Int);rw[Pb];lia
  have e0:((cells.map V.int).length:Int)=(cells.length:Int):=by rw[Pb]
  obtain⟨j,hj⟩:∃ j:Nat,(k+1)%((cells.map V.int).length:Int)=(j:Int):=⟨_,(Int.toNat_of_nonneg (Sw _ (by lia))).symm⟩
  have hjl:j<cells.length:=by
   have:=RF (k+1) (show 0<((cells.map V.int).length:Int) by lia);lia
  simp only[hj];refine⟨_,Y,_,Y,.inl ⟨r,_,_,.int cells[j],Y,Y,bK.of (hw1 _),pZ (by simp[hjl]),?_⟩⟩;generalize cells[j]=c;refine⟨_,Y,_,_,Y,Y,_,Y,?_⟩;refine f9 (λhc=>?_) (λhc=>?_)
  ·refine⟨_,Y,_,Y,_,_,Y,Y,⟨by lia,sm⟩,_,Y,_,Y,r,_,_,j,Y,Y,hw1 _,?_,?_⟩
   ·rw[Pb];unfold C0;rw[Qh (show(0:Int)<=(j:Int) by lia),Qh (show(j:Int)<(cells.length:Int) by lia)];rfl
   refine⟨_,Y,_,Y,_,_,Y,Y,hm,?_⟩;refine q _ _ (Sw _ (by lia)) (RF _ hm) ⟨cells.set j (c.fdiv many),k+1,?_,?_,?_,?_⟩ ?_
   ·rw[au htr];exact ag
   ·rw[ag,List.map_set]
   ·intro z;have:=S0 Xd z;rw[Wo] at this;exact absurd this (by rw[US];lia)
   ·rw[Wo];exact hlen
   ·exact(Mv.upd (by simp)).trans (Mv.upd (by simp))
  ·refine⟨_,Y,_,Y,CF (x:=.ref r) (y:=.int (k+1)) ag ⟨_,_,Y,Y,.inr (by unfold Sm;decide),_,_,Y,Y,_,_,Y,Y,(by show(0:Int)<4294967291;decide),?_⟩⟩;dsimp only;have b1:=Sw (c+104729*(k+1)) (show(4294967291:Int)≠0 by decide);have b2:=RF (c+104729*(k+1)) (show(0:Int)<4294967291 by decide);generalize (c+104729*(k+1))%4294967291=m1 at b1 b2 ⊢;refine⟨_,Y,_,_,Y,Y,⟨by decide,by decide,by lia⟩,_,_,Y,Y,(by show(0:Int)<4294967279;decide),?_⟩;dsimp only;have b3:=Sw (m1^(5:Int).toNat) (show(4294967279:Int)≠0 by decide);have b4:=RF (m1^(5:Int).toNat) (show(0:Int)<4294967279 by decide);generalize m1^(5:Int).toNat%4294967279=m2 at b3 b4 ⊢;have b5:Sm 64 (m2.fdiv 64):=by
    rw[Qo _ (by decide)];unfold Sm;lia
   refine⟨_,Y,_,_,Y,Y,⟨by decide,by unfold Sm;decide⟩,_,_,Y,Y,.inr b5,_,Y,_,_,Y,Y,_,_,Y,Y,(by show(0:Int)<4294967231;decide),_,_,Y,Y,⟨by decide,by unfold Sm;decide⟩,_,Y,_,_,Y,Y,hm,?_⟩;exact q _ _ (Sw _ (by lia)) (RF _ hm) ⟨cells,k+1,ag,hw1 _,hne,hlen⟩ (Mv.upd (by simp))
theorem xN:ao uC0 uC0 (ae ma):=cI
inductive yn (K:KE)(vs:List V)(H:Hp)(Q:VK)(_:XK):Prop
 |mk (t r p:Po) (xs:List V) (_:vs=[.ref t,.ref p]) (_:ci H t r) (_:H p=M (.lst xs)) (_:p≠t) (_:p≠r) (_:xs≠[]) (_:xs.length<=1000) (_:∀ (i:Nat) (v:V) (H':Hp),xs[i]?=M v->ci H' t r->Mv [t,r] H H'->Q v H')
theorem dF (T:cH K mg w):c9 P w K mg base cn 2 "_law_pick" uC0 [] (yn K):=by
  refine T.x33.cal xN (bb:=λ_ _ _ _ _ H vs Q E hr h=>?_);obtain⟨t,r,p,xs,rfl,tw,hp,n1,n2,hne,hl,q⟩:=h;refine⟨_,(cr.go (af (aq (am K (ak 1) (ac ax (aL T) hr (aA (ak 0) (av (f_ (K:=K) rfl) (by rfl) T.x4 dH (aE (ak 1))))))))),?_⟩;have nz:0<xs.length:=Xe.mpr hne;refine⟨_,rfl,_,rfl,_,rfl,p,xs,rfl,.inl (bK.of hp),t,r,_,rfl,tw,by lia,?_,λd H' h0 h1 tw' mv=>?_⟩
  ·refine Sm.mono (k:=64) ?_ (by decide);unfold Sm;lia
  obtain⟨j,rfl⟩:=Rk h0;have hj:j<xs.length:=by lia
  exact .inl ⟨p,xs,_,xs[j],rfl,rfl,bK.of (mv p _ hp (by simp[n1,n2])),pZ (by simp[hj]),q j _ _ (by simp[hj]) tw' mv⟩
theorem vY:ao uA8 uA8 (ae kY):=cI
inductive wz (K:KE)(vs:List V)(H:Hp)(Q:VK)(_:XK):Prop
 |mk (x T) (_:vs=[x]) (_:Ty K H x T) (_:Q (.bl (zV x)) H)
theorem nZ (T:cH K mg w):c9 P w K mg base cn 1 "_law_whole" uA8 [] (wz K):=by
  refine T.x34.cal vY (bb:=λ_ _ _ _ _ H vs Q E hr h=>?_);obtain⟨x,S,rfl,ty,q⟩:=h;refine⟨_,(cr.go (af (aq (dA (av (km (K:=K) rfl) (by rfl) T.x2 aK (aA (ak 0) (bY (v:=.ty "int") rfl T.xp F7 rfl))) (eT (Ds (av (km (K:=K) rfl) (by rfl) T.x2 aK (aA (ak 0) (bY (v:=.ty "bool") rfl T.xn Dl rfl))))))))),?_⟩;obtain⟨b,e1,e2⟩:=FN ty;refine⟨_,rfl,_,_,_,b,rfl,ty,e1,b,rfl,?_⟩;cases b with
  |false=>
   refine bI ?_;rw[show zV x=false from e2] at q;exact q
  |true=>
   obtain⟨c,e3,e4⟩:=(show ∃ c,iD S "bool"=M c/\zV x=!c from e2)
   refine aX ⟨_,Y,_,_,_,c,Y,ty,e3,c,Y,?_⟩;rw[e4] at q;exact q
theorem jE:ao ["_law_one","_law_two","_law_a","_law_b"] oR (ae o9):=cI
inductive rK (K:KE)(vs:List V)(H:Hp)(Q:VK)(_:XK):Prop
 |mk (t b:Int) (_:vs=[.int t,.int b]) (_:b≠0) (_:Sm 8000 b) (_:Sh K H t b Q)
theorem eE (T:cH K mg w):c9 P w K mg base cn 1 "_law_low" oR [] (rK K):=by
  refine T.x35.cal jE (bb:=λ_ _ _ _ _ H vs Q E hr h=>?_);obtain⟨t,b,rfl,hb,sb,q⟩:=h;refine⟨_,(cr.go (ab (bg (be wX (ak 1) aa (aZ _)) (af (mV (i:=0) (j:=1) rfl jE.nd rfl rfl (by decide) rfl rfl (aA (ar cC aa (ak 0)) (ar cC aa (ak 1))) rfl)) aI)
   (ab (mV (i:=2) (j:=3) rfl jE.nd rfl rfl (by decide) rfl rfl (aA (av (qF rfl) (by rfl) T.xh BY (aA (ak 0) (ar cC aa (ak 0)))) (ak 1)) rfl)
   (ab (rn Qp (be wL (ak 3) aa (aZ _)) (af (mV (i:=2) (j:=3) rfl jE.nd rfl rfl (by decide) rfl rfl (aA (ak 3) (ar mx (ak 2) (ak 3))) rfl)))
   (af (aq (aY (aA (ar cu (ak 0) (ak 2)) (ar cu (ak 1) (ak 2)))))))))),?_⟩
  have core:∃ t' b':Int,(b<0->t'=0-t/\b'=0-b)/\(¬ b<0->t'=t/\b'=b)/\0<b'/\Sm 8000 b'/\∀ n d,Da t' b' n d->Da t b n d:=by
   by_cases hc:b<0
   ·refine⟨0-t,0-b,λ_=>⟨rfl,rfl⟩,λz=>absurd hc z,by lia,by rw[X0];exact sb.neg,λn d z=>⟨z.1,z.2.1,?_⟩⟩;have:=z.2.2;rw[X0,X0,Yf,Int.neg_mul] at this;lia
   ·exact⟨t,b,λz=>absurd z hc,λ_=>⟨rfl,rfl⟩,by lia,sb,λ_ _ z=>z⟩
  obtain⟨t',b',c1,c2,hb',sb',lw⟩:=core;refine⟨_,rfl,_,_,rfl,rfl,_,rfl,?_⟩
  suffices gZ:Jc _ _ _ [M (.int t'),M (.int b'),none,none] H by
   refine f9 (λhc=>?_) (λhc=>?_)
   ·obtain⟨rfl,rfl⟩:=c1 (QH hc);exact⟨_,rfl,_,_,rfl,rfl,_,rfl,_,_,rfl,rfl,_,_,rfl,gZ⟩
   ·obtain⟨rfl,rfl⟩:=c2 (λz=>hc (Ph z));exact gZ
  refine⟨_,rfl,_,rfl,_,_,rfl,rfl,_,_,rfl,_,rfl,_,_,rfl,?_⟩;refine⟨λm σ H'=>∃ x y:Int,σ=[M (.int t'),M (.int b'),M (.int x),M (.int y)]/\H'=H/\0<=x/\0<=y/\Q2 x y=Q2 t' b'/\m=y.toNat,⟨_,_,_,rfl,rfl,?_,?_,?_,rfl⟩,?_⟩
  ·split<;>lia
  ·lia
  ·rw[<- Dp t' b',show(if b'<0 then -b' else b')=b' from P3 (by lia)]
   congr 1
   by_cases h1:t'<0
   ·rw[Qh h1,Qh (show 0-t'>t' by lia)];lia
   ·rw[P3 h1]
    split<;>lia
  ·rintro m σ H' ⟨x,y,rfl,rfl,hx,hy,hg,rfl⟩;refine⟨_,rfl,_,_,rfl,rfl,_,rfl,?_⟩;refine f9 (λhc=>?_) (λhc=>?_)
   ·have hc:=QH hc;refine⟨_,λ_ _ z=>z,?_⟩;refine⟨_,rfl,_,rfl,_,rfl,_,_,rfl,rfl,hc,_,_,rfl,?_⟩;have h1:=Sw x (show y≠0 by lia);have h2:=RF x hc;exact⟨(x%y).toNat,by lia,y,x%y,rfl,rfl,hy,h1,by rw[Ac hx hc];exact hg,rfl⟩
   ·have hc:¬ (0<y):=λz=>hc (Ph z)
    have hy0:y=0:=by lia
    subst hy0;have e:x=(Q2 t' b':Int):=by
     rw[<- hg,Xl];lia
    subst e;have gb:Sm 8000 (Q2 t' b':Int):=sb'.le (Fx (by lia));have gn:(Q2 t' b':Int)≠0:=by
     have:=SY t' (show b'≠0 by lia);lia
    refine⟨_,Y,_,Y,_,_,Y,Y,⟨gn,gb⟩,_,Y,_,Y,_,_,Y,Y,⟨gn,gb⟩,kO,λp hp=>?_⟩;exact q _ _ _ _ (ah.new hp) (iA ag) (lw _ _ (B2 (by lia) Y (by rw[P3 (by lia)])))
theorem ze:ao oR oR (ae lS):=cI
inductive zI (K:KE)(vs:List V)(H:Hp)(Q:VK)(_:XK):Prop
 |mk (x y n d m e) (_:vs=[x,y]) (_:ay K H (ot n d) x) (_:ay K H (ot m e) y) (_:Ok 3900 n d) (_:Ok 3900 m e) (_:Sh K H (n*e+m*d) (d*e) Q)
theorem pQ (T:cH K mg w):c9 P w K mg base cn 2 "_law_plus" oR [] (zI K):=by
  refine T.x36.cal ze (bb:=λ_ _ _ _ _ H vs Q E hr h=>?_);obtain⟨x,y,n,d,m,e,rfl,hx,hy,ox,oy,q⟩:=h;obtain⟨a,rfl,ha⟩:=bj hx;obtain⟨b,rfl,hb⟩:=bj hy;refine⟨_,(cr.go (af (aq (ac ax (eE T) hr (aA (ar cL (ar aM (am K (ak 0) aa) (am K (ak 1) aa)) (ar aM (am K (ak 1) aa) (am K (ak 0) aa))) (ar aM (am K (ak 0) aa) (am K (ak 1) aa))))))),?_⟩;have c:∀ {i j:Int},Sm 3900 i->Sm 3900 j->lV i j:=λh1 h2=>.inl ⟨h1.mono (by decide),h2.mono (by decide)⟩
  refine⟨_,Y,cx ha ⟨_,Y,bM hb ⟨_,_,Y,Y,c ox.sn oy.sd,?_⟩⟩⟩;refine⟨_,Y,cx hb ⟨_,Y,bM ha ⟨_,_,Y,Y,c oy.sn ox.sd,_,_,Y,Y,?_⟩⟩⟩;refine⟨_,Y,bM ha ⟨_,Y,bM hb ⟨_,_,Y,Y,c ox.sd oy.sd,?_⟩⟩⟩;exact⟨_,_,Y,Qi ox.ne oy.ne,(ox.sd.mul oy.sd).mono (by decide),q⟩
theorem zk:ao oR oR (ae mf):=cI
inductive zS (K:KE)(vs:List V)(H:Hp)(Q:VK)(_:XK):Prop
 |mk (x y n d m e) (_:vs=[x,y]) (_:ay K H (ot n d) x) (_:ay K H (ot m e) y) (_:Ok 3900 n d) (_:Ok 3900 m e) (_:Sh K H (n*e-m*d) (d*e) Q)
theorem yT (T:cH K mg w):c9 P w K mg base cn 2 "_law_less" oR [] (zS K):=by
  refine T.x37.cal zk (bb:=λ_ _ _ _ _ H vs Q E hr h=>?_);obtain⟨x,y,n,d,m,e,rfl,hx,hy,ox,oy,q⟩:=h;obtain⟨a,rfl,ha⟩:=bj hx;obtain⟨b,rfl,hb⟩:=bj hy;refine⟨_,(cr.go (af (aq (ac ax (eE T) hr (aA (ar cC (ar aM (am K (ak 0) aa) (am K (ak 1) aa)) (ar aM (am K (ak 1) aa) (am K (ak 0) aa))) (ar aM (am K (ak 0) aa) (am K (ak 1) aa))))))),?_⟩;have c:∀ {i j:Int},Sm 3900 i->Sm 3900 j->lV i j:=λh1 h2=>.inl ⟨h1.mono (by decide),h2.mono (by decide)⟩
  refine⟨_,Y,cx ha ⟨_,Y,bM hb ⟨_,_,Y,Y,c ox.sn oy.sd,?_⟩⟩⟩;refine⟨_,Y,cx hb ⟨_,Y,bM ha ⟨_,_,Y,Y,c oy.sn ox.sd,_,_,Y,Y,?_⟩⟩⟩;refine⟨_,Y,bM ha ⟨_,Y,bM hb ⟨_,_,Y,Y,c ox.sd oy.sd,?_⟩⟩⟩;exact⟨_,_,Y,Qi ox.ne oy.ne,(ox.sd.mul oy.sd).mono (by decide),q⟩
theorem wq:ao oR oR (ae kN):=cI
inductive wc (K:KE)(vs:List V)(H:Hp)(Q:VK)(_:XK):Prop
 |mk (x y n d m e) (_:vs=[x,y]) (_:ay K H (ot n d) x) (_:ay K H (ot m e) y) (_:Ok 3900 n d) (_:Ok 3900 m e) (_:Sh K H (n*m) (d*e) Q)
theorem nN (T:cH K mg w):c9 P w K mg base cn 2 "_law_times" oR [] (wc K):=by
  refine T.x38.cal wq (bb:=λ_ _ _ _ _ H vs Q E hr h=>?_);obtain⟨x,y,n,d,m,e,rfl,hx,hy,ox,oy,q⟩:=h;obtain⟨a,rfl,ha⟩:=bj hx;obtain⟨b,rfl,hb⟩:=bj hy;refine⟨_,(cr.go (af (aq (ac ax (eE T) hr (aA (ar aM (am K (ak 0) aa) (am K (ak 1) aa)) (ar aM (am K (ak 0) aa) (am K (ak 1) aa))))))),?_⟩;have c:∀ {i j:Int},Sm 3900 i->Sm 3900 j->lV i j:=λh1 h2=>.inl ⟨h1.mono (by decide),h2.mono (by decide)⟩
  refine⟨_,Y,cx ha ⟨_,Y,cx hb ⟨_,_,Y,Y,c ox.sn oy.sn,?_⟩⟩⟩;refine⟨_,Y,bM ha ⟨_,Y,bM hb ⟨_,_,Y,Y,c ox.sd oy.sd,?_⟩⟩⟩;exact⟨_,_,Y,Qi ox.ne oy.ne,(ox.sd.mul oy.sd).mono (by decide),q⟩
theorem vT:ao oR oR (ae kQ):=cI
inductive wB (K:KE)(vs:List V)(H:Hp)(Q:VK)(_:XK):Prop
 |mk (x y:V) (p q:Rat) (_:vs=[x,y]) (_:ay K H (rD p) x) (_:ay K H (rD q) y) (_:Bq 3900 p) (_:Bq 3900 q) (_:Q (.bl (decide (p<q))) H)
theorem v_ (T:cH K mg w):c9 P w K mg base cn 1 "_law_below" oR [] (wB K):=by
  refine T.x39.cal vT (bb:=λ_ _ _ _ _ H vs Q E hr h=>?_);obtain⟨x,y,p,r,rfl,hx,hy,ox,oy,q⟩:=h;obtain⟨a,rfl,ha⟩:=bj hx;obtain⟨b,rfl,hb⟩:=bj hy;refine⟨_,(cr.go (af (aq (bX wX (ar aM (am K (ak 0) aa) (am K (ak 1) aa)) (ar aM (am K (ak 1) aa) (am K (ak 0) aa)) (aZ _))))),?_⟩;have c:∀ {i j:Int},Sm 3900 i->Sm 3900 j->lV i j:=λh1 h2=>.inl ⟨h1.mono (by decide),h2.mono (by decide)⟩
  refine⟨_,Y,cx ha ⟨_,Y,bM hb ⟨_,_,Y,Y,c ox.sn oy.sd,?_⟩⟩⟩;refine⟨_,Y,cx hb ⟨_,Y,bM ha ⟨_,_,Y,Y,c oy.sn ox.sd,_,_,Y,Y,?_⟩⟩⟩;rw[show decide (p<r)=decide (p.num*(r.den:Int)<r.num*(p.den:Int)) from V7.mpr (Rat.lt_iff p r)] at q;exact q
theorem nV:ao ["_law_town_here","_law_cap","_law_below_here"] uA0 (ae kU):=cI
inductive wn (K:KE)(vs:List V)(H:Hp)(Q:VK)(_:XK):Prop
 |mk (t r:Po) (cap:Int) (_:vs=[.ref t,.int cap]) (_:ci H t r) (_:0<cap) (_:cap<=1000) (_:∀ (v:V) (q:Rat) (H':Hp),ay K H' (rD q) v->0<=q->q<=(cap:Rat)->Bq 17 q->ci H' t r->Mv [t,r] H H'->Q v H')
theorem gM (T:cH K mg w):c9 P w K mg base cn 3 "_law_share" uA0 [] (wn K):=by
  refine T.x3a.cal nV (bb:=λ_ _ _ _ _ H vs Q E hr h=>?_);obtain⟨t,r,cap,rfl,tw,c0,c1,q⟩:=h;refine⟨_,(cr.go (ab (aw 2 nV.nd (ac ax (dF T) hr (aA (ak 0) (bV (aj aa (aj aa (aj aa (aj aa (aj aa (aj aa aQ))))))))))
   (af (aq (ac ax (dF T) hr (aA (ak 0) (ar BA (ar Gk (bV (aE (ac ax (eE T) hr (aA (ac ax (aL T) hr (aA (ak 0) (ar cL (ar aM (ak 1) (ak 2)) aa))) (ak 2))))) aa) (bV (aA (aY (aA aa aa)) (aY (aA (ak 1) aa))))))))))),?_⟩
  have s64:∀ {n:Int},0<n->n<100000->Sm 8000 n:=λh1 h2=>Sm.mono (k:=20) (by unfold Sm;lia) (by decide)
  refine⟨_,Y,(by show 6<=Pz;decide),λp hp=>?_⟩;have sp:=ah.new (o:=.lst [.int 1,.int 1,.int 2,.int 3,.int 7,.int 60]) hp;have np:=tw.not hp;refine⟨t,r,p,_,Y,tw.same sp,ag,λz=>np (by simp[z]),λz=>np (by simp[z]),by simp,by show 6<=1000;decide,λj v G hv tw1 mv1=>?_⟩;obtain⟨b,rfl,b0,b1⟩:∃ b:Int,v=.int b/\0<b/\b<=60:=by
   match j,hv with
   |0,hv=>exact⟨1,(O4 hv).symm,by decide,by decide⟩
   |1,hv=>exact⟨1,(O4 hv).symm,by decide,by decide⟩
   |2,hv=>exact⟨2,(O4 hv).symm,by decide,by decide⟩
   |3,hv=>exact⟨3,(O4 hv).symm,by decide,by decide⟩
   |4,hv=>exact⟨7,(O4 hv).symm,by decide,by decide⟩
   |5,hv=>exact⟨60,(O4 hv).symm,by decide,by decide⟩
  have cb:cap*b<=60000:=Int.le_trans (Int.mul_le_mul_of_nonneg_right c1 (by lia)) (by lia);have cb0:0<=cap*b:=RU (by lia) (by lia);have mv1:=(Mv.of sp).trans mv1;clear hv sp np hp;refine⟨_,Y,_,Y,_,Y,_,Y,_,_,Y,Y,.inr ((pW (by lia) c1).mono (by decide)),_,_,Y,Y,?_⟩;refine⟨t,r,_,Y,tw1,by lia,s64 (by lia) (by lia),λd H2 d0 d1 tw2 mv2=>?_⟩;have bq:Bq 17 ((d:Rat)/(b:Rat)):=jg (by lia) (by unfold Sm;lia) (by unfold Sm;lia);have bp:(0:Rat)<(b:Rat):=Rat.intCast_pos.mpr b0;have hd0:(0:Rat)<=(d:Rat):=Vk.mpr d0;have hd1:(d:Rat)<=(cap:Rat)*(b:Rat):=by rw[<- PY];exact Wd.mpr (by lia)
  have nb:=GY (n:=b) (by lia);have eq:(d:Rat)=(d:Rat)/(b:Rat)*(b:Rat):=by grind
  have q0:0<=(d:Rat)/(b:Rat):=Rat.not_lt.mp λz=>by
   have:=U4 z bp;grind
  have q1:(d:Rat)/(b:Rat)<=(cap:Rat):=Rat.not_lt.mp λz=>by
   have:=U4 z bp;grind
  refine⟨_,Y,_,_,Y,by lia,s64 (by lia) (by lia),jY.sh (by lia) λv3 H3 s3 hv3=>?_⟩;refine⟨NG,λp1 hp1=>?_⟩;have s4:=ah.new (o:=.lst [v3]) hp1;refine Ir (n:=4) Y (by decide) ag λp2 hp2=>?_
  have s5:=ah.new (o:=.lst (Px 4 v3)) hp2;refine⟨kO,λp3 hp3=>?_⟩;have s6:=ah.new (o:=.tup [.int 0,.int 1]) hp3;refine⟨_,Y,kO,λp4 hp4=>?_⟩;have s7:=ah.new (o:=.tup [.int cap,.int 1]) hp4;refine⟨kO,λp5 hp5=>?_⟩;have s8:=ah.new (o:=.lst [.ref p3,.ref p4]) hp5;have s67:=s6.trans (s7.trans s8);refine⟨p2,p5,_,_,Y,Y,s67 _ _ ag,ag,(by show 4+2<=Pz;decide),λp6 hp6=>?_⟩;have s9:=ah.new (o:=.lst (Px 4 v3++[.ref p3,.ref p4])) hp6;have g3:=s9 _ _ (s8 _ _ (s7 _ _ (ag (H:=upd (upd H3 p1 (.lst [v3])) p2 (.lst (Px 4 v3))) (a:=p3) (o:=.tup [.int 0,.int 1]))));have g4:=s9 _ _ (s8 _ _ (ag (H:=upd (upd (upd H3 p1 (.lst [v3])) p2 (.lst (Px 4 v3))) p3 (.tup [.int 0,.int 1])) (a:=p4) (o:=.tup [.int cap,.int 1])));have sA:ah H3 _:=((s4.trans s5).trans s67).trans s9;have hv:=ay.same sA hv3;have twA:=(tw2.same s3).same sA;have n6:p6∉[t,r]:=((tw2.same s3).same ((s4.trans s5).trans s67)).not hp6;have mvA:=(mv1.trans mv2).trans (Mv.of (s3.trans sA));have gA:upd (upd (upd (upd (upd (upd H3 p1 (.lst [v3])) p2 (.lst (Px 4 v3))) p3 (.tup [.int 0,.int 1])) p4 (.tup [.int cap,.int 1])) p5 (.lst [.ref p3,.ref p4])) p6 (.lst (Px 4 v3++[.ref p3,.ref p4])) p6=M (.lst (Px 4 v3++[.ref p3,.ref p4])):=ag;generalize upd (upd (upd (upd (upd (upd H3 p1 (.lst [v3])) p2 (.lst (Px 4 v3))) p3 (.tup [.int 0,.int 1])) p4 (.tup [.int cap,.int 1])) p5 (.lst [.ref p3,.ref p4])) p6 (.lst (Px 4 v3++[.ref p3,.ref p4]))=GA at g3 g4 sA hv twA mvA gA ⊢;refine⟨t,r,p6,_,Y,twA,gA,λz=>n6 (by simp[z]),λz=>n6 (by simp[z]),by simp,by show 6<=1000;decide,λj v H7 hj tw7 mv7=>?_⟩;have one:∀ {n:Int}{a:Po},GA a=M (.tup [.int n,.int 1])->ay K GA (rD (n:Rat)) (.ref a):=λ{n a} h=>by rw[rp];exact iA h
  obtain⟨z,hz,z0,z1,bz⟩:∃ z:Rat,ay K GA (rD z) v/\0<=z/\z<=(cap:Rat)/\Bq 17 z:=by
   have cp:(0:Rat)<=(cap:Rat):=Vk.mpr (by lia)
   match j,hj with
   |0,hj=>cases hj;exact⟨_,hv,q0,q1,bq⟩
   |1,hj=>cases hj;exact⟨_,hv,q0,q1,bq⟩
   |2,hj=>cases hj;exact⟨_,hv,q0,q1,bq⟩
   |3,hj=>cases hj;exact⟨_,hv,q0,q1,bq⟩
   |4,hj=>cases hj;exact⟨_,one g3,Rat.le_refl,cp,(fS (n:=0) (k:=17) (by unfold Sm;decide) (by decide))⟩
   |5,hj=>cases hj;exact⟨_,one g4,cp,Rat.le_refl,(fS (pW (by lia) c1) (by decide)).mono (by decide)⟩
  exact q v z H7 (ay.mv mv7 twA.lists rfl hz) z0 z1 bz tw7 (mvA.trans mv7)
theorem wA:ao uA0 uA0 (ae kD):=cI
inductive wy (K:KE)(vs:List V)(H:Hp)(Q:VK)(_:XK):Prop
 |mk (t r:Po) (cap:Int) (_:vs=[.ref t,.int cap]) (_:ci H t r) (_:0<cap) (_:cap<=1000) (_:∀ (v:V) (c:Q3) (H':Hp),ay K H' c.col v->c.Wi cap->c.Bd 17->ci H' t r->Mv [t,r] H H'->Q v H')
theorem vW (T:cH K mg w):c9 P w K mg base cn 4 "_law_three" uA0 [] (wy K):=by
  refine T.x3b.cal wA (bb:=λ_ _ _ _ _ H vs Q E hr h=>?_);obtain⟨t,r,cap,rfl,tw,c0,c1,q⟩:=h;refine⟨_,(cr.go (ab (bg (be eA (ac ax (aL T) hr (aA (ak 0) aa)) aa (aZ _)) (af (aq (ar Iy (aY (aE (ac ax (gM T) hr (aA (ak 0) (ak 1))))) aa))) aI)
   (af (aq (aY (aj (ac ax (gM T) hr (aA (ak 0) (ak 1))) (aj (ac ax (gM T) hr (aA (ak 0) (ak 1))) (aj (ac ax (gM T) hr (aA (ak 0) (ak 1))) aQ)))))))),?_⟩
  refine⟨_,rfl,t,r,6,rfl,tw,by decide,by unfold Sm;decide,λd H1 d0 d1 tw1 mv1=>⟨_,_,rfl,rfl,_,rfl,?_⟩⟩;refine f9 (λ_=>?_) (λ_=>?_)
  ·refine⟨_,rfl,_,rfl,t,r,cap,rfl,tw1,c0,c1,λv z H2 hv z0 z1 bz tw2 mv2=>⟨NG,λp hp=>?_⟩⟩;have s3:=ah.new (o:=.tup [v]) hp;refine⟨p,_,rfl,rfl,ag,λp2 hp2=>?_⟩;have s4:=ah.new (o:=.tup [v,v,v]) hp2;have hv:=ay.same (s3.trans s4) hv;exact q _ ⟨z,z,z⟩ _ (.tup ag (.cons hv (.cons hv (.cons hv .nil)))) ⟨z0,z1,z0,z1,z0,z1⟩ ⟨bz,bz,bz⟩ (tw2.same (s3.trans s4)) ((mv1.trans mv2).trans (Mv.of (s3.trans s4)))
  ·refine⟨_,rfl,_,rfl,t,r,cap,rfl,tw1,c0,c1,λv1 z1 H2 hv1 a0 a1 ba tw2 mv2=>?_⟩;refine⟨_,rfl,_,rfl,t,r,cap,rfl,tw2,c0,c1,λv2 z2 H3 hv2 b0 b1 bb rO mv3=>?_⟩;refine⟨_,rfl,_,rfl,t,r,cap,rfl,rO,c0,c1,λv3 z3 H4 hv3 k0 k1 bk tw4 mv4=>⟨EF,λp hp=>?_⟩⟩;have s:=ah.new (o:=.tup [v1,v2,v3]) hp;exact q _ ⟨z1,z2,z3⟩ _ (ay.tupN hp (.cons (ay.mv (mv3.trans mv4) tw2.lists rfl hv1) (.cons (ay.mv mv4 rO.lists rfl hv2) (.cons hv3 .nil)))) ⟨a0,a1,b0,b1,k0,k1⟩ ⟨ba,bb,bk⟩ (tw4.same s) ((((mv1.trans mv2).trans mv3).trans mv4).trans (Mv.of s))
theorem qK:ao uA8 uA8 (ae ic):=cI
inductive qT (K:KE)(vs:List V)(H:Hp)(Q:VK)(_:XK):Prop
 |mk (x n d) (_:vs=[x]) (_:ay K H (ot n d) x) (_:Ok 8000 n d) (_:∀ H',ah H H'->Q (.bl true) H')
theorem qz (T:cH K mg w):c9 P w K mg base cn 2 "_law_is_share" uA8 [] (qT K):=by
  refine T.x3c.cal qK (bb:=λ_ _ _ _ _ H vs Q E hr h=>?_);obtain⟨x,n,d,rfl,hx,ox,q⟩:=h;obtain⟨a,rfl,ha⟩:=bj hx;refine⟨_,(cr.go (ab (bg (WW.pt (dO (aV (aR (av (km (K:=K) rfl) (by rfl) T.x2 aK (aA (ak 0) (bY (v:=.ty "tuple") rfl T.x0 bA rfl))))) (dO (be o_ (av (f_ (K:=K) rfl) (by rfl) T.x4 dH (aE (ak 0))) aa (aZ _)) (dO (aV (aR (ac ax (nZ T) hr (aE (am K (ak 0) aa))))) (dI (aV (aR (ac ax (nZ T) hr (aE (am K (ak 0) aa)))))))))) (af (aq iy)) aI)
   (af (aq (dA (bX wL (am K (ak 0) aa) aa (aZ _)) (eT (bX (Dj (K:=K) rfl hr.units) (ac ax (eE T) hr (aA (am K (ak 0) aa) (am K (ak 0) aa))) (ak 0) (aZ _)))))))),?_⟩
  refine⟨_,rfl,_,_,_,true,rfl,.tup ha,by decide +kernel,_,rfl,bI ?_⟩;refine⟨_,rfl,a,_,rfl,.inr (dR.of ha),_,_,rfl,rfl,_,rfl,bI ?_⟩;refine⟨_,rfl,cx ha ⟨_,_,rfl,.int n,_,rfl,bI ?_⟩⟩;refine⟨_,rfl,bM ha ⟨_,_,rfl,.int d,_,rfl,bI ?_⟩⟩;refine⟨_,rfl,bM ha ⟨_,_,rfl,rfl,_,rfl,?_⟩⟩;rw[Ph ox.pos];refine aX ⟨_,rfl,cx ha ⟨_,rfl,bM ha ⟨n,d,rfl,ox.ne,ox.sd,λv m e H1 s1 hv lw=>?_⟩⟩⟩;refine⟨_,rfl,_,_,hv,ay.same s1 hx,rfl,rfl,?_⟩;rw[Aw (kL ox.ne lw (Hh ox.pos ox.co))];exact q _ s1
theorem qy:ao uA8 uA8 (ae ia):=cI
inductive qB (K:KE)(vs:List V)(H:Hp)(Q:VK)(_:XK):Prop
 |mk (x:V) (c:Q3) (_:vs=[x]) (_:ay K H c.col x) (_:c.Bd 3900) (_:∀ H',ah H H'->Q (.bl true) H')
theorem rf (T:cH K mg w):c9 P w K mg base cn 3 "_law_is_three" uA8 [] (qB K):=by
  refine T.x3d.cal qy (bb:=λ_ _ _ _ _ H vs Q E hr h=>?_);obtain⟨x,c,rfl,hx,bc,q⟩:=h;refine⟨_,(cr.go (af (aq (dA (av (km (K:=K) rfl) (by rfl) T.x2 aK (aA (ak 0) (bY (v:=.ty "tuple") rfl T.x0 bA rfl))) (dA (bX eA (av (f_ (K:=K) rfl) (by rfl) T.x4 dH (aE (ak 0))) aa (aZ _)) (eT (bX (Dj (K:=K) rfl hr.units) (aF uC7 [] [] 1 (bo (K:=K) rfl (ak 0)) (λnd=>(ai 0 nd)) (Aa (aV (aR (ac ax (qz T) hr (aE (ak 0)))))) (ak 0)) (bV aQ) (aZ _)))))))),?_⟩;refine⟨_,rfl,_,_,_,true,rfl,hx.ty,(show iD "tuple" "tuple"=M true by decide +kernel),_,rfl,aX ?_⟩;obtain⟨a,xs,rfl,ha,hds⟩:=aO (b:=false) hx;have hl:=hds.length;refine⟨_,rfl,a,_,rfl,oO ha,_,_,rfl,rfl,true,qi (by rw[<- hl];rfl),aX ?_⟩;refine⟨_,rfl,a,false,rfl,⟨_,ha⟩,DC ha hds (by show 3<=1000;decide) (λi d u H2 hd s2 hu zzQ S hS=>?_) (λH2 s2 D hD=>?_)⟩
  ·rcases lA hd with ⟨rfl,rfl⟩|⟨rfl,rfl⟩|⟨rfl,rfl⟩
   ·exact⟨_,rfl,u,_,_,rfl,hu,bc.a.mono (by decide),λH' s'=>⟨_,rfl,bI (hS _ s')⟩⟩
   ·exact⟨_,rfl,u,_,_,rfl,hu,bc.b.mono (by decide),λH' s'=>⟨_,rfl,bI (hS _ s')⟩⟩
   ·exact⟨_,rfl,u,_,_,rfl,hu,bc.c.mono (by decide),λH' s'=>⟨_,rfl,bI (hS _ s')⟩⟩
  ·refine⟨by decide,λp hp=>⟨.list [],.list [],ay.same (ah.new hp) (ay.listN hD .nil),ay.listN hp .nil,rfl,rfl,?_⟩⟩;exact q _ ((s2.trans (ah.new hD)).trans (ah.new hp))
theorem cw:ao ["_law_town_here","_law_last","_law_cap","_law_climbs","_law_size","_law_places","_law_values"] uB0 (ae jN):=cI
inductive t_ (K:KE)(vs:List V)(H:Hp)(Q:VK)(_:XK):Prop
 |mk (t r:Po) (last cap:Int) (c:Bool) (_:vs=[.ref t,.int last,.int cap,.bl c]) (_:ci H t r) (_:1<=last) (_:last<=1000) (_:1<=cap) (_:cap<=1000) (_:∀ (D:Po) (ps:List Pt) (z:Pt) (xs:List V) (H':Hp),H' D=M (.lst xs)->az K H' (ps.map rY) xs->z_ ps->ps.getLast?=M z->z.1=last->z.2<=cap->D∉[t,r]->ci H' t r->Mv [t,r] H H'->Q (.ref D) H')
theorem uV (T:cH K mg w):c9 P w K mg base cn 2 "_law_points" uB0 [] (t_ K):=by
  refine T.x3e.cal cw (bb:=λ_ _ _ _ _ H vs Q E hr h=>?_);obtain⟨t,r,last,cap,c,rfl,tw,l1,l2,c1,c2,q⟩:=h;refine⟨_,(cr.go (ab (aw 4 cw.nd (ar cL aa (ac ax (aL T) hr (aA (ak 0) aa))))
   (ab (aw 5 cw.nd (rL (K:=K) rfl rfl (by rfl) T.xg (by rfl) T.xq (aE (ar BA (bV (aA aa (ak 1))) (aF uB2 ["_law_town_here","_law_last"] [0,1] 1 (bh rfl T.x1 (aE (ak 4))) (λnd=>(ai 0 nd)) aD (ac ax (aL T) hr (aA (ak 1) (ar cL (ak 2) aa))))))))
   (ab (aw 6 cw.nd (av (Gw (K:=K) rfl) (by rfl) T.xg qJ (aE (aF uB2 uA0 [0,2] 1 (bh rfl T.x1 (aE (av (f_ (K:=K) rfl) (by rfl) T.x4 dH (aE (ak 5))))) (λnd=>(ai 0 nd)) aD (ac ax (aL T) hr (aA (ak 1) (ar cL (ak 2) aa)))))))
   (ab (bg (aR (ak 3)) (ab (aw 6 cw.nd (aF uB2 ["_law_cap","_law_values"] [2,6] 1 (bh rfl T.x1 (aE (av (f_ (K:=K) rfl) (by rfl) T.x4 dH (aE (ak 5))))) (λnd=>(ai 0 nd)) aD (av (gJ rfl) (by rfl) T.xc oP (aA (ak 1) (ar cL (am K (ak 2) (ak 0)) (ak 0))))))
   (ab (aw 6 cw.nd (rL (K:=K) rfl rfl (by rfl) T.xg (by rfl) T.xq (aE (ak 6))))
   (ab (aw 5 cw.nd (j_ (be wL (av (f_ (K:=K) rfl) (by rfl) T.x4 dH (aE (ak 6))) aa (aZ _)) (ar BA (wZ (M2 (K:=K) rfl) (ak 5) AC (Bm (ar cC (av (f_ (K:=K) rfl) (by rfl) T.x4 dH (aE (ak 6))) aa))) (bV (aE (ak 1)))) (bV (aA aa (ak 1)))))
   (af (aw 6 cw.nd (j_ (be wL (av (f_ (K:=K) rfl) (by rfl) T.x4 dH (aE (ak 6))) aa (aZ _)) (ak 6) (bV (aA aa (ak 2))))))))) aI)
   (af (aq (aF uB2 ["_law_places","_law_values"] [5,6] 1 (bh rfl T.x1 (aE (av (f_ (K:=K) rfl) (by rfl) T.x4 dH (aE (ak 5))))) (λnd=>(ai 0 nd)) aD (aY (aA (am K (ak 1) (ak 0)) (am K (ak 2) (ak 0)))))))))))),?_⟩
  have s64:∀ {n:Int},0<n->n<100000->Sm 8000 n:=λh1 h2=>Sm.mono (k:=20) (by unfold Sm;lia) (by decide)
  refine⟨_,Y,t,r,5,Y,tw,by decide,s64 (by decide) (by decide),λd H1 d0 d1 tw1 mv1=>⟨_,_,Y,Y,?_⟩⟩;refine⟨_,Y,kO,λp hp=>?_⟩;generalize e0:upd H1 p _=H2;have sp:=gY hp e0;have gp:=fB e0;have np:=tw1.not hp;have tw2:=tw1.same sp;have mv2:=mv1.trans (Mv.of sp);refine⟨_,Y,_,Y,by lia,by lia,rX (t:=t) (r:=r) (lo:=0) (m:=last) tw2 (by lia) (λi H3 hi rO mv3 R kk S=>?_) (λks H3 hk hP rO mv3 D hD=>?_)⟩
  ·exact aX (B:=S H3) ⟨_,Y,_,Y,_,_,Y,Y,t,r,_,Y,rO,by lia,s64 (by lia) (by lia),λd3 H4 a3 b3 tw4 mv4=>kk _ _ ⟨d3,Y,a3,by lia,tw4,mv4⟩⟩
  generalize e0:upd H3 D _=H4;have sD:=gY hD e0;have gD:=fB e0;have tw4:=rO.same sD;have mv4:=(mv2.trans mv3).trans (Mv.of sD);have gp4:=sD _ _ (mv3 _ _ gp np);have hk':ks.length<=6:=by lia
  refine⟨p,D,_,_,Y,Y,gp4,gD,by rw[Pb,QU];simp;lia,λp5 hp5=>?_⟩;have s5:ah H4 (upd H4 p5 (.lst ([.int 0,.int last]++ks.map V.int))):=ah.new hp5;have g5:upd H4 p5 (.lst ([.int 0,.int last]++ks.map V.int)) p5=M (.lst (([0,last]++ks).map V.int)):=by rw[ag,QN];rfl
  have tw5:=tw4.same s5;have mv5:=mv4.trans (Mv.of s5);generalize upd H4 p5 (.lst ([.int 0,.int last]++ks.map V.int))=H5 at s5 g5 tw5 mv5 ⊢;refine⟨p5,[0,last]++ks,Y,bK.of g5,by simp;lia,λL ns hL up mem len=>?_⟩;have pl:Pl last ns:=Mr l1 up ((mem 0).mpr (by simp)) ((mem last).mpr (by simp)) (λx hx=>by
   have:=(mem x).mp hx;simp only[Qe,Pq,PR,Rj] at this;rcases this with (e|e)|e
   ·lia
   ·lia
   ·exact hP x e) (by simp at len;lia)
  have few8:ns.length<=8:=by simp at len;lia
  generalize e0:upd H5 L _=H6;have s6:=gY hL e0;have g6:=fB e0;have nL:=tw5.not hL;have tw6:=tw5.same s6;have mv6:=mv5.trans (Mv.of s6);have two:=pl.two;have len6:(ns.map V.int).length=ns.length:=Pb _;refine⟨_,Y,L,_,Y,.inl (bK.of g6),_,Y,by lia,by lia,rX (t:=t) (r:=r) (lo:=0) (m:=cap) tw6 (by lia) (λi H7 hi tw7 mv7 R kk S=>?_) (λvs H7 hv iv tw7 mv7 D7 hD7=>?_)⟩
  ·exact aX (B:=S H7) ⟨_,Y,_,Y,_,_,Y,Y,t,r,_,Y,tw7,by lia,s64 (by lia) (by lia),λd3 H4 a3 b3 tw4 mv4=>kk _ _ ⟨d3,Y,a3,by lia,tw4,mv4⟩⟩
  have hv:vs.length=ns.length:=by lia
  generalize e0:upd H7 D7 _=H8;have s8:=gY hD7 e0;have g8:=fB e0;have tw8:=tw7.same s8;have mv8:=(mv6.trans mv7).trans (Mv.of s8);have gL8:=s8 _ _ (mv7 _ _ g6 nL);refine⟨D7,vs,Y,bK.of g8,by lia,λL9 ws hL9 up9 pe9=>?_⟩;have lw:ws.length=ns.length:=by rw[pe9.length_eq];exact hv
  have iw:∀ x∈ws,0<=x/\x<=cap:=λx hx=>iv x (pe9.mem_iff.mp hx)
  generalize e0:upd H8 L9 _=H9;have s9:=gY hL9 e0;have g9:=fB e0;have nL9:=tw8.not hL9;have tw9:=tw8.same s9;have mv9:=mv8.trans (Mv.of s9);have gL9:=s9 _ _ gL8;have out:∀ (ps:List Pt) (z:Pt) (G:Hp) (ys:List V) (D:Po),z_ ps->ps.getLast?=M z->z.1=last->z.2<=cap->ci G t r->Mv [t,r] H G->az K G (ps.map rY) ys->G D=none->Q (.ref D) (upd G D (.lst ys)):=
   λps z G ys D h1 h2 h3 h4 twG mvG hys hD=>q D ps z ys _ ag (az.same (ah.new hD) hys) h1 h2 h3 h4 (twG.not hD) (twG.same (ah.new hD)) (mvG.trans (Mv.of (ah.new hD)))
  refine⟨_,Y,_,Y,?_⟩;refine f9 (λhc=>?_) (λhc=>?_)
  ·let cl:List Int:=(Rq ns.length).map λk:Nat=>if ws.getD k 0+(k:Int)<cap then ws.getD k 0+(k:Int) else cap
   have icl:∀ x∈cl,0<=x/\x<=cap:=λx hx=>by
    obtain⟨k,hk,rfl⟩:=Qy.mp hx;rw[RV] at hk;have:ws.getD k 0=ws[k]:=by simp[List.getD,show k<ws.length by lia]
    have:=iw ws[k] (RK _)
    split<;>lia
   have lcl:cl.length=ns.length:=by simp[cl]
   refine⟨_,Y,L,_,Y,.inl (bK.of gL9),_,Y,by lia,by lia,d_ (K:=K) (lo:=0) (ds:=cl.map Rt) (by rw[Pb,lcl];lia) (by lia) (λi d G hd sG R kk S=>?_) (λys G sG hys D hD=>?_)⟩
   ·rw[Ps] at hd;obtain⟨m,em,rfl⟩:=PC.mp hd;have hi:i<ns.length:=by have:=(Pk.mp em).1;lia
    have em':m=if ws.getD i 0+(i:Int)<cap then ws.getD i 0+(i:Int) else cap:=by
     simp only[cl,Ps,List.getElem?_range hi,Yh,XN] at em;exact em.symm
    have ew:(ws.map V.int)[i]?=M (.int (ws.getD i 0)):=by simp[List.getD,show i<ws.length by lia]
    exact aX (B:=S G) ⟨_,Y,_,Y,_,Y,KQ (sG _ _ g9) (j:=i) ew (by lia) ⟨_,Y,_,_,Y,Y,_,_,Y,kk _ _ ⟨ah.refl _,by rw[em',TQ];exact .int _⟩⟩⟩
   cases Dg hys;have s10:ah H9 (upd G D (.lst (cl.map V.int))):=sG.trans (ah.new hD);have g10:upd G D (.lst (cl.map V.int)) D=M (.lst (cl.map V.int)):=ag;clear hys;generalize upd G D (.lst (cl.map V.int))=G at s10 g10 ⊢;refine⟨_,Y,D,cl,Y,bK.of g10,by lia,λL2 us hL2 up2 mem2 len2=>?_⟩;have iu:∀ x∈us,0<=x/\x<=cap:=λx hx=>icl x ((mem2 x).mp hx)
   have s11:ah H9 (upd G L2 (.lst (us.map V.int))):=s10.trans (ah.new hL2);have g11:upd G L2 (.lst (us.map V.int)) L2=M (.lst (us.map V.int)):=ag;generalize upd G L2 (.lst (us.map V.int))=G at s11 g11 ⊢;have lu:(us.map V.int).length=us.length:=Pb _;have gL11:=s11 _ _ gL9;refine⟨_,Y,L2,_,Y,.inl (bK.of g11),_,_,Y,Y,_,Y,?_⟩
   by_cases hu:1<us.length
   ·rw[Ph (show((us.map V.int).length:Int)>1 by lia)];refine aX ?_;refine⟨_,Y,_,Y,L2,_,Y,.inl (bK.of g11),_,_,Y,Y,_,Y,L,_,Y,bK.of gL11,λp1 hp1=>⟨_,Y,NG,λp2 hp2=>?_⟩⟩;rw[lu,Fk (ns.map V.int) us.length (by lia),<- List.map_take] at hp2 ⊢;have s12:ah G (upd (upd G p1 (.lst ((ns.take (us.length-1)).map V.int))) p2 (.lst [.int last])):=(ah.new hp1).trans (ah.new hp2);have ga:upd (upd G p1 (.lst ((ns.take (us.length-1)).map V.int))) p2 (.lst [.int last]) p1=M (.lst ((ns.take (us.length-1)).map V.int)):=ah.new hp2 _ _ ag;have gb:upd (upd G p1 (.lst ((ns.take (us.length-1)).map V.int))) p2 (.lst [.int last]) p2=M (.lst [.int last]):=ag;generalize upd (upd G p1 (.lst ((ns.take (us.length-1)).map V.int))) p2 (.lst [.int last])=G2 at s12 ga gb ⊢;refine⟨p1,p2,_,_,Y,Y,ga,gb,by rw[Pb,P1,QU];simp;lia,λp3 hp3=>?_⟩;rw[show(ns.take (us.length-1)).map V.int++[V.int last]=(ns.take (us.length-1)++[last]).map V.int by simp];obtain⟨pl2,len2'⟩:=K4 pl hu (by lia);generalize ns.take (us.length-1)++[last]=ms at pl2 len2' ⊢;have s13:ah H9 (upd G2 p3 (.lst (ms.map V.int))):=(s11.trans s12).trans (ah.new hp3);have g13:upd G2 p3 (.lst (ms.map V.int)) p3=M (.lst (ms.map V.int)):=ag;have gu13:upd G2 p3 (.lst (ms.map V.int)) L2=M (.lst (us.map V.int)):=ah.new hp3 _ _ (s12 _ _ g11);generalize upd G2 p3 (.lst (ms.map V.int))=G3 at s13 g13 gu13 ⊢;have lm:(ms.map V.int).length=ms.length:=Pb _;refine⟨_,Y,L2,_,Y,.inl (bK.of gu13),_,_,Y,Y,_,Y,?_⟩;rw[Ph (show((us.map V.int).length:Int)>1 by lia)];refine aX ⟨_,Y,?_⟩;obtain⟨hp1,z,hz,ez⟩:=Cp pl2 l2 (up2.imp (λh=>Wk h)) (λx hx=>by have:=iu x hx;lia) (by lia);have lz:(ms.zip us).length=ms.length:=by rw[UT];lia
    refine⟨_,Y,p3,_,Y,.inl (bK.of g13),_,Y,by lia,by lia,d_ (K:=K) (lo:=0) (ds:=(ms.zip us).map rY) (by rw[Pb];lia) (by lia) (λi d G' hd sG R kk S=>?_) (λys G' sG hys D hD=>?_)⟩
    ·rw[Ps] at hd;obtain⟨pt,ept,rfl⟩:=PC.mp hd;obtain⟨ea,eb⟩:=Qr.mp ept;exact aX (B:=S G') ⟨_,Y,_,Y,KQ (sG _ _ g13) (j:=i) (v:=.int pt.1) (by rw[Ps,ea];rfl) (by lia) ⟨_,Y,_,Y,KQ (sG _ _ gu13) (j:=i) (v:=.int pt.2) (by rw[Ps,eb];rfl) (by lia) ⟨kO,λp hp=>kk _ _ ⟨ah.new hp,ay.tupN hp (.cons (.int _) (.cons (.int _) .nil))⟩⟩⟩⟩
    ·exact out _ z G' ys D hp1 hz ez (iu z.2 (SB (Sq hz)).2).2 ((tw9.same s13).same sG) ((mv9.trans (Mv.of s13)).trans (Mv.of sG)) hys hD
   ·rw[Qf (show ¬ ((us.map V.int).length:Int)>1 by lia)];refine bI ⟨_,Y,kO,λp1 hp1=>?_⟩;have s12:ah H9 (upd G p1 (.lst [.int 0,.int last])):=s11.trans (ah.new hp1);have g12:upd G p1 (.lst [.int 0,.int last]) p1=M (.lst ([0,last].map V.int)):=ag;have gu12:upd G p1 (.lst [.int 0,.int last]) L2=M (.lst (us.map V.int)):=ah.new hp1 _ _ g11;generalize upd G p1 (.lst [.int 0,.int last])=G2 at s12 g12 gu12 ⊢;refine⟨_,Y,L2,_,Y,.inl (bK.of gu12),_,_,Y,Y,_,Y,?_⟩;rw[Qf (show ¬ ((us.map V.int).length:Int)>1 by lia)];refine bI ⟨_,Y,kO,λp2 hp2=>?_⟩;have s13:ah H9 (upd G2 p2 (.lst [.int 0,.int cap])):=s12.trans (ah.new hp2);have g13:upd G2 p2 (.lst [.int 0,.int cap]) p1=M (.lst ([0,last].map V.int)):=ah.new hp2 _ _ g12;have gu13:upd G2 p2 (.lst [.int 0,.int cap]) p2=M (.lst ([0,cap].map V.int)):=ag;generalize upd G2 p2 (.lst [.int 0,.int cap])=G3 at s13 g13 gu13 ⊢;have lm:([0,last].map V.int).length=2:=Y;have lm2:[0,last].length=2:=Y;have lm3:[0,cap].length=2:=Y;obtain⟨hp1,z,hz,ez⟩:=Cp (K' l1) l2 (show[0,cap].Pairwise (·<=·) by simp;lia) (λx hx=>by simp at hx;lia) Y;have lz:([0,last].zip [0,cap]).length=[0,last].length:=by rw[UT];lia
    refine⟨_,Y,p1,_,Y,.inl (bK.of g13),_,Y,by lia,by lia,d_ (K:=K) (lo:=0) (ds:=([0,last].zip [0,cap]).map rY) (by rw[Pb];lia) (by lia) (λi d G' hd sG R kk S=>?_) (λys G' sG hys D hD=>?_)⟩
    ·rw[Ps] at hd;obtain⟨pt,ept,rfl⟩:=PC.mp hd;obtain⟨ea,eb⟩:=Qr.mp ept;exact aX (B:=S G') ⟨_,Y,_,Y,KQ (sG _ _ g13) (j:=i) (v:=.int pt.1) (by rw[Ps,ea];rfl) (by lia) ⟨_,Y,_,Y,KQ (sG _ _ gu13) (j:=i) (v:=.int pt.2) (by rw[Ps,eb];rfl) (by lia) ⟨kO,λp hp=>kk _ _ ⟨ah.new hp,ay.tupN hp (.cons (.int _) (.cons (.int _) .nil))⟩⟩⟩⟩
    ·exact out _ z G' ys D hp1 hz ez (by have m:=(SB (Sq hz)).2;simp at m;lia) ((tw9.same s13).same sG) ((mv9.trans (Mv.of s13)).trans (Mv.of sG)) hys hD
  ·obtain⟨hp1,z,hz,ez⟩:=Cp pl l2 up9 (λx hx=>by have:=iw x hx;lia) lw;have lz:(ns.zip ws).length=ns.length:=by rw[UT];lia
   refine⟨_,Y,L,_,Y,.inl (bK.of gL9),_,Y,by lia,by lia,d_ (K:=K) (lo:=0) (ds:=(ns.zip ws).map rY) (by rw[Pb];lia) (by lia) (λi d G hd sG R kk S=>?_) (λys G sG hys D hD=>?_)⟩
   ·rw[Ps] at hd;obtain⟨pt,ept,rfl⟩:=PC.mp hd;obtain⟨ea,eb⟩:=Qr.mp ept;exact aX (B:=S G) ⟨_,Y,_,Y,KQ (sG _ _ gL9) (j:=i) (v:=.int pt.1) (by rw[Ps,ea];rfl) (by lia) ⟨_,Y,_,Y,KQ (sG _ _ g9) (j:=i) (v:=.int pt.2) (by rw[Ps,eb];rfl) (by lia) ⟨kO,λp hp=>kk _ _ ⟨ah.new hp,ay.tupN hp (.cons (.int _) (.cons (.int _) .nil))⟩⟩⟩⟩
   ·exact out _ z G ys D hp1 hz ez (iw z.2 (SB (Sq hz)).2).2 (tw9.same sG) (mv9.trans (Mv.of sG)) hys hD
theorem fW:ao ["_law_town_here","_law_kind","_law_first","_law_cap"] uA1 (ae jQ):=cI
inductive vw (K:KE)(vs:List V)(H:Hp)(Q:VK)(_:XK):Prop
 |mk (t r:Po) (_:vs=[.ref t]) (_:ci H t r) (_:∀ (v:V) (s:S9) (H':Hp),ay K (cut [t,r] H') s.d v->s.In->ci H' t r->Mv [t,r] H H'->Q v H')
def NM (d:P5):Prop:=∃ i:Int,d=.int i/\-4000<=i/\i<=4000
theorem Fl {ds:List P5}(hl:ds.length=3)(h:∀ d∈ds,NM d):∃ r:R3,ds=r.ds/\r.In 4000:=by
 match ds,hl,h with
 |[x,y,z],_,h=>
  obtain⟨a,rfl,a1,a2⟩:=h x (by simp);obtain⟨b,rfl,b1,b2⟩:=h y (by simp);obtain⟨c,rfl,c1,c2⟩:=h z (by simp);exact⟨⟨a,b,c⟩,Y,a1,a2,b1,b2,c1,c2⟩
theorem uf (T:cH K mg w):c9 P w K mg base cn 3 "_law_square" uA1 [] (vw K):=by
  refine T.x3f.cal fW (bb:=λ_ _ _ _ _ H vs Q E hr h=>?_);obtain⟨t,r,rfl,tw,q⟩:=h;refine⟨_,(cr.go (ab (aw 1 fW.nd (ac ax (aL T) hr (aA (ak 0) aa)))
   (ab (bg (be eA (ak 1) aa (aZ _)) (af (aq (aY (aj (aY (aj aa (aj aa (aj aa aQ)))) (aj (aY (aj aa (aj aa (aj aa aQ)))) (aj (aY (aj aa (aj aa (aj aa aQ)))) aQ)))))) aI)
   (ab (bg (be eA (ak 1) aa (aZ _)) (ab (c_ 2 uB2 uA1 [0] 1 fW.nd (bh rfl T.x1 (aE aa)) (λnd=>(ai 0 nd)) aD (ar cC (ac ax (aL T) hr (aA (ak 1) aa)) aa))
   (af (aq (bV (aj (ak 2) (aj (aF uC7 [] [] 1 (bo (K:=K) Y (ak 2)) (λnd=>(ai 0 nd)) aD (ar aM aa (ak 0))) (aj (aF uB2 uA1 [0] 1 (bh rfl T.x1 (aE aa)) (λnd=>(ai 0 nd)) aD (ac ax (aL T) hr (aA (ak 1) aa))) aQ))))))) aI)
   (ab (aw 3 fW.nd (ac ax (dF T) hr (aA (ak 0) (bV (aj aa (aj aa (aj aa aQ)))))))
   (af (aq (aF ["_law_j"] uA0 [0,3] 1 (bh rfl T.x1 (aE aa)) (λnd=>(ai 0 nd)) aD (aF uB2 uA0 [1,2] 1 (bh rfl T.x1 (aE aa)) (λnd=>(ai 0 nd)) aD (ar cC (ac ax (aL T) hr (aA (ak 1) (ar cL (ar aM aa (ak 2)) aa))) (ak 2))))))))))),?_⟩
  have s64:∀ {n:Int},0<n->n<100000->Sm 8000 n:=λh1 h2=>Sm.mono (k:=20) (by unfold Sm;lia) (by decide)
  refine⟨_,Y,t,r,4,Y,tw,by decide,s64 (by decide) (by decide),λd1 H1 a1 b1 tw1 mv1=>?_⟩;refine⟨_,Y,_,_,Y,Y,_,Y,?_⟩;refine f9 (λ_=>?_) (λ_=>?_)
  ·refine⟨EF,λp hp=>⟨EF,λp2 hp2=>⟨EF,λp3 hp3=>⟨EF,λp4 hp4=>?_⟩⟩⟩⟩;have t1:ay K (upd H1 p (.tup [.int 412,.int 357,.int 180])) (c6 false ⟨412,357,180⟩) (.ref p):=ay.tupN hp (.cons (.int _) (.cons (.int _) (.cons (.int _) .nil)));have sa:ah H1 (upd H1 p (.tup [.int 412,.int 357,.int 180])):=ah.new hp;generalize upd H1 p (.tup [.int 412,.int 357,.int 180])=H2 at t1 sa hp2 hp3 hp4 ⊢;have t2:ay K (upd H2 p2 (.tup [.int 212,.int 715,.int 72])) (c6 false ⟨212,715,72⟩) (.ref p2):=ay.tupN hp2 (.cons (.int _) (.cons (.int _) (.cons (.int _) .nil)));have sb:ah H2 (upd H2 p2 (.tup [.int 212,.int 715,.int 72])):=ah.new hp2;generalize upd H2 p2 (.tup [.int 212,.int 715,.int 72])=H3 at t2 sb hp3 hp4 ⊢;have t3:ay K (upd H3 p3 (.tup [.int 19,.int 119,.int 950])) (c6 false ⟨19,119,950⟩) (.ref p3):=ay.tupN hp3 (.cons (.int _) (.cons (.int _) (.cons (.int _) .nil)));have sc:ah H3 (upd H3 p3 (.tup [.int 19,.int 119,.int 950])):=ah.new hp3;generalize upd H3 p3 (.tup [.int 19,.int 119,.int 950])=H4 at t3 sc hp4 ⊢;have sd:ah H4 (upd H4 p4 (.tup [.ref p,.ref p2,.ref p3])):=ah.new hp4;have s4:ah H1 (upd H4 p4 (.tup [.ref p,.ref p2,.ref p3])):=(sa.trans sb).trans (sc.trans sd);have tw4:=tw1.same s4;have hh:ay K (upd H4 p4 (.tup [.ref p,.ref p2,.ref p3])) (S9.d ⟨false,false,false,false,⟨412,357,180⟩,⟨212,715,72⟩,⟨19,119,950⟩⟩) (.ref p4):=
    ay.tupN hp4 (.cons (ay.same (sb.trans sc) t1) (.cons (ay.same sc t2) (.cons t3 .nil)))
   refine q _ ⟨false,false,false,false,⟨412,357,180⟩,⟨212,715,72⟩,⟨19,119,950⟩⟩ _ (ay.cutT tw4.lists rfl hh) ?_ tw4 (mv1.trans (Mv.of s4));exact⟨⟨by decide,by decide,by decide,by decide,by decide,by decide⟩,⟨by decide,by decide,by decide,by decide,by decide,by decide⟩,⟨by decide,by decide,by decide,by decide,by decide,by decide⟩⟩
  refine⟨_,Y,_,_,Y,Y,_,Y,?_⟩;refine f9 (λ_=>?_) (λ_=>?_)
  ·refine⟨3,Y,by decide,by decide,eC (K:=K) (lo:=0) (n:=3) (Pd:=λd=>∃ i:Int,d=.int i/\-2000<=i/\i<=2000) tw1 (by decide) (λi H2 hi tw2 mv2 R kk S=>?_) (λds ys H2 hl hP tw2 mv2 hys D hD=>?_)⟩
   ·refine aX (B:=S H2) ⟨_,Y,t,r,9,Y,tw2,by decide,s64 (by decide) (by decide),λd2 H3 a2 b2 rO mv3=>⟨_,_,Y,Y,kk _ _ ⟨rO,mv3,.int (d2-4),⟨_,Y,by lia,by lia⟩,.int _⟩⟩⟩
   obtain⟨r1,rfl,i1⟩:∃ r1:R3,ds=r1.ds/\r1.In 2000:=by
    match ds,hl,hP with
    |[x,y,z],_,h=>
     obtain⟨a,rfl,a1,a2⟩:=h x (by simp);obtain⟨b,rfl,b1,b2⟩:=h y (by simp);obtain⟨c,rfl,c1,c2⟩:=h z (by simp);exact⟨⟨a,b,c⟩,Y,a1,a2,b1,b2,c1,c2⟩
   have sD:ah H2 (upd H2 D (.lst ys)):=ah.new hD;have c1:=gX tw2 hD hys;have rO:=tw2.same sD;have mv3:=(mv1.trans mv2).trans (Mv.of sD);generalize upd H2 D (.lst ys)=H3 at sD c1 rO mv3 ⊢;have g1:=ay.uncut c1;obtain⟨b,xs,eb,hb,hxs⟩:=aO (b:=true) g1;cases eb;refine⟨_,Y,_,Y,D,true,Y,⟨_,hb⟩,bG (es:=(R3.mk (2*r1.a) (2*r1.b) (2*r1.c)).ds) hb hxs rfl (by show 3<=1000;decide) (λi d e u H4 hd he s4 hu R kk S=>?_) (λzs H4 s4 hzs D2 hD2=>?_)⟩
   ·refine aX (B:=S H4) ?_;rcases lA hd with ⟨rfl,rfl⟩|⟨rfl,rfl⟩|⟨rfl,rfl⟩<;>(cases hu;cases(O4 he);exact⟨_,rfl,_,_,rfl,rfl,.inr (by unfold Sm;decide),kk _ _ ⟨ah.refl _,.int _⟩⟩)
   have tw4:=rO.same s4;have sD2:ah H4 (upd H4 D2 (.lst zs)):=ah.new hD2;have zz:=fu hzs;subst zz;have c2:ay K (cut [t,r] (upd H4 D2 (.lst (R3.mk (2*r1.a) (2*r1.b) (2*r1.c)).vs))) (c6 true ⟨2*r1.a,2*r1.b,2*r1.c⟩) (.ref D2):=gX tw4 hD2 (.cons (.int _) (.cons (.int _) (.cons (.int _) .nil)));have c1':=ay.same (ah.cut (T:=[t,r]) (s4.trans sD2)) c1;have tw5:=tw4.same sD2;have mv5:=(mv3.trans (Mv.of s4)).trans (Mv.of sD2);generalize upd H4 D2 (.lst (R3.mk (2*r1.a) (2*r1.b) (2*r1.c)).vs)=H5 at c2 c1' tw5 mv5 ⊢;refine⟨3,rfl,by decide,by decide,eC (K:=K) (lo:=0) (n:=3) (Pd:=NM) tw5 (by decide) (λi H6 hi tw6 mv6 R kk S=>?_) (λds ys H6 hl hP tw6 mv6 hys D3 hD3=>?_)⟩
   ·refine aX (B:=S H6) ⟨_,rfl,t,r,99,rfl,tw6,by decide,s64 (by decide) (by decide),λd2 H7 a2 b2 tw7 mv7=>kk _ _ ⟨tw7,mv7,.int d2,⟨_,rfl,by lia,by lia⟩,.int _⟩⟩
   obtain⟨r3,rfl,i3⟩:=Fl hl hP;have c3:=gX tw6 hD3 hys;have sD3:ah H6 (upd H6 D3 (.lst ys)):=ah.new hD3;have c1'':=ay.same ((mv6.trans (Mv.of sD3)).cut) c1';have c2':=ay.same ((mv6.trans (Mv.of sD3)).cut) c2;have tw7:=tw6.same sD3;have mv7:=(mv5.trans mv6).trans (Mv.of sD3);generalize upd H6 D3 (.lst ys)=H7 at c3 c1'' c2' tw7 mv7 ⊢;refine⟨EF,λL hL=>?_⟩;refine q _ ⟨true,true,true,true,r1,⟨2*r1.a,2*r1.b,2*r1.c⟩,r3⟩ _ (gX (ds:=[c6 true r1,c6 true ⟨2*r1.a,2*r1.b,2*r1.c⟩,c6 true r3]) tw7 hL (.cons c1'' (.cons c2' (.cons c3 .nil)))) ⟨?_,?_,i3⟩ (tw7.same (ah.new hL)) (mv7.trans (Mv.of (ah.new hL)))
   ·obtain⟨a1,a2,b1,b2,c1,c2⟩:=i1;exact⟨by show -4000<=r1.a;lia,by show r1.a<=4000;lia,by show -4000<=r1.b;lia,by show r1.b<=4000;lia,by show -4000<=r1.c;lia,by show r1.c<=4000;lia⟩
   ·obtain⟨a1,a2,b1,b2,c1,c2⟩:=i1;exact⟨by show -4000<=2*r1.a;lia,by show 2*r1.a<=4000;lia,by show -4000<=2*r1.b;lia,by show 2*r1.b<=4000;lia,by show -4000<=2*r1.c;lia,by show 2*r1.c<=4000;lia⟩
  refine⟨_,rfl,EF,λp hp=>?_⟩;obtain⟨_,_,k1,k2,_⟩:=id tw1;refine⟨t,r,p,_,rfl,tw1.same (ah.new hp),ag,(aS k1 hp).symm,(aS k2 hp).symm,by simp,by decide,λi v H2 hv tw2 mv2=>?_⟩;obtain⟨cap,rfl,h1,h2⟩:∃ cap:Int,v=.int cap/\0<cap/\cap<=4000:=by
   rcases lA hv with ⟨_,rfl⟩|⟨_,rfl⟩|⟨_,rfl⟩<;>exact⟨_,rfl,by decide,by decide⟩
  have mv2':=(mv1.trans (Mv.of (ah.new hp))).trans mv2;refine⟨3,rfl,by decide,by decide,eC (K:=K) (lo:=0) (n:=3) (Pd:=λd=>∃ r:R3,d=c6 true r/\r.In 4000) tw2 (by decide) (λi H3 hi rO mv3 R kk S=>?_) (λds ys H3 hl hP rO mv3 hys D hD=>?_)⟩
  ·refine aX (B:=S H3) ?_;refine⟨3,rfl,by decide,by decide,eC (K:=K) (lo:=0) (n:=3) (Pd:=NM) rO (by decide) (λi H4 hi tw4 mv4 R kk S=>?_) (λds ys H4 hl hP tw4 mv4 hys D hD=>?_)⟩
   ·refine aX (B:=S H4) ⟨_,rfl,_,rfl,_,_,rfl,rfl,.inr (by unfold Sm;decide),_,_,rfl,rfl,t,r,2*cap+1,rfl,tw4,by lia,s64 (by lia) (by lia),λd2 H5 a2 b2 tw5 mv5=>⟨_,rfl,_,_,rfl,rfl,kk _ _ ⟨tw5,mv5,.int (d2-cap),⟨_,rfl,by lia,by lia⟩,.int _⟩⟩⟩
   obtain⟨r3,rfl,i3⟩:=Fl hl hP;exact kk _ _ ⟨tw4.same (ah.new hD),mv4.trans (Mv.of (ah.new hD)),c6 true r3,⟨_,rfl,i3⟩,gX tw4 hD hys⟩
  obtain⟨r1,r2,r3,rfl,i1,i2,i3⟩:∃ r1 r2 r3:R3,ds=[c6 true r1,c6 true r2,c6 true r3]/\r1.In 4000/\r2.In 4000/\r3.In 4000:=by
   match ds,hl,hP with
   |[x,y,z],_,h=>
    obtain⟨a,rfl,a1⟩:=h x (by simp);obtain⟨b,rfl,b1⟩:=h y (by simp);obtain⟨c,rfl,c1⟩:=h z (by simp);exact⟨a,b,c,Y,a1,b1,c1⟩
  exact q _ ⟨true,true,true,true,r1,r2,r3⟩ _ (gX rO hD hys) ⟨i1,i2,i3⟩ (rO.same (ah.new hD)) ((mv2'.trans mv3).trans (Mv.of (ah.new hD)))
theorem fq:ao ["_law_rows","_law_colour","_law_found","_law_row","_law_whole_here","_law_k"] uD6 (ae oZ):=cI
inductive Ad (K:KE)(vs:List V)(H:Hp)(Q:VK)(_:XK):Prop
 |mk (x y:V) (m:M9) (c:Q3) (_:vs=[x,y]) (_:ay K H m.d x) (_:ay K H c.col y) (_:m.Bd 600) (_:c.Bd 600) (_:∀ v H',ah H H'->ay K H' (m.led c).col v->Q v H')
theorem A7 (T:cH K mg w):c9 P w K mg base cn 3 "_law_led" uD6 [] (Ad K):=by
  refine T.x3g.cal fq (bb:=λ_ _ _ _ _ H vs Q E hr h=>?_);obtain⟨x,y,m,c,rfl,hx,hy,bm,bc,q⟩:=h;obtain⟨a,xs,rfl,ha,hxs⟩:=aO (b:=true) hx;obtain⟨b,ys,rfl,hb,hys⟩:=aO (b:=false) hy;have lx:=hxs.length;have ly:=hys.length;refine⟨_,(cr.go (ab (aw 2 fq.nd (bV aQ))
   (ab (dW Qp rfl (bo (K:=K) rfl (ak 0)) (ai 3 fq.nd) (ab (aw 4 fq.nd (aY (aA aa aa)))
   (ab (dW Qp rfl (bh rfl T.x1 (aE aa)) (ai 5 fq.nd) (af (aw 4 fq.nd (ac ax (pQ T) hr (aA (ak 4) (ac ax (nN T) hr (aA (am K (ak 3) (ak 5)) (am K (ak 1) (ak 5)))))))))
   (af (bt (uF RP RT SC mT (ak 2) (aE (ak 4))))))))
   (af (aq (aW (cK (K:=K) rfl) (by rfl) T.x0 bA (aE (ak 2)))))))),?_⟩
  refine⟨by decide,λF hF=>?_⟩;have s0:ah H (upd H F (.lst [])):=ah.new hF;refine⟨_,rfl,a,true,rfl,⟨_,bU.same s0 ha⟩,kK (λi σ H'=>∃ zs o3 o4 o5,σ=[M (.ref a),M (.ref b),M (.ref F),o3,o4,o5]/\ah H H'/\H' F=M (.lst zs)/\az K H' ((m.led c).ds.take i) zs)
   ⟨[],_,_,_,rfl,s0,ag,.nil⟩ (λi σ H2 hi ⟨_,_,_,_,_,s2,_⟩=>bU.same s2 ha) ?_ ?_⟩
  ·rintro i w σ H2 ew ⟨zs,o3,o4,o5,rfl,s2,hF2,hzs⟩;obtain⟨p,hw,bp,ep⟩:∃ p:Q3,ay K H2 (.list p.ds) w/\p.Bd 600/\(m.led c).ds[i]?=M (rD (vq p c)):=by
    obtain⟨x0,x1,x2,rfl,g0,g1,g2⟩:=fw hxs;rcases lA ew with ⟨rfl,rfl⟩|⟨rfl,rfl⟩|⟨rfl,rfl⟩
    ·exact⟨_,ay.same s2 g0,bm.x,rfl⟩
    ·exact⟨_,ay.same s2 g1,bm.y,rfl⟩
    ·exact⟨_,ay.same s2 g2,bm.z,rfl⟩
   obtain⟨g,ws,rfl,hg,hws⟩:=aO (b:=true) hw;have lw:=hws.length;refine⟨kO,λz0 hz0=>?_⟩;have sz:ah H2 (upd H2 z0 (.tup [.int 0,.int 1])):=ah.new hz0;refine⟨3,rfl,by decide,by decide,iS (lo:=0) (n:=3) (λj σ H'=>∃ v o5,σ=[M (.ref a),M (.ref b),M (.ref F),M (.ref g),M v,o5]/\ah H2 H'/\ay K H' (rD (NF p c j)) v)
    ⟨_,_,rfl,sz,iA ag⟩ ?_ ?_⟩
   ·rintro j σ H3 hj ⟨v,o5,rfl,s3,hv⟩;have hwj:ws[j]?=M ws[j]:=by simp[show j<ws.length by rw[<- lw];exact hj]
    have hyj:ys[j]?=M ys[j]:=by simp[show j<ys.length by rw[<- ly];exact hj]
    obtain⟨P,C,hP,hC,bP,bC,eq,bq⟩:=FY (az.same s3 hws) (az.same (s2.trans s3) hys) bp bc hwj hyj;have e0:(0:Int)+(j:Int)=(j:Int):=TQ _;rw[e0];refine⟨_,rfl,_,rfl,_,rfl,nF (bU.same s3 hg) hwj ⟨_,rfl,_,rfl,nF (bU.same (s2.trans s3) hb) hyj ?_⟩⟩;refine⟨_,_,_,_,_,_,rfl,hP,hC,bP.mono (by decide),bC.mono (by decide),jY.mul λv4 H4 s4 hv4=>?_⟩;refine⟨_,_,_,_,_,_,rfl,ay.same s4 hv,hv4,bq.mono (by decide),Ok.mono (Bq.mul bP bC) (by decide),jY.add λv5 H5 s5 hv5=>?_⟩;exact⟨v5,_,rfl,s3.trans (s4.trans s5),by rw[eq];exact hv5⟩
   ·rintro σ H3 ⟨v,o5,rfl,s3,hv⟩;have hF3:=s3 _ _ hF2;have hzs3:=az.same s3 hzs;have zl:=hzs.length;rw[P1] at zl;have li:b_ H3 [F]:=λb mb=>by cases O9.mp mb;exact⟨_,hF3⟩
    have mv:Mv [F] H3 (upd H3 F (.lst (zs++[v]))):=λb o e nb=>by rw[au (show b≠F from λz=>nb (z▸List.mem_singleton_self _))];exact e
    have td:jG ((m.led c).ds.take i)=true:=by
     rcases lA (show[rD (vq m.x c),rD (vq m.y c),rD (vq m.z c)][i]?=_ from ep) with ⟨rfl,_⟩|⟨rfl,_⟩|⟨rfl,_⟩<;>rfl
    refine⟨_,rfl,.inl ⟨rfl,_,bK.of hF3⟩,_,rfl,F,zs,v,rfl,rfl,hF3,bJ (by have:(m.led c).ds.length=3:=rfl;lia),?_⟩;refine⟨zs++[v],_,_,_,rfl,λb o e=>?_,ag,?_⟩
    ·have nb:b≠F:=λz=>by rw[z,hF] at e;cases e
     rw[au nb];exact s3 _ _ (s2 _ _ e)
    ·rw[b8 ep];exact(az.mv mv li td hzs3).snoc (ay.mv mv li rfl hv)
  ·rintro σ H2 ⟨zs,o3,o4,o5,rfl,s2,hF2,hzs⟩;rw[<- lx] at hzs;refine⟨_,Y,F,zs,Y,.inl ⟨bK.of hF2,λl hl=>?_⟩⟩;exact q _ _ (s2.trans (ah.new hl)) (ay.tupN (ds:=(m.led c).ds) hl hzs)
theorem zL:ao uD8 uD8 (ae mF):=cI
inductive zx (K:KE)(vs:List V)(H:Hp)(Q:VK)(_:XK):Prop
 |mk (x:V) (s:S9) (_:vs=[x]) (_:ay K H s.d x) (_:s.In) (_:∀ v H',ah H H'->ay K H' s.m.d v->Q v H')
theorem zi (T:cH K mg w):c9 P w K mg base cn 2 "_law_over" uD8 [] (zx K):=by
  refine T.x3h.cal zL (bb:=λ_ _ _ _ _ H vs Q E hr h=>?_);obtain⟨x,sq,rfl,hx,hin,q⟩:=h;obtain⟨a,xs,rfl,ha,hds⟩:=aO hx;have u13:Sm 13 (1000:Int):=by unfold Sm;decide
  refine⟨_,(cr.go (af (aq (aF ["_law_row"] [] [] 1 (bo (K:=K) rfl (ak 0)) (λnd=>(ai 0 nd)) aD (aF uC7 [] [] 1 (bo (K:=K) rfl (ak 0)) (λnd=>(ai 0 nd)) aD (ac ax (eE T) hr (aA (ak 0) aa))))))),?_⟩;have row:∀ (k:Bool) (r:R3),∀ (v:V) (H5:Hp) (Q5:VK),ay K H5 (c6 k r) v->(∀ w H',ah H5 H'->ay K H' (.list r.q.ds) w->Q5 w H')->Db (IM K (re 0)) (uC 0) KN (xH (rK K) [] E0 (lv (re 0) (lv (tC (.int 1000)) xM))) (A8 1 []) [M v] H5 Q5:=λk r v H5 Q5 hv hq=>by
   obtain⟨b,ys,rfl,hb,hys⟩:=aO hv;refine⟨_,Y,b,k,Y,⟨_,hb⟩,bG (es:=r.q.ds) hb hys rfl (by show 3<=1000;decide) (λi d e u H6 hd he s6 hu R kk S=>?_) (λzs H6 s6 hzs D hD=>hq _ _ (s6.trans (ah.new hD)) (ay.listN hD hzs))⟩;refine aX (B:=S H6) ?_;rcases lA hd with ⟨rfl,rfl⟩|⟨rfl,rfl⟩|⟨rfl,rfl⟩<;>(cases hu;cases(O4 he);exact⟨_,rfl,_,_,rfl,by decide,u13.mono (by decide),jY.sh (by decide) λv8 H8 s8 hv8=>kk _ _ ⟨s8,hv8⟩⟩)
  refine⟨_,rfl,a,sq.k,rfl,⟨_,ha⟩,bG (es:=[.list sq.m.x.ds,.list sq.m.y.ds,.list sq.m.z.ds]) ha hds rfl (by show 3<=1000;decide) (λi d e u H5 hd he s5 hu R kk S=>?_) (λzs H5 s5 hzs D hD=>q _ _ (s5.trans (ah.new hD)) (ay.listN hD hzs))⟩;refine aX (B:=S H5) ?_;rcases lA hd with ⟨rfl,rfl⟩|⟨rfl,rfl⟩|⟨rfl,rfl⟩
  ·cases(O4 he);exact row _ _ _ _ _ hu λw H' s' hw=>kk _ _ ⟨s',hw⟩
  ·cases(O4 he);exact row _ _ _ _ _ hu λw H' s' hw=>kk _ _ ⟨s',hw⟩
  ·cases(O4 he);exact row _ _ _ _ _ hu λw H' s' hw=>kk _ _ ⟨s',hw⟩
theorem bW:ao ["_law_town_here","_law_size","_law_table","_law_kind","_law_rows","_law_a","_law_b","_law_c","_law_worth_here"] uD3 (ae lH):=cI
inductive zr (K:KE)(vs:List V)(H:Hp)(Q:VK)(_:XK):Prop
 |mk (t r:Po) (n:Nat) (_:vs=[.ref t,.int n]) (_:ci H t r) (_:2<=n) (_:n<=7) (_:∀ (d:Po) (f:Kn->R3) (H':Hp),yt K H' (bQ n) f d->EH n f->ci H' t r->Mv [t,r] H H'->H d=none->Q (.ref d) H')
structure R4 where
 w:Int
 x:Int
 y:Int
 z:Int
def R4.ds (r:R4):List P5:=[.int r.w,.int r.x,.int r.y,.int r.z]
structure R4.In (r:R4):Prop where
 w0:0<=r.w
 w1:r.w<200
 x0:0<=r.x
 x1:r.x<90
 y0:0<=r.y
 y1:r.y<90
 z0:0<=r.z
 z1:r.z<90
theorem Fq {K:KE}{H:Hp}{r:R4}{v:V}(h:ay K H (.list r.ds) v):∃ a,v=.ref a/\bK K H a [.int r.w,.int r.x,.int r.y,.int r.z]:=by
 obtain⟨a,xs,rfl,ha,hx⟩:=aO (b:=true) (ds:=r.ds) h;have e:xs=[r.w,r.x,r.y,r.z].map V.int:=dB (ns:=[r.w,r.x,r.y,r.z]) hx;subst e;exact⟨a,rfl,ha⟩
structure R3.Up (r:R3):Prop where
 a:0<=r.a
 b:0<=r.b
 c:0<=r.c
theorem Mo {ds:List P5}(hl:ds.length=3)(h:∀ d∈ds,∃ i:Int,d=.int i/\0<=i):∃ r:R3,ds=r.ds/\r.Up:=by
 match ds,hl,h with
 |[x,y,z],_,h=>
  obtain⟨a,rfl,a1⟩:=h x (by simp);obtain⟨b,rfl,b1⟩:=h y (by simp);obtain⟨c,rfl,c1⟩:=h z (by simp);exact⟨⟨a,b,c⟩,Y,a1,b1,c1⟩
structure kZ (K:KE)(t r d R:Po)(rs:P5)(H1:Hp)(ts:List Kn)(H':Hp):Prop where
 tw:ci H' t r
 mv:Mv [t,r,d] H1 H'
 rs:ay K (cut [t,r] H') rs (.ref R)
 gr:∃ f,yt K H' ts f d/\∀ u∈ts,(f u).Wt
theorem kZ.same {K:KE}{t r d R:Po}{rs:P5}{H1 H2 H3:Hp}{ts:List Kn}(h:kZ K t r d R rs H1 ts H2)(s:ah H2 H3):kZ K t r d R rs H1 ts H3:=
 ⟨h.tw.same s,h.mv.trans (Mv.of s),ay.same (ah.cut s) h.rs,let ⟨f,a,b⟩:=h.gr;⟨f,a.same s,b⟩⟩
theorem kZ.draw {K:KE}{t r d R:Po}{rs:P5}{H1 H2 H3:Hp}{ts:List Kn}(h:kZ K t r d R rs H1 ts H2)(tw:ci H3 t r)(m:Mv [t,r] H2 H3):kZ K t r d R rs H1 ts H3:=
 ⟨tw,h.mv.trans m.wide,ay.same m.cut h.rs,let ⟨f,a,b⟩:=h.gr;⟨f,a.mv m h.tw.lists,b⟩⟩
theorem yL (T:cH K mg w):c9 P w K mg base cn 2 "_law_grid" uD3 [] (zr K):=by
  refine T.x3i.cal bW (bb:=λ_ _ _ _ _ H vs Q E hr h=>?_);obtain⟨t,r,n,rfl,tw,h2,h7,q⟩:=h;refine⟨_,(cr.go (ab (aw 2 bW.nd wI)
   (ab (aw 3 bW.nd (ac ax (aL T) hr (aA (ak 0) aa)))
   (ab (c_ 4 uB2 uA1 [0] 1 bW.nd (bh rfl T.x1 (aE aa)) (λnd=>(ai 0 nd)) aD (bV (aj (ac ax (aL T) hr (aA (ak 1) aa)) (aj (ac ax (aL T) hr (aA (ak 1) aa)) (aj (ac ax (aL T) hr (aA (ak 1) aa)) (aj (ac ax (aL T) hr (aA (ak 1) aa)) aQ))))))
   (ab (dW Qp rfl (bh rfl T.x1 (aE (ak 1))) (ai 5 bW.nd) (af (dW Qp rfl (bh rfl T.x1 (aE (ak 1))) (ai 6 bW.nd) (af (dW Qp rfl (bh rfl T.x1 (aE (ak 1))) (ai 7 bW.nd) (ab (bg (be eA (ak 3) aa (aZ _)) (af (c_ 8 uE1 ["_law_a","_law_b","_law_c"] [5,6,7] 4 bW.nd (bo (K:=K) Y (ak 4)) (λnd=>(BW (K:=K) (n:=4) Y Y (aB (ai 0 nd) (aB (ai 1 nd) (aB (ai 2 nd) (aB (ai 3 nd) bL)))))) aD (ar cL (ar cL (ar cL (ak 0) (ar aM (ak 1) (ak 4))) (ar aM (ak 2) (ak 5))) (ar aM (ak 3) (ak 6))))) (af (bg (be eA (ak 3) aa (aZ _)) (af (c_ 8 uB2 uA1 [0] 1 bW.nd (bh rfl T.x1 (aE aa)) (λnd=>(ai 0 nd)) aD (ac ax (aL T) hr (aA (ak 1) aa)))) (af (c_ 8 uE1 ["_law_a","_law_size","_law_b","_law_c"] [5,1,6,7] 4 bW.nd (bo (K:=K) Y (ak 4)) (λnd=>(BW (K:=K) (n:=4) Y Y (aB (ai 0 nd) (aB (ai 1 nd) (aB (ai 2 nd) (aB (ai 3 nd) bL)))))) aD (av (gJ rfl) (by rfl) T.xc oP (aA aa (ar cL (ar cL (ar cL (ak 0) (ar cu (ar aM (ar aM (ak 1) (ak 4)) (ak 4)) (ak 5))) (ar aM aa (ak 6))) (ar aM aa (ak 7))))))))))
   (ab (bg (WW.pt (Du (be eA (ak 5) (ak 6) (aZ _)) (Du (be eA (ak 6) (ak 7) (aZ _)) (Hg (be eA (ak 3) aa (aZ _)))))) (af (aw 8 bW.nd (ar Gk (bV (aE (am K (ak 8) aa))) aa))) aI)
   (af (AA hr.u1 (ak 2) (aY (aj (ak 5) (aj (ak 6) (aj (ak 7) aQ)))) (aW (cK (K:=K) Y) (by rfl) T.x0 bA (aE (aF uC7 [] [] 1 (bo (K:=K) Y (ak 8)) (λnd=>(ai 0 nd)) aD (av (gJ rfl) (by rfl) T.xc oP (aA aa (ak 0)))))) Y)))))))))
   (af (aq (ak 2)))))))),?_⟩
  have s64:∀ {n:Int},0<n->n<100000->Sm 8000 n:=λh1 h2=>Sm.mono (k:=20) (by unfold Sm;lia) (by decide)
  refine λd hd=>?_
  have sd:ah H (upd H d (.dT [])):=ah.new hd;have tw0:=tw.same sd;have gd0:upd H d (.dT []) d=M (.dT []):=ag;generalize hH0:upd H d (.dT [])=H0 at sd tw0 gd0 ⊢;refine⟨_,Y,t,r,3,Y,tw0,by decide,s64 (by decide) (by decide),λkd H1 k0 k3 tw1 mv1=>?_⟩;refine⟨3,Y,by decide,by decide,eC (K:=K) (lo:=0) (n:=3) (Pd:=λd=>∃ r:R4,d=.list r.ds/\r.In) tw1 (by decide) (λi H2 hi tw2 mv2 R kk S=>?_) (λds ys H2 hl hP tw2 mv2 hys R hR=>?_)⟩
  ·refine aX (B:=S H2) ⟨_,Y,t,r,200,Y,tw2,by decide,s64 (by decide) (by decide),λx1 H3 a1 b1 rO mv3=>?_⟩;refine⟨_,Y,t,r,90,Y,rO,by decide,s64 (by decide) (by decide),λx2 H4 a2 b2 tw4 mv4=>?_⟩;refine⟨_,Y,t,r,90,Y,tw4,by decide,s64 (by decide) (by decide),λx3 H5 a3 b3 tw5 mv5=>?_⟩;refine⟨_,Y,t,r,90,Y,tw5,by decide,s64 (by decide) (by decide),λx4 H6 a4 b4 tw6 mv6=>⟨OI,λL hL=>?_⟩⟩;exact kk _ _ ⟨tw6.same (ah.new hL),(((mv3.trans mv4).trans mv5).trans mv6).trans (Mv.of (ah.new hL)),_,⟨⟨x1,x2,x3,x4⟩,Y,a1,b1,a2,b2,a3,b3,a4,b4⟩,gX tw6 hL (.cons (.int _) (.cons (.int _) (.cons (.int _) (.cons (.int _) .nil))))⟩
  obtain⟨r1,r2,r3,rfl,i1,i2,i3⟩:∃ r1 r2 r3:R4,ds=[.list r1.ds,.list r2.ds,.list r3.ds]/\r1.In/\r2.In/\r3.In:=by
   match ds,hl,hP with
   |[x,y,z],_,h=>
    obtain⟨a,rfl,a1⟩:=h x (by simp);obtain⟨b,rfl,b1⟩:=h y (by simp);obtain⟨c,rfl,c1⟩:=h z (by simp);exact⟨a,b,c,Y,a1,b1,c1⟩
  have nd:d∉[t,r]:=λm=>by
   obtain⟨xs,e⟩:=tw0.lists d m;rw[gd0] at e;cases e
  have gi0:kZ K t r d R (.list [.list r1.ds,.list r2.ds,.list r3.ds]) H0 [] (upd H2 R (.lst ys)):=⟨tw2.same (ah.new hR),((mv1.trans mv2).trans (Mv.of (ah.new hR))).wide,gX tw2 hR hys,λ_=>⟨0,0,0⟩,⟨[],ah.new hR _ _ (mv2 _ _ (mv1 _ _ gd0 nd) nd),.nil⟩,λ_ m=>nomatch m⟩
  generalize upd H2 R (.lst ys)=H3 at gi0 ⊢;have lt:∀ {x:Int}{m:Nat},0<=x->x<200->m<7->Sm 64 x:=λh1 h2 _=>by unfold Sm;lia
  have inr:∀ {rr:R4},rr=r1\/rr=r2\/rr=r3->rr.In:=λh=>by rcases h with rfl|rfl|rfl<;>assumption
  refine⟨_,rfl,(n:Int),rfl,by lia,by lia,iS (lo:=0) (n:=(n:Int).toNat) (λi σ H'=>(∃ oa ob oc ow,σ=[M (.ref t),M (.int n),M (.ref d),M (.int kd),M (.ref R),oa,ob,oc,ow])/\kZ K t r d R (.list [.list r1.ds,.list r2.ds,.list r3.ds]) H0 (wm n i) H')
   ⟨⟨_,_,_,_,rfl⟩,gi0⟩ ?_ ?_⟩
  ·rintro i σ H4 hi ⟨⟨oa,ob,oc,ow,rfl⟩,gi1⟩;have hi:i<n:=by lia
   refine⟨_,rfl,(n:Int),rfl,by lia,by lia,iS (lo:=0) (n:=(n:Int).toNat) (λj σ H'=>(∃ ob oc ow,σ=[M (.ref t),M (.int n),M (.ref d),M (.int kd),M (.ref R),M (.int (0+i)),ob,oc,ow])/\kZ K t r d R (.list [.list r1.ds,.list r2.ds,.list r3.ds]) H0 (wm n i++vQ n i j) H')
    ⟨⟨_,_,_,rfl⟩,by simpa [vQ] using gi1⟩ ?_ ?_⟩
   ·rintro j σ H5 hj ⟨⟨ob,oc,ow,rfl⟩,gi2⟩;have hj:j<n:=by lia
    refine⟨_,rfl,(n:Int),rfl,by lia,by lia,iS (lo:=0) (n:=(n:Int).toNat) (λk σ H'=>(∃ oc ow,σ=[M (.ref t),M (.int n),M (.ref d),M (.int kd),M (.ref R),M (.int (0+i)),M (.int (0+j)),oc,ow])/\kZ K t r d R (.list [.list r1.ds,.list r2.ds,.list r3.ds]) H0 (wm n i++vQ n i j++wT i j k) H')
     ⟨⟨_,_,rfl⟩,by simpa [wT] using gi2⟩ ?_ ?_⟩
    ·rintro k σ H6 hk ⟨⟨oc,ow,rfl⟩,gi3⟩;have hk:k<n:=by lia
     obtain⟨b0,xs,eb,hb,hxs⟩:=aO (b:=true) (ds:=[.list r1.ds,.list r2.ds,.list r3.ds]) (ay.uncut gi3.rs);cases eb;apply OD (I:=λwv H'=>∃ (W:Po) (wr:R3),wv=.ref W/\kZ K t r d R (.list [.list r1.ds,.list r2.ds,.list r3.ds]) H0 (wm n i++vQ n i j++wT i j k) H'/\H' W=M (.lst wr.vs)/\wr.Up)
     case main=>
      intro rest1;refine⟨_,Y,_,_,Y,Y,_,Y,f9 (λhc=>?k0) (λhc=>?kx)⟩
      case' k0=>
       refine⟨_,Y,R,true,Y,⟨_,hb⟩,bG (es:=[.int (r1.w+r1.x*(0+i)+r1.y*(0+j)+r1.z*(0+k)),.int (r2.w+r2.x*(0+i)+r2.y*(0+j)+r2.z*(0+k)),.int (r3.w+r3.x*(0+i)+r3.y*(0+j)+r3.z*(0+k))]) hb hxs rfl (by show 3<=1000;decide) (λii dd ee u H7 hd he s7 hu RR kk S=>?_) (λzs H7 s7 hzs W hW=>?_)⟩
       ·obtain⟨rr,hrr,rfl,rfl⟩:∃ rr:R4,(rr=r1\/rr=r2\/rr=r3)/\dd=.list rr.ds/\ee=.int (rr.w+rr.x*(0+i)+rr.y*(0+j)+rr.z*(0+k)):=by
         rcases lA hd with ⟨rfl,rfl⟩|⟨rfl,rfl⟩|⟨rfl,rfl⟩
         ·exact⟨r1,.inl rfl,rfl,(O4 he).symm⟩
         ·exact⟨r2,.inr (.inl rfl),rfl,(O4 he).symm⟩
         ·exact⟨r3,.inr (.inr rfl),rfl,(O4 he).symm⟩
        obtain⟨w0,w1,x0,x1,y0,y1,z0,z1⟩:=inr hrr;obtain⟨ra,rfl,hra⟩:=Fq hu;refine⟨ra,_,rfl,.inl hra,rfl,_,_,rfl,_,_,rfl,_,_,rfl,_,_,rfl,rfl,aX (B:=S H7) ?_⟩;exact⟨_,rfl,_,rfl,_,rfl,_,_,rfl,rfl,.inr (by unfold Sm;lia),_,_,rfl,rfl,_,rfl,_,rfl,_,_,rfl,rfl,.inr (by unfold Sm;lia),_,_,rfl,rfl,_,rfl,_,rfl,_,_,rfl,rfl,.inr (by unfold Sm;lia),_,_,rfl,rfl,kk _ _ ⟨ah.refl _,.int _⟩⟩
       have zz:=dB (ns:=[r1.w+r1.x*(0+i)+r1.y*(0+j)+r1.z*(0+k),r2.w+r2.x*(0+i)+r2.y*(0+j)+r2.z*(0+k),r3.w+r3.x*(0+i)+r3.y*(0+j)+r3.z*(0+k)]) hzs;subst zz;have gi4:=(gi3.same s7).same (ah.new (o:=.lst ([r1.w+r1.x*(0+i)+r1.y*(0+j)+r1.z*(0+k),r2.w+r2.x*(0+i)+r2.y*(0+j)+r2.z*(0+k),r3.w+r3.x*(0+i)+r3.y*(0+j)+r3.z*(0+k)].map V.int)) hW);have pos:∀ {rr:R4},rr.In->0<=rr.w+rr.x*(0+(i:Int))+rr.y*(0+(j:Int))+rr.z*(0+(k:Int)):=λh=>by
        have p1:=RU h.x0 (show(0:Int)<=0+i by lia);have p2:=RU h.y0 (show(0:Int)<=0+j by lia);have p3:=RU h.z0 (show(0:Int)<=0+k by lia);have p4:=h.w0;lia
       obtain⟨wr,ewr,up⟩:∃ wr:R3,upd H7 W (.lst ([r1.w+r1.x*(0+i)+r1.y*(0+j)+r1.z*(0+k),r2.w+r2.x*(0+i)+r2.y*(0+j)+r2.z*(0+k),r3.w+r3.x*(0+i)+r3.y*(0+j)+r3.z*(0+k)].map V.int)) W=M (.lst wr.vs)/\wr.Up:=⟨⟨_,_,_⟩,ag,pos i1,pos i2,pos i3⟩
       generalize upd H7 W (.lst ([r1.w+r1.x*(0+i)+r1.y*(0+j)+r1.z*(0+k),r2.w+r2.x*(0+i)+r2.y*(0+j)+r2.z*(0+k),r3.w+r3.x*(0+i)+r3.y*(0+j)+r3.z*(0+k)].map V.int))=H8 at gi4 ewr ⊢
      case' kx=>
       refine⟨_,Y,_,_,Y,Y,_,Y,f9 (λhc1=>?k1) (λhc1=>?k2)⟩
      case' k1=>
       refine⟨3,Y,by decide,by decide,eC (K:=K) (lo:=0) (n:=3) (Pd:=λd=>∃ i:Int,d=.int i/\0<=i) gi3.tw (by decide) (λii H7 hii tw7 mv7 RR kk S=>aX (B:=S H7) ⟨_,Y,t,r,1001,Y,tw7,by decide,s64 (by decide) (by decide),λx1 H9 a1 b1 tw9 mv9=>kk _ _ ⟨tw9,mv9,_,⟨x1,Y,a1⟩,.int _⟩⟩) (λds ws H7 hl hP tw7 mv7 hws W hW=>?_)⟩;obtain⟨wr,rfl,up⟩:=Mo hl hP;have zz:=fu hws;subst zz;have gi4:=(gi3.draw tw7 mv7).same (ah.new (o:=.lst wr.vs) hW);have ewr:upd H7 W (.lst wr.vs) W=M (.lst wr.vs):=ag;generalize upd H7 W (.lst wr.vs)=H8 at gi4 ewr ⊢
      case' k2=>
       have e2:∃ g:R4->Int,g=λrr=>if rr.w+(rr.x*(0+(i:Int))*(0+(i:Int))).fdiv n+40*(0+(j:Int))+30*(0+(k:Int))<1000 then rr.w+(rr.x*(0+(i:Int))*(0+(i:Int))).fdiv n+40*(0+(j:Int))+30*(0+(k:Int)) else 1000:=⟨_,Y⟩
       obtain⟨g,hg⟩:=e2;refine⟨_,Y,R,true,Y,⟨_,hb⟩,bG (es:=[.int (g r1),.int (g r2),.int (g r3)]) hb hxs rfl (by show 3<=1000;decide) (λii dd ee u H7 hd he s7 hu RR kk S=>?_) (λzs H7 s7 hzs W hW=>?_)⟩
       ·obtain⟨rr,hrr,rfl,rfl⟩:∃ rr:R4,(rr=r1\/rr=r2\/rr=r3)/\dd=.list rr.ds/\ee=.int (g rr):=by
         rcases lA hd with ⟨rfl,rfl⟩|⟨rfl,rfl⟩|⟨rfl,rfl⟩
         ·exact⟨r1,.inl rfl,rfl,(O4 he).symm⟩
         ·exact⟨r2,.inr (.inl rfl),rfl,(O4 he).symm⟩
         ·exact⟨r3,.inr (.inr rfl),rfl,(O4 he).symm⟩
        obtain⟨w0,w1,x0,x1,y0,y1,z0,z1⟩:=inr hrr;obtain⟨ra,rfl,hra⟩:=Fq hu;have sx:Sm 64 (rr.x*(0+(i:Int))):=((show Sm 10 rr.x by unfold Sm;lia).mul (show Sm 10 (0+(i:Int)) by unfold Sm;lia)).mono (by decide);refine⟨ra,_,rfl,.inl hra,rfl,_,_,rfl,_,_,rfl,_,_,rfl,_,_,rfl,rfl,aX (B:=S H7) ?_⟩;refine⟨_,rfl,_,rfl,_,rfl,_,_,rfl,rfl,.inr (by unfold Sm;lia),_,rfl,_,_,rfl,rfl,.inr sx,_,rfl,_,_,rfl,rfl,⟨by lia,Sm.mono (k:=20) (by unfold Sm;lia) (by decide)⟩,_,_,rfl,rfl,_,rfl,_,_,rfl,rfl,.inr (by unfold Sm;decide),_,_,rfl,rfl,_,rfl,_,_,rfl,rfl,.inr (by unfold Sm;decide),_,_,rfl,rfl,_,_,rfl,kk _ _ ⟨ah.refl _,?_⟩⟩;rw[hg];exact .int _
       have zz:=dB (ns:=[g r1,g r2,g r3]) hzs;subst zz;have gi4:=(gi3.same s7).same (ah.new (o:=.lst ([g r1,g r2,g r3].map V.int)) hW);have pos:∀ {rr:R4},rr.In->0<=g rr:=λ{rr} h=>by
        have p1:=RU (RU h.x0 (show(0:Int)<=0+i by lia)) (show(0:Int)<=0+i by lia);have p2:0<=(rr.x*(0+(i:Int))*(0+(i:Int))).fdiv n:=by
         rw[Qo _ (by lia)];exact Wj p1 (by lia)
        have p4:=h.w0;rw[hg];dsimp only
        split<;>lia
       obtain⟨wr,ewr,up⟩:∃ wr:R3,upd H7 W (.lst ([g r1,g r2,g r3].map V.int)) W=M (.lst wr.vs)/\wr.Up:=⟨⟨_,_,_⟩,ag,pos i1,pos i2,pos i3⟩
       generalize upd H7 W (.lst ([g r1,g r2,g r3].map V.int))=H8 at gi4 ewr ⊢
      all_goals
       obtain⟨wv,ewv⟩:∃ wv,wv=V.ref W:=⟨_,Y⟩
       rw[<- ewv];exact rest1 wv H8 ⟨W,wr,ewv,gi4,ewr,up⟩
     clear gi3 hb hxs;rintro wv H8 ⟨W,wr,rfl,gi4,ewr,up⟩;apply OD (I:=λwv H'=>∃ (W:Po) (wr:R3),wv=.ref W/\kZ K t r d R (.list [.list r1.ds,.list r2.ds,.list r3.ds]) H0 (wm n i++vQ n i j++wT i j k) H'/\H' W=M (.lst wr.vs)/\wr.Up)
     case main=>
      intro rest2;refine⟨_,Y,_,Y,_,_,Y,Y,_,Y,f9 (λc1=>?c1t) (λc1=>bI ?c1f)⟩
      case c1t=>
       refine⟨_,Y,_,Y,_,_,Y,Y,_,Y,f9 (λc2=>?c2t) (λc2=>bI ?c2f)⟩
       case c2t=>
        refine⟨_,Y,_,_,Y,Y,_,Y,f9 (λc3=>?c3t) (λc3=>?c3f)⟩
        case c3t=>
         refine⟨_,Y,.inl ⟨W,_,0,.int wr.a,Y,Y,bK.of ewr,Y,NG,λp hp=>⟨p,3,_,Y,Y,ag,by decide,by decide,by show 3<=Pz;decide,λp2 hp2=>?_⟩⟩⟩;have gi4:=(gi4.same (ah.new (o:=.lst [.int wr.a]) hp)).same (ah.new (o:=.lst (Px (3:Int).toNat [V.int wr.a]).flatten) hp2);have ewr2:upd (upd H8 p (.lst [.int wr.a])) p2 (.lst (Px (3:Int).toNat [V.int wr.a]).flatten) p2=M (.lst (R3.mk wr.a wr.a wr.a).vs):=ag;generalize upd (upd H8 p (.lst [.int wr.a])) p2 (.lst (Px (3:Int).toNat [V.int wr.a]).flatten)=H9 at gi4 ewr2 ⊢;obtain⟨wv,ewv⟩:∃ wv,wv=V.ref p2:=⟨_,Y⟩
         rw[<- ewv];exact rest2 wv H9 ⟨p2,_,ewv,gi4,ewr2,up.a,up.a,up.a⟩
        case c3f=>exact rest2 (.ref W) H8 ⟨W,wr,Y,gi4,ewr,up⟩
       case c2f=>exact rest2 (.ref W) H8 ⟨W,wr,Y,gi4,ewr,up⟩
      case c1f=>exact rest2 (.ref W) H8 ⟨W,wr,Y,gi4,ewr,up⟩
     clear gi4 ewr up;rintro wv H8 ⟨W,wr,rfl,gi4,ewr,up⟩;refine⟨_,Y,_,true,Y,⟨_,bK.of ewr⟩,bG (es:=[.int (min 1000 wr.a),.int (min 1000 wr.b),.int (min 1000 wr.c)]) (K:=K) (b:=true) (bK.of ewr) (.cons (.int wr.a) (.cons (.int wr.b) (.cons (.int wr.c) .nil))) Y (by show 3<=1000;decide) (λii dd ee u H9 hd he s9 hu RR kk S=>?_) (λzs H9 s9 hzs D9 hD9=>?_)⟩
     ·refine aX (B:=S H9) ?_;rcases lA hd with ⟨rfl,rfl⟩|⟨rfl,rfl⟩|⟨rfl,rfl⟩<;>(cases hu;cases(O4 he);exact⟨_,rfl,_,_,rfl,by rw[Cc];exact kk _ _ ⟨ah.refl _,.int _⟩⟩)
     ·have zz:=dB (ns:=[min 1000 wr.a,min 1000 wr.b,min 1000 wr.c]) hzs;subst zz;refine⟨D9,_,rfl,.inl ⟨bK.of ag,λl hl=>?_⟩⟩;have wtl:(R3.mk (min 1000 wr.a) (min 1000 wr.b) (min 1000 wr.c)).Wt:=by
       obtain⟨u1,u2,u3⟩:=up;exact⟨by show 0<=min 1000 wr.a;lia,by show min 1000 wr.a<=1000;lia,by show 0<=min 1000 wr.b;lia,by show min 1000 wr.b<=1000;lia,by show 0<=min 1000 wr.c;lia,by show min 1000 wr.c<=1000;lia⟩
      have gi5:=((gi4.same s9).same (ah.new (o:=.lst ([min 1000 wr.a,min 1000 wr.b,min 1000 wr.c].map V.int)) hD9)).same (ah.new (o:=.tup ([min 1000 wr.a,min 1000 wr.b,min 1000 wr.c].map V.int)) hl);have hlt:ay K (upd (upd H9 D9 (.lst ([min 1000 wr.a,min 1000 wr.b,min 1000 wr.c].map V.int))) l (.tup ([min 1000 wr.a,min 1000 wr.b,min 1000 wr.c].map V.int))) (wD ⟨min 1000 wr.a,min 1000 wr.b,min 1000 wr.c⟩) (.ref l):=ay.tupN hl (.cons (.int _) (.cons (.int _) (.cons (.int _) .nil)));generalize upd (upd H9 D9 (.lst ([min 1000 wr.a,min 1000 wr.b,min 1000 wr.c].map V.int))) l (.tup ([min 1000 wr.a,min 1000 wr.b,min 1000 wr.c].map V.int))=Ha at gi5 hlt ⊢;generalize R3.mk (min 1000 wr.a) (min 1000 wr.b) (min 1000 wr.c)=wf at wtl hlt;refine⟨_,rfl,_,rfl,_,rfl,_,rfl,EF,λkt hkt=>?_⟩;have ek:[V.int (0+(i:Int)),V.int (0+(j:Int)),V.int (0+(k:Int))]=(dw (i,j,k)).map kV:=by rw[TQ,TQ,TQ];rfl
      have gi6:=gi5.same (ah.new (o:=.tup [V.int (0+(i:Int)),V.int (0+(j:Int)),V.int (0+(k:Int))]) hkt);have hlt:=ay.same (ah.new (o:=.tup [V.int (0+(i:Int)),V.int (0+(j:Int)),V.int (0+(k:Int))]) hkt) hlt;have hkt':upd Ha kt (.tup [V.int (0+(i:Int)),V.int (0+(j:Int)),V.int (0+(k:Int))]) kt=M (.tup ((dw (i,j,k)).map kV)):=by rw[<- ek];exact ag
      generalize upd Ha kt (.tup [V.int (0+(i:Int)),V.int (0+(j:Int)),V.int (0+(k:Int))])=Hb at gi6 hlt hkt' ⊢;obtain⟨f,⟨vs,gd,gv⟩,gw⟩:=gi6.gr;have hlen:=yt.len gv;have fresh:((i,j,k):Kn)∉wm n i++vQ n i j++wT i j k:=λm=>by
       rcases Qe.mp m with m|m
       ·rcases Qe.mp m with m|m
        ·have:=(IQ.mp m).1;exact absurd this (Qk _)
        ·have:=(CN.mp m).2.1;exact absurd this (Qk _)
       ·have:=(Dz.mp m).2.2;exact absurd this (Qk _)
      refine⟨d,_,rfl,ES.t (k:=dw (i,j,k)) gd hkt' (by rw[ux hlen];exact bJ (PP (HQ h7 hi hj (QD hk)) (by decide))),⟨_,_,rfl⟩,?_⟩;rw[FE hlen fresh,A2,<- Sz];have sdb:iI Hb (upd Hb d (.dT (nQ (wm n i++vQ n i j++wT i j k++[(i,j,k)]) (vs++[.ref l])))):=iI.put gd;refine⟨gi6.tw.sameD sdb,gi6.mv.trans λb o e nb=>?_,ay.sameD (iI.cut sdb) gi6.rs,λu=>if u=(i,j,k) then wf else f u,⟨_,ag,?_⟩,λu hu=>?_⟩
      ·rw[au (λz=>nb (by simp[z]))];exact e
      ·rw[QN];refine(az.sameD sdb (show az K Hb _ _ from ?_)).snoc ?_
       ·have cg:(wm n i++vQ n i j++wT i j k).map (λu=>wD (if u=(i,j,k) then wf else f u))=(wm n i++vQ n i j++wT i j k).map (λu=>wD (f u)):=List.map_congr_left λu hu=>by
         have nu:u≠(i,j,k):=λz=>fresh (z▸hu)
         rw[P3 nu]
        rw[cg];exact gv
       ·show ay K _ (wD (if((i,j,k):Kn)=(i,j,k) then wf else f (i,j,k))) _;rw[Qh rfl];exact ay.sameD sdb hlt
      ·show(if u=(i,j,k) then wf else f u).Wt;rcases Qe.mp hu with hu|hu
       ·have nu:u≠(i,j,k):=λz=>fresh (z▸hu)
        rw[P3 nu];exact gw u hu
       ·rw[Qh (O9.mp hu)];exact wtl
    ·rintro σ H6 ⟨⟨oc,ow,rfl⟩,gi3⟩;refine⟨⟨_,_,_,Y⟩,?_⟩;rw[vx,<- Sz];exact gi3
   ·rintro σ H5 ⟨⟨ob,oc,ow,rfl⟩,gi2⟩;refine⟨⟨_,_,_,_,Y⟩,?_⟩;rw[ur];exact gi2
  ·rintro σ H4 ⟨⟨oa,ob,oc,ow,rfl⟩,gi1⟩;obtain⟨f,g1,g2⟩:=gi1.gr;refine⟨_,Y,q d f H4 g1 (λu hu=>g2 u hu) gi1.tw (λb o e nb=>?_) hd⟩;refine gi1.mv b o (sd _ _ e) λz=>?_
   simp only[Pq,PR,Rj] at z nb;rcases z with z|z|z
   ·exact nb (.inl z)
   ·exact nb (.inr z)
   ·rw[z,hd] at e;cases e
theorem kP:ao ["_law_size","_law_colour","_law_step","_law_base"] uD7 (ae mM):=cI
inductive yr (K:KE)(vs:List V)(H:Hp)(Q:VK)(_:XK):Prop
 |mk (x:V) (n:Nat) (c:Q3) (k:Nat) (_:vs=[.int n,x]) (_:ay K H c.col x) (_:c.Wi ((60:Int):Rat)) (_:c.Bd k) (_:k<=400) (_:2<=n) (_:n<=7) (_:∀ (w:V) (H':Hp),ah H H'->ay K H' (.tuple [Lg n c,(Dc n c).lst]) w->Q w H')
theorem zy (T:cH K mg w):c9 P w K mg base cn 3 "_law_cell" uD7 [] (yr K):=by
  refine T.x3j.cal kP (bb:=λ_ _ _ _ _ H vs Q E hr h=>?_);obtain⟨x,n,c,k,rfl,hx,wi,bd,hk,h2,h7,q⟩:=h;obtain⟨ap0,ap1,ap2⟩:=kH h2 h7;have sap:Sm 6 (lQ n):=by unfold Sm;lia
  have dva:Dv n c.a:=⟨h2,h7,wi.a0,wi.a1⟩
  have dvb:Dv n c.b:=⟨h2,h7,wi.b0,wi.b1⟩
  have dvc:Dv n c.c:=⟨h2,h7,wi.c0,wi.c1⟩
  refine⟨_,(cr.go (ab (aw 2 kP.nd (ar cu aa (ar cC (ak 0) aa)))
   (ab (aw 3 kP.nd (aF uC7 ["_law_step","_law_size"] [2,0] 1 (bo (K:=K) rfl (ak 1)) (λnd=>(ai 0 nd)) aD (av (gJ rfl) (by rfl) T.xc oP (aA (ar cu (am K (ak 0) aa) (ar aM (am K (ak 0) aa) (ak 1))) (ar cC (ak 2) aa)))))
   (af (aq (aY (aA (ak 3) (aF uB2 ["_law_colour","_law_step","_law_base"] [1,2,3] 1 (bh rfl T.x1 (aE aa)) (λnd=>(ai 0 nd)) aD (ac ax (yT T) hr (aA (ac ax (eE T) hr (aA (am K (am K (ak 1) (ak 0)) aa) (ar aM (am K (am K (ak 1) (ak 0)) aa) (ak 2)))) (aY (aA (am K (ak 3) (ak 0)) aa)))))))))))),?_⟩
  refine⟨_,rfl,_,_,rfl,rfl,_,_,rfl,rfl,⟨by lia,Sm.mono (k:=20) (by unfold Sm;lia) (by decide)⟩,?_⟩;dsimp only;rw[show(60:Int).fdiv ((n:Int)-1)=lQ n by rw[Qo _ (by lia)];rfl];obtain⟨ca,xs,rfl,hca,hxs⟩:=aO (b:=false) (ds:=c.ds) hx;refine⟨_,rfl,ca,false,rfl,⟨_,hca⟩,bG (es:=[.int ((cA n c.a:Nat):Int),.int ((cA n c.b:Nat):Int),.int ((cA n c.c:Nat):Int)]) hca hxs rfl (by show 3<=1000;decide) (λi e e' u H2 hd he s2 hu R kk S=>?_) (λls H2 s2 hls L hL=>?_)⟩
  ·obtain⟨y,rfl,rfl,by_,dv⟩:∃ y:Rat,e=rD y/\e'=.int ((cA n y:Nat):Int)/\Bq k y/\Dv n y:=by
    rcases lA hd with ⟨rfl,rfl⟩|⟨rfl,rfl⟩|⟨rfl,rfl⟩
    ·exact⟨c.a,rfl,(O4 he).symm,bd.a,dva⟩
    ·exact⟨c.b,rfl,(O4 he).symm,bd.b,dvb⟩
    ·exact⟨c.c,rfl,(O4 he).symm,bd.c,dvc⟩
   obtain⟨wa,rfl,hwa⟩:=bj hu;have dp:=by_.pos;refine aX (B:=S H2) ⟨_,rfl,cx hwa ⟨_,rfl,bM hwa ⟨_,rfl,_,_,rfl,rfl,.inl ⟨by_.sd.mono (by lia),sap.mono (by decide)⟩,_,_,rfl,rfl,⟨Qi by_.ne (by lia),(by_.sd.mul sap).mono (by lia)⟩,_,rfl,_,_,rfl,rfl,_,_,rfl,?_⟩⟩⟩;have e:(if(n:Int)-2<y.num.fdiv ((y.den:Int)*lQ n) then(n:Int)-2 else y.num.fdiv ((y.den:Int)*lQ n))=((cA n y:Nat):Int):=by
    rw[Cc,zg dv];unfold eB;rw[HK (Int.mul_pos dp ap0)]
   rw[e];exact kk _ _ ⟨ah.refl _,.int _⟩
  have els:=dB (ns:=[((cA n c.a:Nat):Int),((cA n c.b:Nat):Int),((cA n c.c:Nat):Int)]) hls;subst els;have sL:ah H (upd H2 L (.lst ([((cA n c.a:Nat):Int),((cA n c.b:Nat):Int),((cA n c.c:Nat):Int)].map V.int))):=s2.trans (ah.new hL);have hL3:upd H2 L (.lst ([((cA n c.a:Nat):Int),((cA n c.b:Nat):Int),((cA n c.c:Nat):Int)].map V.int)) L=M (.lst ([((cA n c.a:Nat):Int),((cA n c.b:Nat):Int),((cA n c.c:Nat):Int)].map V.int)):=ag;generalize upd H2 L (.lst ([((cA n c.a:Nat):Int),((cA n c.b:Nat):Int),((cA n c.c:Nat):Int)].map V.int))=H3 at sL hL3 ⊢;refine⟨_,rfl,3,rfl,by decide,by decide,d_ (K:=K) (lo:=0) (ds:=(Dc n c).ds) (n:=3) rfl (by decide) (λi e H5 he s5 R kk S=>?_) (λzs H5 s5 hzs Z hZ=>?_)⟩
  ·have hcas:=bU.same (sL.trans s5) hca;have hxs5:=az.same (sL.trans s5) hxs;obtain⟨y,u,rfl,by_,dv,hi,eu,hu,el⟩:∃ (y:Rat) (u:V),e=rD (kg n y)/\Bq k y/\Dv n y/\i<3/\xs[i]?=M u/\ay K H5 (rD y) u/\([((cA n c.a:Nat):Int),((cA n c.b:Nat):Int),((cA n c.c:Nat):Int)].map V.int)[i]?=M (.int ((cA n y:Nat):Int)):=by
    obtain⟨x0,x1,x2,rfl,g0,g1,g2⟩:=fw hxs5;rcases lA he with ⟨rfl,rfl⟩|⟨rfl,rfl⟩|⟨rfl,rfl⟩
    ·exact⟨c.a,x0,rfl,bd.a,dva,by decide,rfl,g0,rfl⟩
    ·exact⟨c.b,x1,rfl,bd.b,dvb,by decide,rfl,g1,rfl⟩
    ·exact⟨c.c,x2,rfl,bd.c,dvc,by decide,rfl,g2,rfl⟩
   obtain⟨wa,rfl,hwa⟩:=bj hu;have eu:xs[0+i]?=M (V.ref wa):=by rw[RW];exact eu
   have el:([((cA n c.a:Nat):Int),((cA n c.b:Nat):Int),((cA n c.c:Nat):Int)].map V.int)[0+i]?=M (.int ((cA n y:Nat):Int)):=by rw[RW];exact el
   refine aX (B:=S H5) ⟨_,rfl,_,rfl,?_⟩;refine nF hcas eu (cx hwa ⟨_,rfl,_,rfl,?_⟩);refine nF hcas eu (bM hwa ⟨_,rfl,_,_,rfl,rfl,.inl ⟨by_.sd.mono (by lia),sap.mono (by decide)⟩,_,_,rfl,Qi by_.ne (by lia),(by_.sd.mul sap).mono (by lia),?_⟩);refine jY.sh (Qi by_.ne (by lia)) λw6 H6 s6 hw6=>⟨_,Y,_,Y,?_⟩
   refine nF (show bU K H6 L _ true from bK.of ((s5.trans s6) _ _ hL3)) el ⟨kO,λp hp=>?_⟩;have hw7:ay K (upd H6 p (.tup [.int ((cA n y:Nat):Int),.int 1])) (rD (eB n y)) w6:=ay.same (ah.new hp) hw6;have hp7:ay K (upd H6 p (.tup [.int ((cA n y:Nat):Int),.int 1])) (rD (((cA n y:Nat):Int):Rat)) (.ref p):=by
    rw[rp];exact iA ag
   refine⟨w6,.ref p,_,_,_,_,Y,hw7,hp7,(Ge h2 h7 by_).mono (by lia),(fS (k:=3) (n:=((cA n y:Nat):Int)) (by have:=fh dv;unfold Sm;lia) (by decide)).mono (by decide),?_⟩;exact jY.sub λw8 H8 s8 hw8=>kk _ _ ⟨(s6.trans (ah.new hp)).trans s8,hw8⟩
  ·refine⟨kO,λp hp=>?_⟩;exact q _ _ (((sL.trans s5).trans (ah.new hZ)).trans (ah.new hp)) (ay.tupN hp (.cons (.lst (.inl (ah.new hZ _ _ (s5 _ _ hL3))) (.cons (.int _) (.cons (.int _) (.cons (.int _) .nil)))) (.cons (ay.listN hZ hzs) .nil)))
theorem bS:ao ["_law_table","_law_size","_law_colour","_law_base","_law_rest","_law_order","_law_road","_law_at","_law_place","_law_found","_law_before","_law_after"] uC1 (ae lG):=cI
inductive yl (K:KE)(vs:List V)(H:Hp)(Q:VK)(_:XK):Prop
 |mk (x:V) (d:Po) (n:Nat) (f:Kn->R3) (c:Q3) (k:Nat) (_:vs=[.ref d,.int n,x]) (_:Gr K H n f d) (_:EH n f) (_:ay K H c.col x) (_:c.Wi ((60:Int):Rat)) (_:c.Bd k) (_:k<=400) (_:2<=n) (_:n<=7) (_:∀ (w:V) (H':Hp),ah H H'->ay K H' (W4 n f c).col w->Q w H')
theorem zF (T:cH K mg w):c9 P w K mg base cn 4 "_law_four" uC1 [] (yl K):=by
  refine T.x3k.cal bS (bb:=λ_ _ _ _ _ H vs Q E hr h=>?_);obtain⟨x,d,n,f,c,k,rfl,hg,hw,hx,wi,bd,hk,h2,h7,q⟩:=h;refine⟨_,(cr.go (ab (gR (ac ax (zy T) hr (aA (ak 1) (ak 2))) (dC (K:=K) (n:=2) rfl rfl (aB (ai 3 bS.nd) (aB (ai 4 bS.nd) bL))))
   (ab (aw 5 bS.nd (bV aQ))
   (ab (dW Qp rfl (bh rfl T.x1 (aE aa)) (ai 6 bS.nd) (ab (aw 7 bS.nd (av (f_ (K:=K) rfl) (by rfl) T.x4 dH (aE (aF ["_law_other"] ["_law_rest","_law_road"] [4,6] 1 (bo (K:=K) rfl (ak 5)) (λnd=>(ai 0 nd)) (Aa (aV (aR (ac ax (v_ T) hr (aA (am K (ak 1) (ak 0)) (am K (ak 1) (ak 2))))))) (ak 0)))))
   (af (bt (uF RP VL PySem.F.type_list_insert DS (ak 5) (aA (ak 7) (ak 6)))))))
   (ab (aw 8 bS.nd (aW (pI (K:=K) rfl) (by rfl) T.xa gS (aE (ak 3))))
   (ab (aw 9 bS.nd (aF uC7 [] [] 1 (bo (K:=K) rfl (pT hr.u1 (ak 0) (aW (cK (K:=K) rfl) (by rfl) T.x0 bA (aE (ak 8))) (λ_ _=>rfl))) (λnd=>(ai 0 nd)) aD (aY (aA (ak 0) aa))))
   (ab (dW Qp rfl (bo (K:=K) rfl (ak 5)) (ai 6 bS.nd) (ab (aw 10 bS.nd (pT hr.u1 (ak 0) (aW (cK (K:=K) rfl) (by rfl) T.x0 bA (aE (ak 8))) (λ_ _=>rfl)))
   (ab (gR (ar cL (am K (ak 8) (ak 6)) aa) (yh (ak 8) (ak 6) uE))
   (ab (aw 11 bS.nd (pT hr.u1 (ak 0) (aW (cK (K:=K) rfl) (by rfl) T.x0 bA (aE (ak 8))) (λ_ _=>rfl)))
   (af (aw 9 bS.nd (aF uB2 ["_law_found","_law_rest","_law_road","_law_after","_law_before"] [9,4,6,11,10] 1 (bh rfl T.x1 (aE aa)) (λnd=>(ai 0 nd)) aD (ac ax (pQ T) hr (aA (am K (ak 1) (ak 0)) (ac ax (nN T) hr (aA (am K (ak 2) (ak 3)) (aY (aA (ar cC (am K (ak 4) (ak 0)) (am K (ak 5) (ak 0))) aa)))))))))))))
   (af (aq (aW (cK (K:=K) rfl) (by rfl) T.x0 bA (aE (ak 9)))))))))))),?_⟩
  refine⟨_,rfl,_,rfl,x,n,c,k,rfl,hx,wi,bd,hk,h2,h7,λw H1 s1 hw1=>?_⟩;have dva:Dv n c.a:=⟨h2,h7,wi.a0,wi.a1⟩
  have dvb:Dv n c.b:=⟨h2,h7,wi.b0,wi.b1⟩
  have dvc:Dv n c.c:=⟨h2,h7,wi.c0,wi.c1⟩
  have lta:=fh dva;have ltb:=fh dvb;have ltc:=fh dvc;have bra:=qA dva bd.a;have brb:=qA dvb bd.b;have brc:=qA dvc bd.c;obtain⟨T,B,Rr,y0,y1,y2,rfl,hT,hB,hR,g0,g1,g2,_⟩:=HL hw1;have hg1:=hg.same s1;have rat:∀ {r:Nat}{H':Hp},ah H1 H'->r<3->∃ y,[y0,y1,y2][r]?=M y/\ay K H' (rD (bn n c r)) y/\Bq (k+10) (bn n c r):=λs hr=>ID (ay.same s g0) (ay.same s g1) (ay.same s g2) bra brb brc hr
  refine⟨T,_,Y,dR.of hT,Y,_,_,Y,_,_,Y,Y,by decide,λO hO=>?_⟩;generalize e0:upd H1 O _=H2;have sO:=gY hO e0;have gO:=fB e0;refine⟨3,Y,by decide,by decide,iS (lo:=0) (n:=3) (λi σ H'=>(∃ o1 o2 o3 o4 o5 o6,σ=[M (.ref d),M (.int n),M x,M (.ref B),M (.ref Rr),M (.ref O),o1,o2,o3,o4,o5,o6])/\ah H1 H'/\H' O=M (.lst (i' (gi (bn n c) i))))
   ⟨⟨_,_,_,_,_,_,Y⟩,sO,gO⟩ ?_ ?_⟩
  ·rintro i σ H3 hi ⟨⟨o1,o2,o3,o4,o5,o6,rfl⟩,s3,hO3⟩;have hi:i<3:=hi;have ll:(gi (bn n c) i).length=i:=AH;refine⟨_,Y,O,true,Y,⟨_,bK.of hO3⟩,mU (K:=K) (xs:=i' (gi (bn n c) i)) (λj ys H'=>ah H3 H'/\j<=i/\ys=i' (eM (bn n c) i ((gi (bn n c) i).take j))) ⟨ah.refl _,Qm _,Y⟩ (by show(List.map _ _).length<=1000;rw[Pb,ll];lia) (λj ys H' _ ⟨s,hj,e⟩=>⟨bK.of (s _ _ hO3),?_⟩) (λj xv ys H4 ex ⟨s4,hj,e4⟩ RR SS kR kS=>?_) (λys H4 ⟨s4,hj,e4⟩ N hN=>?_)⟩
   ·rw[e];show(List.map _ _).length<=_;rw[Pb];have:=rd (p:=bn n c) (r:=i) (l:=(gi (bn n c) i).take j);rw[P1] at this;lia
   ·have ex':((gi (bn n c) i)[j]?).map (λk:Nat=>V.int (k:Int))=M xv:=by rw[<- Ps];exact ex
    obtain⟨oo,eo,rfl⟩:=PC.mp ex';have ho:oo<i:=Do (PL eo);have hj:j<i:=by
     have:=(Pk.mp eo).1;lia
    have s14:=s3.trans s4;obtain⟨u,eu,hu,bu⟩:=rat s14 (show oo<3 by lia);obtain⟨v,ev,hv,bv⟩:=rat s14 hi;have ev:[y0,y1,y2][0+i]?=M v:=by rw[RW];exact ev
    have tk:eM (bn n c) i ((gi (bn n c) i).take (j+1))=eM (bn n c) i ((gi (bn n c) i).take j)++(if(!decide (bn n c oo<bn n c i))=true then[oo] else[]):=by
     rw[b8 eo];unfold eM;rw[List.filter_append];cases hc:(!decide (bn n c oo<bn n c i))<;>simp[List.filter,hc]
    refine⟨_,Y,_,Y,nF (bU.same s14 hR) eu ⟨_,Y,_,Y,nF (bU.same s14 hR) ev ⟨u,v,_,_,Y,hu,hv,bu.mono (by lia),bv.mono (by lia),_,Y,f9 (λhc=>⟨_,Y,kR _ _ ⟨s4,hj,?_⟩⟩) (λhc=>kS _ ⟨s4,hj,?_⟩)⟩⟩⟩
    ·rw[tk,Qh hc,e4];simp only[i',QN,PF,Sa]
    ·rw[tk,P3 hc,e4,UQ]
   ·have lx:(i' (gi (bn n c) i)).length=i:=by show(List.map _ _).length=i;rw[Pb,ll]
    rw[lx,P9 (by lia)] at e4;subst e4;have sN:ah H3 (upd H4 N (.lst (i' (eM (bn n c) i (gi (bn n c) i))))):=s4.trans (ah.new hN);have gN:upd H4 N (.lst (i' (eM (bn n c) i (gi (bn n c) i)))) N=M (.lst (i' (eM (bn n c) i (gi (bn n c) i)))):=ag;generalize upd H4 N (.lst (i' (eM (bn n c) i (gi (bn n c) i))))=H5 at sN gN ⊢;have lk:(i' (eM (bn n c) i (gi (bn n c) i))).length=(eM (bn n c) i (gi (bn n c) i)).length:=Pb _;have lk2:=rd (p:=bn n c) (r:=i) (l:=gi (bn n c) i);refine⟨N,_,Y,.inl (bK.of gN),_,Y,.inl ⟨Y,_,bK.of (sN _ _ hO3)⟩,_,Y,_,Y,O,_,_,_,Y,Y,sN _ _ hO3,by rw[lx,lk];lia,by rw[lx];lia,⟨_,_,_,_,_,_,Y⟩,AR (s3.trans sN) hO,?_⟩;rw[ag,lk,TQ,KB];rfl
  ·rintro σ H3 ⟨⟨o1,o2,o3,o4,o5,o6,rfl⟩,s3,hO3⟩;obtain⟨o,fall,eo⟩:=DR (bn n c);rw[eo] at hO3;have hcl:∀ {i:Nat},i<=3->aG (iU n c) (g_ o i)∈bQ n:=λ{i} hi=>by
    rw[cE];have:=Fz fall.1 hi;show cA n c.a+(g_ o i).1<n/\cA n c.b+(g_ o i).2.1<n/\cA n c.c+(g_ o i).2.2<n;lia
   refine⟨_,Y,B,_,Y,.inl (bU.same s3 hB),λPl hPl=>?_⟩;have gP:upd H3 Pl (.lst (kr (aG (iU n c) (g_ o 0)))) Pl=M (.lst (kr (aG (iU n c) (g_ o 0)))):=ag;have sP:ah H3 (upd H3 Pl (.lst (kr (aG (iU n c) (g_ o 0))))):=ah.new hPl;show Jc _ _ _ _ (upd H3 Pl (.lst (kr (aG (iU n c) (g_ o 0)))));generalize upd H3 Pl (.lst (kr (aG (iU n c) (g_ o 0))))=H4 at gP sP ⊢;refine⟨_,Y,_,Y,Pl,_,Y,.inl ⟨bK.of gP,λl hl=>?_⟩⟩;generalize e0:upd H4 l _=H5;have sl:=gY hl e0;have gl:=fB e0;have s15:=(s3.trans sP).trans sl;obtain⟨wv,w1,w2⟩:=xX (hg1.same s15) (hcl (by decide)) gl;obtain⟨wa,rfl,hwa⟩:=ku (b:=false) w2;refine⟨d,.ref wa,Y,w1,wa,false,Y,⟨_,hwa⟩,bG (K:=K) (b:=false) (ds:=(f (aG (iU n c) (g_ o 0))).ds) (es:=[R3.a,R3.b,R3.c].map λg=>rD (nr (eh n f c g) (bn n c) o 0)) hwa (qr _) Y (by show 3<=1000;decide) (λi e e' u H6 hd he s6 hu R kk S=>?_) (λfs H6 s6 hfs Fd hFd=>?_)⟩
   ·refine aX (B:=S H6) ⟨_,Y,kO,λp hp=>kk _ _ ⟨ah.new hp,?_⟩⟩;rcases lA hd with ⟨rfl,rfl⟩|⟨rfl,rfl⟩|⟨rfl,rfl⟩<;>(cases hu;cases(O4 he);exact(by dsimp only;rw[show ∀ g:R3->Int,nr (eh n f c g) (bn n c) o 0=((g (f (aG (iU n c) (g_ o 0))):Int):Rat) from λg=>rfl,rp];exact iA ag))
   have s46:=sl.trans s6;generalize e0:upd H6 Fd _=H7;have sF:=gY hFd e0;have gF:=fB e0;have FP:Fd≠Pl:=λz=>by rw[z,s46 _ _ gP] at hFd;cases hFd
   have s37:ah H3 H7:=(sP.trans s46).trans sF;have tupF:∀ i,jG ([R3.a,R3.b,R3.c].map λg=>rD (nr (eh n f c g) (bn n c) o i))=true:=λi=>rfl
   refine⟨_,Y,O,true,Y,⟨_,bK.of (s37 _ _ hO3)⟩,kK (K:=K) (xs:=i' [o.1,o.2.1,o.2.2]) (λi σ H'=>(∃ (Fd:Po) (fs:List V) (o1 o2 o5 o6:Option V),σ=[M (.ref d),M (.int n),M x,M (.ref B),M (.ref Rr),M (.ref O),o1,o2,M (.ref Pl),M (.ref Fd),o5,o6]/\H' Fd=M (.lst fs)/\Fd≠Pl/\az K H' ([R3.a,R3.b,R3.c].map λg=>rD (nr (eh n f c g) (bn n c) o i)) fs)/\ah H3 H'/\H' Pl=M (.lst (kr (aG (iU n c) (g_ o i)))))
    ⟨⟨Fd,fs,_,_,_,_,Y,gF,FP,az.same sF hfs⟩,s37,(s46.trans sF) _ _ gP⟩ (λi σ H' _ ⟨_,s,_⟩=>bK.of (s _ _ hO3)) ?_ ?_⟩
   ·rintro i xv σ H8 ex ⟨⟨Fd,fs,o1,o2,o5,o6,rfl,hF8,FP,hfs⟩,s8,hP8⟩;have hi:i<3:=(Pk.mp ex).1;have exv:xv=.int ((zU o i:Nat):Int):=by
     match i,hi,ex with
     |0,_,ex=>exact(O4 ex).symm
     |1,_,ex=>exact(O4 ex).symm
     |2,_,ex=>exact(O4 ex).symm
    subst exv;have w3:=HG (i:=i) fall.1;obtain⟨m,em,es⟩:=KS (t:=aG (iU n c) (g_ o i)) w3;rw[Gb] at es;refine⟨_,Y,_,Y,Pl,_,Y,.inl ⟨bK.of hP8,λl hl=>?_⟩⟩;generalize e0:upd H8 l _=H9;have sl:=gY hl e0;have gl:=fB e0;have s39:=s8.trans sl;obtain⟨wv,w1,w2⟩:=xX (hg1.same (s3.trans s39)) (hcl (by lia)) gl;refine⟨d,wv,Y,w1,_,Y,_,Y,nF (show bU K H9 Pl _ true from bK.of (sl _ _ hP8)) em ⟨_,_,Y,Y,_,Y,_,Y,Pl,_,_,zU o i,Y,Y,sl _ _ hP8,IV (by show zU o i<3;exact w3),?_⟩⟩;rw[es];have mA:Mv [Pl] H9 (upd H9 Pl (.lst (kr (aG (iU n c) (g_ o (i+1)))))):=λb o e n=>by
     rw[au (λz=>n (by simp[z]))];exact e
    have liA:b_ H9 [Pl]:=λb mm=>⟨kr (aG (iU n c) (g_ o i)),by rw[O9.mp mm];exact sl _ _ hP8⟩
    have sA:ah H3 (upd H9 Pl (.lst (kr (aG (iU n c) (g_ o (i+1)))))):=AR s39 hPl;have gA:upd H9 Pl (.lst (kr (aG (iU n c) (g_ o (i+1))))) Pl=M (.lst (kr (aG (iU n c) (g_ o (i+1))))):=ag;have hFA:=mA _ _ (sl _ _ hF8) (by simp[FP]);have hfsA:=az.mv mA liA (tupF i) (az.same sl hfs);have w2A:ay K (upd H9 Pl (.lst (kr (aG (iU n c) (g_ o (i+1)))))) (wD (f (aG (iU n c) (g_ o i)))) wv:=by
     have:=az.mv mA liA (ds:=[wD (f (aG (iU n c) (g_ o i)))]) Y (.cons w2 .nil);cases this with
     |cons h _=>exact h
    show Jc _ _ _ _ (upd H9 Pl (.lst (kr (aG (iU n c) (g_ o (i+1))))));generalize upd H9 Pl (.lst (kr (aG (iU n c) (g_ o (i+1)))))=HA at sA gA hFA hfsA w2A ⊢;refine⟨_,Y,_,Y,Pl,_,Y,.inl ⟨bK.of gA,λl2 hl2=>?_⟩⟩;generalize e0:upd HA l2 _=HB;have sB:=gY hl2 e0;have gB:=fB e0;have s1B:=s3.trans (sA.trans sB);obtain⟨wv2,v1,v2⟩:=xX (hg1.same s1B) (hcl (i:=i+1) (by lia)) gB;obtain⟨wa,rfl,hwa⟩:=ku (b:=false) (ay.same sB w2A);obtain⟨wb,rfl,hwb⟩:=ku (b:=false) v2;have hfsB:=az.same sB hfsA;have bF:∀ {g:R3->Int},(∀ r:R3,r.Wt->Sm 10 (g r))->∀ j,j<=3->Bq (10+j*(k+22)) (nr (eh n f c g) (bn n c) o j):=λ{g} gs j=>by
     induction j with
     |zero=>exact λ_=>Ok.mono (fS (gs _ (hw _ (hcl (i:=0) (by decide)))) (by decide)) (by lia)
     |succ j ih=>
      intro hj;obtain⟨_,_,_,br⟩:=rat (ah.refl H1) (HG (i:=j) fall.1);have b1:Bq 11 (eh n f c g (g_ o (j+1))-eh n f c g (g_ o j)):=by
       show Bq 11 (((g (f (aG (iU n c) (g_ o (j+1)))):Int):Rat)-((g (f (aG (iU n c) (g_ o j))):Int):Rat));rw[<- Qj];exact fS ((gs _ (hw _ (hcl hj))).sub (gs _ (hw _ (hcl (by lia))))) (by decide)
      have:=Bq.add (ih (by lia)) (Bq.mul br b1);refine Ok.mono this ?_;rw[TW];lia
    refine⟨d,.ref wb,Y,v1,3,Y,by decide,by decide,d_ (K:=K) (lo:=0) (ds:=[R3.a,R3.b,R3.c].map λg=>rD (nr (eh n f c g) (bn n c) o (i+1))) (n:=3) Y (by decide) (λe dd HC hd sC R kk S=>?_) (λzs HC sC hzs E hE=>?_)⟩
    ·have he:e<3:=(Pk.mp hd).1;obtain⟨g,gv,gs,gq⟩:=NR he;have ed:dd=rD (nr (eh n f c g) (bn n c) o (i+1)):=O4 (hd.symm.trans (gq λg=>rD (nr (eh n f c g) (bn n c) o (i+1))));subst ed;have hfsC:=az.same sC hfsB;obtain⟨u,eu,hu⟩:=Ke hfsC (gq λg=>rD (nr (eh n f c g) (bn n c) o i));obtain⟨v,ev,hv,bv⟩:=rat (s1B.trans sC) w3;have eu:fs[0+e]?=M u:=by rw[RW];exact eu
     have ea:(f (aG (iU n c) (g_ o i))).vs[0+e]?=M (.int (g (f (aG (iU n c) (g_ o i))))):=by rw[RW];exact gv _
     have eb:(f (aG (iU n c) (g_ o (i+1)))).vs[0+e]?=M (.int (g (f (aG (iU n c) (g_ o (i+1)))))):=by rw[RW];exact gv _
     refine aX (B:=S HC) ⟨_,Y,_,Y,nF (show bU K HC Fd _ true from bK.of ((sB.trans sC) _ _ hFA)) eu ⟨_,Y,_,Y,nF (bU.same (s1B.trans sC) hR) ev ⟨_,Y,_,Y,nF (bU.same sC hwb) eb ⟨_,Y,_,Y,nF (bU.same sC hwa) ea ⟨_,_,Y,Y,kO,λp hp=>?_⟩⟩⟩⟩⟩;have b1:Bq 11 (eh n f c g (g_ o (i+1))-eh n f c g (g_ o i)):=by
      show Bq 11 (((g (f (aG (iU n c) (g_ o (i+1)))):Int):Rat)-((g (f (aG (iU n c) (g_ o i))):Int):Rat));rw[<- Qj];exact fS ((gs _ (hw _ (hcl (by lia)))).sub (gs _ (hw _ (hcl (by lia))))) (by decide)
     have hp2:ay K (upd HC p (.tup [.int (g (f (aG (iU n c) (g_ o (i+1))))-g (f (aG (iU n c) (g_ o i)))),.int 1])) (rD (eh n f c g (g_ o (i+1))-eh n f c g (g_ o i))) (.ref p):=by
      show ay K _ (rD (((g (f (aG (iU n c) (g_ o (i+1)))):Int):Rat)-((g (f (aG (iU n c) (g_ o i))):Int):Rat))) _;rw[<- Qj,rp];exact iA ag
     have sp:ah HC (upd HC p (.tup [.int (g (f (aG (iU n c) (g_ o (i+1))))-g (f (aG (iU n c) (g_ o i)))),.int 1])):=ah.new hp;have l22:i*(k+22)<=2*422:=Vu (by lia) (by lia);refine⟨v,.ref p,_,_,_,_,Y,ay.same sp hv,hp2,bv.mono (by lia),b1.mono (by decide),jY.mul λw5 HD sD hw5=>?_⟩;refine⟨u,w5,_,_,_,_,Y,ay.same (sp.trans sD) hu,hw5,(bF gs i (by lia)).mono (by lia),(Bq.mul bv b1).mono (by lia),jY.add λw6 HE sE hw6=>kk _ _ ⟨(sp.trans sD).trans sE,hw6⟩⟩
    ·have sBE:ah HA (upd HC E (.lst zs)):=(sB.trans sC).trans (ah.new hE);refine⟨⟨E,zs,_,_,_,_,Y,ag,λz=>?_,az.same (ah.new hE) hzs⟩,sA.trans sBE,sBE _ _ gA⟩;rw[z,(sB.trans sC) _ _ gA] at hE;cases hE
   ·rintro σ H8 ⟨⟨Fd,fs,o1,o2,o5,o6,rfl,hF8,FP,hfs⟩,s8,hP8⟩;refine⟨_,Y,Fd,fs,Y,.inl ⟨bK.of hF8,λl hl=>q _ _ (((s1.trans s3).trans s8).trans (ah.new hl)) (ay.tupN (ds:=(W4 n f c).ds) hl ?_)⟩⟩;have e4:∀ g:R3->Int,nr (eh n f c g) (bn n c) o 3=uY n f c g:=λg=>(Fo _ _ _).trans (Bl fall)
    have hfs:az K H8 [rD (nr (eh n f c R3.a) (bn n c) o 3),rD (nr (eh n f c R3.b) (bn n c) o 3),rD (nr (eh n f c R3.c) (bn n c) o 3)] fs:=hfs;rw[e4,e4,e4] at hfs;exact hfs
theorem pL:ao ["_law_town_here","_law_dark"] uA1 (ae mn):=cI
inductive yj (K:KE)(vs:List V)(H:Hp)(Q:VK)(_:XK):Prop
 |mk (t r:Po) (_:vs=[.ref t]) (_:ci H t r) (_:∀ (v:V) (e:En) (H':Hp),ay K H' (.tuple [c6 false e.w,c6 false e.b]) v->e.In->ci H' t r->Mv [t,r] H H'->Q v H')
theorem qu (T:cH K mg w):c9 P w K mg base cn 3 "_law_ends" uA1 [] (yj K):=by
  refine T.x3l.cal pL (bb:=λ_ _ _ _ _ H vs Q E hr h=>?_);obtain⟨t,r,rfl,tw,q⟩:=h;refine⟨_,(cr.go (ab (c_ 1 uB2 uA1 [0] 1 pL.nd (bh rfl T.x1 (aE aa)) (λnd=>(ai 0 nd)) aD (ac ax (dF T) hr (aA (ak 1) (bV (aj aa (aj aa (aj (ac ax (aL T) hr (aA (ak 1) aa)) aQ)))))))
   (af (aq (aY (aA (aW (cK (K:=K) rfl) (by rfl) T.x0 bA (aE (aF uC7 uA1 [0] 1 (bo (K:=K) rfl (ak 1)) (λnd=>(ai 0 nd)) aD (ar cL (ar cL (ak 0) aa) (ac ax (aL T) hr (aA (ak 1) (ar cC aa (ak 0)))))))) (aW (cK (K:=K) rfl) (by rfl) T.x0 bA (aE (ak 1))))))))),?_⟩
  have s64:∀ {n:Int},0<n->n<100000->Sm 8000 n:=λh1 h2=>Sm.mono (k:=20) (by unfold Sm;lia) (by decide)
  refine⟨3,Y,by decide,by decide,eC (K:=K) (lo:=0) (n:=3) (Pd:=λd=>∃ i:Int,d=.int i/\0<=i/\i<=399) tw (by decide) (λi H2 hi tw2 mv2 R kk S=>?_) (λds ys H2 hl hP tw2 mv2 hys D hD=>?_)⟩
  ·refine aX (B:=S H2) ⟨_,Y,_,Y,t,r,400,Y,tw2,by decide,s64 (by decide) (by decide),λd2 H3 a2 b2 rO mv3=>⟨EF,λp hp=>?_⟩⟩;have sp:ah H3 (upd H3 p (.lst [.int 0,.int 0,.int d2])):=ah.new hp;have np:=rO.not hp;refine⟨t,r,p,_,Y,rO.same sp,ag,λz=>np (by simp[z]),λz=>np (by simp[z]),by simp,by show 3<=1000;decide,λj v H4 hv tw4 mv4=>?_⟩;refine kk _ _ ⟨tw4,(mv3.trans (Mv.of sp)).trans mv4,?_⟩;rcases lA hv with ⟨rfl,rfl⟩|⟨rfl,rfl⟩|⟨rfl,rfl⟩
   ·exact⟨_,⟨0,rfl,by decide,by decide⟩,.int _⟩
   ·exact⟨_,⟨0,rfl,by decide,by decide⟩,.int _⟩
   ·exact⟨_,⟨d2,rfl,a2,by lia⟩,.int _⟩
  obtain⟨b,rfl,bi⟩:∃ b:R3,ds=b.ds/\(0<=b.a/\b.a<=399/\0<=b.b/\b.b<=399/\0<=b.c/\b.c<=399):=by
   match ds,hl,hP with
   |[x,y,z],_,h=>
    obtain⟨a,rfl,a1,a2⟩:=h x (by simp);obtain⟨b,rfl,b1,b2⟩:=h y (by simp);obtain⟨c,rfl,c1,c2⟩:=h z (by simp);exact⟨⟨a,b,c⟩,Y,a1,a2,b1,b2,c1,c2⟩
  cases fu hys;generalize e0:upd H2 D _=G;have sD:=gY hD e0;have gD:=fB e0;have nD:=tw2.not hD;have rO:=tw2.same sD;have mv3:=mv2.trans (Mv.of sD);refine⟨_,Y,D,true,Y,⟨_,bK.of gD⟩,Bz (K:=K) (xs:=b.vs) (Pn:=λi n=>∃ m,b.vs[i]?=M (.int m)/\m<n/\n<=1000) rO gD nD (by show 3<=1000;decide) (λi x H4 hx tw4 mv4 R kk S=>?_) (λns H4 hn hP4 tw4 mv4 D2 hD2=>?_)⟩
  ·obtain⟨m,rfl,m1,m2⟩:∃ m:Int,x=.int m/\0<=m/\m<=399:=by
    rcases lA hx with ⟨rfl,rfl⟩|⟨rfl,rfl⟩|⟨rfl,rfl⟩
    ·exact⟨_,rfl,by lia,by lia⟩
    ·exact⟨_,rfl,by lia,by lia⟩
    ·exact⟨_,rfl,by lia,by lia⟩
   refine aX (B:=S H4) ⟨_,rfl,_,_,rfl,rfl,_,rfl,_,rfl,_,_,rfl,rfl,t,r,_,rfl,tw4,by lia,s64 (by lia) (by lia),λd5 H5 a5 b5 tw5 mv5=>⟨_,_,rfl,rfl,kk _ _ ⟨tw5,mv5,_,⟨m,hx,by lia,by lia⟩,rfl⟩⟩⟩
  obtain⟨w,ew,wi⟩:∃ w:R3,ns.map V.int=w.vs/\(b.a<w.a/\w.a<=1000/\b.b<w.b/\w.b<=1000/\b.c<w.c/\w.c<=1000):=by
   match ns,hn,hP4 with
   |[x,y,z],_,h=>
    obtain⟨a,ea,a1,a2⟩:=h 0 x rfl;obtain⟨b',eb,b1,b2⟩:=h 1 y rfl;obtain⟨c,ec,c1,c2⟩:=h 2 z rfl;cases ea;cases eb;cases ec;exact⟨⟨x,y,z⟩,Y,a1,a2,b1,b2,c1,c2⟩
  rw[ew];have sD2:ah H4 (upd H4 D2 (.lst w.vs)):=ah.new hD2;refine⟨D2,_,Y,.inl ⟨bK.of ag,λl hl=>?_⟩⟩;have sl:ah (upd H4 D2 (.lst w.vs)) (upd (upd H4 D2 (.lst w.vs)) l (.tup w.vs)):=ah.new hl;have gl:upd (upd H4 D2 (.lst w.vs)) l (.tup w.vs) l=M (.tup w.vs):=ag;have s5:=sD2.trans sl;have g5:=s5 _ _ (mv4 _ _ gD nD);generalize upd (upd H4 D2 (.lst w.vs)) l (.tup w.vs)=G5 at gl s5 g5 ⊢;refine⟨_,Y,D,_,Y,.inl ⟨bK.of g5,λl2 hl2=>⟨kO,λp hp=>?_⟩⟩⟩;have s6:ah G5 (upd G5 l2 (.tup b.vs)):=ah.new hl2;have s7:ah (upd G5 l2 (.tup b.vs)) (upd (upd G5 l2 (.tup b.vs)) p (.tup [.ref l,.ref l2])):=ah.new hp;refine q _ ⟨w,b⟩ _ (.tup ag (.cons (ay.same (s6.trans s7) (.tup gl (.cons (.int _) (.cons (.int _) (.cons (.int _) .nil))))) (.cons (ay.same s7 (.tup ag (.cons (.int _) (.cons (.int _) (.cons (.int _) .nil))))) .nil))) ⟨bi.1,wi.1,wi.2.1,bi.2.2.1,wi.2.2.1,wi.2.2.2.1,bi.2.2.2.2.1,wi.2.2.2.2.1,wi.2.2.2.2.2⟩ (tw4.same (s5.trans (s6.trans s7))) ((mv3.trans mv4).trans (Mv.of (s5.trans (s6.trans s7))))
theorem uc:ao uA4 uA4 (ae jW):=cI
inductive ue (K:KE)(vs:List V)(H:Hp)(Q:VK)(_:XK):Prop
 |mk (t r:Po) (cap:Int) (c:Bool) (_:vs=[.ref t,.int cap,.bl c]) (_:ci H t r) (_:1<=cap) (_:cap<=1000) (_:∀ (D:Po) (us:List V) (P:C3) (H':Hp),H D=none->H' D=M (.lst us)->D∉[t,r]->jj K (cut [t,r] H') P us->P.In cap->ci H' t r->Mv [t,r] H H'->Q (.ref D) H')
theorem my (T:cH K mg w):c9 P w K mg base cn 8 "_law_curves" uA4 [] (ue K):=by
  refine T.x3m.cal uc (bb:=λ_ _ _ _ _ H vs Q E hr h=>?_);obtain⟨t,r,cap,c,rfl,tw,c1,c2,q⟩:=h;refine⟨_,(cr.go (af (aq (aF uB2 uA4 [0,1,2] 1 (bh rfl T.x1 (aE aa)) (λnd=>(ai 0 nd)) aD (p_ (K:=K) rfl ax (iC T) (hr.mono (by decide)) rfl (aE (ac ax (uV T) hr (aj (ak 1) (aj aa (aj (ak 2) (aj (ak 3) aQ))))))))))),?_⟩;refine⟨3,rfl,by decide,by decide,rS (lo:=0) (n:=3) (λi us H'=>ci H' t r/\Mv [t,r] H H'/\us.length=i/\∀ (j:Nat) (v:V),us[j]?=M v->∃ ps y z,mo K (cut [t,r] H') ps v/\z_ ps/\ps[0]?=M y/\ps.getLast?=M z/\z.1=60/\z.2<=cap) ⟨tw,Mv.refl,rfl,λj v e=>by simp at e⟩ (by decide) (λi us H' _ ⟨_,_,e,_⟩=>by lia) (λi us H' hi ⟨tw',mv',e,hc⟩ R S kk _=>?_) (λus H' ⟨tw',mv',e,hc⟩=>?_)⟩
  ·refine aX (B:=S H') ⟨_,rfl,_,rfl,_,rfl,t,r,60,cap,c,rfl,tw',by decide,by decide,c1,c2,λL ps z xs H1 hL hxs hp hz z1 z2 nL tw1 mv1=>?_⟩;refine λC a dx hC ha hdx hne=>?_
   generalize e0:upd (upd H1 dx _) a _=H5;have s5:=v9 ha hdx hne e0;have gv:=fB e0;refine⟨a,C,dx,.ref L,ps,Y,hC,gv,ay.same s5 (.lst (.inl hL) hxs),hp,λH6 mv6 cv6 cT6=>⟨Y,kk _ _ ?_⟩⟩;have s6:ah H1 H6:=λb' o e=>mv6 _ _ (s5 _ _ e) (λz=>by rw[O9.mp z,ha] at e;cases e)
   refine⟨tw1.same s6,(mv'.trans mv1).trans (Mv.of s6),by rw[PV,e];rfl,λj v ej=>?_⟩;rcases mO ej with ⟨_,ej⟩|⟨rfl,rfl⟩
   ·obtain⟨ps',y,z',h1,h2⟩:=hc j v ej;exact⟨ps',y,z',(h1.same mv1.cut).same (ah.cut s6),h2⟩
   ·exact⟨ps,ps[0]'(by have:=hp.two;lia),z,cT6 [t,r] (tw1.lists.same s5),hp,Pw _,hz,z1,z2⟩
  ·intro D hD;obtain⟨u0,u1,u2,rfl⟩:=LH e;obtain⟨p0,y0,z0,a0,b0,c0,d0,e0,f0⟩:=hc 0 u0 rfl;obtain⟨p1,y1,z1,a1,b1,c1',d1,e1,f1⟩:=hc 1 u1 rfl;obtain⟨p2,y2,z2,a2,b2,c2',d2,e2,f2⟩:=hc 2 u2 rfl;have sD:=ah.new (o:=.lst [u0,u1,u2]) hD;refine q D [u0,u1,u2] ⟨p0,p1,p2⟩ _ (l6 mv' hD (tw'.not hD)) ag (tw'.not hD) ⟨rfl,λi v ei=>?_⟩ (λi hi=>?_) (tw'.same sD) (mv'.trans (Mv.of sD))
   ·rcases lA ei with ⟨rfl,rfl⟩|⟨rfl,rfl⟩|⟨rfl,rfl⟩
    ·exact a0.same (ah.cut sD)
    ·exact a1.same (ah.cut sD)
    ·exact a2.same (ah.cut sD)
   ·match i,hi with
    |0,_=>exact⟨b0,y0,z0,c0,d0,e0,f0⟩
    |1,_=>exact⟨b1,y1,z1,c1',d1,e1,f1⟩
    |2,_=>exact⟨b2,y2,z2,c2',d2,e2,f2⟩
theorem b9:ao ["_law_town_here","_law_bright","_law_dark","_law_edges","_law_curves_here","_law_square_here","_law_table"] uA1 (ae je):=cI
structure LP (K:KE)(t r:Po)(P:C3)(b:S9 ⊕ (Kn->R3))(e:En)(cl:Po)(us:List V)(pv sv dv:V)(H:Hp):Prop where
 tw:ci H t r
 nc:cl∉[t,r]
 hl:H cl=M (.lst us)
 hc:jj K (cut [t,r] H) P us
 hb:match b with
  |.inl s=>xQ K (cut [t,r,cl] H) P s.cp e pv/\ay K (cut [t,r] H) s.d sv/\s.In/\P.In 1000
  |.inr f=>yU K (cut [t,r,cl] H) P f e pv/\sv=.non/\(∃ d,dv=.ref d/\Gr K H 2 f d)/\EH 2 f/\P.In 60
inductive sQ (K:KE)(vs:List V)(H:Hp)(Q:VK)(_:XK):Prop
 |mk (t r:Po) (_:vs=[.ref t]) (_:ci H t r) (_:∀ (Tp cl:Po) (us:List V) (P:C3) (b:S9 ⊕ (Kn->R3)) (e:En) (pv sv dv ev:V) (H':Hp),H' Tp=M (.tup [pv,.ref cl,sv,dv,ev])->LP K t r P b e cl us pv sv dv H'->ay K H' (.tuple [c6 false e.w,c6 false e.b]) ev->e.In->Mv [t,r] H H'->Q (.ref Tp) H')
theorem tE (T:cH K mg w):c9 P w K mg base cn 11 "_law_profile" uA1 [] (sQ K):=by
  refine T.x3n.cal b9 (bb:=λ_ _ _ _ _ H vs Q E hr h=>?_);obtain⟨t,r,rfl,tw,q⟩:=h;refine⟨_,(cr.go (ab (gR (ac ax (qu T) hr (aE (ak 0))) (dC (K:=K) (n:=2) rfl rfl (aB (ai 1 b9.nd) (aB (ai 2 b9.nd) bL))))
   (ab (aw 3 b9.nd (qh (K:=K) rfl ax (dG T) (hr.mono (by decide)) rfl (bT (ak 1) (bT (ak 2) dU))))
   (ab (bg (be eA (ac ax (aL T) hr (aA (ak 0) aa)) aa (aZ _)) (ab (aw 4 b9.nd (ac ax (my T) hr (aj (ak 0) (aj (ac ax (dF T) hr (aA (ak 0) (bV (aA aa aa)))) (aj (bX eA (ac ax (aL T) hr (aA (ak 0) aa)) aa (aZ _)) aQ)))))
   (ab (aw 5 b9.nd (ac ax (uf T) hr (aE (ak 0))))
   (af (aq (aY (aj (wM (K:=K) rfl ax (iP T) (hr.mono (by decide)) rfl (aA (ak 4) (ak 5)) (bT (ak 3) dU)) (aj (ak 4) (aj (ak 5) (aj yK (aj (aY (aA (ak 1) (ak 2))) aQ)))))))))) aI)
   (ab (aw 4 b9.nd (ac ax (my T) hr (aj (ak 0) (aj aa (aj (bX eA (ac ax (aL T) hr (aA (ak 0) aa)) aa (aZ _)) aQ)))))
   (ab (aw 6 b9.nd (ac ax (yL T) hr (aA (ak 0) aa)))
   (af (aq (aY (aj (wM (K:=K) rfl ax (jw T) (hr.mono (by decide)) rfl (aA (ak 4) (p_ (K:=K) rfl ax (eX T) (hr.mono (by decide)) rfl (aA aa (ak 6)))) (bT (ak 3) dU)) (aj (ak 4) (aj yK (aj (ak 6) (aj (aY (aA (ak 1) (ak 2))) aQ)))))))))))))),?_⟩
  refine⟨_,rfl,t,r,rfl,tw,λv e H1 hv ie tw1 mv1=>?_⟩;obtain⟨ea,xs,rfl,hea,hes⟩:=aO (b:=false) (ds:=[c6 false e.w,c6 false e.b]) hv;obtain⟨x,y,rfl,hx,hy⟩:=zn hes;refine⟨ea,_,rfl,hea,rfl,_,_,rfl,_,_,rfl,rfl,_,rfl,_,rfl,λC1 a1 dx1 hC1 ha1 hdx1 hne1=>?_⟩;generalize e0:upd (upd H1 dx1 _) a1 _=H2;have s2:=v9 ha1 hdx1 hne1 e0;have gv:=fB e0;refine⟨a1,C1,dx1,x,y,e,rfl,hC1,gv,ay.same s2 hx,ay.same s2 hy,ie,λH3 mv3 en=>⟨rfl,?_⟩⟩;have s3:ah H1 H3:=λb' o z=>mv3 _ _ (s2 _ _ z) (λw=>by rw[O9.mp w,ha1] at z;cases z)
  replace tw:=tw1.same s3;have mv:=mv1.trans (Mv.of s3);replace hx:=ay.same s3 hx;replace hy:=ay.same s3 hy;clear s2 gv mv3 s3 tw1 mv1 hv hea hes ha1 hdx1 hne1;have s64:∀ {n:Int},0<n->n<100000->Sm 8000 n:=λh1 h2=>Sm.mono (k:=20) (by unfold Sm;lia) (by decide)
  refine⟨_,Y,t,r,2,Y,tw,by decide,s64 (by decide) (by decide),λx0 H4 a0 b0 tw4 mv4=>⟨_,_,Y,Y,_,Y,?_⟩⟩;replace en:=en.mv mv4 tw.lists;replace hx:=ay.mv mv4 tw.lists rfl hx;replace hy:=ay.mv mv4 tw.lists rfl hy;replace mv:=mv.trans mv4;clear tw mv4;refine f9 (λhc=>?_) (λhc=>?_)
  ·refine⟨_,Y,_,Y,kO,λp hp=>?_⟩;generalize e0:upd H4 p _=H5;have s5:=gY hp e0;have gp:=fB e0;have np:=tw4.not hp;refine⟨t,r,p,_,Y,tw4.same s5,gp,λz=>np (by simp[z]),λz=>np (by simp[z]),by simp,by show 2<=1000;decide,λi v H6 ev tw6 mv6=>?_⟩;obtain⟨cap,rfl,c1,c2⟩:∃ cap:Int,v=.int cap/\1<=cap/\cap<=1000:=by
    have m:=PL ev;simp only[Pq,PR,Rj] at m;rcases m with rfl|rfl
    ·exact⟨60,rfl,by decide,by decide⟩
    ·exact⟨1000,rfl,by decide,by decide⟩
   have mv6':=(Mv.of (T:=[t,r]) s5).trans mv6;refine⟨_,rfl,t,r,2,rfl,tw6,by decide,s64 (by decide) (by decide),λx1 H7 a2 b2 tw7 mv7=>⟨_,_,rfl,rfl,t,r,cap,_,rfl,tw7,c1,c2,λD us P H8 hD gD nD c3 pin tw8 mv8=>?_⟩⟩;refine⟨_,rfl,t,r,rfl,tw8,λsv s H9 hs si tw9 mv9=>?_⟩;have m49:=((mv6'.trans mv7).trans mv8).trans mv9;replace en:=en.mv m49 tw4.lists;replace hx:=ay.mv m49 tw4.lists rfl hx;replace hy:=ay.mv m49 tw4.lists rfl hy;replace mv:=mv.trans m49;replace gD:=mv9 _ _ gD nD;replace c3:=c3.same mv9.cut;clear s5 gp np tw6 mv6 mv6' tw7 mv7 tw8 mv8 mv9 m49 tw4 ev hD;refine⟨_,rfl,_,rfl,_,rfl,λC a dx hC ha hdx hne=>?_⟩;generalize e0:upd (upd H9 dx _) a _=H10;have s10:=v9 ha hdx hne e0;have gv:=fB e0;refine⟨a,C,dx,D,sv,.ref a1,us,P,s,e,rfl,hC,gv,s10 _ _ gD,(c3.same ke).same s10,pin.mono c2,ay.same s10 (ay.uncut hs),si,en.same s10,ie,λH11 mv11 sp11=>⟨rfl,?_⟩⟩;have s11:ah H9 H11:=λb' o z=>mv11 _ _ (s10 _ _ z) (λw=>by rw[O9.mp w,ha] at z;cases z)
   refine⟨_,Y,_,Y,_,Y,_,Y,kO,λp1 hp1=>⟨by show 5<=Pz;decide,λp2 hp2=>?_⟩⟩;have s12:=ah.new (o:=.tup [x,y]) hp1;have ge:ay K (upd H11 p1 (.tup [x,y])) (.tuple [c6 false e.w,c6 false e.b]) (.ref p1):=ay.tupN (ds:=[c6 false e.w,c6 false e.b]) hp1 (.cons (ay.same s11 hx) (.cons (ay.same s11 hy) .nil));have s13:=ah.new (o:=.tup [.ref a,.ref D,sv,.non,.ref p1]) hp2;have sA:=(s11.trans s12).trans s13;have sC:=ah.cut (T:=[t,r,D]) (s12.trans s13);have lD:b_ H10 [t,r,D]:=λb m=>by
    simp only[Pq,PR,Rj] at m;rcases m with rfl|rfl|rfl
    ·exact(tw9.lists.same s10) _ (by simp)
    ·exact(tw9.lists.same s10) _ (by simp)
    ·exact⟨_,s10 _ _ gD⟩
   exact q p2 D us P (.inl s) e (.ref a) sv .non (.ref p1) _ ag ⟨tw9.same sA,nD,sA _ _ gD,c3.same (ah.cut sA),⟨(sp11 [t,r,D] lD).same sC,ay.same (ah.cut sA) hs,si,pin.mono c2⟩⟩ (ay.same s13 ge) ie (mv.trans (Mv.of sA))
  ·refine⟨_,rfl,_,rfl,t,r,2,rfl,tw4,by decide,s64 (by decide) (by decide),λx1 H7 a2 b2 tw7 mv7=>⟨_,_,rfl,rfl,t,r,60,_,rfl,tw7,by decide,by decide,λD us P H8 hD gD nD c3 pin tw8 mv8=>?_⟩⟩;refine⟨_,rfl,t,r,2,rfl,tw8,by decide,by decide,λd f H9 gp wt tw9 mv9 nd=>?_⟩;have m49:=(mv7.trans mv8).trans mv9;replace en:=en.mv m49 tw4.lists;replace hx:=ay.mv m49 tw4.lists rfl hx;replace hy:=ay.mv m49 tw4.lists rfl hy;replace mv:=mv.trans m49;replace gD:=mv9 _ _ gD nD;replace c3:=c3.same mv9.cut;have gr:Gr K H9 2 f d:=⟨_,.refl _,gp⟩
   clear tw7 mv7 tw8 mv8 mv9 m49 tw4 hD nd;refine⟨_,rfl,_,rfl,λC2 g dy hC2 hg hdy hne2=>?_⟩;generalize e0:upd (upd H9 dy _) g _=H5;have s5:=v9 hg hdy hne2 e0;have gv2:=fB e0;refine⟨g,C2,dy,d,2,f,rfl,hC2,gv2,gr.same s5,wt,by decide,by decide,λH6 L mv6 hg6 gL hL=>⟨rfl,_,rfl,λC a dx hC ha hdx hne=>?_⟩⟩;have s6:ah H9 H6:=λb' o z=>mv6 _ _ (s5 _ _ z) (λw=>by rw[O9.mp w,hg] at z;cases z)
   generalize e0:upd (upd H6 dx _) a _=H10;have s10':=v9 ha hdx hne e0;have gv:=fB e0;have s10:=s6.trans s10';refine⟨a,C,dx,D,.ref g,.ref a1,us,P,f,e,Y,hC,gv,s10 _ _ gD,(c3.same ke).same s10,pin,⟨g,C2,dy,L,Y,hC2,s10' _ _ hg6,gL.same s10'⟩,wt,en.same s10,ie,λH11 mv11 sp11=>⟨Y,?_⟩⟩;have s11:ah H9 H11:=λb' o z=>mv11 _ _ (s10 _ _ z) (λw=>by rw[O9.mp w] at z;rw[s6 _ _ z] at ha;cases ha)
   refine⟨_,Y,_,Y,_,Y,_,Y,kO,λp1 hp1=>⟨by show 5<=Pz;decide,λp2 hp2=>?_⟩⟩;have s12:=ah.new (o:=.tup [x,y]) hp1;have ge:ay K (upd H11 p1 (.tup [x,y])) (.tuple [c6 false e.w,c6 false e.b]) (.ref p1):=ay.tupN (ds:=[c6 false e.w,c6 false e.b]) hp1 (.cons (ay.same s11 hx) (.cons (ay.same s11 hy) .nil));have s13:=ah.new (o:=.tup [.ref a,.ref D,.non,.ref d,.ref p1]) hp2;have sA:=(s11.trans s12).trans s13;have sC:=ah.cut (T:=[t,r,D]) (s12.trans s13);have lD:b_ H10 [t,r,D]:=λb m=>by
    simp only[Pq,PR,Rj] at m;rcases m with rfl|rfl|rfl
    ·exact(tw9.lists.same s10) _ (by simp)
    ·exact(tw9.lists.same s10) _ (by simp)
    ·exact⟨_,s10 _ _ gD⟩
   exact q p2 D us P (.inr f) e (.ref a) .non (.ref d) (.ref p1) _ ag ⟨tw9.same sA,nD,sA _ _ gD,c3.same (ah.cut sA),⟨(sp11 [t,r,D] lD).same sC,rfl,⟨d,rfl,gr.same sA⟩,wt,pin⟩⟩ (ay.same s13 ge) ie (mv.trans (Mv.of sA))
theorem nS:ao ["_law_parts","_law_colour","_law_inner"] uC6 (ae kX):=cI
inductive wu (K:KE)(vs:List V)(H:Hp)(Q:VK)(_:XK):Prop
 |mk (Tp cl:Po) (ws us:List V) (x sv dv:V) (P:C3) (b:S9 ⊕ (Kn->R3)) (c:Q3) (_:vs=[.ref Tp,x]) (_:H Tp=M (.tup ws)) (_:ws[1]?=M (.ref cl)) (_:ws[2]?=M sv) (_:ws[3]?=M dv) (_:H cl=M (.lst us)) (_:jj K H P us) (_:P.In 1000) (_:ay K H c.col x) (_:c.Wi ((60:Int):Rat)) (_:c.Bd 17) (_:Mn K H P sv dv b) (_:∀ (r:Q3) (u:V) (H':Hp),ah H H'->tm P c r->ay K H' (MT b r).col u->Q u H')
theorem wC (T:cH K mg w):c9 P w K mg base cn 5 "_law_worth" uC6 [] (wu K):=by
  refine T.x3o.cal nS (bb:=λ_ _ _ _ _ H vs Q E hr h=>?_);obtain⟨Tp,cl,ws,us,x,sv,dv,P,b,c,rfl,hT,e1,e2,e3,hcl,h3,hp,hx,wi,bd,hb,q⟩:=h;refine⟨_,(cr.go (ab (aw 2 nS.nd (aW (cK (K:=K) rfl) (by rfl) T.x0 bA (aE (aF uB2 uC6 [0,1] 1 (bh rfl T.x1 (aE aa)) (λnd=>(ai 0 nd)) aD (kG (K:=K) rfl ax (j7 T) (hr.mono (by decide)) (am K (am K (ak 1) aa) (ak 0)) (aE (am K (ak 2) (ak 0))))))))
   (af (aq (j_ (be Ku (am K (ak 0) aa) yK (aZ _)) (ac ax (zF T) hr (aj (am K (ak 0) aa) (aj aa (aj (ak 2) aQ)))) (ac ax (A7 T) hr (aA (ac ax (zi T) hr (aE (am K (ak 0) aa))) (ak 2)))))))),?_⟩
  obtain⟨ca,xs,rfl,hca,hxs⟩:=aO (b:=false) (ds:=c.ds) hx;refine⟨3,rfl,by decide,by decide,rS (lo:=0) (n:=3) (λi zs H'=>ah H H'/\zs.length=i/\∀ (j:Nat) (v:V),zs[j]?=M v->∃ r:Rat,Ej (P.at j) (fR c.a c.b c.c j) r/\ay K H' (rD r) v) ⟨ah.refl _,rfl,λj v e=>by simp at e⟩ (by decide) (λi zs H' _ ⟨_,e,_⟩=>by lia) (λi zs H' hi ⟨s',e,hc⟩ R S kk _=>?_) (λzs H' ⟨s',e,hc⟩=>?_)⟩
  ·have hu:i<us.length:=by rw[h3.1];exact hi
   have eu:=Pw hu;generalize us[i]=uv at eu;have hcv:=(h3.2 i uv eu).same s';obtain⟨a,C,dx,l2,rfl,hC,ha,hl2⟩:=id hcv;obtain⟨pp,yy,z,e0,ez,z1,z2⟩:=hp i hi;obtain⟨yv,ey,hyv⟩:=Kf hxs hi;have eu':us[0+i]?=M (.ref a):=by rw[RW];exact eu
   have ey':xs[0+i]?=M yv:=by rw[RW];exact ey
   refine aX (B:=S H') ⟨_,rfl,nF (b:=false) (i:=1) (dR.of (s' _ _ hT)) e1 ⟨_,rfl,nF (b:=true) (bK.of (s' _ _ hcl)) eu' ⟨a,C,dx,_,rfl,hC,ha,rfl,_,rfl,_,rfl,nF (b:=false) (bU.same s' hca) ey' ⟨.ref a,yv,P.at i,_,z,rfl,hcv,ay.same s' hyv,pp,Ok.mono (CV bd hi) (by decide),ez,(tQ wi hi).1,by rw[z1];exact(tQ wi hi).2,λw r H3 s3 on hw3=>kk _ _ ⟨s'.trans s3,by rw[PV,e];rfl,λj v ej=>?_⟩⟩⟩⟩⟩;rcases mO ej with ⟨_,ej⟩|⟨rfl,rfl⟩
   ·obtain⟨r',o',h'⟩:=hc j v ej;exact⟨r',o',ay.same s3 h'⟩
   ·rw[e];exact⟨r,on,hw3⟩
  intro D hD;obtain⟨u0,u1,u2,rfl⟩:=LH e;obtain⟨x0,o0,h0⟩:=hc 0 u0 rfl;obtain⟨x1,o1,h1⟩:=hc 1 u1 rfl;obtain⟨x2,o2,h2⟩:=hc 2 u2 rfl;refine⟨D,_,rfl,.inl ⟨bK.of ag,λy hy=>?_⟩⟩;have sD:=ah.new (o:=.lst [u0,u1,u2]) hD;have s1:=(s'.trans sD).trans (ah.new (o:=.tup [u0,u1,u2]) hy);have on:tm P c ⟨x0,x1,x2⟩:=⟨o0,o1,o2⟩
  have gy:ay K (upd (upd H' D (.lst [u0,u1,u2])) y (.tup [u0,u1,u2])) (Q3.mk x0 x1 x2).col (.ref y):=ay.tupN (ds:=(Q3.mk x0 x1 x2).ds) hy (az.same sD (.cons h0 (.cons h1 (.cons h2 .nil))));generalize upd (upd H' D (.lst [u0,u1,u2])) y (.tup [u0,u1,u2])=H2 at s1 gy ⊢;have rb:=G6 hp on bd;cases b with
  |inl s=>
   obtain⟨hs,si⟩:=hb;obtain⟨sa,ss,rfl,hsa,hss⟩:=aO hs;refine⟨_,Y,nF (b:=false) (i:=2) (dR.of (s1 _ _ hT)) e2 ⟨Y,_,Y,bI ?_⟩⟩;refine⟨_,Y,nF (b:=false) (i:=2) (dR.of (s1 _ _ hT)) e2 ⟨.ref sa,s,Y,ay.same s1 hs,si,λv H3 s3 hv=>?_⟩⟩;exact⟨_,Y,v,.ref y,s.m,_,Y,hv,ay.same s3 gy,(J' si).mono (by decide),rb.mono (by decide),λw H4 s4 hw=>q _ w H4 ((s1.trans s3).trans s4) on hw⟩
  |inr f=>
   obtain⟨rfl,⟨d,rfl,hd⟩,wt,h60⟩:=hb;refine⟨_,Y,nF (b:=false) (i:=2) (dR.of (s1 _ _ hT)) e2 ⟨Y,_,Y,aX ?_⟩⟩;exact⟨_,Y,nF (b:=false) (i:=3) (dR.of (s1 _ _ hT)) e3 ⟨_,Y,.ref y,d,2,f,_,400,Y,hd.same s1,wt,gy,GK h60 on wi,rb,by decide,by decide,by decide,λw H3 s3 hw=>q _ w H3 (s1.trans s3) on hw⟩⟩
theorem dP:ao ["_law_script","_law_town_here","_law_parts","_law_bright","_law_dark","_law_hither","_law_other","_law_yonder","_law_intent","_law_size","_law_colour","_law_steps","_law_due","_law_grid_here","_law_turn","_law_place","_law_found"] uB5 (ae qk):=cI
section
variable {K:KE}{t r cl:Po}{P:C3}{b:S9 ⊕ (Kn->R3)}{e:En}{us:List V}{pv sv dv:V}{H H':Hp}
theorem LP.mv (h:LP K t r P b e cl us pv sv dv H)(m:Mv [t,r] H H')(tw:ci H' t r):LP K t r P b e cl us pv sv dv H':=by
 obtain⟨a1,a2,a3,a4,a5⟩:=h;refine⟨tw,a2,m _ _ a3 a2,a4.same m.cut,?_⟩;cases b with
 |inl s=>exact⟨a5.1.same m.wide.cut,ay.same m.cut a5.2.1,a5.2.2⟩
 |inr f=>
  obtain⟨b1,b2,⟨d,b3,b4⟩,b5⟩:=a5;exact⟨b1.same m.wide.cut,b2,⟨d,b3,b4.mv m a1.lists⟩,b5⟩
theorem LP.same (h:LP K t r P b e cl us pv sv dv H)(s:ah H H'):LP K t r P b e cl us pv sv dv H':=h.mv (Mv.of s) (h.tw.same s)
theorem LP.pr (h:LP K t r P b e cl us pv sv dv H):BC K H P b e pv:=by
 have h:=h.hb;cases b with
 |inl s=>exact⟨h.1.same ke,h.2.2.1,h.2.2.2⟩
 |inr f=>exact⟨h.1.same ke,h.2.2.2.1,h.2.2.2.2⟩
theorem LP.own (h:LP K t r P b e cl us pv sv dv H):Mn K H P sv dv b:=by
 have h:=h.hb;cases b with
 |inl s=>exact⟨ay.uncut h.2.1,h.2.2.1⟩
 |inr f=>exact h.2
end
structure J_ (K:KE)(t r Tp cl:Po)(P:C3)(b:S9 ⊕ (Kn->R3))(e e2:En)(us:List V)(pv sv dv ev hv yv:V)(H:Hp):Prop where
 lp:LP K t r P b e cl us pv sv dv H
 tb:BV K "parts_by_four" H
 hT:H Tp=M (.tup [pv,.ref cl,sv,dv,ev])
 hi:dJ K H e hv
 yo:dJ K H e2 yv
section
variable {K:KE}{t r Tp cl:Po}{P:C3}{b:S9 ⊕ (Kn->R3)}{e e2:En}{us:List V}{pv sv dv ev hv yv:V}{H H':Hp}
theorem J_.mv (h:J_ K t r Tp cl P b e e2 us pv sv dv ev hv yv H)(m:Mv [t,r] H H')(tw:ci H' t r):J_ K t r Tp cl P b e e2 us pv sv dv ev hv yv H':=
 ⟨h.lp.mv m tw,h.tb.mv m h.lp.tw.lists,m _ _ h.hT (h.lp.tw.lists.not h.hT λ_ z=>nomatch z),h.hi.mv m h.lp.tw.lists,h.yo.mv m h.lp.tw.lists⟩
theorem J_.same (h:J_ K t r Tp cl P b e e2 us pv sv dv ev hv yv H)(s:ah H H'):J_ K t r Tp cl P b e e2 us pv sv dv ev hv yv H':=h.mv (Mv.of s) (h.lp.tw.same s)
end
theorem LB (i:Int):(if(if i<1000 then i else 1000)>0 then(if i<1000 then i else 1000) else 0)=BI i:=by
 unfold BI
 split<;>split at*<;> lia
theorem KJ (T:cH K mg w){f:Po}{fd:QR}(F:Nb K "law" "law" qk f fd):jm P w K mg base cn 12 f fd uB5 (vB ["parts_by_four"] K):=by
 refine Nb.okX F dP (λvs H Q E h=>?_) (λcdv A outer s H vs Q E hr h=>?_)
 ·obtain⟨a,ns,rfl,_⟩:=h;rfl
 ·obtain⟨a,ns,rfl,hS,hl,hT,q⟩:=h;refine⟨_,(cr.go (ab (aw 1 dP.nd (ac ax (yZ T) hr (aE (ak 0))))
   (ab (aw 2 dP.nd (ac ax (tE T) hr (aE (ak 1))))
   (ab (gR (am K (ak 2) aa) (dC (K:=K) (n:=2) Y Y (aB (ai 3 dP.nd) (aB (ai 4 dP.nd) bL))))
   (ab (aw 5 dP.nd (qh (K:=K) Y ax (dG T) (hr.mono (by decide)) Y (bT (ak 3) (bT (ak 4) dU))))
   (ab (aw 6 dP.nd (ac ax (qu T) hr (aE (ak 1))))
   (ab (aw 7 dP.nd (qh (K:=K) Y ax (dG T) (hr.mono (by decide)) Y (bT (am K (ak 6) aa) (bT (am K (ak 6) aa) dU))))
   (ab (aw 8 dP.nd (ac ax (dF T) hr (aA (ak 1) (bV (aj t7 (aj t7 (aj t7 (aj t7 aQ))))))))
   (ab (aw 9 dP.nd (ac ax (dF T) hr (aA (ak 1) (bV (aj aa (aj aa (aj aa aQ)))))))
   (ab (aw 10 dP.nd (ac ax (vW T) hr (aA (ak 1) aa)))
   (ab (aw 11 dP.nd (jk ax (mi T) (hr.mono (by decide)) Y (aj (am K (ak 2) aa) (aj (ak 8) (aj (ak 10) aQ))) (bT (ak 7) dU)))
   (ab (aw 12 dP.nd (jk ax (qx T) (hr.mono (by decide)) Y (aA (ac ax (wC T) hr (aA (ak 2) (ak 10))) (ak 8)) (bT (ak 5) (bT (ak 7) dU))))
   (ab (bg (WW.pt (dO (aV (aR (ac ax (rf T) hr (aE (ak 11))))) (dI (be (Fw (K:=K) Y hr.units) (ak 11) (ak 12) (aZ _))))) (af (aq iy)) aI)
   (ab (aw 13 dP.nd (jk ax (xC T T.x3x) (hr.mono (by decide)) Y (aA (am K (ak 2) aa) (ak 8)) (bT (ak 7) (bT (ak 9) dU))))
   (ab (bg (WW.pt (dO (be (Fw (K:=K) Y hr.units) (kj (K:=K) Y ax (jv T) (hr.mono (by decide)) (ak 13)) (aY (aA (ak 9) (ar cu aa (ar cC (ak 9) aa)))) (aZ _)) (dI (aV (aR (av (Aq (K:=K) (x:="Grid") Y T.x3 T.xl) (by rfl) T.x2 aK (aA (ak 13) (kI (K:=K) (x:="Grid") Y Y (gh T.x3))))))))) (af (aq iy)) aI)
   (ab (dW Qp rfl (bh rfl T.x1 (aE aa)) (ai 14 dP.nd) (ab (aw 15 dP.nd (aY (aj (ac ax (aL T) hr (aA (ak 1) (ak 9))) (aj (ac ax (aL T) hr (aA (ak 1) (ak 9))) (aj (ac ax (aL T) hr (aA (ak 1) (ak 9))) aQ)))))
   (ab (aw 16 dP.nd (jk ax (mi T) (hr.mono (by decide)) Y (aj (am K (ak 2) aa) (aj (ak 8) (aj (aW (cK (K:=K) Y) (by rfl) T.x0 bA (aE (aF uC7 ["_law_size"] [9] 1 (bo (K:=K) Y (ak 15)) (λnd=>(ai 0 nd)) aD (aY (aA (ar cu (ar aM (ak 0) aa) (ar cC (ak 1) aa)) aa))))) aQ))) (bT (ak 7) dU)))
   (ab (aw 12 dP.nd (aW (cK (K:=K) Y) (by rfl) T.x0 bA (aE (aF uC7 [] [] 1 (bo (K:=K) Y (ak 16)) (λnd=>(ai 0 nd)) aD (av (qF rfl) (by rfl) T.xh BY (aA aa (av (gJ rfl) (by rfl) T.xc oP (aA aa (ar cu (ar cL (ar aM aa (am K (ak 0) aa)) (am K (ak 0) aa)) (ar aM aa (am K (ak 0) aa)))))))))))
   (af (bg (be (Fw (K:=K) Y hr.units) (kG (K:=K) Y ax (lB T) (hr.mono (by decide)) (ak 13) (aE (ak 15))) (ak 12) (aZ _)) (af (aq iy)) aI))))))
   (af (aq (bX (Dj (K:=K) Y hr.units) (kj (K:=K) Y ax (jv T) (hr.mono (by decide)) (jk ax (xC T T.x3y) (hr.mono (by decide)) Y (aA (am K (ak 2) aa) (ak 8)) (bT (ak 7) dU))) (aY (aA aa aa)) (aZ _)))))))))))))))))))),?_⟩
  refine⟨_,Y,a,ns,Y,hS,hl,λt r H0 s0 _ _ tw0=>?_⟩;have tb0:=(hT "parts_by_four" (by simp)).same s0;clear hT hS hl s0;refine⟨_,Y,t,r,Y,tw0,λTp cl us P b e pv sv dv ev H1 hT lp hev ie mv1=>?_⟩;have tb1:=tb0.mv mv1 tw0.lists;clear tb0 mv1 tw0;obtain⟨ea,xs,rfl,hea,hes⟩:=aO (b:=false) (ds:=[c6 false e.w,c6 false e.b]) hev;obtain⟨x0,y0,rfl,hx,hy⟩:=zn hes;refine⟨_,Y,nF (b:=false) (i:=4) (dR.of hT) Y ⟨ea,_,Y,hea,Y,_,_,Y,_,_,Y,Y,?_⟩⟩;refine⟨_,Y,_,Y,λC1 a1 dx1 hC1 ha1 hdx1 hne1=>?_⟩;generalize e0:upd (upd H1 dx1 _) a1 _=H2;have s2:=v9 ha1 hdx1 hne1 e0;have gv:=fB e0;refine⟨a1,C1,dx1,x0,y0,e,Y,hC1,gv,ay.same s2 hx,ay.same s2 hy,ie,λH3 mv3 en=>⟨Y,?_⟩⟩;have s3:ah H1 H3:=λb' o z=>mv3 _ _ (s2 _ _ z) (λw=>by rw[O9.mp w,ha1] at z;cases z)
  replace lp:=lp.same s3;replace tb1:=tb1.same s3;replace hT:=s3 _ _ hT;clear e0 s2 gv mv3 s3 hea hes hx hy ha1 hdx1 hne1 hev;refine⟨_,Y,t,r,Y,lp.tw,λov e2 H4 hov ie2 tw4 mv4=>?_⟩;replace tb1:=tb1.mv mv4 lp.tw.lists;replace hT:=mv4 _ _ hT (lp.tw.lists.not hT λ_ z=>nomatch z);replace en:=en.mv mv4 lp.tw.lists;replace lp:=lp.mv mv4 tw4;clear mv4 tw4;obtain⟨oa,xs,rfl,hoa,hos⟩:=aO (b:=false) (ds:=[c6 false e2.w,c6 false e2.b]) hov;obtain⟨x,y,rfl,hx,hy⟩:=zn hos;refine⟨_,Y,nF (b:=false) (i:=0) hoa rfl ⟨_,Y,nF (b:=false) (i:=1) hoa rfl λC2 a2 dx2 hC2 ha2 hdx2 hne2=>?_⟩⟩;generalize e0:upd (upd H4 dx2 _) a2 _=H5;have s5:=v9 ha2 hdx2 hne2 e0;have gv:=fB e0;refine⟨a2,C2,dx2,x,y,e2,Y,hC2,gv,ay.same s5 hx,ay.same s5 hy,ie2,λH6 mv6 en2=>⟨Y,?_⟩⟩;have s6:ah H4 H6:=λb' o z=>mv6 _ _ (s5 _ _ z) (λw=>by rw[O9.mp w,ha2] at z;cases z)
  have V:J_ K t r Tp cl P b e e2 us pv sv dv (.ref ea) (.ref a1) (.ref a2) H6:=⟨lp.same s6,tb1.same s6,s6 _ _ hT,en.same s6,en2⟩
  clear e0 s5 gv mv6 s6 hoa hos hx hy ha2 hdx2 hne2 hov lp tb1 hT en en2;refine⟨_,Y,(by show 4<=Pz;decide),λp hp=>?_⟩;have np:=V.lp.tw.not hp;generalize e0:upd H6 p _=H7;replace V:=V.same (gY hp e0);refine⟨t,r,p,_,Y,V.lp.tw,fB e0,λz=>np (by simp[z]),λz=>np (by simp[z]),by simp,by show 4<=1000;decide,λi v H8 ev8 tw8 mv8=>?_⟩;obtain⟨it,nm,rfl,hn⟩:∃ it nm:Str,v=.str it/\mI.lookup it=M nm:=by
   have m:=PL ev8;simp only[Pq,PR,Rj] at m;rcases m with rfl|rfl|rfl|rfl
   ·exact⟨"same",_,rfl,rfl⟩
   ·exact⟨"white",_,rfl,rfl⟩
   ·exact⟨"squeezed",_,rfl,rfl⟩
   ·exact⟨"clipped",_,rfl,rfl⟩
  replace V:=V.mv mv8 tw8;clear e0 np hp mv8 tw8 ev8;refine⟨_,rfl,EF,λp hp=>?_⟩;have np:=V.lp.tw.not hp;generalize e0:upd H8 p _=H9;replace V:=V.same (gY hp e0);refine⟨t,r,p,_,rfl,V.lp.tw,fB e0,λz=>np (by simp[z]),λz=>np (by simp[z]),by simp,by show 3<=1000;decide,λi v H10 ev8 tw8 mv8=>?_⟩;obtain⟨n,rfl,n2,n3⟩:∃ n:Nat,v=.int n/\2<=n/\n<=3:=by
   have m:=PL ev8;simp only[Pq,PR,Rj] at m;rcases m with rfl|rfl|rfl
   ·exact⟨2,rfl,by decide,by decide⟩
   ·exact⟨2,rfl,by decide,by decide⟩
   ·exact⟨3,rfl,by decide,by decide⟩
  have n7:n<=7:=by lia
  replace V:=V.mv mv8 tw8;clear e0 np hp mv8 tw8 ev8
  change uC 9 _ [M (.ref a),M (.ref t),M (.ref Tp),M x0,M y0,M (.ref a1),M (.ref oa),M (.ref a2),M (.str it),none,none,none,none,none,none,none,none] _ _
  refine⟨_,rfl,t,r,60,rfl,V.lp.tw,by decide,by decide,λcv c H11 hc wi bd tw11 mv11=>?_⟩;replace V:=V.mv mv11 tw11;clear mv11 tw11;refine⟨_,rfl,nF (b:=false) (i:=0) (dR.of V.hT) rfl ⟨_,rfl,_,rfl,_,rfl,pv,cv,.ref a2,it,nm,P,b,e,e2,c,rfl,V.lp.pr,hn,hc,wi,bd,V.tb,V.yo.en,ie,ie2,λstv H12 s12 on hst Ou=>?_⟩⟩;replace V:=V.same s12;replace hc:=ay.same s12 hc;refine⟨_,rfl,_,rfl,Tp,cl,_,us,cv,sv,dv,P,b,c,rfl,V.hT,rfl,rfl,rfl,V.lp.hl,V.lp.hc.same ke,V.lp.pr.pin,hc,wi,bd,V.lp.own,λr1 wv H13 s13 on1 hwv=>?_⟩;cases xJ V.lp.pr.pin on1;replace V:=V.same s13;have bw:=CZ V.lp.pr on1 wi bd;refine⟨_,rfl,_,rfl,_,rfl,wv,.ref a1,.ref a2,it,nm,_,e,e2,rfl,hwv,bw.mono (by decide),hn,V.hi.en,V.yo.en,ie,ie2,λduv H14 s14 hdu=>?_⟩;replace V:=V.same s14;have hst14:=ay.same (s13.trans s14) hst;refine⟨_,rfl,stv,_,rfl,hst14,Ou.mono (by decide),λH15 s15=>⟨_,rfl,bI ?_⟩⟩;replace V:=V.same s15;refine⟨_,rfl,_,rfl,_,_,ay.same s15 hst14,ay.same s15 hdu,rfl,rfl,false,by rw[show RI (Ma it e e2 b P c).col (Mc it e e2 (MT b (Ec P c))).col=true from K9 rfl];rfl,bI ?_⟩;clear hst hst14 hdu s12 s13 s14 s15 bw hwv hc on on1 Ou wi bd;obtain⟨ap0,ap1,ap2⟩:=kH n2 n7;refine⟨_,rfl,nF (b:=false) (i:=0) (dR.of V.hT) rfl ⟨_,rfl,_,rfl,_,rfl,pv,.ref a2,it,nm,n,P,b,e,e2,rfl,n2,n7,V.lp.pr,hn,V.tb,V.yo.en,ie,ie2,λg C dx L H16 s16 hC hg gL=>?_⟩⟩;replace V:=V.same s16;have G:kf K H16 n (i9 n it e e2 b P) (.ref g):=⟨g,C,dx,L,rfl,hC,hg,gL⟩
  clear s16;refine⟨_,rfl,g,C,dx,_,rfl,hC,hg,rfl,.ref g,n,_,rfl,G,n2,n7,λw H17 s17 hw=>?_⟩;have ef:(60:Int).fdiv ((n:Int)-1)=lQ n:=Qo _ (by lia);refine⟨_,rfl,_,rfl,_,_,rfl,rfl,_,_,rfl,rfl,⟨by lia,Sm.mono (k:=20) (by unfold Sm;lia) (by decide)⟩,kO,λp hp=>?_⟩;generalize e0:upd H17 p _=H18;have s18:=s17.trans (gY hp e0);refine⟨_,_,ay.same (gY hp e0) hw,.tup (ds:=[.int n,.int ((60:Int).fdiv ((n:Int)-1))]) (fB e0) (.cons (.int _) (.cons (.int _) .nil)),rfl,rfl,false,?_,bI ?_⟩
  ·rw[ef,show RI (.tuple [.int n,.int (lQ n)]) (.tuple [.int n,.int (lQ n)])=true by simp[RI,Sc]];rfl
  refine⟨_,rfl,λD hD=>?_⟩;cases bH hD hC;refine⟨_,_,rfl,hD,.inl ⟨g,dx,_,rfl,s18 _ _ hg,_,rfl,bI ?_⟩⟩;replace V:=V.same s18;replace G:=G.same s18;clear hw hp s17 s18 hg gL e0 ef;have s64:∀ {n:Int},0<n->n<100000->Sm 8000 n:=λh1 h2=>Sm.mono (k:=20) (by unfold Sm;lia) (by decide)
  refine⟨5,Y,by decide,by decide,iS (lo:=0) (n:=5) (λj σ H'=>(∃ p0 p1 p2 p3,σ=[M (.ref a),M (.ref t),M (.ref Tp),M x0,M y0,M (.ref a1),M (.ref oa),M (.ref a2),M (.str it),M (.int n),M cv,M stv,p0,M (.ref g),p1,p2,p3])/\J_ K t r Tp cl P b e e2 us pv sv dv (.ref ea) (.ref a1) (.ref a2) H'/\kf K H' n (i9 n it e e2 b P) (.ref g)) ⟨⟨_,_,_,_,Y⟩,V,G⟩ ?_ ?_⟩
  ·clear V G;rintro j σ H1 hj ⟨⟨p0,p1,p2,p3,rfl⟩,V,G⟩;have sn:Sm 8000 (n:Int):=s64 (by lia) (by lia);refine⟨_,Y,_,Y,t,r,n,Y,V.lp.tw,by lia,sn,λi0 H2 i00 i01 tw2 mv2=>?_⟩;replace G:=G.mv mv2 V.lp.tw.lists;replace V:=V.mv mv2 tw2;clear mv2 tw2;refine⟨_,Y,_,Y,t,r,n,Y,V.lp.tw,by lia,sn,λi1 H3 i10 i11 tw2 mv2=>?_⟩;replace G:=G.mv mv2 V.lp.tw.lists;replace V:=V.mv mv2 tw2;clear mv2 tw2;refine⟨_,Y,_,Y,t,r,n,Y,V.lp.tw,by lia,sn,λi2 H4 i20 i21 tw2 mv2=>?_⟩;replace G:=G.mv mv2 V.lp.tw.lists;replace V:=V.mv mv2 tw2;clear mv2 tw2;obtain⟨k0,rfl⟩:=Rk i00;obtain⟨k1,rfl⟩:=Rk i10;obtain⟨k2,rfl⟩:=Rk i20;have htm:((k0,k1,k2):Kn)∈bQ n:=cE.mpr ⟨by lia,by show k1<n;lia,by show k2<n;lia⟩;generalize hkt:((k0,k1,k2):Kn)=kt at htm;refine⟨EF,λka hka=>?_⟩;generalize e0:upd H4 ka _=H5;replace V:=V.same (gY hka e0);replace G:=G.same (gY hka e0);have gk:H5 ka=M (.tup [.int kt.1,.int kt.2.1,.int kt.2.2]):=by subst hkt;exact fB e0
   clear e0 hka;obtain⟨wi,bd⟩:=GJ n2 n7 htm;refine⟨_,Y,nF (b:=false) (i:=0) (dR.of V.hT) Y ⟨_,Y,_,Y,ka,false,Y,⟨_,dR.of gk⟩,bG (b:=false) (ds:=[.int kt.1,.int kt.2.1,.int kt.2.2]) (es:=(HJ n kt).ds) (dR.of gk) (.cons (.int _) (.cons (.int _) (.cons (.int _) .nil))) Y (by show 3<=1000;decide) (λj dj ej u H6 hdj hej s6 hu R6 kk6 S6=>?_) (λzs H6 s6 hzs Z hZ=>?_)⟩⟩
   ·obtain⟨m,hm,rfl,rfl⟩:∃ m:Nat,m<7/\dj=.int m/\ej=rD (((lQ n*m:Int)):Rat):=by
     obtain⟨t1,t2,t3⟩:=cE.mp htm;rcases lA hdj with ⟨rfl,rfl⟩|⟨rfl,rfl⟩|⟨rfl,rfl⟩
     ·exact⟨kt.1,by lia,rfl,(O4 hej).symm⟩
     ·exact⟨kt.2.1,by lia,rfl,(O4 hej).symm⟩
     ·exact⟨kt.2.2,by lia,rfl,(O4 hej).symm⟩
    cases hu;refine aX (B:=S6 H6) ⟨_,rfl,_,_,rfl,rfl,.inr (by unfold Sm;lia),_,rfl,_,_,rfl,rfl,_,_,rfl,rfl,⟨by lia,Sm.mono (k:=20) (by unfold Sm;lia) (by decide)⟩,kO,λq hq=>kk6 _ _ ⟨ah.new hq,?_⟩⟩;rw[rp,<- Ks n2 n7];exact .tup ag (.cons (.int _) (.cons (.int _) .nil))
   refine⟨Z,_,rfl,.inl ⟨bK.of ag,λy hy=>?_⟩⟩;generalize e1:upd H6 Z _=H7;have hzs7:=az.same (gY hZ e1) hzs;have s7:=s6.trans (gY hZ e1);rw[e1] at hy;clear e1;generalize e0:upd H7 y _=H8;have s8:=s7.trans (gY hy e0);have gy:ay K H8 (HJ n kt).col (.ref y):=by subst e0;exact ay.tupN (ds:=(HJ n kt).ds) hy hzs7
   replace V:=V.same s8;replace G:=G.same s8;replace gk:=s8 _ _ gk;clear e0 s6 s7 s8 hzs hzs7 hZ hy;refine⟨_,rfl,pv,.ref y,.ref a2,it,nm,P,b,e,e2,_,rfl,V.lp.pr,hn,gy,wi,bd,V.tb,V.yo.en,ie,ie2,λfv H9 s9 on hf bf=>?_⟩;obtain⟨wa,ws',rfl,hwa,hws'⟩:=aO (b:=false) (ds:=(Ma it e e2 b P (HJ n kt)).ds) hf;refine⟨_,rfl,wa,false,rfl,⟨_,hwa⟩,bG (b:=false) (es:=(i9 n it e e2 b P kt).ds) hwa hws' rfl (by show 3<=1000;decide) (λj dj ej u H7 hdj hej s7 hu R7 kk7 S7=>?_) (λzs' H7 s7 hzs' Z' hZ'=>?_)⟩
   ·obtain⟨m,bm,rfl,rfl⟩:∃ m:Rat,Bq 520 m/\dj=rD m/\ej=.int (BI (nw m)):=by
     rcases lA hdj with ⟨rfl,rfl⟩|⟨rfl,rfl⟩|⟨rfl,rfl⟩
     ·exact⟨_,bf.a,rfl,(O4 hej).symm⟩
     ·exact⟨_,bf.b,rfl,(O4 hej).symm⟩
     ·exact⟨_,bf.c,rfl,(O4 hej).symm⟩
    obtain⟨ua,rfl,hua⟩:=bj hu;have c2:∀ {j:Int},lV 2 j:=.inr (by unfold Sm;decide);have s2:Sm 64 2:=by unfold Sm;decide
    have hd:=bm.pos;refine aX (B:=S7 H7) ⟨_,rfl,cx hua ⟨_,_,rfl,rfl,c2,_,rfl,bM hua ⟨_,_,rfl,rfl,_,rfl,bM hua ⟨_,_,rfl,rfl,c2,_,_,rfl,rfl,⟨by lia,(s2.mul bm.sd).mono (by decide)⟩,_,_,rfl,_,_,rfl,kk7 _ _ ⟨ah.refl _,?_⟩⟩⟩⟩⟩;rw[show BI (nw m)=_ from(LB (nw m)).symm];exact .int _
   have ez:=fu hzs';subst ez;refine⟨Z',_,rfl,.inl ⟨bK.of ag,λz hz=>?_⟩⟩;generalize e1:upd H7 Z' _=H8;have s8:=s7.trans (gY hZ' e1);rw[e1] at hz;clear e1;generalize e0:upd H8 z _=H9;have gz:ay K H9 (wD (i9 n it e e2 b P kt)) (.ref z):=.tup (fB e0) (qr _);have s10:=s9.trans (s8.trans (gY hz e0));replace V:=V.same s10;replace G:=G.same s10;replace gk:=s10 _ _ gk;clear e0 s7 s8 s9 s10 hzs' hZ' hz;obtain⟨g',C',dx',L',eg,hC',hg',gL⟩:=id G;cases eg;refine⟨_,rfl,g,C',dx',_,rfl,hC',hg',rfl,_,rfl,.ref g,.ref ka,n,_,kt,rfl,G,.tup gk (.cons (.int _) (.cons (.int _) (.cons (.int _) .nil))),htm,λw H10 s10 hw=>?_⟩;refine⟨_,rfl,_,_,hw,ay.same s10 gz,rfl,rfl,false,?_,bI ⟨⟨_,_,_,_,rfl⟩,V.same s10,G.same s10⟩⟩;rw[LU];rfl
  ·rintro σ H1 ⟨⟨p0,p1,p2,p3,rfl⟩,V,G⟩;refine⟨_,rfl,nF (b:=false) (i:=0) (dR.of V.hT) rfl ⟨_,rfl,_,rfl,pv,.ref a2,it,nm,4,P,b,e,e2,rfl,by decide,by decide,V.lp.pr,hn,V.tb,V.yo.en,ie,ie2,λg' C' dx' L' H2 s2 hC' hg' gL'=>⟨g',C',dx',_,rfl,hC',hg',rfl,.ref g',4,_,rfl,⟨g',C',dx',L',rfl,hC',hg',gL'⟩,by decide,by decide,λw H3 s3 hw=>⟨kO,λp hp=>⟨_,_,ay.same (ah.new hp) hw,.tup (ds:=[.int 4,.int 20]) ag (.cons (.int _) (.cons (.int _) .nil)),rfl,rfl,?_⟩⟩⟩⟩⟩;rw[show RI (.tuple [.int (4:Nat),.int (lQ 4)]) (.tuple [.int 4,.int 20])=true by simp[RI,Sc,lQ]];exact q _
end
structure N_ (K:KE):Prop where
 xm:Pm K O_ "abs"=M none
 x9:Pm K O_ "all"=M none
 xn:Pm K O_ "bool"=M none
 xo:Pm K O_ "dict"=M none
 xp:Pm K O_ "int"=M none
 x2:Pm K O_ "isinstance"=M none
 x4:Pm K O_ "len"=M none
 xa:Pm K O_ "list"=M none
 xh:Pm K O_ "max"=M none
 xc:Pm K O_ "min"=M none
 x1:Pm K O_ "range"=M none
 xq:Pm K O_ "set"=M none
 xg:Pm K O_ "sorted"=M none
 xr:Pm K O_ "str"=M none
 xs:Pm K O_ "sum"=M none
 x0:Pm K O_ "tuple"=M none
 xb:Pm K O_ "zip"=M none
structure N8 (K:KE):Prop where
 xv:∃ t,Pm K O_ "FEWEST_KNOTS"=M (M (.int 2 t))
 xw:∃ t,Pm K O_ "FEWEST_POINTS"=M (M (.int 2 t))
 xx:∃ t,Pm K O_ "GREATEST_TO_SQUARE"=M (M (.int 1000 t))
 xy:∃ t,Pm K O_ "GREATEST_curves"=M (M (.int 1000 t))
 xi:∃ t,Pm K O_ "GREATEST_grids"=M (M (.int 1000 t))
 xj:∃ t,Pm K O_ "GREATEST_squares"=M (M (.int 4000 t))
 xz:∃ t,Pm K O_ "MOST_KNOTS"=M (M (.int 7 t))
 x10:∃ t,Pm K O_ "MOST_POINTS"=M (M (.int 12 t))
 xf:∃ t,Pm K O_ "REACH"=M (M (.int 60 t))
 x11:∃ t,Pm K O_ "UNIT"=M (M (.int 1000 t))
structure NV (K:KE):Prop where
 x5:gE K "Curve" ["points"]=true
 x6:gE K "Ends" uD5=true
 x3:gE K "Grid" ["knots","table"]=true
 x7:gE K "GridProfile" ["curves","grid","bounds"]=true
 x8:gE K "SquareProfile" ["curves","square","bounds"]=true
 x12:ER K "Curve"=true
 xk:ER K "Ends"=true
 xl:ER K "Grid"=true
 x13:ER K "GridProfile"=true
 x14:ER K "SquareProfile"=true
 x15:Kz K "GridProfile" "SquareProfile"=true
structure RawD (K:KE):Prop where
 x16:AtD K "is_whole" oV
 x17:AtD K "is_whole_within" fX
 x18:AtD K "is_tuple_within" fI
 x19:AtD K "greatest_measure" fe
 x1a:AtD K "is_share" pq
 x1b:AtD K "refuse_no_share" fY
 x1c:AtD K "added" yz
 x1d:AtD K "multiplied" ky
 x1e:AtD K "floor_of" oW
 x1f:AtD K "nearest_whole" im
 x1g:AtD K "is_less" rk
 x1h:AtD K "sum_of" uG
 x1i:AtD K "is_within" l_
 x1j:AtD K "over_one_below" gG
 x1k:AtD K "is_colour" mw
 x1l:AtD K "is_row" um
 x1m:AtD K "is_square" lI
 x1n:AtD K "refuse_no_square" fj
 x1o:AtD K "refuse_no_colour" fm
 x1p:AtD K "whole_sum" mK
 x1q:AtD K "share_sum" l4
 x1r:AtD K "led" FS
 x1s:AtD K "is_knots" pA
 x1t:AtD K "is_knot" qE
 x1u:AtD K "is_worth" ou
 x1v:AtD K "apart" yx
 x1w:AtD K "held" BM
 x1x:AtD K "is_table" oB
 x1y:AtD K "refuse_no_knots" fZ
 x1z:AtD K "refuse_no_device_colour" c7
 x20:AtD K "places_below" i_
 x21:AtD K "moved" yI
 x22:AtD K "parts_by_eight" gH
 x23:AtD K "is_way" uP
 x28:AtD K "spans" zN
 x29:AtD K "white_measure" h_
 x2a:AtD K "squeezed_measure" fb
 x2b:AtD K "led_same" oJ
 x2c:AtD K "led_by_white" i8
 x2d:AtD K "led_squeezed" i7
 x2e:AtD K "led_clipped" jO
 x2f:AtD K "is_intent" lR
 x2g:AtD K "refuse_no_intent" ff
 x2h:AtD K "refuse_no_ends" gK
 x2i:AtD K "is_point" oS
 x2j:AtD K "is_onward" l9
 x2k:AtD K "is_points" lY
 x2l:AtD K "stretch_to" kC
 x2m:AtD K "on_line" qR
 x2r:AtD K "is_curve_to" jU
 x2s:AtD K "is_curves" mB
 x2t:AtD K "refuse_no_curves" eW
 x2u:AtD K "refuse_no_bounds" fg
 x2v:AtD K "copied_curves" hJ
 x2w:AtD K "copied_ends" jS
 x2x:AtD K "values_at" mN
 x30:AtD K "refuse_no_profile" eO
 x31:AtD K "_law_town" lJ
 x32:AtD K "_law_draw" mz
 x33:AtD K "_law_pick" ma
 x34:AtD K "_law_whole" kY
 x35:AtD K "_law_low" o9
 x36:AtD K "_law_plus" lS
 x37:AtD K "_law_less" mf
 x38:AtD K "_law_times" kN
 x39:AtD K "_law_below" kQ
 x3a:AtD K "_law_share" kU
 x3b:AtD K "_law_three" kD
 x3c:AtD K "_law_is_share" ic
 x3d:AtD K "_law_is_three" ia
 x3e:AtD K "_law_points" jN
 x3f:AtD K "_law_square" jQ
 x3g:AtD K "_law_led" oZ
 x3h:AtD K "_law_over" mF
 x3i:AtD K "_law_grid" lH
 x3j:AtD K "_law_cell" mM
 x3k:AtD K "_law_four" lG
 x3l:AtD K "_law_ends" mn
 x3m:AtD K "_law_curves" jW
 x3n:AtD K "_law_profile" je
 x3o:AtD K "_law_worth" kX
structure NT (K:KE):Prop where
 x24:AtM K "Grid" "__init__" "Grid.__init__" fK
 x25:AtM K "Grid" "knot" "Grid.knot" jR
 x26:AtM K "Grid" "size" "Grid.size" jK
 x27:AtM K "Grid" "mixed" "Grid.mixed" jc
 x2n:AtM K "Curve" "__init__" "Curve.__init__" e_
 x2o:AtM K "Curve" "last" "Curve.last" jo
 x2p:AtM K "Curve" "value" "Curve.value" ix
 x2q:AtM K "Curve" "ends" "Curve.ends" jp
 x2y:AtM K "SquareProfile" "to_worth" "SquareProfile.to_worth" cZ
 x2z:AtM K "GridProfile" "to_worth" "GridProfile.to_worth" df
set_option autoImplicit true in
set_option relaxedAutoImplicit true in
theorem all_mk {l:Ws}{w:Qq}{K:KE}{h:Q9}{mg:Str->Option O6}{fa:Po}{tA:List Po} (X:K.In h) (G:h.Ns O_ mg) (hfa:mg "law"=M (.ref fa))
  (RN:N_ K)
  (RG:N8 K)
  (RB:NV K)
  (RD:RawD K)
  (RM:NT K)
  (qS:Pm K O_ "Grid"=M (M (.ref Ls)))
  (xT:Pm K O_ "Ends"=M (M (.ref Lc)))
  (eR:Pm K O_ "SquareProfile"=M (M (.ref r_)))
  (gQ:Pm K O_ "GridProfile"=M (M (.ref vZ)))
  (tJ:Pm K O_ "share"=M (M (.ref Dt)))
  (tX:K.lookup Dt=M ⟨Ng,Mp,.func (Pu "share" "share" (aN iM) (aH iM) (ae iM) (.ref Ji) M3 MB Mx Nm G7 Nl),ML⟩)
  (tU:PZ K G7 "share"=true)
  (tV:PM K (.ref Dt)=true)
  (tM:K.lookup Ji=M HM)
  (tS:HM.data=.seq #[.int 1 G0] NH)
  (cD:Pm K O_ "parts_by_four"=M (M (.ref ib)))
  (eU:K.lookup ib=M ⟨EK,EG,.func (Pu "parts_by_four" "parts_by_four" (aN c8) (aH c8) (ae c8) .none EM EU DY DV (.ref gm) D5),EV⟩)
  (il:PZ K (.ref gm) "parts_by_four"=true)
  (hV:PM K (.ref ib)=true)
  (eG:K.lookup gm=M ⟨.type "code",C_,.fields qN,CS⟩)
  (eF:GP qN gm eK)
  (gC:K.lookup eK=none)
  (gu:eK∈tA)
  (fQ:P0 K (.ref Ls) "worth"=M (M (.ref jr)))
  (f8:K.lookup jr=M ⟨E9,Fe,.func (Pu "worth" "Grid.worth" (aN cR) (aH cR) (ae cR) .none (.ref sj) E8 Fb E7 sU E_),Fc⟩)
  (fV:PZ K sU "Grid.worth"=true)
  (fU:PM K (.ref jr)=true)
  (fM:RA K (.ref jr)=true)
  (ik:K.lookup sj=M ⟨.type "dict",none,.dict #[⟨EQ,.str "way" Eo,.str "four" qG⟩] DE,#[]⟩)
  (fJ:P0 K (.ref Lc) "__init__"=M (M (.ref fN)))
  (f7:K.lookup fN=M ⟨Cu,B_,.func (Pu "__init__" "Ends.__init__" (aN cB) (aH cB) (ae cB) .none Ca BG Ch Co og Cf),Ct⟩)
  (fC:PZ K og "Ends.__init__"=true)
  (fE:PM K (.ref fN)=true)
  (fH:RA K (.ref fN)=true)
  (lK:Pm K O_ "led_worth"=M (M (.ref rN)))
  (mE:K.lookup rN=M ⟨Iq,IN,.func (Pu "led_worth" "led_worth" (aN fA) (aH fA) (ae fA) .none Ip IU IF Jj y_ Ja),Jd⟩)
  (mL:PZ K y_ "led_worth"=true)
  (mr:PM K (.ref rN)=true)
  (cV:P0 K (.ref r_) "__init__"=M (M (.ref cQ)))
  (cX:K.lookup cQ=M ⟨tP,tT,.func (Pu "__init__" "SquareProfile.__init__" (aN bx) (aH bx) (ae bx) .none t6 tZ tN tL iR tK),tI⟩)
  (cO:PZ K iR "SquareProfile.__init__"=true)
  (cS:PM K (.ref cQ)=true)
  (cP:RA K (.ref cQ)=true)
  (di:P0 K (.ref vZ) "__init__"=M (M (.ref du)))
  (de:K.lookup du=M ⟨vN,vP,.func (Pu "__init__" "GridProfile.__init__" (aN bE) (aH bE) (ae bE) .none vM vL vR vO jz vS),vK⟩)
  (dh:PZ K jz "GridProfile.__init__"=true)
  (dc:PM K (.ref du)=true)
  (dg:RA K (.ref du)=true)
  (oi:Pm K O_ "stepwise"=M (M (.ref uZ)))
  (pB:K.lookup uZ=M ⟨Kb,Kg,.func (Pu "stepwise" "stepwise" (aN gj) (aH gj) (ae gj) .none Ka Km Ki JZ zZ Kh),J7⟩)
  (oK:PZ K zZ "stepwise"=true)
  (oY:PM K (.ref uZ)=true)
  (p9:Pm K O_ "linked"=M (M (.ref Aj)))
  (qp:K.lookup Aj=M ⟨L_,Mf,.func (Pu "linked" "linked" (aN fO) (aH fO) (ae fO) .none (.ref Eg) Mb Mg Mi EN Mh),L8⟩)
  (ql:PZ K EN "linked"=true)
  (pN:PM K (.ref Aj)=true)
  (rC:K.lookup Eg=M ⟨.type "dict",none,.dict #[⟨LR,.str "knots" Ly,.int 4 Cq⟩] KI,#[]⟩)
  (a_law:Pm K O_ "law"=M (M (.ref f_law)))
  (l_law:K.lookup f_law=M ⟨Oq,Os,.func (Pu "law" "law" (aN qk) (aH qk) (ae qk) .none LF Ln KF LZ Fs KH),Ox⟩)
  (c_law:PZ K Fs "law"=true)
  (k_law:PM K (.ref f_law)=true)
  (jh:Pm K O_ "led_by_white"=M (M (.ref vz)))
  (jX:Pm K O_ "led_clipped"=M (M (.ref wk)))
  (oz:Pm K O_ "led_same"=M (M (.ref B')))
  (iV:Pm K O_ "led_squeezed"=M (M (.ref vd)))
  (gI:Pm K O_ "parts_by_eight"=M (M (.ref qH)))
  (uu:Pm K O_ "LEADS"=M (M (.ref yN)))
  (ut:K.lookup yN=M ⟨.type "dict",none,.dict u9 Gv,#[]⟩)
  (vA:Wr w.params u9.toList)
  (uI:Vi (λ(e:Re) (p:Str×Po)=>∃ t,e.key=.str p.1 t/\e.val=.ref p.2) u9.toList [("same",B'),("white",vz),("squeezed",vd),("clipped",wk)])
  (vH:(yN==Rh)=false)
  (yi:Pm K O_ "WAYS"=M (M (.ref Cr)))
  (zt:K.lookup Cr=M ⟨.type "dict",none,.dict xL IZ,#[]⟩)
  (zm:Wr w.params xL.toList)
  (zO:Vi (λ(e:Re) (p:Str×Po)=>∃ t,e.key=.str p.1 t/\e.val=.ref p.2) xL.toList [("four",ib),("eight",qH)])
  (xY:(Cr==Rh)=false)
  (z_k_STEPS:Pm K O_ "STEPS"=M (M (.ref TA_STEPS)))
  (uk:K.lookup TA_STEPS=M oTA_STEPS)
  (vE:oTA_STEPS.cls=.type "tuple"/\oTA_STEPS.data=.seq iTA_STEPS nTA_STEPS/\iTA_STEPS.size<=Pz/\aU [.ref TA_STEPS_0,.ref TA_STEPS_1,.ref TA_STEPS_2] iTA_STEPS.toList)
  (kt_STEPS_0:K.lookup TA_STEPS_0=M oTA_STEPS_0)
  (ku_STEPS_0:oTA_STEPS_0.cls=.type "tuple"/\oTA_STEPS_0.data=.seq iTA_STEPS_0 nTA_STEPS_0/\iTA_STEPS_0.size<=Pz/\aU ([1,0,0].map V.int) iTA_STEPS_0.toList)
  (kt_STEPS_1:K.lookup TA_STEPS_1=M oTA_STEPS_1)
  (ku_STEPS_1:oTA_STEPS_1.cls=.type "tuple"/\oTA_STEPS_1.data=.seq iTA_STEPS_1 nTA_STEPS_1/\iTA_STEPS_1.size<=Pz/\aU ([0,1,0].map V.int) iTA_STEPS_1.toList)
  (kt_STEPS_2:K.lookup TA_STEPS_2=M oTA_STEPS_2)
  (ku_STEPS_2:oTA_STEPS_2.cls=.type "tuple"/\oTA_STEPS_2.data=.seq iTA_STEPS_2 nTA_STEPS_2/\iTA_STEPS_2.size<=Pz/\aU ([0,0,1].map V.int) iTA_STEPS_2.toList)
  : ∃ (ts:List (Str×Po)) (fd:QR),yk K tA ts/\(∀ (s:Pf) (v:O6),W' s fd ⟨[v],[]⟩ [("_law_script",v)])/\∀ base:Q9,K.In base->base.Ns O_ mg->jm l.prog w K mg base cn 12 fa fd uB5 (vB (ts.map (·.1)) K):=by
 have tabs:yk K tA [("parts_by_four",eK)]:=⟨by simp,λp m=>by
  simp only[Pq,PR,Rj] at m;subst m;exact⟨gu,gC,Lu eG eF,L7 cD eU rfl rfl eG eF⟩⟩
 refine⟨[("parts_by_four",eK)],Pu "law" "law" (aN qk) (aH qk) (ae qk) .none LF Ln KF LZ Fs KH,tabs,λs v=>.of_eq rfl,?_⟩;show ∀ base:Q9,K.In base->base.Ns O_ mg->jm l.prog w K mg base cn 12 fa _ uB5 (vB ["parts_by_four"] K);have e:=hfa.symm.trans (P4 X G a_law);cases e;have JC:cN K mg "share" iM uB8 []:=CP (ds:=[]) tX tU tV (P4 X G tJ) tM tS .nil λus hl=>match us,hl with|[_,_],_=>⟨_,Y,Y⟩
 have D_share_d:cN K mg "share" iM uB8 [.int 1]:=CP (ds:=[.int 1 G0]) tX tU tV (P4 X G tJ) tM tS (.cons ⟨_,Y⟩ (.nil)) λus hl=>match us,(show us.length=1 by simpa using hl) with|[_],_=>⟨_,Y,Y⟩
 have r6:IT K mg "parts_by_four" c8 uC8:=⟨Gs eU il hV (P4 X G cD) λus hl=>match us,hl with|[_,_],_=>rfl,_,cD,P4 X G cD⟩
 have pG:j9 K mg "Grid" "worth" "Grid.worth" cR uC2 [] 2 0 [.str "four"]:=EJ (t:=qG) f8 fV fU fM qS fQ RB.x3 (P4 X G qS) ik λus ws h1 h2=>match us,h1,ws,h2 with|[_,_],_,[],_=>⟨_,_,Y,Y⟩
 have Gp:j9 K mg "Grid" "worth" "Grid.worth" cR uC2 ["way"] 2 1 []:=pH f8 fV fU fM qS fQ RB.x3 (P4 X G qS) λus ws h1 h2=>match us,h1,ws,h2 with|[_,_],_,[_],_=>rfl
 have pJ:j9 K mg "Ends" "__init__" "Ends.__init__" cB uB9 uD5 1 2 []:=pH f7 fC fE fH xT fJ RB.x6 (P4 X G xT) λus ws h1 h2=>match us,h1,ws,h2 with|[_],_,[_,_],_=>rfl
 have AX:qM K mg "led_worth" fA uB6 uA7 2 2 []:=zR mE mL mr (P4 X G lK) λus ws h1 h2=>match us,h1,ws,h2 with|[_,_],_,[_,_],_=>rfl
 have jd:j9 K mg "SquareProfile" "__init__" "SquareProfile.__init__" bx uA9 uC5 3 1 []:=pH cX cO cS cP eR cV RB.x8 (P4 X G eR) λus ws h1 h2=>match us,h1,ws,h2 with|[_,_,_],_,[_],_=>rfl
 have jP:j9 K mg "GridProfile" "__init__" "GridProfile.__init__" bE uB1 uC5 3 1 []:=pH de dh dc dg gQ di RB.x7 (P4 X G gQ) λus ws h1 h2=>match us,h1,ws,h2 with|[_,_,_],_,[_],_=>rfl
 have BJ:qM K mg "stepwise" gj uA6 ["there"] 3 1 []:=zR pB oK oY (P4 X G oi) λus ws h1 h2=>match us,h1,ws,h2 with|[_,_,_],_,[_],_=>rfl
 have AG:qM K mg "linked" fO uA2 ["there"] 2 1 [.int 4]:=DL (t:=Cq) qp ql pN (P4 X G p9) rC λus ws h1 h2=>match us,h1,ws,h2 with|[_,_],_,[_],_=>⟨_,_,Y,Y⟩
 have FK:qM K mg "linked" fO uA2 ["there","knots"] 2 2 []:=zR qp ql pN (P4 X G p9) λus ws h1 h2=>match us,h1,ws,h2 with|[_,_],_,[_,_],_=>rfl
 have T:cH K mg w:=⟨RB.x5,RB.x6,RB.x3,RB.x7,RB.x8,⟨yN,P4 X G uu,⟨u9,Gv,ut,vA,vv uI (.cons ⟨Y,P4 X G oz⟩ (.cons ⟨Y,P4 X G jh⟩ (.cons ⟨Y,P4 X G iV⟩ (.cons ⟨Y,P4 X G jX⟩ (.nil)))))⟩,vH⟩,⟨Cr,P4 X G yi,⟨xL,IZ,zt,zm,vv zO (.cons ⟨Y,P4 X G cD⟩ (.cons ⟨Y,P4 X G gI⟩ (.nil)))⟩,xY⟩,Io X G RG.xv,Io X G RG.xw,Io X G RG.xx,Io X G RG.xy,Io X G RG.xi,Io X G RG.xj,Io X G RG.xz,Io X G RG.x10,Io X G RG.xf,Io X G RG.x11,RB.x12,RB.xk,RB.xl,RB.x13,RB.x14,⟨_,P4 X G z_k_STEPS,[TA_STEPS_0,TA_STEPS_1,TA_STEPS_2],Dr uk vE,.cons (Dr kt_STEPS_0 ku_STEPS_0) (.cons (Dr kt_STEPS_1 ku_STEPS_1) (.cons (Dr kt_STEPS_2 ku_STEPS_2) (.nil)))⟩,Qa X G RN.xm,Qa X G RN.x9,Qa X G RN.xn,Qa X G RN.xo,Qa X G RN.xp,Qa X G RN.x2,Qa X G RN.x4,Qa X G RN.xa,Qa X G RN.xh,Qa X G RN.xc,Qa X G RN.x1,Qa X G RN.xq,Qa X G RN.xg,Qa X G RN.xr,Qa X G RN.xs,Qa X G RN.x0,Qa X G RN.xb,RB.x15,RD.x16.d1 X G λ_ _ _ _ _ _ _=>rfl,RD.x17.d3 X G λ_ _ _ _ _ _ _ _ _=>rfl,RD.x18.d4 X G λ_ _ _ _ _ _ _ _ _ _=>rfl,RD.x19.d2 X G λ_ _ _ _ _ _ _ _=>rfl,RD.x1a.d1 X G λ_ _ _ _ _ _ _=>rfl,RD.x1b.d1 X G λ_ _ _ _ _ _ _=>rfl,JC,D_share_d,RD.x1c.d2 X G λ_ _ _ _ _ _ _ _=>rfl,RD.x1d.d2 X G λ_ _ _ _ _ _ _ _=>rfl,RD.x1e.d1 X G λ_ _ _ _ _ _ _=>rfl,RD.x1f.d1 X G λ_ _ _ _ _ _ _=>rfl,RD.x1g.d2 X G λ_ _ _ _ _ _ _ _=>rfl,RD.x1h.d1 X G λ_ _ _ _ _ _ _=>rfl,RD.x1i.d3 X G λ_ _ _ _ _ _ _ _ _=>rfl,RD.x1j.d1 X G λ_ _ _ _ _ _ _=>rfl,RD.x1k.d1 X G λ_ _ _ _ _ _ _=>rfl,RD.x1l.d1 X G λ_ _ _ _ _ _ _=>rfl,RD.x1m.d1 X G λ_ _ _ _ _ _ _=>rfl,RD.x1n.d1 X G λ_ _ _ _ _ _ _=>rfl,RD.x1o.d1 X G λ_ _ _ _ _ _ _=>rfl,RD.x1p.d2 X G λ_ _ _ _ _ _ _ _=>rfl,RD.x1q.d2 X G λ_ _ _ _ _ _ _ _=>rfl,RD.x1r.d2 X G λ_ _ _ _ _ _ _ _=>rfl,RD.x1s.d1 X G λ_ _ _ _ _ _ _=>rfl,RD.x1t.d2 X G λ_ _ _ _ _ _ _ _=>rfl,RD.x1u.d1 X G λ_ _ _ _ _ _ _=>rfl,RD.x1v.d1 X G λ_ _ _ _ _ _ _=>rfl,RD.x1w.d1 X G λ_ _ _ _ _ _ _=>rfl,RD.x1x.d2 X G λ_ _ _ _ _ _ _ _=>rfl,RD.x1y.d1 X G λ_ _ _ _ _ _ _=>rfl,RD.x1z.d1 X G λ_ _ _ _ _ _ _=>rfl,RD.x20.d1 X G λ_ _ _ _ _ _ _=>rfl,RD.x21.d2 X G λ_ _ _ _ _ _ _ _=>rfl,r6,RD.x22.d2 X G λ_ _ _ _ _ _ _ _=>rfl,RD.x23.d1 X G λ_ _ _ _ _ _ _=>rfl,RM.x24.d3 X G RB.x3 λ_ _ _ _ _ _ _ _ _=>rfl,RM.x25.d2 X G RB.x3 λ_ _ _ _ _ _ _ _=>rfl,RM.x26.d1 X G RB.x3 λ_ _ _ _ _ _ _=>rfl,RM.x27.d3 X G RB.x3 λ_ _ _ _ _ _ _ _ _=>rfl,pG,pJ,RD.x28.d1 X G λ_ _ _ _ _ _ _=>rfl,RD.x29.d2 X G λ_ _ _ _ _ _ _ _=>rfl,RD.x2a.d2 X G λ_ _ _ _ _ _ _ _=>rfl,RD.x2b.d3 X G λ_ _ _ _ _ _ _ _ _=>rfl,RD.x2c.d3 X G λ_ _ _ _ _ _ _ _ _=>rfl,RD.x2d.d3 X G λ_ _ _ _ _ _ _ _ _=>rfl,RD.x2e.d3 X G λ_ _ _ _ _ _ _ _ _=>rfl,RD.x2f.d1 X G λ_ _ _ _ _ _ _=>rfl,RD.x2g.d1 X G λ_ _ _ _ _ _ _=>rfl,RD.x2h.d1 X G λ_ _ _ _ _ _ _=>rfl,AX,RD.x2i.d1 X G λ_ _ _ _ _ _ _=>rfl,RD.x2j.d2 X G λ_ _ _ _ _ _ _ _=>rfl,RD.x2k.d1 X G λ_ _ _ _ _ _ _=>rfl,RD.x2l.d2 X G λ_ _ _ _ _ _ _ _=>rfl,RD.x2m.d3 X G λ_ _ _ _ _ _ _ _ _=>rfl,RM.x2n.d2 X G RB.x5 λ_ _ _ _ _ _ _ _=>rfl,RM.x2o.d1 X G RB.x5 λ_ _ _ _ _ _ _=>rfl,RM.x2p.d2 X G RB.x5 λ_ _ _ _ _ _ _ _=>rfl,RM.x2q.d1 X G RB.x5 λ_ _ _ _ _ _ _=>rfl,RD.x2r.d2 X G λ_ _ _ _ _ _ _ _=>rfl,RD.x2s.d2 X G λ_ _ _ _ _ _ _ _=>rfl,RD.x2t.d2 X G λ_ _ _ _ _ _ _ _=>rfl,RD.x2u.d1 X G λ_ _ _ _ _ _ _=>rfl,RD.x2v.d1 X G λ_ _ _ _ _ _ _=>rfl,RD.x2w.d1 X G λ_ _ _ _ _ _ _=>rfl,RD.x2x.d2 X G λ_ _ _ _ _ _ _ _=>rfl,jd,RM.x2y.d2 X G RB.x8 λ_ _ _ _ _ _ _ _=>rfl,jP,RM.x2z.d2 X G RB.x7 λ_ _ _ _ _ _ _ _=>rfl,RD.x30.d1 X G λ_ _ _ _ _ _ _=>rfl,BJ,FK,AG,RD.x31.d1 X G λ_ _ _ _ _ _ _=>rfl,RD.x32.d2 X G λ_ _ _ _ _ _ _ _=>rfl,RD.x33.d2 X G λ_ _ _ _ _ _ _ _=>rfl,RD.x34.d1 X G λ_ _ _ _ _ _ _=>rfl,RD.x35.d2 X G λ_ _ _ _ _ _ _ _=>rfl,RD.x36.d2 X G λ_ _ _ _ _ _ _ _=>rfl,RD.x37.d2 X G λ_ _ _ _ _ _ _ _=>rfl,RD.x38.d2 X G λ_ _ _ _ _ _ _ _=>rfl,RD.x39.d2 X G λ_ _ _ _ _ _ _ _=>rfl,RD.x3a.d2 X G λ_ _ _ _ _ _ _ _=>rfl,RD.x3b.d2 X G λ_ _ _ _ _ _ _ _=>rfl,RD.x3c.d1 X G λ_ _ _ _ _ _ _=>rfl,RD.x3d.d1 X G λ_ _ _ _ _ _ _=>rfl,RD.x3e.d4 X G λ_ _ _ _ _ _ _ _ _ _=>rfl,RD.x3f.d1 X G λ_ _ _ _ _ _ _=>rfl,RD.x3g.d2 X G λ_ _ _ _ _ _ _ _=>rfl,RD.x3h.d1 X G λ_ _ _ _ _ _ _=>rfl,RD.x3i.d2 X G λ_ _ _ _ _ _ _ _=>rfl,RD.x3j.d2 X G λ_ _ _ _ _ _ _ _=>rfl,RD.x3k.d3 X G λ_ _ _ _ _ _ _ _ _=>rfl,RD.x3l.d1 X G λ_ _ _ _ _ _ _=>rfl,RD.x3m.d3 X G λ_ _ _ _ _ _ _ _ _=>rfl,RD.x3n.d1 X G λ_ _ _ _ _ _ _=>rfl,RD.x3o.d2 X G λ_ _ _ _ _ _ _ _=>rfl⟩
 intro base _ _;exact KJ T (Li (st:=qk) l_law c_law k_law)
theorem walk {l:Ws}{qq:PU}{loose:List Str}{XP:(Str->Option O6)->Q9->Prop}{YP:Qq->Q9->Prop}{d:DefRec}{K:Params->KE} (hn:l.most=M 63) (hdf:d.params.defaults=[])
  {tA:List Po}(hY:∀ (w:Qq) (h:Q9),YP w h->(K w.params).In h)(hY2:∀ (w:Qq) (h:Q9),YP w h->∀ P∈tA,h.get? P=M { cls:=.none,data:=.fields #[] })
  (F:∀ (w:Qq) (mg:Str->Option O6) (fa:Po) (h:Q9),(K w.params).In h->h.Ns O_ mg->mg d.name=M (.ref fa) ->
   ∃ (ts:List (Str×Po)) (fd:QR),yk (K w.params) tA ts/\(∀ (s:Pf) (u:O6),W' s fd ⟨[u],[]⟩ [("_law_script",u)])/\∀ base:Q9,(K w.params).In base->base.Ns O_ mg->jm l.prog w (K w.params) mg base cn 12 fa fd uB5 (vB (ts.map (·.1)) (K w.params))) :
  PySem.W.WalkO qq loose XP YP l.row.toRowW d [] (λf vs=>Yr f vs):=
 GN (k:=12) (x:="_law_script") (CX:=λw=>cn) (sp:=vB) hn hdf ⟨Y,by decide,by decide⟩ hY hY2 F (λ_ _ _ a ns hl hS hx=>⟨a,ns,Y,hS,hl,hx,λ_=>rfl⟩) λ_ _ _ _ _ z=>z
end TR
structure PySem.W.Fast:Prop where (tw17710621700786781701 tw3908858691244892313 tw842872776795486763 tw3458873654810010277 tw5907094798276123480 tw8815102823015290071 tw17513191015435027704 tw1171572018473379718 tw6998376063800676262 tw17943112108377877970 tw2778888644256685931 tw4372532728820109721 tw2650986748375573951 tw10262687660674868098 tw3157919672846757615 tw17259385716090758998 tw5243960469196171907 tw8464336442482959619 tw11593862173042958480 tw13697742783795222930 tw5952711753449998100 tw15054415752948659336 tw8470583901227768391 tw18395610541474841366 tw12414370614628257841 tw16504469926288743804 tw6400636130237827412 tw9086597881867532861 tw4758262806118409959 tw12621860848868712095 tw6038425731530484063 tw15593180102409108138 tw10375743467676840390 tw9629717527438203429 tw13341495865813930137 tw4483735009054225062 tw10501985426432665530 tw15333482186637171593 tw2120506629211403753 tw3485954781152827634 tw5914251134215515798 tw9789613106054969302 tw13004322749328847692 tw15258835025920735752 tw11547374634015179980 tw5757494185140300739 tw15955630890520928292 tw10177310912046161832 tw16925085415210952857 tw8962366566355133723 tw11078058139850676780 tw6502435525317469285 tw4320661489422084173 tw15136709593903872402 tw8955463201641271208 tw1634685258424968657 tw7317564732003746861 tw17417905909711082313 tw8860690731933305647 tw4309428104428902666 tw8683686260471931261 tw11721422524868835874 tw7243728532465565894 tw14786158591511404499 tw9875116427268391099 tw14946630890531007946 tw6490110950380414836 tw17086494947332722045 tw1191272676697493988 tw6544897682914830577 tw1437129895361461554 tw14706477751168028554 tw2483189731643098035 tw6120674157758415726 tw1615793397972918284 tw3310427929417167296 tw2192349151859174877 tw14667698166327488772 tw6882492314012315527 tw4411505874334051746 tw512807674088477387 tw14075977156156150521 tw13621629917054769652 tw10199822975708023507 tw13985511291067081216 tw3027091892103456139 tw15248241833385105098 tw6394393419445944928 tw11302717144120715783 tw7721275193417499792 tw2318778692274516550 tw12484066827687731892 tw16107164592677372909 tw16877952347319674296 tw3526393542613489805 tw9772465463628044696 tw18090763766968429295 tw8525240380336202621 tw14202275898435152613 tw9184285594415695467 tw5403156103759034951 tw11833137699044236446 tw7593919256631636610 tw5725663758177202583 tw853589219709915641 tw9705805461528588003 tw7623067442035333993 tw1194741408515798170 tw9449567489920539131 tw14750703373051800379 tw10208358449851896387 tw2774847577595479881 tw12359135601610013284 tw13532660050913088433 tw651205136626946680 tw13387496545820392342 tw12105347887290989648 tw1205934183844359335 tw8504904167710599819 tw6499177109727203776 tw7915223185408150038 tw7580794647306361387 tw2122848483137598100 tw1704015763091051650 tw4506816703037146983 tw12826862244592855252 tw16393905842348393698 tw7829484566661886655 tw2695748688270305550 tw11425218832501350883 tw4456908535068097425 tw7846478380240735307 tw12394304650324486567 tw17129999324224967493 tw1118623709726414430 tw12199897700247005233 tw12658215435857310363 tw11264141309153804598 tw2107900683315083265 tw16145984273109016867 tw4082651506206058231 tw824615394149006107 tw3478736273238020574 tw6594942828276783913 tw5064551002962923721 tw17516789972698246295 tw18304469169054269753 tw17415210633321391567 tw16953924479335642655 tw10365360016322445234 tw2792140871218752867 tw11327806400260867209 tw18209660790529490057 tw8355512151101390345 tw16578962477973506842 tw9506158213753951154 tw5439227333729973378 tw16140201744624555680 tw12529197448714588566 tw6375869685302092996 tw13367681404627941602 tw8403728195324042750 tw5020963780255925371 tw560552256366272377 tw13337322523942830343 tw13515994138900544120 tw6401897148261726301 tw9125648550445609617 tw7507355834605574956 tw1040039592778631089 tw2925941554785940172 tw8076592774452562131 tw8109918227637922837 tw5040764232623616425 tw17717943417053716597 tw5834973137894875433 tw2087035793960589879 tw16013449248744079094 tw5144208489904611570 tw15653853367477736675 tw2800625378986164161 tw15809107834589224696 tw8476854978394786289 tw507664853119854344 tw11304728104340658398 tw6822567813760747180 tw8651957312463656962 tw13469794835821152449 tw441599552021774289 tw130533340842611350 tw7093570734571044083 tw3638788645394934910 tw1346219981556698889 tw18129347974066264033 tw14905445468650949151 tw2464938101063777211 tw15835897904031677709 tw11797366750925011204 tw13703291330988002165 tw13698980449898920494 tw8089613492441123012 tw9018311317060259309 tw6360719295361232337 tw7788839258618997270 tw11543034614535082722 tw17927505259120922291 tw6772083478965809845 tw15099990862514953909 tw3275322885655638860 tw14119780424229154744 tw18040309086229173272 tw17658554375594907530 tw7855856244087224420 tw4026275536999777867 tw2532099209287048875 tw16514868639568267330 tw5070915914086145946 tw1029167603379943775 tw7376303925747328943 tw1340409583900626568 tw7117711860126132229 tw7779466459722132916 tw9609674119581243072 tw17141516201068579715 tw533346673396126806 tw1993939487429674512 tw14657754666216448374 tw7213786083625291699 tw15648952418326205188 tw8010865438506097602 tw5891108428391052386 tw2558922190658894625 tw918035268194135345 tw2734369945206333266 tw8583242785276423637 tw16497774543653123091 tw7525103169122932544 tw18434453308389873762 tw7956343347628505520 tw12089791929073092776 tw2506800266788189094 tw9516239202418306407 tw5916821061559539203 tw12612923288108046112 tw811137907594404871 tw14144933064852171535 tw10640633329821064188 tw13890238040966842123 tw15090262617319507131 tw10830606603729286388 tw13975095702279917004 tw1839468935571530595 tw18234001275496221844 tw5578401578105309033 tw16079729730790280002 tw8423333004964551542 tw10144163743097793863 tw11043790988028726623 tw10001998379870472791 tw6332050903571729580 tw16106877847111989927 tw16120650820015701414 tw17248792019091911864 tw11944751337208148090 tw2254321964398591641 tw1785669554153944535 tw567812412803094575 tw1001916525062673989 tw10983718737586447729 tw8141174769888678135 tw16671355343486614013 tw7319710339786927290 tw4711884454378410818 tw8001272072630375359 tw1795438979177900284 tw16795422480949089249 tw4283081677411272518 tw4781645846090719757 tw245105569748153327 tw18368844841763055173 tw18211545151582682609 tw17451970663105148763 tw8664872734985807704 tw6089708648698759158 tw16781523859997027314 tw953325817681753958 tw7653286782802801574 tw1444158264783600182 tw15794083264891146927 tw4109341680051265494 tw12872694262055128692 tw847872545548832591 tw1880032384721898981 tw14132798040241889020 tw16457972097452159865 tw3123621058888750283 tw9383596354863199874 tw8504822035157576835 tw6523033076662807006 tw1944164590588871214 tw11185979178850987056 tw10531882825776282488 tw2722102766829485317 tw18152104250331156992 tw12404609674681510554 tw4004503544872108990 tw6548929919564998941 tw16462212500125791712 tw10330809338203731481 tw15836751255513916068 tw12595386889349511135 tw17872651034642044677 tw2991911425505526211 tw13826670887532163727 tw1693094901180721952 tw5605918619302384344 tw650476461955128957 tw7975694080344234973 tw12382688160528723449 tw2732183604439958742 tw8748023126317781463 tw17345820282164136500 tw17458495293083387057 tw11589859341125420320 tw16169435635402572151 tw7151141163150515353 tw17661459522970632117 tw14414170227008377916 tw11114330810595393783 tw9247867946223096270 tw6095321817091334144 tw11102620516637665837 tw17077093781196510395 tw13668733255924181580 tw12107985252864884062 tw11944305393781204886 tw17395159800904310874 tw11218928925682341803 tw12550214772820031817 tw16688264035296150417 tw10414267026083610726 tw483915934749508613 tw2135865114905218964 tw1932467291580188982 tw12398131354106076222 tw3407245759436604161 tw16595418392409248345 tw8704857138412198717 tw7425756542189144118 tw5017327671577576160 tw15661771566707561677 tw7725103857187156687 tw847467148599175786 tw16368675020400331911 tw12375833659054866256 tw3159427146683617770 tw16967800731278100168 tw12496498186863867703 tw17471623571727000425 tw16345183503055131883 tw8644046085543394938 tw263107623196479082 tw12344497734960014363 tw10325552032575389939 tw8549787532607401257 tw2116909098092610968 tw12359994641692674704 tw11805739846716783944 tw16397627418340600340 tw7338155776978937878 tw14540387093645368713 tw12324536422107310348 tw5916479118439642665 tw1607992672708314526 tw13849974168205593569 tw8906745989752579375 tw6043800707816067389 tw8929202030579998781 tw13886791724602922442 tw13251547399621533856 tw13826958226629750093 tw13080659321692326235 tw6337371987609721471 tw13520715457541648784 tw2759318084095919797 tw12934776522845806837 tw8067529710993713067 tw5672440552515039432 tw221315721219774241 tw16861052290233619064 tw18247709004194747043 tw10827420057244762859 tw17974844762350906126 tw16368687852161164089 tw1380997201178220694 tw3272892433387124231 tw6911347067535906749 tw4345663597419567057 tw2909681731928149534 tw18032607240744587078 tw17385636341184706919 tw11506984052567633693 tw1351524192323143023 tw8324398659790585837 tw3128378014361438809 tw15042295702817178941 tw15764257316595896279 tw4646024839707125089 tw2953748459415260184 tw17603667386949001314 tw15906637905760662754 tw15244175989735651230 tw6441927607561252149 tw9447920169022611821 tw8795119948440150619 tw6872027853527067990 tw3023452801230080502 tw15719920172389523062 tw3649840908575864629 tw12090009324682523783 tw7940718248531686708 tw6824221564866981037 tw5461376640052494382 tw13163975272804399283 tw11916874433294253159 tw12406392981031508790 tw11657552099465793588 tw13567205714483605644 tw11662985244566329042 tw6669335967284525633 tw5486293257005959172 tw5032025160228999650 tw4746769351954642455 tw1177685149956297405 tw11386913415045907818 tw7153467512991788930 tw1973296736002370449 tw11408808870668642627 tw1254156000029502157 tw9371553630273097624 tw7707599883698191935 tw207689555474906388 tw14599669970942961743 tw2016096429893932717 tw16771622336776569282 tw10396851688844552395 tw9390170387818589439 tw1063050946579006244 tw9105701172513341311 tw4094428031548398164 tw5623847391119635720 tw5280642221502969397 tw2207234401201589662 tw9057518325231673972 tw5595629659754848878 tw1714997743680261745 tw3336937613462248089 tw15050919623358350068 tw2184887901085970557 tw16929881445158481492 tw15841771809442193899 tw14496624396330212267 tw16361940667708607737 tw11833531373425433780 tw13705936824073237661 tw1730547754099229673 tw10315866375561964346 tw12441506601046521951 tw10261415645327863434 tw7263376184008076331 tw15378347336811827259 tw16414615689096507331 tw7463983515028209303 tw18280495481583628973 tw10257134106068686844 tw6138835897815159704 tw6026278614974840674 tw17576906470411259541 tw5880345357084646272 tw4212184284836692222 tw3144753933890077770 tw17431068087857865996 tw935288997304950975 tw6164891680523796391 tw15156200511796306072 tw12632001493925083795 tw9274441276453956200 tw6938352028131141302 tw2722256126499453639 tw1651283193565889499 tw16154661862562969459 tw5009854157058325420 tw10783372490471733472 tw3006793913375733070 tw8314533241420816646 tw8070033666476210001 tw17463439214139056088 tw11789543251560878110 tw10450808745432798887 tw17010149706805864012 tw10301295118503768487 tw8149067700777546105 tw6757405769464860317 tw3502377778739456950 tw17530752021545730739 tw12457043176373130513 tw9653200568225733949 tw12914302111770967558 tw9183753972157977168 tw2627752933528455576 tw7635967719528988145 tw696093969863102997 tw16670940707482209621 tw9578720141781503432 tw8536150641492012351 tw8083104764370966960 tw5775310729289018387 tw477867784446642753 tw4351557520942132329 tw2766431420310924831 tw2079005659620745455 tw2050985873758486030 tw14614268436846470536 tw10099194466982721988 tw16195733647391040301 tw15043355016457202784 tw14153789367447783599 tw11535029606157496276 tw8155384855000854777 tw6800787831119393948 tw9775039323714142683 tw4378457616946775335 tw2559442758845861253 tw17566733180929871094 tw16991876221978280725 tw13290083841047171679 tw522247705843205387 tw3689869979172376010 tw3682448482380553028 tw2276846743255909653 tw14667261324512377601 tw6995943195789838058 tw13793706352628201390 tw17004866838421754634 tw17732473465817749547 tw9685026428053154509 tw8217778092085586721 tw3399841659729660088 tw5372467004973634742 tw11998082873418816617 tw14491811828687680936 tw10597708649264951729 tw9495175240111210839 tw9463974617943326911 tw7749202771252450517 tw6955633145417878130 tw6942624738260959874 tw4242645450885981616 tw4240863208677724661 tw3917410859710630805 tw3126675134914150189 tw17883460388565512585 tw17325398942927582475 tw14753463677103495444 tw11188417312959902722 tw11018333153854231862 tw1017759228368029133 tw7983854244583745451 tw6222895528344768262 tw4614434295533291921 tw2649476729002174060 tw17319390345117212039 tw16932867251376073381 tw16618921957040620906 tw13464383124146627313 tw11340499185766023325 tw10203567365798080796 tw9007318827348371697 tw7148142440880993148 tw1688602283725104802 tw12881099524047277143 tw9917250574507932780 tw991365570496157256 tw9586505028536333115 tw9306491044331508142 tw8941825541204570799 tw7090233994248782462 tw5744709200517592072 tw5081418001397528361 tw17816615572918387531 tw14182623261617171951 tw13003333252873397910 tw12559330012011008949 tw1243322881217710390 tw12382428972065155345 tw7545565287830408946 tw5697376807559964917 tw5560230165698145462 tw5407887592007867037 tw4883401605903150312 tw463067383039285343 tw4238595092553269179 tw18398783118167119459 tw17575383866304262192 tw16406924103321472354 tw14483712012199239032 tw11328623308241816851 tw10549914497527453036 tw10465376025538572219 tw7969741079346754461 tw12051780999180533908 tw10318187997073991231 tw7055203114668286123 tw13746577447232996463 tw6154611722081565384 tw6930718735714531292 tw8106156702943354478 tw294956195810480290 tw18076033060829048648 tw17794530058073970266 tw14509915545017334121 tw13867610990384110158 tw13660445354004216382 tw10815003459934934003 tw9855944474025193717 tw9314311703411927445 tw5946836840413519352 tw5057925686386370588 tw3915622974478723036 tw2893381849527193312 tw2773962246667982992 tw188041544277173571 tw16180642080503174631 tw16116243291530177556 tw15629272059523421037 tw1528016497522012283 tw14870902436352846782 tw10214991317200051191:True)
open PySem PySem.W PyProof.Rows
set_option maxRecDepth 100000 in
set_option maxHeartbeats 0 in
theorem PySem.Challenge.cw_tintroads_k22_whole_links_holds : PySem.Challenge.rw_tintroads_k22_whole_links.Holds := by
  w_on;o_law;k_head;(case hw=>w_witness2)
  k_fill
  refine TR.walk (l:=PySem.Challenge.rw_tintroads_k22_whole_links) Y Y (fun w h zzQ=>PySem.W.km_in_of zzQ) (fun w h zzQ=>PySem.W.km_tabs_of zzQ) ?F
  case F=>
    intro w mg fa h KX G hmg
    refine' TR.all_mk KX G hmg ?RN ?RG ?RB ?RD ?RM ?qS ?xT ?eR ?gQ ?tJ ?tX ?tU ?tV ?tM ?tS ?cD ?eU ?il ?hV ?eG ?eF ?gC ?gu ?fQ ?f8 ?fV ?fU ?fM ?ik ?fJ ?f7 ?fC ?fE ?fH ?lK ?mE ?mL ?mr ?cV ?cX ?cO ?cS ?cP ?di ?de ?dh ?dc ?dg ?oi ?pB ?oK ?oY ?p9 ?qp ?ql ?pN ?rC ?a_law ?l_law ?c_law ?k_law ?jh ?jX ?oz ?iV ?gI ?uu ?ut ?vA ?uI ?vH ?yi ?zt ?zm ?zO ?xY ?z_k_STEPS ?uk ?vE ?kt_STEPS_0 ?ku_STEPS_0 ?kt_STEPS_1 ?ku_STEPS_1 ?kt_STEPS_2 ?ku_STEPS_2
    (case RN=>constructor <;> k_is)
    (case RG=>constructor <;> (refine' TR.gOf ?a;(case a=>k_is)))
    (case RB=>constructor <;> kernel_rfl)
    (case RD=>constructor <;> (refine' TR.AtD.of ?a ?b ?c ?d;(case a=>k_is);(case b=>k_is);(case c=>k_is);(case d=>k_is)))
    (case RM=>constructor <;> (refine' TR.AtM.of ?a ?b ?c ?d ?e ?f;(case a=>k_is);(case b=>k_is);(case c=>k_is);(case d=>k_is);(case e=>k_is);(case f=>k_is)))
    (case qS=>k_is)
    (case xT=>k_is)
    (case eR=>k_is)
    (case gQ=>k_is)
    (case tJ=>k_is)
    (case tX=>k_is)
    (case tU=>k_is)
    (case tV=>k_is)
    (case tM=>k_is)
    (case tS=>first | rfl | k_is)
    (case cD=>k_is)
    (case eU=>k_is)
    (case il=>k_is)
    (case hV=>k_is)
    (case eG=>k_is)
    (case eF=>exact ⟨_,_,_,_,_,_,_,Y,Y,Y,Y,Y,Y,by decide⟩)
    (case gC=>kernel_rfl)
    (case gu=>decide)
    (case gI=>k_is)
    (case fQ=>k_is)
    (case f8=>k_is)
    (case fV=>k_is)
    (case fU=>k_is)
    (case fM=>k_is)
    (case ik=>k_is)
    (case fJ=>k_is)
    (case f7=>k_is)
    (case fC=>k_is)
    (case fE=>k_is)
    (case fH=>k_is)
    (case oz=>k_is)
    (case jh=>k_is)
    (case iV=>k_is)
    (case jX=>k_is)
    (case lK=>k_is)
    (case mE=>k_is)
    (case mL=>k_is)
    (case mr=>k_is)
    (case cV=>k_is)
    (case cX=>k_is)
    (case cO=>k_is)
    (case cS=>k_is)
    (case cP=>k_is)
    (case di=>k_is)
    (case de=>k_is)
    (case dh=>k_is)
    (case dc=>k_is)
    (case dg=>k_is)
    (case oi=>k_is)
    (case pB=>k_is)
    (case oK=>k_is)
    (case oY=>k_is)
    (case p9=>k_is)
    (case qp=>k_is)
    (case ql=>k_is)
    (case pN=>k_is)
    (case rC=>k_is)
    (case a_law=>k_is)
    (case l_law=>k_is)
    (case c_law=>k_is)
    (case k_law=>k_is)
    (case uu=>k_is)
    (case ut=>k_is)
    (case vA=>first | exact ⟨⟨_,_,rfl,rfl⟩,⟨_,_,rfl,rfl⟩,⟨_,_,rfl,rfl⟩,⟨_,_,rfl,rfl⟩,trivial⟩ | (k_is;exact ⟨⟨_,_,rfl,rfl⟩,⟨_,_,rfl,rfl⟩,⟨_,_,rfl,rfl⟩,⟨_,_,rfl,rfl⟩,trivial⟩))
    (case uI=>exact .cons ⟨_,Y,Y⟩ (.cons ⟨_,Y,Y⟩ (.cons ⟨_,Y,Y⟩ (.cons ⟨_,Y,Y⟩ (.nil)))))
    (case vH=>first | rfl | decide)
    (case yi=>k_is)
    (case zt=>k_is)
    (case zm=>first | exact ⟨⟨_,_,rfl,rfl⟩,⟨_,_,rfl,rfl⟩,trivial⟩ | (k_is;exact ⟨⟨_,_,rfl,rfl⟩,⟨_,_,rfl,rfl⟩,trivial⟩))
    (case zO=>exact .cons ⟨_,Y,Y⟩ (.cons ⟨_,Y,Y⟩ (.nil)))
    (case xY=>first | rfl | decide)
    (case z_k_STEPS=>k_is)
    (case uk=>k_is)
    (case vE=>exact ⟨Y,Y,by decide,.cons rfl (.cons rfl (.cons rfl (.nil)))⟩)
    (case kt_STEPS_0=>k_is)
    (case ku_STEPS_0=>exact ⟨Y,Y,by decide,.cons ⟨_,Y⟩ (.cons ⟨_,Y⟩ (.cons ⟨_,Y⟩ .nil))⟩)
    (case kt_STEPS_1=>k_is)
    (case ku_STEPS_1=>exact ⟨Y,Y,by decide,.cons ⟨_,Y⟩ (.cons ⟨_,Y⟩ (.cons ⟨_,Y⟩ .nil))⟩)
    (case kt_STEPS_2=>k_is)
    (case ku_STEPS_2=>exact ⟨Y,Y,by decide,.cons ⟨_,Y⟩ (.cons ⟨_,Y⟩ (.cons ⟨_,Y⟩ .nil))⟩)
#print axioms PySem.Challenge.cw_tintroads_k22_whole_links_holds
