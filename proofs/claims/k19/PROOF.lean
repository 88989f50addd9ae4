import PyProof.Rows.All
import Wide.All
import OpenK.AllK
import Wide.FinOn
import Lean
import PyProof.EqAt
import PyProof.EqKinds
import PyProof.TupleCall
import KE.KTryMore
import PyProof.ExcAttrAll.ValueError
import PyProof.NsDelKeeps
import KE.KDictOf
import KE.KPairComp
import KE.KSortKey
import KE.KLam
import KE.KRevSl
import PyProof.ListRange
import KE.KSortTup
import KE.KDictSum
import PySem.Challenge.RW_tintroads_k19_whole_profiles
open PySem.W renaming Frag->Ia,nsIn->Iw,fnOf->IH,findIn->IQ,keepIn->IU,mg_none_of->I9,codeIn->I_,mg_of->Jr,emptyDict->J6,isFn->Ky,instObj->KQ,cellsFrom_some->Ln,kla_obj->LB,plainGet->LQ,callWith_K->Mm,mroIn->Mn,subIn->Mo,hasDictIn->MF,specialIn->MG,kitOne->ML,methodCall_KW->MP,makesIn->Nd,plainGet_of->Nf,takesIn->Ng,CodeHd->NJ,lookIn->NK,typeIn->NL,methodObj->NY,plainOver->NZ,OpenLaw->OL,isClsIn->OM,takerIn->ON,kitAny->O9,kla_fn->O_,callWith_KW->Pw,kitx_dict->Qe,kitx_list->Qf,handedIn->QD,KeysLit->QK,tabObj->QQ
open PySem renaming wpAny_bind->Ib,wpAny_pure->Ig,Value->Ih,mainGlobals->Ik,Shared->Im,Addr->Iv,wpAny->IB,sizeLine->II,Program->IN,starEach->IR,model->IT,PyData->IV,World->Jm,bootBuiltins->Jn,wpAny_setState_of->Jv,wpAny_callSpecial?_slot->Jy,Around->JA,wpAny_newObj_type->JB,bindArgs->JD,wpAny_setField_rec->JE,wpAny_mono->JG,wpAny_call_entry->JH,sizeLine_eq->JK,FuncData->JS,wpAny_Call_Name_kw->JT,wpAny_holding->JZ,wpAny_field->J5,foldedSetIterable->J',DictEntry->J_,Stmt->Ke,compareOp->Kf,sysModules->Kg,Heap->Kl,mem_of_lookup->Kq,keywordEach->Kt,wpAny_truthy_bool->Ku,wpAny_seqItems->Kw,wpAny_typeNameOfWhole_itemiter->KA,Expr->KI,wpAny_dictEntries->KN,wpAny_pyIter_list->KO,codeAny_builtin->KR,assignEach->KZ,wpAny_standAt->K4,wpAny_setField->K6,wpAny_typeNameOf_itemiter->K7,wpAny_passesOwn->Le,codeAny_mono->Lf,Builtin->Lg,intKind->Lh,rawInt->Ll,wpAny_pyIter_tuple->Lu,tupleKind->LD,NameKind->LG,SetTable->LJ,backToKw->LK,firstArgMember->LO,wpAny_askSetting->LS,wpAny_isInstance->LU,codeAny->L5,eval->L6,wpAny_comprehension_free->Md,wpAny_rule->Me,Comprehension->Mf,cellsFrom->Mp,letOwnedTupleGo->Mq,wpAny_attempt->Mr,backTo->Mw,wpAny_isOneOf_itemiter->Mx,IsItemIter->MB,builtinsNs->MI,sliceBounds->MK,codeAmong->MQ,pyNext->MR,Scope->MT,wpAny_loadName_local->MV,wpAny_updateSeq_pair->MW,binaryOp->M2,wpAny_call->M4,pickOrder->Nl,wpAny_execs_nil->Nm,wpAny_specialOf->Nn,compEnvC->Nz,Keyword->ND,newFunctionEnv->NM,wpAny_binaryOp_repeat_ref->NN,wpAny_fieldsOf->NO,Paired->NW,call_meets->N4,swapsWith->N5,wpAny_pyIter_slot->N6,attributeBase->Of,behindInMarks->Og,plainId_quiet->Oh,wpAny_letGo->Oi,wpAny_onRaise->Oj,IsPair->Ol,wpAny_pyNext_list_item->Oz,codeAny_of_tree->OQ,pushCells_keeps->OR,size_of_entries->OS,standAt->OT,wpAny_dictEpoch->OU,setEntries->OV,typeIs_int->OW,wpAny_Name->OX,isSubtype_stop->Pb,wpAny_newTuple->Pe,wpAny_runValue->Pf,BindsTo->Pj,setNext->Py,wpAny_of_eq->Pz,IsItemIterOut->PJ,TriplesOk->PU,assignInOrder->PV,pyIter->PX,rangeSize_one->PY,relayAll->PZ,seqItems?->P0,wpAny_handled->P2,wpAny_newList->P3,isInstance->Qj,valueAt->Ql,Within->Qw,seqSlot_of->QE,callerA->QM,getItem->QN,IsZip->QP,call->QT
open PySem.Heap renaming get?_push_of_some->Ic,get?_push_size->Io,lt_size->Ip,size_push->Jt,SameBut->Jw,get?_update_self->Jx,get?_update_other->JU,ExtBut->N_,IsTuple->OB,get?_none_of_le->O1,IsList->Pp
open Option.some renaming inj->Ie,injEq->Qd
open List renaming mem_singleton->Ii,length_map->Ij,mem_cons_of_mem->Iq,getElem?_eq_some_iff->Iu,getElem?_map->Ix,mem_cons->Iy,replicate->Iz,mem_append_right->IC,getElem?_eq_getElem->ID,size_toArray->IE,map_cons->IF,mem_cons_self->IJ,length_append->IL,mem_of_getElem?->IM,not_mem_nil->IW,length_take->IZ,mem_append->Jb,take_of_length_le->Jc,getElem?_zip_eq_some->Jk,length_cons->Jo,mem_map->Js,getLast?_eq_getElem?->Jz,map_append->JM,nodup_cons->JW,getElem_of_mem->J4,pairwise_cons->Kb,all_eq_true->Kh,lookup_cons->Ki,getElem?_append_right->Kk,range->Ko,replicate_succ->Kp,getElem?_append_left->Kv,getElem_mem->KE,mem_append_left->KG,mem_range->KJ,find?_cons->KP,length_drop->KW,map_nil->K1,mem_of_getLast?->K8,append_assoc->Lc,of_mem_zip->Ld,take_length->Li,mem_filterMap->Lq,flatten_cons->LF,filterMap_cons->LX,map_map->L_,zipWith->Ma,getElem?_replicate->Ml,zipWith_cons_cons->Mt,lookup->MC,zipWith_nil_left->MN,getElem?_zipWith_eq_some->MS,all_cons->M0,sum_cons->M1,append_nil->M8,flatMap_append->M',length_nil->M_,length_zip->Na,range_succ->Nb,getD_eq_getElem?_getD->Nq,length_eraseIdx_of_lt->Nr,getElem?_take->Nt,map_replicate->Nu,getElem?_eq_none_iff->NF,nodup_nil->NG,pairwise_iff_getElem->NH,foldl_append->NU,take_sublist->NV,cons_append->Om,mem_flatMap->On,getElem?_set_self->Ov,pairwise_lt_range->Ow,eq_replicate_iff->OF,forIn_cons->OG,length_replicate->OH,length_set->OI,sum_nil->OJ,getElem?_set_ne->O2,pairwise_append->O3,forIn_nil->O7,length->Pr,length_pos_iff->Ps,any_cons->PL,find?_toArray->PM,drop_sublist->P8,ext_getElem?->P9,getElem_drop->P',getElem_take->P_,length_range->Qa,nodup_append->Qb,all_nil->Qr,Nodup->QR,foldl->QS
open Nat renaming le_refl->Il,lt_of_lt_of_le->IA,ne_of_lt->IK,le_trans->IS,lt_irrefl->Ji,zero_le->Jj,not_lt->JV,lt_succ_self->JY,le_of_lt->Kj,ne_of_gt->Kx,zero_add->KL,pow_le_pow_right->K9,le_add_right->Lj,le_of_succ_le->LH,lt_succ_of_lt->LI,lt_two_pow_self->LY,succ_mul->Mb,le_succ->Nc,lt_of_le_of_lt->Nv,mul_le_mul->NI,le_mul_of_pos_right->Oa,eq_of_beq_eq_true->OK,mul_le_mul_right->O4,pow_le_pow_left->Pu,add_zero->Qs,mul_comm->Qt,pow_succ->Qu,beq->QI
open Option renaming map_eq_some_iff->IG,isSome_iff_exists->KC,isSome_some->PN,getD_none->QC,map_some->QJ
open Rat renaming intCast_mul->IP,intCast_sub->Jg,le_of_mul_le_mul_right->LL,den_intCast->Nh,intCast_add->Ni,mul_lt_mul_of_pos_right->Nj,num_intCast->Nk,div_mul_cancel->Nw,intCast_nonneg->Nx,le_refl->Oe,intCast_le_intCast->Ox,le_trans->OO,div_def->Px,le_of_lt->Qx
open PySem.Value renaming ref->IX,none->J7,type->Kr,isStrOf->K3,int->Lk,bool->M3,isInt_shape->N1,str->N2,float->QL
open Int renaming toNat_natCast->Ja,mul_ne_zero->Jf,fdiv_eq_ediv_of_nonneg->JF,gcd->JQ,emod_lt_of_pos->KB,mul_nonneg->K5,emod_nonneg->K',mul_fdiv_cancel_left->K_,gcd_pos_of_ne_zero_right->Lp,toNat->LA,mul_comm->L8,zero_add->L',eq_ofNat_of_zero_le->Mi,mul_assoc->Mj,eq_of_mul_eq_mul_left->NB,natAbs_mul->NC,mul_left_comm->NS,ediv_nonneg->OC,le_of_lt->OD,natAbs_dvd_natAbs->OE,le_refl->Pq,gcd_zero_right->PH,gcd_comm->Qp,zero_sub->Qq,mul_neg->QH
open PySem.Builtin.SmallTypes renaming nextOf->Je,ownedTupleIsFree->J2,ownedTupleHandOut->LN
open PySem.SetTable renaming below->Jl,grown->Lm,insertAt->N0,advance->QF
open PySem.Heap.SameBut renaming update->Jp,refl->MA
open PySem.PassesOwn renaming never->Jq
open Bool renaming and_eq_true->Ju,false_ne_true->JC,false_eq_true->JR,beq_eq_decide_eq->Lw,false_and->LM,and_true->MX,true_and->N7,and_false->O6
open Array renaming getElem_toList->JI,length_toList->JL,getElem?_toList->Lv,toArray_toList->OY,toList_append->Ph,getD->P4,toList_push->P5
open PySem.Obj renaming data_mapFields->JJ,mapSeq->KY,isFreed_of_fields->K2,cls_mapFields->MD,data_mapDictKeys->O5,putSet->Qc
open PySem.NameKind renaming cell->JN,free->JO
open PySem.F renaming slot_dict_itemiterator_next->JX,slot_list_append->Ka,plainAttrs_list->Kd,type_list_append->KD,slot_tuple_iterator_next->KU,called_set->Ly,slot_int_rmul->Mh,slot_tuple_mul->Mu,args_dict_itemiterator_next_1->Mz,entry_dict_itemiterator_next->MM,args_tuple_iterator_next_1->MZ,entry_tuple_iterator_next->M6,slot_zip_next->M7,plain_list_iadd->NR,slot_list_insert->NX,slot_dict_items->Oc,slot_tuple_rmul->Od,slot_dict_items_iter->Ou,args_int_rmul_2->O0,entry_int_rmul->Pm,slot_int_index->Po,fills_int_mul->PF
open PyProof.Rows renaming callWith_type1->Kc,IntsAre->Lb,seqObj->Mc,callWith_builtin1->MO,assignInOrder_cons->Ny,envOfC->Oq,subscriptTail_builtinR->Oy,AllBare->Pg,subscriptTail->P1,Subscript_->Qh,sortedHeap->Qk
open False renaming elim->Km
open PySem.Str renaming ofString->Kz
open PySem.Around renaming under_plainId->KF,under->Qm
open Ne renaming symm->KH
open PySem.PyData renaming int->KM,bool->LZ,eqv->ME,eqvAll->Ob
open PySem.Builtin.Dict_items renaming ownsTuple->Lo,ownedTupleFields->LV,ownedTupleIsFree->LW,pairFromOwner->Ms,newIterator->Qn,dictOf->QO
open PySem.Builtin.List renaming listExtendWith->Lx,listTooLong->L7,listLengthHint->M5,listFitsIndex->No,listSameRef->NQ
open ForInStep renaming yield->Lz
open PySem.Shared renaming heap->L0,TypeIs->PR
open PyProof.Rows.F renaming plain_set_update_loop->Mg,entry_set_update_loop->N9
open PySem.SetTable.below renaming go->MH
open Sum renaming inl->MU,inr->Qi
open PySem.Builtin.Dict renaming entriesForEmpty->MY,updateFrom->N8,mergeDict->Os,showsAll->OA,quietEq->OZ
open PySem.Calls renaming Name_function_global->Np,call_function_entry->NA,callWith_builtin->Ot,spliced_cons->PC,spliced_nil->P6
open List.Perm renaming refl->NE
open PySem.Builtin.Frozenset renaming sizeOf->NP
open List.Pairwise renaming nil->NT
open PySem.SeqAt renaming shaped->OP
open Or renaming inr->O8,inl->Qv
open PySem.Builtin.Int renaming intBits->Pk
open PySem.Code renaming quiet_builtin->PD,isFrame->Qo
open PySem.Paired renaming length->PP
open PySem.ScopeKind renaming function->PQ
open PySem.Heap.IsTuple renaming push->P7
open PySem.SetTable.probe renaming go->Qg
open PySem.pickOrder renaming go->Qy
open PySem.Heap.IsList renaming push->Qz
open PySem.IntMulOk renaming of_bits->QA,of_left->QB
open And renaming intro->QG
abbrev Ir:=@decide_eq_true
abbrev IY:=@if_neg
abbrev Jd:=@decide_eq_false
abbrev Jh:=@if_pos
abbrev JP:=@of_decide_eq_true
abbrev Ks:=@beq_eq_false_iff_ne
abbrev KS:=@or_false
abbrev K0:=@beq_iff_eq
abbrev Lr:=@congrArg
abbrev Ls:=@of_decide_eq_false
abbrev LC:=@if_true
abbrev LR:=@if_false
abbrev MJ:=@decide_eq_true_eq
abbrev N3:=@bne_self_eq_false
abbrev Oo:=@beq_self_eq_true
abbrev Op:=@decide_eq_decide
set_option autoImplicit true
set_option relaxedAutoImplicit true
set_option Elab.async false
set_option linter.all false
set_option maxRecDepth 100000
namespace L2
open PySem PySem.Spec PyProof.Rows
abbrev Key:=Sum Int Str
def wO:Key->Ih->Bool
 |.inl k,v=>Value.isInt k v
 |.inr x,v=>K3 x v
def HU (w:Jm):Key->Int
 |.inl k=>hashInt k
 |.inr x=>hashStr w x
theorem cC:∀ {k:Key}{v:Ih},wO k v=true->(∃ i t,k=MU i/\v=Lk i t)\/(∃ x t,k=Qi x/\v=N2 x t)
 |.inl i,v,h=>by
  obtain⟨t,e⟩:=N1 (k:=i) (v:=v) h;exact .inl ⟨i,t,rfl,e⟩
 |.inr x,v,h=>by
  obtain⟨t,e⟩:=Value.isStrOf_shape (x:=x) (v:=v) h;exact .inr ⟨x,t,rfl,e⟩
theorem Ab (i:Int)(t:Tok):wO (.inl i) (.int i t)=true:=by simp[wO,Value.isInt]
theorem yN (x:Str)(t:Tok):wO (.inr x) (.str x t)=true:=by simp[wO,K3]
theorem E9 (a b:Int):decide ((MU a:Key)=MU b)=(a==b):=by
 by_cases e:a=b
 ·subst e;simp
 ·have h:¬ (MU a:Key)=MU b:=λq=>e (Sum.inl.inj q)
  rw[Jd h];exact(Ks.mpr e).symm
theorem Fb (a b:Str):decide ((Qi a:Key)=Qi b)=decide (a=b):=by
 by_cases e:a=b
 ·subst e;simp
 ·have h:¬ (Qi a:Key)=Qi b:=λq=>e (Sum.inr.inj q)
  rw[Jd h,Jd e]
theorem EA (a:Int)(b:Str):decide ((MU a:Key)=Qi b)=false:=Jd (λq=>nomatch q)
theorem Fs (a:Str)(b:Int):decide ((Qi a:Key)=MU b)=false:=Jd (λq=>nomatch q)
def ck (prog:IN)(w:Jm):PySem.KeyKind prog w Key where
 is:=wO
 hash:=HU w
 inj:=λv a b ha hb=>by
  rcases cC ha with ⟨i,t,rfl,rfl⟩|⟨x,t,rfl,rfl⟩
  ·rcases cC hb with ⟨j,u,rfl,e⟩|⟨y,u,rfl,e⟩
   ·injection e with e1 _;rw[e1]
   ·exact nomatch e
  ·rcases cC hb with ⟨j,u,rfl,e⟩|⟨y,u,rfl,e⟩
   ·exact nomatch e
   ·injection e with e1 _;rw[e1]
 byValue:=λk v h=>by
  rcases cC h with ⟨i,t,rfl,rfl⟩|⟨x,t,rfl,rfl⟩<;>rfl
 pyHash:=λhv h=>by
  rcases cC hv with ⟨i,t,rfl,rfl⟩|⟨x,t,rfl,rfl⟩
  ·exact wpAny_pyHash_int h
  ·exact wpAny_pyHash_str h
 eqBool:=λhu hv h=>by
  rcases cC hu with ⟨i,t,rfl,rfl⟩|⟨x,t,rfl,rfl⟩
  ·rcases cC hv with ⟨j,u,rfl,rfl⟩|⟨y,u,rfl,rfl⟩
   ·rw[E9] at h;exact wpAny_eqBool_int h
   ·rw[EA] at h;exact SeqAt.EqAt.int_str i t y u _ _ _ _ h
  ·rcases cC hv with ⟨j,u,rfl,rfl⟩|⟨y,u,rfl,rfl⟩
   ·rw[Fs] at h;exact SeqAt.EqAt.str_int x t j u _ _ _ _ h
   ·rw[Fb] at h;exact wpAny_eqBool_str h
 «strs»:=λk x t v h=>by
  rcases cC h with ⟨i,u,rfl,e⟩|⟨y,u,rfl,e⟩
  ·exact nomatch e
  ·injection e with e1 _
   subst e1;cases v<;>rfl
theorem uw (prog:IN)(w:Jm)(i:Int)(t:Tok):(ck prog w).is (.inl i) (.int i t)=true:=Ab i t
theorem uc (prog:IN)(w:Jm)(x:Str)(t:Tok):(ck prog w).is (.inr x) (.str x t)=true:=yN x t
inductive V where
 |non|bl (b:Bool)|int (i:Int)|str (x:Str)|byt (b:Array UInt8)|flt (b:UInt64)|ref (a:Iv)|ty (n:String)
 deriving DecidableEq
def c9:V->Ih->Prop
 |.non,u=>u=J7
 |.bl b,u=>u=M3 b
 |.int i,u=>∃ t,u=Lk i t
 |.str x,u=>∃ t,u=N2 x t
 |.byt b,u=>∃ t,u=Value.bytes b t
 |.flt b,u=>∃ t,u=QL b t
 |.ref a,u=>u=IX a
 |.ty n,u=>u=Kr n
abbrev bD:List V->List Ih->Prop:=NW c9
theorem bD.length (r:bD xs us):xs.length=us.length:=PP r
theorem bD.get:∀ {xs:List V}{us:List Ih}{i:Nat}{x:V},bD xs us->xs[i]?=some x->∃ u,us[i]?=some u/\c9 x u
 |_,_,_,_,.nil,e=>by simp at e
 |_,_,0,_,.cons r _,e=>by simp at e;subst e;exact⟨_,rfl,r⟩
 |_,_,i+1,x,.cons _ t,e=>by
  obtain⟨u,h1,h2⟩:=bD.get (i:=i) (x:=x) t (by simpa using e);exact⟨u,by simpa using h1,h2⟩
theorem bD.set (r:c9 x u):∀ {xs:List V}{us:List Ih} (i:Nat),bD xs us->bD (xs.set i x) (us.set i u)
 |_,_,_,.nil=>.nil
 |_,_,0,.cons _ t=>.cons r t
 |_,_,i+1,.cons q t=>.cons q (bD.set r i t)
theorem bD.append:∀ {xs ys:List V}{us ws:List Ih},bD xs us->bD ys ws->bD (xs++ys) (us++ws)
 |_,_,_,_,.nil,s=>s
 |_,_,_,_,.cons r t,s=>.cons r (bD.append t s)
theorem bD.take:∀ {xs:List V}{us:List Ih} (n:Nat),bD xs us->bD (xs.take n) (us.take n)
 |_,_,0,_=>.nil
 |_,_,_+1,.nil=>.nil
 |_,_,n+1,.cons r t=>.cons r (bD.take n t)
theorem bD.drop:∀ {xs:List V}{us:List Ih} (n:Nat),bD xs us->bD (xs.drop n) (us.drop n)
 |_,_,0,r=>r
 |_,_,_+1,.nil=>.nil
 |_,_,n+1,.cons _ t=>bD.drop n t
def t_:Option V->Option Ih->Prop
 |some v,some u=>c9 v u
 |none,none=>True
 |_,_=>False
def KV {κ:Type}:List (κ×V)->List (κ×Ih)->Prop:=NW λ(p:κ×V) (q:κ×Ih)=>p.1=q.1/\c9 p.2 q.2
def kV:Key->V
 |.inl i=>.int i
 |.inr x=>.str x
inductive HO where
  |lst (xs:List V)
  |tup (xs:List V)
  |dK (kvs:List (Key×V))|dT (kvs:List (List Key×V))
  |set (S:Int->Bool) (n:Nat)
  |ins (C dx:Iv) (fs:List (Str×V))
  |own (x:Iv)
  |xd (fs:List (Str×V))
  |met (f x:Iv)
  |rng (lo hi:Int)
  |frz (o:Obj) (u:HO)
  |tbl (ps:Array Ih)
  |ext (φ:Kl->Prop)
abbrev Hp:=Iv->Option HO
def upd (H:Hp)(a:Iv)(o:HO):Hp:=λb=>if b=a then some o else H b
theorem ac:upd H a o a=some o:=by unfold upd;rw[Jh rfl]
theorem ao (h:b≠a):upd H a o b=H b:=by unfold upd;rw[IY h]
theorem C4:upd (upd H a o) a u=upd H a u:=by
 funext b;unfold upd;split<;>rfl
theorem FB {H:Hp}{a b:Iv}{o u:HO}(h:H a=some o)(h':H b=some u)(d:o≠u):a≠b:=by
 intro e;subst e;rw[h] at h';exact d (Ie h')
theorem aB {H:Hp}{a b:Iv}{o:HO}(h:H a=some o)(h':H b=none):a≠b:=by
 intro e;subst e;rw[h] at h';cases h'
section
variable (P:IN)(w:Jm)
def cF (H:Hp)(h:Kl)(a:Iv):HO->Prop
 |.lst xs=>xs.length<=II/\∃ (its:List Ih) (n:Nat),bD xs its/\h.get? a=some { cls:=.type "list",data:=.seq its.toArray n }
 |.tup xs=>xs.length<=II/\∃ its:List Ih,bD xs its/\IsTup h a its.toArray
 |.dK kvs=>kvs.length<=II/\(a==Kg)=false/\∃ vs,KV kvs vs/\h.DictOf (ck P w) a vs
 | .dT kvs=>kvs.length <= II/\(a == Kg)=false/\∃ xs:List (List Key × Iv × Ih),
   NW (λ(p:List Key×V) (q:List Key×Iv×Ih)=>p.1=q.1/\H q.2.1=some (.tup (p.1.map kV))/\c9 p.2 q.2.2) kvs xs /\
   ∃ o es ep,h.get? a=some o/\o.ExactDict/\o.data=.dict es ep/\es.toList=xs.map (entryOfKey (LD (ck P w)))/\(xs.map (·.1)).Nodup
 |.set S n=>h.SetOf (Lh P w) a S n
 | .ins C dx fs=>H dx=some (.own a)/\fs.length <= 1000/\dx ≠ a/\h.get? a=some (KQ C dx) /\
   ∃ mA,h.Ns1 dx mA/\(∀ f,t_ (fs.lookup f) (mA f))/\Qw mA (fs.map (·.1))
 |.own _=>∃ o,h.get? a=some o
 |.xd fs=>∃ mA,h.Ns1 a mA/\∀ f,t_ (fs.lookup f) (mA f)
 |.rng lo hi=>∃ t u v,h.get? a=some { cls:=.type "range",data:=.fields #[.int lo t,.int hi u,.int 1 v] }
 |.frz o u=>h.get? a=some o/\cF H h a u
 |.tbl qs=>∃ ps:Array Ih,h.get? a=some { cls:=.none,data:=.fields ps }/\PU ps.toList/\∃ (q:Str) (t:Nat),qs[0]?=some (.str q t)/\∀ pos cv,MQ pos ps.toList=some cv->∃ c o vs t',cv=.ref c/\H c=some (.own a)/\h.get? c=some o/\o.data=.fields vs/\vs[1]?=some (.str q t')
 |.met f x=>h.get? a=some (NY (.ref f) (.ref x))
 |.ext φ=>φ h/\(∃ o,h.get? a=some o)/\∀ h1 h2:Kl,φ h1->(∀ o,h1.get? a=some o->h2.get? a=some o)->φ h2
def HOk (H:Hp)(h:Kl):Prop:=∀ a o,H a=some o->cF P w H h a o
end
section
variable {P:IN}{w:Jm}{H H':Hp}{h h':Kl}{a:Iv}{o:HO}
theorem cF.lt (x:cF P w H h a o):a<h.objs.size:=by
 cases o with
 |lst xs=>obtain⟨_,_,_,_,e⟩:=x;exact Ip e
 |tup xs=>obtain⟨_,_,_,p⟩:=x;exact p.lt
 |dK kvs=>obtain⟨_,_,_,_,o,_,_,e,_⟩:=x;exact Ip e
 |dT kvs=>obtain⟨_,_,_,_,o,_,_,e,_⟩:=x;exact Ip e
 |set S n=>obtain⟨o,_,_,_,e,_⟩:=x;exact Ip e
 |ins C dx fs=>obtain⟨_,_,_,e,_⟩:=x;exact Ip e
 |own y=>obtain⟨_,e⟩:=x;exact Ip e
 |xd fs=>obtain⟨_,⟨_,_,_,e,_⟩,_⟩:=x;exact Ip e
 |rng lo hi=>obtain⟨_,_,_,e⟩:=x;exact Ip e
 |frz ob u=>obtain⟨e,_⟩:=x;exact Ip e
 |tbl qs=>obtain⟨_,e,_⟩:=x;exact Ip e
 |met f y=>exact Ip (show h.get? a=some _ from x)
 |ext φ=>obtain⟨_,⟨_,e⟩,_⟩:=x;exact Ip e
theorem Paired.mapP:∀ {l₁:List α}{l₂:List β},NW F l₁ l₂->(∀ a b,F a b->G a b)->NW G l₁ l₂
 |_,_,.nil,_=>.nil
 |_,_,.cons r t,f=>.cons (f _ _ r) (Paired.mapP t f)
theorem cF.stay (x:cF P w H h a o) (k:∀ b u,(b=a\/H b=some (.own a))->h.get? b=some u->h'.get? b=some u)
  (ho:∀ b,H b=some (.own a)->H' b=some (.own a))(ht:∀ b xs,H b=some (.tup xs)->H' b=some (.tup xs)):cF P w H' h' a o:=by
 induction o with
 |lst xs=>obtain⟨z,its,n,r,e⟩:=x;exact⟨z,its,n,r,k _ _ (.inl rfl) e⟩
 |tup xs=>obtain⟨z,its,r,ob,e,c⟩:=x;exact⟨z,its,r,ob,k _ _ (.inl rfl) e,c⟩
 |dK kvs=>obtain⟨z,y,vs,r,ob,es,ep,e,c⟩:=x;exact⟨z,y,vs,r,ob,es,ep,k _ _ (.inl rfl) e,c⟩
 |dT kvs=>
  obtain⟨z,y,xs,r,ob,es,ep,e,c⟩:=x;exact⟨z,y,xs,Paired.mapP r λp q z=>⟨z.1,ht _ _ z.2.1,z.2.2⟩,ob,es,ep,k _ _ (.inl rfl) e,c⟩
 |set S n=>obtain⟨ob,es,ep,t,e,c⟩:=x;exact⟨ob,es,ep,t,k _ _ (.inl rfl) e,c⟩
 |ins C dx fs=>
  obtain⟨d,z,ne,e,mA,⟨od,es,ep,e2,c⟩,r⟩:=x;exact⟨ho _ d,z,ne,k _ _ (.inl rfl) e,mA,⟨od,es,ep,k _ _ (.inr d) e2,c⟩,r⟩
 |own y=>obtain⟨ob,e⟩:=x;exact⟨ob,k _ _ (.inl rfl) e⟩
 |xd fs=>obtain⟨mA,⟨od,es,ep,e,c⟩,r⟩:=x;exact⟨mA,⟨od,es,ep,k _ _ (.inl rfl) e,c⟩,r⟩
 |rng lo hi=>obtain⟨t,u,v,e⟩:=x;exact⟨t,u,v,k _ _ (.inl rfl) e⟩
 |frz ob u ih=>obtain⟨e,q⟩:=x;exact⟨k _ _ (.inl rfl) e,ih q⟩
 |tbl qs=>
  obtain⟨ps,e,tr,q,tq,e0,f⟩:=x;refine⟨ps,k _ _ (.inl rfl) e,tr,q,tq,e0,λpos cv z=>?_⟩;obtain⟨c,oc,vs,tc,z1,z2,z3,z4⟩:=f pos cv z;exact⟨c,oc,vs,tc,z1,ho _ z2,k _ _ (.inr z2) z3,z4⟩
 |met f y=>
  have e:h.get? a=some (NY (.ref f) (.ref y)):=x;show h'.get? a=some (NY (.ref f) (.ref y));exact k a _ (.inl rfl) e
 |ext φ=>obtain⟨p,⟨o,e⟩,st⟩:=x;exact⟨st _ _ p λo q=>k _ _ (.inl rfl) q,⟨o,k _ _ (.inl rfl) e⟩,st⟩
theorem HOk.lt (x:HOk P w H h)(e:H a=some o):a<h.objs.size:=(x a o e).lt
theorem HOk.fresh (x:HOk P w H h)(e:h.objs.size<=a):H a=none:=by
 cases q:H a with
 |none=>rfl
 |some u=>exact absurd (IA (x.lt q) e) (Ji _)
theorem HOk.kept (x:HOk P w H h)(k:∀ b u,h.get? b=some u->h'.get? b=some u):HOk P w H h':=λa o e=>
 (x a o e).stay (λb u _ q=>k b u q) (λ_ q=>q) λ_ _ q=>q
theorem HOk.laid (x:HOk P w H h)(k:∀ b u,h.get? b=some u->h'.get? b=some u)(hp:h.objs.size<=a)(new:cF P w (upd H a o) h' a o):HOk P w (upd H a o) h':=λb u e=>by
 have hn:=x.fresh hp
 by_cases hb:b=a
 ·subst hb;rw[ac] at e;cases e;exact new
 ·rw[ao hb] at e;exact(x b u e).stay (λc v _ q=>k c v q) (λc q=>by rw[ao (aB q hn)];exact q) λc xs q=>by rw[ao (aB q hn)];exact q
end
def Rd (H:Hp)(a:Iv)(u:HO):Prop:=H a=some u\/∃ o,H a=some (.frz o u)
theorem Rd.ok (r:Rd H a u)(x:HOk P w H h):cF P w H h a u:=by
 rcases r with r|⟨o,r⟩
 ·exact x a u r
 ·obtain⟨_,q⟩:=x a _ r;exact q
def Mut:Option HO->Prop
 |some (.lst _)=>True
 |some (.dK _)=>True
 |some (.dT _)=>True
 |some (.set _ _)=>True
 |some (.ins _ _ _)=>True
 |some (.ext _)=>True
 |_=>False
section
variable {P:IN}{w:Jm}{H:Hp}{h h':Kl}{x e:Iv}{o':HO}
theorem HOk.write (ok:HOk P w H h) (mu:Mut (H x)) (he:e=x\/H e=some (.own x)) (k:∀ b u,b ≠ e->h.get? b=some u->h'.get? b=some u) (heo:∃ u,h'.get? e=some u)
  (new:cF P w (upd H x o') h' x o'):HOk P w (upd H x o') h':=λb u q=>by
 have nown:∀ c y,H c=some (.own y)->c≠x:=λc y r z=>by subst z;rw[r] at mu;exact mu
 have ntup:∀ c xs,H c=some (.tup xs)->c≠x:=λc xs r z=>by subst z;rw[r] at mu;exact mu
 by_cases hb:b=x
 ·subst hb;rw[ac] at q;cases q;exact new
 ·rw[ao hb] at q
  by_cases hbe:b=e
  ·have q':H b=some (.own x):=by
    rcases he with z|z
    ·exact absurd (hbe.trans z) hb
    ·rw[hbe];exact z
   rw[q] at q';cases q';obtain⟨v,hv⟩:=heo;exact⟨v,by rw[hbe];exact hv⟩
  ·refine(ok b u q).stay (λc v hc r=>k c v ?_ r) (λc r=>by rw[ao (nown c b r)];exact r) λc xs r=>by rw[ao (ntup c xs r)];exact r
   rcases hc with rfl|hc
   ·exact hbe
   ·rintro rfl;rcases he with z|z
    ·exact nown c b hc z
    ·rw[hc] at z;cases z;exact hb rfl
end
structure Un (fs ex:List Iv)(H H':Hp)(h h':Kl):Prop where
 keep:∀ b o,h.get? b=some o->H b=none->b∉fs->b∉ex->h'.get? b=some o
 slot:∀ b o,h.get? b=some o->H b=none->b∈fs->b∉ex->∃ sl,h'.get? b=some { o with slots:=sl }
 free:∀ b o,h.get? b=some o->H b=none->b∉ex->H' b=none
 there:∀ b o,h.get? b=some o->b∉ex->∃ o',h'.get? b=some o'
 tups:∀ b xs,H b=some (.tup xs)->H' b=some (.tup xs)
 frzs:∀ b o u,H b=some (.frz o u)->H' b=some (.frz o u)
 tbls:∀ b ps,H b=some (.tbl ps)->∃ more,H' b=some (.tbl (ps++more))
section
variable {fs fs' ex ex':List Iv}{H H1 H2:Hp}{h h1 h2 h':Kl}{a x e:Iv}{o:HO}
theorem Un.any (u:Un fs ex H H1 h h1)(q:h.get? b=some ob)(n:H b=none)(hx:b∉ex):∃ sl,h1.get? b=some { ob with slots:=sl }:=by
 by_cases hb:b∈fs
 ·exact u.slot b ob q n hb hx
 ·exact⟨ob.slots,u.keep b ob q n hb hx⟩
theorem Un.kept (k:∀ b u,h.get? b=some u->h'.get? b=some u):Un fs ex H H h h':=
 ⟨λb ob q _ _ _=>k b ob q,λb ob q _ _ _=>⟨ob.slots,k b ob q⟩,λ_ _ _ n _=>n,λb ob q _=>⟨ob,k b ob q⟩,λ_ _ q=>q,λ_ _ _ q=>q,λ_ ps q=>⟨#[],by rw[q];simp⟩⟩
theorem Un.refl:Un fs ex H H h h:=Un.kept λ_ _ q=>q
theorem Un.laid (k:∀ b u,h.get? b=some u->h'.get? b=some u)(hp:h.objs.size<=a)(hn:H a=none):Un fs ex H (upd H a o) h h' where
 keep:=λb u q _ _ _=>k b u q
 slot:=λb u q _ _ _=>⟨u.slots,k b u q⟩
 free:=λb u q n _=>by rw[ao (IK (IA (Ip q) hp))];exact n
 there:=λb u q _=>⟨u,k b u q⟩
 tups:=λb xs q=>by rw[ao (aB q hn)];exact q
 frzs:=λb u xs q=>by rw[ao (aB q hn)];exact q
 tbls:=λb ps q=>⟨#[],by rw[ao (aB q hn),q];simp⟩
theorem Un.write (mu:Mut (H x))(he:e=x\/H e=some (.own x))(k:∀ b u,b≠e->h.get? b=some u->h'.get? b=some u)(heo:∃ u,h'.get? e=some u):Un fs ex H (upd H x o) h h':=by
 have hx:∀ b,H b=none->b≠x:=λb n z=>by subst z;rw[n] at mu;exact mu
 have hb:∀ b,H b=none->b≠e:=λb n z=>by
  subst z;rcases he with r|r
  ·exact hx b n r
  ·rw[n] at r;cases r
 have hm:∀ b u,H b=some u->¬ Mut (some u)->b≠x:=λb u q nm z=>by subst z;rw[q] at mu;exact nm mu
 refine⟨λb u q n _ _=>k b u (hb b n) q,λb u q n _ _=>⟨u.slots,k b u (hb b n) q⟩,λb u q n _=>by rw[ao (hx b n)];exact n,λb u q _=>?_,
  λb xs q=>by rw[ao (hm b _ q λz=>z)];exact q,λb u xs q=>by rw[ao (hm b _ q λz=>z)];exact q,λb ps q=>⟨#[],by rw[ao (hm b _ q λz=>z),q];simp⟩⟩
 by_cases hbe:b=e
 ·subst hbe;exact heo
 ·exact⟨u,k b u hbe q⟩
end
def trk (h:Kl)(H:Hp):List Iv:=(Ko h.objs.size).filter λa=>(H a).isSome
def CJ (h:Kl)(H:Hp):Kl:=PySem.W.hideAll h (trk h H)
theorem zn (h:Kl)(H:Hp):(CJ h H).objs.size=h.objs.size:=PySem.W.hideAll_size _ _
theorem qS (e:h.get? b=some o)(n:H b=none):(CJ h H).get? b=some o:=
 PySem.W.hideAll_get _ e λhm=>by
  have q:(H b).isSome=true:=(List.mem_filter.mp hm).2;rw[n] at q;simp at q
theorem Du (e:(CJ h H).get? b=some o):h.get? b=some o/\H b=none:=by
 have e':h.get? b=some o:=PySem.W.of_hideAll (trk h H) e;refine⟨e',?_⟩;cases q:H b with
 |none=>rfl
 |some x=>
  have hm:b∈trk h H:=List.mem_filter.mpr ⟨KJ.mpr (Ip e'),by simp[q]⟩;have z:(CJ h H).get? b=none:=PySem.W.hideAll_none (trk h H) hm;rw[z] at e;cases e
def k7 (g h:Kl)(L:Iv):List (Iv×Obj):=(Ko h.objs.size).filterMap λa=>if a=L\/(g.get? a).isSome=true then none else(h.get? a).map λo=>(a,o)
theorem uK (h1:a≠L)(h2:g.get? a=none)(h3:h.get? a=some o):(a,o)∈k7 g h L:=
 Lq.mpr ⟨a,KJ.mpr (Ip h3),by simp[h1,h2,h3]⟩
theorem oS (hp:p∈k7 g h L):p.1≠L/\g.get? p.1=none/\h.get? p.1=some p.2:=by
 obtain⟨b,_,e⟩:=Lq.mp hp
 split at e
 ·cases e
 ·rename_i hn
  cases q:h.get? b with
  |none=>rw[q] at e;simp at e
  |some u=>
   rw[q] at e;simp only[QJ,Qd] at e;subst e;refine⟨λz=>hn (.inl z),?_,q⟩;show g.get? b=none;cases r:g.get? b with
   |none=>rfl
   |some v=>exact(hn (.inr (by simp[r]))).elim
def lv (g h:Kl)(L d:Iv):List (Iv×Obj):=(k7 g h L).filter λp=>decide (p.1≠d)
theorem AX:News g L h (k7 g h L):=λp hp=>let ⟨a,b,c⟩:=oS hp;⟨c,a,b⟩
structure Mod (K:Ia)(mg:Str->Option Ih)(base:Kl):Prop where
 kin:K.In base
 glob:base.Ns Ik mg
 blt:∃ mb,base.Ns MI mb/\∀ x:Str,x≠"__name__"->mb x=Jn x
 nolimit:base.NoLimit
 bm:∃ bm o,mg "__builtins__"=some (.ref bm)/\bm≠MI/\base.get? bm=some o/\o.cls=.type "module"/\o.dict=some MI/\o.data=.plain
structure Cx where
 prog:IN
 w:Jm
 K:Ia
 mg:Str->Option Ih
 base:Kl
 A:JA
 N:List Str
 s₀:Im
 H₀:Hp
 env:Env
 outer:List Env
 stack:List Env
 ex:List Iv
 fn:Str->Bool
 calm:Bool
 pn:List (Iv×Obj)
 xe:Ih->Im->Prop
def frs (l:List Env):List Iv:=l.filterMap (·.frame)
abbrev Cx.fs (X:Cx):List Iv:=frs X.outer
def Vis (sc:MT)(x:Str):Prop:=sc.names.lookup x=some .local\/sc.names.lookup x=some .cell\/sc.names.lookup x=some .free
def Loc (sc:MT)(x:Str):Prop:=sc.names.lookup x=some .local\/sc.names.lookup x=some .cell
def Hm (env:Env)(h:Kl)(m:Str->Option Ih)(x:Str)(u:Ih):Prop:=
 (env.kindOf x=some .local/\m x=some u)\/((env.kindOf x=some .cell\/env.kindOf x=some .free)/\∃ c,env.cells.lookup x=some c/\h.IsCell c (some u))
structure Cx.Ok (X:Cx):Prop where
 mod:Mod X.K X.mg X.base
 kind:X.env.scope.kind=.function
 glob:X.env.globals=Ik
 blt:X.env.builtins=MI
 above:X.s₀.heap.objs.size<=X.env.locals
 inj:∀ x y c,X.env.cells.lookup x=some c->X.env.cells.lookup y=some c->x=y
 has:∀ x,(X.env.kindOf x=some .cell\/X.env.kindOf x=some .free)->∃ c,X.env.cells.lookup x=some c
 cab:∀ x c,X.fn x=true->X.env.cells.lookup x=some c->X.s₀.heap.objs.size<=c
 hd:X.calm=true->X.A.handled=none
 frames:X.A.frames=some X.stack
 stk:X.stack=X.outer\/(X.stack=X.env::X.outer/\X.env.frame=some X.env.locals)
 exf:∀ b∈X.ex,b≠X.env.locals/\∀ x c,X.env.cells.lookup x=some c->c≠b
 bs:∀ b o,X.base.get? b=some o->X.s₀.heap.get? b=some o/\X.H₀ b=none
 bsz:X.base.objs.size<=X.s₀.heap.objs.size
 noex:∀ b o,X.base.get? b=some o->b∉X.ex
 exfs:∀ b∈X.ex,b∉X.fs
 funs:X.s₀.heap.FunFrames X.base X.outer
 frf:∀ b∈X.fs,X.H₀ b=none
structure Inv (X:Cx)(pins:List (Iv×Obj))(σ:List (Option V))(H:Hp)(s:Im):Prop where
 ok:X.Ok
 os:s.os=X.s₀.os
 bare:Pg s.gens
 base:Un X.fs X.ex X.H₀ H X.s₀.heap s.heap
 loc:∃ m,s.heap.Ns X.env.locals m/\∀ (i:Nat) (x:Str) (v:V),X.N[i]?=some x->σ[i]?=some (some v)->Vis X.env.scope x->∃ u,c9 v u/\Hm X.env s.heap m x u
 cell:∀ x c,X.env.cells.lookup x=some c->∃ v,s.heap.IsCell c v
 free:H X.env.locals=none
 freeC:∀ x c,X.env.cells.lookup x=some c->H c=none
 pin:∀ p∈X.pn++pins,s.heap.get? p.1=some p.2/\H p.1=none/\p.1≠X.env.locals/\p.1∉X.fs/\∀ v,p.2.data≠.cell v
 hok:HOk X.prog X.w H s.heap
 len:σ.length=X.N.length
section
variable {X:Cx}{pins:List (Iv×Obj)}{σ:List (Option V)}{H H':Hp}{s:Im}{h':Kl}
theorem Cx.Ok.nofr (ok:X.Ok)(e:X.base.get? b=some o):b∉X.fs:=λhb=>by
 have:=(ok.funs.mem hb).1;rw[e] at this;cases this
theorem Inv.bs (I:Inv X pins σ H s):∀ b o,X.base.get? b=some o->s.heap.get? b=some o/\H b=none:=λb o e=>
 ⟨I.base.keep b o (I.ok.bs b o e).1 (I.ok.bs b o e).2 (I.ok.nofr e) (I.ok.noex b o e),I.base.free b o (I.ok.bs b o e).1 (I.ok.bs b o e).2 (I.ok.noex b o e)⟩
theorem Inv.bk (I:Inv X pins σ H s):∀ b o,X.base.get? b=some o->s.heap.get? b=some o:=λb o e=>(I.bs b o e).1
theorem Inv.mod (I:Inv X pins σ H s):Mod X.K X.mg X.base:=I.ok.mod
theorem Inv.kIn (I:Inv X pins σ H s):X.K.In s.heap:=I.ok.mod.kin.keeps I.bk
theorem Inv.lt (I:Inv X pins σ H s):X.env.locals<s.heap.objs.size:=let ⟨_,hn,_⟩:=I.loc;hn.lt
theorem Inv.sz (I:Inv X pins σ H s):X.s₀.heap.objs.size<=s.heap.objs.size:=IS I.ok.above (Kj I.lt)
theorem Inv.nofs (I:Inv X pins σ H s)(h:s.heap.objs.size<=a):a∉X.fs:=λhb=>by
 obtain⟨_,o,ho,_⟩:=I.ok.funs.mem hb;exact absurd (IA (Ip ho) (IS I.sz h)) (Ji _)
theorem Inv.cne (I:Inv X pins σ H s):∀ x c,X.env.cells.lookup x=some c->c≠X.env.locals:=λx c e z=>by
 obtain⟨v,o,ho,hd⟩:=I.cell x c e;obtain⟨m,⟨o',es,ep,ho',hd',_⟩,_⟩:=I.loc;rw[z,ho'] at ho;cases ho;rw[hd'] at hd;cases hd
theorem Inv.funs (I:Inv X pins σ H s):s.heap.FunFrames X.base X.outer:=by
 have all:∀ (l:List Env),(∀ b∈frs l,b∈X.fs)->X.s₀.heap.FunFrames X.base l->s.heap.FunFrames X.base l:=by
  intro l
  induction l with
  |nil=>intro _ _;trivial
  |cons env r ih=>
   intro hs hl;obtain⟨hk,⟨L,o,hf,hn,ho,hd⟩,hr⟩:=hl;have hL:L∈X.fs:=hs L (by unfold frs;rw[LX,hf];exact IJ);obtain⟨sl,e⟩:=I.base.slot L o ho (I.ok.frf L hL) hL λz=>I.ok.exfs L z hL
   exact⟨hk,⟨L,_,hf,hn,e,hd⟩,ih (λb hb=>hs b (by unfold frs;rw[LX,hf];exact Iq _ hb)) hr⟩
 exact all X.outer (λ_ hb=>hb) I.ok.funs
theorem Inv.stack (I:Inv X pins σ H s):s.heap.FunFrames X.base X.stack:=by
 rcases I.ok.stk with e|⟨e,hf⟩
 ·rw[e];exact I.funs
 ·rw[e];obtain⟨m,hn,_⟩:=I.loc;refine .cons (by rw[I.ok.kind];decide) hf hn ?_ I.funs;exact O1 (IS I.ok.bsz I.ok.above)
theorem Inv.stkSub (I:Inv X pins σ H s):∀ b∈frs X.stack,b∈X.env.locals::X.fs:=λb hb=>by
 rcases I.ok.stk with e|⟨e,hf⟩
 ·rw[e] at hb;exact Iq _ hb
 ·rw[e] at hb;unfold frs at hb;rw[LX,hf] at hb;exact hb
theorem Inv.stkFree (I:Inv X pins σ H s):∀ b∈frs X.stack,H b=none:=λb hb=>by
 rcases Iy.mp (I.stkSub b hb) with e|hb
 ·rw[e];exact I.free
 ·obtain⟨_,o,ho,_⟩:=I.ok.funs.mem hb;exact I.base.free b o ho (I.ok.frf b hb) λz=>I.ok.exfs b z hb
theorem Inv.step {g':Array GenState}{t':Nat}{d':Drawn}{ch:List Iv} (I:Inv X pins σ H s)
  (hch:∀ b∈ch,(b∈X.ex\/X.s₀.heap.objs.size<=b)/\b≠X.env.locals/\(∀ x c,X.env.cells.lookup x=some c->c≠b)/\∀ p∈X.pn++pins,p.1≠b)
  (keep:∀ b o,b≠X.env.locals->b∉X.fs->b∉ch->s.heap.get? b=some o->H b=none->h'.get? b=some o)
  (slot:∀ b o,b≠X.env.locals->b∈X.fs->b∉ch->s.heap.get? b=some o->H b=none->∃ sl,h'.get? b=some { o with slots:=sl })(free:∀ b o,b∉ch->s.heap.get? b=some o->H b=none->H' b=none)
  (there:∀ b o,b∉ch->s.heap.get? b=some o->∃ o',h'.get? b=some o')
  (tups:∀ b xs,H b=some (.tup xs)->H' b=some (.tup xs))(frzs:∀ b o u,H b=some (.frz o u)->H' b=some (.frz o u))(tbls:∀ b ps,H b=some (.tbl ps)->∃ more,H' b=some (.tbl (ps++more)))
  (ns:∀ m,s.heap.Ns X.env.locals m->h'.Ns X.env.locals m)(hok:HOk X.prog X.w H' h')(hg:Pg g'):
  Inv X pins σ H' { s with heap:=h',gens:=g',drawn:=d',toks:=t' }:=by
 have neL:∀ b o,X.s₀.heap.get? b=some o->b≠X.env.locals:=λb o e=>IK (IA (Ip e) I.ok.above)
 have neC:∀ b o,X.s₀.heap.get? b=some o->b∉X.ex->b∉ch:=λb o e hx hb=>by
  rcases(hch b hb).1 with z|z
  ·exact hx z
  ·exact absurd (IA (Ip e) z) (Ji _)
 have cellK:∀ x c,X.env.cells.lookup x=some c->∀ v,s.heap.IsCell c v->h'.IsCell c v:=λx c e v ⟨o,ho,hd⟩=>by
  have nch:c∉ch:=λz=>(hch c z).2.2.1 x c e rfl
  by_cases hc:c∈X.fs
  ·obtain⟨sl,q⟩:=slot c o (I.cne x c e) hc nch ho (I.freeC x c e);exact⟨_,q,hd⟩
  ·exact⟨o,keep c o (I.cne x c e) hc nch ho (I.freeC x c e),hd⟩
 refine⟨I.ok,I.os,hg,⟨λb o e n hb hx=>?_,λb o e n hb hx=>?_,λb o e n hx=>?_,λb o e hx=>?_,λb xs e=>tups b xs (I.base.tups b xs e),λb o xs e=>frzs b o xs (I.base.frzs b o xs e),λb ps e=>?_⟩,?_,λx c e=>?_,?_,λx c e=>?_,λp hp=>?_,hok,I.len⟩
 ·exact keep b o (neL b o e) hb (neC b o e hx) (I.base.keep b o e n hb hx) (I.base.free b o e n hx)
 ·obtain⟨sl,e1⟩:=I.base.slot b o e n hb hx;obtain⟨sl',e2⟩:=slot b _ (neL b o e) hb (neC b o e hx) e1 (I.base.free b o e n hx);exact⟨sl',e2⟩
 ·obtain⟨o',e1⟩:=I.base.there b o e hx;exact free b o' (neC b o e hx) e1 (I.base.free b o e n hx)
 ·obtain⟨o',e1⟩:=I.base.there b o e hx;exact there b o' (neC b o e hx) e1
 ·obtain⟨m1,e1⟩:=I.base.tbls b ps e;obtain⟨m2,e2⟩:=tbls b _ e1;exact⟨m1++m2,by rw[e2,Array.append_assoc]⟩
 ·obtain⟨m,hn,hl⟩:=I.loc;refine⟨m,ns m hn,λi x v e1 e2 e3=>?_⟩;obtain⟨u,r,l⟩:=hl i x v e1 e2 e3;refine⟨u,r,?_⟩;rcases l with l|⟨k,c,e,z⟩
  ·exact .inl l
  ·exact .inr ⟨k,c,e,cellK x c e _ z⟩
 ·obtain⟨v,z⟩:=I.cell x c e;exact⟨v,cellK x c e v z⟩
 ·obtain⟨m,⟨o,_,_,ho,_⟩,_⟩:=I.loc;exact free _ o (λz=>(hch _ z).2.1 rfl) ho I.free
 ·obtain⟨v,o,ho,hd⟩:=I.cell x c e;exact free c o (λz=>(hch c z).2.2.1 x c e rfl) ho (I.freeC x c e)
 ·obtain⟨e,n,ne,nf,d⟩:=I.pin p hp;have nch:p.1∉ch:=λz=>(hch p.1 z).2.2.2 p hp rfl
  exact⟨keep p.1 p.2 ne nf nch e n,free p.1 p.2 nch e n,ne,nf,d⟩
theorem Inv.un {t':Nat}(I:Inv X pins σ H s)(u:Un X.fs [] H H' s.heap h')(hok:HOk X.prog X.w H' h'):Inv X pins σ H' { s with heap:=h',toks:=t' }:=by
 obtain⟨m,⟨o,es,ep,ho,r⟩,_⟩:=id I.loc;obtain⟨sl,hL⟩:=u.any ho I.free (by simp);exact I.step (g':=s.gens) (d':=s.drawn) (ch:=[]) (λ_ z=>nomatch z) (λb o _ hb _ e n=>u.keep b o e n hb (by simp)) (λb o _ hb _ e n=>u.slot b o e n hb (by simp)) (λb o _ e n=>u.free b o e n (by simp)) (λb o _ e=>u.there b o e (by simp)) u.tups u.frzs u.tbls (λm' hm=>by
  obtain⟨o',es',ep',ho',r'⟩:=hm;rw[ho] at ho';cases ho';exact⟨_,es',ep',hL,r'⟩) hok I.bare
theorem Inv.call {g':Array GenState}{t':Nat}{d':Drawn}{ch:List Iv} (I:Inv X pins σ H s) (u:Un (frs X.stack) ch H H' s.heap h') (hok:HOk X.prog X.w H' h') (hg:Pg g')
  (hch:∀ b∈ch,(b∈X.ex\/X.s₀.heap.objs.size<=b)/\b≠X.env.locals/\(∀ x c,X.env.cells.lookup x=some c->c≠b)/\∀ p∈X.pn++pins,p.1≠b):
  Inv X pins σ H' { s with heap:=h',gens:=g',drawn:=d',toks:=t' }:=by
 obtain⟨m,⟨o,es,ep,ho,r⟩,_⟩:=id I.loc;obtain⟨sl,hL⟩:=u.any ho I.free λz=>(hch _ z).2.1 rfl
 exact I.step (ch:=ch) hch (λb o hL hb hc e n=>u.keep b o e n (λz=>(Iy.mp (I.stkSub b z)).elim hL hb) hc) (λb o _ _ hc e n=>u.any e n hc) (λb o hc e n=>u.free b o e n hc) (λb o hc e=>u.there b o e hc) u.tups u.frzs u.tbls (λm' hm=>by
  obtain⟨o',es',ep',ho',r'⟩:=hm;rw[ho] at ho';cases ho';exact⟨_,es',ep',hL,r'⟩) hok hg
theorem Inv.turned {t':Nat}{it:Iv} (I:Inv X pins σ H s) (k:∀ b o,b ≠ it->s.heap.get? b=some o->h'.get? b=some o) (hn:H it=none) (hL:it ≠ X.env.locals)
  (h1:it∈X.ex\/X.s₀.heap.objs.size<=it)(h2:∀ x c,X.env.cells.lookup x=some c->c≠it)(h3:∀ p∈X.pn++pins,p.1≠it):Inv X pins σ H { s with heap:=h',toks:=t' }:=by
 have nit:∀ b u,H b=some u->b≠it:=λb u e z=>by rw[z,hn] at e;cases e
 refine I.step (g':=s.gens) (d':=s.drawn) (ch:=[it]) (λb hb=>?_) (λb o _ _ hc e _=>k b o (λz=>hc (by simp[z])) e) (λb o _ _ hc e _=>⟨o.slots,k b o (λz=>hc (by simp[z])) e⟩) (λ_ _ _ _ n=>n)
  (λb o hc e=>⟨o,k b o (λz=>hc (by simp[z])) e⟩) (λ_ _ e=>e) (λ_ _ _ e=>e) (λb ps e=>⟨#[],by rw[e];simp⟩) (λm hm=>?_) (λb u e=>?_) I.bare
 ·have e:b=it:=by simpa using hb
  subst e;exact⟨h1,hL,h2,h3⟩
 ·obtain⟨o,es,ep,ho,r⟩:=hm;exact⟨o,es,ep,k _ o (KH hL) ho,r⟩
 ·refine(I.hok b u e).stay (λc v hc q=>k c v ?_ q) (λ_ q=>q) λ_ _ q=>q
  rcases hc with z|z
  ·rw[z];exact nit b u e
  ·exact nit c _ z
theorem Inv.tok (I:Inv X pins σ H s)(t:Nat):Inv X pins σ H { s with toks:=t }:=I.un (h':=s.heap) (t':=t) Un.refl I.hok
theorem Inv.kept {t':Nat}(I:Inv X pins σ H s)(k:∀ b u,s.heap.get? b=some u->h'.get? b=some u):Inv X pins σ H { s with heap:=h',toks:=t' }:=I.un (Un.kept k) (I.hok.kept k)
theorem Inv.laid {t':Nat} (I:Inv X pins σ H s) (k:∀ b u,s.heap.get? b=some u->h'.get? b=some u) (hp:s.heap.objs.size <= a) (new:cF X.prog X.w (upd H a o) h' a o) :
  Inv X pins σ (upd H a o) { s with heap:=h',toks:=t' }:=I.un (Un.laid k hp (I.hok.fresh hp)) (I.hok.laid k hp new)
theorem Inv.write {t':Nat} (I:Inv X pins σ H s) (mu:Mut (H x)) (he:e=x\/H e=some (.own x)) (k:∀ b u,b ≠ e->s.heap.get? b=some u->h'.get? b=some u) (heo:∃ u,h'.get? e=some u)
  (new:cF X.prog X.w (upd H x o) h' x o):Inv X pins σ (upd H x o) { s with heap:=h',toks:=t' }:=I.un (Un.write mu he k heo) (I.hok.write mu he k heo new)
theorem Inv.pins_of (I:Inv X pins σ H s)(h:∀ p∈pins',s.heap.get? p.1=some p.2/\H p.1=none/\p.1≠X.env.locals/\p.1∉X.fs/\∀ v,p.2.data≠.cell v):Inv X pins' σ H s:=
 ⟨I.ok,I.os,I.bare,I.base,I.loc,I.cell,I.free,I.freeC,λp hp=>(Jb.mp hp).elim (λz=>I.pin p (KG _ z)) (h p),I.hok,I.len⟩
theorem vE {N:List Str}(hN:N.Nodup){i j:Nat}{x:Str}(a:N[i]?=some x)(b:N[j]?=some x):i=j:=by
 obtain⟨h1,e1⟩:=Iu.mp a;obtain⟨h2,e2⟩:=Iu.mp b;exact(List.getElem_inj hN).mp (e1.trans e2.symm)
theorem rP {M:Model}{A:JA}{E:Ih->Im->Prop}{i:Nat}{x:Str}{v:V}{u:Ih}{Q:Unit->Im->Prop} (I:Inv X pins σ H s) (hN:X.N.Nodup) (hi:X.N[i]?=some x) (hx:Loc X.env.scope x) (r:c9 v u)
  (h:∀ s',Inv X pins (σ.set i (some v)) H s'->(∃ a,Jw a s.heap s'.heap/\(a=X.env.locals\/X.env.cells.lookup x=some a))->Q () s')(hf:X.fn x=true\/X.env.scope.names.lookup x=some .local:=by first|exact .inl rfl|exact .inr rfl|assumption):IB M A (storeName X.env x u) Q E s:=by
 obtain⟨m,hn,hl⟩:=id I.loc;have hcls:(X.env.scope.kind==.class||(X.env.scope.kind==.module&&X.env.locals != X.env.globals))=false:=by rw[I.ok.kind];rfl
 have hiσ:i<σ.length:=by rw[I.len];exact(Iu.mp hi).1
 have cne:=I.cne;have tracked:∀ {a:Iv}{h':Kl},(∃ o,s.heap.get? a=some o/\H a=none)->Jw a s.heap h'->HOk X.prog X.w H h':=λ{a h'} ha hs b ob e=>by
  obtain⟨_,_,hfree⟩:=ha;refine(I.hok b ob e).stay (λc w' hc q=>(hs.2 c ?_).trans q) (λ_ q=>q) λ_ _ q=>q
  rintro rfl;rcases hc with rfl|hc
  ·rw[hfree] at e;cases e
  ·rw[hfree] at hc;cases hc
 rcases hx with hk|hk
 ·refine wpAny_storeName_local hk hn (λh' hn' hs=>?_) hcls;obtain⟨oL,_,_,hoL,_⟩:=id hn;refine h _ ⟨I.ok,I.os,I.bare,⟨λb o e n hb hx=>?_,λb o e n hb hx=>?_,I.base.free,λb o e hx=>?_,I.base.tups,I.base.frzs,I.base.tbls⟩,⟨_,hn',λj y v' e1 e2 e3=>?_⟩,λy c e=>?_,I.free,I.freeC,λp hp=>?_,tracked ⟨oL,hoL,I.free⟩ hs,by simpa using I.len⟩ ⟨_,hs,.inl rfl⟩
  ·exact(hs.2 b (IK (IA (Ip e) I.ok.above))).trans (I.base.keep b o e n hb hx)
  ·obtain⟨sl,e1⟩:=I.base.slot b o e n hb hx;exact⟨sl,(hs.2 b (IK (IA (Ip e) I.ok.above))).trans e1⟩
  ·obtain⟨o',e1⟩:=I.base.there b o e hx;exact⟨o',(hs.2 b (IK (IA (Ip e) I.ok.above))).trans e1⟩
  ·by_cases hj:j=i
   ·subst hj;rw[hi] at e1;cases e1;rw[Ov hiσ] at e2;cases e2;exact⟨u,r,.inl ⟨hk,by simp⟩⟩
   ·rw[O2 (KH hj)] at e2;obtain⟨u',r',q⟩:=hl j y v' e1 e2 e3;refine⟨u',r',?_⟩;rcases q with ⟨k,e⟩|⟨k,c,e,z⟩
    ·refine .inl ⟨k,?_⟩;have:y≠x:=λe=>hj (vE hN e1 (e▸hi))
     simp[this,e]
    ·exact .inr ⟨k,c,e,z.sameBut hs (cne y c e)⟩
  ·obtain⟨w',z⟩:=I.cell y c e;exact⟨w',z.sameBut hs (cne y c e)⟩
  ·obtain⟨e,n,ne,nf,d⟩:=I.pin p hp;exact⟨(hs.2 p.1 ne).trans e,n,ne,nf,d⟩
 ·have hfn:X.fn x=true:=by
   rcases hf with z|z
   ·exact z
   ·rw[z] at hk;cases hk
  obtain⟨c,hc⟩:=I.ok.has x (.inl hk);obtain⟨w',z⟩:=I.cell x c hc;refine wpAny_storeName_cell I.ok.kind hk hc z (λh' hc' hs=>?_);obtain⟨oc,hoc,hocd⟩:=id z;refine h { s with heap:=h' } ⟨I.ok,I.os,I.bare,⟨λb o e n hb hx=>?_,λb o e n hb hx=>?_,I.base.free,λb o e hx=>?_,I.base.tups,I.base.frzs,I.base.tbls⟩,⟨m,hn.sameBut hs (KH (cne x c hc)),λj y v' e1 e2 e3=>?_⟩,λy c' e=>?_,I.free,I.freeC,λp hp=>?_,tracked ⟨oc,hoc,I.freeC x c hc⟩ hs,by simpa using I.len⟩ ⟨c,hs,.inr hc⟩
  ·exact(hs.2 b (IK (IA (Ip e) (I.ok.cab x c hfn hc)))).trans (I.base.keep b o e n hb hx)
  ·obtain⟨sl,e1⟩:=I.base.slot b o e n hb hx;exact⟨sl,(hs.2 b (IK (IA (Ip e) (I.ok.cab x c hfn hc)))).trans e1⟩
  ·obtain⟨o',e1⟩:=I.base.there b o e hx;exact⟨o',(hs.2 b (IK (IA (Ip e) (I.ok.cab x c hfn hc)))).trans e1⟩
  ·by_cases hj:j=i
   ·subst hj;rw[hi] at e1;cases e1;rw[Ov hiσ] at e2;cases e2;exact⟨u,r,.inr ⟨.inl hk,c,hc,hc'⟩⟩
   ·rw[O2 (KH hj)] at e2;obtain⟨u',r',q⟩:=hl j y v' e1 e2 e3;refine⟨u',r',?_⟩;rcases q with q|⟨k,c',e,z'⟩
    ·exact .inl q
    ·refine .inr ⟨k,c',e,z'.sameBut hs ?_⟩;rintro rfl;exact hj (vE hN e1 (I.ok.inj _ _ _ e hc▸hi))
  ·by_cases hcc:c'=c
   ·subst hcc;exact⟨_,hc'⟩
   ·obtain⟨w2,z2⟩:=I.cell y c' e;exact⟨w2,z2.sameBut hs hcc⟩
  ·obtain⟨e,n,ne,nf,d⟩:=I.pin p hp;refine⟨(hs.2 p.1 ?_).trans e,n,ne,nf,d⟩;intro q;rw[q,hoc] at e;have q':oc=p.2:=Ie e;exact d w' (by rw[<- q'];exact hocd)
theorem kB {i:Nat} (I:Inv X pins σ H s) (hN:X.N.Nodup) (hi:X.N[i]?=some x) (hx:Loc X.env.scope x) (r:c9 v u)
  (h:∀ s',Inv X pins (σ.set i (some v)) H s'->Q () s')(hf:X.fn x=true\/X.env.scope.names.lookup x=some .local:=by first|exact .inl rfl|exact .inr rfl|assumption):IB M A (storeName X.env x u) Q E s:=
 rP I hN hi hx r (λs' I' _=>h s' I') hf
theorem Inv.call' (I:Inv X pins σ H s) (ho:s'.os=s.os) (u:Un (frs X.stack) ch H H' s.heap s'.heap) (hok:HOk X.prog X.w H' s'.heap) (hg:Pg s'.gens)
  (hch:∀ b∈ch,(b∈X.ex\/X.s₀.heap.objs.size<=b)/\b≠X.env.locals/\(∀ x c,X.env.cells.lookup x=some c->c≠b)/\∀ p∈X.pn++pins,p.1≠b):Inv X pins σ H' s':=by
 obtain⟨h',g',d',t',o'⟩:=s';have e:o'=s.os:=ho;subst e;exact I.call (g':=g') (t':=t') (d':=d') u hok hg hch
end
abbrev XK:=Ih->Option Iv->Hp->Prop
abbrev St:=List (Option V)
abbrev VK:=V->Hp->Prop
abbrev TE:=St->Hp->VK->Prop
abbrev TT:=St->Hp->(Bool->Hp->Prop)->Prop
abbrev TA:=St->Hp->(List V->Hp->Prop)->Prop
structure Av where
 nx:St->Hp->Prop
 rt:VK
 bk:St->Hp->Prop:=λ_ _=>False
 ct:St->Hp->Prop:=λ_ _=>False
abbrev TS:=Av->St->Hp->Prop
def EP (X:Cx)(pins:List (Iv×Obj))(σ:St)(Q:VK)(u:Ih)(s':Im):Prop:=∃ v H',Inv X pins σ H' s'/\c9 v u/\Q v H'
def TP (X:Cx)(pins:List (Iv×Obj))(σ:St)(Q:Bool->Hp->Prop)(b:Bool)(s':Im):Prop:=∃ H',Inv X pins σ H' s'/\Q b H'
def AP (X:Cx)(pins:List (Iv×Obj))(σ:St)(Q:List V->Hp->Prop)(us:List Ih)(s':Im):Prop:=∃ vs H',Inv X pins σ H' s'/\bD vs us/\Q vs H'
def SP (X:Cx)(pins:List (Iv×Obj))(D:Av)(f:Flow)(s':Im):Prop:=
 match f with
 |.next=>∃ σ' H',Inv X pins σ' H' s'/\D.nx σ' H'
 |.brk=>∃ σ' H',Inv X pins σ' H' s'/\D.bk σ' H'
 |.cont=>∃ σ' H',Inv X pins σ' H' s'/\D.ct σ' H'
 |.ret u=>∃ v σ' H',Inv X pins σ' H' s'/\c9 v u/\D.rt v H'
def PE (X:Cx)(e:KI)(t:TE):Prop:=
 ∀ (pins:List (Iv×Obj)) (s:Im) (σ:St) (H:Hp) (Q:VK),Inv X pins σ H s->t σ H Q->IB (IT X.prog X.w) X.A (L6 e X.env) (EP X pins σ Q) X.xe s
structure WE (X:Cx)(e:KI)(t:TE):Prop where
 go:PE X e t
def PT (X:Cx)(e:KI)(t:TT):Prop:=
 ∀ (pins:List (Iv×Obj)) (s:Im) (σ:St) (H:Hp) (Q:Bool->Hp->Prop),Inv X pins σ H s->t σ H Q->IB (IT X.prog X.w) X.A (isTrue e X.env (L6 e X.env)) (TP X pins σ Q) X.xe s
structure WT (X:Cx)(e:KI)(t:TT):Prop where
 go:PT X e t
def PW (X:Cx)(e:KI)(t:TT):Prop:=
 ∀ (whole:Sem Ih) (pins:List (Iv×Obj)) (s:Im) (σ:St) (H:Hp) (Q:Bool->Hp->Prop),Inv X pins σ H s->t σ H Q->IB (IT X.prog X.w) X.A (isTrue e X.env whole) (TP X pins σ Q) X.xe s
structure WW (X:Cx)(e:KI)(t:TT):Prop where
 go:PW X e t
theorem PW.pt (h:PW X e t):PT X e t:=h _
def PA (X:Cx)(es:List KI)(t:TA):Prop:=
 ∀ (pos:Pos) (pins:List (Iv×Obj)) (s:Im) (σ:St) (H:Hp) (Q:List V->Hp->Prop),Inv X pins σ H s->t σ H Q->IB (IT X.prog X.w) X.A (spliced (Mw pos (IR es X.env))) (AP X pins σ Q) X.xe s
structure WA (X:Cx)(e:List KI)(t:TA):Prop where
 go:PA X e t
def PS (X:Cx)(st:Ke)(t:TS):Prop:=
 ∀ (pins:List (Iv×Obj)) (s:Im) (σ:St) (H:Hp) (D:Av),Inv X pins σ H s->t D σ H->IB (IT X.prog X.w) X.A (exec st X.env) (SP X pins D) X.xe s
structure WS (X:Cx)(e:Ke)(t:TS):Prop where
 go:PS X e t
def PSs (X:Cx)(st:List Ke)(t:TS):Prop:=
 ∀ (pins:List (Iv×Obj)) (s:Im) (σ:St) (H:Hp) (D:Av),Inv X pins σ H s->t D σ H->IB (IT X.prog X.w) X.A (execs st X.env) (SP X pins D) X.xe s
structure WSs (X:Cx)(e:List Ke)(t:TS):Prop where
 go:PSs X e t
theorem thn (h:IB M A t Q E s)(hQ:∀ a s,Q a s->Q' a s):IB M A t Q' E s:=JG h hQ λ_ _ x=>x
section
variable {X:Cx}
def yx (i:Nat):TE:=λσ H Q=>∃ v,σ[i]?=some (some v)/\Q v H
def tC (v:V):TE:=λ_ H Q=>Q v H
theorem Fa {i:Nat}(hN:X.N[i]?=some x)(hv:Vis X.env.scope x)(hd:(x==("__debug__":Str))=false:=by decide)(hcd:(x==("__classdict__":Str))=false:=by decide):PE X (.Name x pos) (yx i):=by
 intro pins s σ H Q I h;obtain⟨v,e,h⟩:=h;obtain⟨m,hn,hl⟩:=I.loc;obtain⟨u,r,l⟩:=hl i x v hN e hv;have fin:EP X pins σ Q u s:=⟨v,H,I,r,h⟩
 rcases l with ⟨hk,hm⟩|⟨hk,c,hc,hcell⟩
 ·exact OX (MV I.ok.kind hk hn hm fin) hd
 ·rcases hk with hk|hk
  ·exact OX (wpAny_loadName_cell I.ok.kind hk hc hcell fin) hd
  ·exact OX (wpAny_loadName_free I.ok.kind hk hc hcell fin hcd) hd
theorem aa {i j pos}:WE X (.Constant (.int i) j pos) (tC (.int i)):=by
 exact⟨λ_ _ _ H _ I h=>wpAny_Constant_int ⟨.int i,H,I.tok _,⟨_,rfl⟩,h⟩⟩
theorem iX {b j pos}:WE X (.Constant (.bool b) j pos) (tC (.bl b)):=by
 exact⟨λ_ _ _ H _ I h=>Constant_bool ⟨.bl b,H,I,rfl,h⟩⟩
theorem lf {j pos}:WE X (.Constant .none j pos) (tC .non):=by
 exact⟨λ_ _ _ H _ I h=>Constant_none ⟨.non,H,I,rfl,h⟩⟩
def Gl (X:Cx)(x:Str):Prop:=X.env.kindOf x=some .globalImplicit
theorem iE (I:Inv X pins σ H s) (hg:Gl X x) (hm:X.mg x=some u) (h:Q u s)
  (hd:(x==("__debug__":Str))=false:=by decide):IB (IT X.prog X.w) X.A (L6 (.Name x pos) X.env) Q E s:=
 Np I.ok.kind hg (Calls.loadGlobal_global (by rw[I.ok.glob];exact I.mod.glob.keeps I.bk) hm h) hd
theorem ki (I:Inv X pins σ H s) (hg:Gl X x) (hm:X.mg x=none) (hv:Jn x=some u) (h:Q u s)
  (hn:x≠"__name__":=by decide)(hd:(x==("__debug__":Str))=false:=by decide):IB (IT X.prog X.w) X.A (L6 (.Name x pos) X.env) Q E s:=by
 obtain⟨mb,h1,h2⟩:=I.mod.blt;exact Np I.ok.kind hg (Calls.loadGlobal_builtin (by rw[I.ok.glob];exact I.mod.glob.keeps I.bk) hm (by rw[I.ok.blt];exact h1.keeps I.bk) ((h2 x hn).trans hv) h) hd
theorem C5 (hg:Gl X x)(hm:X.mg x=some u)(r:c9 v u)(hd:(x==("__debug__":Str))=false:=by decide):PE X (.Name x pos) (tC v):=
 λ_ _ _ H _ I h=>iE I hg hm ⟨v,H,I,r,h⟩ hd
theorem bO (hg:Gl X x)(hm:X.mg x=none)(hv:Jn x=some u)(r:c9 v u)(hn:x≠"__name__":=by decide)(hd:(x==("__debug__":Str))=false:=by decide):WE X (.Name x pos) (tC v):=by
 exact⟨λ_ _ _ H _ I h=>ki I hg hm hv ⟨v,H,I,r,h⟩ hn hd⟩
variable {a b:KI}{ta tb:TE}{pos:Pos}
def tB (t:TE):TT:=λσ H Q=>t σ H λx H1=>∃ c,x=.bl c/\Q c H1
theorem aS (h:WE X e t)(he:∀ whole,isTrue e X.env whole=(do let v <- whole;OT e.pos;holding [v] (truthy v)):=by intro _;rfl):WT X e (tB t):=by
 have h:=h.go;refine⟨?_⟩;intro pins s σ H Q I hw;refine isTrue_plain (thn (h pins s σ H _ I hw) λv s1 ⟨x,H1,I1,r1,q1⟩=>?_) (he _);obtain⟨d,rfl,q⟩:=q1;cases r1;exact Ku ⟨H1,I1,q⟩
variable {tA tB':TT}{lv:List KI}
def H_ (t u:TT):TT:=λσ H Q=>t σ H λc H1=>if c=true then u σ H1 Q else Q false H1
def tOr (t u:TT):TT:=λσ H Q=>t σ H λc H1=>if c=true then Q true H1 else u σ H1 Q
def HW (t:TT):TT:=λσ H Q=>t σ H λc H1=>Q (!c) H1
theorem AQ (ha:WT X a tA):WW X (.BoolOp .And [a] pos) tA:=by
 have ha:=ha.go;refine⟨?_⟩;intro wh pins s σ H Q I h;refine isTrue_and (thn (ha pins s σ H Q I h) λc s1 e=>?_);cases c with
 |true=>exact isTrue_and_nil e
 |false=>exact e
theorem dD (ha:WT X a tA):WW X (.BoolOp .Or [a] pos) tA:=by
 have ha:=ha.go;refine⟨?_⟩;intro wh pins s σ H Q I h;refine isTrue_or (thn (ha pins s σ H Q I h) λc s1 e=>?_);cases c with
 |false=>exact isTrue_or_nil e
 |true=>exact e
theorem zt (ha:WT X a tA)(hb:WW X (.BoolOp .And (b::lv) pos) tB'):WW X (.BoolOp .And (a::b::lv) pos) (H_ tA tB'):=by
 have ha:=ha.go;have hb:=hb.go;refine⟨?_⟩;intro wh pins s σ H Q I h;refine isTrue_and (thn (ha pins s σ H _ I h) λc s1 ⟨H1,I1,q1⟩=>?_);cases c with
 |true=>exact hb wh pins s1 σ H1 Q I1 q1
 |false=>exact⟨H1,I1,q1⟩
theorem eI (ha:WT X a tA)(hb:WW X (.BoolOp .Or (b::lv) pos) tB'):WW X (.BoolOp .Or (a::b::lv) pos) (tOr tA tB'):=by
 have ha:=ha.go;have hb:=hb.go;refine⟨?_⟩;intro wh pins s σ H Q I h;refine isTrue_or (thn (ha pins s σ H _ I h) λc s1 ⟨H1,I1,q1⟩=>?_);cases c with
 |true=>exact⟨H1,I1,q1⟩
 |false=>exact hb wh pins s1 σ H1 Q I1 q1
theorem aV (ha:WT X a tA):WT X (.UnaryOp .Not a pos) (HW tA):=by
 have ha:=ha.go;refine⟨?_⟩;intro pins s σ H Q I h;exact isTrue_not (ha pins s σ H (λc H1=>Q (!c) H1) I h)
def Gq (ta tb:TE):TE:=λσ H Q=>ta σ H λx H1=>∃ c,x=.bl c/\if c=true then tb σ H1 Q else Q (.bl false) H1
def Gx (ta:TE):TE:=λσ H Q=>ta σ H λx H1=>∃ c,x=.bl c/\Q (.bl (!c)) H1
theorem fq {op}(h:WE X a t):WE X (.BoolOp op [a] pos) t:=by
 have h:=h.go;exact⟨λpins s σ H Q I hw=>BoolOp_one (h pins s σ H Q I hw)⟩
theorem c7 (ha:WE X a ta)(hb:WE X (.BoolOp .And (b::lv) pos) tb):WE X (.BoolOp .And (a::b::lv) pos) (Gq ta tb):=by
 have ha:=ha.go;have hb:=hb.go;refine⟨?_⟩;intro pins s σ H Q I h;refine BoolOp_and (thn (ha pins s σ H _ I h) λv s1 ⟨x,H1,I1,r1,q1⟩=>?_);obtain⟨c,rfl,q1⟩:=q1;cases r1;refine Ku ?_;cases c with
 |true=>exact hb pins s1 σ H1 Q I1 q1
 |false=>exact⟨.bl false,H1,I1,rfl,q1⟩
theorem zU (ha:WE X a ta):WE X (.UnaryOp .Not a pos) (Gx ta):=by
 have ha:=ha.go;refine⟨?_⟩;intro pins s σ H Q I h;refine UnaryOp_ (thn (ha pins s σ H _ I h) λv s1 ⟨x,H1,I1,r1,q1⟩=>?_);obtain⟨c,rfl,q1⟩:=q1;cases r1;exact not_of (Ku ⟨.bl (!c),H1,I1,rfl,q1⟩)
def tIf (t:TT)(ta tb:TE):TE:=λσ H Q=>t σ H λc H1=>if c=true then ta σ H1 Q else tb σ H1 Q
theorem iy (hc:WT X c tA)(ha:WE X a ta)(hb:WE X b tb):WE X (.IfExp c a b pos) (tIf tA ta tb):=by
 have hc:=hc.go;have ha:=ha.go;have hb:=hb.go;refine⟨?_⟩;intro pins s σ H Q I h;refine wpAny_IfExp (thn (hc pins s σ H _ I h) λd s1 ⟨H1,I1,q1⟩=>?_);cases d with
 |true=>exact ha pins s1 σ H1 Q I1 q1
 |false=>exact hb pins s1 σ H1 Q I1 q1
end
def SqL (K:Ia)(H:Hp)(a:Iv)(xs:List V):Prop:=
 Rd H a (.lst xs) \/
  ∃ (o:Obj) (its:Array Ih) (n:Nat),K.lookup a=some o/\o.cls=.type "list"/\o.dict=none/\o.data=.seq its n/\its.size<=II/\bD xs its.toList
def SqT (K:Ia)(H:Hp)(a:Iv)(xs:List V):Prop:=
 Rd H a (.tup xs) \/
  ∃ (o:Obj) (its:Array Ih) (n:Nat),K.lookup a=some o/\o.cls=.type "tuple"/\o.data=.seq its n/\its.size<=II/\bD xs its.toList
def HJ:Ih->Option V
 |.none=>some .non
 |.bool b=>some (.bl b)
 |.int i _=>some (.int i)
 |.str x _=>some (.str x)
 |.bytes b _=>some (.byt b)
 |.float b _=>some (.flt b)
 |.ref a=>some (.ref a)
 |.type n=>some (.ty n)
 |_=>none
theorem c9.abs (r:c9 x u):HJ u=some x:=by
 cases x with
 |non=>cases r;rfl
 |bl _=>cases r;rfl
 |int _=>obtain⟨t,rfl⟩:=r;rfl
 |str _=>obtain⟨t,rfl⟩:=r;rfl
 |byt _=>obtain⟨t,rfl⟩:=r;rfl
 |flt _=>obtain⟨t,rfl⟩:=r;rfl
 |ref _=>cases r;rfl
 |ty _=>cases r;rfl
theorem c9.inj (r:c9 x u)(q:c9 y u):x=y:=Ie (r.abs.symm.trans q.abs)
theorem bD.inj:∀ {xs ys:List V}{us:List Ih},bD xs us->bD ys us->xs=ys
 |_,_,_,.nil,.nil=>rfl
 |_,_,_,.cons r t,.cons r' t'=>by rw[r.inj r',bD.inj t t']
section
variable {X:Cx}{pins:List (Iv×Obj)}{σ:St}{H:Hp}{s:Im}{a:Iv}{xs ys:List V}
theorem SqL.of {K:Ia}(h:H a=some (.lst xs)):SqL K H a xs:=.inl (.inl h)
theorem SqT.of {K:Ia}(h:H a=some (.tup xs)):SqT K H a xs:=.inl (.inl h)
theorem Inv.list (I:Inv X pins σ H s)(h:SqL X.K H a xs):∃ its:List Ih,bD xs its/\PlainL s.heap a its.toArray/\xs.length<=II:=by
 rcases h with h|⟨o,its,n,hk,hc,hd,hs,hz,r⟩
 ·obtain⟨z,its,n,r,e⟩:=h.ok I.hok;exact⟨its,r,⟨_,n,e,rfl,rfl,rfl⟩,z⟩
 ·refine⟨its.toList,r,⟨o,n,I.kIn a o hk,hc,hd,by simpa using hs⟩,?_⟩;have e:=r.length;simp only[JL] at e;omega
theorem Inv.tuple (I:Inv X pins σ H s)(h:SqT X.K H a xs):∃ its:List Ih,bD xs its/\IsTup s.heap a its.toArray/\xs.length<=II:=by
 rcases h with h|⟨o,its,n,hk,hc,hs,hz,r⟩
 ·obtain⟨z,its,r,p⟩:=h.ok I.hok;exact⟨its,r,p,z⟩
 ·refine⟨its.toList,r,⟨o,I.kIn a o hk,hc,n,by simpa using hs⟩,?_⟩;have e:=r.length;simp only[JL] at e;omega
theorem Inv.list_inj (I:Inv X pins σ H s)(h:SqL X.K H a xs)(h':SqL X.K H a ys):xs=ys:=by
 obtain⟨its,r,⟨o,n,e,_,_,d⟩,_⟩:=I.list h;obtain⟨its',r',⟨o',n',e',_,_,d'⟩,_⟩:=I.list h';rw[e] at e';cases e';rw[d] at d';injection d' with d1 _
 have:its=its':=by simpa using Lr Array.toList d1
 subst this;exact r.inj r'
theorem Inv.tuple_inj (I:Inv X pins σ H s)(h:SqT X.K H a xs)(h':SqT X.K H a ys):xs=ys:=by
 obtain⟨its,r,⟨o,e,_,n,d⟩,_⟩:=I.tuple h;obtain⟨its',r',⟨o',e',_,n',d'⟩,_⟩:=I.tuple h';rw[e] at e';cases e';rw[d] at d';injection d' with d1 _
 have:its=its':=by simpa using Lr Array.toList d1
 subst this;exact r.inj r'
end
abbrev Cx.wish (X:Cx)(E:Ih->Im->Prop):Cx:={ X with xe:=E }
abbrev Cx.nox (X:Cx):Cx:=X.wish λ_ _=>False
theorem Cx.Ok.wish {X:Cx}(ok:X.Ok)(E:Ih->Im->Prop):(X.wish E).Ok:=
 ⟨ok.mod,ok.kind,ok.glob,ok.blt,ok.above,ok.inj,ok.has,ok.cab,ok.hd,ok.frames,ok.stk,ok.exf,ok.bs,ok.bsz,ok.noex,ok.exfs,ok.funs,ok.frf⟩
theorem Cx.Ok.unwish {X:Cx}{E:Ih->Im->Prop}(ok:(X.wish E).Ok):X.Ok:=
 ⟨ok.mod,ok.kind,ok.glob,ok.blt,ok.above,ok.inj,ok.has,ok.cab,ok.hd,ok.frames,ok.stk,ok.exf,ok.bs,ok.bsz,ok.noex,ok.exfs,ok.funs,ok.frf⟩
section
variable {X:Cx}{pins:List (Iv×Obj)}{σ:St}{H:Hp}{s:Im}{E:Ih->Im->Prop}
theorem Inv.wish (I:Inv X pins σ H s)(E:Ih->Im->Prop):Inv (X.wish E) pins σ H s:=⟨I.ok.wish E,I.os,I.bare,I.base,I.loc,I.cell,I.free,I.freeC,I.pin,I.hok,I.len⟩
theorem Inv.unwish (I:Inv (X.wish E) pins σ H s):Inv X pins σ H s:=⟨I.ok.unwish,I.os,I.bare,I.base,I.loc,I.cell,I.free,I.freeC,I.pin,I.hok,I.len⟩
theorem SP.unwish (h:SP (X.wish E) pins D f s'):SP X pins D f s':=by
 cases f with
 |next=>obtain⟨σ',H',I,q⟩:=h;exact⟨σ',H',I.unwish,q⟩
 |brk=>obtain⟨σ',H',I,q⟩:=h;exact⟨σ',H',I.unwish,q⟩
 |cont=>obtain⟨σ',H',I,q⟩:=h;exact⟨σ',H',I.unwish,q⟩
 |ret u=>obtain⟨v,σ',H',I,r,q⟩:=h;exact⟨v,σ',H',I.unwish,r,q⟩
theorem PSs.nox {st:List Ke}{t:TS}(h:PSs X.nox st t):PSs X st t:=λpins s σ H D I hw=>
 JG (h pins s σ H D (I.wish _) hw) (λ_ _ q=>q.unwish) λ_ _ z=>Km z
end
section
variable {X:Cx}{st:Ke}{lv:List Ke}{t u:TS}{e:KI}{te:TE}{pos:Pos}
def GN:TS:=λD σ H=>D.nx σ H
def FR (t u:TS):TS:=λD σ H=>t { D with nx:=u D } σ H
theorem aE:WSs X [] GN:=by
 exact⟨λ_ _ σ H _ I h=>Nm ⟨σ,H,I,h⟩⟩
theorem ab (h1:WS X st t)(h2:WSs X lv u):WSs X (st::lv) (FR t u):=by
 have h1:=h1.go;have h2:=h2.go;refine⟨?_⟩;intro pins s σ H D I h;refine wpAny_execs_cons (thn (h1 pins s σ H { D with nx:=u D } I h) λf s1 q=>?_);cases f with
 |next=>
  obtain⟨σ',H',I',q⟩:=q;exact h2 pins s1 σ' H' D I' q
 |ret v=>exact q
 |brk=>exact q
 |cont=>exact q
theorem af (h1:WS X st t):WSs X [st] t:=by
 have h1:=h1.go;refine⟨?_⟩;intro pins s σ H D I h;refine wpAny_execs_cons (thn (h1 pins s σ H D I h) λf s1 q=>?_);cases f with
 |next=>exact Nm q
 |ret v=>exact q
 |brk=>exact q
 |cont=>exact q
theorem Inv.quiet (I:Inv X pins σ H s):interactive X.env=false:=by simp[interactive,I.ok.kind]
def Gk (te:TE):TS:=λD σ H=>te σ H λ_ H1=>D.nx σ H1
theorem bo (he:WE X e te)(hs:N5 e none pos.line X.env=pure false:=by rfl):WS X (.Expr e pos) (Gk te):=by
 have he:=he.go;refine⟨?_⟩;intro pins s σ H D I h;exact wpAny_Expr_any (thn (he pins s σ H _ I h) λv s1 ⟨x,H1,I1,r1,q1⟩=>⟨σ,H1,I1,q1⟩) I.quiet hs
def Hv (te:TE):TS:=λD σ H=>te σ H D.rt
theorem ap (he:WE X e te):WS X (.Return (some e) pos) (Hv te):=by
 have he:=he.go;refine⟨?_⟩;intro pins s σ H D I h;exact wpAny_Return_some (thn (he pins s σ H _ I h) λv s1 ⟨x,H1,I1,r1,q1⟩=>⟨x,σ,H1,I1,r1,q1⟩)
def HP (c:TT)(t u:TS):TS:=λD σ H=>c σ H λb H1=>if b=true then t D σ H1 else u D σ H1
theorem a_ (hc:WT X c tc)(ha:WSs X a t)(hb:WSs X b u):WS X (.If c a b pos) (HP tc t u):=by
 have hc:=hc.go;have ha:=ha.go;have hb:=hb.go;refine⟨?_⟩;intro pins s σ H D I h;refine wpAny_If (thn (hc pins s σ H _ I h) λd s1 ⟨H1,I1,q1⟩=>?_);cases d with
 |true=>exact ha pins s1 σ H1 D I1 q1
 |false=>exact hb pins s1 σ H1 D I1 q1
def Fz:TS:=λ_ _ _=>False
theorem bw:WS X st Fz:=by
 exact⟨λ_ _ _ _ _ _ h=>h.elim⟩
end
abbrev TG:=V->St->Hp->(St->Hp->Prop)->Prop
abbrev TGs:=List V->St->Hp->(St->Hp->Prop)->Prop
def PG (X:Cx)(target:KI)(t:TG):Prop:=
 ∀ (pins:List (Iv×Obj)) (s:Im) (σ:St) (H:Hp) (v:V) (u:Ih) (Q:St->Hp->Prop),Inv X pins σ H s->c9 v u->t v σ H Q ->
  IB (IT X.prog X.w) X.A (assign target X.env u) (λ_ s'=>∃ σ' H',Inv X pins σ' H' s'/\Q σ' H') X.xe s
structure WG (X:Cx)(e:KI)(t:TG):Prop where
 go:PG X e t
def PGs (X:Cx)(ts:List KI)(t:TGs):Prop:=
 ∀ (pins:List (Iv×Obj)) (s:Im) (σ:St) (H:Hp) (vs:List V) (us:List Ih) (Q:St->Hp->Prop),Inv X pins σ H s->bD vs us->t vs σ H Q ->
  IB (IT X.prog X.w) X.A (PV ((KZ ts X.env).map (·.2)) us) (λ_ s'=>∃ σ' H',Inv X pins σ' H' s'/\Q σ' H') X.xe s
structure WGs (X:Cx)(e:List KI)(t:TGs):Prop where
 go:PGs X e t
abbrev G9:=V->V->V->Hp->(Hp->Prop)->Prop
def He (X:Cx)(t:G9):Prop:=
 ∀ (pins:List (Iv×Obj)) (s:Im) (σ:St) (H:Hp) (o i v:V) (ov iv u:Ih) (Q:Hp->Prop),Inv X pins σ H s->c9 o ov->c9 i iv->c9 v u->t o i v H Q ->
  IB (IT X.prog X.w) X.A (setItem ov iv u) (λ_ s'=>∃ H',Inv X pins σ H' s'/\Q H') X.xe s
abbrev TIp:=V->V->Hp->VK->Prop
def PIp (X:Cx)(op:Operator)(t:TIp):Prop:=
 ∀ (pins:List (Iv×Obj)) (s:Im) (σ:St) (H:Hp) (x y:V) (v u:Ih) (Q:VK),Inv X pins σ H s->c9 x v->c9 y u->t x y H Q ->
  IB (IT X.prog X.w) X.A (inplaceOp op v u) (EP X pins σ Q) X.xe s
section
variable {X:Cx}{pos:Pos}
def wM (i:Nat):TG:=λv σ H Q=>Q (σ.set i (some v)) H
theorem Bj {i:Nat}(hN:X.N.Nodup)(hi:X.N[i]?=some x)(hx:Loc X.env.scope x)(hf:X.fn x=true\/X.env.scope.names.lookup x=some .local:=by first|exact .inl rfl|exact .inr rfl|assumption):WG X (.Name x pos) (wM i):=by
 refine⟨?_⟩;intro pins s σ H v u Q I r h;exact wpAny_assign_Name (kB I hN hi hx r (λs' I'=>⟨_,H,I',h⟩) hf)
def HG:TGs:=λvs σ H Q=>vs=[]/\Q σ H
def Gh (t:TG)(u:TGs):TGs:=λvs σ H Q=>∃ v r,vs=v::r/\t v σ H λσ' H'=>u r σ' H' Q
theorem bt:WGs X [] HG:=by
 refine⟨?_⟩;intro pins s σ H vs us Q I r h;obtain⟨e,h⟩:=h;subst e;cases r;exact assignInOrder_nil ⟨σ,H,I,h⟩
theorem av (h1:WG X e t) (h2:WGs X es u)
  (hs:(KZ (e::es) X.env).map (·.2)=assign e X.env::(KZ es X.env).map (·.2):=by rfl):WGs X (e::es) (Gh t u):=by
 have h1:=h1.go;have h2:=h2.go;refine⟨?_⟩;intro pins s σ H vs us Q I r h;obtain⟨v,vr,e1,h⟩:=h;subst e1;cases r with
 |cons r rr=>
  rw[hs];refine Ny (thn (h1 pins s σ H _ _ _ I r h) λ_ s1 ⟨σ1,H1,I1,q1⟩=>?_);exact h2 pins s1 σ1 H1 _ _ Q I1 rr q1
def GW (K:Ia)(n:Nat)(t:TGs):TG:=λv σ H Q=>∃ a xs,v=.ref a/\SqT K H a xs/\xs.length=n/\t xs σ H Q
theorem Ft {k:Nat}{n:Nat} (hc:X.calm=true) (h:PGs X es t)
  (hn:(KZ es X.env).length=n:=by rfl)(hst:(KZ es X.env).findIdx? (·.1)=none:=by rfl):PG X (.Tuple es k pos) (GW X.K n t):=by
 intro pins s σ H v u Q I r hw;obtain⟨a,xs,e1,hq,hl,hw⟩:=hw;subst e1;cases r;obtain⟨its,rv,ht,hz⟩:=I.tuple hq;refine assign_Tuple_tuple (I.ok.hd hc) ht (by simp[hn,<- hl,rv.length]) hst λh' hx=>?_
 have I1:Inv X pins σ H { s with heap:=h' }:=I.kept (t':=s.toks) λb o e=>hx b o (IK (Ip e)) e
 exact h pins _ σ H xs _ Q I1 (by simpa using rv) hw
def HS (to ti:TE)(t:G9):TG:=λv σ H Q=>to σ H λo H1=>ti σ H1 λi H2=>t o i v H2 λH3=>Q σ H3
theorem uB (ho:WE X o to) (hi:WE X i ti) (hs:He X t)
  (ha:∀ v,assign (.Subscript o i pos) X.env v=(do
   let ov <- holding [v] (L6 o X.env)
   let iv <- holding [v,ov] (L6 i X.env)
   OT pos
   holding [v,ov,iv] (setItem ov iv v)
   release [v,ov,iv] []):=by intro _;rfl):WG X (.Subscript o i pos) (HS to ti t):=by
 have ho:=ho.go;have hi:=hi.go;refine⟨?_⟩;intro pins s σ H v u Q I r h;rw[ha];refine Ib (JZ (thn (ho pins s σ H _ I h) λov s1 ⟨x,H1,I1,r1,q1⟩=>?_));refine Ib (JZ (thn (hi pins s1 σ H1 _ I1 q1) λiv s2 ⟨y,H2,I2,r2,q2⟩=>?_));refine Ib (K4 (Ib (JZ (thn (hs pins s2 σ H2 x y v ov iv u _ I2 r1 r2 r q2) λ_ s3 ⟨H3,I3,q3⟩=>?_))));exact wpAny_release ⟨σ,H3,I3,q3⟩
def GF (te:TE)(g:TG):TS:=λD σ H=>te σ H λx H1=>g x σ H1 D.nx
theorem gY (he:WE X e te) (hg:WG X tg g) (hs:swapsWithSole [tg] e pos.line X.env=pure false:=by rfl) (hw:swappedStores [tg] e X.env=pure none:=by rfl)
  (h1:(KZ [tg] X.env).map (·.2)=[assign tg X.env]:=by rfl):WS X (.Assign [tg] e pos) (GF te g):=by
 have he:=he.go;have hg:=hg.go;refine⟨?_⟩;intro pins s σ H D I h;refine wpAny_Assign_stores (thn (he pins s σ H _ I h) λv s1 ⟨x,H1,I1,r1,q1⟩=>?_) hs hw;rw[h1];exact thn (hg pins s1 σ H1 x v _ I1 r1 q1) λ_ s2 q=>q
theorem Dg {i:Nat} (hN:X.N.Nodup) (hi:X.N[i]?=some x) (hx:Loc X.env.scope x) (he:WE X e te) (hs:N5 e (some (.Name x pos')) pos.line X.env=pure false:=by rfl) (hf:X.fn x=true\/X.env.scope.names.lookup x=some .local:=by first | exact .inl rfl | exact .inr rfl | assumption) :
  WS X (.Assign [.Name x pos'] e pos) (GF te (wM i)):=by
 have he:=he.go;refine⟨?_⟩;intro pins s σ H D I h;refine wpAny_Assign_Name (thn (he pins s σ H _ I h) λv s1 ⟨y,H1,I1,r1,q1⟩=>?_) hs;exact kB I1 hN hi hx r1 (λs2 I2=>⟨_,H1,I2,q1⟩) hf
def HZ (i j:Nat)(ta:TA):TS:=λD σ H=>ta σ H λvs H1=>∃ v w,vs=[v,w]/\D.nx ((σ.set i (some v)).set j (some w)) H1
theorem k_ {i j:Nat}{kt k2 pt2} (hc:X.calm=true) (hN:X.N.Nodup) (hi:X.N[i]?=some x) (hj:X.N[j]?=some y) (hij:i ≠ j)
  (hx:X.env.scope.names.lookup x=some .local)(hy:X.env.scope.names.lookup y=some .local)(ha:WA X [a,b] ta)
  (hw:swappedStores [.Tuple [.Name x px,.Name y py] kt pt] (.Tuple [a,b] k2 pt2) X.env=pure (some [x,y]))
  (hs:swapsWithSole [.Tuple [.Name x px,.Name y py] kt pt] (.Tuple [a,b] k2 pt2) pos.line X.env=pure false:=by rfl):
  WS X (.Assign [.Tuple [.Name x px,.Name y py] kt pt] (.Tuple [a,b] k2 pt2) pos) (HZ i j ta):=by
 have ha:=ha.go;refine⟨?_⟩;intro pins s σ H D I h;rw[exec_Assign_arm];refine Ib (K4 ?_);rw[hs];refine Ib (Ig ?_);rw[IY (by decide)];refine Ib (Tuple_ (thn (ha _ pins s σ H _ I h) λus s1 ⟨vs,H1,I1,r1,q1⟩=>?_));obtain⟨v,w,e1,q1⟩:=q1;subst e1;obtain⟨u1,u2,rfl,rv,rw'⟩:∃ u1 u2,us=[u1,u2]/\c9 v u1/\c9 w u2:=by
  cases r1 with
  |cons p q=>
   cases q with
   |cons p' q'=>
    cases q';exact⟨_,_,rfl,p,p'⟩
 refine JB ?_ (by show 2<=II;decide);have I2:Inv X pins σ H1 { s1 with heap:=s1.heap.push { cls:=.type "tuple",data:=.seq [u1,u2].toArray } }:=I1.kept (t':=s1.toks) λb o e=>Ic _ e
 rw[hw];refine Ib (Ig ?_);show IB (IT X.prog X.w) X.A (do rule "assign.swapped-stores";let items <- unpackItems (.ref s1.heap.objs.size) 2 none;PV [λv=>bindName X.env y v,λv=>bindName X.env x v] items.reverse;pure Flow.next) _ _ _;refine Ib (Me (Ib (unpackItems_tuple (items:=#[u1,u2]) (I.ok.hd hc) (IsTup.new s1.heap _) λh' hx'=>?_)));have I3:=I2.kept (h':=h') (t':=s1.toks) λb o e=>hx' b o (IK (Ip e)) e
 show IB _ _ (PV [λv=>bindName X.env y v,λv=>bindName X.env x v] [u2,u1]>>=λ_=>pure Flow.next) _ _ _;refine Ib (Ny (wpAny_bindName (kB I3 hN hj (.inl hy) rw' (λs2 I4=>?_) (.inr hy))));refine Ny (wpAny_bindName (kB I4 hN hi (.inl hx) rv (λs3 I5=>assignInOrder_nil (Ig ?_)) (.inr hx)));rw[List.set_comm _ _ (KH hij)] at I5;exact⟨_,H1,I5,q1⟩
def HI (i:Nat)(te:TE)(ti:TIp):TS:=λD σ H=>∃ x,σ[i]?=some (some x)/\te σ H λy H1=>ti x y H1 λz H2=>D.nx (σ.set i (some z)) H2
theorem u_ {i:Nat} (hN:X.N.Nodup) (hi:X.N[i]?=some x) (hx:Loc X.env.scope x) (he:WE X e te) (ho:PIp X op ti) (hf:X.fn x=true\/X.env.scope.names.lookup x=some .local:=by first | exact .inl rfl | exact .inr rfl | assumption) :
  WS X (.AugAssign (.Name x pos') op e pos) (HI i te ti):=by
 have he:=he.go;refine⟨?_⟩;intro pins s σ H D I h;obtain⟨v,e1,h⟩:=h;obtain⟨m,hn,hl⟩:=I.loc;have vis:Vis X.env.scope x:=by rcases hx with k|k;exact .inl k;exact .inr (.inl k)
 obtain⟨u,r,l⟩:=hl i x v hi e1 vis;refine wpAny_AugAssign_Name ?_;have go:IB (IT X.prog X.w) X.A (L6 e X.env) (λw s₂=>IB (IT X.prog X.w) X.A (inplaceOp op u w) (λr s₃=>IB (IT X.prog X.w) X.A (storeName X.env x r) (λ_=>SP X pins D .next) X.xe s₃) X.xe s₂) X.xe s:=by
  refine thn (he pins s σ H _ I h) λw s1 ⟨y,H1,I1,r1,q1⟩=>?_
  refine thn (ho pins s1 σ H1 v y u w _ I1 r r1 q1) λz s2 ⟨zv,H2,I2,r2,q2⟩=>?_
  exact kB I2 hN hi hx r2 (λs3 I3=>⟨_,H2,I3,q2⟩) hf
 rcases l with ⟨hk,hm⟩|⟨hk,c,hc,hcell⟩
 ·exact MV I.ok.kind hk hn hm go
 ·rcases hk with hk|hk
  ·exact wpAny_loadName_cell I.ok.kind hk hc hcell go
  ·rcases hx with k|k
   ·have:X.env.scope.names.lookup x=some .free:=hk;rw[k] at this;cases this
   ·have:X.env.scope.names.lookup x=some .free:=hk;rw[k] at this;cases this
def ipI (f:Int->Int->Int):TIp:=λx y H Q=>∃ i j,x=.int i/\y=.int j/\Q (.int (f i j)) H
theorem Fm:PIp X .Add (ipI λi j=>i+j):=by
 intro pins s σ H x y v u Q I r1 r2 h;obtain⟨i,j,e1,e2,q⟩:=h;subst e1;subst e2;obtain⟨t,rfl⟩:=r1;obtain⟨t',rfl⟩:=r2;exact iadd_int ⟨.int _,H,I.tok _,⟨_,rfl⟩,q⟩
end
section
variable {X:Cx}{pos:Pos}
def EG (c:TT)(tb:TS):TS:=λD σ H=>∃ W:Nat->St->Hp->Prop,(∃ m,W m σ H)/\∀ m σ H,W m σ H ->
 c σ H λb H1=>if b=true then ∃ N:St->Hp->Prop,(∀ σ' H',N σ' H'->∃ m',m'<m/\W m' σ' H')/\tb { D with nx:=N,ct:=N,bk:=D.nx } σ H1 else D.nx σ H1
theorem mZ (hp:PassesOwn (IT X.prog X.w) X.A X.env X.xe)(hc:WT X c tc)(hb:WSs X body tb):WS X (.While c body [] pos) (EG tc tb):=by
 have hc:=hc.go;have hb:=hb.go;refine⟨?_⟩;intro pins s σ H D I h;obtain⟨W,⟨m0,w0⟩,tR⟩:=h;refine wpAny_While (codeAny_whileLoop (λn s'=>∃ σ' H',Inv X pins σ' H' s'/\W n σ' H') ?_ m0 ⟨σ,H,I,w0⟩);rintro n s1 ⟨σ1,H1,I1,w1⟩;refine Le hp (thn (hc pins s1 σ1 H1 _ I1 (tR n σ1 H1 w1)) λb s2 ⟨H2,I2,q2⟩=>?_);cases b with
 |true=>
  obtain⟨N,hN,q2⟩:=q2;rw[Jh rfl];refine Le hp (thn (hb pins s2 σ1 H2 _ I2 q2) λf s3 q3=>?_);cases f with
  |next=>
   obtain⟨σ3,H3,I3,n3⟩:=q3;obtain⟨m',hm,w3⟩:=hN σ3 H3 n3;exact⟨m',hm,σ3,H3,I3,w3⟩
  |cont=>
   obtain⟨σ3,H3,I3,n3⟩:=q3;obtain⟨m',hm,w3⟩:=hN σ3 H3 n3;exact⟨m',hm,σ3,H3,I3,w3⟩
  |brk=>exact q3
  |ret v=>exact q3
 |false=>
  rw[IY JC];exact Nm ⟨σ1,H2,I2,q2⟩
end
structure It where
 go:Nat->Hp->Prop
 yld:Nat->Hp->V->Hp->Prop
 stop:Nat->Hp->Prop
def ww (X:Cx)(pins:List (Iv×Obj))(H:Hp)(b:Iv):Prop:=
 H b=none/\b≠X.env.locals/\b∉X.fs/\(b∈X.ex\/X.s₀.heap.objs.size<=b)/\(∀ x c,X.env.cells.lookup x=some c->c≠b)/\∀ p∈X.pn++pins,p.1≠b
theorem Inv.fpOk (I:Inv X pins σ H s)(hb:s.heap.objs.size<=b)(hn:H' b=none):ww X pins H' b:=by
 refine⟨hn,Kx (IA I.lt hb),I.nofs hb,.inr (IS I.sz hb),λx c e z=>?_,λp hp z=>?_⟩
 ·obtain⟨v,q⟩:=I.cell x c e;exact absurd (IA q.lt (by rw[z];exact hb)) (Ji _)
 ·exact absurd (IA (Ip (I.pin p hp).1) (by rw[z];exact hb)) (Ji _)
structure Cj (P:IN)(w:Jm)(K:Ia)(tg:KI)(J:It)(fp:List Iv)(it:Iv)(tn:Nat->Kl->Prop):Prop where
 mem:it∈fp
 obj:∀ i h,tn i h->∀ b∈fp,∃ o,h.get? b=some o/\∀ v,o.data≠.cell v
 keep:∀ i h h',tn i h->(∀ b∈fp,∀ o,h.get? b=some o->h'.get? b=some o)->tn i h'
 item:∀ (X:Cx),X.prog=P->X.w=w->X.K=K->X.calm=true->∀ (i:Nat) (pins:List (Iv×Obj)) (s:Im) (σ:St) (H:Hp) (E:Ih->Im->Prop),Inv X pins σ H s->(∀ b∈fp,ww X pins H b)->tn i s.heap->J.go i H ->
  IB (IT P w) X.A (MR (.ref it)) (λr s1=>∃ u,r=some u /\
   IB (IT P w) X.A (Mq tg (.ref it) u) (λ_ s2=>∃ x H',Inv X pins σ H' s2/\c9 x u/\J.yld i H x H'/\tn (i+1) s2.heap/\∀ b∈fp,H' b=none) E s1) E s
 done:∀ (X:Cx),X.prog=P->X.w=w->X.K=K->X.calm=true->∀ (i:Nat) (pins:List (Iv×Obj)) (s:Im) (σ:St) (H:Hp) (E:Ih->Im->Prop),Inv X pins σ H s->(∀ b∈fp,ww X pins H b)->tn i s.heap->J.stop i H ->
  IB (IT P w) X.A (MR (.ref it)) (λr s1=>r=none/\Inv X pins σ H s1) E s
 self:∀ (A:JA) (i:Nat) (s:Im) (Q:Ih->Im->Prop) (E:Ih->Im->Prop),tn i s.heap->Q (.ref it) s->IB (IT P w) A (PX (.ref it)) Q E s
abbrev TI:=St->Hp->(It->Hp->Prop)->Prop
def PIE (X:Cx)(pins:List (Iv×Obj))(σ:St)(tg:KI)(R:It->Hp->Prop)(itv:Ih)(s2:Im):Prop:=
 ∃ (it:Iv) (fp:List Iv) (tn:Nat->Kl->Prop) (J:It) (H':Hp),itv=.ref it/\Inv X pins σ H' s2/\Cj X.prog X.w X.K tg J fp it tn/\tn 0 s2.heap/\(∀ b∈fp,ww X pins H' b)/\R J H'
def PI (X:Cx)(tg iter:KI)(wi:TI):Prop:=
 ∀ (pins:List (Iv×Obj)) (s:Im) (σ:St) (H:Hp) (R:It->Hp->Prop),Inv X pins σ H s->wi σ H R ->
  IB (IT X.prog X.w) X.A (L6 iter X.env) (λv s1=>IB (IT X.prog X.w) X.A (PX v) (PIE X pins σ tg R) X.xe s1) X.xe s
structure WI (X:Cx)(tg e:KI)(t:TI):Prop where
 go:PI X tg e t
theorem CZ (ho:s.heap.get? it=some o) (hc:o.cls=.type n) (hd:o.data=.fields vs)
  (hn:["enumerate","zip","dict_itemiterator","dict_reverseitemiterator","odict_iterator","itertools.zip_longest","itertools.pairwise"].contains n=false)(hQ:Q () s):IB M A (Mq tg (.ref it) u) Q E s:=by
 unfold Mq;cases tg<;>first
  |exact Ig hQ
  | (cases u <;> first
    |exact Ig hQ
    | (refine Ib (wpAny_load ho ?_)
       rw[hc,hd];show IB M A (if(["enumerate","zip","dict_itemiterator","dict_reverseitemiterator","odict_iterator","itertools.zip_longest","itertools.pairwise"].contains n&&vs[0]?==some (Ll _))=true then _ else _) Q E s;rw[IY (by intro h;rw[hn,LM] at h;cases h)];exact Ig hQ))
def Itl (K:Ia)(a:Iv):It:=
 ⟨λi H=>∃ xs x,SqL K H a xs/\xs[i]?=some x,λi H x H'=>H'=H/\∀ xs,SqL K H a xs->xs[i]?=some x,λi H=>∃ xs,SqL K H a xs/\xs.length<=i⟩
def Itt (K:Ia)(a:Iv):It:=
 ⟨λi H=>∃ xs x,SqT K H a xs/\xs[i]?=some x,λi H x H'=>H'=H/\∀ xs,SqT K H a xs->xs[i]?=some x,λi H=>∃ xs,SqT K H a xs/\xs.length<=i⟩
def Itr (lo:Int)(n:Nat):It:=⟨λi _=>i<n,λi H x H'=>H'=H/\x=.int (lo+i),λi _=>n<=i⟩
theorem zW {P:IN}{w:Jm}{K:Ia}{tg:KI}(a it:Iv):Cj P w K tg (Itl K a) [it] it (λi h=>h.IsListIter it a i) where
 mem:=by simp
 obj:=λi h st b hb=>by
  have e:b=it:=by simpa using hb
  subst e;obtain⟨o,e,c,d⟩:=st;exact⟨o,e,λv z=>by rw[d] at z;cases z⟩
 keep:=λi h h' st k=>st.at λo e=>k it (by simp) o e
 item:=by
  intro X hP hw hK hc i pins s σ H E I hf st hg;subst hP hw hK;obtain⟨xs,x,hq,hx⟩:=hg;obtain⟨its,rv,p,hz⟩:=I.list hq;obtain⟨u,hu,ru⟩:=rv.get hx;obtain⟨f0,f1,f2,f3,f4,f5⟩:=hf it (by simp);refine Oz st p.isList (x:=u) (by simpa using hu) λh' st' sb=>?_
  have I1:Inv X pins σ H { s with heap:=h' }:=I.turned (t':=s.toks) (λb o hb e=>(sb.2 b hb).trans e) f0 f1 f3 f4 f5;obtain⟨o,e,c,d⟩:=id st';exact⟨u,rfl,CZ (s:={ s with heap:=h' }) e c d (by decide) ⟨x,H,I1,ru,⟨rfl,λys hy=>by rw[I.list_inj hy hq];exact hx⟩,st',λb hb=>(hf b hb).1⟩⟩
 done:=by
  intro X hP hw hK hc i pins s σ H E I hf st hg;subst hP hw hK;obtain⟨xs,hq,hx⟩:=hg;obtain⟨its,rv,p,hz⟩:=I.list hq;obtain⟨f0,f1,f2,f3,f4,f5⟩:=hf it (by simp);have hl:=rv.length;exact wpAny_pyNext_list_end (I.ok.hd hc) st p.isList (by simp;omega) λh' eb=>⟨rfl,I.turned (t':=s.toks) (λb o hb e=>eb b o hb e) f0 f1 f3 f4 f5⟩
 self:=λ_ _ _ _ _ st h=>wpAny_pyIter_listiter st h
theorem xD {P:IN}{w:Jm}{K:Ia}{tg:KI}(a it:Iv):Cj P w K tg (Itt K a) [it] it (λi h=>h.IsTupleIter it a i) where
 mem:=by simp
 obj:=λi h st b hb=>by
  have e:b=it:=by simpa using hb
  subst e;obtain⟨o,e,c,d⟩:=st;exact⟨o,e,λv z=>by rw[d] at z;cases z⟩
 keep:=λi h h' st k=>st.at λo e=>k it (by simp) o e
 item:=by
  intro X hP hw hK hc i pins s σ H E I hf st hg;subst hP hw hK;obtain⟨xs,x,hq,hx⟩:=hg;obtain⟨its,rv,p,hz⟩:=I.tuple hq;obtain⟨u,hu,ru⟩:=rv.get hx;obtain⟨f0,f1,f2,f3,f4,f5⟩:=hf it (by simp);refine wpAny_pyNext_tuple_item st (show s.heap.IsTuple a its.toArray from p) (x:=u) (by simpa using hu) λh' st' sb=>?_
  have I1:Inv X pins σ H { s with heap:=h' }:=I.turned (t':=s.toks) (λb o hb e=>(sb.2 b hb).trans e) f0 f1 f3 f4 f5;obtain⟨o,e,c,d⟩:=id st';exact⟨u,rfl,CZ (s:={ s with heap:=h' }) e c d (by decide) ⟨x,H,I1,ru,⟨rfl,λys hy=>by rw[I.tuple_inj hy hq];exact hx⟩,st',λb hb=>(hf b hb).1⟩⟩
 done:=by
  intro X hP hw hK hc i pins s σ H E I hf st hg;subst hP hw hK;obtain⟨xs,hq,hx⟩:=hg;obtain⟨its,rv,p,hz⟩:=I.tuple hq;obtain⟨f0,f1,f2,f3,f4,f5⟩:=hf it (by simp);have hl:=rv.length;exact wpAny_pyNext_tuple_end (I.ok.hd hc) st (show s.heap.IsTuple a its.toArray from p) (by simp;omega) λh' eb=>⟨rfl,I.turned (t':=s.toks) (λb o hb e=>eb b o hb e) f0 f1 f3 f4 f5⟩
 self:=λ_ _ _ _ _ st h=>wpAny_pyIter_tupleiter st h
theorem wR {P:IN}{w:Jm}{K:Ia}{tg:KI}(it:Iv)(lo:Int)(n:Nat):Cj P w K tg (Itr lo n) [it] it (λi h=>IsRangeIter h it (lo+(i:Nat)*1) ((n:Int)-(i:Nat)) 1) where
 mem:=by simp
 obj:=λi h st b hb=>by
  have e:b=it:=by simpa using hb
  subst e;exact⟨_,st,λv z=>by
   have z':Data.fields _=Data.cell v:=z;cases z'⟩
 keep:=λi h h' st k=>k it (by simp) _ st
 item:=by
  intro X hP hw hK hc i pins s σ H E I hf st hg;subst hP hw hK;obtain⟨f0,f1,f2,f3,f4,f5⟩:=hf it (by simp);have W:=Walks.range (prog:=X.prog) (w:=X.w) (I.ok.hd hc) it lo 1 n;refine W.item i s _ _ hg st λv h' tk hv st' kk=>?_
  obtain⟨t,rfl⟩:=hv;have I1:Inv X pins σ H { s with heap:=h',toks:=tk }:=I.turned (λb o hb e=>kk b o (by simpa using hb) e) f0 f1 f3 f4 f5;refine⟨_,rfl,CZ (s:={ s with heap:=h',toks:=tk }) (n:="range_iterator") st' rfl rfl (by decide) ⟨.int (lo+i),H,I1,⟨t,?_⟩,⟨rfl,rfl⟩,st',λb hb=>(hf b hb).1⟩⟩;rw[Int.mul_one]
 done:=by
  intro X hP hw hK hc i pins s σ H E I hf st hg;subst hP hw hK;obtain⟨f0,f1,f2,f3,f4,f5⟩:=hf it (by simp);exact wpAny_pyNext_range_end (I.ok.hd hc) st (by have:n<=i:=hg;omega) λh' eb=>⟨rfl,I.turned (t':=s.toks) (λb o hb e=>eb b o hb e) f0 f1 f3 f4 f5⟩
 self:=λ_ _ _ _ _ st h=>wpAny_pyIter_rangeiter st h
section
variable {X:Cx}{tg:KI}
theorem Ax {lo hi:Int}{tk:Nat} (I:Inv X pins σ H s) (h1:-(2 ^ 62) <= lo) (h2:lo < 2 ^ 62) (h3:-(2 ^ 62) <= hi) (h4:hi < 2 ^ 62)
  (q:R (Itr lo (hi-lo).toNat) H):IB (IT X.prog X.w) X.A (PX (.ref s.heap.objs.size)) (PIE X pins σ tg R) E { s with heap:=s.heap.push { cls:=.type "range",data:=.fields #[.int lo t,.int hi u,.int 1 v] },toks:=tk }:=by
 refine wpAny_pyIter_range (IsRange.new ..) (small_one h1 h2 h3 h4) ?_;have I1:Inv X pins σ H { s with heap:=s.heap.push { cls:=.type "range",data:=.fields #[.int lo t,.int hi u,.int 1 v] },toks:=tk }:=I.kept λb o e=>Ic _ e
 refine⟨(s.heap.push { cls:=.type "range",data:=.fields #[.int lo t,.int hi u,.int 1 v] }).objs.size,[(s.heap.push { cls:=.type "range",data:=.fields #[.int lo t,.int hi u,.int 1 v] }).objs.size],_,_,H,rfl,
  I1.kept (t':=tk) λb o e=>Ic _ e,wR _ lo (hi-lo).toNat,?_,λb hb=>?_,q⟩
 ·have e1:lo+((0:Nat):Int)*1=lo:=by simp
  have e2:(((hi-lo).toNat:Nat):Int)-((0:Nat):Int)=Builtin.Range.rangeSize lo hi 1:=by rw[PY];split<;>omega
  show IsRangeIter _ _ (lo+((0:Nat):Int)*1) ((((hi-lo).toNat:Nat):Int)-((0:Nat):Int)) 1;rw[e1,e2];exact Io _ rfl
 ·have e:b=(s.heap.push { cls:=.type "range",data:=.fields #[.int lo t,.int hi u,.int 1 v] }).objs.size:=by simpa using hb
  subst e;exact I1.fpOk (Il _) (I1.hok.fresh (Il _))
def Ge (ta:TA):TI:=λσ H R=>ta σ H λvs H1=>∃ j:Int,vs=[.int j]/\-(2^62)<=j/\j<2^62/\R (Itr 0 j.toNat) H1
theorem aM (hg:Gl X "range")(hm:X.mg "range"=none)(ha:WA X [a] ta)(hs:IR [a] X.env=[(false,L6 a X.env)]:=by rfl):WI X tg (.Call (.Name "range" p) [a] [] pos) (Ge ta):=by
 have ha:=ha.go;refine⟨?_⟩;intro pins s σ H R I h;refine Call_ (ki I hg hm boot_range (Kc (thn (ha pos pins s σ H _ I h) λus s1 ⟨vs,H1,I1,r1,q1⟩=>?_) hs rfl));obtain⟨j,e,q1,q2,q⟩:=q1;subst e;cases r1 with
 |cons r rr=>
  cases rr;obtain⟨t,rfl⟩:=r;exact call_range_1 (Ax I1 (by omega) (by omega) q1 q2 (by simpa using q))
def Hu (wi:TI)(g:TG)(tb:TS):TS:=λD σ H=>wi σ H λJ H1=>∃ W:Nat->Nat->St->Hp->Prop,(∃ m,W 0 m σ H1)/\∀ i m σ H,W i m σ H ->
 (J.stop i H/\D.nx σ H)\/(J.go i H/\∃ N:St->Hp->Prop,(∀ σ' H',N σ' H'->∃ m',m'<m/\W (i+1) m' σ' H')/\∀ x H',J.yld i H x H'->g x σ H' λσ2 H2=>tb { D with nx:=N,ct:=N,bk:=D.nx } σ2 H2)
def kc (fp:List Iv)(h:Kl):List (Iv×Obj):=fp.filterMap λb=>(h.get? b).map λo=>(b,o)
theorem eX (hb:b∈fp)(e:h.get? b=some o):(b,o)∈kc fp h:=Lq.mpr ⟨b,hb,by rw[e];rfl⟩
theorem mU (hp:p∈kc fp h):p.1∈fp/\h.get? p.1=some p.2:=by
 obtain⟨b,hb,e⟩:=Lq.mp hp;cases q:h.get? b with
 |none=>rw[q] at e;cases e
 |some o=>
  rw[q] at e;have e':(b,o)=p:=Ie e;subst e';exact⟨hb,q⟩
theorem Inv.pinned (I:Inv X pins σ H s)(hf:∀ b∈fp,ww X pins H b)(ho:∀ b∈fp,∃ o,s.heap.get? b=some o/\∀ v,o.data≠.cell v):Inv X (pins++kc fp s.heap) σ H s:=
 I.pins_of λp hp=>(Jb.mp hp).elim (λz=>I.pin p (IC _ z)) λz=>by
  obtain⟨hb,e⟩:=mU z;obtain⟨f0,f1,f2,_⟩:=hf p.1 hb;obtain⟨o,e',d⟩:=ho p.1 hb;rw[e] at e';cases e';exact⟨e,f0,f1,f2,d⟩
theorem Inv.unpinned (I:Inv X (pins++pl) σ H s):Inv X pins σ H s:=I.pins_of λp hp=>I.pin p (IC _ (KG _ hp))
theorem dX (hp:PassesOwn (IT X.prog X.w) X.A X.env X.xe) (hc:X.calm=true) (hi:WI X tg iter wi) (hg:WG X tg g) (hb:WSs X body tb)
  (hs:∀ x,J' iter X.env x=pure x:=by intro _;rfl):WS X (.For tg iter body [] pos) (Hu wi g tb):=by
 have hi:=hi.go;have hg:=hg.go;have hb:=hb.go;refine⟨?_⟩;intro pins s σ H D I h;refine wpAny_For (thn (hi pins s σ H _ I h) λv s1 h1=>thn h1 λitv s2 h2=>?_) hs;obtain⟨it,fp,tn,J,H2,e,I2,T,st2,f2,W,⟨m0,w0⟩,tR⟩:=h2;subst e;have stat:∀ {H':Hp},(∀ b∈fp,H' b=none)->∀ b∈fp,ww X pins H' b:=λhn b hb=>⟨hn b hb,(f2 b hb).2⟩
 refine codeAny_forLoop_any (λn s'=>∃ i σ' H',Inv X pins σ' H' s'/\tn i s'.heap/\(∀ b∈fp,H' b=none)/\W i n σ' H') ?_ m0 ⟨0,σ,H2,I2,st2,λb hb=>(f2 b hb).1,w0⟩;rintro n s3 ⟨i,σ3,H3,I3,st3,fr3,w3⟩;rcases tR i n σ3 H3 w3 with ⟨stop,qn⟩|⟨go,N,hN,step⟩
 ·refine Le hp (thn (T.done X rfl rfl rfl hc i pins s3 σ3 H3 X.xe I3 (stat fr3) st3 stop) λr s4 ⟨hr,I4⟩=>?_);subst hr;exact Nm ⟨σ3,H3,I4,qn⟩
 ·refine Le hp (thn (T.item X rfl rfl rfl hc i pins s3 σ3 H3 X.xe I3 (stat fr3) st3 go) λr s4 ⟨u,hr,h4⟩=>?_);subst hr;refine Le hp (thn h4 λ_ s5 ⟨x,H5,I5,r5,y5,st5,fr5⟩=>?_);have I5':=I5.pinned (stat fr5) (T.obj _ _ st5);refine Le hp (thn (hg _ s5 σ3 H5 x u _ I5' r5 (step x H5 y5)) λ_ s6 ⟨σ6,H6,I6,q6⟩=>?_);refine Le hp (thn (hb _ s6 σ6 H6 _ I6 q6) λf s7 q7=>?_);have again:∀ {σ7:St}{H7:Hp},Inv X (pins++kc fp s5.heap) σ7 H7 s7->N σ7 H7->∃ m,m<n/\∃ i σ' H',Inv X pins σ' H' s7/\tn i s7.heap/\(∀ b∈fp,H' b=none)/\W i m σ' H':=λ{σ7 H7} I7 n7=>by
   obtain⟨m',hm,w7⟩:=hN σ7 H7 n7;refine⟨m',hm,i+1,σ7,H7,I7.unpinned,T.keep _ _ _ st5 λb hb o e=>(I7.pin (b,o) (IC _ (IC _ (eX hb e)))).1,λb hb=>?_,w7⟩;obtain⟨o,e,d⟩:=T.obj _ _ st5 b hb;exact(I7.pin (b,o) (IC _ (IC _ (eX hb e)))).2.1
  cases f with
  |next=>obtain⟨σ7,H7,I7,n7⟩:=q7;exact again I7 n7
  |cont=>obtain⟨σ7,H7,I7,n7⟩:=q7;exact again I7 n7
  |brk=>obtain⟨σ7,H7,I7,q7⟩:=q7;exact⟨σ7,H7,I7.unpinned,q7⟩
  |ret v=>obtain⟨x7,σ7,H7,I7,r7,q7⟩:=q7;exact⟨x7,σ7,H7,I7.unpinned,r7,q7⟩
end
theorem A' {K:Ia}{a:Iv}{xs:List V}{g:TG}{tb:TS}{D:Av}{σ:St}{H:Hp} (Pv:Nat->St->Hp->Prop) (h0:Pv 0 σ H) (hl:∀ i σ H,i <= xs.length->Pv i σ H->SqL K H a xs)
  (hs:∀ i x σ H,xs[i]?=some x->Pv i σ H->g x σ H λσ2 H2=>tb { D with nx:=Pv (i+1),ct:=Pv (i+1),bk:=D.nx } σ2 H2)(hd:∀ σ H,Pv xs.length σ H->D.nx σ H):
  ∃ W:Nat->Nat->St->Hp->Prop,(∃ m,W 0 m σ H)/\∀ i m σ H,W i m σ H ->
   ((Itl K a).stop i H/\D.nx σ H)\/((Itl K a).go i H/\∃ N:St->Hp->Prop,(∀ σ' H',N σ' H'->∃ m',m'<m/\W (i+1) m' σ' H')/\∀ x H',(Itl K a).yld i H x H'->g x σ H' λσ2 H2=>tb { D with nx:=N,ct:=N,bk:=D.nx } σ2 H2):=by
 refine⟨λi m σ H=>m=xs.length-i/\i<=xs.length/\Pv i σ H,⟨xs.length,by simp,Jj _,h0⟩,?_⟩;rintro i m σ H ⟨rfl,hi,p⟩;have q:=hl i σ H hi p
 by_cases hlt:i<xs.length
 ·refine .inr ⟨⟨xs,xs[i],q,by simp[hlt]⟩,Pv (i+1),λσ' H' p'=>⟨xs.length-(i+1),by omega,rfl,hlt,p'⟩,λx H' y=>?_⟩;obtain⟨e,y⟩:=y;subst e;exact hs i x σ _ (y xs q) p
 ·have e:i=xs.length:=by omega
  subst e;exact .inl ⟨⟨xs,q,Il _⟩,hd σ H p⟩
theorem D5 {K:Ia}{a:Iv}{xs:List V}{g:TG}{tb:TS}{D:Av}{σ:St}{H:Hp} (Pv:Nat->St->Hp->Prop) (h0:Pv 0 σ H) (hl:∀ i σ H,i <= xs.length->Pv i σ H->SqT K H a xs)
  (hs:∀ i x σ H,xs[i]?=some x->Pv i σ H->g x σ H λσ2 H2=>tb { D with nx:=Pv (i+1),ct:=Pv (i+1),bk:=D.nx } σ2 H2)(hd:∀ σ H,Pv xs.length σ H->D.nx σ H):
  ∃ W:Nat->Nat->St->Hp->Prop,(∃ m,W 0 m σ H)/\∀ i m σ H,W i m σ H ->
   ((Itt K a).stop i H/\D.nx σ H)\/((Itt K a).go i H/\∃ N:St->Hp->Prop,(∀ σ' H',N σ' H'->∃ m',m'<m/\W (i+1) m' σ' H')/\∀ x H',(Itt K a).yld i H x H'->g x σ H' λσ2 H2=>tb { D with nx:=N,ct:=N,bk:=D.nx } σ2 H2):=by
 refine⟨λi m σ H=>m=xs.length-i/\i<=xs.length/\Pv i σ H,⟨xs.length,by simp,Jj _,h0⟩,?_⟩;rintro i m σ H ⟨rfl,hi,p⟩;have q:=hl i σ H hi p
 by_cases hlt:i<xs.length
 ·refine .inr ⟨⟨xs,xs[i],q,by simp[hlt]⟩,Pv (i+1),λσ' H' p'=>⟨xs.length-(i+1),by omega,rfl,hlt,p'⟩,λx H' y=>?_⟩;obtain⟨e,y⟩:=y;subst e;exact hs i x σ _ (y xs q) p
 ·have e:i=xs.length:=by omega
  subst e;exact .inl ⟨⟨xs,q,Il _⟩,hd σ H p⟩
theorem gk {lo:Int}{n:Nat}{g:TG}{tb:TS}{D:Av}{σ:St}{H:Hp} (Pv:Nat->St->Hp->Prop) (h0:Pv 0 σ H)
  (hs:∀ i σ H,i<n->Pv i σ H->g (.int (lo+i)) σ H λσ2 H2=>tb { D with nx:=Pv (i+1),ct:=Pv (i+1),bk:=D.nx } σ2 H2)(hd:∀ σ H,Pv n σ H->D.nx σ H):
  ∃ W:Nat->Nat->St->Hp->Prop,(∃ m,W 0 m σ H)/\∀ i m σ H,W i m σ H ->
   ((Itr lo n).stop i H/\D.nx σ H)\/((Itr lo n).go i H/\∃ N:St->Hp->Prop,(∀ σ' H',N σ' H'->∃ m',m'<m/\W (i+1) m' σ' H')/\∀ x H',(Itr lo n).yld i H x H'->g x σ H' λσ2 H2=>tb { D with nx:=N,ct:=N,bk:=D.nx } σ2 H2):=by
 refine⟨λi m σ H=>m=n-i/\i<=n/\Pv i σ H,⟨n,by simp,Jj _,h0⟩,?_⟩;rintro i m σ H ⟨rfl,hi,p⟩
 by_cases hlt:i<n
 ·refine .inr ⟨hlt,Pv (i+1),λσ' H' p'=>⟨n-(i+1),by omega,rfl,hlt,p'⟩,λx H' y=>?_⟩;obtain⟨e,y⟩:=y;subst e y;exact hs i σ _ hlt p
 ·have e:i=n:=by omega
  subst e;exact .inl ⟨Il _,hd σ H p⟩
abbrev R2:=V->V->Hp->VK->Prop
def OpR (X:Cx)(f:Ih->Ih->Sem Ih)(r:R2):Prop:=
 ∀ (pins:List (Iv×Obj)) (s:Im) (σ:St) (H:Hp) (x y:V) (v u:Ih) (Q:VK),Inv X pins σ H s->c9 x v->c9 y u->r x y H Q ->
  IB (IT X.prog X.w) X.A (f v u) (EP X pins σ Q) X.xe s
def UnR (X:Cx)(f:Ih->Sem Ih)(r:V->Hp->VK->Prop):Prop:=
 ∀ (pins:List (Iv×Obj)) (s:Im) (σ:St) (H:Hp) (x:V) (v:Ih) (Q:VK),Inv X pins σ H s->c9 x v->r x H Q ->
  IB (IT X.prog X.w) X.A (f v) (EP X pins σ Q) X.xe s
def eN (X:Cx)(f:Ih)(r:List V->Hp->VK->Prop):Prop:=
 ∀ (pins:List (Iv×Obj)) (s:Im) (σ:St) (H:Hp) (xs:List V) (us:List Ih) (Q:VK),Inv X pins σ H s->bD xs us->r xs H Q ->
  IB (IT X.prog X.w) X.A (call f us) (EP X pins σ Q) X.xe s
def tOp (r:R2)(ta tb:TE):TE:=λσ H Q=>ta σ H λx H1=>tb σ H1 λy H2=>r x y H2 Q
def tUn (r:V->Hp->VK->Prop)(ta:TE):TE:=λσ H Q=>ta σ H λx H1=>r x H1 Q
def rI (C:Int->Int->Prop)(g:Int->Int->V):R2:=λx y H Q=>∃ i j,x=.int i/\y=.int j/\C i j/\Q (g i j) H
def rI0 (g:Int->Int->V):R2:=λx y H Q=>∃ i j,x=.int i/\y=.int j/\Q (g i j) H
def rU (g:Int->V):V->Hp->VK->Prop:=λx H Q=>∃ i,x=.int i/\Q (g i) H
section
variable {X:Cx}{a b c:KI}{ta tb tc:TE}{pos:Pos}
theorem Gv (ha:PE X a ta) (hb:PE X b tb) {pins:List (Iv × Obj)}{s:Im}{σ:St}{H:Hp}{R:V->V->Hp->Prop} (I:Inv X pins σ H s)
  (h:ta σ H λx H1=>tb σ H1 λy H2=>R x y H2){Q:Ih->Im->Prop}{f:Ih->Ih->Sem Ih}
  (hf:∀ v u s2 x y H2,Inv X pins σ H2 s2->c9 x v->c9 y u->R x y H2->IB (IT X.prog X.w) X.A (f v u) Q X.xe s2):
  IB (IT X.prog X.w) X.A (L6 a X.env) (λv s₁=>IB (IT X.prog X.w) X.A (L6 b X.env) (λu s₂=>IB (IT X.prog X.w) X.A (f v u) Q X.xe s₂) X.xe s₁) X.xe s:=by
 refine thn (ha pins s σ H _ I h) λv s1 ⟨x,H1,I1,r1,q1⟩=>?_
 refine thn (hb pins s1 σ H1 _ I1 q1) λu s2 ⟨y,H2,I2,r2,q2⟩=>?_
 exact hf v u s2 x y H2 I2 r1 r2 q2
theorem ar {op:Operator}{r:R2}(ho:OpR X (M2 op) r)(ha:WE X a ta)(hb:WE X b tb):WE X (.BinOp a op b pos) (tOp r ta tb):=by
 have ha:=ha.go;have hb:=hb.go;refine⟨?_⟩;intro pins s σ H Q I h;exact wpAny_BinOp (Gv ha hb I h λv u s2 x y H2 I2 rx ry q=>ho pins s2 σ H2 x y v u Q I2 rx ry q)
theorem vN (ho:UnR X (unaryOp op) r)(ha:WE X a ta):WE X (.UnaryOp op a pos) (tUn r ta):=by
 have ha:=ha.go;refine⟨?_⟩;intro pins s σ H Q I h;exact UnaryOp_ (thn (ha pins s σ H _ I h) λv s1 ⟨x,H1,I1,r1,q1⟩=>ho pins s1 σ H1 x v Q I1 r1 q1)
theorem opI {f:Ih->Ih->Sem Ih}{C:Int->Int->Prop}{g:Int->Int->Int}
  (rule:∀ (i j:Int) (t u:Tok) (s:Im) (Q:Ih->Im->Prop) (E:Ih->Im->Prop),C i j->Q (.int (g i j) s.toks) { s with toks:=s.toks+1 }->IB (IT X.prog X.w) X.A (f (.int i t) (.int j u)) Q E s):
  OpR X f (rI C λi j=>.int (g i j)):=by
 intro pins s σ H x y v u Q I rx ry h;obtain⟨i,j,rfl,rfl,hc,q⟩:=h;obtain⟨t,rfl⟩:=rx;obtain⟨t',rfl⟩:=ry;exact rule i j t t' s _ _ hc ⟨.int (g i j),H,I.tok _,⟨_,rfl⟩,q⟩
theorem Hf {f:Ih->Ih->Sem Ih}{g:Int->Int->Int}
  (rule:∀ (i j:Int) (t u:Tok) (s:Im) (Q:Ih->Im->Prop) (E:Ih->Im->Prop),Q (.int (g i j) s.toks) { s with toks:=s.toks+1 }->IB (IT X.prog X.w) X.A (f (.int i t) (.int j u)) Q E s):
  OpR X f (rI0 λi j=>.int (g i j)):=by
 intro pins s σ H x y v u Q I rx ry h;obtain⟨i,j,rfl,rfl,q⟩:=h;obtain⟨t,rfl⟩:=rx;obtain⟨t',rfl⟩:=ry;exact rule i j t t' s _ _ ⟨.int (g i j),H,I.tok _,⟨_,rfl⟩,q⟩
theorem Eg {f:Ih->Ih->Sem Ih}{g:Int->Int->Bool}
  (rule:∀ (i j:Int) (t u:Tok) (s:Im) (Q:Ih->Im->Prop) (E:Ih->Im->Prop),Q (.bool (g i j)) s->IB (IT X.prog X.w) X.A (f (.int i t) (.int j u)) Q E s):
  OpR X f (rI0 λi j=>.bl (g i j)):=by
 intro pins s σ H x y v u Q I rx ry h;obtain⟨i,j,rfl,rfl,q⟩:=h;obtain⟨t,rfl⟩:=rx;obtain⟨t',rfl⟩:=ry;exact rule i j t t' s _ _ ⟨.bl (g i j),H,I,rfl,q⟩
def Hy (i j:Int):Prop:=0<=j/\j<=1000000/\i.natAbs<2^64
theorem cP:OpR X (M2 .Add) (rI0 λi j=>.int (i+j)):=Hf λ_ _ _ _ _ _ _ q=>add_int q
theorem cS:OpR X (M2 .Sub) (rI0 λi j=>.int (i-j)):=Hf λ_ _ _ _ _ _ _ q=>sub_int q
theorem lq:OpR X (M2 .Mod) (rI (λ_ j=>0<j) λi j=>.int (i%j)):=opI λi j _ _ _ _ _ hc q=>by
 have h1:(0:Int)<j:=hc;exact mod_int' (by omega) (by rw[Int.fmod_eq_emod_of_nonneg i (by omega)];exact q)
theorem CS:OpR X (M2 .Pow) (rI Hy λi j=>.int (i^j.toNat)):=opI λ_ _ _ _ _ _ _ hc q=>pow_int_small hc.1 hc.2.1 hc.2.2 q
theorem unI {f:Ih->Sem Ih}{g:Int->Int}
  (rule:∀ (i:Int) (t:Tok) (s:Im) (Q:Ih->Im->Prop) (E:Ih->Im->Prop),Q (.int (g i) s.toks) { s with toks:=s.toks+1 }->IB (IT X.prog X.w) X.A (f (.int i t)) Q E s):
  UnR X f (rU λi=>.int (g i)):=by
 intro pins s σ H x v Q I rx h;obtain⟨i,rfl,q⟩:=h;obtain⟨t,rfl⟩:=rx;exact rule i t s _ _ ⟨.int (g i),H,I.tok _,⟨_,rfl⟩,q⟩
theorem vm:UnR X (unaryOp .USub) (rU λi=>.int (-i)):=unI λ_ _ _ _ _ q=>neg_int q
end
section
variable {X:Cx}{a b c:KI}{ta tb tc:TE}{pos:Pos}
theorem CN (I:Inv X pins σ H s)(q:Q (.bl k) H)(e:k=k'):EP X pins σ Q (.bool k') s:=by
 subst e;exact⟨.bl k,H,I,rfl,q⟩
theorem wx:OpR X (Kf .Lt) (rI0 λi j=>.bl (decide (i<j))):=Eg λ_ _ _ _ _ _ _ q=>lt_int q
theorem tX:OpR X (Kf .LtE) (rI0 λi j=>.bl (decide (i<=j))):=Eg λ_ _ _ _ _ _ _ q=>le_int q
theorem wL:OpR X (Kf .Gt) (rI0 λi j=>.bl (decide (j<i))):=Eg λ_ _ _ _ _ _ _ q=>gt_int q
theorem GI:OpR X (Kf .GtE) (rI0 λi j=>.bl (decide (j<=i))):=Eg λ_ _ _ _ _ _ _ q=>ge_int q
theorem Fc:OpR X (Kf .Is) (λx y H Q=>y=.non/\Q (.bl (decide (x=.non))) H):=by
 intro pins s σ H x y v u Q I rx ry h;obtain⟨rfl,q⟩:=h;cases ry;refine is_none_gen (CN I q ?_);cases x<;>first
  |(cases rx;rfl)
  |(obtain⟨t,rfl⟩:=rx;rfl)
theorem aX (b:KI)(h:op≠.In:=by decide)(h2:op≠.NotIn:=by decide):Og op b=false:=by
 have e1:(op==CmpOp.In)=false:=by cases op<;>first|rfl|exact absurd rfl h
 have e2:(op==CmpOp.NotIn)=false:=by cases op<;>first|rfl|exact absurd rfl h2
 cases b<;>simp[Og,e1,e2]
theorem bM (ho:OpR X (Kf op) r)(ha:WE X a ta)(hb:WE X b tb)(hm:Og op b=false):WE X (.Compare a [op] [b] pos) (tOp r ta tb):=by
 have ha:=ha.go;have hb:=hb.go;refine⟨?_⟩;intro pins s σ H Q I h;exact wpAny_Compare1 (Gv ha hb I h λv u s2 x y H2 I2 rx ry q=>ho pins s2 σ H2 x y v u Q I2 rx ry q) hm
def Fo (t:TE):TT:=λσ H Q=>t σ H λx H'=>∃ k,x=.bl k/\Q k H'
theorem aU (ho:OpR X (Kf op) r)(ha:WE X a ta)(hb:WE X b tb)(hm:Og op b=false):WT X (.Compare a [op] [b] pos) (Fo (tOp r ta tb)):=by
 have ha:=ha.go;have hb:=hb.go;refine⟨?_⟩;intro pins s σ H Q I h;refine wpAny_isTrue_Compare1 (thn (ha pins s σ H _ I h) λv s1 ⟨x,H1,I1,r1,q1⟩=>thn (hb pins s1 σ H1 _ I1 q1) λu s2 ⟨y,H2,I2,r2,q2⟩=>
  thn (ho pins s2 σ H2 x y v u _ I2 r1 r2 q2) λc s3 ⟨z,H3,I3,r3,k,e,q3⟩=>?_) hm
 subst e;cases r3;exact Ku ⟨H3,I3,q3⟩
def Cu (r r':R2)(ta tb tc:TE):TE:=λσ H Q=>ta σ H λx H1=>tb σ H1 λy H2=>r x y H2 λz H3=>∃ k,z=.bl k /\
 (if k=true then tc σ H3 λw' H4=>r' y w' H4 Q else Q (.bl false) H3)
theorem tm (ho:OpR X (Kf op) r) (ho':OpR X (Kf op') r') (ha:WE X a ta) (hb:WE X b tb) (hc:WE X c tc)
  (hm:lastMarks [op,op'] [b,c]=false:=by with_unfolding_all rfl):WE X (.Compare a [op,op'] [b,c] pos) (Cu r r' ta tb tc):=by
 have ha:=ha.go;have hb:=hb.go;have hc:=hc.go;refine⟨?_⟩;intro pins s σ H Q I h;refine Compare_chain (thn (ha pins s σ H _ I h) λv s1 ⟨x,H1,I1,r1,q1⟩=>chain_link (thn (hb pins s1 σ H1 _ I1 q1) λu s2 ⟨y,H2,I2,r2,q2⟩=>
  thn (ho pins s2 σ H2 x y v u _ I2 r1 r2 q2) λd s3 ⟨z,H3,I3,r3,k,e,q3⟩=>?_)) hm
 subst e;cases r3;refine Ku ?_;cases k with
 |false=>exact ite_ff ⟨.bl false,H3,I3,rfl,q3⟩
 |true=>exact ite_tt (chain_last (thn (hc pins s3 σ H3 _ I3 q3) λw' s4 ⟨z',H4,I4,r4,q4⟩=>ho' pins s4 σ H4 y z' u w' Q I4 r2 r4 q4))
theorem yn (ho:OpR X (Kf op) r) (ho':OpR X (Kf op') r') (ha:WE X a ta) (hb:WE X b tb) (hc:WE X c tc)
  (hm:lastMarks [op,op'] [b,c]=false:=by with_unfolding_all rfl):WT X (.Compare a [op,op'] [b,c] pos) (Fo (Cu r r' ta tb tc)):=by
 have ha:=ha.go;have hb:=hb.go;have hc:=hc.go;refine⟨?_⟩;intro pins s σ H Q I h;refine isTrue_chain (thn (ha pins s σ H _ I h) λv s1 ⟨x,H1,I1,r1,q1⟩=>test_link (thn (hb pins s1 σ H1 _ I1 q1) λu s2 ⟨y,H2,I2,r2,q2⟩=>
  thn (ho pins s2 σ H2 x y v u _ I2 r1 r2 q2) λd s3 ⟨z,H3,I3,r3,k,e,q3⟩=>?_)) hm
 subst e;cases r3;refine Ku ?_;cases k with
 |false=>
  obtain⟨k',e',q'⟩:=q3;cases e';exact ite_ff ⟨H3,I3,q'⟩
 |true=>
  refine ite_tt (test_last (thn (hc pins s3 σ H3 _ I3 q3) λw' s4 ⟨z',H4,I4,r4,q4⟩=>thn (ho' pins s4 σ H4 y z' u w' _ I4 r2 r4 q4) λd' s5 ⟨z2,H5,I5,r5,k2,e2,q5⟩=>?_));subst e2;cases r5;exact Ku ⟨H5,I5,q5⟩
theorem o8:(II:Nat)<2^63:=by rw[JK];decide
theorem mY (r:bD [x] us):∃ u,us=[u]/\c9 x u:=by
 cases r with
 |cons r1 r2=>cases r2;exact⟨_,rfl,r1⟩
theorem q_ (r:bD [x,y] us):∃ u w',us=[u,w']/\c9 x u/\c9 y w':=by
 cases r with
 |cons r1 r2=>
  cases r2 with
  |cons r3 r4=>cases r4;exact⟨_,_,rfl,r1,r3⟩
theorem vJ:eN X (.builtin "abs") (λxs H Q=>∃ i,xs=[.int i]/\Q (.int (if i<0 then -i else i)) H):=by
 intro pins s σ H xs us Q I r h;obtain⟨i,rfl,q⟩:=h;obtain⟨u,rfl,t,rfl⟩:=mY r;exact call_abs_int λu tk=>⟨.int (if i<0 then -i else i),H,I.tok _,⟨_,rfl⟩,q⟩
theorem ye (hc:X.calm=true):eN X (.builtin "max") (λxs H Q=>∃ i j,xs=[.int i,.int j]/\Q (.int (if j>i then j else i)) H):=by
 intro pins s σ H xs us Q I r h;obtain⟨i,j,rfl,q⟩:=h;obtain⟨u,w',rfl,⟨t,rfl⟩,⟨t',rfl⟩⟩:=q_ r;refine max_two_ints (I.ok.hd hc) λh' tk k=>⟨_,H,I.kept k,?_,q⟩
 by_cases hj:j>i
 ·rw[Jh hj,Jh hj];exact⟨_,rfl⟩
 ·rw[IY hj,IY hj];exact⟨_,rfl⟩
theorem iG (hc:X.calm=true):eN X (.builtin "min") (λxs H Q=>∃ i j,xs=[.int i,.int j]/\Q (.int (if j<i then j else i)) H):=by
 intro pins s σ H xs us Q I r h;obtain⟨i,j,rfl,q⟩:=h;obtain⟨u,w',rfl,⟨t,rfl⟩,⟨t',rfl⟩⟩:=q_ r;refine min_two_ints (I.ok.hd hc) λh' tk k=>⟨_,H,I.kept k,?_,q⟩
 by_cases hj:j<i
 ·rw[Jh hj,Jh hj];exact⟨_,rfl⟩
 ·rw[IY hj,IY hj];exact⟨_,rfl⟩
end
structure DW (h:Kl)(x dx C:Iv)(mA:Str->Option Ih):Prop where
 obj:h.get? x=some (KQ C dx)
 ns:h.Ns1 dx mA
 ne:dx≠x
theorem zT {h:Kl}{dx:Iv}{mA:Str->Option Ih}(n:h.Ns1 dx mA):∃ od,h.get? dx=some od/\∀ name,NK name od=some (mA name):=by
 obtain⟨o,es,ep,ho,hd,hk,_,hm⟩:=n;refine⟨o,ho,λname=>?_⟩;have e:=hm name;unfold nsFind findBy at e;rw[<- Array.find?_toList] at e;unfold NK;rw[hd];dsimp only
 split
 ·rename_i y q
  rw[q] at e;exact Lr some e
 ·rename_i q
  rw[q] at e;have a:es.toList.any (·.refKey)=false:=by
   rw[List.any_eq_false];intro y hy;obtain⟨z,t,hkey⟩:=hk y (Array.mem_toList_iff.mp hy);simp[DictEntry.refKey,hkey]
  have a':¬ es.toList.any (·.refKey)=true:=by rw[a];exact JC
  rw[IY a'];exact Lr some e
theorem DW.look (I:DW h x dx C mA):∃ od,PySem.W.InstAt h x (KQ C dx) C (some od)/\∀ name,NK name od=some (mA name):=
 let ⟨od,ho,hl⟩:=zT I.ns
 ⟨od,⟨I.obj,rfl,rfl,ho⟩,hl⟩
section
variable {prog:IN}{w:Jm}{A:JA}{E:Ih->Im->Prop}{s:Im}{K:Ia}{x dx C f:Iv}{mA:Str->Option Ih}{name:Str}{v:Ih}
theorem Dz (X:K.In s.heap) (I:DW s.heap x dx C mA) (hg:LQ K C name=true) (hh:MF K C=true)
  (ha:IQ K (.ref C) name=some none)(hv:mA name=some v)(hv':QD v=true)(h:Q v { s with toks:=s.toks+1 }):
  IB (IT prog w) A (getAttr (.ref x) name expr) Q E s:=by
 obtain⟨od,J,hl⟩:=I.look;exact PySem.W.get_value X J (Nf hg).1 (PySem.W.findObj_own hh ha rfl (by rw[hl,hv])) hv' h
theorem BW (X:K.In s.heap) (I:DW s.heap x dx C mA) (hg:LQ K C name=true)
  (hf:IQ K (.ref C) name=some (some (.ref f)))(ht:Ky K (.ref f)=true)(hv:mA name=none)(h:Q (.ref f,[.ref x]) s):
  IB (IT prog w) A (getMethod (.ref x) name pl) Q E s:=by
 obtain⟨od,J,hl⟩:=I.look;exact PySem.W.method_fn X J (Nf hg).1 (Nf hg).2 hf (K0.mp ht) (by show(NK name od).map (·.isSome)=some false;rw[hl,hv];rfl) h
theorem C' (X:K.In s.heap) (I:DW s.heap x dx C mA)
  (hs:IQ K (.ref C) "__setattr__"=some (some (.builtin "object.__setattr__")))(hp:NZ K C=true)(ht:ON K C name=some none)(hh:MF K C=true)
  (hw:Qw mA ns)(hsz:ns.length<=II)
  (h:∀ h',DW h' x dx C (λy=>if y=name then some v else mA y)->Jw dx s.heap h'->Q () { s with heap:=h',toks:=s.toks+2 }):
  IB (IT prog w) A (setAttr (.ref x) name v) Q E s:=by
 obtain⟨od,J,hl⟩:=I.look;refine PySem.W.set_plain X J hs (PySem.W.osa_open (s:={ s with toks:=s.toks+1 }) (r:=none) X J hp ht λb=>?_);obtain⟨cd,hc,hd'⟩:=PySem.W.any_some hh;have hx:s.heap.get? x=some ⟨.ref C,some dx,.plain,#[]⟩:=I.obj;refine Ib (Ig (Ib (Ib (wpAny_loadPart hx (Ib (PySem.W.Looks.here (s:={ s with toks:=s.toks+1 }) (PySem.W.looks_clsIn X hc) ?_))))));rw[hd'];refine Ig (a:=some dx) (Ib (Ig (Ib ?_)));refine wpAny_nsSet1 (s:={ s with toks:=s.toks+1 }) I.ns λh' hn2 hs2=>?_
 obtain⟨oD,esD,epD,hoD,hdD,hcD⟩:=hn2.count (PySem.Within.cons name v hw);refine Ib (wpAny_lookBehind hoD (by rw[hdD];exact pastItsLine_dict (IS hcD (by rw[Jo];omega))) ?_);exact Ig (h _ ⟨(hs2.2 _ (KH I.ne)).trans I.obj,hn2,I.ne⟩ hs2)
theorem qu (X:K.In s.heap) (hm:Nd K C=true)
  (hi:IQ K (.ref C) "__init__"=some (some (.ref f)))(hf:NL K (.ref f)=some (.type "function"))
  (h:L5 (IT prog w) (A.under (.builtin "type.__call__" ⟨.ref C::vs,kw⟩)) (.call (.ref f) ⟨.ref (s.heap.objs.size+1)::vs,kw⟩) (PySem.W.InitBack (s.heap.objs.size+1) R)
   { s with heap:=(s.heap.push J6).push (KQ C s.heap.objs.size) }) :
  L5 (IT prog w) A (.call (.ref C) ⟨vs,kw⟩) R s:=by
 obtain⟨hh,g,d,t,os⟩:=s;exact PySem.W.make_core (PySem.W.makes_of X hm) (PySem.W.looks_findIn X hi) (λself=>PySem.W.bind_fn X self hf) (.inl rfl) h
end
def iQ (f:Str)(v:V):List (Str×V)->List (Str×V)
 |[]=>[(f,v)]
 |(g,x)::r=>if g=f then(g,v)::r else(g,x)::iQ f v r
theorem nB (f g:Str)(v:V):∀ fs:List (Str×V),(iQ f v fs).lookup g=if g=f then some v else fs.lookup g
 |[]=>by
  show MC g [(f,v)]=_
  by_cases h:g=f
  ·have hb:(g==f)=true:=K0.mpr h;simp only[MC,hb,Jh h]
  ·have hb:(g==f)=false:=Ks.mpr h;simp only[MC,hb,IY h]
 |(k,x)::r=>by
  have ih:=nB f g v r;rw[show iQ f v ((k,x)::r)=(if k=f then(k,v)::r else(k,x)::iQ f v r) from rfl]
  by_cases hk:k=f
  ·rw[Jh hk]
   by_cases h:g=k
   ·have hb:(g==k)=true:=K0.mpr h;simp only[MC,hb,Jh (h.trans hk)]
   ·have hb:(g==k)=false:=Ks.mpr h;simp only[MC,hb,IY (λe:g=f=>h (e.trans hk.symm))]
  ·rw[IY hk]
   by_cases h:g=k
   ·have hb:(g==k)=true:=K0.mpr h;simp only[MC,hb,IY (λe:g=f=>hk (h.symm.trans e))]
   ·have hb:(g==k)=false:=Ks.mpr h;simp only[MC,hb];exact ih
theorem mQ (f:Str)(v:V):∀ fs:List (Str×V),f∈(iQ f v fs).map (·.1)/\∀ g,g∈fs.map (·.1)->g∈(iQ f v fs).map (·.1)
 |[]=>⟨by simp[iQ],λg h=>by simp at h⟩
 |(k,x)::r=>by
  obtain⟨i1,i2⟩:=mQ f v r;rw[show iQ f v ((k,x)::r)=(if k=f then(k,v)::r else(k,x)::iQ f v r) from rfl]
  by_cases hk:k=f
  ·rw[Jh hk];subst hk;exact⟨by simp,λg h=>by simpa using h⟩
  ·rw[IY hk];refine⟨?_,λg h=>?_⟩
   ·rw[IF];exact Iq _ i1
   ·rw[IF] at h ⊢;rcases Iy.mp h with e|e
    ·exact Iy.mpr (.inl e)
    ·exact Iq _ (i2 g e)
theorem mP (f:Str)(v:V):∀ fs:List (Str×V),(iQ f v fs).length<=fs.length+1
 |[]=>by simp[iQ]
 |(k,x)::r=>by
  have ih:=mP f v r;rw[show iQ f v ((k,x)::r)=(if k=f then(k,v)::r else(k,x)::iQ f v r) from rfl]
  by_cases hk:k=f
  ·rw[Jh hk,Jo,Jo];omega
  ·rw[IY hk,Jo,Jo];omega
theorem t_.some_of (r:t_ (some v) o):∃ u,o=some u/\c9 v u:=by
 cases o with
 |none=>exact(show False from r).elim
 |some u=>exact⟨u,rfl,r⟩
theorem t_.none_of (r:t_ none o):o=none:=by
 cases o with
 |none=>rfl
 |some u=>exact(show False from r).elim
theorem zL (r:c9 v u):QD u=true:=by
 cases v with
 |non=>cases(show u=J7 from r);rfl
 |bl b=>cases(show u=M3 b from r);rfl
 |int i=>obtain⟨t,e⟩:=(show ∃ t,u=Lk i t from r);cases e;rfl
 |str x=>obtain⟨t,e⟩:=(show ∃ t,u=N2 x t from r);cases e;rfl
 |byt b=>obtain⟨t,e⟩:=(show ∃ t,u=Value.bytes b t from r);cases e;rfl
 |flt b=>obtain⟨t,e⟩:=(show ∃ t,u=QL b t from r);cases e;rfl
 |ref a=>cases(show u=IX a from r);rfl
 |ty n=>cases(show u=Kr n from r);rfl
section
variable {P:IN}{w:Jm}{H H':Hp}{h h':Kl}{a C dx:Iv}{fs fs':List (Str×V)}
theorem qw (hok:HOk P w H h)(e:H a=some (.ins C dx fs)):∃ mA,DW h a dx C mA/\(∀ f,t_ (fs.lookup f) (mA f))/\Qw mA (fs.map (·.1))/\fs.length<=1000/\H dx=some (.own a):=by
 obtain⟨d,z,ne,ob,mA,n,r,q⟩:=(show cF P w H h a (.ins C dx fs) from hok a _ e)
 exact⟨mA,⟨ob,n,ne⟩,r,q,z,d⟩
end
structure Cls (K:Ia)(C:Iv):Prop where
 pg:LQ K C Str.empty=true
 hd:MF K C=true
 po:NZ K C=true
 sa:IQ K (.ref C) "__setattr__"=some (some (.builtin "object.__setattr__"))
theorem Cls.get {K:Ia}{C:Iv}(c:Cls K C)(f:Str):LQ K C f=true:=c.pg
def rY (K:Ia)(C:Iv)(f:Str):Prop:=IQ K (.ref C) f=some none
theorem rY.taker {K:Ia}{C:Iv}{f:Str}(n:rY K C f):ON K C f=some none:=by
 unfold ON;rw[show IQ K (.ref C) f=some none from n];rfl
structure El (K:Ia)(C:Iv)(m:Str)(f:Iv):Prop where
 at_:IQ K (.ref C) m=some (some (.ref f))
 fn:Ky K (.ref f)=true
 kp:IU K (.ref f)=true
section
variable {X:Cx}{pins:List (Iv×Obj)}{σ:St}{H:Hp}{s:Im}{a C dx:Iv}{fs:List (Str×V)}{f:Str}{v:V}{A:JA}{E:Ih->Im->Prop}
theorem w_ (I:Inv X pins σ H s) (e:H a=some (.ins C dx fs)) (c:Cls X.K C) (n:rY X.K C f) (l:fs.lookup f=some v)
  (h:∀ u s',Inv X pins σ H s'->c9 v u->Q u s'):IB (IT X.prog X.w) A (getAttr (.ref a) f b) Q E s:=by
 obtain⟨mA,O,r,_,_,_⟩:=qw I.hok e;obtain⟨u,hu,ru⟩:=t_.some_of (v:=v) (o:=mA f) (by rw[<- l];exact r f);exact Dz I.kIn O (c.get f) c.hd n hu (zL ru) (h u _ (I.tok _) ru)
theorem k8 (I:Inv X pins σ H s) (e:H a=some (.ins C dx fs)) (c:Cls X.K C) (k:El X.K C m g) (l:fs.lookup m=none)
  (h:Q (.ref g,[.ref a]) s):IB (IT X.prog X.w) A (getMethod (.ref a) m pl) Q E s:=by
 obtain⟨mA,O,r,_,_,_⟩:=qw I.hok e;have hn:mA m=none:=t_.none_of (by rw[<- l];exact r m);exact BW I.kIn O (c.get m) k.at_ k.fn hn h
theorem wQ (I:Inv X pins σ H s) (e:H a=some (.ins C dx fs)) (c:Cls X.K C) (n:rY X.K C f) (hl:fs.length < 1000) (ry:c9 y u)
  (h:∀ s',Inv X pins σ (upd H a (.ins C dx (iQ f y fs))) s'->Q () s'):IB (IT X.prog X.w) A (setAttr (.ref a) f u) Q E s:=by
 obtain⟨mA,O,r,wi,_,ho⟩:=qw I.hok e;have hz:(fs.map (·.1)).length<=II:=by rw[Ij,JK];omega
 refine C' I.kIn O c.sa c.po n.taker c.hd wi hz λh' O' sb=>h _ ?_
 have hd:∃ o,h'.get? dx=some o:=let ⟨o,_,_,e',_⟩:=O'.ns;⟨o,e'⟩
 refine I.write (x:=a) (e:=dx) (by rw[e];exact True.intro) (.inr ho) (λb q hb z=>(sb.2 b hb).trans z) hd ?_;refine⟨by rw[ao O.ne];exact ho,?_,O.ne,O'.obj,_,O'.ns,λg=>?_,λg hg=>?_⟩
 ·have:=mP f y fs;omega
 ·show t_ ((iQ f y fs).lookup g) (if g=f then some u else mA g);rw[nB]
  by_cases q:g=f
  ·rw[Jh q,Jh q];exact ry
  ·rw[IY q,IY q];exact r g
 ·by_cases q:g=f
  ·rw[q];exact(mQ f y fs).1
  ·refine(mQ f y fs).2 g (wi g λz=>hg ?_);show(if g=f then some u else mA g)=none;rw[IY q];exact z
theorem Inv.made (I:Inv X pins σ H s):Inv X pins σ (upd (upd H s.heap.objs.size (.own (s.heap.objs.size + 1))) (s.heap.objs.size + 1) (.ins C s.heap.objs.size []))
  { s with heap:=(s.heap.push J6).push (KQ C s.heap.objs.size) }:=by
 have e1:(s.heap.push J6).get? s.heap.objs.size=some J6:=Io s.heap rfl;have e2:((s.heap.push J6).push (KQ C s.heap.objs.size)).get? (s.heap.objs.size+1)=some (KQ C s.heap.objs.size):=by
  have:=Io (s.heap.push J6) (o:=KQ C s.heap.objs.size) rfl
  rwa [Jt] at this
 have e3:(s.heap.push J6).Ns s.heap.objs.size (λ_=>none):=⟨J6,#[],_,e1,rfl,(λe he=>absurd he (by simp)),λ_=>rfl⟩
 have I1:=I.laid (a:=s.heap.objs.size) (o:=.own (s.heap.objs.size+1)) (h':=s.heap.push J6) (t':=s.toks) (λb u q=>Ic _ q) (Il _) ⟨_,e1⟩;refine I1.laid (a:=s.heap.objs.size+1) (o:=.ins C s.heap.objs.size []) (t':=s.toks) (λb u q=>Ic _ q) (Nat.le_of_eq (Jt _ _)) ?_;have ne:s.heap.objs.size≠s.heap.objs.size+1:=IK (JY _);refine⟨by rw[ao ne,ac],Jj _,ne,e2,λ_=>none,(Heap.Ns1.of_empty e3).at λo q=>Ic _ q,λ_=>True.intro,λy hy=>absurd rfl hy⟩
theorem Dc (hb:Of e f env (L6 e env)=L6 e env)
  (h:IB (IT prog w) A (L6 e env) (λo s₁=>IB (IT prog w) A (getAttr o f true) Q E s₁) E s):IB (IT prog w) A (L6 (.Attribute e f pos) env) Q E s:=
 Attribute_any_ h (by rw[arm_eval_Attribute,hb])
end
section
variable {X:Cx}{pins:List (Iv×Obj)}{σ:St}{H:Hp}{s:Im}{A:JA}{E:Ih->Im->Prop}{Q:Ih->Im->Prop}{c:Ih}{b:Bool}
inductive uL (K:Ia)(H:Hp):V->Ih->Prop where
 |non:uL K H .non (.type "NoneType")
 |bl (x:Bool):uL K H (.bl x) (.type "bool")
 |int (i:Int):uL K H (.int i) (.type "int")
 |str (x:Str):uL K H (.str x) (.type "str")
 |flt (x:UInt64):uL K H (.flt x) (.type "float")
 |lst {a:Iv}{xs:List V} (e:H a=some (.lst xs)):uL K H (.ref a) (.type "list")
 |frz {a:Iv}{o:Obj}{xs:List V} (e:H a=some (.frz o (.lst xs))):uL K H (.ref a) (.type "list")
 |tup {a:Iv}{xs:List V} (e:H a=some (.tup xs)):uL K H (.ref a) (.type "tuple")
 |dK {a:Iv}{kvs:List (Key×V)} (e:H a=some (.dK kvs)):uL K H (.ref a) (.type "dict")
 |dT {a:Iv}{kvs:List (List Key×V)} (e:H a=some (.dT kvs)):uL K H (.ref a) (.type "dict")
 | ins {a C dx:Iv}{fs:List (Str × V)} (e:H a=some (.ins C dx fs)) (cl:Cls K C) (ha:IQ K (.ref C) "__class__"=some (some (.builtin "object.__class__")))
   (hn:MG K (.builtin "object.__class__") "__get__"=some (some (.builtin "getset_descriptor.__get__")))(htk:Ng K (.builtin "object.__class__")=some true)
   (hm:Mn K C (.type "object")=some true):uL K H (.ref a) (.ref C)
theorem Cz (I:Inv X pins σ H s)(rx:c9 x u)(ty:uL X.K H x t):∃ Z,PySem.W.KitX X.K u t Z/\Z s.heap/\u≠.builtin "__main__.__loader__#opaque":=by
 cases ty with
 |non=>cases(show u=J7 from rx);exact⟨_,PySem.W.kitx_none,True.intro,λz=>nomatch z⟩
 |bl y=>cases(show u=M3 y from rx);exact⟨_,PySem.W.kitx_bool,True.intro,λz=>nomatch z⟩
 |int i=>obtain⟨t,q⟩:=(show ∃ t,u=Lk i t from rx);cases q;exact⟨_,PySem.W.kitx_int,True.intro,λz=>nomatch z⟩
 |str y=>obtain⟨t,q⟩:=(show ∃ t,u=N2 y t from rx);cases q;exact⟨_,PySem.W.kitx_str,True.intro,λz=>nomatch z⟩
 |flt y=>obtain⟨t,q⟩:=(show ∃ t,u=QL y t from rx);cases q;exact⟨_,PySem.W.kitx_float,True.intro,λz=>nomatch z⟩
 |@lst a xs ea=>
  cases(show u=IX a from rx);obtain⟨_,_,n,_,h1⟩:=(show cF X.prog X.w H s.heap a (.lst xs) from I.hok a _ ea)
  exact⟨_,Qf,⟨_,h1,rfl⟩,λz=>nomatch z⟩
 |@frz a ob xs ea=>
  cases(show u=IX a from rx);obtain⟨_,_,_,n,_,h1⟩:=(show cF X.prog X.w H s.heap a (.frz ob (.lst xs)) from I.hok a _ ea)
  exact⟨_,Qf,⟨_,h1,rfl⟩,λz=>nomatch z⟩
 |@tup a xs ea=>
  cases(show u=IX a from rx);obtain⟨_,_,_,p⟩:=(show cF X.prog X.w H s.heap a (.tup xs) from I.hok a _ ea)
  obtain⟨o,h1,h2,_⟩:=p;exact⟨_,PySem.W.kitx_tuple,⟨o,h1,h2⟩,λz=>nomatch z⟩
 |@dK a kvs ea=>
  cases(show u=IX a from rx);obtain⟨_,_,vs,_,p⟩:=(show cF X.prog X.w H s.heap a (.dK kvs) from I.hok a _ ea)
  obtain⟨o,es,ep,h1,h2,_⟩:=p;exact⟨_,Qe,⟨o,h1,h2.1⟩,λz=>nomatch z⟩
 |@dT a kvs ea=>
  cases(show u=IX a from rx);obtain⟨_,_,xs,_,o,es,ep,h1,h2,_⟩:=(show cF X.prog X.w H s.heap a (.dT kvs) from I.hok a _ ea)
  exact⟨_,Qe,⟨o,h1,h2.1⟩,λz=>nomatch z⟩
 |@ins a C dx fs ea cl ha hn htk hm=>
  cases(show u=IX a from rx);obtain⟨mA,O,_⟩:=qw I.hok ea;obtain⟨od,J,_⟩:=O.look;exact⟨_,(PySem.W.kitx_own (cl.get _) cl.hd ha hn htk hm),J,λz=>nomatch z⟩
theorem nZ (I:Inv X pins σ H s) (rx:c9 x u) (ty:uL X.K H x t) (e:ML X.K t c=some b) (h:∀ tk,Q (.bool b) { s with toks:=tk }) :
  IB (IT X.prog X.w) A (call (.builtin "isinstance") [u,c]) Q E s:=by
 obtain⟨Z,a,b,c⟩:=Cz I rx ty;exact PySem.W.kia_one a I.kIn b e c h
end
structure Room (k:Nat)(A:JA):Prop where
 hd:A.handled=none
 dp:A.depth+3*k+5<recursionLimit
 un:A.units+16*k+200<cLine
theorem Room.mono {j k:Nat}(r:Room k A)(h:j<=k):Room j A:=⟨r.hd,by have:=r.dp;omega,by have:=r.un;omega⟩
theorem Room.deeper {k:Nat}(r:Room (k+1) A)(env:Env):Room k (A.deeper env):=
 ⟨r.hd,by have:=r.dp;show A.depth+1+3*k+5<_;omega,by have:=r.un;show A.units+3+16*k+200<_;omega⟩
theorem wH {A:JA}{C:Iv}{us:List Ih}{kw:List (Str×Ih)}:(A.under (.builtin "type.__call__" ⟨.ref C::us,kw⟩)).depth=A.depth+1:=by
 first|rfl|simp[Qm,Code.weight,Code.isCreation,Code.isGuard,Code.isCaller,Code.frames,Qo,guardIds]
theorem wN {A:JA}{C:Iv}{us:List Ih}{kw:List (Str×Ih)}:(A.under (.builtin "type.__call__" ⟨.ref C::us,kw⟩)).units=A.units+1:=by
 first|rfl|simp[Qm,Code.cUnits,Code.frames,Qo]
theorem Room.make {k:Nat}(r:Room (k+1) A)(C:Iv)(us:List Ih)(kw:List (Str×Ih)):Room k (A.under (.builtin "type.__call__" ⟨.ref C::us,kw⟩)):=
 ⟨r.hd,by have:=r.dp;rw[wH];omega,by have:=r.un;rw[wN];omega⟩
theorem Room.depth {k:Nat}(r:Room k A):A.depth<recursionLimit:=by have:=r.dp;omega
theorem Room.units {k:Nat}(r:Room k A):A.units+64<cLine:=by have:=r.un;omega
def AV:TA:=λ_ H Q=>Q [] H
def lQ (ta:TE)(tr:TA):TA:=λσ H Q=>ta σ H λx H1=>tr σ H1 λxs H2=>Q (x::xs) H2
section
variable {X:Cx}{e:KI}{es:List KI}{te:TE}{t:TA}{pos:Pos}
theorem CL:PA X [] AV:=λ_ _ _ _ H Q I h=>P6 ⟨[],H,I,.nil,h⟩
theorem zV (ha:PE X e te)(hr:PA X es t)(hs:IR (e::es) X.env=(false,L6 e X.env)::IR es X.env:=by rfl):PA X (e::es) (lQ te t):=by
 intro pos pins s σ H Q I h;rw[hs];show IB _ _ (spliced ((false,L6 e X.env)::Mw pos (IR es X.env))) _ _ s;refine PC (thn (ha pins s σ H _ I h) λu s1 ⟨x,H1,I1,r1,q1⟩=>?_);exact thn (hr pos pins s1 σ H1 _ I1 q1) λus s2 ⟨xs,H2,I2,r2,q2⟩=>⟨x::xs,H2,I2,.cons r1 r2,q2⟩
def HF (t:TA):TE:=λσ H Q=>t σ H λxs H1=>xs.length<=II/\∀ p,H1 p=none->Q (.ref p) (upd H1 p (.tup xs))
def Hw (t:TA):TE:=λσ H Q=>t σ H λxs H1=>xs.length<=II/\∀ p,H1 p=none->Q (.ref p) (upd H1 p (.lst xs))
theorem aI {x1}(h:WA X es t):WE X (.Tuple es x1 pos) (HF t):=by
 have h:=h.go;refine⟨?_⟩;intro pins s σ H Q I hq;refine wpAny_Tuple_spliced (thn (h pos pins s σ H _ I hq) λus s1 ⟨xs,H1,I1,r,z,q⟩=>⟨by rw[<- r.length];exact z,?_⟩);have hf:H1 s1.heap.objs.size=none:=I1.hok.fresh (Il _);refine⟨.ref s1.heap.objs.size,upd H1 s1.heap.objs.size (.tup xs),I1.laid (t':=s1.toks) (λb u e=>Ic _ e) (Il _) ?_,rfl,q _ hf⟩;exact⟨z,us,r,⟨_,Io _ rfl,rfl,_,rfl⟩⟩
theorem ce (h:WA X es t):WE X (.List es pos) (Hw t):=by
 have h:=h.go;refine⟨?_⟩;intro pins s σ H Q I hq;refine wpAny_List_spliced (thn (h pos pins s σ H _ I hq) λus s1 ⟨xs,H1,I1,r,z,q⟩=>⟨by rw[<- r.length];exact z,?_⟩);have hf:H1 s1.heap.objs.size=none:=I1.hok.fresh (Il _);refine⟨.ref s1.heap.objs.size,upd H1 s1.heap.objs.size (.lst xs),I1.laid (t':=s1.toks) (λb u e=>Ic _ e) (Il _) ?_,rfl,q _ hf⟩;exact⟨z,us,0,r,Io _ rfl⟩
end
abbrev Sp:=List V->Hp->VK->XK->Prop
abbrev CXT:=List Env->Hp->Im->XK->Ih->Im->Prop
structure Dp (P:IN)(w:Jm)(K:Ia)(mg:Str->Option Ih)(base:Kl)(A:JA)(outer:List Env)(s:Im)(H:Hp):Prop where
 frames:A.frames=some outer
 mod:Mod K mg base
 bs:∀ b o,base.get? b=some o->s.heap.get? b=some o/\H b=none
 bsz:base.objs.size<=s.heap.objs.size
 funs:s.heap.FunFrames base outer
 frf:∀ b∈frs outer,H b=none
 hok:HOk P w H s.heap
 bare:Pg s.gens
def CE (outer:List Env)(P:IN)(w:Jm)(H:Hp)(s:Im)(Q:VK)(u:Ih)(s':Im):Prop:=
 ∃ v H',s'.os=s.os/\Pg s'.gens/\Un (frs outer) [] H H' s.heap s'.heap/\HOk P w H' s'.heap/\c9 v u/\Q v H'
def CR (CX:CXT)(outer:List Env)(P:IN)(w:Jm)(H:Hp)(s:Im)(Q:VK)(E:XK)(r:Result)(s':Im):Prop:=
 match r with
 |.ok (.ret u)=>CE outer P w H s Q u s'
 |.ok _=>False
 |.error e=>CX outer H s E e s'
structure oC (P:IN)(w:Jm)(K:Ia)(mg:Str->Option Ih)(base:Kl)(CX:CXT)(k:Nat)(f:Iv)(fd:JS)(ps:List Str)(sp:Sp):Prop where
 len:∀ vs H Q E,sp vs H Q E->vs.length=ps.length
 run:∀ (A:JA) (outer:List Env) (s:Im) (H:Hp) (args:Args) (us:List Ih) (vs:List V) (Q:VK) (E:XK),Room k A->Dp P w K mg base A outer s H->Pj s fd args (ps.zip us)->bD vs us->sp vs H Q E ->
  L5 (IT P w) A (.call (.ref f) args) (CR CX outer P w H s Q E) s
theorem oC.mono {P:IN}{w:Jm}{K:Ia}{mg:Str->Option Ih}{base:Kl}{CX:CXT}{j k:Nat}{f:Iv}{fd:JS}{ps:List Str}{sp:Sp} (F:oC P w K mg base CX j f fd ps sp) (h:j <= k) :
  oC P w K mg base CX k f fd ps sp:=⟨F.len,λA outer s H args us vs Q E hr=>F.run A outer s H args us vs Q E (hr.mono h)⟩
theorem Dp.make {P:IN}{w:Jm}{K:Ia}{mg:Str->Option Ih}{base:Kl}{A:JA}{outer:List Env}{s:Im}{H:Hp} (e:Dp P w K mg base A outer s H) (C:Iv) (us:List Ih) (kw:List (Str × Ih)) :
  Dp P w K mg base (A.under (.builtin "type.__call__" ⟨.ref C::us,kw⟩)) outer s H:=⟨by first|exact e.frames|(simpa [Qm,Code.envs,Qo,pushEnvs] using e.frames),e.mod,e.bs,e.bsz,e.funs,e.frf,e.hok,e.bare⟩
section
variable {X:Cx}{pins:List (Iv×Obj)}{σ:St}{H:Hp}{s s':Im}
theorem Inv.env0 (I:Inv X pins σ H s):Dp X.prog X.w X.K X.mg X.base X.A X.stack s H:=
 ⟨I.ok.frames,I.ok.mod,I.bs,IS I.ok.bsz I.sz,I.stack,I.stkFree,I.hok,I.bare⟩
theorem Inv.after (I:Inv X pins σ H s)(h:CE X.stack X.prog X.w H s Q u s'):EP X pins σ Q u s':=by
 obtain⟨v,H',os,bare,un,hok,r,q⟩:=h;obtain⟨hh,g,d,t,os'⟩:=s';obtain rfl:os'=s.os:=os;exact⟨v,H',I.call (h':=hh) (g':=g) (d':=d) (t':=t) (ch:=[]) un hok bare (λb z=>absurd z (by simp)),r,q⟩
end
def wz (sp:Sp)(dvs:List V)(E:XK)(t:TA):TE:=λσ H Q=>t σ H λvs H1=>sp (vs++dvs) H1 Q E
def oN (K:Ia)(fd:JS)(ps:List Str)(ds:List Ih):Prop:=
 ∀ (s:Im) (us:List Ih),K.In s.heap->(us++ds).length=ps.length->Pj s fd ⟨us,[]⟩ (ps.zip (us++ds))
theorem oN.all {K:Ia}{fd:JS}{ps:List Str}(h:∀ us:List Ih,us.length=ps.length->JD fd ⟨us,[]⟩=pure (ps.zip us)):oN K fd ps []:=λs us _ hl=>by
 rw[M8] at hl ⊢;exact .of_eq (h us hl)
def rK (CX:CXT)(X:Cx)(E:XK):Prop:=∀ (pins:List (Iv×Obj)) (σ:St) (H:Hp) (s:Im) (e:Ih) (s':Im),Inv X pins σ H s->CX X.stack H s E e s'->X.xe e s'
section
variable {X:Cx}{CX:CXT}{k:Nat}{f C:Iv}{fd:JS}{ps:List Str}{sp:Sp}{dvs:List V}{ds:List Ih}{E:XK}{x m:Str}{p pos apos:Pos}{e o:KI}{es:List KI}{ta:TE}{t:TA}
theorem vG (F:oC X.prog X.w X.K X.mg X.base CX k f fd ps sp) (hr:Room k X.A) (hb:oN X.K fd ps ds) (hd:bD dvs ds) (hx:rK CX X E)
  (I:Inv X pins σ H s)(r:bD vs us)(h:sp (vs++dvs) H Q E):IB (IT X.prog X.w) X.A (call (.ref f) us) (EP X pins σ Q) X.xe s:=by
 have r2:bD (vs++dvs) (us++ds):=r.append hd;have hl:(us++ds).length=ps.length:=by rw[<- r2.length];exact F.len _ _ _ _ h
 refine M4 (Lf (F.run X.A X.stack s H ⟨us,[]⟩ (us++ds) (vs++dvs) Q E hr I.env0 (hb s us I.kIn hl) r2 h) λr s' hq=>?_);cases r with
 |error e=>exact hx pins σ H s e s' I hq
 |ok fl=>
  cases fl with
  |ret u=>exact I.after hq
  |next=>exact Km hq
  |brk=>exact Km hq
  |cont=>exact Km hq
theorem DB (F:oC X.prog X.w X.K X.mg X.base CX k f fd ps sp) (hr:Room k X.A) (hg:Gl X x) (hm:X.mg x=some (.ref f)) (hk:IU X.K (.ref f)=true) (hb:oN X.K fd ps ds) (hd:bD dvs ds) (hx:rK CX X E)
  (ha:PA X (e::es) t)(hdb:(x==("__debug__":Str))=false:=by decide)(he:IR (e::es) X.env=(false,L6 e X.env)::IR es X.env:=by rfl)(hpl:(Mw pos (IR es X.env)).any (·.1)=false:=by rfl):
  PE X (.Call (.Name x p) (e::es) [] pos) (wz sp dvs E t):=by
 intro pins s σ H Q I h;refine JT (iE I hg hm ?_ hdb);refine Mm (h₀:=X.base) I.ok.mod.kin hk (thn (ha pos pins s σ H _ I h) λus s1 ⟨vs,H1,I1,r,q⟩=>⟨I1.kIn,?_⟩) he hpl;exact vG F hr hb hd hx I1 r q
structure Mk (K:Ia)(C f:Iv):Prop where
 makes:Nd K C=true
 init:IQ K (.ref C) "__init__"=some (some (.ref f))
 fn:Ky K (.ref f)=true
 kp:IU K (.ref C)=true
theorem BC (M:Mk X.K C f) (F:oC X.prog X.w X.K X.mg X.base CX k f fd ps sp) (hr:Room (k + 1) X.A) (hb:oN X.K fd ps ds) (hd:bD dvs ds)
  (hx:rK CX X E)(I:Inv X pins σ H s)(r:bD vs us)
  (h:∀ x dx,H x=none->H dx=none->dx≠x->sp (.ref x::(vs++dvs)) (upd (upd H dx (.own x)) x (.ins C dx [])) (λv H2=>v=.non/\Q (.ref x) H2) E):
  IB (IT X.prog X.w) X.A (call (.ref C) us) (EP X pins σ Q) X.xe s:=by
 have hq:=h (s.heap.objs.size+1) s.heap.objs.size (I.hok.fresh (Nc _)) (I.hok.fresh (Il _)) (IK (JY _));have I2:=Inv.made (C:=C) I;have r2:bD (V.ref (s.heap.objs.size+1)::(vs++dvs)) (IX (s.heap.objs.size+1)::(us++ds)):=.cons rfl (r.append hd);have hl:(IX (s.heap.objs.size+1)::us++ds).length=ps.length:=by
  have e:=r2.length;rw[F.len _ _ _ _ hq] at e;exact e.symm
 refine M4 (qu (f:=f) I.kIn M.makes M.init (K0.mp M.fn) (Lf (F.run _ X.stack _ _ ⟨IX (s.heap.objs.size+1)::us,[]⟩ (IX (s.heap.objs.size+1)::(us++ds)) _ _ E (hr.make C us [])
  (I2.env0.make C us []) (hb _ (IX (s.heap.objs.size+1)::us) I2.kIn hl) r2 hq) λr s' hq'=>?_))
 cases r with
 |error e=>exact hx pins σ _ _ e s' I2 hq'
 |ok fl=>
  cases fl with
  |ret u=>
   obtain⟨v,H',I3,rv,ev,q3⟩:=I2.after hq';subst ev;exact⟨rv,⟨V.ref (s.heap.objs.size+1),H',I3,rfl,q3⟩⟩
  |next=>exact Km hq'
  |brk=>exact Km hq'
  |cont=>exact Km hq'
end
def PK (X:Cx)(kws:List ND)(t:TA):Prop:=
 ∀ (pos:Pos) (pins:List (Iv×Obj)) (s:Im) (σ:St) (H:Hp) (Q:List V->Hp->Prop),Inv X pins σ H s->t σ H Q->IB (IT X.prog X.w) X.A (evalAll ((LK pos (Kt kws X.env)).map (·.2))) (AP X pins σ Q) X.xe s
structure WK (X:Cx)(e:List ND)(t:TA):Prop where
 go:PK X e t
section
variable {X:Cx}{CX:CXT}{k:Nat}{f C:Iv}{fd:JS}{ps ks:List Str}{sp:Sp}{E:XK}{x m:Str}{p pos apos kpos:Pos}{e o:KI}{es:List KI}{kws:List ND}{te ta:TE}{t tk:TA}{nm:Option Str}
theorem nU:WK X [] AV:=by
 exact⟨λ_ _ _ _ H Q I h=>wpAny_evalAll_nil ⟨[],H,I,.nil,h⟩⟩
theorem iR (ha:WE X e te)(hr:WK X kws t):WK X (⟨nm,e,kpos⟩::kws) (lQ te t):=by
 have ha:=ha.go;have hr:=hr.go;refine⟨?_⟩;intro pos pins s σ H Q I h;show IB _ _ (evalAll ((do let v <- L6 e X.env;OT pos;pure v)::(LK pos (Kt kws X.env)).map (·.2))) _ _ s;refine wpAny_evalAll_cons (Ib (thn (ha pins s σ H _ I h) λu s1 ⟨x,H1,I1,r1,q1⟩=>Ib (K4 (Ig ?_))));exact thn (hr pos pins s1 σ H1 _ I1 q1) λus s2 ⟨xs,H2,I2,r2,q2⟩=>⟨x::xs,H2,I2,.cons r1 r2,q2⟩
structure ng (K:Ia)(fd:JS)(ps ks:List Str)(g:List Ih->List Ih->List Ih)(gV:List V->List V->List V):Prop where
 to:∀ (s:Im) (us ws:List Ih),K.In s.heap->(g us ws).length=ps.length->Pj s fd ⟨us,ks.zip ws⟩ (ps.zip (g us ws))
 rel:∀ {vs:List V}{us:List Ih}{zs:List V}{ws:List Ih},bD vs us->bD zs ws->bD (gV vs zs) (g us ws)
variable {g:List Ih->List Ih->List Ih}{gV:List V->List V->List V}
theorem DA (F:oC X.prog X.w X.K X.mg X.base CX k f fd ps sp) (hr:Room k X.A) (hb:ng X.K fd ps ks g gV) (hx:rK CX X E)
  (I:Inv X pins σ H s)(r:bD vs us)(rz:bD zs ws)(h:sp (gV vs zs) H Q E):IB (IT X.prog X.w) X.A (call (.ref f) us (ks.zip ws)) (EP X pins σ Q) X.xe s:=by
 have r2:=hb.rel r rz;have hl:(g us ws).length=ps.length:=by rw[<- r2.length];exact F.len _ _ _ _ h
 refine M4 (Lf (F.run X.A X.stack s H ⟨us,ks.zip ws⟩ (g us ws) (gV vs zs) Q E hr I.env0 (hb.to s us ws I.kIn hl) r2 h) λr s' hq=>?_);cases r with
 |error e=>exact hx pins σ H s e s' I hq
 |ok fl=>
  cases fl with
  |ret u=>exact I.after hq
  |next=>exact Km hq
  |brk=>exact Km hq
  |cont=>exact Km hq
end
structure am (N P:List Str)(sc:MT):Prop where
 kind:sc.kind=.function
 co:sc.isCoroutine=false
 gen:sc.isGenerator=false
 nd:N.Nodup
 pre:N.take P.length=P
 par:∀ x∈P,sc.names.lookup x=some .local\/sc.names.lookup x=some .cell
 nofree:∀ y∈sc.names,y.2≠.free
theorem sK {kindOf:Str->Option LG}{x:Str}:∀ {binds:List (Str×Ih)}{m:Str->Option Ih},(∀ v,(x,v)∉binds)->bindL kindOf binds m x=m x
 |[],_,_=>rfl
 |(n,v)::r,m,h=>by
  unfold bindL;rw[sK λw hw=>h w (Iq _ hw)]
  split
  ·have:x≠n:=by rintro rfl;exact h v IJ
   simp[this]
  ·rfl
theorem rC {kindOf:Str->Option LG}{x:Str}:∀ {binds:List (Str×Ih)}{m:Str->Option Ih},(∀ v,(x,v)∉binds)->bindC kindOf binds m x=m x
 |[],_,_=>rfl
 |(n,v)::r,m,h=>by
  unfold bindC;rw[rC λw hw=>h w (Iq _ hw)]
  split
  ·rfl
  ·have:x≠n:=by rintro rfl;exact h v IJ
   simp[this]
theorem tY {kindOf:Str->Option LG}{x:Str}{v:Ih}:∀ {P:List Str}{vs:List Ih}{i:Nat}{m:Str->Option Ih},P.Nodup->P[i]?=some x->vs[i]?=some v->kindOf x=some .local ->
  bindL kindOf (P.zip vs) m x=some v
 |[],_,_,_,_,h,_,_=>by simp at h
 |_::_,[],_,_,_,_,h,_=>by simp at h
 |p::P,w::vs,0,m,nd,h1,h2,hk=>by
  simp at h1 h2;subst h1;subst h2;show bindL kindOf ((p,w)::P.zip vs) m p=_;unfold bindL;rw[sK λv hv=>(JW.mp nd).1 (Ld hv).1,Jh hk];simp
 |p::P,w::vs,i+1,m,nd,h1,h2,hk=>by
  show bindL kindOf ((p,w)::P.zip vs) m x=_;unfold bindL;exact tY (i:=i) (JW.mp nd).2 (by simpa using h1) (by simpa using h2) hk
theorem rq {kindOf:Str->Option LG}{x:Str}{v:Ih}:∀ {P:List Str}{vs:List Ih}{i:Nat}{m:Str->Option Ih},P.Nodup->P[i]?=some x->vs[i]?=some v->kindOf x ≠ some .local ->
  bindC kindOf (P.zip vs) m x=some v
 |[],_,_,_,_,h,_,_=>by simp at h
 |_::_,[],_,_,_,_,h,_=>by simp at h
 |p::P,w::vs,0,m,nd,h1,h2,hk=>by
  simp at h1 h2;subst h1;subst h2;show bindC kindOf ((p,w)::P.zip vs) m p=_;unfold bindC;rw[rC λv hv=>(JW.mp nd).1 (Ld hv).1,IY hk];simp
 |p::P,w::vs,i+1,m,nd,h1,h2,hk=>by
  show bindC kindOf ((p,w)::P.zip vs) m x=_;unfold bindC;exact rq (i:=i) (JW.mp nd).2 (by simpa using h1) (by simpa using h2) hk
def lP (N:List Str)(vs:List V):St:=vs.map some++Iz (N.length-vs.length) none
def As (CX:CXT)(P:IN)(w:Jm)(K:Ia)(mg:Str->Option Ih)(base:Kl)(N:List Str)(qual:Str)(scope:MT)(f:Iv)(cd:Ih)(A:JA)(outer:List Env)(s:Im)(H:Hp)(E:XK):Cx where
 prog:=P
 w:=w
 K:=K
 mg:=mg
 base:=base
 A:=A.deeper (Oq qual scope s.heap.objs.size f cd)
 N:=N
 s₀:=s
 H₀:=H
 env:=Oq qual scope s.heap.objs.size f cd
 outer:=outer
 stack:=Oq qual scope s.heap.objs.size f cd::outer
 ex:=[]
 calm:=true
 fn:=λ_=>true
 pn:=[]
 xe:=λe s'=>IB (IT P w) (A.deeper (Oq qual scope s.heap.objs.size f cd)) (leaving (Oq qual scope s.heap.objs.size f cd) e) (λ_ s''=>CX outer H s E e s'') (λe' s''=>CX outer H s E e' s'') s'
theorem vI {sc:MT}{n:Nat}{x:Str}(h:sc.names.lookup x=some .cell):∃ c,(Mp n sc.names []).lookup x=some c:=by
 have q:=Ln sc.names n [] (.inl h);exact KC.mp q
theorem z9 {CX:CXT}{P:IN}{w:Jm}{K:Ia}{mg:Str->Option Ih}{base:Kl}{N ps:List Str}{qual:Str}{scope:MT}{f:Iv}{cd:Ih}{A:JA}{outer:List Env}{s s1:Im}{H:Hp}{E:XK}{us:List Ih}{vs:List V}
  (S:am N ps scope)(hd:A.handled=none)(e0:Dp P w K mg base A outer s H)(hl:vs.length=ps.length)(r:bD vs us)
  (x:InCallC s s.heap.objs.size (bindL (Oq qual scope s.heap.objs.size f cd).kindOf (ps.zip us) λ_=>none) (Mp (s.heap.objs.size+1) scope.names []) (bindC (Oq qual scope s.heap.objs.size f cd).kindOf (ps.zip us) λ_=>none) s1):
  Inv (As CX P w K mg base N qual scope f cd A outer s H E) [] (lP N vs) H s1:=by
 have hpl:ps.length<=N.length:=by have:=Lr Pr S.pre;rw[IZ] at this;omega
 obtain⟨h1,tk,rfl,hk⟩:=x.done;have noA:∀ b:Iv,b∉(As CX P w K mg base N qual scope f cd A outer s H E).ex:=λb z=>absurd (show b∈([]:List Iv) from z) (by simp)
 refine⟨⟨e0.mod,S.kind,rfl,rfl,Il _,λy z c h1 h2=>?_,λy hy=>?_,λy c _ h=>?_,λ_=>hd,Around.frames_deeper e0.frames,.inr ⟨rfl,rfl⟩,λb z=>absurd z (noA b),e0.bs,e0.bsz,λb _ _=>noA b,λb z=>absurd z (noA b),e0.funs,e0.frf⟩,
  rfl,e0.bare,Un.kept hk,⟨_,x.toInCall.ns,λi y v h1 h2 h3=>?_⟩,λy c h=>⟨_,x.cell y c h⟩,e0.hok.fresh (Il _),λy c h=>?_,λp hp=>absurd (show p∈([]:List (Iv×Obj)) from hp) (by simp),e0.hok.kept hk,?_⟩
 ·exact name_of_addr x.apart (Kq h1) (Kq h2)
 ·have hy:scope.names.lookup y=some .cell\/scope.names.lookup y=some .free:=hy;rcases hy with hy|hy
  ·exact vI hy
  ·exact absurd rfl (S.nofree _ (Kq hy))
 ·exact Kj (x.above y c (Kq h))
 ·have hi:i<vs.length:=by
   unfold lP at h2
   by_cases hi:i<vs.length
   ·exact hi
   ·rw[Kk (by simpa using hi)] at h2;rw[Ml] at h2
    split at h2<;>cases h2
  have ha:vs[i]?=some v:=by
   unfold lP at h2;rw[Kv (by simpa using hi),Ix] at h2;cases e:vs[i]? with
   |none=>rw[e] at h2;cases h2
   |some a=>rw[e] at h2;cases h2;rfl
  obtain⟨u,hu,rv⟩:=r.get ha;have hp:ps[i]?=some y:=by
   rw[<- S.pre,List.getElem?_take_of_lt (by omega)];exact h1
  have ndP:ps.Nodup:=by rw[<- S.pre];exact S.nd.sublist (NV _ _)
  refine⟨u,rv,?_⟩;rcases S.par y (IM hp) with k|k
  ·exact .inl ⟨k,tY ndP hp hu k⟩
  ·obtain⟨c,e⟩:=vI (n:=s.heap.objs.size+1) k;refine .inr ⟨.inl k,c,e,?_⟩;have q:=x.cell y c e;rw[rq ndP hp hu (by show scope.names.lookup y≠_;rw[k];decide)] at q;exact q
 ·exact e0.hok.fresh (Kj (x.above y c (Kq h)))
 ·unfold lP;show _=N.length;rw[IL,Ij,OH];omega
theorem yI {CX:CXT}{P:IN}{w:Jm}{K:Ia}{mg:Str->Option Ih}{base:Kl}{k:Nat}{f:Iv}{name qual:Str}{params:Arguments}{body:List Ke}{scope:MT}{dV kV doc pm cdv ct oc:Ih}{an od:Option Iv}
  {osl:Array (Option Ih)}{N ps:List Str}{sp:Sp}(lk:K.lookup f=some ⟨oc,od,.func (IH name qual params body scope dV kV doc pm an cdv ct),osl⟩)(hcd:I_ K cdv qual=true)(S:am N ps scope)
  (len:∀ vs H Q E,sp vs H Q E->vs.length=ps.length)
  (hbody:∀ (A:JA) (outer:List Env) (s:Im) (H:Hp) (vs:List V) (Q:VK) (E:XK),Room k (A.deeper (Oq qual scope s.heap.objs.size f cdv))->sp vs H Q E ->
   ∃ t,PSs (As CX P w K mg base N qual scope f cdv A outer s H E) body t/\t { nx:=λ_ H'=>Q .non H',rt:=Q } (lP N vs) H) :
  oC P w K mg base CX (k+1) f (IH name qual params body scope dV kV doc pm an cdv ct) ps sp:=by
 refine⟨len,λA outer s H args us vs Q E hr e0 hb r hsp=>?_⟩;have hl:=len _ _ _ _ hsp;have KX:K.In s.heap:=e0.mod.kin.keeps λb o e=>(e0.bs b o e).1
 have lim:s.heap.NoLimit:=e0.mod.nolimit.keeps λb o e=>(e0.bs b o e).1
 have hkind:∀ y∈ps.zip us,scope.names.lookup y.1=some .local\/(scope.names.lookup y.1=some .cell/\((Mp (s.heap.objs.size+1) scope.names []).lookup y.1).isSome=true):=λ⟨n,v⟩ hy=>by
  rcases S.par n (Ld hy).1 with q|q
  ·exact .inl q
  ·exact .inr ⟨q,Ln _ _ _ (.inl q)⟩
 refine codeAny_call_function hr.depth (KX _ _ lk) rfl S.co S.gen rfl (PySem.W.codeRec_of KX hcd) (hb _ _ _ _ ?_);refine wpAny_newFunctionEnv_cells S.kind hkind λenv he s1 x=>?_
 subst he;refine⟨lim.keeps x.toInCall.keep,codeAny_func ?_⟩;obtain⟨t,ht,hq⟩:=hbody A outer s H vs Q E (hr.deeper _) hsp;have I:Inv (As CX P w K mg base N qual scope f cdv A outer s H E) [] (lP N vs) H s1:=z9 S hr.hd e0 hl r x;refine JG (ht [] s1 (lP N vs) H _ I hq) (λfl s' hs=>?_) λe s' hs=>hs
 have fin:∀ {σ':St}{H':Hp}{v:V}{u:Ih},Inv (As CX P w K mg base N qual scope f cdv A outer s H E) [] σ' H' s'->c9 v u->Q v H'->CE outer P w H s Q u s':=
  λ{σ' H' v u} J rv q=>⟨v,H',J.os,J.bare,J.base,J.hok,rv,q⟩
 cases fl with
 |ret u=>
  obtain⟨v,σ',H',J,rv,q⟩:=hs;exact fin J rv q
 |next=>
  obtain⟨σ',H',J,q⟩:=hs;exact fin (v:=V.non) (u:=J7) J rfl q
 |brk=>
  obtain⟨_,_,_,q⟩:=hs;exact Km q
 |cont=>
  obtain⟨_,_,_,q⟩:=hs;exact Km q
section
variable {X:Cx}{x:Str}{p pos:Pos}{e:KI}{es:List KI}{t:TA}{id T:String}{r:List V->Hp->VK->Prop}
def tCB (r:List V->Hp->VK->Prop)(t:TA):TE:=λσ H Q=>t σ H λvs H1=>r vs H1 Q
theorem aq (hc:eN X (.builtin id) r) (hg:Gl X x) (hm:X.mg x=none) (hv:Jn x=some (.builtin id)) (ha:WA X (e :: es) t) (hn:x ≠ "__name__":=by decide) (hdb:(x == ("__debug__":Str))=false:=by decide)
  (he:IR (e::es) X.env=(false,L6 e X.env)::IR es X.env:=by rfl)(hpl:(Mw pos (IR es X.env)).any (·.1)=false:=by rfl):WE X (.Call (.Name x p) (e::es) [] pos) (tCB r t):=by
 have ha:=ha.go;refine⟨?_⟩;intro pins s σ H Q I h;refine JT (ki I hg hm hv ?_ hn hdb);exact MO (thn (ha pos pins s σ H _ I h) λus s1 ⟨vs,H1,I1,r1,q1⟩=>hc pins s1 σ H1 vs us Q I1 r1 q1) he hpl
theorem aQ (hc:eN X (.type T) r) (hg:Gl X x) (hm:X.mg x=none) (hv:Jn x=some (.type T)) (ha:WA X (e :: es) t) (hn:x ≠ "__name__":=by decide) (hdb:(x == ("__debug__":Str))=false:=by decide)
  (he:IR (e::es) X.env=(false,L6 e X.env)::IR es X.env:=by rfl)(hpl:(Mw pos (IR es X.env)).any (·.1)=false:=by rfl):WE X (.Call (.Name x p) (e::es) [] pos) (tCB r t):=by
 have ha:=ha.go;refine⟨?_⟩;intro pins s σ H Q I h;refine JT (ki I hg hm hv ?_ hn hdb);exact Kc (thn (ha pos pins s σ H _ I h) λus s1 ⟨vs,H1,I1,r1,q1⟩=>hc pins s1 σ H1 vs us Q I1 r1 q1) he hpl
end
end L2
namespace HT
open PySem PyProof.Rows
section
variable {prog:IN}{w:Jm}{A:JA}{E:Ih->Im->Prop}{s:Im}
def sIx (n d:Nat):Option Int->Nat
 |none=>d
 |some v=>if v<0 then(v+(n:Int)).toNat else min v.toNat n
theorem sIx_none (n d:Nat):sIx n d none=d:=rfl
theorem sIx_nat (n d k:Nat):sIx n d (some (k:Int))=min k n:=by
 show(if(k:Int)<0 then((k:Int)+(n:Int)).toNat else min (k:Int).toNat n)=min k n;rw[IY (by omega),Ja]
end
end HT
namespace L2
open PySem PySem.Spec PyProof.Rows
abbrev TO:=St->Hp->(Option Int->Hp->Prop)->Prop
def PO (X:Cx)(e:Option KI)(t:TO):Prop:=
 ∀ (pins:List (Iv×Obj)) (s:Im) (σ:St) (H:Hp) (Q:Option Int->Hp->Prop),Inv X pins σ H s->t σ H Q ->
  IB (IT X.prog X.w) X.A (evalPart e X.env) (λu s'=>∃ o H',Inv X pins σ H' s'/\IsPart u o/\Q o H') X.xe s
structure WO (X:Cx)(e:Option KI)(t:TO):Prop where
 go:PO X e t
def DX:TO:=λ_ H Q=>Q none H
def Gz (t:TE):TO:=λσ H Q=>t σ H λx H1=>∃ i,x=.int i/\Q (some i) H1
theorem pA:∀ {us:List Ih},bD (ns.map V.int) us->Lb us ns:=by
 induction ns with
 |nil=>intro us r;rw[K1] at r;cases r;exact .nil
 |cons n ns ih=>
  intro us r;rw[IF] at r;cases r with
  |cons r1 r2=>
   obtain⟨t,e⟩:=r1;subst e;exact .cons n t (ih r2)
section
variable {X:Cx}{e:KI}{te:TE}{lo hi:Option KI}{tl th:TO}{pos p2:Pos}
theorem vA:WO X none DX:=by
 refine⟨?_⟩;intro pins s σ H Q I h;rw[evalPart_none];exact Ig ⟨none,H,I,.none,h⟩
theorem vM (h:WE X e te):WO X (some e) (Gz te):=by
 have h:=h.go;refine⟨?_⟩;intro pins s σ H Q I hw;rw[evalPart_some];refine thn (h pins s σ H _ I hw) λu s1 ⟨x,H1,I1,r1,q1⟩=>?_
 obtain⟨i,rfl,q⟩:=q1;obtain⟨t,rfl⟩:=r1;exact⟨some i,H1,I1,.int i t,q⟩
def SlR (X:Cx)(r:V->Option Int->Option Int->Hp->VK->Prop):Prop:=
 ∀ (pins:List (Iv×Obj)) (s:Im) (σ:St) (H:Hp) (x:V) (v vl vu:Ih) (lo hi:Option Int) (sl:Iv) (Q:VK),Inv X pins σ H s->c9 x v->s.heap.IsSliceOf sl vl vu .none->IsPart vl lo->IsPart vu hi->r x lo hi H Q ->
  ∃ T id,typeLookup (.type T) "__getitem__"=pure (some (.builtin id))/\s.TypeIs v T/\IB (IT X.prog X.w) X.A (QN v (.ref sl)) (EP X pins σ Q) X.xe s
def tSl (r:V->Option Int->Option Int->Hp->VK->Prop)(te:TE)(tl th:TO):TE:=λσ H Q=>te σ H λx H1=>tl σ H1 λl H2=>th σ H2 λu H3=>r x l u H3 Q
theorem rX (hr:SlR X r)(he:WE X e te)(hl:WO X lo tl)(hu:WO X hi th):WE X (.Subscript e (.Slice lo hi none p2) pos) (tSl r te tl th):=by
 have he:=he.go;have hl:=hl.go;have hu:=hu.go;refine⟨?_⟩;intro pins s σ H Q I h;refine Qh (thn (he pins s σ H _ I h) λv s1 ⟨x,H1,I1,r1,q1⟩=>?_);refine wpAny_Slice (thn (hl pins s1 σ H1 _ I1 q1) λvl s2 ⟨l,H2,I2,pl,q2⟩=>thn (hu pins s2 σ H2 _ I2 q2) λvu s3 ⟨u,H3,I3,pu,q3⟩=>?_);rw[evalPart_none];refine Ig ?_;have I4:Inv X pins σ H3 { s3 with heap:=s3.heap.push { cls:=.type "slice",data:=.fields #[vl,vu,.none] } }:=I3.kept (t':=s3.toks) λb ob q=>Ic _ q
 obtain⟨T,id,hT,ht,hg⟩:=hr pins { s3 with heap:=s3.heap.push { cls:=.type "slice",data:=.fields #[vl,vu,.none] } } σ H3 x v vl vu l u s3.heap.objs.size Q I4 r1 (Heap.IsSliceOf.new ..) pl pu q3;show IB (IT X.prog X.w) X.A (P1 e (.Slice lo hi none p2) v (.ref s3.heap.objs.size)) (EP X pins σ Q) X.xe { s3 with heap:=s3.heap.push { cls:=.type "slice",data:=.fields #[vl,vu,.none] } };exact tail_any (ops:=[.ref s3.heap.objs.size,v]) ht hT hg (by with_unfolding_all rfl)
def Ct (xs:List V)(lo hi:Option Int):List V:=(xs.drop (HT.sIx xs.length 0 lo)).take (HT.sIx xs.length xs.length hi-HT.sIx xs.length 0 lo)
theorem uu (xs:List V)(lo hi:Option Int):(Ct xs lo hi).length<=xs.length:=by
 unfold Ct;rw[IZ,KW];omega
end
def ixN (n:Nat)(i:Int):Option Nat:=if 0<=i then(if i<n then some i.toNat else none) else if -(n:Int)<=i then some (i+n).toNat else none
def atI {α:Type}(xs:List α)(i:Int):Option α:=(ixN xs.length i).bind λj=>xs[j]?
theorem z_ {n:Nat}{i:Int}{j:Nat}(h:ixN n i=some j):seqIndex? i n=some j/\j<n/\-(n:Int)<=i/\i<n:=by
 unfold ixN at h
 by_cases h0:0<=i
 ·rw[Jh h0] at h
  by_cases h1:i<n
  ·rw[Jh h1] at h;have e:i.toNat=j:=Ie h;exact⟨by rw[seqIndex_of h0 h1,e],by omega,by omega,h1⟩
  ·rw[IY h1] at h;cases h
 ·rw[IY h0] at h
  by_cases h1:-(n:Int)<=i
  ·rw[Jh h1] at h;have e:(i+n).toNat=j:=Ie h;exact⟨by rw[seqIndex_neg (by omega) h1,e],by omega,h1,by omega⟩
  ·rw[IY h1] at h;cases h
theorem ui {i:Int}(h:atI xs i=some v):∃ j,seqIndex? i xs.length=some j/\xs[j]?=some v/\j<xs.length/\-(xs.length:Int)<=i/\i<xs.length:=by
 unfold atI at h;cases e:ixN xs.length i with
 |none=>rw[e] at h;cases h
 |some j=>
  rw[e] at h;obtain⟨h1,h2,h3,h4⟩:=z_ e;exact⟨j,h1,h,h2,h3,h4⟩
theorem m9 {α:Type}{xs:List α}{j:Nat}{v:α}(h:xs[j]?=some v):atI xs (j:Int)=some v:=by
 have hj:j<xs.length:=(Iu.mp h).1;have e:ixN xs.length (j:Int)=some j:=by
  unfold ixN;rw[Jh (by omega),Jh (by omega)];simp
 unfold atI;rw[e];exact h
theorem qf (xs:List α)(v:α):atI (xs++[v]) (-1)=some v:=by
 have hl:(xs++[v]).length=xs.length+1:=by simp
 have e:ixN (xs++[v]).length (-1)=some xs.length:=by
  unfold ixN;rw[hl,IY (by decide),Jh (by omega)]
  congr 1
  omega
 unfold atI;rw[e];show(xs++[v])[xs.length]?=some v;simp
def Aj (b:KI):Prop:=∀ o i,subscripted b false o i=operate [o,i] (QN o i)
def IxR (X:Cx)(r:R2):Prop:=
 ∀ (value slice:KI) (pins:List (Iv×Obj)) (s:Im) (σ:St) (H:Hp) (x y:V) (v u:Ih) (Q:VK),Inv X pins σ H s->c9 x v->c9 y u->r x y H Q ->
  subscripted slice false v u=operate [v,u] (QN v u)->IB (IT X.prog X.w) X.A (P1 value slice v u) (EP X pins σ Q) X.xe s
def MtR (X:Cx)(id:String)(r:V->List V->Hp->VK->Prop):Prop:=
 ∀ (pins:List (Iv×Obj)) (s:Im) (σ:St) (H:Hp) (x:V) (xs:List V) (v:Ih) (us:List Ih) (Q:VK),Inv X pins σ H s->c9 x v->bD xs us->r x xs H Q ->
  IB (IT X.prog X.w) X.A (call (.builtin id) (v::us)) (EP X pins σ Q) X.xe s
section
variable {X:Cx}{a b:KI}{ta tb:TE}{pos:Pos}
theorem IxR.or (h:IxR X r)(h':IxR X r'):IxR X (λx y H Q=>r x y H Q\/r' x y H Q):=by
 intro value slice pins s σ H x y v u Q I rx ry q hs;rcases q with q|q
 ·exact h value slice pins s σ H x y v u Q I rx ry q hs
 ·exact h' value slice pins s σ H x y v u Q I rx ry q hs
theorem Ch (hr:IxR X r)(ha:WE X a ta)(hb:WE X b tb)(hs:Aj b):WE X (.Subscript a b pos) (tOp r ta tb):=by
 have ha:=ha.go;have hb:=hb.go;refine⟨?_⟩;intro pins s σ H Q I h;exact Qh (Gv ha hb I h λv u s2 x y H2 I2 rx ry q=>hr a b pins s2 σ H2 x y v u Q I2 rx ry q (hs _ _))
def GY (K:Ia):R2:=λx y H Q=>∃ p xs i v,x=.ref p/\y=.int i/\SqL K H p xs/\atI xs i=some v/\Q v H
def Hi (K:Ia):R2:=λx y H Q=>∃ p xs i v,x=.ref p/\y=.int i/\SqT K H p xs/\atI xs i=some v/\Q v H
def GX:R2:=λx y H Q=>∃ z i c,x=.str z/\y=.int i/\z.length<=II/\atI z.cps.toList i=some c/\Q (.str ⟨#[c]⟩) H
theorem Df:IxR X (GY X.K):=by
 intro value slice pins s σ H x y v u Q I rx ry h hs;obtain⟨p,xs,i,z,rfl,rfl,hq,he,q⟩:=h;cases rx;obtain⟨t,rfl⟩:=ry;obtain⟨its,r,pl,hz⟩:=I.list hq;obtain⟨j,h1,h2,h3,h4,h5⟩:=ui he;obtain⟨w,ew,rw'⟩:=r.get h2;have hl:=r.length;have hn:=o8;have fin:EP X pins σ Q w s:=⟨z,H,I,rw',q⟩
 by_cases h0:0<=i
 ·have hj:i.toNat=j:=by
   rw[seqIndex_of h0 h5] at h1;exact Ie h1
  exact item_listR pl.isList h0 (by omega) (by rw[hj];simpa using ew) fin hs
 ·have hj:(i+(its.toArray.size:Int)).toNat=j:=by
   rw[seqIndex_neg (by omega) h4] at h1;rw[IE,<- hl];exact Ie h1
  exact Oy (x:=w) pl.isList.typeIs slot_list_getitem.lookup
   (wpAny_getItem_list_neg (Q:=λr s'=>r=w/\EP X pins σ Q r s') pl.isList (by omega) (by rw[IE]<;>omega) (by omega) (by rw[hj];simpa using ew) ⟨rfl,fin⟩) hs
theorem Fi:IxR X (Hi X.K):=by
 intro value slice pins s σ H x y v u Q I rx ry h hs;obtain⟨p,xs,i,z,rfl,rfl,hq,he,q⟩:=h;cases rx;obtain⟨t,rfl⟩:=ry;obtain⟨its,r,pl,hz⟩:=I.tuple hq;obtain⟨j,h1,h2,h3,h4,h5⟩:=ui he;obtain⟨w,ew,rw'⟩:=r.get h2;have hl:=r.length;have hn:=o8;have fin:EP X pins σ Q w s:=⟨z,H,I,rw',q⟩
 exact Oy (x:=w) pl.typeIs slot_tuple_getitem.lookup
  (getItem_tuple (j:=j) (Q:=λr s'=>r=w/\EP X pins σ Q r s') pl (by omega) (by omega) (by rw[IE,<- hl];exact h1) (by simpa using ew) ⟨rfl,fin⟩) hs
theorem EL:IxR X GX:=by
 intro value slice pins s σ H x y v u Q I rx ry h hs;obtain⟨z,i,c,rfl,rfl,hz,he,q⟩:=h;obtain⟨t,rfl⟩:=rx;obtain⟨t',rfl⟩:=ry;obtain⟨j,h1,h2,h3,h4,h5⟩:=ui he;have hl:z.cps.toList.length=z.length:=by simp[Str.length]
 rw[hl] at h1 h4 h5;have hn:=o8;exact tail_any (typeIs_str s z t) slot_str_getitem.lookup (getItem_str (c:=c) (by
  have e1:decide (i < -(2^63:Int))=false:=Jd (by omega);have e2:decide (i>=2^63)=false:=Jd (by omega);rw[e1,e2,Bool.or_false]) (by rw[h1];simpa using h2) ⟨.str ⟨#[c]⟩,H,I.tok _,⟨_,rfl⟩,q⟩) hs
def rIx (K:Ia):R2:=λx y H Q=>GY K x y H Q\/Hi K x y H Q\/GX x y H Q
theorem EZ:IxR X (rIx X.K):=Df.or (Fi.or EL)
theorem wU (its:List Ih)(n j:Nat)(u:Ih):KY (·.setIfInBounds j u) { cls:=.type "list",data:=.seq its.toArray n }={ cls:=.type "list",data:=.seq (its.set j u).toArray n }:=by
 simp[KY]
theorem Inv.lst {pins:List (Iv × Obj)}{σ:St}{H:Hp}{s:Im}{p:Iv}{xs:List V} (I:Inv X pins σ H s) (h:H p=some (.lst xs)) :
  ∃ (its:List Ih) (n:Nat),bD xs its/\s.heap.get? p=some { cls:=.type "list",data:=.seq its.toArray n }/\xs.length<=II:=by
 obtain⟨z,its,n,r,e⟩:=I.hok p _ h;exact⟨its,n,r,e,z⟩
theorem Inv.lstUpd {pins:List (Iv × Obj)}{σ:St}{H:Hp}{s:Im}{p:Iv}{xs ys:List V}{its its':List Ih}{n n':Nat}{f:Obj->Obj} (I:Inv X pins σ H s) (h:H p=some (.lst xs))
  (ho:s.heap.get? p=some { cls:=.type "list",data:=.seq its.toArray n })(hf:f { cls:=.type "list",data:=.seq its.toArray n }={ cls:=.type "list",data:=.seq its'.toArray n' })(r:bD ys its')(hz:ys.length<=II)(t:Nat):
  Inv X pins σ (upd H p (.lst ys)) { s with heap:=s.heap.update p f,toks:=t }:=by
 have e:(s.heap.update p f).get? p=some { cls:=.type "list",data:=.seq its'.toArray n' }:=by
  rw[Jx f ho (by rw[hf]<;>rfl),hf]
 refine I.write (x:=p) (e:=p) (by rw[h];trivial) (.inl rfl) (λb u hb q=>(JU _ _ (KH hb)).trans q) ⟨_,e⟩ ?_;exact⟨hz,its',n',r,e⟩
def GO:V->V->V->Hp->(Hp->Prop)->Prop:=λo i v H Q=>∃ p xs k j,o=.ref p/\i=.int k/\H p=some (.lst xs)/\ixN xs.length k=some j/\Q (upd H p (.lst (xs.set j v)))
theorem qU:He X GO:=by
 intro pins s σ H o i v ov iv u Q I ro ri rv h;obtain⟨p,xs,k,j,rfl,rfl,hp,hj,q⟩:=h;cases ro;obtain⟨t,rfl⟩:=ri;obtain⟨its,n,r,ho,hz⟩:=I.lst hp;obtain⟨h1,h2,h3,h4⟩:=z_ hj;have hl:=r.length;have hn:=o8;have I':Inv X pins σ (upd H p (.lst (xs.set j v))) { s with heap:=s.heap.update p (KY (·.setIfInBounds j u)) }:=
  I.lstUpd hp ho (wU its n j u) (r.set rv j) (by rw[OI];exact hz) s.toks
 by_cases h0:0<=k
 ·have hk:k.toNat=j:=by
   rw[seqIndex_of h0 h4] at h1;exact Ie h1
  exact PySem.W.ki_setAt ho h0 (by omega) (by rw[IE,<- hl];exact h4) (by rw[hk];exact⟨_,I',q⟩)
 ·have hk:(k+(its.toArray.size:Int)).toNat=j:=by
   rw[seqIndex_neg (by omega) h3] at h1;rw[IE,<- hl];exact Ie h1
  exact PySem.W.ki_setBack ho (by omega) (by rw[IE,<- hl];exact h3) (by omega) (by rw[hk];exact⟨_,I',q⟩)
theorem t5 (lo hi:Option Int)(n:Nat):(MK lo hi none n).1=((HT.sIx n 0 lo:Nat):Int)/\(MK lo hi none n).2.1=((HT.sIx n n hi:Nat):Int)/\(MK lo hi none n).2.2=1:=by
 refine⟨?_,?_,rfl⟩
 ·cases lo with
  |none=>simp[MK,HT.sIx]
  |some i=>
   simp only[MK,HT.sIx,QC,show(1:Int)>0 by decide,LC]
   by_cases h:i<0
   ·simp only[h,LC]<;>omega
   ·simp only[h,LR]<;>omega
 ·cases hi with
  |none=>simp[MK,HT.sIx]
  |some i=>
   simp only[MK,HT.sIx,QC,show(1:Int)>0 by decide,LC]
   by_cases h:i<0
   ·simp only[h,LC]<;>omega
   ·simp only[h,LR]<;>omega
theorem pL (its:List Ih)(lo hi:Option Int):slicePick its.toArray lo hi none=((its.drop (HT.sIx its.length 0 lo)).take (HT.sIx its.length its.length hi-HT.sIx its.length 0 lo)).toArray:=by
 obtain⟨h1,h2,h3⟩:=t5 lo hi its.toArray.size;unfold slicePick;rw[h1,h2,h3];simp only[sliceRange_one,pick_run,IE]<;>rfl
def G4 (K:Ia):V->Option Int->Option Int->Hp->VK->Prop:=λx lo hi H Q=>∃ a xs,x=.ref a/\SqL K H a xs/\∀ p,H p=none->Q (.ref p) (upd H p (.lst (Ct xs lo hi)))
theorem DR:SlR X (G4 X.K):=by
 intro pins s σ H x v vl vu lo hi sl Q I rx hs pl pu h;obtain⟨a,xs,rfl,hx,q⟩:=h;cases rx;obtain⟨its,r,ht,hz⟩:=I.list hx;have hlen:=r.length;refine⟨"list",_,slot_list_getitem.lookup,ht.isList.typeIs,?_⟩;refine wpAny_getItem_list_slice ht.isList hs pl pu .none (by simp) ?_ (by rw[IE]<;>omega);rw[pL,<- hlen];refine⟨.ref s.heap.objs.size,_,I.laid (t':=s.toks) (o:=.lst (Ct xs lo hi)) (λb ob q=>Ic _ q) (Il _) ?_,rfl,q _ (I.hok.fresh (Il _))⟩;exact⟨IS (uu xs lo hi) hz,_,0,(r.drop (HT.sIx xs.length 0 lo)).take (HT.sIx xs.length xs.length hi-HT.sIx xs.length 0 lo),Io _ rfl⟩
theorem rH:eN X (.builtin "len") (λxs H Q=>∃ p ys,xs=[.ref p]/\(SqL X.K H p ys\/SqT X.K H p ys)/\Q (.int ys.length) H):=by
 intro pins s σ H xs us Q I r h;obtain⟨p,ys,rfl,hq,q⟩:=h;obtain⟨u,rfl,rx⟩:=mY r;cases rx;have hn:=o8;rcases hq with hq|hq
 ·obtain⟨its,r',pl,hz⟩:=I.list hq;have hlen:=r'.length;exact Calls.call_len_list pl.isList (by simp only[IE]<;>omega) ⟨.int ys.length,H,I.tok _,⟨s.toks+1,by rw[IE,hlen]⟩,q⟩
 ·obtain⟨its,r',pl,hz⟩:=I.tuple hq;have hlen:=r'.length;exact len_tuple pl (by simp only[IE]<;>omega) ⟨.int ys.length,H,I.tok _,⟨s.toks+1,by rw[IE,hlen]⟩,q⟩
theorem t4:eN X (.type "list") (λxs H Q=>∃ p ys,xs=[.ref p]/\(SqL X.K H p ys\/SqT X.K H p ys)/\∀ l,H l=none->Q (.ref l) (upd H l (.lst ys))):=by
 intro pins s σ H xs us Q I r h;obtain ⟨p,ys,rfl,hq,q⟩:=h;obtain ⟨u,rfl,rx⟩:=mY r;cases rx;have fin:∀ (its:List Ih),bD ys its->ys.length <= II->∀ (h':Kl) (c':Nat),(∀ b o',s.heap.get? b=some o'->h'.get? b=some o') ->
   h'.get? s.heap.objs.size=some { cls:=.type "list",dict:=none,data:=.seq its.toArray c',slots:=#[] }->EP X pins σ Q (.ref s.heap.objs.size) { s with heap:=h' }:=λits r' hz h' c' kp e=>
  ⟨.ref s.heap.objs.size,_,I.laid (t':=s.toks) kp (Il _) (show cF X.prog X.w _ h' _ (.lst ys) from⟨hz,its,c',r',e⟩),rfl,q _ (I.hok.fresh (Il _))⟩
 rcases hq with hq|hq
 ·obtain⟨its,r',pl,hz⟩:=I.list hq;have hlen:=r'.length;obtain⟨o,ho,hc,n,hd⟩:=pl.isList;exact call_list_seq p (.inl rfl) ho hc hd (λh' c' kp e=>fin its r' hz h' c' kp e) (by simp only[IE]<;>omega)
 ·obtain⟨its,r',pl,hz⟩:=I.tuple hq;have hlen:=r'.length;obtain⟨o,ho,hc,n,hd⟩:=pl;exact call_list_seq p (.inr rfl) ho hc hd (λh' c' kp e=>fin its r' hz h' c' kp e) (by simp only[IE]<;>omega)
theorem pQ:eN X (.type "tuple") (λxs H Q=>∃ p ys,xs=[.ref p]/\((SqL X.K H p ys/\∀ l,H l=none->Q (.ref l) (upd H l (.tup ys)))\/(SqT X.K H p ys/\Q (.ref p) H))):=by
 intro pins s σ H xs us Q I r h;obtain⟨p,ys,rfl,h⟩:=h;obtain⟨u,rfl,rx⟩:=mY r;cases rx;rcases h with ⟨hq,q⟩|⟨hq,q⟩
 ·obtain⟨its,r',pl,hz⟩:=I.list hq;have hlen:=r'.length;refine call_tuple_list pl.isList (λh' kp=>?_) (by simp only[IE]<;>omega);have I1:Inv X pins σ H { s with heap:=h' }:=I.kept (t':=s.toks) kp;have I2:Inv X pins σ (upd H h'.objs.size (.tup ys)) { s with heap:=h'.push { cls:=.type "tuple",data:=.seq its.toArray } }:=
   I1.laid (t':=s.toks) (λb o e=>Ic _ e) (Il _) (show cF X.prog X.w _ _ _ (.tup ys) from⟨hz,its,r',IsTup.new _ _⟩)
  exact⟨.ref h'.objs.size,_,I2,rfl,q _ (I1.hok.fresh (Il _))⟩
 ·obtain⟨its,r',pl,hz⟩:=I.tuple hq;exact call_tuple_same pl ⟨.ref p,H,I,rfl,q⟩
def tyV (K:Ia)(T:String)(x:V)(H:Hp):Prop:=match x with
 |.str _=>T="str"
 |.int _=>T="int"
 | .ref p=>(T="list"/\∃ xs,SqL K H p xs)\/(T="tuple"/\∃ o,K.lookup p=some o/\o.cls=.type "tuple"/\o.dict=none) \/
   (T="dict"/\((∃ kvs,H p=some (.dK kvs))\/∃ kvs,H p=some (.dT kvs)))\/(T="set"/\∃ S n,H p=some (.set S n))
 |_=>False
theorem Cn (I:Inv X pins σ H s) (r:c9 x v) (ty:tyV X.K T x H) :
  s.TypeIs v T/\∀ a,v=.ref a->∃ ob,s.heap.get? a=some ob/\ob.dict=none:=by
 cases x with
 |str z=>
  obtain⟨t,rfl⟩:=r;cases(show T="str" from ty);exact⟨typeIs_str s z t,λ_ e=>nomatch e⟩
 |int i=>
  obtain⟨t,rfl⟩:=r;cases(show T="int" from ty);exact⟨OW s i t,λ_ e=>nomatch e⟩
 |ref p=>
  cases r;rcases ty with ⟨rfl,xs,hq⟩|⟨rfl,o,hk,hc,hd⟩|⟨rfl,hk⟩|⟨rfl,S,n,hk⟩
  ·obtain⟨its,_,pl,_⟩:=I.list hq;refine⟨pl.isList.typeIs,λa e=>?_⟩;cases e;obtain⟨o,n,e,c,hd,_⟩:=pl;exact⟨o,e,hd⟩
  ·refine⟨⟨o,I.kIn p o hk,hc⟩,λa e=>?_⟩;cases e;exact⟨o,I.kIn _ o hk,hd⟩
  ·have z:∃ o,s.heap.get? p=some o/\o.ExactDict:=by
    rcases hk with ⟨kvs,hk⟩|⟨kvs,hk⟩
    ·obtain⟨_,_,_,_,o,_,_,e,ex,_⟩:=I.hok p _ hk;exact⟨o,e,ex⟩
    ·obtain⟨_,_,_,_,o,_,_,e,ex,_⟩:=I.hok p _ hk;exact⟨o,e,ex⟩
   obtain⟨o,e,ex⟩:=z;refine⟨⟨o,e,ex.1⟩,λa e2=>?_⟩;cases e2;exact⟨o,e,ex.2.1⟩
  ·obtain⟨o,_,_,_,e,ex,_⟩:=I.hok p _ hk;refine⟨⟨o,e,ex.1⟩,λa e2=>?_⟩;cases e2;exact⟨o,e,ex.2.1⟩
 |_=>exact Km ty
def tBM (K:Ia)(T:String)(r:V->List V->Hp->VK->Prop)(to:TE)(t:TA):TE:=λσ H Q=>to σ H λx H1=>tyV K T x H1/\t σ H1 λxs H2=>r x xs H2 Q
variable {o e:KI}{es:List KI}{to:TE}{t:TA}{name:Str}{apos cpos:Pos}{T id:String}{r:V->List V->Hp->VK->Prop}
theorem pG (pa:PlainAttrs T) (slot:Slot T name id) (hty:typeOf (.builtin id)=pure (.type "method_descriptor")) (hm:MtR X id r) (ho:WE X o to) (ha:WA X (e :: es) t)
  (hbase:Of o name X.env (L6 o X.env)=L6 o X.env:=by rfl)
  (hfew:((Mw cpos (IR (e::es) X.env)).all (λx=>!x.1)&&(LK cpos (Kt [] X.env)).all (λx=>x.1.isSome)
   &&decide ((e::es).length+([]:List ND).length+(if([]:List ND).isEmpty then 0 else 1)<30))=true:=by rfl)
  (hline:(apos.endLine==cpos.line)=true:=by rfl)(hs:IR (e::es) X.env=(false,L6 e X.env)::IR es X.env:=by rfl)(hplain:(Mw cpos (IR es X.env)).any (·.1)=false:=by rfl):
  WE X (.Call (.Attribute o name apos) (e::es) [] cpos) (tBM X.K T r to t):=by
 have ho:=ho.go;have ha:=ha.go;refine⟨?_⟩;intro pins s σ H Q I h;refine wpAny_Call_method_late hbase hfew hline rfl (thn (ho pins s σ H _ I h) λv s1 ⟨x,H1,I1,r1,ty,q1⟩=>?_);obtain⟨h1,h2⟩:=Cn I1 r1 ty;refine⟨T,id,pa,slot,hty,h1,h2,?_⟩;have hA:=ha cpos pins s1 σ H1 _ I1 q1;rw[hs] at hA ⊢;refine Ot (by show(false||(Mw cpos (IR es X.env)).any (·.1))=false;rw[hplain]<;>rfl) (Calls.evalArgs_plain ?_);exact thn hA λus s2 ⟨vs,H2,I2,r2,q2⟩=>hm pins s2 σ H2 x vs v us Q I2 r1 r2 q2
end
def MtM (X:Cx)(id:String)(r:V->List V->Hp->VK->Prop):Prop:=
 ∀ (pins:List (Iv×Obj)) (s:Im) (σ:St) (H:Hp) (x:V) (xs:List V) (v:Ih) (us:List Ih) (Q:VK),Inv X pins σ H s->c9 x v->bD xs us->r x xs H Q ->
  IB (IT X.prog X.w) X.A (call (.builtin id) (v::us)) (EP X pins σ Q) X.xe s
theorem bD.one:∀ {x:V}{us:List Ih},bD [x] us->∃ u,us=[u]/\c9 x u
 |_,_,.cons r .nil=>⟨_,rfl,r⟩
theorem bD.rep (h:bD xs us):∀ k:Nat,bD (Iz k xs).flatten (Iz k us).flatten
 |0=>.nil
 |k+1=>by
  rw[Kp,Kp,LF,LF];exact bD.append h (bD.rep h k)
theorem rB (its:List Ih):∀ (k:Nat) (acc:List Ih),
  QS (λx1 x2=>x1++x2) acc.toArray (Iz k its.toArray)=(acc++(Iz k its).flatten).toArray
 |0,acc=>by simp
 |k+1,acc=>by
  have e:acc.toArray++its.toArray=(acc++its).toArray:=by simp
  have e2:(acc++its)++(Iz k its).flatten=acc++(Iz (k+1) its).flatten:=by
   rw[Kp,LF,Lc]
  rw[<- e2,<- rB its k (acc++its),<- e,Kp,List.foldl_cons]
section
variable {X:Cx}{pins:List (Iv×Obj)}{σ:St}{H:Hp}{s:Im}{l b:Iv}{xs ys zs:List V}
theorem Inv.lset {its its':List Ih}{n:Nat}{f:Array Ih->Array Ih}{t':Nat} (I:Inv X pins σ H s) (hH:H l=some (.lst xs))
  (e:s.heap.get? l=some { cls:=.type "list",data:=.seq its.toArray n })(hf:f its.toArray=its'.toArray)(hv:bD ys its')(hz:ys.length<=II):
  Inv X pins σ (upd H l (.lst ys)) { s with heap:=s.heap.update l (KY f),toks:=t' }:=by
 have q:=PySem.IsL.update e f;rw[hf] at q;refine I.write (x:=l) (e:=l) (by rw[hH];exact trivial) (.inl rfl) (λb' u hb hu=>(JU s.heap (KY f) (KH hb)).trans hu) ⟨_,q⟩ ?_;exact⟨hz,its',_,hv,q⟩
theorem Inv.lnew {t':Nat} (I:Inv X pins σ H s) (hv:bD ys its) (hz:ys.length <= II) :
  Inv X pins σ (upd H s.heap.objs.size (.lst ys)) { s with heap:=s.heap.push { cls:=.type "list",data:=.seq its.toArray },toks:=t' }:=
 I.laid (λ_ _ q=>Ic _ q) (Il _) ⟨hz,its,0,hv,Io _ rfl⟩
theorem Inv.fresh (I:Inv X pins σ H s):H s.heap.objs.size=none:=I.hok.fresh (Il _)
theorem Inv.lstM (I:Inv X pins σ H s)(hH:H l=some (.lst xs)):xs.length<=II/\∃ (its:List Ih) (n:Nat),bD xs its/\xs.length=its.length/\s.heap.get? l=some { cls:=.type "list",data:=.seq its.toArray n }:=by
 obtain⟨z,its,n,r,e⟩:=I.hok l _ hH;exact⟨z,its,n,r,r.length,e⟩
theorem AT {n:Nat}(h:n<=II):L7 n=false:=by
 unfold L7;exact Jd (by omega)
end
section
variable {X:Cx}
def Dr:V->List V->Hp->VK->Prop:=λx vs H Q=>∃ l xs y,x=.ref l/\vs=[y]/\H l=some (.lst xs)/\xs.length<II/\Q .non (upd H l (.lst (xs++[y])))
theorem iH:MtM X "list.append" Dr:=by
 intro pins s σ H x vs v us Q I rx rv h;obtain⟨l,xs,y,rfl,rfl,hH,hz,q⟩:=h;cases rx;obtain⟨u,rfl,ru⟩:=rv.one;obtain⟨z,its,n,r,hl,e⟩:=I.lstM hH;refine N4 Ka ⟨_,e,rfl⟩ F.entry_list_append (F.args_list_append_2 _ _) (PySem.list_append l its.toArray n u (by rw[IE];omega)) ⟨e,?_⟩;refine⟨.non,_,I.lset (its':=its++[u]) hH e (by simp) (r.append (.cons ru .nil)) ?_,rfl,q⟩;rw[IL,List.length_singleton];omega
def HL:R2:=λx y H Q=>∃ l b xs zs,x=.ref l/\y=.ref b/\H l=some (.lst xs)/\H b=some (.lst zs)/\xs.length+zs.length<=II/\∀ p,H p=none->Q (.ref p) (upd H p (.lst (xs++zs)))
theorem zS:OpR X (M2 .Add) HL:=by
 intro pins s σ H x y v u Q I rx ry h;obtain⟨l,b,xs,zs,rfl,rfl,hH,hB,hz,q⟩:=h;cases rx;cases ry;obtain⟨z,its,n,r,hl,e⟩:=I.lstM hH;obtain⟨z2,its2,n2,r2,hl2,e2⟩:=I.lstM hB;refine PySem.P.add_list e e2 ?_ (by rw[IE,IE];omega);have ea:its.toArray++its2.toArray=(its++its2).toArray:=by simp
 rw[ea];exact⟨.ref _,_,I.lnew (t':=s.toks) (r.append r2) (by rw[IL];omega),rfl,q _ I.fresh⟩
def Gi:R2:=λx y H Q=>∃ l k xs,x=.ref l/\y=.int k/\H l=some (.lst xs)/\-(2^63)<=k/\k<2^63/\xs.length*k.toNat<=II /\
 ∀ p,H p=none->Q (.ref p) (upd H p (.lst (Iz k.toNat xs).flatten))
theorem Dn (xs:List α)(k:Nat):(Iz k xs).flatten.length=k*xs.length:=by
 induction k with
 |zero=>simp
 |succ k ih=>rw[Kp,LF,IL,ih,Mb,Nat.add_comm]
theorem CB:OpR X (M2 .Mult) Gi:=by
 intro pins s σ H x y v u Q I rx ry h;obtain⟨l,k,xs,rfl,rfl,hH,h1,h2,hz,q⟩:=h;cases rx;obtain⟨t,rfl⟩:=ry;obtain⟨z,its,n,r,hl,e⟩:=I.lstM hH;have hlen:its.toArray.size*k.toNat<=II:=by rw[IE,<- hl];exact hz
 have hcap:¬ its.toArray.size*k.toNat>(2^63-1)/8:=by
  have:(II:Nat)<=(2^63-1)/8:=by decide
  omega
 have hfit:¬ (!No k)=true:=by
  rw[fitsIndex_both h1 h2];exact JC
 have hlong:¬ L7 (its.toArray.size*k.toNat)=true:=by
  rw[AT hlen];exact JC
 have hnew:QS (λx1 x2=>x1++x2) #[] (Iz (if its.toArray.isEmpty=true then 0 else k.toNat) its.toArray)=(Iz k.toNat its).flatten.toArray:=by
  have f0:∀ m:Nat,QS (λx1 x2=>x1++x2) #[] (Iz m its.toArray)=(Iz m its).flatten.toArray:=λm=>by
   have:=rB its m [];rw[List.nil_append] at this;exact this
  rw[f0];cases its with
  |nil=>simp
  |cons a r'=>rw[IY (by simp)]
 refine NN (T:="list") (U:="int") (by decide) ⟨_,e,rfl⟩ (λs'=>OW s' k t) noFill_list_mul PF Mh repeat_list Po.lookup
  (N4 Mh (OW s k t) Pm (O0 _ _) (int___rmul___int_list k t l its.toArray n)
   ⟨e,rfl,⟨_,e,rfl⟩,N4 F.slot_list_mul ⟨_,e,rfl⟩ F.entry_list_mul (F.args_list_mul_2 _ _) (AutoListH.list___mul___list_int_3 l its.toArray n k t hfit hcap hlong) ⟨e,?_⟩⟩)
 rw[hnew];exact⟨.ref _,_,I.lnew (t':=s.toks) (r.rep k.toNat) (by rw[Dn,Qt];exact hz),rfl,q _ I.fresh⟩
end
end L2
namespace Att
open PySem PySem.W PySem.Calls PyProof.Rows
theorem nY:∀ (ns:List Int) (vs:List Ih),WellAll P h vs (ns.map WData.int)->Lb vs ns:=by
 intro ns
 induction ns with
 |nil=>
  intro vs w;rw[K1] at w;cases w;exact .nil
 |cons n ns ih=>
  intro vs w;rw[IF] at w;cases w with
  |cons a b=>
   cases a;exact .cons _ _ (ih _ b)
theorem xW {l:OpenLaw}{n:Nat} (hn:l.most=some n) {P:Params}{h:Kl}{args:List WData}{vals:List Ih}
  (hpre:l.row.toRowW.claim.pre args=true)(hwl:WellAll P h vals args):
  ∃ a vs ns,vals=[IX a]/\args=[WData.list (ns.map WData.int)]/\h.get? a=some { cls:=.type "list",data:=.seq vs.toArray }/\Lb vs ns/\ns.length<=n:=by
 have hsh:WShape.hasAll [] args [.list .int]=true:=(pre_splitW hpre).1;have hc:l.pre.holds [] { args:=args }=true:=(pre_splitW hpre).2;obtain⟨d,r,rfl,h1,h2⟩:=hasAllW_cons hsh;obtain rfl:=hasAllW_nil h2;obtain⟨xs,rfl,h3⟩:=hasW_list h1;obtain⟨ns,rfl⟩:=items_int h3;have hlen:ns.length<=n:=by
  unfold OpenLaw.pre at hc;have h4:(WTm.not (.lt (.lit (.int (n:Int))) (.len (.arg 0)))).holds [] { args:=[.list (ns.map .int)] }=true:=by
   have h4:=(holds_andW hc).1;rw[hn] at h4;exact h4
  have h5:=condW_of h4 (w_not (w_lt w_lit (w_len_list (w_arg rfl))));rw[Ij] at h5;refine Nat.le_of_not_lt λq=>?_
  have q':(n:Int)<((ns.length:Nat):Int):=by omega
  first
   |(rw[Ir q'] at h5;exact absurd h5 (by decide))
   |(simp at h5;omega)
 cases hwl with
 |cons w1 w2=>
  cases w2;cases w1 with
  |list ho hall=>exact⟨_,_,ns,rfl,rfl,ho,nY ns _ hall,hlen⟩
theorem zJ (l:OpenLaw)(args:List WData):l.row.toRowW.claim.post args (.bool true) args=true:=
 postW_of (r:=l.row.toRowW) (X:=(true==true))
  (show WShape.has [] (.bool true) .bool=true by first|rfl|decide|simp[WShape.has,WShape.arms,WShape.armsAll])
  (show(WTm.eq .res (.lit (.bool true))).value [] { args:=args,res:=some (.bool true),after:=args }=some (.bool (true==true)) from w_eq_bool (w_res rfl) w_lit) rfl
theorem attach_call {l:OpenLaw}{n:Nat}{q:IN}{loose:List Str}{XP:(Str->Option Ih)->Kl->Prop}{YP:Jm->Kl->Prop}{d:DefRec}
  (hn:l.most=some n)(hdf:d.params.defaults=[])
  (call:∀ (w:Jm) (s₀ s₁:Im) (mg mb:Str->Option Ih) (fa:Iv) (o:Obj) (pm cd doc:Ih) (a:Iv) (vs:List Ih) (ns:List Int),
   Ground q loose [] XP w s₀ mg mb s₁.heap->YP w s₁.heap ->
   s₁.heap.get? fa=some o->o.data=.func (docDef d.name d.params d.body d.scope pm cd doc)->s₁.heap.CodeRec cd d.name->mg d.name=some (.ref fa) ->
   s₁.heap.get? a=some { cls:=.type "list",data:=.seq vs.toArray }->Lb vs ns->ns.length<=n->s₁.gens=#[] ->
   L5 (IT l.prog w) QM (.call (.ref fa) ⟨[.ref a],[]⟩) (λr s'=>r=.ok (.ret (.bool true))/\OldK s₁.heap s'.heap/\s'.os=s₁.os/\Pg s'.gens) s₁) :
  WalkO q loose XP YP l.row.toRowW d [] (λf vs=>QT f vs):=by
 intro w s₀ s₁ mg mb G Y fa o pm cd doc dV kV ho hd hcd hD hmg hg args vals as hpre hlay hrd hwl hlo;obtain rfl:dV=.none:=Dflts.none hD hdf;obtain rfl:kV=.none:=Dflts.noKw hD;obtain⟨a,vs,ns,rfl,rfl,hobj,hints,hlen⟩:=xW hn hpre hwl;refine enter_call (Lf (call w s₀ s₁ mg mb fa o pm cd doc a vs ns G Y ho (fd_plain hd) hcd hmg hobj hints hlen hg) λr s' hq=>?_);obtain⟨rfl,h2,h3,h4⟩:=hq;exact⟨.inl ⟨.bool true,.bool true,[],rfl,λ_=>rfl,.bool true,zJ l _,λ_=>⟨NT,λ_ hm=>(nomatch hm)⟩⟩,h2,h3,h4⟩
end Att
namespace L2
open PySem PySem.Spec PyProof.Rows
theorem ia:∀ {vs:List Ih}{ns:List Int},Lb vs ns->bD (ns.map V.int) vs
 |_,_,.nil=>.nil
 |_,_,.cons n t h=>.cons ⟨t,rfl⟩ (ia h)
end L2
namespace L2
open PySem PySem.Spec PyProof.Rows
def dB (s:Ke)(j:Nat):Ke:=match s with
 |.ClassDef _ _ _ body _ _ _ _ _ _ _=>body.getD j (.Pass ⟨0,0,0,0⟩)
 |_=>.Pass ⟨0,0,0,0⟩
def aJ (s:Ke):Arguments:=match s with
 |.FunctionDef _ a _ _ _ _ _ _ _ _=>a
 |_=>{ posonlyargs:=[],args:=[],vararg:=none,kwonlyargs:=[],kw_defaults:=[],kwarg:=none,defaults:=[] }
def aF (s:Ke):List Ke:=match s with
 |.FunctionDef _ _ b _ _ _ _ _ _ _=>b
 |_=>[]
def ag (s:Ke):MT:=match s with
 |.FunctionDef _ _ _ _ _ _ sc _ _ _=>sc
 |_=>{ kind:=.function,names:=[],isGenerator:=false,isCoroutine:=false }
abbrev CX0:CXT:=λ_ _ _ _ _ _=>False
abbrev E0:XK:=λ_ _ _=>False
structure Fun (K:Ia)(x qual:Str)(st:Ke)(f:Iv)(fd:JS):Prop where
 ex:∃ (oc:Ih) (od:Option Iv) (kV doc pm:Ih) (an:Option Iv) (cdv ct:Ih) (osl:Array (Option Ih)),
  fd=IH x qual (aJ st) (aF st) (ag st) .none kV doc pm an cdv ct/\K.lookup f=some ⟨oc,od,.func fd,osl⟩/\I_ K cdv qual=true
 kp:IU K (.ref f)=true
section
variable {P:IN}{w:Jm}{K:Ia}{mg:Str->Option Ih}{base:Kl}
theorem E8 {x qual:Str}{st:Ke}{f:Iv}{oc:Ih}{od an:Option Iv}{osl:Array (Option Ih)}{kV doc pm cdv ct:Ih} (l:K.lookup f=some ⟨oc,od,.func (IH x qual (aJ st) (aF st) (ag st) .none kV doc pm an cdv ct),osl⟩)
  (c:I_ K cdv qual=true)(k:IU K (.ref f)=true):Fun K x qual st f (IH x qual (aJ st) (aF st) (ag st) .none kV doc pm an cdv ct):=⟨⟨oc,od,kV,doc,pm,an,cdv,ct,osl,rfl,l,c⟩,k⟩
end
theorem bg {n:Nat}(h:n<=1000):n<II:=Nv h (by decide)
section
variable {X:Cx}
theorem pv (i:Nat) (hN:X.N[i]?=some x:=by rfl) (hv:Vis X.env.scope x:=by first | exact Qv rfl | exact O8 (Qv rfl) | exact O8 (O8 rfl)) (hd:(x == ("__debug__":Str))=false:=by decide)
  (hcd:(x==("__classdict__":Str))=false:=by decide):PE X (.Name x pos) (yx i):=Fa hN hv hd hcd
end
theorem cQ {A B:Prop}(h:B):if false=true then A else B:=by
 rw[IY JC];exact h
theorem bQ {A B:Prop}(h:A):if true=true then A else B:=by
 rw[Jh rfl];exact h
theorem lF {c A B:Prop}[Decidable c](h1:c->A)(h2:¬ c->B):if c then A else B:=by
 by_cases h:c
 ·rw[Jh h];exact h1 h
 ·rw[IY h];exact h2 h
theorem GM {c A B:Prop}[Decidable c](hc:c)(h:B):if(!decide c)=true then A else B:=by
 rw[Ir hc];exact cQ h
def aj (H H':Hp):Prop:=∀ b o,H b=some o->H' b=some o
theorem aj.refl (H:Hp):aj H H:=λ_ _ h=>h
theorem aj.trans (a:aj H H1)(b:aj H1 H2):aj H H2:=λc o h=>b c o (a c o h)
theorem aj.free (e:aj H H')(h:H' l=Option.none):H l=Option.none:=by
 cases q:H l with
 |none=>rfl
 |some o=>
  rw[e l o q] at h;cases h
theorem aj.seq {K:Ia}{H H':Hp}{a:Iv}{xs:List V}(e:aj H H')(h:SqL K H a xs):SqL K H' a xs:=by
 rcases h with (h|⟨o,h⟩)|h
 ·exact .inl (.inl (e _ _ h))
 ·exact .inl (.inr ⟨o,e _ _ h⟩)
 ·exact .inr h
end L2
set_option Elab.async false
set_option linter.all false
set_option maxRecDepth 100000
set_option maxHeartbeats 4000000
namespace TR
def Low (t b n d:Int):Prop:=0<d/\JQ n d=1/\n*b=t*d
def Sm (k:Nat)(x:Int):Prop:=x.natAbs<2^k
theorem vq {a b:Int}(ha:0<=a)(hb:0<b):JQ b (a%b)=JQ a b:=by
 obtain⟨x,rfl⟩:=Mi ha;obtain⟨y,rfl⟩:=Mi (OD hb);show Nat.gcd y ((x:Int)%(y:Int)).natAbs=Nat.gcd x y;rw[show((x:Int)%(y:Int)).natAbs=x%y from rfl,Nat.gcd_comm,<- Nat.gcd_rec,Nat.gcd_comm]
theorem y7 {k m n:Int}(h:k∣m*n)(c:JQ k m=1):k∣n:=by
 have h':k.natAbs∣m.natAbs*n.natAbs:=by rw[<- NC];exact OE.mpr h
 exact OE.mp (Nat.Coprime.dvd_of_dvd_mul_left (show Nat.Coprime k.natAbs m.natAbs from c) h')
theorem Ac {t b g m:Int}(hb:b≠0)(hg:g=(JQ t b:Int))(hm:m=if b<0 then -g else g):Low t b (t.fdiv m) (b.fdiv m):=by
 have hgp:0<g:=by
  rw[hg];have:0<JQ t b:=Lp _ hb;omega
 have dt:g∣t:=by rw[hg];exact Int.gcd_dvd_left ..
 have db:g∣b:=by rw[hg];exact Int.gcd_dvd_right ..
 obtain⟨x,hx⟩:=dt;obtain⟨y,hy⟩:=db;have hco:JQ x y=1:=by
  have h1:JQ t b=JQ x y*g.natAbs:=by
   rw[hx,hy,Int.gcd_mul_left,Qt]
  have h2:g.natAbs=JQ t b:=by rw[hg];rfl
  have h3:0<g.natAbs:=by omega
  rw[<- h2] at h1;exact Nat.eq_of_mul_eq_mul_right h3 (by omega)
 by_cases hn:b<0
 ·have em:m=-g:=by rw[hm,Jh hn]
  have hy0:y<0:=by
   rw[hy] at hn;rcases Int.lt_or_le y 0 with h|h
   ·exact h
   ·have:=K5 (OD hgp) h;omega
  have e1:t.fdiv m=-x:=by
   have e:t=m*(-x):=by rw[em,Int.neg_mul_neg];exact hx
   rw[e];exact K_ _ (by omega)
  have e2:b.fdiv m=-y:=by
   have e:b=m*(-y):=by rw[em,Int.neg_mul_neg];exact hy
   rw[e];exact K_ _ (by omega)
  rw[e1,e2];refine⟨by omega,by rw[Int.gcd_neg,Int.neg_gcd];exact hco,?_⟩;rw[Int.neg_mul,QH,hx,hy,NS,Mj]
 ·have em:m=g:=by rw[hm,IY hn]
  have hy0:0<y:=by
   have hb':0<b:=by omega
   rw[hy] at hb';rcases Int.lt_or_le 0 y with h|h
   ·exact h
   ·have:=K5 (OD hgp) (show 0<=-y by omega);rw[QH] at this;omega
  have e1:t.fdiv m=x:=by
   rw[hx,em];exact K_ _ (by omega)
  have e2:b.fdiv m=y:=by
   rw[hy,em];exact K_ _ (by omega)
  rw[e1,e2];refine⟨hy0,hco,?_⟩;rw[hx,hy,NS,Mj]
theorem kZ {t b n d n' d':Int}(hb:b≠0)(h:Low t b n d)(h':Low t b n' d'):n=n'/\d=d':=by
 obtain⟨h1,h2,h3⟩:=h;obtain⟨k1,k2,k3⟩:=h';have e:n*d'=n'*d:=by
  have e1:b*(n*d')=b*(n'*d):=by
   have a1:b*(n*d')=(n*b)*d':=by rw[L8 n b,Mj]
   have a2:b*(n'*d)=(n'*b)*d:=by rw[L8 n' b,Mj]
   rw[a1,a2,h3,k3,Mj,Mj,L8 d d']
  exact NB hb e1
 have dd:d∣d':=by
  have:d∣n*d':=⟨n',by rw[e,L8]⟩
  exact y7 this (by rw[Qp];exact h2)
 have dd':d'∣d:=by
  have:d'∣n'*d:=⟨n,by rw[<- e,L8]⟩
  exact y7 this (by rw[Qp];exact k2)
 have l1:=Int.le_of_dvd k1 dd;have l2:=Int.le_of_dvd h1 dd';have ed:d=d':=by omega
 subst ed;exact⟨Int.eq_of_mul_eq_mul_right (by omega) e,rfl⟩
theorem ph {t b n d:Int}(hb:b≠0)(h:Low t b n d):n.natAbs<=t.natAbs/\d.natAbs<=b.natAbs:=by
 obtain⟨h1,h2,h3⟩:=h;have db:d∣b:=by
  have:d∣n*b:=⟨t,by rw[h3,L8]⟩
  exact y7 this (by rw[Qp];exact h2)
 obtain⟨y,hy⟩:=db;have e:t=n*y:=by
  have:d*(n*y)=d*t:=by
   rw[NS,<- hy,h3,L8]
  exact(NB (by omega) this).symm
 have hy0:y≠0:=by rintro rfl;simp at hy;exact hb hy
 have hp:0<y.natAbs:=by omega
 constructor
 ·rw[e,NC];exact Oa _ hp
 ·rw[hy,NC];exact Oa _ hp
theorem Bm {n d:Int}(hd:0<d)(h:JQ n d=1):Low n d n d:=⟨hd,h,rfl⟩
theorem Bu (b:Int):Low 0 b 0 1:=⟨by decide,by simp,by omega⟩
theorem Sm.mono {k j:Nat}{x:Int}(h:Sm k x)(l:k<=j):Sm j x:=IA h (K9 (by decide) l)
theorem Sm.mul {k j:Nat}{x y:Int}(h:Sm k x)(h':Sm j y):Sm (k+j) (x*y):=by
 unfold Sm at *;rw[NC,Nat.pow_add];exact Nat.mul_lt_mul'' h h'
theorem Sm.add {k:Nat}{x y:Int}(h:Sm k x)(h':Sm k y):Sm (k+1) (x+y):=by
 unfold Sm at *;have:=Int.natAbs_add_le x y;rw[Qu];omega
theorem Sm.sub {k:Nat}{x y:Int}(h:Sm k x)(h':Sm k y):Sm (k+1) (x-y):=by
 unfold Sm at *;rw[Qu];omega
theorem Sm.neg {k:Nat}{x:Int}(h:Sm k x):Sm k (-x):=by
 unfold Sm at *;rw[Int.natAbs_neg];exact h
theorem Sm.le {k:Nat}{x y:Int}(h:Sm k x)(l:y.natAbs<=x.natAbs):Sm k y:=Nv l h
theorem yr (a b:Int):JQ (if a<0 then -a else a) (if b<0 then -b else b)=JQ a b:=by
 split<;>split<;>simp
theorem B5 {t b:Int}(hb:b≠0):((JQ t b:Int)).natAbs<=b.natAbs:=by
 have:JQ t b∣b.natAbs:=Nat.gcd_dvd_right ..;exact Nat.le_of_dvd (by omega) this
open PySem PySem.Spec PyProof.Rows L2
theorem B':Jn "int"=some (.type "int"):=by decide +kernel
theorem Ao:Jn "bool"=some (.type "bool"):=by decide +kernel
theorem be:Jn "tuple"=some (.type "tuple"):=by decide +kernel
theorem f8:Jn "list"=some (.type "list"):=by decide +kernel
theorem Fl:Jn "str"=some (.type "str"):=by decide +kernel
theorem Al:Jn "dict"=some (.type "dict"):=by decide +kernel
theorem EV:Jn "set"=some (.type "set"):=by decide +kernel
theorem Ca:Jn "abs"=some (.builtin "abs"):=by decide +kernel
theorem df:Jn "len"=some (.builtin "len"):=by decide +kernel
theorem ER:Jn "max"=some (.builtin "max"):=by decide +kernel
theorem tK:Jn "min"=some (.builtin "min"):=by decide +kernel
theorem Cp:Jn "sum"=some (.builtin "sum"):=by decide +kernel
theorem iV:Jn "all"=some (.builtin "all"):=by decide +kernel
theorem nH:Jn "sorted"=some (.builtin "sorted"):=by decide +kernel
theorem aA:Jn "isinstance"=some (.builtin "isinstance"):=by decide +kernel
mutual
inductive IsD (K:Ia)(H:Hp):IV->V->Prop
 |non:IsD K H .none .non
 |bl (b:Bool):IsD K H (.bool b) (.bl b)
 |int (i:Int):IsD K H (.int i) (.int i)
 |str (x:Str):IsD K H (.str x) (.str x)
 |lst {a:Iv}{xs:List V}{ds:List IV}:Rd H a (.lst xs)->aD K H ds xs->IsD K H (.list ds) (.ref a)
 |tup {a:Iv}{xs:List V}{ds:List IV}:H a=some (.tup xs)->aD K H ds xs->IsD K H (.tuple ds) (.ref a)
 |dct {a:Iv}:H a=some (.dK [])->IsD K H (.dict []) (.ref a)
inductive aD (K:Ia)(H:Hp):List IV->List V->Prop
 |nil:aD K H [] []
 |cons {d:IV}{v:V}{ds:List IV}{vs:List V}:IsD K H d v->aD K H ds vs->aD K H (d::ds) (v::vs)
end
section
variable {X:Cx}{pins:List (Iv×Obj)}{σ:L2.St}{H H':Hp}{s:Im}
mutual
theorem kh (I:Inv X pins σ H s):∀ {d:IV}{v:V}{u:Ih},IsD X.K H d v->c9 v u->∃ as,Reads s.heap u d as
 |_,_,_,.non,r=>by cases r;exact⟨_,.none⟩
 |_,_,_,.bl b,r=>by cases r;exact⟨_,.bool b⟩
 |_,_,_,.int i,r=>by obtain⟨t,rfl⟩:=r;exact⟨_,.int i t⟩
 |_,_,_,.str x,r=>by obtain⟨t,rfl⟩:=r;exact⟨_,.str x t⟩
 |_,_,_,.lst h q,r=>by
  cases r;obtain⟨its,rv,⟨o,n,e,c,_,d⟩,_⟩:=I.list (.inl h);obtain⟨as,z⟩:=i7 I q rv;exact⟨_,.list e c d (by simpa using z)⟩
 |_,_,_,.tup h q,r=>by
  cases r;obtain⟨its,rv,⟨o,e,c,n,d⟩,_⟩:=I.tuple (.inl (.inl h));obtain⟨as,z⟩:=i7 I q rv;exact⟨_,.tuple e c d (by simpa using z)⟩
 |_,_,_,.dct h,r=>by
  cases r;obtain⟨_,_,vs,kv,o,es,ep,e1,e2,e3,_,e4,_⟩:=(show cF X.prog X.w H s.heap _ (.dK []) from I.hok _ _ h)
  cases kv;have ee:es.toList=[]:=by
   cases z:es.toList with
   |nil=>rfl
   |cons y l=>rw[z] at e4;cases e4
  exact⟨_,.dict (kvs:=[]) e1 e2.1 e3 (by rw[ee];exact .nil) (by rw[ee];exact .nil)⟩
theorem i7 (I:Inv X pins σ H s):∀ {ds:List IV}{vs:List V}{us:List Ih},aD X.K H ds vs->bD vs us->∃ as,ReadsAll s.heap us ds as
 |_,_,_,.nil,.nil=>⟨_,.nil⟩
 |_,_,_,.cons h q,.cons r rr=>by
  obtain⟨as,z⟩:=kh I h r;obtain⟨bs,y⟩:=i7 I q rr;exact⟨_,.cons z y⟩
end
end
theorem vL {K:Ia}{H H':Hp}{a:Iv}{xs:List V}(e:aj H H')(h:SqT K H a xs):SqT K H' a xs:=by
 rcases h with (h|⟨o,h⟩)|h
 ·exact .inl (.inl (e _ _ h))
 ·exact .inl (.inr ⟨o,e _ _ h⟩)
 ·exact .inr h
theorem Rd.same (e:aj H H')(h:Rd H a u):Rd H' a u:=by
 rcases h with h|⟨o,h⟩
 ·exact .inl (e _ _ h)
 ·exact .inr ⟨o,e _ _ h⟩
mutual
theorem IsD.same {K:Ia}{H H':Hp}(e:aj H H'):∀ {d:IV}{v:V},IsD K H d v->IsD K H' d v
 |_,_,.non=>.non
 |_,_,.bl b=>.bl b
 |_,_,.int i=>.int i
 |_,_,.str x=>.str x
 |_,_,.lst h q=>.lst (Rd.same e h) (aD.same e q)
 |_,_,.tup h q=>.tup (e _ _ h) (aD.same e q)
 |_,_,.dct h=>.dct (e _ _ h)
theorem aD.same {K:Ia}{H H':Hp}(e:aj H H'):∀ {ds:List IV}{vs:List V},aD K H ds vs->aD K H' ds vs
 |_,_,.nil=>.nil
 |_,_,.cons h q=>.cons (IsD.same e h) (aD.same e q)
end
theorem aj.new (h:H p=none):aj H (upd H p o):=λb u e=>by rw[ao (aB e h)];exact e
def Mv (T:List Iv)(H H':Hp):Prop:=∀ b o,H b=some o->b∉T->H' b=some o
theorem Mv.of (h:aj H H'):Mv T H H':=λb o e _=>h b o e
theorem Mv.refl:Mv T H H:=λ_ _ e _=>e
theorem Mv.trans (a:Mv T H H1)(b:Mv T H1 H2):Mv T H H2:=λc o e n=>b c o (a c o e n) n
mutual
def At:IV->Bool
 |.tuple xs=>jN xs
 |.none=>true
 |.bool _=>true
 |.int _=>true
 |.str _=>true
 |_=>false
def jN:List IV->Bool
 |[]=>true
 |x::xs=>At x&&jN xs
end
def cD (H:Hp)(T:List Iv):Prop:=∀ b∈T,∃ xs,H b=some (.lst xs)
theorem cD.not (h:cD H T)(e:H b=some o)(n:∀ xs,o≠.lst xs):b∉T:=λm=>by
 obtain⟨xs,q⟩:=h b m;rw[e] at q;exact n xs (Ie q)
mutual
theorem IsD.mv {K:Ia}{T:List Iv}{H H':Hp}(e:Mv T H H')(l:cD H T):∀ {d:IV}{v:V},At d=true->IsD K H d v->IsD K H' d v
 |_,_,_,.non=>.non
 |_,_,_,.bl b=>.bl b
 |_,_,_,.int i=>.int i
 |_,_,_,.str x=>.str x
 |_,_,t,.lst _ _=>by simp[At] at t
 |_,_,t,.tup h q=>.tup (e _ _ h (l.not h λ_ z=>nomatch z)) (aD.mv e l (by simpa [At] using t) q)
 |_,_,t,.dct _=>by simp[At] at t
theorem aD.mv {K:Ia}{T:List Iv}{H H':Hp}(e:Mv T H H')(l:cD H T):∀ {ds:List IV}{vs:List V},jN ds=true->aD K H ds vs->aD K H' ds vs
 |_,_,_,.nil=>.nil
 |_,_,t,.cons h q=>by
  simp only[jN,Ju] at t;exact .cons (IsD.mv e l t.1 h) (aD.mv e l t.2 q)
end
section
variable {X:Cx}
def Hg (K:Ia):R2:=λx y H Q=>∃ d e,IsD K H d x/\IsD K H e y/\OP d=true/\OP e=true/\Q (.bl (ME d e)) H
def Hj (K:Ia):R2:=λx y H Q=>∃ d e,IsD K H d x/\IsD K H e y/\OP d=true/\OP e=true/\Q (.bl (!ME d e)) H
theorem EX (hu:X.A.units+64<cLine):OpR X (Kf .Eq) (Hg X.K):=by
 intro pins s σ H x y v u Q I rx ry h;obtain⟨d,e,hd,he,sd,se,q⟩:=h;obtain⟨as,r1⟩:=kh I hd rx;obtain⟨bs,r2⟩:=kh I he ry;exact eq_dataH r1 r2 sd se hu ⟨.bl _,H,I,rfl,q⟩
theorem FJ (hu:X.A.units+64<cLine):OpR X (Kf .NotEq) (Hj X.K):=by
 intro pins s σ H x y v u Q I rx ry h;obtain⟨d,e,hd,he,sd,se,q⟩:=h;obtain⟨as,r1⟩:=kh I hd rx;obtain⟨bs,r2⟩:=kh I he ry;exact ne_dataH r1 r2 sd se hu ⟨.bl _,H,I,rfl,q⟩
def CA (K:Ia):R2:=λx y H Q=>∃ a b ns,x=.ref a/\y=.ref b/\SqL K H a (ns.map V.int)/\H b=some (.lst [])/\Q (.bl (!decide (ns=[]))) H
theorem Bn (hu:X.A.units+64<cLine):OpR X (Kf .NotEq) (CA X.K):=by
 intro pins s σ H x y v u Q I rx ry h;obtain⟨a,b,ns,rfl,rfl,ha,hb,q⟩:=h;cases rx;cases ry;obtain⟨xs,r1,pl,_⟩:=I.list ha;obtain⟨ys,r2,pl2,_⟩:=I.list (SqL.of (K:=X.K) hb);cases r2;exact PySem.W.ke_ne_ints pl.isList pl2.isList (pA r1) .nil hu ⟨.bl _,H,I,rfl,q⟩
theorem eE:OpR X (Kf .Eq) (rI0 λi j=>.bl (decide (i=j))):=Eg λ_ _ _ _ _ _ _ q=>eq_int (by rw[Lw];exact q)
theorem nh:OpR X (Kf .NotEq) (rI0 λi j=>.bl (!decide (i=j))):=Eg λ_ _ _ _ _ _ _ q=>ne_int (by rw[bne,Lw];exact q)
theorem Sm.bits {k:Nat}{x:Int}(h:Sm k x):Pk x<=k:=by
 unfold Pk
 split
 ·exact Jj _
 ·rename_i hx
  have h0:x.natAbs≠0:=by
   intro z;apply hx;have:x=0:=by omega
   subst this;rfl
  have:x.natAbs.log2<k:=(Nat.log2_lt h0).mpr h;omega
def pK (i j:Int):Prop:=(Sm 8000 i/\Sm 8000 j)\/Sm 64 i
theorem aG:OpR X (M2 .Mult) (rI pK λi j=>.int (i*j)):=opI λi j _ _ _ _ _ hc q=>mul_int q (by
 rcases hc with ⟨h1,h2⟩|h1
 ·exact QA (IS h1.bits (by decide)) (IS h2.bits (by decide))
 ·exact QB h1.bits)
def GL (_ j:Int):Prop:=j≠0/\Sm 8000 j
theorem cL:OpR X (M2 .FloorDiv) (rI GL λi j=>.int (i.fdiv j)):=opI λi j _ _ _ _ _ hc q=>floordiv_int hc.1 q (.inl (PyProof.noPylong_of_log2 (by
 by_cases h0:j.natAbs=0
 ·rw[h0];decide
 ·exact IA ((Nat.log2_lt h0).mpr hc.2) (by decide))))
def jC (a b:String):Option Bool:=if((Kr a==Kr b)=true) then some true else if PySem.W.kitMeta b=true then(fastBuiltinMro a).map (·.contains (.type b)) else none
theorem vx (K:Ia)(a b:String):ML K (.type a) (.type b)=jC a b:=rfl
abbrev Ty (K:Ia)(H:Hp)(x:V)(T:String):Prop:=uL K H x (.type T)
def Hl (K:Ia):List V->Hp->VK->Prop:=λxs H Q=>∃ x T S b,xs=[x,.ty S]/\Ty K H x T/\jC T S=some b/\Q (.bl b) H
theorem Bc:eN X (.builtin "isinstance") (Hl X.K):=by
 intro pins s σ H xs us Q I r h;obtain⟨x,T,S,b,rfl,ty,e,q⟩:=h;obtain⟨u,v,rfl,rx,rv⟩:=q_ r;cases(show v=Kr S from rv);exact nZ I rx ty (by rw[vx];exact e) λtk=>⟨.bl b,H,I.tok tk,rfl,q⟩
def rh (a:String):List String->Option Bool
 |[]=>some false
 |b::r=>match jC a b with
  |some true=>some true
  |some false=>rh a r
  |none=>none
end
def tyN:IV->String
 |.none=>"NoneType"
 |.bool _=>"bool"
 |.int _=>"int"
 |.str _=>"str"
 |.list _=>"list"
 |.tuple _=>"tuple"
 |.dict _=>"dict"
theorem IsD.ty {K:Ia}{H:Hp}{d:IV}{x:V}(h:IsD K H d x):Ty K H x (tyN d):=by
 cases h with
 |non=>exact .non
 |bl b=>exact .bl b
 |int i=>exact .int i
 |str x=>exact .str x
 |lst h _=>
  rcases h with h|⟨o,h⟩
  ·exact .lst h
  ·exact .frz h
 |tup h _=>exact .tup h
 |dct h=>exact .dK h
def NoX (CX:CXT):Prop:=∀ outer H s e s',CX outer H s E0 e s'->False
theorem rp (h:NoX CX):rK CX X E0:=λ_ _ _ _ _ _ _ z=>(h _ _ _ _ _ z).elim
structure Cal (P:IN)(w:Jm)(K:Ia)(mg:Str->Option Ih)(base:Kl)(CX:CXT)(k:Nat)(x:Str)(ps:List Str)(dvs:List V)(sp:Sp):Prop where
 ex:∃ (f:Iv) (fd:JS) (ds:List Ih),oC P w K mg base CX k f fd ps sp/\mg x=some (.ref f)/\IU K (.ref f)=true/\oN K fd ps ds/\bD dvs ds
section
variable {X:Cx}{CX:CXT}{k:Nat}{x:Str}{ps:List Str}{sp:Sp}{dvs:List V}{p pos:Pos}{e:KI}{es:List KI}{t:TA}
theorem DH (hX:NoX CX) (C:Cal X.prog X.w X.K X.mg X.base CX k x ps dvs sp) (hr:Room k X.A) (hg:Gl X x) (ha:WA X (e :: es) t) (hdb:(x == ("__debug__":Str))=false:=by decide)
  (he:IR (e::es) X.env=(false,L6 e X.env)::IR es X.env:=by rfl)(hpl:(Mw pos (IR es X.env)).any (·.1)=false:=by rfl):WE X (.Call (.Name x p) (e::es) [] pos) (wz sp dvs E0 t):=by
 have ha:=ha.go;refine⟨?_⟩;obtain⟨f,fd,ds,F,hm,hk,hb,hv⟩:=C.ex;exact DB F hr hg hm hk hb hv (rp hX) ha hdb he hpl
end
structure Dfn (K:Ia)(mg:Str->Option Ih)(x:Str)(st:Ke)(ps:List Str)(dvs:List V):Prop where
 ex:∃ (f:Iv) (fd:JS) (oc:Ih) (od:Option Iv) (dV kV doc pm:Ih) (an:Option Iv) (cdv ct:Ih) (osl:Array (Option Ih)) (ds:List Ih),
  fd=IH x x (aJ st) (aF st) (ag st) dV kV doc pm an cdv ct/\K.lookup f=some ⟨oc,od,.func fd,osl⟩/\I_ K cdv x=true /\
  mg x=some (.ref f)/\IU K (.ref f)=true/\oN K fd ps ds/\bD dvs ds
section
variable {P:IN}{w:Jm}{K:Ia}{mg:Str->Option Ih}{base:Kl}{CX:CXT}
theorem Dfn.cal {x:Str}{st:Ke}{N ps:List Str}{dvs:List V}{k:Nat}{sp:Sp} (F:Dfn K mg x st ps dvs) (S:am N ps (ag st)) (len:∀ vs H Q E,sp vs H Q E->vs.length=ps.length)
  (hbody:∀ (f:Iv) (cdv:Ih) (A:JA) (outer:List Env) (s:Im) (H:Hp) (vs:List V) (Q:VK) (E:XK),Room k (A.deeper (Oq x (ag st) s.heap.objs.size f cdv))->sp vs H Q E ->
   ∃ t,PSs (As CX P w K mg base N x (ag st) f cdv A outer s H E).nox (aF st) t/\t { nx:=λ_ H'=>Q .non H',rt:=Q } (lP N vs) H):Cal P w K mg base CX (k+1) x ps dvs sp:=by
 obtain⟨f,fd,oc,od,dV,kV,doc,pm,an,cdv,ct,osl,ds,rfl,lk,hcd,hm,hk,hb,hv⟩:=F.ex;refine⟨f,_,ds,yI lk hcd S len λA outer s H vs Q E hr hsp=>?_,hm,hk,hb,hv⟩;obtain⟨t,h,q⟩:=hbody f cdv A outer s H vs Q E hr hsp;exact⟨t,h.nox,q⟩
theorem CC {x:Str}{st:Ke}{ps:List Str}{f:Iv}{oc:Ih}{od an:Option Iv}{osl:Array (Option Ih)}{kV doc pm cdv ct:Ih} (l:K.lookup f=some ⟨oc,od,.func (IH x x (aJ st) (aF st) (ag st) .none kV doc pm an cdv ct),osl⟩)
  (c:I_ K cdv x=true)(k:IU K (.ref f)=true)(m:mg x=some (.ref f))
  (h:∀ us:List Ih,us.length=ps.length->JD (IH x x (aJ st) (aF st) (ag st) .none kV doc pm an cdv ct) ⟨us,[]⟩=pure (ps.zip us)):Dfn K mg x st ps []:=
 ⟨f,_,oc,od,.none,kV,doc,pm,an,cdv,ct,osl,[],rfl,l,c,m,k,.all h,.nil⟩
theorem yh {x:Str}{st:Ke}{ps:List Str}{f T:Iv}{oc:Ih}{od an:Option Iv}{osl:Array (Option Ih)}{kV doc pm cdv ct:Ih}{oT:Obj}{items:Array Ih}{n:Nat}{ds:List Ih}{dvs:List V}
  (l:K.lookup f=some ⟨oc,od,.func (IH x x (aJ st) (aF st) (ag st) (.ref T) kV doc pm an cdv ct),osl⟩)
  (c:I_ K cdv x=true)(k:IU K (.ref f)=true)(m:mg x=some (.ref f))(lT:K.lookup T=some oT)(hT:oT.data=.seq items n)(hv:bD dvs ds)
  (h:∀ us:List Ih,(us++ds).length=ps.length->∃ kk:Option (Array Ih)->Sem (List (Str×Ih)),JD (IH x x (aJ st) (aF st) (ag st) (.ref T) kV doc pm an cdv ct) ⟨us,[]⟩=P0 (.ref T)>>=kk/\kk (some items)=pure (ps.zip (us++ds))):Dfn K mg x st ps dvs:=
 ⟨f,_,oc,od,.ref T,kV,doc,pm,an,cdv,ct,osl,ds,rfl,l,c,m,k,λs us X hl=>by
  obtain⟨kk,h1,h2⟩:=h us hl;exact BindsTo.of_defaults rfl (X T oT lT) hT h1 h2,hv⟩
end
end TR
namespace TR
open PySem PySem.Spec PyProof.Rows L2
abbrev shD (n d:Int):IV:=.tuple [.int n,.int d]
theorem bn {K:Ia}{H:Hp}{n d:Int}{v:V}(h:IsD K H (shD n d) v):∃ a,v=.ref a/\H a=some (.tup [.int n,.int d]):=by
 cases h with
 |tup h q=>
  cases q with
  |cons q1 q2=>
   cases q1;cases q2 with
   |cons q3 q4=>
    cases q3;cases q4;exact⟨_,rfl,h⟩
theorem nj {K:Ia}{H:Hp}{n d:Int}{a:Iv}(h:H a=some (.tup [.int n,.int d])):IsD K H (shD n d) (.ref a):=.tup h (.cons (.int _) (.cons (.int _) .nil))
theorem Cy (n d m e:Int):ME (shD n d) (shD m e)=(decide (n=m)&&decide (d=e)):=by
 simp only[ME,Ob,MX,Lw]
theorem uz {n d m e:Int}(h:n=m/\d=e):ME (shD n d) (shD m e)=true:=by
 rw[Cy,Ir h.1,Ir h.2];rfl
def Sh (K:Ia)(H:Hp)(t b:Int)(Q:VK):Prop:=∀ v n d H',aj H H'->IsD K H' (shD n d) v->Low t b n d->Q v H'
structure Ok (k:Nat)(n d:Int):Prop where
 pos:0<d
 co:JQ n d=1
 sn:Sm k n
 sd:Sm k d
theorem Low.ok {t b n d:Int}{k:Nat}(h:Low t b n d)(hb:b≠0)(st:Sm k t)(sb:Sm k b):Ok k n d:=
 ⟨h.1,h.2.1,st.le (ph hb h).1,sb.le (ph hb h).2⟩
theorem Ok.mono {j k:Nat}{n d:Int}(h:Ok j n d)(l:j<=k):Ok k n d:=⟨h.pos,h.co,h.sn.mono l,h.sd.mono l⟩
theorem Ok.ne {k:Nat}{n d:Int}(h:Ok k n d):d≠0:=by have:=h.pos;omega
def shB:IV->Bool
 |.tuple [.int n,.int d]=>decide (1<=d)&&decide (JQ n d=1)
 |_=>false
theorem Ok.shB {k:Nat}{n d:Int}(h:Ok k n d):TR.shB (shD n d)=true:=by
 have:=h.pos;show(decide (1<=d)&&decide (JQ n d=1))=true;rw[Ir (show 1<=d by omega),Ir h.co];rfl
theorem le1:[a].length<=II:=by show 1<=II;decide
theorem le2:[a,b].length<=II:=by show 2<=II;decide
theorem le3:[a,b,c].length<=II:=by show 3<=II;decide
section
variable {K:Ia}{H:Hp}{Q:VK}{a:Iv}{x y z:V}
theorem dH (h:H a=some (.tup [x,y]))(q:Q x H):rIx K (.ref a) (.int 0) H Q:=.inr (.inl ⟨a,_,0,x,rfl,rfl,SqT.of h,rfl,q⟩)
theorem cE (h:H a=some (.tup [x,y]))(q:Q y H):rIx K (.ref a) (.int 1) H Q:=.inr (.inl ⟨a,_,1,y,rfl,rfl,SqT.of h,rfl,q⟩)
theorem Ek (h:H a=some (.lst [x,y]))(q:Q x H):rIx K (.ref a) (.int 0) H Q:=.inl ⟨a,_,0,x,rfl,rfl,SqL.of h,rfl,q⟩
theorem yD (h:H a=some (.lst [x,y]))(q:Q y H):rIx K (.ref a) (.int 1) H Q:=.inl ⟨a,_,1,y,rfl,rfl,SqL.of h,rfl,q⟩
end
def isI:V->Bool
 |.int _=>true
 |_=>false
theorem CH {K:Ia}{H:Hp}{x:V}{T:String}(h:Ty K H x T):∃ b,jC T "int"=some b/\if b=true then ∃ c,jC T "bool"=some c/\isI x=!c else isI x=false:=by
 cases h with
 |non=>exact⟨false,by decide +kernel,cQ rfl⟩
 |bl b=>exact⟨true,by decide +kernel,bQ ⟨true,by decide +kernel,rfl⟩⟩
 |int i=>exact⟨true,by decide +kernel,bQ ⟨false,by decide +kernel,rfl⟩⟩
 |str x=>exact⟨false,by decide +kernel,cQ rfl⟩
 |flt x=>exact⟨false,by decide +kernel,cQ rfl⟩
 |lst e=>exact⟨false,by decide +kernel,cQ rfl⟩
 |frz e=>exact⟨false,by decide +kernel,cQ rfl⟩
 |tup e=>exact⟨false,by decide +kernel,cQ rfl⟩
 |dK e=>exact⟨false,by decide +kernel,cQ rfl⟩
 |dT e=>exact⟨false,by decide +kernel,cQ rfl⟩
theorem aD.length {K:Ia}{H:Hp}:∀ {ds:List IV}{xs:List V},aD K H ds xs->ds.length=xs.length
 |_,_,.nil=>rfl
 |_,_,.cons _ q=>by rw[Jo,Jo,aD.length q]
theorem DQ (h:ds.length≠2):shB (.tuple ds)=false:=by
 match ds,h with
 |[],_=>rfl
 |[a],_=>cases a<;>rfl
 |[a,b],h=>exact absurd rfl h
 |a::b::c::r,_=>cases a<;>(try rfl)<;>cases b<;>rfl
theorem Gw {K:Ia}{H:Hp}{d e:IV}{x:V}(g:IsD K H d x)(h:isI x=false):shB (.tuple [d,e])=false:=by
 cases g with
 |int i=>exact absurd h (by simp[isI])
 |_=>rfl
theorem F6 {K:Ia}{H:Hp}{d e:IV}{x:V}(g:IsD K H e x)(h:isI x=false):shB (.tuple [d,e])=false:=by
 cases g with
 |int i=>exact absurd h (by simp[isI])
 |_=>cases d<;>rfl
theorem zO {K:Ia}{H:Hp}{d:IV}{x:V}(g:IsD K H d x)(h:isI x=true):∃ n,d=.int n/\x=.int n:=by
 cases g with
 |int i=>exact⟨i,rfl,rfl⟩
 |_=>exact absurd h (by simp[isI])
def c_ (H:Hp)(t r:Iv):Prop:=∃ (cells:List Int) (k:Int),H t=some (.lst [.ref r,.int k])/\H r=some (.lst (cells.map V.int))/\cells≠[]/\cells.length<=63
theorem c_.lists (h:c_ H t r):cD H [t,r]:=λb m=>by
 obtain⟨c,k,h1,h2,_⟩:=h;rcases Iy.mp m with rfl|m
 ·exact⟨_,h1⟩
 ·cases Ii.mp m;exact⟨_,h2⟩
theorem c_.same (h:c_ H t r)(e:aj H H'):c_ H' t r:=by
 obtain⟨c,k,h1,h2,h3,h4⟩:=h;exact⟨c,k,e _ _ h1,e _ _ h2,h3,h4⟩
theorem c_.ne (h:c_ H t r):t≠r:=by
 obtain⟨c,k,h1,h2,h3,h4⟩:=h;refine FB h1 h2 λz=>?_
 cases c with
 |nil=>exact h3 rfl
 |cons x c=>
  injection z with z
  injection z with z _
  cases z
theorem nr [Decidable p](h:p):V.bl (decide p)=V.bl true:=by rw[Ir h]
theorem Mv.upd (m:p∈[t,r]):Mv [t,r] H (upd H p o):=λb u e n=>by
 rw[ao (show b≠p from λz=>n (z▸m))];exact e
theorem Fun.okX {P:IN}{w:Jm}{K:Ia}{mg:Str->Option Ih}{base:Kl}{CX:CXT}{x qual:Str}{st:Ke}{f:Iv}{fd:JS}{N ps:List Str}{k:Nat}{sp:Sp} (F:Fun K x qual st f fd) (S:am N ps (ag st)) (len:∀ vs H Q E,sp vs H Q E->vs.length=ps.length)
  (hbody:∀ (cdv:Ih) (A:JA) (outer:List Env) (s:Im) (H:Hp) (vs:List V) (Q:VK) (E:XK),Room k (A.deeper (Oq qual (ag st) s.heap.objs.size f cdv))->sp vs H Q E ->
   ∃ t,PSs (As CX P w K mg base N qual (ag st) f cdv A outer s H E).nox (aF st) t/\t { nx:=λ_ H'=>Q .non H',rt:=Q } (lP N vs) H):oC P w K mg base CX (k+1) f fd ps sp:=by
 obtain⟨oc,od,kV,doc,pm,an,cdv,ct,osl,rfl,lk,hcd⟩:=F.ex;refine yI lk hcd S len λA outer s H vs Q E hr hsp=>?_
 obtain⟨t,h,q⟩:=hbody cdv A outer s H vs Q E hr hsp;exact⟨t,h.nox,q⟩
theorem aK:NoX CX0:=λ_ _ _ _ _ h=>h
def bG (X:Cx)(N:List Str)(scope:MT)(cl:List (Str×Iv))(C:Iv)(s0:Im)(H0:Hp)(fp:List Iv)(pn:List (Iv×Obj)):Cx:=
 { X with N:=N,s₀:=s0,H₀:=H0,env:=Nz scope cl C X.env,outer:=X.stack,stack:=X.stack,ex:=fp,fn:=λx=>scope.names.lookup x==some .cell,pn:=X.pn++pn,xe:=λ_ _=>False }
def Cw (k:Nat)(js:List Nat)(σ:L2.St):L2.St:=Iz k none++js.map λj=>(σ[j]?).join
def clo (cells:List (Str×Iv)):List (Str×LG)->List (Str×Iv)->List (Str×Iv)
 |[],acc=>acc
 |(n,k)::r,acc=>if(k==.free)=true then clo cells r ((n,(cells.lookup n).getD 0)::acc) else clo cells r acc
theorem sR (h:∀ y∈scope.names,y.2=.free->∃ c,env.cells.lookup y.1=some c):closureFor scope env=pure (clo env.cells scope.names []):=by
 have key:∀ (names:List (Str × LG)) (acc:List (Str × Iv)),(∀ y ∈ names,y.2=.free->∃ c,env.cells.lookup y.1=some c) ->
   (forIn names acc λ(x:Str×LG) (r:List (Str×Iv))=>(match x with
    |(name,kind)=>if(kind==.free)=true then(do let c <- cellOf env name;pure (Lz ((name,c)::r))) else pure (Lz r):Sem (ForInStep (List (Str×Iv)))))=(pure (clo env.cells names acc):Sem (List (Str×Iv))):=by
  intro names
  induction names with
  |nil=>intro acc _;rfl
  |cons y r ih=>
   intro acc hy;obtain⟨n,k⟩:=y;have hr:=λz hz=>hy z (Iq _ hz)
   rw[OG];unfold clo
   by_cases hk:(k==JO)=true
   ·obtain⟨c,hc⟩:=hy (n,k) IJ (by simpa using hk);simp only[hk,LC];have e:cellOf env n=pure c:=by unfold cellOf;rw[hc]
    rw[e,hc];exact ih _ hr
   ·simp only[hk];exact ih _ hr
 unfold closureFor;have:=key scope.names [] h
 first
  |exact this
  |(simp only[bind_pure];exact this)
  |(rw[bind_pure];exact this)
  |(show(forIn scope.names [] _>>=λr=>pure r)=_;rw[bind_pure];exact this)
theorem gx:∀ {names:List (Str×LG)}{acc:List (Str×Iv)}{x:Str}{c:Iv},(∀ y∈names,y.2=.free->∃ c,cells.lookup y.1=some c)->(clo cells names acc).lookup x=some c->acc.lookup x=some c\/((x,JO)∈names/\cells.lookup x=some c)
 |[],_,_,_,_,e=>.inl e
 |(n,k)::r,acc,x,c,hy,e=>by
  unfold clo at e;have hr:=λz hz=>hy z (Iq _ hz)
  by_cases hk:(k==JO)=true
  ·rw[Jh hk] at e;have hk':k=.free:=by simpa using hk
   rcases gx hr e with e|⟨m,e⟩
   ·rw[Ki] at e;cases hx:x==n with
    |true=>
     rw[hx] at e;have hxn:x=n:=by simpa using hx
     obtain⟨c',hc'⟩:=hy (n,k) IJ hk';have hc':cells.lookup n=some c':=hc';rw[hc'] at e;have e:c'=c:=by simpa using e
     subst e hxn hk';exact .inr ⟨IJ,hc'⟩
    |false=>
     rw[hx] at e;exact .inl e
   ·exact .inr ⟨Iq _ m,e⟩
  ·rw[IY hk] at e;rcases gx hr e with e|⟨m,e⟩
   ·exact .inl e
   ·exact .inr ⟨Iq _ m,e⟩
theorem j_:∀ {names:List (Str×LG)}{acc:List (Str×Iv)}{x:Str},(∃ c,acc.lookup x=some c)\/(x,JO)∈names->∃ c,(clo cells names acc).lookup x=some c
 |[],_,_,h=>by
  rcases h with h|h
  ·exact h
  ·cases h
 |(n,k)::r,acc,x,h=>by
  unfold clo
  by_cases hk:(k==JO)=true
  ·rw[Jh hk];refine j_ ?_;rcases h with ⟨c,e⟩|h
   ·refine .inl ?_;rw[Ki];cases x==n with
    |true=>exact⟨_,rfl⟩
    |false=>exact⟨c,e⟩
   ·rcases Iy.mp h with e|h
    ·injection e with e1 e2
     subst e1;exact .inl ⟨_,by rw[Ki];simp;rfl⟩
    ·exact .inr h
  ·rw[IY hk];refine j_ ?_;rcases h with h|h
   ·exact .inl h
   ·rcases Iy.mp h with e|h
    ·injection e with e1 e2
     subst e2;exact absurd rfl hk
    ·exact .inr h
theorem mq:∀ {names:List (Str×LG)}{n:Nat}{acc:List (Str×Iv)}{x:Str}{c:Iv},(Mp n names acc).lookup x=some c->acc.lookup x=some c\/((x,JN)∈names/\n<=c)
 |[],_,_,_,_,e=>.inl e
 |(y,k)::r,n,acc,x,c,e=>by
  unfold Mp at e
  by_cases hk:(k==JN)=true
  ·rw[Jh hk] at e;rcases mq e with e|⟨m,l⟩
   ·rw[Ki] at e;cases hx:x==y with
    |true=>
     rw[hx] at e;have e:n=c:=by simpa using e
     have hxy:x=y:=by simpa using hx
     have hk':k=.cell:=by simpa using hk
     subst e hxy hk';exact .inr ⟨IJ,Il _⟩
    |false=>
     rw[hx] at e;exact .inl e
   ·exact .inr ⟨Iq _ m,LH l⟩
  ·rw[IY hk] at e;rcases mq e with e|⟨m,l⟩
   ·exact .inl e
   ·exact .inr ⟨Iq _ m,l⟩
structure Cr (X:Cx)(scope:MT):Prop where
 kind:scope.kind=.function
 once:∀ y∈scope.names,scope.names.lookup y.1=some y.2
 one:∀ y∈scope.names,∀ z∈scope.names,y.2=.cell->z.2=.cell->y.1=z.1
 kinds:∀ y∈scope.names,y.2=.local\/y.2=.globalImplicit\/y.2=.cell\/y.2=.free
 free:∀ y∈scope.names,y.2=.free->∃ c,X.env.cells.lookup y.1=some c
abbrev aY (X:Cx)(scope:MT)(C:Iv):List (Str×Iv):=Mp (C+1) scope.names (clo X.env.cells scope.names [])
section
variable {X:Cx}{scope:MT}{C:Iv}(S:Cr X scope)
include S
theorem iN (e:(aY X scope C).lookup x=some c):(X.env.cells.lookup x=some c/\scope.names.lookup x=some .free)\/(C+1<=c/\scope.names.lookup x=some .cell):=by
 rcases mq e with e|⟨m,l⟩
 ·rcases gx S.free e with e|⟨m,e⟩
  ·cases e
  ·exact .inl ⟨e,S.once _ m⟩
 ·exact .inr ⟨l,S.once _ m⟩
theorem FF (e:(aY X scope C).lookup x=some c)(e':(aY X scope C).lookup y=some c)(hi:∀ x y c,X.env.cells.lookup x=some c->X.env.cells.lookup y=some c->x=y)(hl:∀ x c,X.env.cells.lookup x=some c->c<C):x=y:=by
 rcases iN S e with ⟨a,_⟩|⟨a,k⟩
 ·rcases iN S e' with ⟨b,_⟩|⟨b,_⟩
  ·exact hi x y c a b
  ·exact absurd (hl x c a) (JV.mpr (LH b))
 ·rcases iN S e' with ⟨b,_⟩|⟨b,k'⟩
  ·exact absurd (hl y c b) (JV.mpr (LH a))
  ·exact S.one (x,.cell) (Kq k) (y,.cell) (Kq k') rfl rfl
theorem B6 (h:(Nz scope (aY X scope C) C X.env).kindOf x=some .cell\/(Nz scope (aY X scope C) C X.env).kindOf x=some .free):∃ c,(aY X scope C).lookup x=some c:=by
 have key:∀ (names:List (Str × LG)),((names.map fun (n,k)=>if (k == JO && X.env.scope.kind == .function && X.env.kindOf n == some .cell) then (n,JN) else (n,k)).lookup x=some .cell \/
   (names.map λ(n,k)=>if(k==JO&&X.env.scope.kind==.function&&X.env.kindOf n==some .cell) then(n,JN) else(n,k)).lookup x=some .free)->(x,JO)∈names\/(x,JN)∈names:=by
  intro names
  induction names with
  |nil=>intro h;simp at h
  |cons y r ih=>
   intro h;obtain⟨n,k⟩:=y
   by_cases hx:(x==n)=true
   ·have hxn:x=n:=by simpa using hx
    subst hxn
    by_cases hc:(k==JO&&X.env.scope.kind==.function&&X.env.kindOf x==some .cell)=true
    ·have:k=.free:=by
      rw[Ju,Ju] at hc
      simpa using hc.1.1
     subst this;exact .inl IJ
    ·simp only[IF,hc,Ki,hx] at h;rcases h with h|h
     ·have:k=.cell:=by simpa using h
      subst this;exact .inr IJ
     ·have:k=.free:=by simpa using h
      subst this;exact .inl IJ
   ·have hx':(x==n)=false:=by simpa using hx
    have e:∀ (kk:LG),((((n,k) :: r).map fun (n,k)=>if (k == JO && X.env.scope.kind == .function && X.env.kindOf n == some .cell) then (n,JN) else (n,k)).lookup x=some kk) ->
      ((r.map λ(n,k)=>if(k==JO&&X.env.scope.kind==.function&&X.env.kindOf n==some .cell) then(n,JN) else(n,k)).lookup x=some kk):=λkk h=>by
     rw[IF,Ki] at h;have:(x==((λ(y:Str×LG)=>match y with|(n,k)=>if(k==JO&&X.env.scope.kind==PQ&&X.env.kindOf n==some JN) then(n,JN) else(n,k)) (n,k)).1)=false:=by
      show(x==(if(k==JO&&X.env.scope.kind==PQ&&X.env.kindOf n==some JN)=true then(n,JN) else(n,k)).1)=false
      split<;>exact hx'
     rw[this] at h;exact h
    rcases h with h|h
    ·rcases ih (.inl (e _ h)) with z|z
     ·exact .inl (Iq _ z)
     ·exact .inr (Iq _ z)
    ·rcases ih (.inr (e _ h)) with z|z
     ·exact .inl (Iq _ z)
     ·exact .inr (Iq _ z)
 rcases key scope.names h with z|z
 ·obtain⟨c,e⟩:=j_ (cells:=X.env.cells) (acc:=[]) (.inr z);exact KC.mp (Ln _ _ _ (.inr (by rw[e];rfl)))
 ·exact KC.mp (Ln _ _ _ (.inl (S.once _ z)))
end
theorem A1
  (hQ:∀ h',(∃ m,h'.Ns s.heap.objs.size m)->(∀ x c,(Mp (s.heap.objs.size+1) scope.names cl).lookup x=some c->cl.lookup x=some c\/h'.IsCell c none)->(∀ b o,s.heap.get? b=some o->h'.get? b=some o) ->
   Q (newEnv scope s.heap.objs.size globals (Mp (s.heap.objs.size+1) scope.names cl) qual none .none (some env) MI) { s with heap:=h' }) :
  IB M A (NM scope globals cl [] qual none .none (some env)) Q E s:=by
 have lem:∀ (names:List (Str×LG)) (h:Kl) (acc:List (Str×Iv)) (x:Str) (c:Iv),(Mp h.objs.size names acc).lookup x=some c->acc.lookup x=some c\/(pushCells h names).IsCell c none:=by
  intro names
  induction names with
  |nil=>intro h acc x c e;exact .inl e
  |cons y r ih=>
   intro h acc x c e;obtain⟨n,k⟩:=y;unfold Mp at e;unfold pushCells
   by_cases hk:(k==JN)=true
   ·rw[Jh hk] at e ⊢;have hs:h.objs.size+1=(h.push { cls:=.type "cell",data:=.cell none }).objs.size:=(Jt ..).symm;rw[hs] at e;rcases ih _ _ _ _ e with e|e
    ·rw[Ki] at e;cases hx:x==n with
     |true=>
      rw[hx] at e;have e:h.objs.size=c:=by simpa using e
      subst e;exact .inr ⟨_,OR r _ _ _ (Io _ rfl),rfl⟩
     |false=>
      rw[hx] at e;exact .inl e
    ·exact .inr e
   ·rw[IY hk] at e ⊢;exact ih _ _ _ _ e
 simp only[NM,PN,LC];refine Ib (wpAny_alloc ?_);refine Ib (wpAny_layCells _ (λname kind cells=>by cases hkc:kind==JN<;>simp[hkc]) _ _ _ _ ?_);rw[show({ s with heap:=s.heap.push { cls:=.type "dict",data:=.dict #[] } }:Im).heap.objs.size=s.heap.objs.size+1 from Jt ..];simp only[O7];refine Ib (Ig (Ig ?_));refine hQ _ ⟨_,(Heap.Ns.new s.heap (.type "dict")).keeps (OR _ _)⟩ (λx c e=>?_) λb o e=>OR _ _ b o (Ic _ e)
 have:=lem scope.names (s.heap.push { cls:=.type "dict",data:=.dict #[] }) cl x c;rw[Jt] at this;exact this e
section
variable {X:Cx}{pins:List (Iv×Obj)}{σ:L2.St}{H H2:Hp}{s s2:Im}
def vc (X:Cx)(scope:MT)(N:List Str)(σ σ0:L2.St):Prop:=
 ∀ (i:Nat) (x:Str) (v:V),N[i]?=some x->σ0[i]?=some (some v)->∃ j:Nat,X.N[j]?=some x/\σ[j]?=some (some v)/\(X.env.kindOf x=some .cell\/X.env.kindOf x=some .free)/\scope.names.lookup x=some .free /\
  ((Nz scope [] 0 X.env).kindOf x=some .cell\/(Nz scope [] 0 X.env).kindOf x=some .free)
theorem u6 (I:Inv X pins σ H s)(h1:b≠X.env.locals)(h2:b∉X.fs):b∉frs X.stack:=λz=>(Iy.mp (I.stkSub b z)).elim h1 h2
theorem A2 {tk:Nat} (I:Inv X pins σ H2 s2) (S:Cr X scope)
  (hcap:vc X scope N σ σ0)(hlen:σ0.length=N.length)(f2:∀ b∈fp,ww X pins H2 b)(fo:∀ b∈fp,∃ o,s2.heap.get? b=some o)(hC:s2.heap.objs.size<=C)(hD:s2.heap.objs.size<=D)(hDC:D≠C)
  (old:∀ b o,s2.heap.get? b=some o->h1.get? b=some o)(hnC:∃ m,h1.Ns C m)(heD:h1.get? D=some oD)(hoD:∀ v,oD.data≠.cell v)(own:∀ x c,(aY X scope C).lookup x=some c->C+1<=c->h1.IsCell c none):
  Inv (bG X N scope (aY X scope C) C s2 H2 fp pins) [(D,oD)] σ0 H2 { s2 with heap:=h1,toks:=tk }:=by
 have ltne:∀ b,b<s2.heap.objs.size->b≠C/\b≠D:=λb hb=>⟨λz=>absurd (z▸hb) (JV.mpr hC),λz=>absurd (z▸hb) (JV.mpr hD)⟩
 have cellLt:∀ x c,X.env.cells.lookup x=some c->c<s2.heap.objs.size:=λx c e=>by
  obtain⟨v,q⟩:=I.cell x c e;exact q.lt
 have big:∀ c:Iv,C+1<=c->s2.heap.objs.size<=c:=λc h=>IS hC (LH h)
 have frLt:∀ b∈frs X.stack,b<s2.heap.objs.size:=λb hb=>by
  obtain⟨_,o,ho,_⟩:=I.stack.mem hb;exact Ip ho
 refine⟨⟨I.ok.mod,S.kind,I.ok.glob,I.ok.blt,hC,?_,?_,?_,I.ok.hd,I.ok.frames,.inl rfl,?_,?_,?_,?_,?_,I.stack,I.stkFree⟩,rfl,I.bare,Un.kept old,?_,?_,?_,?_,?_,I.hok.kept old,hlen⟩
 ·intro x y c e1 e2;exact FF S e1 e2 I.ok.inj λx c e=>IA (cellLt x c e) hC
 ·intro x hx;exact B6 S hx
 ·intro x c hf e;rcases iN S e with ⟨_,k⟩|⟨l,_⟩
  ·have hf:(scope.names.lookup x==some JN)=true:=hf;rw[k] at hf;cases hf
  ·exact big c l
 ·intro b hb;obtain⟨o,ho⟩:=fo b hb;refine⟨(ltne b (Ip ho)).1,λx c e=>?_⟩;rcases iN S e with ⟨e,_⟩|⟨l,_⟩
  ·exact(f2 b hb).2.2.2.2.1 x c e
  ·exact λz=>absurd (Ip ho) (JV.mpr (z▸big c l))
 ·exact λb o e=>I.bs b o e
 ·exact IS I.ok.bsz I.sz
 ·intro b o e hb;rcases(f2 b hb).2.2.2.1 with z|z
  ·exact I.ok.noex b o e z
  ·exact absurd (IA (Ip e) (IS I.ok.bsz z)) (Ji _)
 ·intro b hb;exact u6 I (f2 b hb).2.1 (f2 b hb).2.2.1
 ·obtain⟨m1,hm1⟩:=hnC;refine⟨m1,hm1,λi x v e1 e2 _=>?_⟩;obtain⟨j,j1,j2,j3,jf,j4⟩:=hcap i x v e1 e2;obtain⟨m,hn,hl⟩:=I.loc;have vis:Vis X.env.scope x:=by
   rcases j3 with z|z
   ·exact .inr (.inl z)
   ·exact .inr (.inr z)
  obtain⟨u,r,l⟩:=hl j x v j1 j2 vis;refine⟨u,r,.inr ⟨j4,?_⟩⟩;obtain⟨c,hc⟩:=B6 S (C:=C) j4;rcases l with ⟨k,_⟩|⟨_,c',e',z'⟩
  ·exfalso;rcases j3 with z|z<;>(rw[z] at k;cases k)
  ·rcases iN S hc with ⟨e,_⟩|⟨_,k⟩
   ·rw[e'] at e;cases e;exact⟨_,hc,z'.keeps old⟩
   ·rw[jf] at k;cases k
 ·intro x c e;rcases iN S e with ⟨e,_⟩|⟨l,_⟩
  ·obtain⟨v,q⟩:=I.cell x c e;exact⟨v,q.keeps old⟩
  ·exact⟨_,own x c e l⟩
 ·exact I.hok.fresh hC
 ·intro x c e;rcases iN S e with ⟨e,_⟩|⟨l,_⟩
  ·exact I.freeC x c e
  ·exact I.hok.fresh (big c l)
 ·intro p hp;rcases Jb.mp hp with hp|hp
  ·obtain⟨q1,q2,q3,q4,q5⟩:=I.pin p hp;exact⟨old _ _ q1,q2,(ltne _ (Ip q1)).1,u6 I q3 q4,q5⟩
  ·cases Ii.mp hp;exact⟨heD,I.hok.fresh hD,hDC,λz=>absurd (frLt D z) (JV.mpr hD),hoD⟩
theorem BL {n:Nat} (I:Inv X pins σ H2 s2)
  (f2:∀ b∈fp,ww X pins H2 b)(hD:s2.heap.objs.size<=D)(J:Inv (bG X N scope (aY X scope C) C s2 H2 fp pins) ((D,{ cls:=.type "list",data:=.seq its.toArray n })::pl) σ0 H' s')(r:bD ys its)(hz:ys.length<=II):
  Inv X pins σ (upd H' D (.lst ys)) s':=by
 have pD:=J.pin (D,{ cls:=.type "list",data:=.seq its.toArray n }) (IC _ IJ);have fD:H' D=none:=pD.2.1;have u0:Un (frs X.stack) fp H2 H' s2.heap s'.heap:=J.base;have fr2:H2 D=none:=I.hok.fresh hD;have u:Un (frs X.stack) fp H2 (upd H' D (.lst ys)) s2.heap s'.heap:=by
  refine⟨u0.keep,u0.slot,λb o e n' hx=>?_,u0.there,λb xs e=>?_,λb o w e=>?_,λb ps e=>?_⟩
  ·rw[ao (show b≠D from λz=>absurd (Ip e) (JV.mpr (by rw[z];exact hD)))];exact u0.free b o e n' hx
  ·rw[ao (aB e fr2)];exact u0.tups b xs e
  ·rw[ao (aB e fr2)];exact u0.frzs b o w e
  ·rw[ao (aB e fr2)];exact u0.tbls b ps e
 refine I.call' (ch:=fp) J.os u (λb o e=>?_) J.bare λb hb=>?_
 ·by_cases hb:b=D
  ·subst hb;rw[ac] at e;cases e;exact⟨hz,its,n,r,pD.1⟩
  ·rw[ao hb] at e;exact(J.hok b o e).stay (λ_ _ _ q=>q) (λc q=>by rw[ao (aB q fD)];exact q) λc xs q=>by rw[ao (aB q fD)];exact q
 ·obtain⟨_,g1,_,g3,g4,g5⟩:=f2 b hb;exact⟨g3,g1,g4,g5⟩
def PTs (X:Cx)(ifs:List KI)(t:TT):Prop:=
 ∀ (pins:List (Iv×Obj)) (s:Im) (σ:L2.St) (H:Hp) (Q:Bool->Hp->Prop),Inv X pins σ H s->t σ H Q ->
  IB (IT X.prog X.w) X.A (forIn ifs true λc r=>if r=true then do let ok <- isTrue c X.env (L6 c X.env);pure (Lz ok) else pure (Lz r)) (TP X pins σ Q) X.xe s
structure WTs (X:Cx)(e:List KI)(t:TT):Prop where
 go:PTs X e t
def Gg:TT:=λ_ H Q=>Q true H
theorem aw:WTs X [] Gg:=by
 exact⟨λ_ _ _ H _ I h=>wpAny_tests_nil ⟨H,I,h⟩⟩
theorem vK (h:WT X c t):WTs X [c] t:=by
 have h:=h.go;exact⟨λpins s σ H Q I hq=>wpAny_tests_one (h pins s σ H Q I hq)⟩
def iA (J:It)(g:TG)(tt:TT)(te:TE)(σ0:L2.St)(Fin:List V->Hp->Prop)(H1:Hp):Prop:=∃ W:Nat->Nat->List V->Hp->Prop,(∃ m,W 0 m [] H1)/\∀ i m ys H2,W i m ys H2 ->
 (J.stop i H2/\ys.length<=II/\Fin ys H2) \/
 (J.go i H2/\ys.length<II/\∀ x H3,J.yld i H2 x H3->g x σ0 H3 λσ' H4=>tt σ' H4 λb H5=>if b=true then te σ' H5 λy H6=>∃ m',m'<m/\W (i+1) m' (ys++[y]) H6 else ∃ m',m'<m/\W (i+1) m' ys H5)
end
def qV (sc:MT):Bool:=sc.kind==.function&&sc.names.all (λy=>sc.names.lookup y.1==some y.2)&&sc.names.all (λy=>sc.names.all λz=>!(y.2==.cell&&z.2==.cell)||y.1==z.1) &&
 sc.names.all λy=>y.2==.local||y.2==.globalImplicit||y.2==.cell||y.2==.free
theorem uS (h:qV scope=true)(hf:(scope.names.all λy=>!(y.2==.free)||(X.env.cells.lookup y.1).isSome)=true):Cr X scope:=by
 unfold qV at h;simp only[Ju,Kh] at h;obtain⟨⟨⟨h1,h2⟩,h3⟩,h4⟩:=h;refine⟨by simpa using h1,λy hy=>by simpa using h2 y hy,λy hy z hz a b=>?_,λy hy=>?_,λy hy e=>?_⟩
 ·have:=h3 y hy z hz;rw[a,b] at this
  simpa using this
 ·have:=h4 y hy;simp only[Bool.or_eq_true,K0] at this;rcases this with ((q|q)|q)|q
  ·exact .inl q
  ·exact .inr (.inl q)
  ·exact .inr (.inr (.inl q))
  ·exact .inr (.inr (.inr q))
 ·rw[Kh] at hf;have:=hf y hy;rw[e] at this;exact KC.mp (by simpa using this)
def mj (X:Cx)(scope:MT)(cs:List Str)(js:List Nat):Bool:=(cs.zip js).all λp=>(X.N[p.2]?==some p.1)&&(X.env.kindOf p.1==some .cell||X.env.kindOf p.1==some .free)&&(scope.names.lookup p.1==some .free) &&
 ((Nz scope [] 0 X.env).kindOf p.1==some .cell||(Nz scope [] 0 X.env).kindOf p.1==some .free)
theorem zo (h:mj X scope cs js=true) (hl:cs.length=js.length) {k:Nat} (hk:ts.length=k) (σ:L2.St) (_:σ.length=X.N.length) :
  vc X scope (ts++cs) σ (Cw k js σ)/\(Cw k js σ).length=(ts++cs).length:=by
 subst hk;refine⟨λi x v e1 e2=>?_,by unfold Cw;simp[hl]⟩;unfold Cw at e2;have hi:ts.length<=i:=by
  rcases Nat.lt_or_ge i ts.length with z|z
  ·rw[Kv (by simpa using z),Ml,Jh z] at e2;cases e2
  ·exact z
 rw[Kk hi] at e1;rw[Kk (by simpa using hi),OH,Ix] at e2;cases hj:js[i-ts.length]? with
 |none=>rw[hj] at e2;cases e2
 |some j=>
  rw[hj] at e2;have e2:(σ[j]?).join=some v:=Ie e2;have e3:σ[j]?=some (some v):=by
   cases q:σ[j]? with
   |none=>rw[q] at e2;cases e2
   |some o=>rw[q] at e2;exact Lr some e2
  have m:(x,j)∈cs.zip js:=by
   have:(cs.zip js)[i-ts.length]?=some (x,j):=by rw[Jk];exact⟨e1,hj⟩
   exact IM this
  unfold mj at h;rw[Kh] at h;have c:=h _ m;simp only[Ju,Bool.or_eq_true,K0] at c;exact⟨j,c.1.1.1,e3,c.1.1.2,c.1.2,c.2⟩
def SIt (b:Bool)(h:Kl)(j q:Iv)(k:Nat)(its:Array Ih):Prop:=match b with
 |true=>h.IsListIter j q k/\h.IsList q its
 |false=>h.IsTupleIter j q k/\h.IsTuple q its
theorem SIt.keep {k:Nat}(x:SIt b h j q k its)(e1:∀ o,h.get? j=some o->g.get? j=some o)(e2:∀ o,h.get? q=some o->g.get? q=some o):SIt b g j q k its:=by
 cases b with
 |true=>
  obtain⟨⟨o,a,r⟩,⟨u,c,t⟩⟩:=x;exact⟨⟨o,e1 o a,r⟩,⟨u,e2 u c,t⟩⟩
 |false=>
  obtain⟨⟨o,a,r⟩,⟨u,c,t⟩⟩:=x;exact⟨⟨o,e1 o a,r⟩,⟨u,e2 u c,t⟩⟩
theorem SIt.ext {k:Nat}(x:SIt b h j q k its)(e:N_ c h g)(n1:j≠c)(n2:q≠c):SIt b g j q k its:=
 x.keep (λo a=>e j o n1 a) λo a=>e q o n2 a
theorem SIt.there {k:Nat}(x:SIt b h j q k its):∃ o vs,h.get? j=some o/\o.data=.fields vs:=by
 cases b with
 |true=>
  obtain⟨⟨o,a,_,d⟩,_⟩:=x;exact⟨o,_,a,d⟩
 |false=>
  obtain⟨⟨o,a,_,d⟩,_⟩:=x;exact⟨o,_,a,d⟩
theorem SIt.src {k:Nat}(x:SIt b h j q k its):∃ o n,h.get? q=some o/\o.data=.seq its n:=by
 cases b with
 |true=>
  obtain⟨_,⟨o,a,_,n,d⟩⟩:=x;exact⟨o,n,a,d⟩
 |false=>
  obtain⟨_,⟨o,a,_,n,d⟩⟩:=x;exact⟨o,n,a,d⟩
theorem SIt.ne {k:Nat}(x:SIt b h j q k its):q≠j:=λz=>by
 obtain⟨o,vs,a,d⟩:=x.there;obtain⟨u,n,c,t⟩:=x.src;rw[z,a] at c;cases c;rw[d] at t;cases t
section
variable {prog:IN}{w:Jm}{A:JA}{E:Ih->Im->Prop}{s:Im}
theorem DL {k:Nat} (h1:s.heap.IsTupleIter j q k) (h2:s.heap.IsTuple q its) (hv:its[k]?=some v)
  (fin:∀ g,g.IsTupleIter j q (k+1)->Jw j s.heap g->Q v { s with heap:=g }):IB (IT prog w) A (Je (.ref j)) Q E s:=by
 obtain⟨oj,ej,cj,dj⟩:=id h1;obtain⟨oq,eq,_,nq,dq⟩:=h2;unfold Je;refine Ib (Jy (name:=Kz "__next__") h1.typeIs KU (JH KU h1.typeIs M6 ?_ (MZ _)));show IB _ _ (field (.ref j) 0>>=_) _ _ s;refine Ib (J5 ej dj (x:=.ref q) rfl ?_);show IB _ _ (if(IX q==J7)=true then _ else _) _ _ s;rw[IY (show ¬ (IX q==J7)=true from JC)];show IB _ _ (field (.ref j) 1>>=_) _ _ s;refine Ib (J5 ej dj (x:=.int k 0) rfl ?_);show IB _ _ (P0 (.ref q)>>=_) _ _ s;refine Ib (Kw eq dq ?_);simp only[Ja,hv];refine Ib (K6 ej dj (by simp) (Ig ⟨v,rfl,Ig (fin _ ?_ (Jp ..))⟩));refine⟨_,Jx _ ej (K2 (JJ dj _)),(MD ..).trans cj,?_⟩;rw[JJ dj];simp[Ll]
theorem DS {k:Nat} (hh:A.handled=none) (h1:s.heap.IsTupleIter j q k) (h2:s.heap.IsTuple q its) (hv:its[k]?=none)
  (fin:∀ g e,N_ j s.heap g->(∃ o,g.get? e=some o/\o.cls=.type "StopIteration")->E (.ref e) { s with heap:=g }):IB (IT prog w) A (Je (.ref j)) Q E s:=by
 obtain⟨oj,ej,cj,dj⟩:=id h1;obtain⟨oq,eq,_,nq,dq⟩:=h2;unfold Je;refine Ib (Jy (name:=Kz "__next__") h1.typeIs KU (JH KU h1.typeIs M6 ?_ (MZ _)));show IB _ _ (field (.ref j) 0>>=_) _ _ s;refine Ib (J5 ej dj (x:=.ref q) rfl ?_);show IB _ _ (if(IX q==J7)=true then _ else _) _ _ s;rw[IY (show ¬ (IX q==J7)=true from JC)];show IB _ _ (field (.ref j) 1>>=_) _ _ s;refine Ib (J5 ej dj (x:=.int k 0) rfl ?_);show IB _ _ (P0 (.ref q)>>=_) _ _ s;refine Ib (Kw eq dq ?_);simp only[Ja,hv];refine Ib (Me (Ib (K6 ej dj (by simp) ?_)));show IB _ _ (newExc (.type "StopIteration") ([]:List Ih)>>=_) _ _ _;refine Ib ?_;simp only[newExc,newTuple];refine Ib (JB ?_ (by size_fits));refine Ib (m:=LO _ _) (Pz (a:=J7) (by first|rfl|(unfold LO;rfl)) ?_);refine JB ?_ (by size_fits);unfold raiseNew;refine Ib (P2 ?_)
 first|rw[hh]|rw[show A.in1.handled=none from hh]
 refine Ib (Ig (wpAny_throw (fin _ _ (((Jp ..).extBut.push _).push _) ⟨_,Io _ rfl,rfl⟩)))
theorem SIt.next {k:Nat} (x:SIt b s.heap j q k its) (hv:its[k]?=some v)
  (fin:∀ g,SIt b g j q (k+1) its->Jw j s.heap g->Q v { s with heap:=g }):IB (IT prog w) A (Je (.ref j)) Q E s:=by
 have hn:=x.ne;cases b with
 |true=>exact wpAny_nextOf_list_item x.1 x.2 hv λg h1' sb=>fin g ⟨h1',x.2.extBut sb.extBut hn⟩ sb
 |false=>exact DL x.1 x.2 hv λg h1' sb=>fin g ⟨h1',x.2.extBut sb.extBut hn⟩ sb
theorem SIt.stops {k:Nat} (hh:A.handled=none) (x:SIt b s.heap j q k its) (hv:its[k]?=none)
  (fin:∀ g e,N_ j s.heap g->(∃ o,g.get? e=some o/\o.cls=.type "StopIteration")->E (.ref e) { s with heap:=g }):IB (IT prog w) A (Je (.ref j)) Q E s:=by
 cases b with
 |true=>exact wpAny_nextOf_list_end hh x.1 x.2 hv fin
 |false=>exact DS hh x.1 x.2 hv fin
structure ZSt (b1 b2:Bool)(h:Kl)(z ti to j1 j2 q1 q2:Iv)(f0:Ih)(k:Nat)(xs ys:Array Ih):Prop where
 zp:QP h z ti to f0
 pi:Ol h ti (.ref j1) (.ref j2)
 po:∃ a b,Ol h to a b
 s1:SIt b1 h j1 q1 k xs
 s2:SIt b2 h j2 q2 k ys
structure ZAp (z ti to j1 j2 q1 q2:Iv):Prop where
 a1:ti≠z
 a2:to≠z
 a3:j1≠z
 a4:j2≠z
 a5:ti≠to
 a6:ti≠j1
 a7:ti≠j2
 a8:to≠j1
 a9:to≠j2
 b1:j1≠j2
 c1:q1≠z
 c2:q1≠to
 c4:q1≠j2
 d1:q2≠z
 d2:q2≠to
 d3:q2≠j1
theorem F9 {k:Nat} (D:ZAp z ti to j1 j2 q1 q2) (Z:ZSt b1 b2 s.heap z ti to j1 j2 q1 q2 .none k xs ys) (hx:xs[k]?=some x) (hy:ys[k]?=some y)
  (fin:∀ g,ZSt b1 b2 g z ti to j1 j2 q1 q2 (Ll s.heap.objs.size) (k+1) xs ys->Ol g s.heap.objs.size x y->(∀ c o,c≠z->c≠to->c≠j1->c≠j2->s.heap.get? c=some o->g.get? c=some o)->Q (some (.ref s.heap.objs.size)) { s with heap:=g }):
  IB (IT prog w) A (MR (.ref z)) Q E s:=by
 obtain⟨hz,hi,⟨pa,pb,ho⟩,hs1,hs2⟩:=Z;have ht:s.TypeIs (.ref z) "zip":=⟨_,hz,rfl⟩
 unfold MR;refine Ib (Mr (Jy (name:=Kz "__next__") ht M7 (JH M7 ht F.entry_zip_next ?_ (F.args_zip_next_1 _))));show IB _ _ (field (.ref z) 2>>=_) _ _ s;refine Ib (J5 hz rfl (x:=.bool false) rfl ?_);show IB _ _ (field (.ref z) 3>>=_) _ _ s;refine Ib (J5 hz rfl (x:=.ref ti) rfl ?_);refine Ib (Kw hi rfl ?_);show IB _ _ (J2 (.ref z)>>=_) _ _ s;refine Ib ?_;unfold J2;refine Ib (J5 hz rfl (x:=.none) rfl (Ig ?_));simp only[LC];refine Ib (Me (Ib (J5 hz rfl (x:=.ref to) rfl ?_)));refine Ib (JE hz (by simp) λg1 z1 e1=>?_);have z1:QP g1 z ti to .ellipsis:=z1;refine Ib ?_;simp only[List.zipIdx_cons,List.zipIdx_nil,OG,O7];refine Ib (Ib (Oj ?_));show IB _ _ (Je (.ref j1)>>=_) _ _ { s with heap:=g1 };refine Ib ((hs1.ext e1.extBut D.a3 D.c1).next hx λg2 i2 e2=>Ig ?_);have o2:Ol g2 to pa pb:=e2.extBut _ _ D.a8 (e1.extBut _ _ D.a2 ho);refine Ib (Kw o2 rfl (Ib (MW o2 λg3 o3 e3=>?_)));have o3:Ol g3 to x pb:=o3;refine Ib (Oi (Ig ?_));refine Ib (Ib (Oj ?_));show IB _ _ (Je (.ref j2)>>=_) _ _ { s with heap:=g3 };refine Ib ((((hs2.ext e1.extBut D.a4 D.d1).ext e2.extBut D.b1.symm D.d3).ext e3.extBut D.a9.symm D.d2).next hy λg4 i4 e4=>Ig ?_);have o4:Ol g4 to x pb:=e4.extBut _ _ D.a9 o3;refine Ib (Kw o4 rfl (Ib (MW o4 λg5 o5 e5=>?_)));have o5:Ol g5 to x y:=o5;refine Ib (Oi (Ig (Ig ?_)));refine Ib (Kw o5 rfl (Ib (Pe ?_)));have sz:g5.objs.size=s.heap.objs.size:=by rw[e5.1,e4.1,e3.1,e2.1,e1.1]
 have z5:QP g5 z ti to .ellipsis:=e5.extBut _ _ D.a2.symm (e4.extBut _ _ D.a4.symm (e3.extBut _ _ D.a2.symm (e2.extBut _ _ D.a3.symm z1)));have k5:∀ c o,c≠z->c≠to->c≠j1->c≠j2->s.heap.get? c=some o->g5.get? c=some o:=λc o n1 n2 n3 n4 e=>
  e5.extBut _ _ n2 (e4.extBut _ _ n4 (e3.extBut _ _ n2 (e2.extBut _ _ n3 (e1.extBut _ _ n1 e))))
 have i5:SIt b1 g5 j1 q1 (k+1) xs:=((i2.ext e3.extBut D.a8.symm D.c2).ext e4.extBut D.b1 D.c4).ext e5.extBut D.a8.symm D.c2;have i6:SIt b2 g5 j2 q2 (k+1) ys:=i4.ext e5.extBut D.a9.symm D.d2;have lz:z<g5.objs.size:=Ip z5;show IB _ _ (LN (.ref z) (.ref g5.objs.size)>>=_) _ _ _;refine Ib ?_;unfold LN;have z6:QP (g5.push { cls:=.type "tuple",data:=.seq #[x,y] }) z ti to .ellipsis:=Ic _ z5;refine Ib (JE z6 (by simp) λg7 z7 e7=>?_);have z7:QP g7 z ti to (Ll g5.objs.size):=z7;refine JE z7 (by simp) λg8 z8 e8=>?_
 have z8:QP g8 z ti to (Ll g5.objs.size):=z8;have up:∀ c o,c≠z->g5.get? c=some o->g8.get? c=some o:=λc o n e=>e8.extBut _ _ n (e7.extBut _ _ n (Ic _ e))
 have t8:Ol g8 g5.objs.size x y:=e8.extBut _ _ (Kx lz) (e7.extBut _ _ (Kx lz) (Io _ rfl));rw[sz] at z8 t8;refine Ig ⟨_,rfl,Ig ?_⟩;show Q (some (.ref g5.objs.size)) _;rw[sz];exact fin g8 ⟨z8,up _ _ D.a1 (k5 _ _ D.a1 D.a5 D.a6 D.a7 hi),⟨x,y,up _ _ D.a2 o5⟩,i5.keep (λo e=>up _ o D.a3 e) (λo e=>up _ o D.c1 e),i6.keep (λo e=>up _ o D.a4 e) (λo e=>up _ o D.d1 e)⟩ t8
  λc o n1 n2 n3 n4 e=>up c o n1 (k5 c o n1 n2 n3 n4 e)
theorem Gy {k:Nat} (hh:A.handled=none) (D:ZAp z ti to j1 j2 q1 q2) (Z:ZSt b1 b2 s.heap z ti to j1 j2 q1 q2 .none k xs ys) (hv:xs[k]?=none\/ys[k]?=none)
  (fin:∀ g,(∀ c o,c≠z->c≠to->c≠j1->c≠j2->s.heap.get? c=some o->g.get? c=some o)->Q none { s with heap:=g }):IB (IT prog w) A (MR (.ref z)) Q E s:=by
 obtain⟨hz,hi,⟨pa,pb,ho⟩,hs1,hs2⟩:=Z;have ht:s.TypeIs (.ref z) "zip":=⟨_,hz,rfl⟩
 have stopped:∀ (g:Kl) (e:Iv),(∀ c o,c ≠ z->c ≠ to->c ≠ j1->c ≠ j2->s.heap.get? c=some o->g.get? c=some o)->(∃ o,g.get? e=some o/\o.cls=.type "StopIteration") ->
   IB (IT prog w) A (do if <- Qj (.ref e) (.type "StopIteration") then pure none else throw (.ref e)) Q E { s with heap:=g }:=λg e kk ⟨o,h1,h2⟩=>
  Ib (LU (T:="StopIteration") (b:=true) ⟨o,h1,h2⟩ Pb (Ig (fin g kk)))
 unfold MR;refine Ib (Mr (Jy (name:=Kz "__next__") ht M7 (JH M7 ht F.entry_zip_next ?_ (F.args_zip_next_1 _))));show IB _ _ (field (.ref z) 2>>=_) _ _ s;refine Ib (J5 hz rfl (x:=.bool false) rfl ?_);show IB _ _ (field (.ref z) 3>>=_) _ _ s;refine Ib (J5 hz rfl (x:=.ref ti) rfl ?_);refine Ib (Kw hi rfl ?_);show IB _ _ (J2 (.ref z)>>=_) _ _ s;refine Ib ?_;unfold J2;refine Ib (J5 hz rfl (x:=.none) rfl (Ig ?_));simp only[LC];refine Ib (Me (Ib (J5 hz rfl (x:=.ref to) rfl ?_)));refine Ib (JE hz (by simp) λg1 z1 e1=>?_);have z1:QP g1 z ti to .ellipsis:=z1;refine Ib ?_;simp only[List.zipIdx_cons,List.zipIdx_nil,OG,O7];refine Ib (Ib (Oj ?_));show IB _ _ (Je (.ref j1)>>=_) _ _ { s with heap:=g1 };cases hx:xs[k]? with
 |none=>
  refine Ib ((hs1.ext e1.extBut D.a3 D.c1).stops hh hx λg2 e e2 he=>?_);obtain⟨oe,q1',q2'⟩:=he;have z2:QP g2 z ti to .ellipsis:=e2 _ _ D.a3.symm z1;have ne:e≠z:=λc=>by subst c;rw[z2] at q1';cases q1';simp at q2'
  exact JE z2 (by simp) λg3 _ e3=>stopped g3 e (λc o n1 _ n3 _ u=>e3.extBut _ _ n1 (e2 _ _ n3 (e1.extBut _ _ n1 u))) ⟨oe,e3.extBut _ _ ne q1',q2'⟩
 |some x=>
  have hy:ys[k]?=none:=hv.resolve_left (by rw[hx];exact λc=>nomatch c);refine Ib ((hs1.ext e1.extBut D.a3 D.c1).next hx λg2 i2 e2=>Ig ?_);have o2:Ol g2 to pa pb:=e2.extBut _ _ D.a8 (e1.extBut _ _ D.a2 ho);refine Ib (Kw o2 rfl (Ib (MW o2 λg3 o3 e3=>?_)));refine Ib (Oi (Ig ?_));refine Ib (Ib (Oj ?_));show IB _ _ (Je (.ref j2)>>=_) _ _ { s with heap:=g3 };refine Ib ((((hs2.ext e1.extBut D.a4 D.d1).ext e2.extBut D.b1.symm D.d3).ext e3.extBut D.a9.symm D.d2).stops hh hy λg4 e e4 he=>?_);obtain⟨oe,q1',q2'⟩:=he;have z4:QP g4 z ti to .ellipsis:=e4 _ _ D.a4.symm (e3.extBut _ _ D.a2.symm (e2.extBut _ _ D.a3.symm z1));have ne:e≠z:=λc=>by subst c;rw[z4] at q1';cases q1';simp at q2'
  exact JE z4 (by simp) λg5 _ e5=>stopped g5 e (λc o n1 n2 n3 n4 u=>e5.extBut _ _ n1 (e4 _ _ n4 (e3.extBut _ _ n2 (e2.extBut _ _ n3 (e1.extBut _ _ n1 u))))) ⟨oe,e5.extBut _ _ ne q1',q2'⟩
end
def SqB (K:Ia)(H:Hp)(a:Iv)(xs:List V):Bool->Prop
 |true=>SqL K H a xs
 |false=>SqT K H a xs
def ItB (h:Kl)(j q:Iv)(k:Nat):Bool->Prop
 |true=>h.IsListIter j q k
 |false=>h.IsTupleIter j q k
theorem ItB.keep {k:Nat}:∀ {b:Bool},ItB h j q k b->(∀ o,h.get? j=some o->g.get? j=some o)->ItB g j q k b
 |true,⟨o,e,r⟩,f=>⟨o,f o e,r⟩
 |false,⟨o,e,r⟩,f=>⟨o,f o e,r⟩
theorem ItB.fields {k:Nat}:∀ {b:Bool},ItB h j q k b->∃ o vs,h.get? j=some o/\o.data=.fields vs
 |true,⟨o,e,_,d⟩=>⟨o,_,e,d⟩
 |false,⟨o,e,_,d⟩=>⟨o,_,e,d⟩
section
variable {X:Cx}{pins:List (Iv×Obj)}{σ:L2.St}{H:Hp}{s:Im}
theorem qg {k:Nat}(I:Inv X pins σ H s):∀ {b:Bool},SqB X.K H q xs b->ItB s.heap j q k b->∃ its:List Ih,bD xs its/\SIt b s.heap j q k its.toArray
 |true,h,i=>by
  obtain⟨its,rv,p,_⟩:=I.list h;exact⟨its,rv,i,p.isList⟩
 |false,h,i=>by
  obtain⟨its,rv,p,_⟩:=I.tuple h;exact⟨its,rv,i,p⟩
theorem Dj {k:Nat}(x:SIt b h j q k its):ItB h j q k b:=by
 cases b with
 |true=>exact x.1
 |false=>exact x.1
theorem y9 (I:Inv X pins σ H s):∀ {b:Bool},SqB X.K H q xs b->SqB X.K H q ys b->xs=ys
 |true,h,h'=>I.list_inj h h'
 |false,h,h'=>I.tuple_inj h h'
theorem tE (I:Inv X pins σ H s):∀ {b:Bool},SqB X.K H q xs b->∃ o its n,s.heap.get? q=some o/\o.data=.seq its n
 |true,h=>by
  obtain⟨its,rv,⟨o,n,e,_,_,d⟩,_⟩:=I.list h;exact⟨o,_,n,e,d⟩
 |false,h=>by
  obtain⟨its,rv,⟨o,e,_,n,d⟩,_⟩:=I.tuple h;exact⟨o,_,n,e,d⟩
theorem iM (I:Inv X pins σ H s) (hn:H T=none) (h1:X.s₀.heap.objs.size <= T) (hL:T ≠ X.env.locals) (h2:∀ x c,X.env.cells.lookup x=some c->c ≠ T) (h3:∀ p ∈ X.pn ++ pins,p.1 ≠ T)
  (ok:cF X.prog X.w (upd H T o) s.heap T o):Inv X pins σ (upd H T o) s:=by
 have J:=I.step (h':=s.heap) (g':=s.gens) (t':=s.toks) (d':=s.drawn) (H':=upd H T o) (ch:=[T]) (λb hb=>?_) (λb o _ _ _ e _=>e) (λb o _ _ _ e _=>⟨o.slots,e⟩) (λb o hb _ n=>by rw[ao (show b≠T from λz=>hb (by simp[z]))];exact n)
  (λb o _ e=>⟨o,e⟩) (λb xs e=>by rw[ao (aB e hn)];exact e) (λb u w e=>by rw[ao (aB e hn)];exact e) (λb ps e=>⟨#[],by rw[ao (aB e hn),e];simp⟩) (λm hm=>hm) (λb u e=>?_) I.bare
 ·exact J
 ·cases Ii.mp hb;exact⟨.inr h1,hL,h2,h3⟩
 ·by_cases hb:b=T
  ·subst hb;rw[ac] at e;cases e;exact ok
  ·rw[ao hb] at e;exact(I.hok b u e).stay (λ_ _ _ q=>q) (λc q=>by rw[ao (aB q hn)];exact q) λc xs q=>by rw[ao (aB q hn)];exact q
end
def Itz (K:Ia)(b1 b2:Bool)(q1 q2:Iv):It:=
 ⟨λi H=>∃ xs ys x y,SqB K H q1 xs b1/\SqB K H q2 ys b2/\xs[i]?=some x/\ys[i]?=some y,
  λi H v H'=>∃ x y T,(∀ xs,SqB K H q1 xs b1->xs[i]?=some x)/\(∀ ys,SqB K H q2 ys b2->ys[i]?=some y)/\H T=none/\v=.ref T/\H'=upd H T (.tup [x,y]),
  λi H=>∃ xs ys,SqB K H q1 xs b1/\SqB K H q2 ys b2/\(xs.length<=i\/ys.length<=i)⟩
def HQ (z ti to j1 j2 q1 q2:Iv)(b1 b2:Bool)(k:Nat)(h:Kl):Prop:=QP h z ti to .none/\Ol h ti (.ref j1) (.ref j2)/\(∃ a b,Ol h to a b)/\ItB h j1 q1 k b1/\ItB h j2 q2 k b2
theorem BK {P:IN}{w:Jm}{K:Ia}{elts:List KI}{tk:Nat}{pos:Pos}{z ti to j1 j2 q1 q2:Iv}{b1 b2:Bool} (D:ti ≠ z/\to ≠ z/\j1 ≠ z/\j2 ≠ z/\ti ≠ to/\ti ≠ j1/\ti ≠ j2/\to ≠ j1/\to ≠ j2/\j1 ≠ j2) :
  Cj P w K (.Tuple elts tk pos) (Itz K b1 b2 q1 q2) [z,ti,to,j1,j2] z (HQ z ti to j1 j2 q1 q2 b1 b2) where
 mem:=by simp
 obj:=λi h st b hb=>by
  obtain⟨h1,h2,⟨a,c,h3⟩,h4,h5⟩:=st;simp only[Iy,IW,KS] at hb;rcases hb with rfl|rfl|rfl|rfl|rfl
  ·exact⟨_,h1,λv e=>nomatch e⟩
  ·exact⟨_,h2,λv e=>nomatch e⟩
  ·exact⟨_,h3,λv e=>nomatch e⟩
  ·obtain⟨o,vs,e,d⟩:=h4.fields;exact⟨o,e,λv u=>by rw[d] at u;cases u⟩
  ·obtain⟨o,vs,e,d⟩:=h5.fields;exact⟨o,e,λv u=>by rw[d] at u;cases u⟩
 keep:=λi h h' st k=>by
  obtain⟨h1,h2,⟨a,c,h3⟩,h4,h5⟩:=st;exact⟨k z (by simp) _ h1,k ti (by simp) _ h2,⟨a,c,k to (by simp) _ h3⟩,h4.keep λo e=>k j1 (by simp) o e,h5.keep λo e=>k j2 (by simp) o e⟩
 item:=by
  intro X hP hw hK hc i pins s σ H E I hf st hg;subst hP hw hK;obtain⟨xs,ys,x,y,hq1,hq2,hx,hy⟩:=hg;obtain⟨hz,hi,⟨a,c,ho⟩,t1,t2⟩:=st;obtain⟨us,r1,s1⟩:=qg I hq1 t1;obtain⟨vs,r2,s2⟩:=qg I hq2 t2;obtain⟨u,eu,ru⟩:=r1.get hx;obtain⟨v,ev,rv⟩:=r2.get hy;obtain⟨d1,d2,d3,d4,d5,d6,d7,d8,d9,d10⟩:=D;have tr:∀ {q:Iv}{zs:List V}{b:Bool},SqB X.K H q zs b->∀ b'∈[z,ti,to,j1,j2],(∃ o ws,s.heap.get? b'=some o/\o.data=.fields ws)->q≠b':=λ{q zs b} hq b' _ ⟨o,ws,e,d⟩ n=>by
   obtain⟨o',its,nn,e',d'⟩:=tE I hq;rw[n,e] at e';cases e';rw[d] at d';cases d'
  have zf:∃ o ws,s.heap.get? z=some o/\o.data=.fields ws:=⟨_,_,hz,rfl⟩
  have tof:∀ {q:Iv}{zs:List V}{b:Bool},SqB X.K H q zs b->q≠to:=λ{q zs b} hq n=>by
   have fto:H to=none:=(hf to (by simp)).1;have ft:=(hf to (by simp)).2;cases b with
   |true=>
    obtain⟨its,_,⟨o',nn,e',cc,_,d'⟩,_⟩:=I.list hq;rw[n,ho] at e';cases e';simp at cc
   |false=>
    rcases hq with (hq|⟨o',hq⟩)|⟨o',its,nn,kk,_⟩
    ·rw[n,fto] at hq;cases hq
    ·rw[n,fto] at hq;cases hq
    ·have bb:=I.mod.kin q o' kk;rw[n] at bb;rcases ft.2.2.1 with e|e
     ·exact I.ok.noex to o' bb e
     ·exact absurd (IA (Ip bb) (IS I.ok.bsz e)) (Ji _)
  have AP:ZAp z ti to j1 j2 q1 q2:=⟨d1,d2,d3,d4,d5,d6,d7,d8,d9,d10,tr hq1 z (by simp) zf,tof hq1,tr hq1 j2 (by simp) t2.fields,tr hq2 z (by simp) zf,tof hq2,tr hq2 j1 (by simp) t1.fields⟩
  refine F9 AP ⟨hz,hi,⟨a,c,ho⟩,s1,s2⟩ (x:=u) (y:=v) (by simpa using eu) (by simpa using ev) λg Z hp kk=>⟨_,rfl,?_⟩
  refine wpAny_letOwnedTupleGo_zip Z.zp λg' z' sb=>?_
  have tz:s.heap.objs.size≠z:=Kx (Ip hz);have fp0:∀ b∈[z,ti,to,j1,j2],b≠s.heap.objs.size:=λb hb n=>by
   simp only[Iy,IW,KS] at hb;rcases hb with rfl|rfl|rfl|rfl|rfl
   ·exact tz n.symm
   ·exact Ji _ (n▸Ip hi)
   ·exact Ji _ (n▸Ip ho)
   ·obtain⟨o,_,e,_⟩:=t1.fields;exact Ji _ (n▸Ip e)
   ·obtain⟨o,_,e,_⟩:=t2.fields;exact Ji _ (n▸Ip e)
  have k2:∀ b o,b∉[z,ti,to,j1,j2]->s.heap.get? b=some o->g'.get? b=some o:=λb o hb e=>
   sb.extBut b o (λn=>hb (by simp[n])) (kk b o (λn=>hb (by simp[n])) (λn=>hb (by simp[n])) (λn=>hb (by simp[n])) (λn=>hb (by simp[n])) e)
  have nfp:∀ b u',H b=some u'->b∉[z,ti,to,j1,j2]:=λb u' e hb=>by rw[(hf b hb).1] at e;cases e
  have I1:Inv X pins σ H { s with heap:=g' }:=by
   refine I.step (g':=s.gens) (d':=s.drawn) (t':=s.toks) (ch:=[z,ti,to,j1,j2]) (λb hb=>?_) (λb o _ _ hb e _=>k2 b o hb e) (λb o _ _ hb e _=>⟨o.slots,k2 b o hb e⟩) (λ_ _ _ _ n=>n) (λb o hb e=>⟨o,k2 b o hb e⟩) (λ_ _ e=>e) (λ_ _ _ e=>e)
    (λb ps e=>⟨#[],by rw[e];simp⟩) (λm hm=>?_) (λb u' e=>?_) I.bare
   ·obtain⟨_,g1,_,g3,g4,g5⟩:=hf b hb;exact⟨g3,g1,g4,g5⟩
   ·obtain⟨o,es,ep,ho',r'⟩:=hm;exact⟨o,es,ep,k2 _ o (λn=>(hf _ n).2.1 rfl) ho',r'⟩
   ·refine(I.hok b u' e).stay (λc' v' hc' q=>k2 c' v' ?_ q) (λ_ q=>q) λ_ _ q=>q
    rcases hc' with rfl|hc'
    ·exact nfp _ _ e
    ·exact nfp _ _ hc'
  have hT:g'.get? s.heap.objs.size=some { cls:=.type "tuple",data:=.seq #[u,v] }:=sb.extBut _ _ tz hp;have fT:H s.heap.objs.size=none:=I.hok.fresh (Il _);have F:=I.fpOk (b:=s.heap.objs.size) (H':=H) (Il _) fT;have I2:Inv X pins σ (upd H s.heap.objs.size (.tup [x,y])) { s with heap:=g' }:=iM I1 fT I.sz F.2.1 F.2.2.2.2.1 F.2.2.2.2.2 ⟨by show 2<=II;decide,[u,v],.cons ru (.cons rv .nil),⟨_,hT,rfl,_,rfl⟩⟩;have cl:∀ {j q:Iv}{b:Bool}{its:Array Ih},SIt b g j q (i+1) its->j≠z->ItB g' j q (i+1) b:=λ{j q b its} x n=>(Dj x).keep λo e=>sb.extBut _ _ n e
  exact⟨.ref s.heap.objs.size,_,I2,rfl,⟨x,y,s.heap.objs.size,λxs' h'=>by rw[y9 I h' hq1];exact hx,λys' h'=>by rw[y9 I h' hq2];exact hy,fT,rfl,rfl⟩,
   ⟨z',sb.extBut _ _ d1 Z.pi,(let ⟨a',b',e'⟩:=Z.po;⟨a',b',sb.extBut _ _ d2 e'⟩),cl Z.s1 d3,cl Z.s2 d4⟩,λb hb=>by rw[ao (fp0 b hb)];exact(hf b hb).1⟩
 done:=by
  intro X hP hw hK hc i pins s σ H E I hf st hg;subst hP hw hK;obtain⟨xs,ys,hq1,hq2,hl⟩:=hg;obtain⟨hz,hi,⟨a,c,ho⟩,t1,t2⟩:=st;obtain⟨us,r1,s1⟩:=qg I hq1 t1;obtain⟨vs,r2,s2⟩:=qg I hq2 t2;have l1:=r1.length;have l2:=r2.length;obtain⟨d1,d2,d3,d4,d5,d6,d7,d8,d9,d10⟩:=D;have tr:∀ {q:Iv}{zs:List V}{b:Bool},SqB X.K H q zs b->∀ b'∈[z,ti,to,j1,j2],(∃ o ws,s.heap.get? b'=some o/\o.data=.fields ws)->q≠b':=λ{q zs b} hq b' _ ⟨o,ws,e,d⟩ n=>by
   obtain⟨o',its,nn,e',d'⟩:=tE I hq;rw[n,e] at e';cases e';rw[d] at d';cases d'
  have zf:∃ o ws,s.heap.get? z=some o/\o.data=.fields ws:=⟨_,_,hz,rfl⟩
  have tof:∀ {q:Iv}{zs:List V}{b:Bool},SqB X.K H q zs b->q≠to:=λ{q zs b} hq n=>by
   have fto:H to=none:=(hf to (by simp)).1;have ft:=(hf to (by simp)).2;cases b with
   |true=>
    obtain⟨its,_,⟨o',nn,e',cc,_,d'⟩,_⟩:=I.list hq;rw[n,ho] at e';cases e';simp at cc
   |false=>
    rcases hq with (hq|⟨o',hq⟩)|⟨o',its,nn,kk,_⟩
    ·rw[n,fto] at hq;cases hq
    ·rw[n,fto] at hq;cases hq
    ·have bb:=I.mod.kin q o' kk;rw[n] at bb;rcases ft.2.2.1 with e|e
     ·exact I.ok.noex to o' bb e
     ·exact absurd (IA (Ip bb) (IS I.ok.bsz e)) (Ji _)
  have AP:ZAp z ti to j1 j2 q1 q2:=⟨d1,d2,d3,d4,d5,d6,d7,d8,d9,d10,tr hq1 z (by simp) zf,tof hq1,tr hq1 j2 (by simp) t2.fields,tr hq2 z (by simp) zf,tof hq2,tr hq2 j1 (by simp) t1.fields⟩
  have nfp:∀ b u',H b=some u'->b∉[z,ti,to,j1,j2]:=λb u' e hb=>by rw[(hf b hb).1] at e;cases e
  refine Gy (I.ok.hd hc) AP ⟨hz,hi,⟨a,c,ho⟩,s1,s2⟩ (by simp;omega) λg kk=>⟨rfl,?_⟩
  have k2:∀ b o,b∉[z,ti,to,j1,j2]->s.heap.get? b=some o->g.get? b=some o:=λb o hb e=>
   kk b o (λn=>hb (by simp[n])) (λn=>hb (by simp[n])) (λn=>hb (by simp[n])) (λn=>hb (by simp[n])) e
  refine I.step (g':=s.gens) (d':=s.drawn) (t':=s.toks) (ch:=[z,ti,to,j1,j2]) (λb hb=>?_) (λb o _ _ hb e _=>k2 b o hb e) (λb o _ _ hb e _=>⟨o.slots,k2 b o hb e⟩) (λ_ _ _ _ n=>n) (λb o hb e=>⟨o,k2 b o hb e⟩) (λ_ _ e=>e) (λ_ _ _ e=>e)
   (λb ps e=>⟨#[],by rw[e];simp⟩) (λm hm=>?_) (λb u' e=>?_) I.bare
  ·obtain⟨_,g1,_,g3,g4,g5⟩:=hf b hb;exact⟨g3,g1,g4,g5⟩
  ·obtain⟨o,es,ep,ho',r'⟩:=hm;exact⟨o,es,ep,k2 _ o (λn=>(hf _ n).2.1 rfl) ho',r'⟩
  ·refine(I.hok b u' e).stay (λc' v' hc' q=>k2 c' v' ?_ q) (λ_ q=>q) λ_ _ q=>q
   rcases hc' with rfl|hc'
   ·exact nfp _ _ e
   ·exact nfp _ _ hc'
 self:=λ_ _ _ _ _ st h=>wpAny_pyIter_zip st.1 h
theorem Fy:Jn "zip"=some (.type "zip"):=by decide +kernel
theorem neN {a b:Nat}(h:@Ne Nat a b):@Ne Iv a b:=h
def itO (q:Iv):Bool->Obj
 |true=>{ cls:=.type "list_iterator",data:=.fields #[.ref q,.int 0 0] }
 |false=>{ cls:=.type "tuple_iterator",data:=.fields #[.ref q,.int 0 0] }
def EO (h:Kl)(q:Iv)(its:Array Ih):Bool->Prop
 |true=>h.IsList q its
 |false=>h.IsTuple q its
abbrev zA (h:Kl)(q1:Iv)(b1:Bool):Kl:=h.push (itO q1 b1)
abbrev zB (h:Kl)(q1 q2:Iv)(b1 b2:Bool):Kl:=(zA h q1 b1).push (itO q2 b2)
abbrev zC (h:Kl)(q1 q2:Iv)(b1 b2:Bool):Kl:=(zB h q1 q2 b1 b2).push { cls:=.type "tuple",data:=.seq #[.ref h.objs.size,.ref (zA h q1 b1).objs.size] }
abbrev zD (h:Kl)(q1 q2:Iv)(b1 b2:Bool):Kl:=(zC h q1 q2 b1 b2).push { cls:=.type "tuple",data:=.seq #[.none,.none] }
abbrev zE (h:Kl)(q1 q2:Iv)(b1 b2:Bool):Kl:=(zD h q1 q2 b1 b2).push { cls:=.type "zip",data:=.fields #[.none,.bool false,.bool false,.ref (zB h q1 q2 b1 b2).objs.size,.ref (zC h q1 q2 b1 b2).objs.size] }
theorem GG (q1 q2:Iv) (xs ys:Array Ih) (b1 b2:Bool):Meets (Lg.«zip.__new__» ⟨[.type "zip",.ref q1,.ref q2],[]⟩)
  (λ_ R s=>EO s.heap q1 xs b1/\EO s.heap q2 ys b2/\R (.ok (.ret (.ref (zD s.heap q1 q2 b1 b2).objs.size))) { s with heap:=zE s.heap q1 q2 b1 b2 }):=
 .of_wp λprog w A R s h=>by
  obtain⟨hp,g,d,tk,os⟩:=s;obtain⟨h1,h2,h⟩:=h;have hsub:=sub_zip;cases b1<;>cases b2
  ·have k1:OB (L0 ⟨hp,g,d,tk,os⟩) q1 xs:=h1;have k2:OB (L0 ⟨hp.push { cls:=.type "tuple_iterator",data:=.fields #[.ref q1,.int 0 0] },g,d,tk,os⟩) q2 ys:=P7 h2 _
   wp_walk using Lu k1,Lu k2
   exact⟨_,rfl,h⟩
  ·have k1:OB (L0 ⟨hp,g,d,tk,os⟩) q1 xs:=h1;have k2:Pp (L0 ⟨hp.push { cls:=.type "tuple_iterator",data:=.fields #[.ref q1,.int 0 0] },g,d,tk,os⟩) q2 ys:=Qz h2 _
   wp_walk using Lu k1,KO k2
   exact⟨_,rfl,h⟩
  ·have k1:Pp (L0 ⟨hp,g,d,tk,os⟩) q1 xs:=h1;have k2:OB (L0 ⟨hp.push { cls:=.type "list_iterator",data:=.fields #[.ref q1,.int 0 0] },g,d,tk,os⟩) q2 ys:=P7 h2 _
   wp_walk using KO k1,Lu k2
   exact⟨_,rfl,h⟩
  ·have k1:Pp (L0 ⟨hp,g,d,tk,os⟩) q1 xs:=h1;have k2:Pp (L0 ⟨hp.push { cls:=.type "list_iterator",data:=.fields #[.ref q1,.int 0 0] },g,d,tk,os⟩) q2 ys:=Qz h2 _
   wp_walk using KO k1,KO k2
   exact⟨_,rfl,h⟩
section
variable {prog:IN}{w:Jm}{A:JA}{E:Ih->Im->Prop}{s:Im}
theorem Gc (h1:EO s.heap q1 xs b1) (h2:EO s.heap q2 ys b2)
  (fin:∀ g,QP g (s.heap.objs.size+4) (s.heap.objs.size+2) (s.heap.objs.size+3) .none->Ol g (s.heap.objs.size+2) (.ref s.heap.objs.size) (.ref (s.heap.objs.size+1)) ->
   Ol g (s.heap.objs.size+3) .none .none->g.get? s.heap.objs.size=some (itO q1 b1)->g.get? (s.heap.objs.size+1)=some (itO q2 b2)->(∀ c o,s.heap.get? c=some o->g.get? c=some o)->Q (.ref (s.heap.objs.size+4)) { s with heap:=g }) :
  IB (IT prog w) A (call (.type "zip") [.ref q1,.ref q2]) Q E s:=by
 refine callType_new F.called_zip (by decide) (F.typeCall_zip_2 _ _) (F.newCall_zip_2 _ _) (λobj=>F.args_object_init_3 obj _ _) F.entry_zip_new (GG q1 q2 xs ys b1 b2) ⟨h1,h2,?_⟩;have n1:(zA s.heap q1 b1).objs.size=s.heap.objs.size+1:=Jt ..;have n2:(zB s.heap q1 q2 b1 b2).objs.size=s.heap.objs.size+2:=by rw[Jt,n1]
 have n3:(zC s.heap q1 q2 b1 b2).objs.size=s.heap.objs.size+3:=by rw[Jt,n2]
 have n4:(zD s.heap q1 q2 b1 b2).objs.size=s.heap.objs.size+4:=by rw[Jt,n3]
 have fr:∀ b q,(itO q b).isFreed=false:=λb q=>by cases b<;>rfl
 have m5:(zE s.heap q1 q2 b1 b2).get? (zD s.heap q1 q2 b1 b2).objs.size=some _:=Io _ rfl;have m4:(zE s.heap q1 q2 b1 b2).get? (zC s.heap q1 q2 b1 b2).objs.size=some _:=Ic _ (Io _ rfl);have m3:(zE s.heap q1 q2 b1 b2).get? (zB s.heap q1 q2 b1 b2).objs.size=some _:=Ic _ (Ic _ (Io _ rfl));have m2:(zE s.heap q1 q2 b1 b2).get? (zA s.heap q1 b1).objs.size=some (itO q2 b2):=Ic _ (Ic _ (Ic _ (Io _ (fr _ _))));have m1:(zE s.heap q1 q2 b1 b2).get? s.heap.objs.size=some (itO q1 b1):=Ic _ (Ic _ (Ic _ (Ic _ (Io _ (fr _ _)))));show _/\_;rw[n2,n3,n4] at m5;rw[n1,n2] at m3;rw[n3] at m4;rw[n1] at m2;rw[n4];exact⟨⟨_,m5,rfl⟩,fin _ m5 m3 m4 m1 m2 λc o x=>Ic _ (Ic _ (Ic _ (Ic _ (Ic _ x))))⟩
end
section
variable {X:Cx}{tg:KI}
theorem uW (I:Inv X pins σ H s):∀ {b:Bool},SqB X.K H q xs b->∃ its:List Ih,bD xs its/\EO s.heap q its.toArray b
 |true,h=>by
  obtain⟨its,rv,p,_⟩:=I.list h;exact⟨its,rv,p.isList⟩
 |false,h=>by
  obtain⟨its,rv,p,_⟩:=I.tuple h;exact⟨its,rv,p⟩
def GV (K:Ia)(ta:TA):TI:=λσ H R=>ta σ H λvs H1=>∃ q1 q2 b1 b2,vs=[.ref q1,.ref q2]/\(∃ xs,SqB K H1 q1 xs b1)/\(∃ ys,SqB K H1 q2 ys b2)/\R (Itz K b1 b2 q1 q2) H1
theorem FC {tk:Nat} (hg:Gl X "zip") (hm:X.mg "zip"=none) (ha:PA X [a,b] ta) (hs:IR [a,b] X.env=[(false,L6 a X.env),(false,L6 b X.env)]:=by rfl) (hs2:IR [b] X.env=[(false,L6 b X.env)]:=by rfl) :
  PI X (.Tuple elts tk tpos) (.Call (.Name "zip" p) [a,b] [] pos) (GV X.K ta):=by
 intro pins s σ H R I h;refine Call_ (ki I hg hm Fy (Kc (thn (ha pos pins s σ H _ I h) λus s1 ⟨vs,H1,I1,r1,q1⟩=>?_) (by rw[hs,hs2]) (by rw[hs2];rfl)));obtain⟨qa,qb,b1,b2,rfl,⟨xs,hx⟩,⟨ys,hy⟩,q⟩:=q1;obtain⟨u,v,rfl,ru,rv⟩:=q_ r1;cases ru;cases rv;obtain⟨its,_,sa⟩:=uW I1 hx;obtain⟨jts,_,sb⟩:=uW I1 hy;refine Gc sa sb λg z5 z3 z4 z1 z2 kk=>?_
 refine wpAny_pyIter_zip z5 ?_;have io:∀ {j q:Iv}{b:Bool},g.get? j=some (itO q b)->ItB g j q 0 b:=λ{j q b} e=>by cases b<;>exact⟨_,e,rfl,rfl⟩
 refine⟨s1.heap.objs.size+4,[s1.heap.objs.size+4,s1.heap.objs.size+2,s1.heap.objs.size+3,s1.heap.objs.size,s1.heap.objs.size+1],_,_,H1,rfl,I1.kept (t':=s1.toks) kk,
  BK (z:=s1.heap.objs.size+4) (ti:=s1.heap.objs.size+2) (to:=s1.heap.objs.size+3) (j1:=s1.heap.objs.size) (j2:=s1.heap.objs.size+1) ⟨neN (by omega),neN (by omega),neN (by omega),neN (by omega),neN (by omega),neN (by omega),neN (by omega),neN (by omega),neN (by omega),neN (by omega)⟩,⟨z5,z3,⟨_,_,z4⟩,io z1,io z2⟩,λb hb=>?_,q⟩
 have le:s1.heap.objs.size<=b:=by
  simp only[Iy,IW,KS] at hb;rcases hb with e|e|e|e|e<;>(rw[e];omega)
 exact I1.fpOk le (I1.hok.fresh le)
def Itq (K:Ia)(a:Iv):Bool->It
 |true=>Itl K a
 |false=>Itt K a
def FZ (K:Ia)(tl:TE):TI:=λσ H R=>tl σ H λx H1=>∃ a b,x=.ref a/\(∃ xs,SqB K H1 a xs b)/\R (Itq K a b) H1
theorem Fg (hl:PE X l tl):PI X tg l (FZ X.K tl):=by
 intro pins s σ H R I h;refine thn (hl pins s σ H _ I h) λv s1 ⟨x,H1,I1,r1,q1⟩=>?_
 obtain⟨a,b,e,⟨xs,hq⟩,q⟩:=q1;subst e;cases r1;obtain⟨its,rv,sr⟩:=uW I1 hq;have fp:∀ c∈[s1.heap.objs.size],ww X pins H1 c:=λc hc=>by
  cases Ii.mp hc;exact I1.fpOk (Il _) (I1.hok.fresh (Il _))
 cases b with
 |true=>exact KO sr ⟨s1.heap.objs.size,[s1.heap.objs.size],_,_,H1,rfl,I1.kept (t':=s1.toks) λb o e=>Ic _ e,zW a _,⟨_,Io _ rfl,rfl,rfl⟩,fp,q⟩
 |false=>exact Lu sr ⟨s1.heap.objs.size,[s1.heap.objs.size],_,_,H1,rfl,I1.kept (t':=s1.toks) λb o e=>Ic _ e,xD a _,⟨_,Io _ rfl,rfl,rfl⟩,fp,q⟩
end
theorem sH (K:Ia)(a:String):∀ bs:List String,O9 K (.type a) (bs.map Kr)=rh a bs
 |[]=>rfl
 |b::r=>by
  show(match ML K (.type a) (.type b) with|some true=>some true|some false=>O9 K (.type a) (r.map Kr)|none=>none)=_;rw[vx,sH K a r];rfl
section
variable {X:Cx}
def E7 (K:Ia):List V->Hp->VK->Prop:=λxs H Q=>∃ x T p S1 S2 b,xs=[x,.ref p]/\Ty K H x T/\H p=some (.tup [.ty S1,.ty S2])/\rh T [S1,S2]=some b/\Q (.bl b) H
theorem Ho (I:Inv X pins σ H s) (rx:c9 x u) (ty:uL X.K H x t) {nn:Nat} (ht:s.heap.get? tp=some ⟨.type "tuple",dd,.seq its.toArray nn,sl⟩) (e':O9 X.K t its=some b) (h:∀ tk,Q (.bool b) { s with toks:=tk }) :
  IB (IT X.prog X.w) A (call (.builtin "isinstance") [u,.ref tp]) Q E s:=by
 obtain⟨Z,a,b,c⟩:=Cz I rx ty;exact PySem.W.kia_tup a I.kIn b ht e' c h
theorem zF:eN X (.builtin "isinstance") (E7 X.K):=by
 intro pins s σ H xs us Q I r h;obtain⟨x,T,p,S1,S2,b,rfl,ty,hp,e,q⟩:=h;obtain⟨u,v,rfl,rx,rv⟩:=q_ r;cases(show v=IX p from rv);obtain⟨_,its,rr,⟨cl,dd,dt,sl⟩,h1,h2,n,h3⟩:=I.hok p _ hp;obtain⟨u1,u2,rfl,w1,w2⟩:=q_ rr;cases(show u1=Kr S1 from w1);cases(show u2=Kr S2 from w2);simp only at h2 h3;subst h2 h3;exact Ho I rx ty h1 ((sH X.K T [S1,S2]).trans e) λtk=>⟨.bl b,H,I.tok tk,rfl,q⟩
end
theorem yc (bs:List Bool):(Ko bs.length).all (λi=>(bs[i]?).getD true)=bs.all id:=by
 rw[Bool.eq_iff_iff,Kh,Kh];constructor
 ·intro h b hb;obtain⟨i,hi,rfl⟩:=J4 hb;have:=h i (KJ.mpr hi)
  simpa [hi] using this
 ·intro h i hi;have hi:=KJ.mp hi
  simpa [hi] using h bs[i] (KE hi)
section
variable {X:Cx}
theorem AE (hc:X.calm=true):eN X (.builtin "all") (λxs H Q=>∃ (p:Iv) (bs:List Bool),xs=[.ref p]/\SqL X.K H p (bs.map V.bl)/\Q (.bl (bs.all id)) H):=by
 intro pins s σ H xs us Q I r h;obtain⟨p,bs,rfl,hp,q⟩:=h;obtain⟨u,rfl,ru⟩:=mY r;cases ru;obtain⟨its,rv,pl,hz⟩:=I.list hp;have hl:=rv.length;rw[Ij] at hl;have lt:p<s.heap.objs.size:=by
  obtain⟨o,e,_⟩:=pl.isList;exact Ip e
 refine call_all_walk (KO pl.isList ?_);refine⟨s.heap.objs.size,_,_,_,_,_,λi=>(bs[i]?).getD true,rfl,Walks.list (A:=X.A.in1) (show X.A.in1.handled=none from I.ok.hd hc) _ p (IK lt) its.toArray,⟨⟨_,Io _ rfl,rfl,rfl⟩,pl.isList.push _⟩,λi v s' Q' E' hv hq=>?_,λh' tk kk=>?_⟩
 ·have hi:i<bs.length:=by
   have:=(Array.getElem?_eq_some_iff.mp hv).1;rw[IE] at this;omega
  obtain⟨w,ew,rw'⟩:=rv.get (i:=i) (x:=.bl bs[i]) (by simp[hi]);have:its[i]?=some v:=by simpa using hv
  rw[ew] at this;have e2:v=M3 bs[i]:=(Ie this).symm.trans rw';rw[e2];refine Ku ?_;have e:(bs[i]?).getD true=bs[i]:=by simp[hi]
  exact e▸hq
 ·have I1:Inv X pins σ H { s with heap:=h',toks:=tk }:=I.kept λb o e=>kk b o (by simp;exact IK (Ip e)) (Ic _ e)
  refine⟨.bl _,H,I1,?_,q⟩;show M3 _=M3 _;rw[<- yc,IE,<- hl]
end
section
variable {X:Cx}{pos:Pos}
def G8 (K:Ia)(n:Nat)(t:TGs):TG:=λv σ H Q=>∃ a xs,v=.ref a/\(SqL K H a xs\/SqT K H a xs)/\xs.length=n/\t xs σ H Q
theorem EQ {k:Nat}{n:Nat} (hc:X.calm=true) (h:PGs X es t)
  (hn:(KZ es X.env).length=n:=by rfl)(hst:(KZ es X.env).findIdx? (·.1)=none:=by rfl):PG X (.Tuple es k pos) (G8 X.K n t):=by
 intro pins s σ H v u Q I r hw;obtain⟨a,xs,e1,hq,hl,hw⟩:=hw;subst e1;cases r;rcases hq with hq|hq
 ·obtain⟨its,rv,pl,hz⟩:=I.list hq;rw[assign_Tuple];refine Ib (K4 ?_);unfold unpack;have hs:(KZ es X.env).length=its.toArray.size:=by rw[hn,<- hl,rv.length,IE]
  rw[hs,hst];refine Ib (JZ (PySem.W.kun_itemsOf (I.ok.hd hc) pl.isList λh' hx=>?_));have I1:Inv X pins σ H { s with heap:=h' }:=I.kept (t':=s.toks) λb o e=>hx b o (IK (Ip e)) e
  exact h pins _ σ H xs _ Q I1 (by simpa using rv) hw
 ·obtain⟨its,rv,ht,hz⟩:=I.tuple hq;refine assign_Tuple_tuple (I.ok.hd hc) ht (by simp[hn,<- hl,rv.length]) hst λh' hx=>?_
  have I1:Inv X pins σ H { s with heap:=h' }:=I.kept (t':=s.toks) λb o e=>hx b o (IK (Ip e)) e
  exact h pins _ σ H xs _ Q I1 (by simpa using rv) hw
end
abbrev rD (q:Rat):IV:=shD q.num (q.den:Int)
theorem iW (q:Rat):q=(q.num:Rat)/((q.den:Int):Rat):=by rw[<- Rat.divInt_eq_div,Rat.num_divInt_den]
theorem yM {t b:Int}(hb:b≠0):Low t b ((t:Rat)/(b:Rat)).num (((t:Rat)/(b:Rat)).den:Int):=by
 have hq:=iW ((t:Rat)/(b:Rat));have hd:0<((t:Rat)/(b:Rat)).den:=((t:Rat)/(b:Rat)).den_pos;have hr:=((t:Rat)/(b:Rat)).reduced;generalize hz:(t:Rat)/(b:Rat)=q at *;refine⟨by omega,hr,?_⟩;have hb':(b:Rat)≠0:=by
  intro z;exact hb (by exact_mod_cast z)
 have hd':((q.den:Int):Rat)≠0:=by
  intro z;have:q.den=0:=by exact_mod_cast z
  omega
 have:(q.num:Rat)*(b:Rat)=(t:Rat)*((q.den:Int):Rat):=by
  generalize (q.num:Rat)=x at *;generalize ((q.den:Int):Rat)=y at *;generalize (b:Rat)=b' at *;generalize (t:Rat)=t' at *;have e:t'/b'=x/y:=hz.trans hq;grind
 exact_mod_cast this
theorem Dh {t b n d:Int}(hb:b≠0)(h:Low t b n d):n=((t:Rat)/(b:Rat)).num/\d=(((t:Rat)/(b:Rat)).den:Int):=kZ hb h (yM hb)
abbrev Bq (k:Nat)(q:Rat):Prop:=Ok k q.num (q.den:Int)
theorem l0 {k:Nat}{t b:Int}(hb:b≠0)(ht:Sm k t)(sb:Sm k b):Bq k ((t:Rat)/(b:Rat)):=(yM hb).ok hb ht sb
theorem jS (q:Rat):((q.den:Int):Rat)≠0:=by
 intro z;have:q.den=0:=by exact_mod_cast z
 have:=q.den_pos;omega
theorem yp (p q:Rat):p+q=((p.num*(q.den:Int)+q.num*(p.den:Int):Int):Rat)/(((p.den:Int)*(q.den:Int):Int):Rat):=by
 have h1:=jS p;have h2:=jS q;have e1:=iW p;have e2:=iW q;rw[Ni,IP,IP,IP];grind
theorem xY (p q:Rat):p*q=((p.num*q.num:Int):Rat)/(((p.den:Int)*(q.den:Int):Int):Rat):=by
 have h1:=jS p;have h2:=jS q;have e1:=iW p;have e2:=iW q;rw[IP,IP];grind
theorem wA (p q:Rat):(p.den:Int)*(q.den:Int)≠0:=by
 have:=p.den_pos;have:=q.den_pos;exact Jf (by omega) (by omega)
theorem Bq.add {j k:Nat}{p q:Rat}(hp:Bq j p)(hq:Bq k q):Bq (j+k+1) (p+q):=by
 rw[Bq,yp];refine l0 (wA p q) (Sm.add (hp.sn.mul hq.sd) ((hq.sn.mul hp.sd).mono (by omega))) ((hp.sd.mul hq.sd).mono (by omega))
theorem Bq.mul {j k:Nat}{p q:Rat}(hp:Bq j p)(hq:Bq k q):Bq (j+k) (p*q):=by
 rw[Bq,xY];exact l0 (wA p q) (hp.sn.mul hq.sn) (hp.sd.mul hq.sd)
theorem bq0:Bq 1 0:=⟨by decide,by decide,by unfold Sm;decide,by unfold Sm;decide⟩
def ShQ (K:Ia)(H:Hp)(q:Rat)(Q:VK):Prop:=∀ v H',aj H H'->IsD K H' (rD q) v->Q v H'
theorem ShQ.sh {K:Ia}{H:Hp}{t b:Int}{Q:VK}(hb:b≠0)(h:ShQ K H ((t:Rat)/(b:Rat)) Q):Sh K H t b Q:=λv n d H' s hv lw=>by
 obtain⟨e1,e2⟩:=Dh hb lw;subst e1 e2;exact h v H' s hv
theorem ShQ.add {K:Ia}{H:Hp}{p q:Rat}{Q:VK}(h:ShQ K H (p+q) Q):Sh K H (p.num*(q.den:Int)+q.num*(p.den:Int)) ((p.den:Int)*(q.den:Int)) Q:=by
 rw[yp] at h;exact ShQ.sh (wA p q) h
theorem ShQ.mul {K:Ia}{H:Hp}{p q:Rat}{Q:VK}(h:ShQ K H (p*q) Q):Sh K H (p.num*q.num) ((p.den:Int)*(q.den:Int)) Q:=by
 rw[xY] at h;exact ShQ.sh (wA p q) h
theorem EB (p q:Rat):ME (rD p) (rD q)=decide (p=q):=by
 rw[Cy]
 by_cases h:p=q
 ·subst h;simp
 ·rw[Jd h]
  by_cases h1:p.num=q.num
  ·by_cases h2:(p.den:Int)=(q.den:Int)
   ·exact absurd (Rat.ext h1 (by omega)) h
   ·rw[Jd h2,O6]
  ·rw[Jd h1,LM]
theorem cH {i:Int}(hg:Gl X x)(hm:∃ t,X.mg x=some (.int i t))(hd:(x==("__debug__":Str))=false:=by decide):WE X (.Name x pos) (tC (.int i)):=by
 refine⟨?_⟩;obtain⟨t,e⟩:=hm;exact C5 hg e ⟨t,rfl⟩ hd
theorem aD.get {K:Ia}{H:Hp}:∀ {ds:List IV}{xs:List V}{i:Nat}{x:V},aD K H ds xs->xs[i]?=some x->∃ d,ds[i]?=some d/\IsD K H d x
 |_,_,_,_,.nil,e=>by simp at e
 |_,_,0,_,.cons h _,e=>by simp at e;subst e;exact⟨_,rfl,h⟩
 |_,_,i+1,x,.cons _ q,e=>by
  obtain⟨d,h1,h2⟩:=aD.get (i:=i) (x:=x) q (by simpa using e);exact⟨d,by simpa using h1,h2⟩
theorem aD.snoc {K:Ia}{H:Hp}{d:IV}{x:V}:∀ {ds:List IV}{xs:List V},aD K H ds xs->IsD K H d x->aD K H (ds++[d]) (xs++[x])
 |_,_,.nil,h=>.cons h .nil
 |_,_,.cons a q,h=>.cons a (aD.snoc q h)
theorem SqB.same {K:Ia}{H H':Hp}{a:Iv}{xs:List V}(e:aj H H'):∀ {b:Bool},SqB K H a xs b->SqB K H' a xs b
 |true,h=>e.seq h
 |false,h=>vL e h
theorem cI {n:Nat}(h:n<=1000):n<=II:=Kj (bg h)
theorem b9 {α:Type}{l:List α}{i:Nat}{x:α}(h:l[i]?=some x):l.take (i+1)=l.take i++[x]:=by
 rw[List.take_succ,h];rfl
section
variable {K:Ia}{g:TG}{tt:TT}{te:TE}{σ0:L2.St}{Fin:List V->Hp->Prop}{H1:Hp}
def nJ (g:TG)(tt:TT)(te:TE)(σ0:L2.St)(x:V)(H:Hp)(post:V->Hp->Prop):Prop:=∀ R:VK,(∀ y H',post y H'->R y H')->∀ S:Hp->Prop,g x σ0 H λσ' H4=>tt σ' H4 λb H5=>if b=true then te σ' H5 R else S H5
theorem jX {a:Iv}{b:Bool}{xs:List V}{ds:List IV}{f:IV->IV} (hsrc:SqB K H1 a xs b) (hds:aD K H1 ds xs) (hl:ds.length <= 1000)
  (he:∀ (i:Nat) (d:IV) (x:V) (H:Hp),ds[i]?=some d->aj H1 H->IsD K H d x->nJ g tt te σ0 x H λy H'=>aj H H'/\IsD K H' (f d) y)
  (hd:∀ ys H,aj H1 H->aD K H (ds.map f) ys->Fin ys H):iA (Itq K a b) g tt te σ0 Fin H1:=by
 have hlen:=hds.length;refine⟨λi m ys H=>m=xs.length-i/\i<=xs.length/\aj H1 H/\aD K H ((ds.take i).map f) ys,⟨xs.length,by omega,Jj _,aj.refl _,.nil⟩,?_⟩;rintro i m ys H ⟨rfl,hi,s,hys⟩;have hyl:=hys.length;rw[Ij,IZ] at hyl
 by_cases hlt:i<xs.length
 ·have go:(Itq K a b).go i H:=by
   have q:=SqB.same s hsrc;cases b with
   |true=>exact⟨xs,xs[i],q,by simp[hlt]⟩
   |false=>exact⟨xs,xs[i],q,by simp[hlt]⟩
  refine .inr ⟨go,bg (by omega),λx H3 y3=>?_⟩;have e3:H3=H/\xs[i]?=some x:=by
   have q:=SqB.same s hsrc;cases b with
   |true=>exact⟨y3.1,y3.2 xs q⟩
   |false=>exact⟨y3.1,y3.2 xs q⟩
  obtain⟨rfl,hx⟩:=e3;obtain⟨d,hdd,hdx⟩:=hds.get hx;refine he i d x _ hdd s (IsD.same s hdx) _ (λy H' ⟨s',hy⟩=>⟨xs.length-(i+1),by omega,rfl,hlt,s.trans s',?_⟩) λH5=>∃ m',m'<xs.length-i/\(m'=xs.length-(i+1)/\i+1<=xs.length/\aj H1 H5/\aD K H5 ((ds.take (i+1)).map f) ys)
  rw[b9 hdd,JM];exact(aD.same s' hys).snoc hy
 ·have e:i=xs.length:=by omega
  subst e;have stop:(Itq K a b).stop xs.length H:=by
   have q:=SqB.same s hsrc;cases b with
   |true=>exact⟨xs,q,Il _⟩
   |false=>exact⟨xs,q,Il _⟩
  rw[Jc (by omega)] at hys;exact .inl ⟨stop,cI (by omega),hd ys H s hys⟩
theorem kX {lo:Int}{n:Nat} (Pv:Nat->List V->Hp->Prop) (h0:Pv 0 [] H1) (hl:n <= 1000) (hy:∀ i ys H,i <= n->Pv i ys H->ys.length <= i)
  (he:∀ i ys H,i<n->Pv i ys H->nJ g tt te σ0 (.int (lo+i)) H λy H'=>Pv (i+1) (ys++[y]) H')(hd:∀ ys H,Pv n ys H->Fin ys H):iA (Itr lo n) g tt te σ0 Fin H1:=by
 refine⟨λi m ys H=>m=n-i/\i<=n/\Pv i ys H,⟨n,by omega,Jj _,h0⟩,?_⟩;rintro i m ys H ⟨rfl,hi,p⟩;have hyl:=hy i ys H hi p
 by_cases hlt:i<n
 ·refine .inr ⟨hlt,bg (by omega),λx H3 y3=>?_⟩;obtain⟨rfl,rfl⟩:=y3;exact he i ys _ hlt p _ (λy H' p'=>⟨n-(i+1),by omega,rfl,hlt,p'⟩) λH5=>∃ m',m'<n-i/\(m'=n-(i+1)/\i+1<=n/\Pv (i+1) ys H5)
 ·have e:i=n:=by omega
  subst e;exact .inl ⟨Il _,cI (by omega),hd ys H p⟩
theorem eU:∀ {bs:List Bool}{ys:List V},aD K H (bs.map LZ) ys->ys=bs.map V.bl
 |[],_,.nil=>rfl
 |b::bs,_,.cons (.bl _) q=>by rw[eU q];rfl
end
def Ed (b:Bool)(ds:List IV):IV:=if b=true then .list ds else .tuple ds
structure R3 where
 a:Int
 b:Int
 c:Int
def R3.ds (r:R3):List IV:=[.int r.a,.int r.b,.int r.c]
def R3.vs (r:R3):List V:=[.int r.a,.int r.b,.int r.c]
def gE (k:Bool)(r:R3):IV:=Ed k r.ds
structure R3.In (r:R3)(m:Int):Prop where
 a1:-m<=r.a
 a2:r.a<=m
 b1:-m<=r.b
 b2:r.b<=m
 c1:-m<=r.c
 c2:r.c<=m
structure S9 where
 k:Bool
 k1:Bool
 k2:Bool
 k3:Bool
 x:R3
 y:R3
 z:R3
def S9.rows (s:S9):List IV:=[gE s.k1 s.x,gE s.k2 s.y,gE s.k3 s.z]
def S9.d (s:S9):IV:=Ed s.k s.rows
structure S9.In (s:S9):Prop where
 x:s.x.In 4000
 y:s.y.In 4000
 z:s.z.In 4000
theorem aH {K:Ia}{H:Hp}{b:Bool}{ds:List IV}{v:V}(h:IsD K H (Ed b ds) v):∃ a xs,v=.ref a/\SqB K H a xs b/\aD K H ds xs:=by
 cases b with
 |true=>
  cases h with
  |lst h q=>exact⟨_,_,rfl,.inl h,q⟩
 |false=>
  cases h with
  |tup h q=>exact⟨_,_,rfl,SqT.of h,q⟩
theorem gC {K:Ia}{H:Hp}{r:R3}{xs:List V}(h:aD K H r.ds xs):xs=r.vs:=by
 cases h with
 |cons h1 h=>
  cases h1;cases h with
  |cons h2 h=>
   cases h2;cases h with
   |cons h3 h=>
    cases h3;cases h;rfl
theorem kD {K:Ia}{H:Hp}{b:Bool}{r:R3}{v:V}(h:IsD K H (gE b r) v):∃ a,v=.ref a/\SqB K H a r.vs b:=by
 obtain⟨a,xs,rfl,hq,hd⟩:=aH h;cases gC hd;exact⟨a,rfl,hq⟩
theorem ff {K:Ia}{H:Hp}{d1 d2 d3:IV}{xs:List V}(h:aD K H [d1,d2,d3] xs):∃ x y z,xs=[x,y,z]/\IsD K H d1 x/\IsD K H d2 y/\IsD K H d3 z:=by
 cases h with
 |cons h1 h=>
  cases h with
  |cons h2 h=>
   cases h with
   |cons h3 h=>
    cases h;exact⟨_,_,_,rfl,h1,h2,h3⟩
theorem ixB {K:Ia}{H:Hp}{Q:VK}{a:Iv}{xs:List V}{b:Bool}{i:Nat}{v:V}(h:SqB K H a xs b)(e:xs[i]?=some v)(q:Q v H):rIx K (.ref a) (.int (i:Int)) H Q:=by
 cases b with
 |true=>exact .inl ⟨a,xs,_,v,rfl,rfl,h,m9 e,q⟩
 |false=>exact .inr (.inl ⟨a,xs,_,v,rfl,rfl,h,m9 e,q⟩)
theorem nO {K:Ia}{H:Hp}{a:Iv}{xs:List V}{b:Bool}(h:SqB K H a xs b):SqL K H a xs\/SqT K H a xs:=by
 cases b with
 |true=>exact .inl h
 |false=>exact .inr h
theorem Cf {K:Ia}{H:Hp}{b:Bool}{ds:List IV}{v:V}(h:IsD K H (Ed b ds) v):∃ T,Ty K H v T/\rh T ["list","tuple"]=some true:=by
 cases b with
 |true=>exact⟨"list",h.ty,by decide +kernel⟩
 |false=>exact⟨"tuple",h.ty,by decide +kernel⟩
def G1 (p q r:Rat):IV:=.tuple [rD p,rD q,rD r]
theorem GJ {x:Int}(h1:-4000<=x)(h2:x<=4000):Sm 13 x:=by unfold Sm;omega
def S9.det (s:S9):Int:=s.x.a*(s.y.b*s.z.c-s.y.c*s.z.b)-s.x.b*(s.y.a*s.z.c-s.y.c*s.z.a)+s.x.c*(s.y.a*s.z.b-s.y.b*s.z.a)
def cut (T:List Iv)(H:Hp):Hp:=λb=>if b∈T then none else H b
theorem fW:aj (cut T H) H:=λb o e=>by
 unfold cut at e
 split at e
 ·cases e
 ·exact e
theorem fh (h:b∉T):cut T H b=H b:=IY h
theorem Mv.cut (h:Mv T H H'):aj (cut T H) (cut T H'):=λb o e=>by
 unfold TR.cut at e ⊢
 split at e
 ·cases e
 ·rename_i n
  rw[IY n];exact h b o e n
theorem aj.cut (h:aj H H'):aj (TR.cut T H) (TR.cut T H'):=(Mv.of h).cut
theorem c_.not (h:c_ H t r)(hp:H p=none):p∉[t,r]:=λm=>by
 obtain⟨xs,e⟩:=h.lists p m;rw[hp] at e;cases e
theorem IsD.uncut {K:Ia}{T:List Iv}{H:Hp}{d:IV}{v:V}(h:IsD K (cut T H) d v):IsD K H d v:=IsD.same fW h
mutual
theorem IsD.cutT {K:Ia}{T:List Iv}{H:Hp}(l:cD H T):∀ {d:IV}{v:V},At d=true->IsD K H d v->IsD K (cut T H) d v
 |_,_,_,.non=>.non
 |_,_,_,.bl b=>.bl b
 |_,_,_,.int i=>.int i
 |_,_,_,.str x=>.str x
 |_,_,t,.lst _ _=>by simp[At] at t
 |_,_,t,.tup h q=>.tup (by rw[fh (l.not h λ_ z=>nomatch z)];exact h) (aD.cutT l (by simpa [At] using t) q)
 |_,_,t,.dct _=>by simp[At] at t
theorem aD.cutT {K:Ia}{T:List Iv}{H:Hp}(l:cD H T):∀ {ds:List IV}{vs:List V},jN ds=true->aD K H ds vs->aD K (cut T H) ds vs
 |_,_,_,.nil=>.nil
 |_,_,t,.cons h q=>by
  simp only[jN,Ju] at t;exact .cons (IsD.cutT l t.1 h) (aD.cutT l t.2 q)
end
theorem fR {K:Ia}{t r D:Iv}{H:Hp}{ds:List IV}{ys:List V}(tw:c_ H t r)(hD:H D=none)(h:aD K (cut [t,r] H) ds ys):IsD K (cut [t,r] (upd H D (.lst ys))) (.list ds) (.ref D):=by
 refine .lst (.inl ?_) (aD.same (aj.cut (aj.new hD)) h);rw[fh (tw.not hD)];exact ac
theorem IsD.listN {K:Ia}{D:Iv}{H:Hp}{ds:List IV}{ys:List V}(hD:H D=none)(h:aD K H ds ys):IsD K (upd H D (.lst ys)) (.list ds) (.ref D):=.lst (.inl ac) (aD.same (aj.new hD) h)
theorem IsD.tupN {K:Ia}{D:Iv}{H:Hp}{ds:List IV}{ys:List V}(hD:H D=none)(h:aD K H ds ys):IsD K (upd H D (.tup ys)) (.tuple ds) (.ref D):=.tup ac (aD.same (aj.new hD) h)
abbrev GS (J:It)(g:TG)(tb:TS)(D:Av)(σ:L2.St)(H:Hp):Prop:=∃ W:Nat->Nat->L2.St->Hp->Prop,(∃ m,W 0 m σ H)/\∀ i m σ H,W i m σ H ->
 (J.stop i H/\D.nx σ H)\/(J.go i H/\∃ N:L2.St->Hp->Prop,(∀ σ' H',N σ' H'->∃ m',m'<m/\W (i+1) m' σ' H')/\∀ x H',J.yld i H x H'->g x σ H' λσ2 H2=>tb { D with nx:=N,ct:=N,bk:=D.nx } σ2 H2)
theorem kU {K:Ia}{a:Iv}{b:Bool}{xs:List V}{g:TG}{tb:TS}{D:Av}{σ:L2.St}{H:Hp} (Pv:Nat->L2.St->Hp->Prop) (h0:Pv 0 σ H) (hl:∀ i σ H,i <= xs.length->Pv i σ H->SqB K H a xs b)
  (hs:∀ i x σ H,xs[i]?=some x->Pv i σ H->g x σ H λσ2 H2=>tb { D with nx:=Pv (i+1),ct:=Pv (i+1),bk:=D.nx } σ2 H2)(hd:∀ σ H,Pv xs.length σ H->D.nx σ H):GS (Itq K a b) g tb D σ H:=by
 cases b with
 |true=>exact A' Pv h0 hl hs hd
 |false=>exact D5 Pv h0 hl hs hd
theorem DN {K:Ia}{a1 a2:Iv}{b1 b2:Bool}{xs ys:List V}{g:TG}{tb:TS}{D:Av}{σ:L2.St}{H:Hp} (Pv:Nat->L2.St->Hp->Prop) (h0:Pv 0 σ H) (hle:xs.length=ys.length) (hl:∀ i σ H,i <= xs.length->Pv i σ H->SqB K H a1 xs b1/\SqB K H a2 ys b2)
  (hs:∀ i x y T σ H,xs[i]?=some x->ys[i]?=some y->Pv i σ H->H T=none->g (.ref T) σ (upd H T (.tup [x,y])) λσ2 H2=>tb { D with nx:=Pv (i+1),ct:=Pv (i+1),bk:=D.nx } σ2 H2)(hd:∀ σ H,Pv xs.length σ H->D.nx σ H):GS (Itz K b1 b2 a1 a2) g tb D σ H:=by
 refine⟨λi m σ H=>m=xs.length-i/\i<=xs.length/\Pv i σ H,⟨xs.length,by simp,Jj _,h0⟩,?_⟩;rintro i m σ H ⟨rfl,hi,p⟩;obtain⟨q1,q2⟩:=hl i σ H hi p
 by_cases hlt:i<xs.length
 ·have hlt2:i<ys.length:=by omega
  refine .inr ⟨⟨xs,ys,xs[i],ys[i],q1,q2,by simp[hlt],by simp[hlt2]⟩,Pv (i+1),λσ' H' p'=>⟨xs.length-(i+1),by omega,rfl,hlt,p'⟩,λv H' y=>?_⟩;obtain⟨x,y,T,k1,k2,kT,rfl,rfl⟩:=y;exact hs i x y T σ _ (k1 xs q1) (k2 ys q2) p kT
 ·have e:i=xs.length:=by omega
  subst e;exact .inl ⟨⟨xs,ys,q1,q2,.inl (Il _)⟩,hd σ H p⟩
section
variable {K:Ia}{g:TG}{tt:TT}{te:TE}{σ0:L2.St}{Fin:List V->Hp->Prop}{H1:Hp}
theorem c5 {lo:Int}{n:Nat} (hn:ds.length=n) (hl:n <= 1000)
  (he:∀ (i:Nat) (d:IV) (H:Hp),ds[i]?=some d->aj H1 H->nJ g tt te σ0 (.int (lo+i)) H λy H'=>aj H H'/\IsD K H' d y)(hd:∀ ys H,aj H1 H->aD K H ds ys->Fin ys H):iA (Itr lo n) g tt te σ0 Fin H1:=by
 refine kX (λi ys H=>aj H1 H/\aD K H (ds.take i) ys) ⟨aj.refl _,.nil⟩ hl (λi ys H hi p=>?_) (λi ys H hi p=>?_) (λys H p=>?_)
 ·rw[<- p.2.length,IZ];omega
 ·obtain⟨s,q⟩:=p;have e:ds[i]?=some ds[i]:=by simp[show i<ds.length by omega]
  intro R kk S;refine he i ds[i] H e s R (λy H' ⟨s',hy⟩=>kk _ _ ⟨s.trans s',?_⟩) S;rw[b9 e];exact(aD.same s' q).snoc hy
 ·obtain⟨s,q⟩:=p;rw[Jc (by omega)] at q;exact hd ys H s q
theorem c8 {lo:Int}{t r:Iv}{n:Nat}{Pd:IV->Prop} (tw:c_ H1 t r) (hl:n <= 1000)
  (he:∀ (i:Nat) (H:Hp),i<n->c_ H t r->Mv [t,r] H1 H->nJ g tt te σ0 (.int (lo+i)) H λy H'=>c_ H' t r/\Mv [t,r] H H'/\∃ d,Pd d/\IsD K (cut [t,r] H') d y)
  (hd:∀ ds ys H,ds.length=n->(∀ d∈ds,Pd d)->c_ H t r->Mv [t,r] H1 H->aD K (cut [t,r] H) ds ys->Fin ys H):iA (Itr lo n) g tt te σ0 Fin H1:=by
 refine kX (λi ys H=>c_ H t r/\Mv [t,r] H1 H/\∃ ds:List IV,ds.length=i/\(∀ d∈ds,Pd d)/\aD K (cut [t,r] H) ds ys) ⟨tw,Mv.refl,[],rfl,λ_ h=>(IW h).elim,.nil⟩ hl (λi ys H hi p=>?_) (λi ys H hi p=>?_) (λys H p=>?_)
 ·obtain⟨_,_,ds,e,_,q⟩:=p;rw[<- q.length];omega
 ·obtain⟨tw',mv,ds,e,hP,q⟩:=p;intro R kk S;refine he i H hi tw' mv R (λy H' ⟨tw2,mv2,d,hd,hy⟩=>kk _ _ ⟨tw2,mv.trans mv2,ds++[d],by rw[IL,e];rfl,λd' m=>?_,(aD.same mv2.cut q).snoc hy⟩) S;rcases Jb.mp m with m|m
  ·exact hP d' m
  ·cases Ii.mp m;exact hd
 ·obtain⟨tw',mv,ds,e,hP,q⟩:=p;exact hd ds ys H e hP tw' mv q
theorem zi (hsrc:SqB K H1 a xs b) (hds:aD K H1 ds xs) (hl:ds.length <= 1000)
  (he:∀ (i:Nat) (d:IV) (x:V) (H:Hp),ds[i]?=some d->aj H1 H->IsD K H d x->∀ (Y:VK) (S:Hp->Prop),(∀ H',aj H H'->S H')->g x σ0 H λσ' H4=>tt σ' H4 λb H5=>if b=true then te σ' H5 Y else S H5)
  (hd:∀ H,aj H1 H->Fin [] H):iA (Itq K a b) g tt te σ0 Fin H1:=by
 have hlen:=hds.length;refine⟨λi m ys H=>m=xs.length-i/\i<=xs.length/\aj H1 H/\ys=[],⟨xs.length,by omega,Jj _,aj.refl _,rfl⟩,?_⟩;rintro i m ys H ⟨rfl,hi,s,rfl⟩
 by_cases hlt:i<xs.length
 ·have go:(Itq K a b).go i H:=by
   have q:=SqB.same s hsrc;cases b with
   |true=>exact⟨xs,xs[i],q,by simp[hlt]⟩
   |false=>exact⟨xs,xs[i],q,by simp[hlt]⟩
  refine .inr ⟨go,bg (by show 0<=1000;decide),λx H3 y3=>?_⟩;have e3:H3=H/\xs[i]?=some x:=by
   have q:=SqB.same s hsrc;cases b with
   |true=>exact⟨y3.1,y3.2 xs q⟩
   |false=>exact⟨y3.1,y3.2 xs q⟩
  obtain⟨rfl,hx⟩:=e3;obtain⟨d,hdd,hdx⟩:=hds.get hx;exact he i d x _ hdd s (IsD.same s hdx) _ (λH5=>∃ m',m'<xs.length-i/\(m'=xs.length-(i+1)/\i+1<=xs.length/\aj H1 H5/\([]:List V)=[])) λH' s'=>⟨xs.length-(i+1),by omega,rfl,hlt,s.trans s',rfl⟩
 ·have e:i=xs.length:=by omega
  subst e;have stop:(Itq K a b).stop xs.length H:=by
   have q:=SqB.same s hsrc;cases b with
   |true=>exact⟨xs,q,Il _⟩
   |false=>exact⟨xs,q,Il _⟩
  exact .inl ⟨stop,cI (by show 0<=1000;decide),hd H s⟩
end
structure Q3 where
 a:Rat
 b:Rat
 c:Rat
def Q3.ds (q:Q3):List IV:=[rD q.a,rD q.b,rD q.c]
def Q3.col (q:Q3):IV:=.tuple q.ds
structure Q3.Bd (k:Nat)(q:Q3):Prop where
 a:Bq k q.a
 b:Bq k q.b
 c:Bq k q.c
theorem Q3.Bd.mono {j k:Nat}{q:Q3}(h:q.Bd j)(l:j<=k):q.Bd k:=⟨h.a.mono l,h.b.mono l,h.c.mono l⟩
def zr (p q:Q3):Rat:=0+p.a*q.a+p.b*q.b+p.c*q.c
theorem zy {j k:Nat}(hp:p.Bd j)(hq:q.Bd k):Bq (3*(j+k)+4) (zr p q):=
 Ok.mono (Bq.add (Bq.add (Bq.add bq0 (Bq.mul hp.a hq.a)) (Bq.mul hp.b hq.b)) (Bq.mul hp.c hq.c)) (by omega)
structure M9 where
 x:Q3
 y:Q3
 z:Q3
def M9.d (m:M9):IV:=.list [.list m.x.ds,.list m.y.ds,.list m.z.ds]
def M9.led (m:M9)(c:Q3):Q3:=⟨zr m.x c,zr m.y c,zr m.z c⟩
structure M9.Bd (k:Nat)(m:M9):Prop where
 x:m.x.Bd k
 y:m.y.Bd k
 z:m.z.Bd k
theorem Fj {j k:Nat}{m:M9}{c:Q3}(hm:m.Bd j)(hc:c.Bd k):(m.led c).Bd (3*(j+k)+4):=⟨zy hm.x hc,zy hm.y hc,zy hm.z hc⟩
theorem Q3.ext {p q:Q3}(h1:p.a=q.a)(h2:p.b=q.b)(h3:p.c=q.c):p=q:=by
 cases p;cases q;simp_all
theorem DT (p:Rat):ME (rD p) (rD p)=true:=by rw[EB,Ir rfl]
theorem C6 (q:Q3):Ob q.ds q.ds=true:=by
 simp only[Q3.ds,Ob,DT];rfl
theorem Ci {p q:Q3}(h:p=q):ME p.col q.col=true:=by
 subst h;show Ob p.ds p.ds=true;exact C6 p
def R3.q (r:R3):Q3:=⟨(r.a:Rat)/((1000:Int):Rat),(r.b:Rat)/((1000:Int):Rat),(r.c:Rat)/((1000:Int):Rat)⟩
def S9.m (s:S9):M9:=⟨s.x.q,s.y.q,s.z.q⟩
theorem AM {r:R3}(h:r.In 4000):r.q.Bd 13:=
 have u:Sm 13 (1000:Int):=by unfold Sm;decide
 ⟨l0 (by decide) (GJ h.a1 h.a2) u,l0 (by decide) (GJ h.b1 h.b2) u,l0 (by decide) (GJ h.c1 h.c2) u⟩
theorem ES {s:S9}(h:s.In):s.m.Bd 13:=⟨AM h.x,AM h.y,AM h.z⟩
def R3.cross (r s:R3):R3:=⟨r.b*s.c-r.c*s.b,r.c*s.a-r.a*s.c,r.a*s.b-r.b*s.a⟩
def R3.dot (r s:R3):Int:=r.a*s.a+r.b*s.b+r.c*s.c
def S9.ca (s:S9):R3:=⟨s.x.a,s.y.a,s.z.a⟩
def S9.cb (s:S9):R3:=⟨s.x.b,s.y.b,s.z.b⟩
def S9.cc (s:S9):R3:=⟨s.x.c,s.y.c,s.z.c⟩
def R3.by (r:R3)(s:S9):Q3:=⟨(r.dot s.ca:Rat)/((1000*1000:Int):Rat),(r.dot s.cb:Rat)/((1000*1000:Int):Rat),(r.dot s.cc:Rat)/((1000*1000:Int):Rat)⟩
section
variable {K:Ia}{g:TG}{tt:TT}{te:TE}{σ0:L2.St}{Fin:List V->Hp->Prop}{H1:Hp}
theorem bx (hsrc:SqB K H1 a xs b) (hds:aD K H1 ds xs) (hle:es.length=ds.length) (hl:ds.length <= 1000)
  (he:∀ (i:Nat) (d e:IV) (x:V) (H:Hp),ds[i]?=some d->es[i]?=some e->aj H1 H->IsD K H d x->nJ g tt te σ0 x H λy H'=>aj H H'/\IsD K H' e y)
  (hd:∀ ys H,aj H1 H->aD K H es ys->Fin ys H):iA (Itq K a b) g tt te σ0 Fin H1:=by
 have hlen:=hds.length;refine⟨λi m ys H=>m=xs.length-i/\i<=xs.length/\aj H1 H/\aD K H (es.take i) ys,⟨xs.length,by omega,Jj _,aj.refl _,.nil⟩,?_⟩;rintro i m ys H ⟨rfl,hi,s,hys⟩;have hyl:=hys.length;rw[IZ] at hyl
 by_cases hlt:i<xs.length
 ·have go:(Itq K a b).go i H:=by
   have q:=SqB.same s hsrc;cases b with
   |true=>exact⟨xs,xs[i],q,by simp[hlt]⟩
   |false=>exact⟨xs,xs[i],q,by simp[hlt]⟩
  refine .inr ⟨go,bg (by omega),λx H3 y3=>?_⟩;have e3:H3=H/\xs[i]?=some x:=by
   have q:=SqB.same s hsrc;cases b with
   |true=>exact⟨y3.1,y3.2 xs q⟩
   |false=>exact⟨y3.1,y3.2 xs q⟩
  obtain⟨rfl,hx⟩:=e3;obtain⟨d,hdd,hdx⟩:=hds.get hx;have hee:es[i]?=some es[i]:=by simp[show i<es.length by omega]
  refine he i d es[i] x _ hdd hee s (IsD.same s hdx) _ (λy H' ⟨s',hy⟩=>⟨xs.length-(i+1),by omega,rfl,hlt,s.trans s',?_⟩) λH5=>∃ m',m'<xs.length-i/\(m'=xs.length-(i+1)/\i+1<=xs.length/\aj H1 H5/\aD K H5 (es.take (i+1)) ys)
  rw[b9 hee];exact(aD.same s' hys).snoc hy
 ·have e:i=xs.length:=by omega
  subst e;have stop:(Itq K a b).stop xs.length H:=by
   have q:=SqB.same s hsrc;cases b with
   |true=>exact⟨xs,q,Il _⟩
   |false=>exact⟨xs,q,Il _⟩
  rw[Jc (by omega)] at hys;exact .inl ⟨stop,cI (by omega),hd ys H s hys⟩
theorem iC (h1:SqB K H1 a1 xs b1) (h2:SqB K H1 a2 ys b2) (hds:aD K H1 ds xs) (hes:aD K H1 es ys) (hle:ds.length=es.length) (hlf:fs.length=ds.length) (hl:ds.length <= 1000)
  (he:∀ (i:Nat) (d e f:IV) (x y:V) (T:Iv) (H:Hp),ds[i]?=some d->es[i]?=some e->fs[i]?=some f->aj H1 H->IsD K H d x->IsD K H e y->H T=some (.tup [x,y])->nJ g tt te σ0 (.ref T) H λz H'=>aj H H'/\IsD K H' f z)
  (hd:∀ zs H,aj H1 H->aD K H fs zs->Fin zs H):iA (Itz K b1 b2 a1 a2) g tt te σ0 Fin H1:=by
 have hlen:=hds.length;have hlen2:=hes.length;refine⟨λi m zs H=>m=xs.length-i/\i<=xs.length/\aj H1 H/\aD K H (fs.take i) zs,⟨xs.length,by omega,Jj _,aj.refl _,.nil⟩,?_⟩;rintro i m zs H ⟨rfl,hi,s,hzs⟩;have hyl:=hzs.length;rw[IZ] at hyl
 by_cases hlt:i<xs.length
 ·have hlt2:i<ys.length:=by omega
  refine .inr ⟨⟨xs,ys,xs[i],ys[i],SqB.same s h1,SqB.same s h2,by simp[hlt],by simp[hlt2]⟩,bg (by omega),λv H3 y3=>?_⟩;obtain⟨x,y,T,k1,k2,kT,rfl,rfl⟩:=y3;have hx:=k1 xs (SqB.same s h1);have hy:=k2 ys (SqB.same s h2);obtain⟨d,hdd,hdx⟩:=hds.get hx;obtain⟨e,hee,hey⟩:=hes.get hy;have hff:fs[i]?=some fs[i]:=by simp[show i<fs.length by omega]
  have sT:aj H (upd H T (.tup [x,y])):=aj.new kT;have sA:=s.trans sT;refine he i d e fs[i] x y T _ hdd hee hff sA (IsD.same sA hdx) (IsD.same sA hey) ac _ (λz H' ⟨s',hz⟩=>⟨xs.length-(i+1),by omega,rfl,hlt,sA.trans s',?_⟩) λH5=>∃ m',m'<xs.length-i/\(m'=xs.length-(i+1)/\i+1<=xs.length/\aj H1 H5/\aD K H5 (fs.take (i+1)) zs)
  rw[b9 hff];exact(aD.same s' (aD.same sT hzs)).snoc hz
 ·have e:i=xs.length:=by omega
  subst e;rw[Jc (by omega)] at hzs;exact .inl ⟨⟨xs,ys,SqB.same s h1,SqB.same s h2,.inl (Il _)⟩,cI (by omega),hd zs H s hzs⟩
end
theorem at3 {i:Nat}(h:[a,b,c][i]?=some x):(i=0/\x=a)\/(i=1/\x=b)\/(i=2/\x=c):=by
 match i,h with
 |0,h=>exact .inl ⟨rfl,(Ie h).symm⟩
 |1,h=>exact .inr (.inl ⟨rfl,(Ie h).symm⟩)
 |2,h=>exact .inr (.inr ⟨rfl,(Ie h).symm⟩)
 |n+3,h=>simp at h
def prt (p q:Q3):Nat->Rat
 |0=>0
 |1=>0+p.a*q.a
 |2=>0+p.a*q.a+p.b*q.b
 |_=>zr p q
theorem BH {K:Ia}{H:Hp}{p q:Q3}{xs ys:List V}{x y:V}{i:Nat}{j k:Nat} (hx:aD K H p.ds xs) (hy:aD K H q.ds ys) (bp:p.Bd j) (bq:q.Bd k) (ex:xs[i]?=some x) (ey:ys[i]?=some y) :
  ∃ P C:Rat,IsD K H (rD P) x/\IsD K H (rD C) y/\Bq j P/\Bq k C/\prt p q (i+1)=prt p q i+P*C/\Bq (2*(j+k)+3) (prt p q i):=by
 obtain⟨x0,x1,x2,rfl,g0,g1,g2⟩:=ff hx;obtain⟨y0,y1,y2,rfl,k0,k1,k2⟩:=ff hy;rcases at3 ex with ⟨rfl,rfl⟩|⟨rfl,rfl⟩|⟨rfl,rfl⟩
 ·cases(Ie ey);exact⟨_,_,g0,k0,bp.a,bq.a,rfl,bq0.mono (by omega)⟩
 ·cases(Ie ey);exact⟨_,_,g1,k1,bp.b,bq.b,rfl,Ok.mono (Bq.add bq0 (Bq.mul bp.a bq.a)) (by omega)⟩
 ·cases(Ie ey);exact⟨_,_,g2,k2,bp.c,bq.c,rfl,Ok.mono (Bq.add (Bq.add bq0 (Bq.mul bp.a bq.a)) (Bq.mul bp.b bq.b)) (by omega)⟩
section
variable {X:Cx}{K:Ia}{pos:Pos}{tg:KI}
def Ga (K:Ia):List V->Hp->VK->Prop:=λxs H Q=>∃ p ys,xs=[.ref p]/\(SqL K H p ys\/SqT K H p ys)/\Q (.int ys.length) H
def DZ (K:Ia):List V->Hp->VK->Prop:=λxs H Q=>∃ p ys,xs=[.ref p]/\(SqL K H p ys\/SqT K H p ys)/\∀ l,H l=none->Q (.ref l) (upd H l (.lst ys))
def ED (K:Ia):List V->Hp->VK->Prop:=λxs H Q=>∃ p ys,xs=[.ref p]/\((SqL K H p ys/\∀ l,H l=none->Q (.ref l) (upd H l (.tup ys)))\/(SqT K H p ys/\Q (.ref p) H))
def Hx (K:Ia):List V->Hp->VK->Prop:=λxs H Q=>∃ (p:Iv) (bs:List Bool),xs=[.ref p]/\SqL K H p (bs.map V.bl)/\Q (.bl (bs.all id)) H
theorem h_ (e:X.K=K):eN X (.builtin "len") (Ga K):=by subst e;exact rH
theorem jO (e:X.K=K):eN X (.type "list") (DZ K):=by subst e;exact t4
theorem dc (e:X.K=K):eN X (.type "tuple") (ED K):=by subst e;exact pQ
theorem oW (e:X.K=K)(hc:X.calm=true):eN X (.builtin "all") (Hx K):=by subst e;exact AE hc
theorem lS (e:X.K=K):eN X (.builtin "isinstance") (Hl K):=by subst e;exact Bc
theorem zP (e:X.K=K):eN X (.builtin "isinstance") (E7 K):=by subst e;exact zF
theorem AA (e:X.K=K)(hu:X.A.units+64<cLine):OpR X (Kf .Eq) (Hg K):=by subst e;exact EX hu
theorem Gp (e:X.K=K)(hu:X.A.units+64<cLine):OpR X (Kf .NotEq) (Hj K):=by subst e;exact FJ hu
theorem DE (e:X.K=K)(hu:X.A.units+64<cLine):OpR X (Kf .NotEq) (CA K):=by subst e;exact Bn hu
theorem Hq (e:X.K=K):IxR X (rIx K):=by subst e;exact EZ
theorem Hh (e:X.K=K):SlR X (G4 K):=by subst e;exact DR
theorem bh (e:X.K=K)(hl:WE X l tl):WI X tg l (FZ K tl):=by
 have hl:=hl.go;refine⟨?_⟩;subst e;exact Fg hl
theorem lr (e:X.K=K) {tk:Nat} (hg:Gl X "zip") (hm:X.mg "zip"=none) (ha:WA X [a,b] ta) (hs:IR [a,b] X.env=[(false,L6 a X.env),(false,L6 b X.env)]:=by rfl) (hs2:IR [b] X.env=[(false,L6 b X.env)]:=by rfl) :
  WI X (.Tuple elts tk tpos) (.Call (.Name "zip" p) [a,b] [] pos) (GV K ta):=by
 have ha:=ha.go;refine⟨?_⟩;subst e;exact FC hg hm ha hs hs2
theorem dF (e:X.K=K){k:Nat}{n:Nat}(hc:X.calm=true)(h:WGs X es t)(hn:(KZ es X.env).length=n:=by rfl)(hst:(KZ es X.env).findIdx? (·.1)=none:=by rfl):WG X (.Tuple es k pos) (GW K n t):=by
 have h:=h.go;refine⟨?_⟩;subst e;exact Ft hc h hn hst
theorem CD (e:X.K=K){k:Nat}{n:Nat}(hc:X.calm=true)(h:WGs X es t)(hn:(KZ es X.env).length=n:=by rfl)(hst:(KZ es X.env).findIdx? (·.1)=none:=by rfl):WG X (.Tuple es k pos) (G8 K n t):=by
 have h:=h.go;refine⟨?_⟩;subst e;exact EQ hc h hn hst
end
def S9.one:S9:=⟨false,false,false,false,⟨1000,0,0⟩,⟨0,1000,0⟩,⟨0,0,1000⟩⟩
theorem M9.Bd.mono {j k:Nat}{m:M9}(h:m.Bd j)(l:j<=k):m.Bd k:=⟨h.x.mono l,h.y.mono l,h.z.mono l⟩
theorem zH (p q:Rat):p-q=((p.num*(q.den:Int)-q.num*(p.den:Int):Int):Rat)/(((p.den:Int)*(q.den:Int):Int):Rat):=by
 have h1:=jS p;have h2:=jS q;have e1:=iW p;have e2:=iW q;rw[Jg,IP,IP,IP];grind
theorem Bq.sub {j k:Nat}{p q:Rat}(hp:Bq j p)(hq:Bq k q):Bq (j+k+1) (p-q):=by
 rw[Bq,zH];refine l0 (wA p q) (Sm.sub (hp.sn.mul hq.sd) ((hq.sn.mul hp.sd).mono (by omega))) ((hp.sd.mul hq.sd).mono (by omega))
theorem ShQ.sub {K:Ia}{H:Hp}{p q:Rat}{Q:VK}(h:ShQ K H (p-q) Q):Sh K H (p.num*(q.den:Int)-q.num*(p.den:Int)) ((p.den:Int)*(q.den:Int)) Q:=by
 rw[zH] at h;exact ShQ.sh (wA p q) h
def S9.c0 (s:S9):R3:=s.y.cross s.z
def S9.c1 (s:S9):R3:=s.z.cross s.x
def S9.c2 (s:S9):R3:=s.x.cross s.y
def S9.f (s:S9)(n:Int):Rat:=((1000*n:Int):Rat)/((s.det:Int):Rat)
abbrev WX:=L2.St->Iv->Hp->Prop
abbrev bmV:List Ih:=[.type "ValueError",.type "Exception",.type "BaseException",.type "object"]
abbrev Hk:String:="ValueError.__new__"
def eF (K:Ia)(x:Str)(C:Iv):Prop:=Iw K Ik x=some (some (.ref C))
def wl:List Str:=["BadNumber","BadShare","BadCurve","BadSquare","NoBack","BadGrid","BadColour","BadIntent","BadProfile","BadInk","BadText"]
def qK (K:Ia)(x:Str):Option Iv:=match Iw K Ik x with
 |some (some (.ref C))=>some C
 |_=>none
theorem Bp {K:Ia}{x:Str}{C:Iv}(h:qK K x=some C):eF K x C:=by
 unfold qK at h
 split at h
 ·rename_i D e
  cases h;exact e
 ·cases h
theorem qT {K:Ia}{x:Str}{C:Iv}(h:eF K x C):qK K x=some C:=by
 unfold qK;rw[show Iw K Ik x=some (some (.ref C)) from h]
def exB (K:Ia)(C:Iv):Bool:=
 PySem.W.excIn K C bmV Hk&&OM K C&&NL K (.ref C)==some (.type "type")&&Mn K C (.type "object")==some true&&Mn K C (.type "BaseException")==some true &&
  IQ K (.ref C) "__getattribute__"==some (some (.builtin "BaseException.__getattribute__"))&&IQ K (.ref C) "__getattr__"==some none&&IQ K (.ref C) "__class__"==some (some (.builtin "object.__class__")) &&
  MG K (.builtin "object.__class__") "__get__"==some (some (.builtin "getset_descriptor.__get__"))&&Ng K (.builtin "object.__class__")==some true&&Mo K (.ref C) (.ref C)==some true
structure Ex (K:Ia)(C:Iv):Prop where
 exc:PySem.W.excIn K C bmV Hk=true
 cls:OM K C=true
 typ:NL K (.ref C)=some (.type "type")
 slf:Mo K (.ref C) (.ref C)=some true
 obj:Mn K C (.type "object")=some true
 bex:Mn K C (.type "BaseException")=some true
 ga:IQ K (.ref C) "__getattribute__"=some (some (.builtin "BaseException.__getattribute__"))
 gn:IQ K (.ref C) "__getattr__"=some none
 gc:IQ K (.ref C) "__class__"=some (some (.builtin "object.__class__"))
 get:MG K (.builtin "object.__class__") "__get__"=some (some (.builtin "getset_descriptor.__get__"))
 tks:Ng K (.builtin "object.__class__")=some true
def HK (K:Ia):Bool:=(qK K "TintError").any λT=>OM K T&&NL K (.ref T)==some (.type "type")&&Mo K (.ref T) (.type "BaseException")==some true &&
 (Ko 11).all λi=>(qK K (wl.getD i "")).any λC=>exB K C&&Mo K (.ref C) (.ref T)==some true&&Mo K (.ref C) (.type "ValueError")==some true &&
  (Ko 11).all λj=>(qK K (wl.getD j "")).any λD=>Mo K (.ref C) (.ref D)==some (i==j)
theorem rS (h:o.any p=true):∃ a,o=some a/\p a=true:=by
 cases o with
 |none=>cases h
 |some a=>exact⟨a,rfl,h⟩
section
variable {K:Ia}(R:HK K=true)
include R
end
section
variable {X:Cx}{K:Ia}
def HM (K:Ia)(x:Str):TE:=λ_ H Q=>∀ D,eF K x D->Q (.ref D) H
theorem ue (hK:X.K=K)(hg:Gl X x)(hx:∃ D,eF K x D)(hd:(x==("__debug__":Str))=false:=by decide):WE X (.Name x pos) (HM K x):=by
 refine⟨?_⟩;subst hK;intro pins s σ H Q I h;obtain⟨D,hD⟩:=hx;exact iE I hg (Jr I.ok.mod.kin I.ok.mod.glob hD) ⟨.ref D,H,I,rfl,h D hD⟩ hd
end
def wwB (l m:Int):IV->Bool
 |.int i=>decide (l<=i)&&decide (i<=m)
 |_=>false
theorem aD.at {K:Ia}{H:Hp}{i:Nat}{d:IV}{x:V}{ds:List IV}{xs:List V}(h:aD K H ds xs)(e1:ds[i]?=some d)(e2:xs[i]?=some x):IsD K H d x:=by
 obtain⟨d',h1,h2⟩:=h.get e2;rw[e1] at h1;cases h1;exact h2
section
variable {K:Ia}{t r p:Iv}{H0 H:Hp}{xs ys:List V}{ds es:List IV}
theorem FO {k:Int}{n:Nat}(hk:k=n)(hn:n<=1000)(h:H p=some (.lst [v]))(q:∀ l,H l=none->Q (.ref l) (upd H l (.lst (Iz n v)))):Gi (.ref p) (.int k) H Q:=by
 subst hk;refine⟨p,_,_,rfl,rfl,h,by omega,by omega,?_,λl hl=>?_⟩
 ·show 1*((n:Int)).toNat<=II;have:(1000:Nat)<=II:=by decide
  omega
 ·have e:(Iz ((n:Int)).toNat [v]).flatten=Iz n v:=by
   rw[Ja];clear hn q
   induction n with
   |zero=>rfl
   |succ n ih=>rw[Kp,LF,ih];rfl
  rw[e];exact q l hl
theorem D_ {k:Int}{n:Nat}(hk:k=n)(hn:n<=1000)(h:H p=some (.lst [v]))(q:∀ l,H l=none->Q (.ref l) (upd H l (.lst (Iz n v)))):tC (.int k) σ H λy H2=>Gi (.ref p) y H2 Q:=FO hk hn h q
end
theorem Ec (z:Rat):shB (rD z)=true:=(show Ok (z.num.natAbs+z.den) z.num z.den from⟨by have:=z.den_pos;omega,z.reduced,by unfold Sm;exact IA (LY) (K9 (by decide) (Lj _ _)),by unfold Sm;exact IA (LY) (K9 (by decide) (Nat.le_add_left _ _))⟩).shB
def ma (K:Ia)(x:Str)(fs:List Str):Bool:=(qK K x).any λC=>LQ K C Str.empty&&MF K C&&NZ K C&&IQ K (.ref C) "__setattr__"==some (some (.builtin "object.__setattr__")) &&
 Nd K C&&IU K (.ref C)&&fs.all λf=>IQ K (.ref C) f==some none
structure ClF (K:Ia)(x:Str)(fs:List Str)(C:Iv):Prop where
 at_:eF K x C
 cls:Cls K C
 makes:Nd K C=true
 kp:IU K (.ref C)=true
 no:∀ f∈fs,rY K C f
theorem mK {K:Ia}{x:Str}{fs:List Str}(h:ma K x fs=true):∃ C,ClF K x fs C:=by
 unfold ma at h;obtain⟨C,e,q⟩:=rS h;simp only[Ju,K0,Kh] at q;obtain⟨⟨⟨⟨⟨⟨a,b⟩,c⟩,d⟩,m⟩,k⟩,n⟩:=q;exact⟨C,Bp e,⟨a,b,c,d⟩,m,k,λf hf=>K0.mp (by simpa using n f hf)⟩
theorem bZ {K:Ia}{x:Str}{C D:Iv}(h:eF K x C)(g:eF K x D):C=D:=Ie ((qT h).symm.trans (qT g))
section
variable {X:Cx}{K:Ia}{o e value:KI}{f x:Str}{fs0:List Str}{pos pos':Pos}{ta tv:TE}
def Gm (K:Ia)(x:Str)(ta:TE)(f:Str):TE:=λσ H Q=>ta σ H λv H1=>∃ a C dx fs w,v=.ref a/\eF K x C/\H1 a=some (.ins C dx fs)/\fs.lookup f=some w/\Q w H1
theorem bN (hK:X.K=K)(hc:ma K x fs0=true)(hf:f∈fs0)(he:WE X e ta)(hb:Of e f X.env (L6 e X.env)=L6 e X.env:=by rfl):WE X (.Attribute e f pos) (Gm K x ta f):=by
 have he:=he.go;refine⟨?_⟩;subst hK;obtain⟨D,cf⟩:=mK hc;intro pins s σ H Q I h;refine Dc hb (thn (he pins s σ H _ I h) λu s1 ⟨v,H1,I1,rv,a,C,dx,fs,w,ev,ec,ea,l,q⟩=>?_);subst ev;cases bZ ec cf.at_;obtain rfl:u=IX a:=rv;exact w_ I1 ea cf.cls (cf.no f hf) l λu' s2 I2 ru=>⟨w,H1,I2,ru,q⟩
def Gf (K:Ia)(x:Str)(ta tv:TE)(f:Str):TS:=λD σ H=>tv σ H λy H1=>ta σ H1 λv H2=>∃ a C dx fs,v=.ref a/\eF K x C/\H2 a=some (.ins C dx fs)/\fs.length<1000 /\
 D.nx σ (upd H2 a (.ins C dx (iQ f y fs)))
theorem di (hK:X.K=K) (hc:ma K x fs0=true) (hf:f ∈ fs0) (ha:WE X o ta) (hv:WE X value tv) (hs:N5 value (some (.Attribute o f pos')) pos.line X.env=pure false:=by rfl) :
  WS X (.Assign [.Attribute o f pos'] value pos) (Gf K x ta tv f):=by
 have ha:=ha.go;have hv:=hv.go;refine⟨?_⟩;subst hK;obtain⟨E,cf⟩:=mK hc;intro pins s σ H D I h;refine plainObj_wpAny_Assign_Attribute (thn (hv pins s σ H _ I h) λu s1 ⟨y,H1,I1,ry,q⟩=>thn (ha pins s1 σ H1 _ I1 q) λov s2 ⟨v,H2,I2,rv,a,C,dx,fs,ev,ec,ea,l,q2⟩=>?_) hs;subst ev;cases bZ ec cf.at_;obtain rfl:ov=IX a:=rv;exact wQ I2 ea cf.cls (cf.no f hf) l ry λs3 I3=>⟨σ,_,I3,q2⟩
end
abbrev ET (X:Cx)(o:KI)(m:Str)(args:List KI)(pl:Sem Bool)(apos pos:Pos):Prop:=
 L6 (.Call (.Attribute o m apos) args [] pos) X.env=(do let ov <- L6 o X.env;OT apos.atName;let (f,first) <- holding [ov] (getMethod ov m pl);callWith pos f first (Mw pos (IR args X.env)) (LK pos (Kt [] X.env)))
structure vZ (P:IN)(w:Jm)(K:Ia)(mg:Str->Option Ih)(base:Kl)(CX:CXT)(k:Nat)(x m:Str)(ps:List Str)(dvs:List V)(sp:Sp):Prop where
 ex:∃ (C f:Iv) (fd:JS) (ds:List Ih) (fs:List Str),oC P w K mg base CX k f fd ps sp/\ClF K x fs C/\El K C m f/\mg x=some (.ref C)/\oN K fd ps ds/\bD dvs ds
def Bh (K:Ia)(x m:Str)(sp:Sp)(dvs:List V)(E:XK)(ta:TE)(t:TA):TE:=λσ H Q=>ta σ H λv H1=>∃ a C dx fs,v=.ref a/\eF K x C/\H1 a=some (.ins C dx fs)/\fs.lookup m=none /\
 t σ H1 λvs H2=>sp (v::(vs++dvs)) H2 Q E
def Gd (K:Ia)(x:Str)(sp:Sp)(dvs:List V)(E:XK)(t:TA):TE:=λσ H Q=>t σ H λvs H1=>∀ C a dx,eF K x C->H1 a=none->H1 dx=none->dx≠a ->
 sp (.ref a::(vs++dvs)) (upd (upd H1 dx (.own a)) a (.ins C dx [])) (λv H2=>v=.non/\Q (.ref a) H2) E
section
variable {X:Cx}{CX:CXT}{K:Ia}{k:Nat}{x m:Str}{ps:List Str}{sp:Sp}{dvs:List V}{p pos apos:Pos}{o e:KI}{es:List KI}{ta:TE}{t:TA}{W:WX}
theorem ik {pl:Sem Bool} (hK:X.K=K) (hX:NoX CX) (C:vZ X.prog X.w X.K X.mg X.base CX k x m ps dvs sp) (hr:Room k X.A) (he:WE X o ta) (ha:WA X (e :: es) t)
  (hst:IR (e::es) X.env=(false,L6 e X.env)::IR es X.env:=by rfl)(hpl:(Mw pos (IR es X.env)).any (·.1)=false:=by rfl)
  (ht:ET X o m (e::es) pl apos pos:=by rfl):WE X (.Call (.Attribute o m apos) (e::es) [] pos) (Bh K x m sp dvs E0 ta t):=by
 have he:=he.go;have ha:=ha.go;refine⟨?_⟩;subst hK;obtain⟨D,f,fd,ds,fs0,F,cf,hm,_,hb,hd⟩:=C.ex;intro pins s σ H Q I h;refine MP (pl:=pl) (thn (he pins s σ H _ I h) λu s1 ⟨v,H1,I1,rv,a,E,dx,fs,ev,ec,ea,l,q⟩=>?_) ht;subst ev;cases bZ ec cf.at_;obtain rfl:u=IX a:=rv;refine k8 I1 ea cf.cls hm l ?_;refine Mm (first:=[.ref a]) (h₀:=X.base) I.ok.mod.kin hm.kp (thn (ha pos pins s1 σ H1 _ I1 q) λus s2 ⟨vs,H2,I2,r,q2⟩=>⟨I2.kIn,?_⟩) hst hpl;exact vG (us:=.ref a::us) (vs:=.ref a::vs) F hr hb hd (rp hX) I2 (.cons rfl r) q2
theorem mh {pl:Sem Bool} (hK:X.K=K) (hX:NoX CX) (C:vZ X.prog X.w X.K X.mg X.base CX k x m ps dvs sp) (hr:Room k X.A) (he:WE X o ta)
  (ht:ET X o m [] pl apos pos:=by rfl):WE X (.Call (.Attribute o m apos) [] [] pos) (Bh K x m sp dvs E0 ta AV):=by
 have he:=he.go;refine⟨?_⟩;subst hK;obtain⟨D,f,fd,ds,fs0,F,cf,hm,_,hb,hd⟩:=C.ex;intro pins s σ H Q I h;refine MP (pl:=pl) (thn (he pins s σ H _ I h) λu s1 ⟨v,H1,I1,rv,a,E,dx,fs,ev,ec,ea,l,q⟩=>?_) ht;subst ev;cases bZ ec cf.at_;obtain rfl:u=IX a:=rv;refine k8 I1 ea cf.cls hm l ?_;exact PySem.W.callWith_K0 (first:=[.ref a]) I1.kIn hm.kp (vG (us:=[.ref a]) (vs:=[.ref a]) F hr hb hd (rp hX) I1 (.cons rfl .nil) q)
theorem qC (hK:X.K=K) (hX:NoX CX) (C:vZ X.prog X.w X.K X.mg X.base CX k x "__init__" ps dvs sp) (hr:Room (k + 1) X.A) (hg:Gl X x) (ha:WA X (e :: es) t) (hdb:(x == ("__debug__":Str))=false:=by decide)
  (he:IR (e::es) X.env=(false,L6 e X.env)::IR es X.env:=by rfl)(hpl:(Mw pos (IR es X.env)).any (·.1)=false:=by rfl):WE X (.Call (.Name x p) (e::es) [] pos) (Gd K x sp dvs E0 t):=by
 have ha:=ha.go;refine⟨?_⟩;subst hK;obtain⟨D,f,fd,ds,fs0,F,cf,hm,hmg,hb,hd⟩:=C.ex;intro pins s σ H Q I h;refine JT (iE I hg hmg ?_ hdb);refine Mm (h₀:=X.base) I.ok.mod.kin cf.kp (thn (ha pos pins s σ H _ I h) λus s1 ⟨vs,H1,I1,r,q⟩=>⟨I1.kIn,?_⟩) he hpl;exact BC ⟨cf.makes,hm.at_,hm.fn,cf.kp⟩ F hr hb hd (rp hX) I1 r λa dx h1 h2 h3=>q D a dx cf.at_ h1 h2 h3
end
structure qD (K:Ia)(mg:Str->Option Ih)(x m qual:Str)(st:Ke)(ps:List Str)(dvs:List V):Prop where
 ex:∃ (C f:Iv) (fd:JS) (oc:Ih) (od:Option Iv) (dV kV doc pm:Ih) (an:Option Iv) (cdv ct:Ih) (osl:Array (Option Ih)) (ds:List Ih) (fs:List Str),
  fd=IH m qual (aJ st) (aF st) (ag st) dV kV doc pm an cdv ct/\K.lookup f=some ⟨oc,od,.func fd,osl⟩/\I_ K cdv qual=true /\
  ClF K x fs C/\El K C m f/\mg x=some (.ref C)/\oN K fd ps ds/\bD dvs ds
section
variable {P:IN}{w:Jm}{K:Ia}{mg:Str->Option Ih}{base:Kl}{CX:CXT}{x m qual:Str}{st:Ke}{N ps:List Str}{dvs:List V}{k:Nat}{sp:Sp}
theorem qD.cal (F:qD K mg x m qual st ps dvs) (S:am N ps (ag st)) (len:∀ vs H Q E,sp vs H Q E->vs.length=ps.length)
  (hbody:∀ (f:Iv) (cdv:Ih) (A:JA) (outer:List Env) (s:Im) (H:Hp) (vs:List V) (Q:VK) (E:XK),Room k (A.deeper (Oq qual (ag st) s.heap.objs.size f cdv))->sp vs H Q E ->
   ∃ t,PSs (As CX P w K mg base N qual (ag st) f cdv A outer s H E).nox (aF st) t/\t { nx:=λ_ H'=>Q .non H',rt:=Q } (lP N vs) H):vZ P w K mg base CX (k+1) x m ps dvs sp:=by
 obtain⟨C,f,fd,oc,od,dV,kV,doc,pm,an,cdv,ct,osl,ds,fs,rfl,lk,hcd,cf,hm,hmg,hb,hv⟩:=F.ex;refine⟨C,f,_,ds,fs,yI lk hcd S len λA outer s H vs Q E hr hsp=>?_,cf,hm,hmg,hb,hv⟩;obtain⟨t,h,q⟩:=hbody f cdv A outer s H vs Q E hr hsp;exact⟨t,h.nox,q⟩
theorem Dk {fs:List Str}{C f:Iv}{oc:Ih}{od an:Option Iv}{osl:Array (Option Ih)}{kV doc pm cdv ct:Ih} (l:K.lookup f=some ⟨oc,od,.func (IH m qual (aJ st) (aF st) (ag st) .none kV doc pm an cdv ct),osl⟩)
  (c:I_ K cdv qual=true)(kp:IU K (.ref f)=true)(fn:Ky K (.ref f)=true)(a:Iw K Ik x=some (some (.ref C)))(b:IQ K (.ref C) m=some (some (.ref f)))(hc:ma K x fs=true)(g:mg x=some (.ref C))
  (h:∀ us:List Ih,us.length=ps.length->JD (IH m qual (aJ st) (aF st) (ag st) .none kV doc pm an cdv ct) ⟨us,[]⟩=pure (ps.zip us)):qD K mg x m qual st ps []:=by
 obtain⟨D,cf⟩:=mK hc;cases bZ cf.at_ a;exact⟨_,f,_,oc,od,.none,kV,doc,pm,an,cdv,ct,osl,[],fs,rfl,l,c,cf,⟨b,fn,kp⟩,g,.all h,.nil⟩
end
abbrev Pt:=Int×Int
def ptD (p:Pt):IV:=.tuple [.int p.1,.int p.2]
def F1 (ps:List Pt):IV:=.list (ps.map ptD)
structure Pt.In (p:Pt):Prop where
 a1:0<=p.1
 a2:p.1<=1000
 b1:0<=p.2
 b2:p.2<=1000
structure Pts (ps:List Pt):Prop where
 two:2<=ps.length
 few:ps.length<=12
 zero:∀ p,ps[0]?=some p->p.1=0
 inn:∀ p∈ps,p.In
 up:∀ (i:Nat) (p q:Pt),ps[i]?=some p->ps[i+1]?=some q->p.1<q.1/\p.2<=q.2
def onl (p q:Pt)(a:Rat):Rat:=(p.2:Rat)+((q.2:Rat)-(p.2:Rat))*(a-(p.1:Rat))/((q.1:Rat)-(p.1:Rat))
structure Ee (ps:List Pt)(a:Rat)(k:Nat)(p q:Pt):Prop where
 lo:ps[k]?=some p
 hi:ps[k+1]?=some q
 gt:k=0\/(p.1:Rat)<a
 le:a<=(q.1:Rat)
def OnC (ps:List Pt)(a v:Rat):Prop:=∃ k p q,Ee ps a k p q/\v=onl p q a
theorem Pts.mono (h:Pts ps):∀ (d i:Nat) (p q:Pt),ps[i]?=some p->ps[i+d]?=some q->p.1<=q.1/\p.2<=q.2/\(0<d->p.1<q.1)
 |0,i,p,q,e1,e2=>by
  rw[Qs,e1] at e2;cases e2;exact⟨Pq _,Pq _,λz=>absurd z (by decide)⟩
 |d+1,i,p,q,e1,e2=>by
  have hlt:i+d<ps.length:=by have:=(Iu.mp e2).1;omega
  have e3:ps[i+d]?=some ps[i+d]:=ID hlt;obtain⟨a,b,_⟩:=Pts.mono h d i p _ e1 e3;obtain⟨c,e⟩:=h.up (i+d) _ q e3 (by rw[Nat.add_assoc];exact e2);exact⟨by omega,by omega,λ_=>by omega⟩
theorem zY (h:Pts ps){a:Rat}{k j:Nat}(x:Ee ps a k p q)(y:Ee ps a j r s):p=r/\q=s:=by
 have go:∀ {k j:Nat}{p q r s:Pt},Ee ps a k p q->Ee ps a j r s->¬ k<j:=λ{k j p q r s} x y lt=>by
  obtain⟨d,rfl⟩:∃ d,j=k+1+d:=⟨j-(k+1),by omega⟩
  obtain⟨m,_⟩:=h.mono d (k+1) q r x.hi y.lo;rcases y.gt with z|z
  ·omega
  ·have e:(q.1:Rat)<=(r.1:Rat):=by exact_mod_cast m
   have:=x.le;grind
 have e:k=j:=by
  have:=go x y;have:=go y x;omega
 subst e;have e1:=x.lo.symm.trans y.lo;have e2:=x.hi.symm.trans y.hi;exact⟨Ie e1,Ie e2⟩
theorem qe (h:Pts ps){a v w:Rat}(x:OnC ps a v)(y:OnC ps a w):v=w:=by
 obtain⟨k,p,q,s,rfl⟩:=x;obtain⟨j,r,t,u,rfl⟩:=y;obtain⟨rfl,rfl⟩:=zY h s u;rfl
section
variable {K:Ia}{g:TG}{tt:TT}{te:TE}{σ0:L2.St}{Fin:List V->Hp->Prop}{H1:Hp}
theorem yX (h1:SqB K H1 a1 xs b1) (h2:SqB K H1 a2 ys b2) (hds:aD K H1 ds xs) (hes:aD K H1 es ys) (hle:es.length <= ds.length) (hlf:fs.length=es.length) (hl:ds.length <= 1000)
  (he:∀ (i:Nat) (d e f:IV) (x y:V) (T:Iv) (H:Hp),ds[i]?=some d->es[i]?=some e->fs[i]?=some f->aj H1 H->IsD K H d x->IsD K H e y->H T=some (.tup [x,y])->nJ g tt te σ0 (.ref T) H λz H'=>aj H H'/\IsD K H' f z)
  (hd:∀ zs H,aj H1 H->aD K H fs zs->Fin zs H):iA (Itz K b1 b2 a1 a2) g tt te σ0 Fin H1:=by
 have hlen:=hds.length;have hlen2:=hes.length;refine⟨λi m zs H=>m=ys.length-i/\i<=ys.length/\aj H1 H/\aD K H (fs.take i) zs,⟨ys.length,by omega,Jj _,aj.refl _,.nil⟩,?_⟩;rintro i m zs H ⟨rfl,hi,s,hzs⟩;have hyl:=hzs.length;rw[IZ] at hyl
 by_cases hlt2:i<ys.length
 ·have hlt:i<xs.length:=by omega
  refine .inr ⟨⟨xs,ys,xs[i],ys[i],SqB.same s h1,SqB.same s h2,by simp[hlt],by simp[hlt2]⟩,bg (by omega),λv H3 y3=>?_⟩;obtain⟨x,y,T,k1,k2,kT,rfl,rfl⟩:=y3;have hx:=k1 xs (SqB.same s h1);have hy:=k2 ys (SqB.same s h2);obtain⟨d,hdd,hdx⟩:=hds.get hx;obtain⟨e,hee,hey⟩:=hes.get hy;have hff:fs[i]?=some fs[i]:=by simp[show i<fs.length by omega]
  have sT:aj H (upd H T (.tup [x,y])):=aj.new kT;have sA:=s.trans sT;refine he i d e fs[i] x y T _ hdd hee hff sA (IsD.same sA hdx) (IsD.same sA hey) ac _ (λz H' ⟨s',hz⟩=>⟨ys.length-(i+1),by omega,rfl,hlt2,sA.trans s',?_⟩) λH5=>∃ m',m'<ys.length-i/\(m'=ys.length-(i+1)/\i+1<=ys.length/\aj H1 H5/\aD K H5 (fs.take (i+1)) zs)
  rw[b9 hff];exact(aD.same s' (aD.same sT hzs)).snoc hz
 ·have e:i=ys.length:=by omega
  subst e;rw[Jc (by omega)] at hzs;exact .inl ⟨⟨xs,ys,SqB.same s h1,SqB.same s h2,.inr (Il _)⟩,cI (by omega),hd zs H s hzs⟩
end
theorem BB (xs:List V)(h:1<=xs.length):Ct xs (some 1) none=xs.drop 1:=by
 unfold Ct;have e1:HT.sIx xs.length 0 (some 1)=1:=by
  simp[HT.sIx]
  try omega
 have e2:HT.sIx xs.length xs.length none=xs.length:=by simp[HT.sIx]
 rw[e1,e2];exact Jc (by rw[KW];exact Il _)
theorem aD.drop {K:Ia}{H:Hp}:∀ (n:Nat) {ds:List IV}{xs:List V},aD K H ds xs->aD K H (ds.drop n) (xs.drop n)
 |0,_,_,h=>h
 |_+1,_,_,.nil=>.nil
 |n+1,_,_,.cons _ t=>aD.drop n t
theorem mW {K:Ia}{H:Hp}{ps:List Pt}{xs:List V}{k:Nat}{p:Pt}(h:aD K H (ps.map ptD) xs)(e:ps[k]?=some p):∃ v,xs[k]?=some v/\IsD K H (ptD p) v:=by
 have hl:=h.length;rw[Ij] at hl;have hk:k<xs.length:=by have:=(Iu.mp e).1;omega
 have e1:xs[k]?=some xs[k]:=ID hk;refine⟨_,e1,h.at ?_ e1⟩;rw[Ix,e];rfl
def sk (K:Ia)(H:Hp)(ps:List Pt)(v:V):Prop:=∃ (a C dx l:Iv),v=.ref a/\eF K "Curve" C/\H a=some (.ins C dx [("points",.ref l)])/\IsD K H (F1 ps) (.ref l)
theorem sk.same {K:Ia}{H H':Hp}{ps:List Pt}{v:V}(s:aj H H')(h:sk K H ps v):sk K H' ps v:=by
 obtain⟨a,C,dx,l,e,c,h1,h2⟩:=h;exact⟨a,C,dx,l,e,c,s _ _ h1,IsD.same s h2⟩
theorem qf (h:xs.getLast?=some v):atI xs (-1)=some v:=by
 rw[Jz] at h;have hl:0<xs.length:=by
  cases xs with
  |nil=>simp at h
  |cons _ _=>simp
 unfold atI;have e:ixN xs.length (-1)=some (xs.length-1):=by
  unfold ixN;simp;omega
 rw[e];exact h
theorem v9 {K:Ia}{H:Hp}{ps:List Pt}{xs:List V}{z:Pt}(h:aD K H (ps.map ptD) xs)(e:ps.getLast?=some z):∃ v,xs.getLast?=some v/\IsD K H (ptD z) v:=by
 rw[Jz] at e;obtain⟨v,h1,h2⟩:=mW h e;refine⟨v,?_,h2⟩;rw[Jz,<- h.length,Ij];exact h1
theorem B_ {a:Rat}(h:p.1<q.1):onl p q a=((p.2*(q.1-p.1)*(a.den:Int)+(a.num-p.1*(a.den:Int))*(q.2-p.2):Int):Rat)/(((q.1-p.1)*(a.den:Int):Int):Rat):=by
 have h1:((q.1:Rat)-(p.1:Rat))≠0:=λz=>by
  have e:((q.1-p.1:Int):Rat)=((0:Int):Rat):=by rw[Jg];exact z
  have e:q.1-p.1=0:=by exact_mod_cast e
  omega
 have h2:=jS a;have ea:=iW a;unfold onl;rw[Ni,IP,IP,IP,IP,Jg,Jg,Jg,IP];generalize ((a.den:Int):Rat)=d at *;generalize (a.num:Rat)=n at *;generalize (p.1:Rat)=p1 at *;generalize (p.2:Rat)=p2 at *;generalize (q.1:Rat)=q1 at *;generalize (q.2:Rat)=q2 at *;subst ea;grind
theorem o_ (h:Pts ps){a c:Rat}{k:Nat}(ha:Bq k a)(x:OnC ps a c):Bq (k+40) c:=by
 obtain⟨j,p,q,s,rfl⟩:=x;have hlt:=(h.up j p q s.lo s.hi).1;have ip:=h.inn p (IM s.lo);have iq:=h.inn q (IM s.hi);have s10:∀ {i:Int},0<=i->i<=1000->Sm 10 i:=λh1 h2=>by unfold Sm;omega
 have s11:∀ {i j:Int},0<=i->i<=1000->0<=j->j<=1000->Sm 11 (i-j):=λh1 h2 h3 h4=>by unfold Sm;omega
 have sr:Sm 11 (q.1-p.1):=s11 iq.a1 iq.a2 ip.a1 ip.a2;have su:Sm 11 (q.2-p.2):=s11 iq.b1 iq.b2 ip.b1 ip.b2;rw[B_ hlt];refine l0 (Jf (by omega) (by exact_mod_cast a.den_nz)) ?_ ((sr.mul ha.sd).mono (by omega));have t1:=((s10 ip.b1 ip.b2).mul sr).mul ha.sd;have t2:=((ha.sn.mono (show k<=10+k by omega)).sub ((s10 ip.a1 ip.a2).mul ha.sd)).mul su;exact((t1.mono (show 10+11+k<=k+30 by omega)).add (t2.mono (show 10+k+1+11<=k+30 by omega))).mono (by omega)
def qX {α:Type}(n m:Nat)(ds us ws:List α):List α:=cond (QI us.length n&&QI ws.length m) (us++(ws++ds)) []
theorem vo {n m:Nat}(hd:bD dvs ds)(a:bD vs us)(b:bD zs ws):bD (qX n m dvs vs zs) (qX n m ds us ws):=by
 unfold qX;rw[a.length,b.length];cases QI us.length n&&QI ws.length m
 ·exact .nil
 ·exact a.append (b.append hd)
theorem vD {n m k:Nat}(h:(qX n m ds us ws).length=k+1):us.length=n/\ws.length=m/\qX n m ds us ws=us++(ws++ds):=by
 unfold qX at h ⊢;cases z:QI us.length n&&QI ws.length m with
 |false=>rw[z] at h;cases h
 |true=>
  rw[Ju] at z;exact⟨OK z.1,OK z.2,rfl⟩
theorem Gj {K:Ia}{fd:JS}{p:Str}{ps ks:List Str}{n m:Nat} (h:∀ us ws:List Ih,us.length=n->ws.length=m->JD fd ⟨us,ks.zip ws⟩=pure ((p :: ps).zip (us ++ ws))) :
  ng K fd (p::ps) ks (qX n m []) (qX n m []):=
 ⟨λs us ws _ hl=>by
  obtain⟨a,b,c⟩:=vD hl;rw[c,M8];exact .of_eq (h us ws a b),λa b=>vo .nil a b⟩
structure rA (P:IN)(w:Jm)(K:Ia)(mg:Str->Option Ih)(base:Kl)(CX:CXT)(k:Nat)(x m:Str)(ps ks:List Str)(n j:Nat)(dvs:List V)(sp:Sp):Prop where
 ex:∃ (C f:Iv) (fd:JS) (ds:List Ih) (fs:List Str),oC P w K mg base CX k f fd ps sp/\ClF K x fs C/\El K C m f/\mg x=some (.ref C)/\ng K fd ps ks (qX n j ds) (qX n j dvs)
def GD (K:Ia)(x:Str)(sp:Sp)(gV:List V->List V->List V)(E:XK)(tk:TA):TE:=λσ H Q=>tk σ H λzs H1=>∀ C a dx,eF K x C->H1 a=none->H1 dx=none->dx≠a ->
 sp (gV [.ref a] zs) (upd (upd H1 dx (.own a)) a (.ins C dx [])) (λv H2=>v=.non/\Q (.ref a) H2) E
section
variable {X:Cx}{CX:CXT}{K:Ia}{W:WX}{k n j:Nat}{x:Str}{ps ks:List Str}{sp:Sp}{dvs:List V}{p pos:Pos}{tk:TA}{kws:List ND}
theorem Bs (M:Mk X.K C f) (F:oC X.prog X.w X.K X.mg X.base CX k f fd ps sp) (hr:Room (k + 1) X.A)
  (hb:ng X.K fd ps ks g gV)(hx:∀ J:Hp,∀ s1:Im,Inv X pins σ J s1->∀ e s',CX X.stack J s1 E e s'->X.xe e s')(I:Inv X pins σ H s)(rz:bD zs ws)
  (h:∀ a dx,H a=none->H dx=none->dx≠a->sp (gV [.ref a] zs) (upd (upd H dx (.own a)) a (.ins C dx [])) (λv H2=>v=.non/\Q (.ref a) H2) E):
  IB (IT X.prog X.w) X.A (call (.ref C) [] (ks.zip ws)) (EP X pins σ Q) X.xe s:=by
 have hq:=h (s.heap.objs.size+1) s.heap.objs.size (I.hok.fresh (Nc _)) (I.hok.fresh (Il _)) (IK (JY _));have J:=Inv.made (C:=C) I;have rr:=hb.rel (show bD [V.ref (s.heap.objs.size+1)] [IX (s.heap.objs.size+1)] from .cons rfl .nil) rz;have hn:(g [IX (s.heap.objs.size+1)] ws).length=ps.length:=rr.length.symm.trans (F.len _ _ _ _ hq);refine M4 (qu (f:=f) I.kIn M.makes M.init (K0.mp M.fn) (Lf (F.run _ X.stack _ _ ⟨[IX (s.heap.objs.size+1)],ks.zip ws⟩ (g [IX (s.heap.objs.size+1)] ws) _ _ E (hr.make C [] (ks.zip ws))
  (J.env0.make C [] (ks.zip ws)) (hb.to _ [IX (s.heap.objs.size+1)] ws J.kIn hn) rr hq) λz s' hz=>?_))
 match z,hz with
 |.error v,hz=>exact hx _ _ J v s' hz
 |.ok (.ret u),hz=>
  obtain⟨v,H',J3,rv,ev,q3⟩:=J.after hz;subst ev;exact⟨rv,⟨V.ref (s.heap.objs.size+1),H',J3,rfl,q3⟩⟩
theorem vX (hK:X.K=K) (hX:NoX CX) (C:rA X.prog X.w X.K X.mg X.base CX k x "__init__" ps ks n j dvs sp) (hr:Room (k + 1) X.A) (hg:Gl X x) (hkw:WK X kws tk)
  (hall:(LK pos (Kt kws X.env)).all (·.1.isSome)=true:=by rfl)(hks:(LK pos (Kt kws X.env)).filterMap (·.1)=ks:=by rfl)(hdb:(x==("__debug__":Str))=false:=by decide)
  (hpl:((Mw pos (IR [] X.env)).any (·.1)||(LK pos (Kt kws X.env)).any (·.1.isNone))=false:=by rfl):
  WE X (.Call (.Name x p) [] kws pos) (GD K x sp (qX n j dvs) E0 tk):=by
 have hkw:=hkw.go;refine⟨?_⟩;subst hK;obtain⟨D,f,fd,ds,fs0,F,cf,hm,hmg,hb⟩:=C.ex;intro pins s σ H Q I h;refine JT (iE I hg hmg ?_ hdb);refine PySem.W.callWith_KW0 (h₀:=X.base) I.ok.mod.kin cf.kp hall (thn (hkw pos pins s σ H _ I h) λws s2 ⟨zs,H2,I2,rz,q2⟩=>⟨I2.kIn,?_⟩) hpl;rw[hks];exact Bs ⟨cf.makes,hm.at_,hm.fn,cf.kp⟩ F hr hb (λJ s1 I1 e s' z=>(rp hX) _ _ _ _ _ _ I1 z) I2 rz λa dx h1 h2 h3=>q2 D a dx cf.at_ h1 h2 h3
end
structure kN (K:Ia)(mg:Str->Option Ih)(x m qual:Str)(st:Ke)(ps ks:List Str)(n j:Nat)(dvs:List V):Prop where
 ex:∃ (C f:Iv) (fd:JS) (oc:Ih) (od:Option Iv) (dV kV doc pm:Ih) (an:Option Iv) (cdv ct:Ih) (osl:Array (Option Ih)) (ds:List Ih) (fs:List Str),
  fd=IH m qual (aJ st) (aF st) (ag st) dV kV doc pm an cdv ct/\K.lookup f=some ⟨oc,od,.func fd,osl⟩/\I_ K cdv qual=true /\
  ClF K x fs C/\El K C m f/\mg x=some (.ref C)/\ng K fd ps ks (qX n j ds) (qX n j dvs)
section
variable {P:IN}{w:Jm}{K:Ia}{mg:Str->Option Ih}{base:Kl}{CX:CXT}{x m qual:Str}{st:Ke}{N ps ks:List Str}{n j:Nat}{dvs:List V}{k:Nat}{sp:Sp}
theorem kN.cal (F:kN K mg x m qual st ps ks n j dvs) (S:am N ps (ag st)) (len:∀ vs H Q E,sp vs H Q E->vs.length=ps.length)
  (hbody:∀ (f:Iv) (cdv:Ih) (A:JA) (outer:List Env) (s:Im) (H:Hp) (vs:List V) (Q:VK) (E:XK),Room k (A.deeper (Oq qual (ag st) s.heap.objs.size f cdv))->sp vs H Q E ->
   ∃ t,PSs (As CX P w K mg base N qual (ag st) f cdv A outer s H E).nox (aF st) t/\t { nx:=λ_ H'=>Q .non H',rt:=Q } (lP N vs) H):rA P w K mg base CX (k+1) x m ps ks n j dvs sp:=by
 obtain⟨C,f,fd,oc,od,dV,kV,doc,pm,an,cdv,ct,osl,ds,fs,rfl,lk,hcd,cf,hm,hmg,hb⟩:=F.ex;refine⟨C,f,_,ds,fs,yI lk hcd S len λA outer s H vs Q E hr hsp=>?_,cf,hm,hmg,hb⟩;obtain⟨t,h,q⟩:=hbody f cdv A outer s H vs Q E hr hsp;exact⟨t,h.nox,q⟩
theorem mi {p:Str}{ps fs:List Str}{C f:Iv}{oc:Ih}{od an:Option Iv}{osl:Array (Option Ih)}{kV doc pm cdv ct:Ih} (l:K.lookup f=some ⟨oc,od,.func (IH m qual (aJ st) (aF st) (ag st) .none kV doc pm an cdv ct),osl⟩)
  (c:I_ K cdv qual=true)(kp:IU K (.ref f)=true)(fn:Ky K (.ref f)=true)(a:Iw K Ik x=some (some (.ref C)))(b:IQ K (.ref C) m=some (some (.ref f)))(hc:ma K x fs=true)(g:mg x=some (.ref C))
  (h:∀ us ws:List Ih,us.length=n->ws.length=j->JD (IH m qual (aJ st) (aF st) (ag st) .none kV doc pm an cdv ct) ⟨us,ks.zip ws⟩=pure ((p::ps).zip (us++ws))):kN K mg x m qual st (p::ps) ks n j []:=by
 obtain⟨D,cf⟩:=mK hc;cases bZ cf.at_ a;exact⟨_,f,_,oc,od,.none,kV,doc,pm,an,cdv,ct,osl,[],fs,rfl,l,c,cf,⟨b,fn,kp⟩,g,Gj h⟩
end
structure FnV (P:IN)(w:Jm)(K:Ia)(mg:Str->Option Ih)(base:Kl)(CX:CXT)(k:Nat)(v:V)(sp:Sp):Prop where
 ex:∃ (f:Iv) (fd:JS) (ps:List Str),v=.ref f/\oC P w K mg base CX k f fd ps sp/\IU K (.ref f)=true/\oN K fd ps []
theorem Cal.fnV {P:IN}{w:Jm}{K:Ia}{mg:Str->Option Ih}{base:Kl}{CX:CXT}{j k:Nat}{x:Str}{ps:List Str}{sp:Sp}{f:Iv}(C:Cal P w K mg base CX j x ps [] sp)(h:mg x=some (.ref f))(l:j<=k):FnV P w K mg base CX k (.ref f) sp:=by
 obtain⟨f',fd,ds,F,hm,hk,hb,hv⟩:=C.ex;rw[h] at hm;cases hm;cases hv;exact⟨f,fd,ps,rfl,F.mono l,hk,hb⟩
def GP (P:IN)(w:Jm)(K:Ia)(mg:Str->Option Ih)(base:Kl)(CX:CXT)(k i:Nat)(t:TA):TE:=λσ H Q=>∃ v,σ[i]?=some (some v)/\∃ sp,FnV P w K mg base CX k v sp/\t σ H λvs H1=>sp vs H1 Q E0
theorem Bb {X:Cx}{P:IN}{w:Jm}{K:Ia}{mg:Str->Option Ih}{base:Kl}{CX:CXT}{k i:Nat}{x:Str}{e:KI}{es:List KI}{t:TA}{p pos:Pos} (hP:X.prog=P) (hw:X.w=w) (hK:X.K=K) (hmg:X.mg=mg) (hba:X.base=base) (hX:NoX CX) (hr:Room k X.A)
  (hv:WE X (.Name x p) (yx i))(ha:WA X (e::es) t)
  (he:IR (e::es) X.env=(false,L6 e X.env)::IR es X.env:=by rfl)(hpl:(Mw pos (IR es X.env)).any (·.1)=false:=by rfl):WE X (.Call (.Name x p) (e::es) [] pos) (GP P w K mg base CX k i t):=by
 have hv:=hv.go;have ha:=ha.go;refine⟨?_⟩;subst hP hw hK hmg hba;intro pins s σ H Q I h;obtain⟨v,hi,sp,F,h⟩:=h;obtain⟨f,fd,ps,rfl,F,hk,hb⟩:=F.ex;refine JT (thn (hv pins s σ H (λv' H'=>v'=V.ref f/\H'=H) I ⟨_,hi,rfl,rfl⟩) λu s1 ⟨v1,H1,I1,rv,e1,e2⟩=>?_);subst e1 e2;cases rv;refine Mm (h₀:=X.base) I.ok.mod.kin hk (thn (ha pos pins s1 σ H1 _ I1 h) λus s2 ⟨vs,H2,I2,r,q⟩=>⟨I2.kIn,?_⟩) he hpl;exact vG (dvs:=[]) F hr hb .nil (rp hX) I2 r (by rw[M8];exact q)
structure wZ (K:Ia)(w:Jm)(mg:Str->Option Ih)(D:Iv)(kvs:List (Str×Str)):Prop where
 ex:∃ (es:Array J_) (n:Nat),K.lookup D=some ⟨.type "dict",none,.dict es n,#[]⟩/\QK w.params es.toList/\NW (λ(e:J_) (p:Str×Str)=>∃ t f,e.key=.str p.1 t/\e.val=.ref f/\mg p.2=some (.ref f)) es.toList kvs
 lo:(D==Kg)=false
theorem vp {mg:Str->Option Ih}:∀ {l:List J_}{kfs:List (Str × Iv)}{kvs:List (Str × Str)},NW (fun (e:J_) (p:Str × Iv)=>∃ t,e.key=.str p.1 t/\e.val=.ref p.2) l kfs ->
  NW (λ(p:Str×Iv) (q:Str×Str)=>p.1=q.1/\mg q.2=some (.ref p.2)) kfs kvs->NW (λ(e:J_) (p:Str×Str)=>∃ t f,e.key=.str p.1 t/\e.val=.ref f/\mg p.2=some (.ref f)) l kvs
 |_,_,_,.nil,.nil=>.nil
 |_,_,_,.cons ⟨t,h1,h2⟩ r,.cons ⟨q1,q2⟩ s=>.cons ⟨t,_,by rw[h1,q1],h2,q2⟩ (vp r s)
theorem wu {mg:Str->Option Ih}{x:Str}:∀ {l:List J_}{kvs:List (Str × Str)},NW (fun (e:J_) (p:Str × Str)=>∃ t f,e.key=.str p.1 t/\e.val=.ref f/\mg p.2=some (.ref f)) l kvs ->
  (match kvs.lookup x with|some n=>∃ f e,l.find? (λd=>K3 x d.key)=some e/\e.val=.ref f/\mg n=some (.ref f)|none=>l.find? (λd=>K3 x d.key)=none)
 |_,_,.nil=>rfl
 |e::l,p::kvs,.cons ⟨t,f,h1,h2,h3⟩ r=>by
  obtain⟨a,b⟩:=p;rw[Ki,KP,h1];have q:K3 x (.str a t)=(x==a):=by
   show decide _=_;rw[Lw];exact Op.mpr ⟨Eq.symm,Eq.symm⟩
  rw[q];cases z:x==a with
  |true=>exact⟨f,e,rfl,h2,h3⟩
  |false=>exact wu r
section
variable {X:Cx}{K:Ia}{w:Jm}{mg:Str->Option Ih}{kvs:List (Str×Str)}
def HY (K:Ia)(w:Jm)(mg:Str->Option Ih)(kvs:List (Str×Str)):TE:=λ_ H Q=>∀ D,wZ K w mg D kvs->Q (.ref D) H
theorem y8 (hg:Gl X x)(hx:∃ D,X.mg x=some (.ref D)/\wZ K w mg D kvs)(hd:(x==("__debug__":Str))=false:=by decide):WE X (.Name x pos) (HY K w mg kvs):=by
 refine⟨?_⟩;intro pins s σ H Q I h;obtain⟨D,hm,hD⟩:=hx;exact iE I hg hm ⟨.ref D,H,I,rfl,h D hD⟩ hd
def E4 (K:Ia)(w:Jm)(mg:Str->Option Ih)(kvs:List (Str×Str)):R2:=λx y H Q=>∃ a D,x=.str a/\y=.ref D/\wZ K w mg D kvs/\Q (.bl (kvs.lookup a).isSome) H
theorem yz {h:Kl}{prog:IN}{D:Iv} (X:K.In h) (T:wZ K w mg D kvs):∃ es:Array J_,h.MapOf (strKind prog w) D (fun k=>findBy K3 es k)/\∀ x,match kvs.lookup x with
  |some n=>∃ f,findBy K3 es x=some (.ref f)/\mg n=some (.ref f)
  |none=>findBy K3 es x=none:=by
 obtain⟨es,n,l,hk,hp⟩:=T.ex;refine⟨es,PySem.W.mapOf_K X l hk,λx=>?_⟩;have q:=wu (x:=x) hp;obtain⟨es⟩:=es;unfold findBy;cases z:kvs.lookup x with
 |none=>
  rw[z] at q;simp only[PM];rw[q];rfl
 |some n=>
  rw[z] at q;obtain⟨f,e,q1,q2,q3⟩:=q;refine⟨f,?_,q3⟩;simp only[PM];rw[q1];show some e.val=_;rw[q2]
theorem BA (hK:X.K=K)(hw:X.w=w):OpR X (Kf .In) (E4 K w mg kvs):=by
 subst hK hw;intro pins s σ H x y v u Q I rx ry h;obtain⟨a,D,rfl,rfl,T,q⟩:=h;obtain⟨t,rfl⟩:=rx;cases ry;obtain⟨es,hm,hf⟩:=yz (prog:=X.prog) I.kIn T;refine wpAny_in_of (strKind_is X.prog X.w a t) T.lo hm ?_;have e:(findBy K3 es a).isSome=(kvs.lookup a).isSome:=by
  have z:=hf a;cases y:kvs.lookup a with
  |none=>rw[y] at z;rw[z];rfl
  |some n=>rw[y] at z;obtain⟨f,z,_⟩:=z;rw[z];rfl
 exact CN (I.tok _) q e.symm
def Fv (K:Ia)(w:Jm)(mg:Str->Option Ih)(kvs:List (Str×Str)):R2:=λx y H Q=>∃ a n D,x=.ref D/\y=.str a/\wZ K w mg D kvs/\kvs.lookup a=some n/\∀ f,mg n=some (.ref f)->Q (.ref f) H
theorem E6 (hK:X.K=K)(hw:X.w=w):IxR X (Fv K w mg kvs):=by
 subst hK hw;intro value slice pins s σ H x y v u Q I rx ry h hs;obtain⟨a,n,D,rfl,rfl,T,hl,q⟩:=h;obtain⟨t,rfl⟩:=ry;cases rx;obtain⟨es,hm,hf⟩:=yz (prog:=X.prog) I.kIn T;have z:=hf a;rw[hl] at z;obtain⟨f,z,g⟩:=z;exact tail_any hm.typeIs slot_dict_getitem.lookup (wpAny_getItem_of (strKind_is X.prog X.w a t) hm z ⟨.ref f,H,I.tok _,rfl,q f g⟩) hs
end
def zZ:List String:=["NoneType","bool","int","str","list","tuple","dict"]
def icB (K:Ia)(x:Str):Bool:=(qK K x).any λC=>IQ K (.ref C) "__class__"==some (some (.builtin "object.__class__"))&&MG K (.builtin "object.__class__") "__get__"==some (some (.builtin "getset_descriptor.__get__")) &&
 Ng K (.builtin "object.__class__")==some true&&Mn K C (.type "object")==some true&&zZ.all λT=>ML K (.type T) (.ref C)==some false
def HV (K:Ia)(x:Str):List V->Hp->VK->Prop:=λxs H Q=>∃ v C,xs=[v,.ref C]/\eF K x C/\((∃ a dx fs,v=.ref a/\H a=some (.ins C dx fs)/\Q (.bl true) H)\/∃ T,Ty K H v T/\T∈zZ/\Q (.bl false) H)
theorem DK {X:Cx}{K:Ia}{x:Str}{fs0:List Str}(hK:X.K=K)(hc:ma K x fs0=true)(hi:icB K x=true):eN X (.builtin "isinstance") (HV K x):=by
 subst hK;intro pins s σ H xs us Q I r h;obtain⟨v,C,rfl,hC,h⟩:=h;obtain⟨u,w,rfl,rx,rw'⟩:=q_ r;cases(show w=IX C from rw');obtain⟨D,cf⟩:=mK hc;cases bZ hC cf.at_;obtain⟨E,e,q⟩:=rS hi;rw[qT hC] at e;cases e;simp only[Ju,K0,Kh] at q;obtain⟨⟨⟨⟨q1,q2⟩,q3⟩,q4⟩,q5⟩:=q;rcases h with ⟨a,dx,fs,rfl,ha,h⟩|⟨T,ty,ht,h⟩
 ·exact nZ I rx (.ins ha cf.cls q1 q2 q3 q4) (by unfold ML;rw[Jh (Oo _)]) λtk=>⟨.bl true,H,I.tok tk,rfl,h⟩
 ·exact nZ I rx ty (q5 T ht) λtk=>⟨.bl false,H,I.tok tk,rfl,h⟩
theorem mN {K:Ia}{x:Str}{fs:List Str}(h:ma K x fs=true):∃ C,eF K x C:=by
 obtain⟨C,cf⟩:=mK h;exact⟨C,cf.at_⟩
namespace ZF
theorem noFillT:fillsNumberSlot (.type "tuple") "mul"=pure false:=PySem.fillsNumberSlot_seq (id:="tuple.__mul__") (r:=some (.builtin "tuple.__rmul__")) Mu.lookup (by decide +kernel) Od.lookup (by decide +kernel)
theorem repT:seqRepeat? (.type "tuple")=pure (some (.builtin "tuple.__mul__")):=by
 unfold seqRepeat?;rw[QE (T:="tuple") (name:="__mul__") (id:="tuple.__mul__") Mu.lookup (by decide +kernel)];rw[QE (T:="tuple") (name:="__rmul__") (id:="tuple.__rmul__") Od.lookup (by decide +kernel)];rfl
theorem rmulT (a:Int) (t:Tok) (l:Iv) (items:Array Ih) (n:Nat) (dd:Option Iv) (sl:Array (Option Ih)) :
  Meets (Lg.«int.__rmul__» ⟨[.int a t,.ref l],[]⟩) (λ_ R s=>s.heap.get? l=some ⟨.type "tuple",dd,.seq items n,sl⟩/\R (.ok (.ret Value.notImplemented)) s):=.of_wp λprog w A R s h=>by
 obtain⟨hp,g,d,tk,os⟩:=s;obtain⟨hl,h⟩:=h
 wp_walk
 exact⟨_,rfl,h⟩
theorem mulT3 (t:Tok) (l:Iv) (x:Ih) (n:Nat) (dd:Option Iv) (sl:Array (Option Ih)) :
  Meets (Lg.«tuple.__mul__» ⟨[.ref l,.int 3 t],[]⟩) (λ_ R s=>s.heap.get? l=some ⟨.type "tuple",dd,.seq #[x] n,sl⟩/\R (.ok (.ret (.ref s.heap.objs.size))) { s with heap:=s.heap.push { cls:=.type "tuple",data:=.seq #[x,x,x] } }):=.of_wp λprog w A R s h=>by
 obtain⟨hp,g,d,tk,os⟩:=s;obtain⟨hl,h⟩:=h;have f1:=PySem.AutoSeq1.idx_int;have f2:=PySem.AutoSeq1.sub_tuple_tuple
 wp_walk using wpAny_loadPart' hl
 exact⟨_,rfl,h⟩
end ZF
section
variable {X:Cx}
def F7:R2:=λx y H Q=>∃ a z,x=.ref a/\y=.int 3/\H a=some (.tup [z])/\∀ p,H p=none->Q (.ref p) (upd H p (.tup [z,z,z]))
theorem qp:OpR X (M2 .Mult) F7:=by
 intro pins s σ H x y v u Q I rx ry h;obtain⟨a,z,rfl,rfl,ha,q⟩:=h;cases rx;obtain⟨t,rfl⟩:=ry;obtain⟨its,r,p1,_⟩:=I.tuple (SqT.of (K:=X.K) ha);obtain⟨v,rfl,rv⟩:=mY r;obtain⟨o,e,c,n,d⟩:=p1;obtain⟨oc,dd,od,sl⟩:=o;simp only at c d;subst c d;refine NN (T:="tuple") (U:="int") (by decide) ⟨_,e,rfl⟩ (λs'=>OW s' 3 t) ZF.noFillT PF Mh ZF.repT Po.lookup
  (N4 Mh (OW s 3 t) Pm (O0 _ _) (ZF.rmulT 3 t a #[v] n dd sl)
   ⟨e,rfl,⟨_,e,rfl⟩,N4 Mu ⟨_,e,rfl⟩ PySem.F.entry_tuple_mul (PySem.F.args_tuple_mul_2 _ _) (ZF.mulT3 t a v n dd sl) ⟨e,?_⟩⟩)
 have hf:H s.heap.objs.size=none:=I.hok.fresh (Il _);refine⟨.ref s.heap.objs.size,upd H s.heap.objs.size (.tup [z,z,z]),I.laid (t':=s.toks) (λb u e=>Ic _ e) (Il _) ?_,rfl,q _ hf⟩;exact⟨by show 3<=II;decide,[v,v,v],.cons rv (.cons rv (.cons rv .nil)),⟨_,Io _ rfl,rfl,_,rfl⟩⟩
end
structure En where
 w:R3
 b:R3
structure En.In (e:En):Prop where
 a0:0<=e.b.a
 a1:e.b.a<e.w.a
 a2:e.w.a<=1000
 b0:0<=e.b.b
 b1:e.b.b<e.w.b
 b2:e.w.b<=1000
 c0:0<=e.b.c
 c1:e.b.c<e.w.c
 c2:e.w.c<=1000
theorem rn (n:Int):rD (n:Rat)=shD n 1:=by
 show shD (n:Rat).num ((n:Rat).den:Int)=_;rw[Nk,Nh];rfl
theorem BY (n:Int):((n:Int):Rat)/((1:Int):Rat)=(n:Rat):=by
 have:((1:Int):Rat)=1:=rfl;rw[this];grind
theorem lB {k:Nat}{n:Int}(h:Sm k n)(hk:0<k):Bq k (n:Rat):=by
 have e:=BY n;rw[<- e];refine l0 (by decide) h ?_;unfold Sm;have:=Nat.one_lt_two_pow (n:=k) (by omega)
 simpa using this
theorem GZ {n:Int}(h0:-1000<=n)(h:n<=1000):Sm 10 n:=by unfold Sm;omega
theorem R3.at {r:R3}{i:Nat}{d:IV}(h:r.ds[i]?=some d):∃ n,d=.int n/\((i=0/\n=r.a)\/(i=1/\n=r.b)\/(i=2/\n=r.c)):=by
 rcases at3 h with ⟨rfl,rfl⟩|⟨rfl,rfl⟩|⟨rfl,rfl⟩
 ·exact⟨_,rfl,.inl ⟨rfl,rfl⟩⟩
 ·exact⟨_,rfl,.inr (.inl ⟨rfl,rfl⟩)⟩
 ·exact⟨_,rfl,.inr (.inr ⟨rfl,rfl⟩)⟩
def wiB (b w:Int)(q:Rat):Bool:=decide (b*(q.den:Int)<=q.num)&&decide (q.num<=w*(q.den:Int))
def En.has (e:En)(c:Q3):Bool:=wiB e.b.a e.w.a c.a&&(wiB e.b.b e.w.b c.b&&(wiB e.b.c e.w.c c.c&&true))
section
variable {K:Ia}{g:TG}{tt:TT}{te:TE}{σ0:L2.St}{Fin:List V->Hp->Prop}{H1:Hp}
theorem wE {t r D:Iv}{xs:List V}{Pn:Nat->Int->Prop} (tw:c_ H1 t r) (hD:H1 D=some (.lst xs)) (nD:D ∉ [t,r]) (hl:xs.length <= 1000)
  (he:∀ i x H,xs[i]?=some x->c_ H t r->Mv [t,r] H1 H->nJ g tt te σ0 x H λy H'=>c_ H' t r/\Mv [t,r] H H'/\∃ n,Pn i n/\y=.int n)
  (hd:∀ (ns:List Int) H,ns.length=xs.length->(∀ i n,ns[i]?=some n->Pn i n)->c_ H t r->Mv [t,r] H1 H->Fin (ns.map V.int) H):iA (Itq K D true) g tt te σ0 Fin H1:=by
 refine⟨λi m ys H=>m=xs.length-i/\i<=xs.length/\c_ H t r/\Mv [t,r] H1 H/\∃ ns:List Int,ys=ns.map V.int/\ns.length=i/\∀ j n,ns[j]?=some n->Pn j n,⟨xs.length,by omega,Jj _,tw,Mv.refl,[],rfl,rfl,λj n h=>by simp at h⟩,?_⟩;rintro i m ys H ⟨rfl,hi,tw',mv,ns,rfl,hn,hP⟩;have hq:SqL K H D xs:=SqL.of (mv _ _ hD nD)
 by_cases hlt:i<xs.length
 ·have go:(Itq K D true).go i H:=⟨xs,xs[i],hq,by simp[hlt]⟩
  refine .inr ⟨go,bg (by rw[Ij];omega),λx H3 y3=>?_⟩;obtain⟨rfl,hx⟩:H3=H/\xs[i]?=some x:=⟨y3.1,y3.2 xs hq⟩
  refine he i x _ hx tw' mv _ (λy H' ⟨tw2,mv2,n,hp,ey⟩=>⟨xs.length-(i+1),by omega,rfl,hlt,tw2,mv.trans mv2,ns++[n],?_,?_,λj k hj=>?_⟩) λH5=>∃ m',m'<xs.length-i/\(m'=xs.length-(i+1)/\i+1<=xs.length/\c_ H5 t r/\Mv [t,r] H1 H5/\∃ ns':List Int,ns.map V.int=ns'.map V.int/\ns'.length=i+1/\∀ j n,ns'[j]?=some n->Pn j n)
  ·rw[ey,JM];rfl
  ·rw[IL,hn];rfl
  ·by_cases hj':j<ns.length
   ·rw[Kv hj'] at hj;exact hP j k hj
   ·rw[Kk (by omega)] at hj;have:j-ns.length=0:=by
     cases z:j-ns.length with
     |zero=>rfl
     |succ k=>rw[z] at hj;cases hj
    rw[this] at hj;cases hj;rw[show j=i by omega];exact hp
 ·have e:i=xs.length:=by omega
  subst e;exact .inl ⟨⟨xs,hq,Il _⟩,cI (by rw[Ij];omega),hd ns H hn hP tw' mv⟩
end
theorem Cm {n:Int}(h:n≠0):(n:Rat)≠0:=λz=>h (Rat.intCast_eq_zero_iff.mp z)
def R3.col (r:R3):Q3:=⟨(r.a:Rat),(r.b:Rat),(r.c:Rat)⟩
section
variable {K:Ia}{g:TG}{tt:TT}{te:TE}{σ0:L2.St}{Fin:List V->Hp->Prop}{H1:Hp}
theorem mI {lo:Int}{n:Nat} (Pv:Nat->List V->Hp->Prop) (h0:Pv 0 [] H1) (hl:n <= 1000) (hy:∀ i ys H,i <= n->Pv i ys H->ys.length <= i)
  (he:∀ i ys H,i<n->Pv i ys H->∀ (R:V->Hp->Prop) (S:Hp->Prop),(∀ y H',Pv (i+1) (ys++[y]) H'->R y H')->(∀ H',Pv (i+1) ys H'->S H')->g (.int (lo+i)) σ0 H λσ' H4=>tt σ' H4 λc H5=>if c=true then te σ' H5 R else S H5)
  (hd:∀ ys H,Pv n ys H->Fin ys H):iA (Itr lo n) g tt te σ0 Fin H1:=by
 refine⟨λi m ys H=>m=n-i/\i<=n/\Pv i ys H,⟨n,by omega,Jj _,h0⟩,?_⟩;rintro i m ys H ⟨rfl,hi,p⟩;have hyl:=hy i ys H hi p
 by_cases hlt:i<n
 ·refine .inr ⟨hlt,bg (by omega),λx H3 y3=>?_⟩;obtain⟨e1,e2⟩:=y3;subst e1 e2;exact he i ys _ hlt p _ _ (λy H' z=>⟨n-(i+1),by omega,rfl,hlt,z⟩) (λH' z=>⟨n-(i+1),by omega,rfl,hlt,z⟩)
 ·have e:i=n:=by omega
  subst e;exact .inl ⟨Il _,cI (by omega),hd ys H p⟩
end
section
variable {K:Ia}{g:TG}{tt:TT}{te:TE}{σ0:L2.St}{Fin:List V->Hp->Prop}{H1:Hp}
theorem jR (Pv:Nat->List V->Hp->Prop) (h0:Pv 0 [] H1) (hl:xs.length <= 1000) (hsrc:∀ i ys H,i <= xs.length->Pv i ys H->SqB K H a xs b/\ys.length <= i)
  (he:∀ i x ys H,xs[i]?=some x->Pv i ys H->∀ (R:V->Hp->Prop) (S:Hp->Prop),(∀ y H',Pv (i+1) (ys++[y]) H'->R y H')->(∀ H',Pv (i+1) ys H'->S H')->g x σ0 H λσ' H4=>tt σ' H4 λc H5=>if c=true then te σ' H5 R else S H5)
  (hd:∀ ys H,Pv xs.length ys H->Fin ys H):iA (Itq K a b) g tt te σ0 Fin H1:=by
 refine⟨λi m ys H=>m=xs.length-i/\i<=xs.length/\Pv i ys H,⟨xs.length,by omega,Jj _,h0⟩,?_⟩;rintro i m ys H ⟨rfl,hi,p⟩;obtain⟨hq,hyl⟩:=hsrc i ys H hi p
 by_cases hlt:i<xs.length
 ·have go:(Itq K a b).go i H:=by cases b<;>exact⟨xs,xs[i],hq,by simp[hlt]⟩
  refine .inr ⟨go,bg (by omega),λx H3 y3=>?_⟩;have e3:H3=H/\xs[i]?=some x:=by cases b<;>exact⟨y3.1,y3.2 xs hq⟩
  obtain⟨rfl,hx⟩:=e3;exact he i x ys _ hx p _ _ (λy H' z=>⟨xs.length-(i+1),by omega,rfl,hlt,z⟩) (λH' z=>⟨xs.length-(i+1),by omega,rfl,hlt,z⟩)
 ·have e:i=xs.length:=by omega
  subst e;have stop:(Itq K a b).stop xs.length H:=by cases b<;>exact⟨xs,hq,Il _⟩
  exact .inl ⟨stop,cI (by omega),hd ys H p⟩
end
theorem ixL {K:Ia}{H:Hp}{a:Iv}{xs:List V}{i:Int}{j:Nat}{v:V}{Q:VK}(h:H a=some (.lst xs))(e:xs[j]?=some v)(hi:i=(j:Int))(q:Q v H):rIx K (.ref a) (.int i) H Q:=
 .inl ⟨a,xs,_,v,rfl,rfl,SqL.of h,by rw[hi];exact m9 e,q⟩
def KT (K:Ia)(a:Iv)(xs:List V):Prop:=∃ (o:Obj) (its:Array Ih) (n:Nat),K.lookup a=some o/\o.cls=.type "tuple"/\o.data=.seq its n/\its.size<=II/\bD xs its.toList
theorem KT.sq {K:Ia}{H:Hp}{a:Iv}{xs:List V}(h:KT K a xs):SqT K H a xs:=.inr h
theorem AW {s:Im}{K:Ia}{fd:JS}{args:Args}{binds:List (Str × Ih)}{D:Iv}{o:Obj}{part:Option Ih}{kk:Obj->Sem (List (Str × Ih))} (X:K.In s.heap) (e:K.lookup D=some o)
  (h1:JD fd args=Sem.load D part kk)(h2:kk o=pure binds):Pj s fd args binds:=λM A E Q hq=>by
 refine(PySem.W.Looks.of_peek X ?_).here hq;rw[h1];have h2':kk o=Sem.pure binds:=h2;simp only[PySem.W.peek,e,h2']
def twB (n l m:Int):IV->Bool
 |.tuple ds=>decide ((ds.length:Int)=n)&&(ds.map (wwB l m)).all id
 |_=>false
end TR
namespace TR
open PySem PySem.Spec PyProof.Rows
def Up (xs:List Nat):Prop:=xs.Pairwise (·<·)
theorem zu (h:Up xs){i j:Nat}(hi:i<j)(hj:j<xs.length):xs[i]<xs[j]:=
 NH.mp h i j (by omega) hj hi
theorem AJ {j:Nat} (h:Up xs.toList):∀ (f lo hi:Nat),hi <= xs.size->hi <= lo + f->lo <= hi ->
  (∀ i (w:i<xs.size),i<lo->xs[i]<j)->(∀ i (w:i<xs.size),hi<=i->j<=xs[i]) ->
  (∀ i (w:i<xs.size),i<MH xs j f lo hi->xs[i]<j)/\(∀ i (w:i<xs.size),MH xs j f lo hi<=i->j<=xs[i])/\MH xs j f lo hi<=xs.size:=by
 intro f
 induction f with
 |zero=>
  intro lo hi h1 h2 h3 ha hb;have:lo=hi:=by omega
  subst this;exact⟨ha,hb,h1⟩
 |succ f ih=>
  intro lo hi h1 h2 h3 ha hb;unfold MH
  split
  ·rename_i hlt
   have hm:(lo+hi)/2<xs.size:=by omega
   have hg:xs.getD ((lo+hi)/2) j=xs[(lo+hi)/2]:=by simp[P4,hm]
   dsimp only;rw[hg]
   split
   ·rename_i hc
    refine ih _ _ h1 (by omega) (by omega) (λi w hi'=>?_) hb
    by_cases e:i=(lo+hi)/2
    ·subst e;exact hc
    ·have:=zu h (i:=i) (j:=(lo+hi)/2) (by omega) (by simpa using hm);simp only[JI] at this;omega
   ·rename_i hc
    refine ih _ _ (by omega) (by omega) (by omega) ha (λi w hi'=>?_)
    by_cases e:i=(lo+hi)/2
    ·subst e;omega
    ·have:=zu h (i:=(lo+hi)/2) (j:=i) (by omega) (by simpa using w);simp only[JI] at this;omega
  ·have:lo=hi:=by omega
   subst this;exact⟨ha,hb,h1⟩
theorem qz {j:Nat} (h:Up xs.toList) :
  (∀ i (w:i<xs.size),i<Jl xs j->xs[i]<j)/\(∀ i (w:i<xs.size),Jl xs j<=i->j<=xs[i])/\Jl xs j<=xs.size:=by
 unfold Jl;exact AJ h _ _ _ (Il _) (by omega) (by omega) (λi w hi=>by omega) (λi w hi=>by omega)
theorem AU {j:Nat}(h:Up xs.toList)(hj:(xs[Jl xs j]?==some j)=false):j∉xs.toList:=by
 intro hm;obtain⟨i,hi,e⟩:=J4 hm;have hi':i<xs.size:=by simpa using hi
 simp only[JI] at e;obtain⟨b1,b2,b3⟩:=qz (j:=j) h;have h1:¬ i<Jl xs j:=λq=>by have:=b1 i hi' q;omega
 by_cases h2:Jl xs j=i
 ·rw[h2] at hj;simp[hi',e] at hj
 ·have h3:Jl xs j<xs.size:=by omega
  have:=b2 _ h3 (Il _);have:=zu h (i:=Jl xs j) (j:=i) (by omega) (by simpa using hi');simp only[JI] at this;omega
theorem u9 (xs:Array α)(p:Nat)(x:α):(N0 xs p x).toList=xs.toList.take p++x::xs.toList.drop p:=by
 unfold N0;simp;exact Jc (by simp)
theorem tQ {j:Nat}(h:Up xs.toList)(hj:j∉xs.toList):Up (N0 xs (Jl xs j) j).toList:=by
 rw[u9];obtain⟨b1,b2,b3⟩:=qz (j:=j) h;unfold Up at *;rw[O3,Kb];refine⟨h.sublist (NV _ _),⟨λa ha=>?_,h.sublist (P8 _ _)⟩,λa ha b hb=>?_⟩
 ·obtain⟨i,hi,e⟩:=J4 ha;rw[P'] at e;have hi':Jl xs j+i<xs.size:=by simp only[KW,JL] at hi;omega
  have:=b2 _ hi' (by omega);simp only[JI] at e;have hne:a≠j:=λq=>hj (q▸(P8 _ _).subset ha)
  omega
 ·have haj:a<j:=by
   obtain⟨i,hi,e⟩:=J4 ha;rw[P_] at e;simp only[IZ,JL] at hi;have:=b1 i (by omega) (by omega);simp only[JI] at e;omega
  rcases Iy.mp hb with rfl|hb
  ·exact haj
  ·obtain⟨i,hi,e⟩:=J4 hb;rw[P'] at e;have hi':Jl xs j+i<xs.size:=by simp only[KW,JL] at hi;omega
   have:=b2 _ hi' (by omega);simp only[JI] at e;omega
theorem tZ {t:LJ}{j:Nat}(h:Up t.place.toList)(hs:∀ i,t.slot j≠.live i):j∉t.place.toList:=by
 refine AU h ?_;cases e:(t.place[Jl t.place j]?==some j) with
 |false=>rfl
 |true=>
  refine absurd ?_ (hs (Jl t.place j));unfold SetTable.slot;dsimp only;rw[Jh e]
theorem wJ {t:LJ}{ha:Nat->Int}{hh:Int} (h:Up t.place.toList):∀ (f:Nat) (p:SetTable.Probe),(∀ d,p.dummy=some d->d ∉ t.place.toList) ->
  ∀ j d,Qg t ha hh f p=some (.empty j d)->d.getD j∉t.place.toList:=by
 intro f
 induction f with
 |zero=>intro p _ j d e;cases e
 |succ f ih=>
  intro p hp j d e;unfold Qg at e
  split at e
  ·rename_i hs
   cases e;have:=tZ h (j:=p.j) (λi=>by rw[hs];exact λq=>by cases q);cases hd:p.dummy with
   |none=>exact this
   |some d=>exact hp d hd
  ·rename_i hs
   have:=tZ h (j:=p.j) (λi=>by rw[hs];exact λq=>by cases q);refine ih _ (λd hd=>?_) j d e;have hd':some p.j=some d:=by
    rw[<- hd];unfold QF;dsimp only;split<;>rfl
   cases hd';exact this
  ·split at e
   ·cases e
   ·refine ih _ (λd hd=>hp d ?_) j d e;rw[<- hd];unfold QF;dsimp only;split<;>rfl
theorem tG {t:LJ}{hh:Int}{slot:Nat}{dm:Bool}(h:Up t.place.toList)(e:t.freeSlot hh=some (slot,dm)):slot∉t.place.toList:=by
 unfold SetTable.freeSlot at e
 split at e
 ·rename_i j d q
  cases e;exact wJ h _ _ (λd hd=>by cases hd) _ _ q
 ·cases e
def Tb (led:Bool)(t:LJ):Prop:=Up t.place.toList/\t.led=led
theorem AZ (n:Nat):Up (Array.range n).toList:=by
 rw[Array.toList_range];exact Ow
theorem iO (n:Nat)(h:Tb led t):Tb led (t.standIn n):=⟨AZ n,h.2⟩
theorem EC {led:Bool}{t:LJ}{es:Array (Int×Ih)}{hh:Int}{x:Ih}(h:Tb led t):Tb led (layNew t es hh x).2.1:=by
 unfold layNew
 split
 ·rename_i slot dm e
  dsimp only;unfold SetTable.orStandIn
  split
  ·exact⟨tQ h.1 (tG h.1 e),h.2⟩
  ·exact iO _ ⟨tQ h.1 (tG h.1 e),h.2⟩
 ·exact iO _ h
theorem C_ {f:Nat->Option Nat}:∀ {l:List Nat},Up l->Up ((l.filterMap λj=>(f j).map (j,·)).map (·.1)):=by
 intro l
 induction l with
 |nil=>intro _;exact NT
 |cons a l ih=>
  intro h;have h':=Kb.mp h;have:=ih h'.2;rw[LX];cases e:f a with
  |none=>exact this
  |some b=>
   refine Kb.mpr ⟨λx hx=>?_,this⟩;obtain⟨y,hy,rfl⟩:=Js.mp hx;obtain⟨j,hj,q⟩:=Lq.mp hy;cases e':f j with
   |none=>rw[e'] at q;cases q
   |some c=>rw[e'] at q;cases q;exact h'.1 j hj
theorem AH {led:Bool}{t:LJ}{es:Array (Int×Ih)}{n:Nat}(h:Tb led t):Tb led (PZ t es n).2.1:=by
 unfold PZ
 split
 ·rename_i t' order e
  dsimp only
  split
  ·unfold SetTable.relaid SetTable.laid at e;cases q:SetTable.layClean (SetTable.sizeAbove n-1) (es.map (·.1)) with
   |none=>rw[q] at e;cases e
   |some owner=>
    rw[q] at e;cases e;refine⟨?_,h.2⟩;simp only;exact C_ Ow
  ·exact iO _ h
 ·exact iO _ h
section
variable {pr:IN}{wo:Jm}{Ar:JA}{Ex:Ih->Im->Prop}{st:Im}
def j5 (pr:IN)(wo:Jm)(led:Bool)(H:Kl)(a:Iv)(ks:List Int):Prop:=
 ∃ ob xs ep tb,H.get? a=some ob/\ob.ExactSet/\ob.data=.set xs ep tb/\ElemsOf (Lh pr wo) xs.toList /\
  (∀ k,k∈ks↔∃ e∈xs.toList,(Lh pr wo).is k e.2=true)/\xs.size<scanBound/\tb.fits xs.size=true/\xs.size=ks.length/\ks.Nodup/\Tb led tb
theorem mE {led:Bool}{H:Kl}{a:Iv}{ob:Obj}{xs ys:Array (Int × Ih)}{ep:Nat}{tb tc:LJ}{ks:List Int}
  (g1:H.get? a=some ob)(g2:ob.ExactSet)(g3:ob.data=.set xs ep tb)(g4:ElemsOf (Lh pr wo) ys.toList)(g5:∀ k,k∈ks↔∃ e∈ys.toList,(Lh pr wo).is k e.2=true)
  (g6:ys.size<scanBound)(g7:tc.fits ys.size=true)(g8:ys.size=ks.length)(g9:ks.Nodup)(g10:Tb led tc):
  (H.update a (Qc ys tc)).get? a=some { ob with data:=.set ys (ep+1) tc }/\j5 pr wo led (H.update a (Qc ys tc)) a ks:=by
 have e:=putSet_of ys tc g3;have q:=Jx (Qc ys tc) g1 (by rw[e];rfl);rw[e] at q;exact⟨q,_,ys,ep+1,tc,q,g2,rfl,g4,g5,g6,g7,g8,g9,g10⟩
theorem pE {gw:Bool->Sem Unit} (hgw:∀ (b:Bool) (u:Im) (Q':Unit->Im->Prop),Q' () u->IB (IT pr wo) Ar (gw b) Q' Ex u)
  {led:Bool}{a:Iv}{ob:Obj}{xs ys:Array (Int×Ih)}{ep:Nat}{tb tc:LJ}{ks:List Int}
  (g1:st.heap.get? a=some ob)(g2:ob.ExactSet)(g3:ob.data=.set xs ep tb)(g4:ElemsOf (Lh pr wo) ys.toList)(g5:∀ k,k∈ks↔∃ e∈ys.toList,(Lh pr wo).is k e.2=true)
  (g6:ys.size<scanBound)(g7:tc.fits ys.size=true)(g8:ys.size=ks.length)(g9:ks.Nodup)(g10:Tb led tc){dm:Bool}{R:Option Bool->Im->Prop}
  (hR:∀ H',Jw a st.heap H'->j5 pr wo led H' a ks->R (some true) { st with heap:=H' }):
  IB (IT pr wo) Ar (do
    storeSet a ys tc
    if (!dm && tc.tooFull)=true then do
      gw (PZ tc ys (Lm ys.size)).2.2
      storeSet a (PZ tc ys (Lm ys.size)).1 (PZ tc ys (Lm ys.size)).2.1
      pure (some true)
     else pure (some true)) R Ex st:=by
 obtain⟨q1,q2⟩:=mE g1 g2 g3 g4 g5 g6 g7 g8 g9 g10;have sb:=Jp st.heap a (Qc ys tc);refine Ib (wpAny_storeSet_of g1 g3 ?_ (fits_of_scanBound g6))
 split
 ·have pm:=relayAll_perm tc ys (Lm ys.size);have ft:=relayAll_fits tc ys (Lm ys.size);have tr:=AH (es:=ys) (n:=Lm ys.size) g10;generalize PZ tc ys (Lm ys.size)=Z at pm ft tr ⊢;obtain⟨zs,td,gv⟩:=Z;dsimp only at pm ft tr ⊢;have hz:zs.size=ys.size:=by have:=pm.length_eq;simpa using this
  refine Ib (hgw _ _ _ ?_);refine Ib (wpAny_storeSet_of q1 rfl ?_ (fits_of_scanBound (by rw[hz];exact g6)));obtain⟨_,q3⟩:=mE (ob:={ ob with data:=.set ys (ep+1) tc }) (ks:=ks) q1 g2 rfl (g4.perm pm)
   (λk=>(g5 k).trans ⟨λ⟨e,m,i⟩=>⟨e,pm.mem_iff.mpr m,i⟩,λ⟨e,m,i⟩=>⟨e,pm.mem_iff.mp m,i⟩⟩) (by rw[hz];exact g6) ft (hz.trans g8) g9 tr
  exact Ig (hR _ (sb.trans (Jp _ a _)) q3)
 ·exact Ig (hR _ sb q2)
theorem Ak {k:Int} (hu:j5 pr wo led st.heap a ks) (hroom:ks.length + 1 < scanBound)
  (h:∀ H',Jw a st.heap H'->j5 pr wo led H' a (if k∈ks then ks else ks++[k])->Q (!decide (k∈ks)) { st with heap:=H' }):
  IB (IT pr wo) Ar (setAddHashed a (.int k tk) ((Lh pr wo).hash k)) Q Ex st:=by
 obtain⟨ob,xs,ep,tb,g1,g2,g3,g4,g5,g6,g7,g8,g9,g10⟩:=hu;have isk:(Lh pr wo).is k (.int k tk)=true:=intKind_is _ _ _ _;have sck:(Lk k tk).scannable=true:=rfl;have rm:xs.size+1<scanBound:=by rw[g8];exact hroom
 unfold setAddHashed setAddHashedIn;refine JZ (Ib (Jv g1 g3 g7 ?_));dsimp only;rw[byScan_of (knd:=Lh pr wo) sck g6 g4];simp only[↓reduceIte];unfold setAddByScan;refine Ib (Ib (Me ?_));refine Ib (wpAny_setScan_of (knd:=Lh pr wo) isk g1 g3 g7 g4 ?_);cases hf:List.findIdx? (λe=>(Lh pr wo).is k e.2) xs.toList with
 |some j=>
  dsimp only;obtain⟨hj,pj,_⟩:=List.findIdx?_eq_some_iff_getElem.mp hf;have hm:k∈ks:=(g5 k).mpr ⟨_,KE hj,pj⟩;have:=h st.heap (MA a st.heap) (by rw[Jh hm];exact⟨ob,xs,ep,tb,g1,g2,g3,g4,g5,g6,g7,g8,g9,g10⟩);rw[Ir hm] at this;exact Ig (Ig this)
 |none=>
  dsimp only;have hm:k∉ks:=λq=>by
   obtain⟨e,he,hp⟩:=(g5 k).mp q;have:=List.findIdx?_eq_none_iff.mp hf e he;rw[hp] at this;cases this
  rw[IY hm,Jd hm] at h;have pm:=layNew_perm tb xs ((Lh pr wo).hash k) (.int k tk);have ft:=layNew_fits tb xs ((Lh pr wo).hash k) (.int k tk);have tr:=EC (es:=xs) (hh:=(Lh pr wo).hash k) (x:=.int k tk) g10;generalize layNew tb xs ((Lh pr wo).hash k) (.int k tk)=Z at pm ft tr ⊢;obtain⟨ys,tc,dm,gv⟩:=Z;dsimp only at pm ft tr ⊢;rw[P5] at pm;have hz:ys.size=xs.size+1:=by have:=pm.length_eq;simpa using this
  have e4:ElemsOf (Lh pr wo) ys.toList:=(g4.push isk sck).perm pm;have e5:∀ k',k'∈ks++[k]↔∃ e∈ys.toList,(Lh pr wo).is k' e.2=true:=λk'=>by
   have:=mem_push_iff (knd:=Lh pr wo) (S:=λz=>decide (z∈ks)) isk (λz=>by rw[MJ];exact g5 z) pm k';rw[<- this];simp
  have e9:(ks++[k]).Nodup:=Qb.mpr ⟨g9,by simp,λx hx y hy=>by
   rw[Ii] at hy;subst hy;exact λq=>hm (q▸hx)⟩
  refine Ib ?_;have done:∀ (b:Bool) (u:Im) (Q':Unit->Im->Prop),Q' () u->IB (IT pr wo) Ar (match b with|true=>rule "set.scan.the-table-gave-way"|false=>pure ()) Q' Ex u:=
   λb u Q' q=>by cases b<;>first|exact Ig q|exact Me q
  refine done _ _ _ ?_;have goal:∀ td:LJ,td.fits ys.size=true->Tb led td->∀ H',Jw a st.heap H'->j5 pr wo led H' a (ks++[k])->Q true { st with heap:=H' }:=λ_ _ _ H' s1 s2=>h H' s1 s2
  split
  ·refine Ib ?_;rw[hashByValue_scannable 8 sck];refine Ig ?_;refine pE done (ks:=ks++[k]) g1 g2 g3 e4 e5 (by omega) (tc:=if plainKind (.int k tk)=true then tc else { tc with plain:=false }) (ft) (by simp[hz,g8]) e9 tr λH' s1 s2=>?_
   exact Ig (h H' s1 s2)
  ·refine Ib (Ig ?_);simp only[↓reduceIte];refine pE done (ks:=ks++[k]) g1 g2 g3 e4 e5 (by omega) ft (by simp[hz,g8]) e9 tr λH' s1 s2=>?_
   exact Ig (h H' s1 s2)
end
theorem pJ {i:Nat}(h:xs[i]?=some x):(x::xs.eraseIdx i).Perm xs:=by
 induction xs generalizing i with
 |nil=>cases h
 |cons a xs ih=>
  cases i with
  |zero=>cases h;exact NE _
  |succ i=>
   simp only[List.getElem?_cons_succ] at h;exact(List.Perm.swap a x _).trans ((ih h).cons a)
theorem CU (nx:Nat->Nat):∀ (f k:Nat) (left:List α) (out:Array α),f=left.length ->
  (Qy nx f k left out).toList.Perm (out.toList++left):=by
 intro f
 induction f with
 |zero=>intro k left out e;cases left with
  |nil=>simp[Qy]
  |cons a l=>cases e
 |succ f ih=>
  intro k left out e;unfold Qy;have hlt:nx k%left.length<left.length:=Nat.mod_lt _ (by omega);have hg:left[nx k%left.length]?=some left[nx k%left.length]:=ID hlt;rw[hg];dsimp only;refine(ih _ _ _ (by rw[Nr hlt];omega)).trans ?_;rw[P5,Lc];exact List.Perm.append_left _ (pJ hg)
theorem rT (nx:Nat->Nat)(xs:Array α):(Nl nx xs).toList.Perm xs.toList:=by
 unfold Nl;have:=CU nx xs.size 0 xs.toList #[] (by simp)
 simpa using this
def r6 (pl:Array Nat)(i:Nat):Nat:=if i=0 then 0 else pl.getD (i-1) 0+1
theorem pH (h:Up pl.toList){i:Nat}(hi:i<=pl.size):Jl pl (r6 pl i)=i:=by
 obtain⟨b1,b2,b3⟩:=qz (j:=r6 pl i) h;have lo:∀ (k:Nat) (w:k<pl.size),k<i->pl[k]<r6 pl i:=λk w q=>by
  cases i with
  |zero=>omega
  |succ i=>
   have hp:i<pl.size:=by omega
   have eg:r6 pl (i+1)=pl[i]+1:=by simp[r6,P4,hp]
   rw[eg]
   by_cases e:k=i
   ·subst e;omega
   ·have u:=zu h (i:=k) (j:=i) (by omega) (by simpa using hp);simp only[JI] at u;omega
 have up:∀ (k:Nat) (w:k<pl.size),i<=k->r6 pl i<=pl[k]:=λk w q=>by
  cases i with
  |zero=>simp[r6]
  |succ i=>
   have hp:i<pl.size:=by omega
   have eg:r6 pl (i+1)=pl[i]+1:=by simp[r6,P4,hp]
   rw[eg];have u:=zu h (i:=i) (j:=k) (by omega) (by simpa using w);simp only[JI] at u;omega
 have n1:¬ Jl pl (r6 pl i)<i:=λq=>by
  have w:Jl pl (r6 pl i)<pl.size:=by omega
  have x1:=lo _ w q;have x2:=b2 _ w (Il _);omega
 have n2:¬ i<Jl pl (r6 pl i):=λq=>by
  have w:i<pl.size:=by omega
  have x1:=up _ w (Il _);have x2:=b1 _ w q;omega
 omega
theorem cO:Slot "set_iterator" "__next__" "set_iterator.__next__":=
 .of (owner:="set_iterator") (n:="__next__") (by rw[typeLookup_type,builtinLookup_eq_fast];kernel_rfl) (by decide +kernel) (by decide +kernel) (by decide +kernel)
  (by first|exact .inl (by decide +kernel)|exact .inr (by decide +kernel)) (by rw[isSubtype_type];kernel_rfl)
theorem iU:entryFor table "set_iterator.__next__"=some Lg.«set_iterator.__next__»:=entryFor_of_fast (by kernel_rfl)
theorem jP (a:Ih):argsOk "set_iterator.__next__" ⟨[a],[]⟩:=by unfold argsOk;kernel_rfl
theorem jU:Slot "set_iterator" "__iter__" "set_iterator.__iter__":=
 .of (owner:="set_iterator") (n:="__iter__") (by rw[typeLookup_type,builtinLookup_eq_fast];kernel_rfl) (by decide +kernel) (by decide +kernel) (by decide +kernel)
  (by first|exact .inl (by decide +kernel)|exact .inr (by decide +kernel)) (by rw[isSubtype_type];kernel_rfl)
theorem ou:entryFor table "set_iterator.__iter__"=some Lg.«dict_keyiterator.__iter__»:=
 entryFor_alias (id':="dict_keyiterator.__iter__") (by kernel_rfl) rfl (by decide +kernel) (by kernel_rfl)
theorem qy (a:Ih):argsOk "set_iterator.__iter__" ⟨[a],[]⟩:=by unfold argsOk;kernel_rfl
theorem my:entryFor table "set.__iter__"=some Lg.«frozenset.__iter__»:=
 entryFor_alias (id':="frozenset.__iter__") (by kernel_rfl) rfl (by decide +kernel) (by kernel_rfl)
theorem w9 {n:Nat} (hn:n ≠ 0)
  (h:∀ i d,i<n->Q i { s with drawn:=d }):IB M A (choose src n) Q E s:=λ_ _ _=>by
 show Sem.wp _ _ (Sem.choose src n Sem.pure) _ _ _ _;rw[Sem.wp_choose];exact⟨hn,h _ _ (Nat.mod_lt _ (by omega))⟩
theorem BV:∀ (n:Nat) (xs:List α) (s:Im) (Q:List α->Im->Prop),xs.length=n ->
  (∀ ys d,ys.Perm xs->Q ys { s with drawn:=d })->IB M A (drawOrder n xs) Q E s:=by
 intro n
 induction n with
 |zero=>
  intro xs s Q hl h;cases xs with
  |nil=>exact Ig (h [] s.drawn (NE _))
  |cons a l=>cases hl
 |succ n ih=>
  intro xs s Q hl h;cases xs with
  |nil=>cases hl
  |cons a l=>
   unfold drawOrder;refine Ib (w9 (by simp) λi d hi=>?_);have hg:(a::l)[i]?=some (a::l)[i]:=ID hi;rw[hg];dsimp only;refine Ib (ih _ _ _ (by rw[Nr hi];simp at hl ⊢;omega) λys d' hp=>?_);exact Ig (h _ _ ((hp.cons _).trans (pJ hg)))
section
variable {pr:IN}{wo:Jm}{Ar:JA}{Ex:Ih->Im->Prop}{st:Im}
def byT (wo:Jm):Bool:=wo.params.followText "set-order"
theorem jy (h:Q (byT wo) st):IB (IT pr wo) Ar setsByText Q Ex st:=by
 unfold setsByText;exact Ib (LS (Ig h))
def Way (wo:Jm)(H:Kl)(S T:Iv)(es:Array (Int×Ih))(ep:Nat)(tb:LJ)(vs:List Ih)(i:Nat)(fi:Ih):Prop:=
 (byT wo=true/\(∃ sl t,fi=.int sl t)/\vs=(Nl (wo.params.setOrder S ep) es).toList.map (·.2)) \/
 (byT wo=false/\(!tb.plain&&decide (es.size>1))=true/\fi=.ref T/\∃ (o:Obj) (n:Nat) (pl:List Nat),H.get? T=some o/\o.data=.seq (pl.map λj:Nat=>Ll j).toArray n/\pl.Perm (Ko es.size)/\vs=pl.map λj=>(es[j]?.map (·.2)).getD .none) \/
 (byT wo=false/\(!tb.plain&&decide (es.size>1))=false/\tb.led=true/\Up tb.place.toList/\tb.place.size=es.size/\fi=.int (r6 tb.place i) 0/\vs=es.toList.map (·.2))
def Sit (wo:Jm)(H:Kl)(I S T:Iv)(ob:Obj)(es:Array (Int×Ih))(ep:Nat)(tb:LJ)(vs:List Ih)(i:Nat):Prop:=
 H.get? S=some ob/\∃ fi o,H.get? I=some o/\o.cls=.type "set_iterator"/\o.data=.fields #[fi,.int i 0,.ref S,.int es.size 0,.int ep 0]/\Way wo H S T es ep tb vs i fi
theorem uE {ep:Nat}{i:Nat}(h:Way wo H S T es ep tb vs i fi):vs.length=es.size:=by
 rcases h with ⟨_,_,rfl⟩|⟨_,_,_,_,_,pl,_,_,hp,rfl⟩|⟨_,_,_,_,_,_,rfl⟩
 ·have:=(rT (wo.params.setOrder S ep) es).length_eq;simp at this ⊢;exact this
 ·have:=hp.length_eq
  simpa using this
 ·simp
theorem BZ {ep:Nat}{i:Nat}(h:Way wo H S T es ep tb vs i fi):vs.Perm (es.toList.map (·.2)):=by
 rcases h with ⟨_,_,rfl⟩|⟨_,_,_,_,_,pl,_,_,hp,rfl⟩|⟨_,_,_,_,_,_,rfl⟩
 ·exact(rT (wo.params.setOrder S ep) es).map _
 ·refine(hp.map _).trans (List.Perm.of_eq ?_);apply List.ext_getElem
  ·simp
  ·intro j h1 h2;simp at h1 ⊢;simp[h1]
 ·exact NE _
theorem pU {H:Kl}{I S T:Iv}{ob:Obj}{es:Array (Int×Ih)}{ep:Nat}{tb:LJ}{vs:List Ih}{i:Nat}(h:Sit wo st.heap I S T ob es ep tb vs i):st.TypeIs (.ref I) "set_iterator":=by
 obtain⟨_,_,o,h1,h2,_⟩:=h;exact⟨o,h1,h2⟩
end
section
variable {pr:IN}{wo:Jm}{Ar:JA}{Ex:Ih->Im->Prop}{st:Im}
theorem pN {ep:Nat}{i:Nat} (h:Way wo H S T es ep tb vs i fi)
  (k:∀ o,H.get? T=some o->H'.get? T=some o):Way wo H' S T es ep tb vs i fi:=by
 rcases h with h|⟨a1,a2,a3,o,n,pl,a4,a5⟩|h
 ·exact .inl h
 ·exact .inr (.inl ⟨a1,a2,a3,o,n,pl,k _ a4,a5⟩)
 ·exact .inr (.inr h)
theorem BO {I S T:Iv}{ob:Obj}{es:Array (Int × Ih)}{ep:Nat}{tb:LJ}{vs:List Ih}{i:Nat}{x:Ih}{Q:Option Ih->Im->Prop}
  (h:Sit wo st.heap I S T ob es ep tb vs i)(hob:ob.data=.set es ep tb)(hf:tb.fits es.size=true)(hSI:S≠I)(hTI:T≠I)(hx:vs[i]?=some x)
  (hQ:∀ H',Sit wo H' I S T ob es ep tb vs (i+1)->Jw I st.heap H'->Q (some x) { st with heap:=H' }):
  IB (IT pr wo) Ar (MR (.ref I)) Q Ex st:=by
 have hT:=pU (st:=st) (H:=st.heap) h;obtain⟨hS,fi,o,ho,hc,hd,hw⟩:=h;unfold MR;refine Ib (Mr (Jy (name:=Kz "__next__") hT cO
  (JH cO hT iU ?_ (jP _))))
 show IB _ _ (fieldsOf (.ref I) >>= _) _ _ st;refine Ib (NO ho hd ?_);show IB _ _ (OV S >>= _) _ _ st;refine Ib ?_;unfold OV;refine Ib (Jv hS hob hf ?_);refine Ig ?_;dsimp only;rw [IY (by simp)];have fin1:∀ (H1:Kl) (o1:Obj) (f1:Ih),H1.get? I=some o1->o1.cls=.type "set_iterator"->o1.data=.fields #[f1,.int i 0,.ref S,.int es.size 0,.int ep 0]->Jw I st.heap H1 ->
   Way wo st.heap S T es ep tb vs (i+1) f1 ->
   IB (IT pr wo) Ar.in1 (do setField (.ref I) 1 (Ll ((i:Int)+1));ret x) (λr s'=>∃ v,r=.done (.ret v)/\IB (IT pr wo) Ar (pure (some v)) Q Ex s') (λe s'=>IB (IT pr wo) Ar (do if(<- Qj e (.type "StopIteration")) then pure none else throw e) Q Ex s') { st with heap:=H1 }:=by
  intro H1 o1 f1 g1 g2 g3 g4 g5;refine Ib (K6 g1 g3 (by simp) (Ig ⟨x,rfl,Ig ?_⟩));have sb:Jw I st.heap (H1.update I (Obj.mapFields (·.setIfInBounds 1 (Ll ((i:Int)+1))))):=g4.trans (Jp ..);refine hQ _ ⟨?_,f1,_,Jx _ g1 (K2 (JJ g3 _)),(MD ..).trans g2,by rw[JJ g3];simp[Ll],?_⟩ sb
  ·rw[sb.2 S hSI];exact hS
  ·exact pN g5 λo' e=>by rw[sb.2 T hTI];exact e
 have hlen:=uE hw;have hlt:i<es.size:=by rw[<- hlen];exact(Iu.mp hx).1
 rcases hw with ⟨b1,⟨sl,t,rfl⟩,e⟩|⟨b1,b2,rfl,oT,nT,pl,b3,b4,b5,e⟩|⟨b1,b2,b3,b4,b5,rfl,e⟩
 ·show IB _ _ (Py S sl.toNat (LA (i:Int)) (LA (ep:Int))>>=_) _ _ st;refine Ib ?_;unfold Py;refine Ib (Jv hS hob hf ?_);dsimp only;refine Ib (jy ?_);rw[Jh b1];simp only[Ja,N3,JR,LR];refine Ib ?_;unfold setWalk;refine Ib (Jv hS hob hf ?_);dsimp only;refine Ib (jy ?_);rw[Jh b1];refine Ib (LS (Ig (Ig ?_)));have hx':(Nl (wo.params.setOrder S ep) es)[i]?.map (λe=>e.2)=some x:=by
   rw[e] at hx;rw[<- hx];simp
  obtain⟨q,q1,q2⟩:=IG.mp hx';show IB _ _ (match (Nl (wo.params.setOrder S ep) es)[i]?.map (λe=>(e.2,sl.toNat)) with|some (x,next)=>_|none=>_) _ _ _;rw[q1];dsimp only [Option.map];rw[q2];refine Ib (K6 ho hd (by simp) ?_);exact fin1 _ _ (Ll (sl.toNat:Int)) (Jx _ ho (K2 (JJ hd _))) ((MD ..).trans hc) (by rw[JJ hd];simp) (Jp ..) (.inl ⟨b1,⟨_,_,rfl⟩,e⟩)
 ·show IB _ _ (P0 (.ref T)>>=_) _ _ st;refine Ib (Kw b3 b4 ?_);have hp:∃ j:Nat,pl[i]?=some j/\j<es.size:=by
   have:i<pl.length:=by rw[b5.length_eq];simpa using hlt
   exact⟨pl[i],ID this,by simpa using (b5.mem_iff.mp (KE this))⟩
  obtain⟨j,j1,j2⟩:=hp;have hpl:(pl.map λj:Nat=>Ll j).toArray[i]?=some (.int j 0):=by simp[j1,Ll]
  show IB _ _ (match (pl.map λj:Nat=>Ll j).toArray[LA (i:Int)]? with|some (.int place _)=>_|some _=>_|none=>_) _ _ _;rw[Ja,hpl];dsimp only;refine Ib ?_;unfold setNextDrawn;refine Ib (Jv hS hob hf ?_);dsimp only;have hxx:es[j]?=some es[j]:=by simp[j2]
  have hxe:x=es[j].2:=by
   rw[e] at hx;simp[j1,hxx] at hx;exact hx.symm
  simp only[Ja,N3,JR,LR,hxx];refine Ig ?_;rw[<- hxe];exact fin1 _ _ _ ho hc hd (MA _ _) (.inr (.inl ⟨b1,b2,rfl,oT,nT,pl,b3,b4,b5,e⟩))
 ·show IB _ _ (Py S (LA (r6 tb.place i:Int)) (LA (i:Int)) (LA (ep:Int))>>=_) _ _ st;refine Ib ?_;unfold Py;refine Ib (Jv hS hob hf ?_);dsimp only;refine Ib (jy ?_);rw[IY (by rw[b1];simp)];show IB _ _ (if(!tb.plain&&decide (es.size>1))=true then _ else _) _ _ _;rw[IY (by rw[b2];simp)];refine Ib ?_;show IB _ _ (if(!tb.led&&!es.isEmpty)=true then _ else(pure ():Sem Unit)) _ _ _;rw[IY (by rw[b3];simp)];refine Ig ?_;have bs:=pH (pl:=tb.place) b4 (i:=i) (by rw[b5];omega);have p1:es[i]?=some es[i]:=by simp[hlt]
  have hlp:i<tb.place.size:=by rw[b5];exact hlt
  have p2:tb.place[i]?=some tb.place[i]:=by simp[hlp]
  have p3:x=es[i].2:=by
   rw[e] at hx;simp[hlt] at hx;exact hx.symm
  have p4:r6 tb.place (i+1)=tb.place[i]+1:=by simp[r6,P4,hlp]
  simp only[Ja,bs,p1,p2];refine Ig ?_;rw[<- p3];refine Ib (K6 ho hd (by simp) ?_);exact fin1 _ _ (Ll ((tb.place[i]+1:Nat):Int)) (Jx _ ho (K2 (JJ hd _))) ((MD ..).trans hc) (by rw[JJ hd];simp) (Jp ..)
   (.inr (.inr ⟨b1,b2,b3,b4,b5,by rw[p4];rfl,e⟩))
end
section
variable {pr:IN}{wo:Jm}{Ar:JA}{Ex:Ih->Im->Prop}{st:Im}
theorem CY {ep:Nat}{i:Nat} (hh:Ar.handled=none)
  (h:Sit wo st.heap I S T ob es ep tb vs i)(hob:ob.data=.set es ep tb)(hf:tb.fits es.size=true)(hx:i=vs.length)
  (hQ:∀ H',N_ I st.heap H'->Q none { st with heap:=H' }):
  IB (IT pr wo) Ar (MR (.ref I)) Q Ex st:=by
 have hT:=pU (st:=st) (H:=st.heap) h;obtain⟨hS,fi,o,ho,hc,hd,hw⟩:=h;unfold MR;refine Ib (Mr (Jy (name:=Kz "__next__") hT cO
  (JH cO hT iU ?_ (jP _))))
 show IB _ _ (fieldsOf (.ref I) >>= _) _ _ st;refine Ib (NO ho hd ?_);show IB _ _ (OV S >>= _) _ _ st;refine Ib ?_;unfold OV;refine Ib (Jv hS hob hf ?_);refine Ig ?_;dsimp only;rw [IY (by simp)];have hlen:=uE hw;have fin1:∀ (H1:Kl) (o1:Obj) (f1:Array Ih),H1.get? I=some o1->o1.data=.fields f1->f1.size=5->Jw I st.heap H1 ->
   IB (IT pr wo) Ar.in1 (do setField (.ref I) 2 .none;let __do_lift <- newExc (Kr "StopIteration") [];(raiseNew __do_lift:Sem Fin)) (λr s'=>∃ v,r=.done (.ret v)/\IB (IT pr wo) Ar (pure (some v)) Q Ex s') (λe s'=>IB (IT pr wo) Ar (do if(<- Qj e (.type "StopIteration")) then pure none else throw e) Q Ex s') { st with heap:=H1 }:=by
  intro H1 o1 f1 g1 g3 g4 g5;refine Ib (K6 g1 g3 (by omega) ?_);refine Ib ?_;simp only[newExc,newTuple];refine Ib (JB ?_ (by size_fits));refine Ib (m:=LO _ _) (Pz (a:=J7) (by first|rfl|(simp only[LO];rfl)) ?_);refine JB ?_ (by size_fits);simp only[raiseNew];refine Ib (P2 ?_);rw[show Ar.in1.handled=none from hh];refine Ib (Ig (wpAny_throw ?_));refine Ib (LU (T:="StopIteration") (b:=true) ⟨_,Io _ rfl,rfl⟩ Pb ?_);exact Ig (hQ _ (((g5.trans (Jp ..)).extBut.push _).push _))
 rcases hw with ⟨b1,⟨sl,t,rfl⟩,e⟩|⟨b1,b2,rfl,oT,nT,pl,b3,b4,b5,e⟩|⟨b1,b2,b3,b4,b5,rfl,e⟩
 ·show IB _ _ (Py S sl.toNat (LA (i:Int)) (LA (ep:Int))>>=_) _ _ st;refine Ib ?_;unfold Py;refine Ib (Jv hS hob hf ?_);dsimp only;refine Ib (jy ?_);rw[Jh b1];simp only[Ja,N3,JR,LR];refine Ib ?_;unfold setWalk;refine Ib (Jv hS hob hf ?_);dsimp only;refine Ib (jy ?_);rw[Jh b1];refine Ib (LS (Ig (Ig ?_)));have q1:(Nl (wo.params.setOrder S ep) es)[i]?=none:=by
   have:vs.length=(Nl (wo.params.setOrder S ep) es).size:=by rw[e];simp
   rw[Array.getElem?_eq_none_iff];omega
  show IB _ _ (match (Nl (wo.params.setOrder S ep) es)[i]?.map (λe=>(e.2,sl.toNat)) with|some (x,next)=>_|none=>_) _ _ _;rw[q1];dsimp only [Option.map];exact fin1 st.heap o _ ho hd rfl (MA _ _)
 ·show IB _ _ (P0 (.ref T)>>=_) _ _ st;refine Ib (Kw b3 b4 ?_);have hpl:(pl.map λj:Nat=>Ll j).toArray[i]?=none:=by
   have:vs.length=pl.length:=by rw[e];simp
   simp;omega
  show IB _ _ (match (pl.map λj:Nat=>Ll j).toArray[LA (i:Int)]? with|some (.int place _)=>_|some _=>_|none=>_) _ _ _;rw[Ja,hpl];dsimp only;refine Ib (K6 ho hd (by simp) ?_);exact fin1 _ _ _ (Jx _ ho (K2 (JJ hd _))) (JJ hd _) (by simp) (Jp ..)
 ·show IB _ _ (Py S (LA (r6 tb.place i:Int)) (LA (i:Int)) (LA (ep:Int))>>=_) _ _ st;refine Ib ?_;unfold Py;refine Ib (Jv hS hob hf ?_);dsimp only;refine Ib (jy ?_);rw[IY (by rw[b1];simp)];show IB _ _ (if(!tb.plain&&decide (es.size>1))=true then _ else _) _ _ _;rw[IY (by rw[b2];simp)];refine Ib ?_;show IB _ _ (if(!tb.led&&!es.isEmpty)=true then _ else(pure ():Sem Unit)) _ _ _;rw[IY (by rw[b3];simp)];refine Ig ?_;have bs:=pH (pl:=tb.place) b4 (i:=i) (by rw[b5];omega);have p1:es[i]?=none:=by simp;omega
  simp only[Ja,bs,p1];refine Ig ?_;exact fin1 st.heap o _ ho hd rfl (MA _ _)
theorem AG {ep:Nat}{i:Nat}
  (h:Sit wo st.heap I S T ob es ep tb vs i)(hQ:Q (.ref I) st):IB (IT pr wo) Ar (PX (.ref I)) Q Ex st:=by
 have hT:=pU (st:=st) (H:=st.heap) h;refine N6 hT jU (JH jU hT ou ?_ (qy _));show IB _ _ (ret (.ref I)) _ _ st;exact Ig ⟨_,rfl,"set_iterator",_,hT,cO.lookup,hQ⟩
theorem v6 {ep:Nat}{i:Nat} (h:Sit wo H I S T ob es ep tb vs i)
  (k:∀ b∈[I,S,T],∀ o,H.get? b=some o->H'.get? b=some o):Sit wo H' I S T ob es ep tb vs i:=by
 obtain⟨hS,fi,o,ho,hc,hd,hw⟩:=h;exact⟨k S (by simp) _ hS,fi,o,k I (by simp) _ ho,hc,hd,pN hw λo' e=>k T (by simp) _ e⟩
theorem Ae {ep:Nat} (hh:Ar.handled=none)
  (hob:ob.data=.set es ep tb)(hf:tb.fits es.size=true)(hSI:S≠I)(hTI:T≠I):
  Walks pr wo Ar I [I,S,T] [I] vs.length (λi v=>vs[i]?=some v) (λi H=>Sit wo H I S T ob es ep tb vs i) where
 sub:=λb hb=>by simp at hb;simp[hb]
 frame:=λ_ _ _ st hk=>v6 st hk
 item:=λi s Q E hi st hQ=>by
  have hx:vs[i]?=some vs[i]:=by simp[hi]
  refine BO st hob hf hSI hTI hx λh' hit' hs'=>?_
  exact hQ _ h' s.toks hx hit' λb o hb e=>hs'.extBut b o (λh=>hb (by simp[h])) e
 done:=λs Q E st hQ=>CY hh st hob hf rfl λh' he'=>hQ h' s.toks λb o hb e=>he' b o (λh=>hb (by simp[h])) e
 self:=λ_ _ _ _ st hQ=>AG st hQ
end
section
variable {pr:IN}{wo:Jm}{Ar:JA}{Ex:Ih->Im->Prop}{st:Im}
theorem AY {H:Kl}{S:Iv}{ob:Obj}(hS:st.heap.get? S=some ob)(hx:ob.ExactSet):st.TypeIs (.ref S) "set":=⟨ob,hS,hx.1⟩
theorem Bo {S:Iv}{ob:Obj}{es:Array (Int × Ih)}{ep:Nat}{tb:LJ}{Q:Ih->Im->Prop} (hS:st.heap.get? S=some ob) (hx:ob.ExactSet)
  (hob:ob.data=.set es ep tb)(hf:tb.fits es.size=true)(ht:Tb (!byT wo) tb)(hsz:es.size<scanBound)
  (hQ:∀ (I T:Iv) (H':Kl) (d:Drawn) (vs:List Ih),Sit wo H' I S T ob es ep tb vs 0->T≠I->S≠I->st.heap.objs.size<=I->(∀ b o,st.heap.get? b=some o->H'.get? b=some o) ->
   (∀ b∈[I,S,T],b<H'.objs.size)->st.heap.objs.size<=H'.objs.size->(T=S\/st.heap.objs.size<=T)->Q (.ref I) { st with heap:=H',drawn:=d }) :
  IB (IT pr wo) Ar (PX (.ref S)) Q Ex st:=by
 have hT:=AY (st:=st) (H:=st.heap) hS hx;refine N6 hT F.slot_set_iter (JH F.slot_set_iter hT my ?_ (F.args_set_iter_1 _));unfold Lg.«frozenset.__iter__»;have hlS:S<st.heap.objs.size:=Ip hS;have hpl:tb.place.size=es.size:=by
  unfold SetTable.fits at hf;simp at hf;exact hf.1
 show IB _ _ (NP S >>= _) _ _ st;refine Ib ?_;unfold NP OV;refine Ib (Ib (Jv hS hob hf (Ig (Ig ?_))));dsimp only;have fin:∀ (fi:Ih) (s1:Im) (T:Iv) (vs:List Ih),s1.heap.get? S=some ob->(∀ b o,st.heap.get? b=some o->s1.heap.get? b=some o)->Way wo s1.heap S T es ep tb vs 0 fi->T < s1.heap.objs.size->st.heap.objs.size <= s1.heap.objs.size ->
   (T=S\/st.heap.objs.size<=T)->(∃ (g:Kl) (d:Drawn),s1={ st with heap:=g,drawn:=d }) ->
   IB (IT pr wo) Ar.in1 (do let __do_lift <- setEpoch S;let __do_lift <- newFields "set_iterator" [fi,Ll 0,.ref S,Ll es.size,Ll __do_lift];ret __do_lift)
    (λr s'=>∃ v,r=.done (.ret v)/\∃ T' r,s'.TypeIs v T'/\typeLookup (.type T') "__next__"=pure (some r)/\Q v s') Ex s1:=by
  intro fi s1 T vs h1 h2 h3 h4 h5 h6 ⟨g,d,h7⟩;subst h7;unfold setEpoch;refine Ib (Ib (Jv h1 hob hf (Ig ?_)));dsimp only;refine Ib (JB (Ig ⟨_,rfl,"set_iterator",_,⟨_,Io _ rfl,rfl⟩,cO.lookup,?_⟩));have h4:T<g.objs.size:=h4;have h5:st.heap.objs.size<=g.objs.size:=h5;refine hQ g.objs.size T _ d vs ⟨Ic _ h1,fi,_,Io _ rfl,rfl,rfl,pN h3 λo e=>Ic _ e⟩ (IK h4) (IK (IA hlS h5)) h5
   (λb o e=>Ic _ (h2 b o e)) (λb hb=>?_) (by rw[Jt];exact Nat.le_succ_of_le h5) h6
  rw[Jt];simp only[Iy,IW,KS] at hb;rcases hb with rfl|rfl|rfl
  ·exact JY _
  ·exact LI (IA hlS h5)
  ·exact LI h4
 refine Ib ?_;unfold setDrawn;refine Ib (Jv hS hob hf ?_);dsimp only;refine Ib (jy (Ig ?_));show IB _ _ (if(!byT wo&&(!tb.plain&&decide (es.size>1)))=true then _ else _) _ _ _;cases b1:byT wo with
 |true=>
  simp only[Bool.not_true,LM,JR,LR];refine Ib (Ig ?_);exact fin (Ll 0) st S _ hS (λ_ _ e=>e) (.inl ⟨b1,⟨_,_,rfl⟩,rfl⟩) hlS (Il _) (.inl rfl) ⟨_,_,rfl⟩
 |false=>
  cases b2:(!tb.plain&&decide (es.size>1)) with
  |false=>
   simp only[O6,JR,LR];refine Ib (Ig ?_);refine fin (Ll 0) st S _ hS (λ_ _ e=>e) (.inr (.inr ⟨b1,b2,?_,ht.1,hpl,rfl,rfl⟩)) hlS (Il _) (.inl rfl) ⟨_,_,rfl⟩;rw[ht.2,b1];rfl
  |true=>
   simp only[Bool.not_false,MX,LC];refine Ib (BV es.size (Ko es.size) _ _ Qa λys d hp=>?_);refine Ib (Pe ?_ (by rw[Ij,hp.length_eq,Qa];unfold scanBound at hsz;rw[JK];omega));refine fin (.ref st.heap.objs.size) _ st.heap.objs.size _ (Ic _ hS) (λ_ _ e=>Ic _ e) (.inr (.inl ⟨b1,b2,rfl,_,0,ys,Io _ rfl,rfl,hp,rfl⟩))
    (by rw[Jt];exact JY _) (by rw[Jt];exact Nc _) (.inr (Il _)) ⟨_,_,rfl⟩
end
section
variable {pr:IN}{wo:Jm}{Ar:JA}{Ex:Ih->Im->Prop}{st:Im}
theorem BQ (hT:st.TypeIs (.ref S) "set")(h:Q false st):IB (IT pr wo) Ar (M5 (.ref S)) Q Ex st:=by
 unfold M5;refine Ib (Nn hT F.slot_set_len.lookup ?_);show IB _ _ (Qj (.ref S) (.type "set")>>=_) _ _ _;refine Ib (LU hT sub_set_self ?_);refine wpAny_ite_split (λhab=>absurd hab (by decide)) (λ_=>?_);refine wpAny_ite_split (λ_=>?_) (λhab=>absurd (by decide +kernel) hab);refine Ib (wpAny_typeOf hT ?_);exact Ig h
theorem wy (h:ItemsOf (λi v=>vs[i]?=some v) acc vs.length):acc.toList=vs:=by
 apply P9;intro i;cases e:acc.toList[i]? with
 |none=>
  rw[NF] at e;have:=h.1
  symm
  rw[NF];simp at e;omega
 |some v=>exact(h.2 i v (by simpa using e)).symm
theorem u5 {ep:Nat} (hh:Ar.handled=none) (hS:st.heap.get? S=some ob) (hx:ob.ExactSet)
  (hob:ob.data=.set es ep tb)(hf:tb.fits es.size=true)(ht:Tb (!byT wo) tb)(hsz:es.size<scanBound)
  (hQ:∀ (g:Kl) (d:Drawn) (tk:Nat) (vs:List Ih),(∀ b o,st.heap.get? b=some o->g.get? b=some o)->st.heap.objs.size<g.objs.size->st.toks<=tk->vs.Perm (es.toList.map (·.2))->Q vs { st with heap:=g,drawn:=d,toks:=tk }):
  IB (IT pr wo) Ar (collect (.ref S)) Q Ex st:=by
 have hlS:S<st.heap.objs.size:=Ip hS;unfold collect;refine Ib (Pf (KR F.entry_proto_collect ?_));rw[KF F.plain_proto_collect _];show IB _ Ar.in1 (newList []>>=λl=>again (.builtin "list.__iadd__" ⟨[l,.ref S],[]⟩)) _ _ st;refine Ib (JB ?_);refine Ig ⟨Oh NR _,KR F.entry_list_iadd ?_⟩;rw[KF NR _];show IB _ Ar.in1 (Lx (.ref st.heap.objs.size) (.ref S) (.ref st.heap.objs.size)) _ _ _;unfold Lx;have hS1:(st.heap.push { cls:=.type "list",data:=.seq ([]:List Ih).toArray }).get? S=some ob:=Ic _ hS;have hL1:(st.heap.push { cls:=.type "list",data:=.seq ([]:List Ih).toArray }).get? st.heap.objs.size=some { cls:=.type "list",data:=.seq ([]:List Ih).toArray }:=Io _ rfl;have hsz1:(st.heap.push { cls:=.type "list",data:=.seq ([]:List Ih).toArray }).objs.size=st.heap.objs.size+1:=Jt _ _;have up1:∀ b o,st.heap.get? b=some o->(st.heap.push { cls:=.type "list",data:=.seq ([]:List Ih).toArray }).get? b=some o:=λb o e=>Ic _ e
 generalize st.heap.push { cls:=.type "list",data:=.seq ([]:List Ih).toArray }=g1 at hS1 hL1 hsz1 up1 ⊢;refine Ib (wpAny_typeOf (T:="set") ⟨ob,hS1,hx.1⟩ ?_);have hSL:st.heap.objs.size≠S:=Kx hlS;have h1:NQ (.ref st.heap.objs.size) (.ref S)=false:=by simp[NQ,hSL]
 have h2:(Kr "set"==Kr "list")=false:=by decide
 have h3:(Kr "set"==Kr "tuple")=false:=by decide
 simp only[h1,h2,h3,Bool.or_false,JR,LR];refine Ib (Bo (st:={ st with heap:=g1 }) hS1 hx hob hf ht hsz λI T g2 d vs ws hTI hSI hI up2 lt2 le2 hT2=>?_);refine Ib (JZ (BQ ⟨ob,ws.1,hx.1⟩ ?_));have hlen:vs.length=es.size:=by obtain⟨_,_,_,_,_,_,hw⟩:=ws;exact uE hw
 have hper:vs.Perm (es.toList.map (·.2)):=by obtain⟨_,_,_,_,_,_,hw⟩:=ws;exact BZ hw
 show IB _ Ar.in1 (rule "list.extend.makes-room">>=λ_=>Builtin.List.listTouch (.ref st.heap.objs.size)>>=λ_=>
  again (.builtin "list.extend.loop" ⟨[.ref st.heap.objs.size,.ref I,.ref st.heap.objs.size],[]⟩)) _ _ _
 refine Ib (Me ?_);have hI':st.heap.objs.size+1<=I:=by rw[<- hsz1];exact hI
 have hLI:st.heap.objs.size≠I:=IK hI';have hLT:st.heap.objs.size≠T:=by
  rcases hT2 with rfl|q
  ·exact hSL
  ·have q:g1.objs.size<=T:=q;rw[hsz1] at q;exact IK q
 have hSf:st.heap.objs.size∉[I,S,T]:=by simp[hLI,hSL,hLT]
 have hS2:=up2 _ _ hL1;refine Ib ?_;show IB _ Ar.in1 (updateSeq st.heap.objs.size (·.push .none)>>=λ_=>updateSeq st.heap.objs.size (·.pop)) _ _ _;refine Ib (wpAny_updateSeq hS2 rfl ?_);have hS₂:=Jx (KY (·.push J7)) hS2 rfl;refine wpAny_updateSeq hS₂ rfl ?_;have hS₃:=Jx (KY (·.pop)) hS₂ rfl;have oth:∀ b o,b≠st.heap.objs.size->g2.get? b=some o->((g2.update st.heap.objs.size (KY (·.push J7))).update st.heap.objs.size (KY (·.pop))).get? b=some o:=
  λb o hb e=>(JU _ _ (KH hb)).trans ((JU _ _ (KH hb)).trans e)
 have W:=(Ae (pr:=pr) (wo:=wo) (Ar:=Ar.in1) (I:=I) (S:=S) (T:=T) (ep:=ep) (tb:=tb) (vs:=vs) (by simp[hh]) hob hf hSI hTI).toS;refine Ig ⟨Oh F.plain_extend_loop _,codeAny_extend_loopS W (by rw[hlen,JK];unfold scanBound at hsz;omega) _ hSf _ vs.length 0 _ _ _ rfl (Jj _)
  (v6 ws λb hb o e=>oth b o (λq=>hSf (q▸hb)) e) hS₃ (ItemsOf.nil _) λs' acc' c' hm hS' hacc=>?_⟩
 show IB _ Ar (load st.heap.objs.size>>=_) _ _ s';refine Ib (wpAny_load hS' ?_);refine Ig ?_;rw[wy hacc];obtain⟨g3,gn,dn,tk,os⟩:=s';have e1:gn=st.gens:=hm.gens;have e2:dn=d:=hm.drawn;have e3:os=st.os:=hm.os;subst e1;subst e2;subst e3;refine hQ g3 dn tk vs (λb o e=>?_) (Ip hS') hm.toks hper;have lb:=Ip e;have nb:b≠st.heap.objs.size:=IK lb;have nI:b≠I:=IK (IA lb (LH hI'));exact hm.heap b o (by simp[nb,nI]) (oth b o nb (up2 b o (up1 b o e)))
end
theorem Dt:∀ {ks ns:List Int},ks.Nodup->(∀ k∈ks,k∈ns)->ns.length=ks.length->ns.Perm ks:=by
 intro ks
 induction ks with
 |nil=>intro ns _ _ hl;cases ns with
  |nil=>exact NE _
  |cons a l=>cases hl
 |cons k ks ih=>
  intro ns hn hm hl;have hk:=hm k (by simp);have pe:=List.perm_cons_erase hk;have hn':=JW.mp hn;refine pe.trans ((ih hn'.2 (λx hx=>?_) ?_).cons k)
  ·have:=hm x (Iq _ hx);exact(List.mem_erase_of_ne (λe:x=k=>hn'.1 (e▸hx))).mpr this
  ·have:=pe.length_eq;simp at this hl;omega
theorem C8:∀ {vs:List Ih},(∀ v∈vs,∃ k t,v=.int k t)->∃ ns,Lb vs ns/\ns.length=vs.length/\∀ k t,Lk k t∈vs->k∈ns:=by
 intro vs
 induction vs with
 |nil=>intro _;exact⟨[],.nil,rfl,λ_ _ h=>by cases h⟩
 |cons v vs ih=>
  intro h;obtain⟨k,t,rfl⟩:=h v (by simp);obtain⟨ns,a1,a2,a3⟩:=ih λw hw=>h w (Iq _ hw)
  refine⟨k::ns,.cons k t a1,by simp[a2],λk' t' hk=>?_⟩;rcases Iy.mp hk with e|e
  ·cases e;simp
  ·exact Iq _ (a3 _ _ e)
theorem ig {n:Nat}(ho:h.get? a=some (Mc "list" vs.toArray n)):∃ m,(Qk h a vs out).get? a=some (Mc "list" out m):=by
 have ha:=Ip ho;unfold Qk;have e1:=get?_update_seq ho (λ_=>#[]);have e2:(((h.update a (KY λ_=>#[])).push (Mc "tuple" vs.toArray 0)).push (Mc "list" #[] 0)).get? a=_:=Ic _ (Ic _ e1);exact⟨_,get?_update_seq e2 (λ_=>out)⟩
theorem hU (hb:a≠b)(e:h.get? b=some o):(Qk h a vs out).get? b=some o:=by
 unfold Qk;rw[JU _ _ hb];exact Ic _ (Ic _ ((JU _ _ hb).trans e))
section
variable {pr:IN}{wo:Jm}{Ar:JA}{Ex:Ih->Im->Prop}{st:Im}
theorem wV (hh:Ar.handled=none) (hu:j5 pr wo (!byT wo) st.heap S ks) (h64:ks.length < 64)
  (h:∀ (L:Iv) (g:Kl) (d:Drawn) (tk:Nat) (its:Array Ih) (ns:List Int) (n:Nat),st.heap.objs.size<=L->g.get? L=some (Mc "list" its n)->Lb its.toList ns->ns.Perm ks->ns.Pairwise (·<=·) ->
   (∀ b o,st.heap.get? b=some o->g.get? b=some o)->st.toks<=tk->Q (.ref L) { st with heap:=g,drawn:=d,toks:=tk }) :
  IB (IT pr wo) Ar (call (.builtin "sorted") [.ref S]) Q Ex st:=by
 obtain⟨ob,xs,ep,tb,g1,g2,g3,g4,g5,g6,g7,g8,g9,g10⟩:=hu;refine NA kind_sorted plain_sorted entry_sorted (args_sorted1 _) ?_;unfold Lg.«sorted»;refine Ib (m:=checkCount "sorted" 1 1 _) (Ig ?_);refine Ib (u5 (by simp[hh]) g1 g2 g3 g7 g10 g6 λg d tk vs up le lt hp=>?_);refine Ib (P3 ?_ (by rw[hp.length_eq,JK];simp;omega));have hv:∀ v∈vs,∃ k t,v=Lk k t:=λv hv=>by
  obtain⟨e,he,rfl⟩:=Js.mp (hp.mem_iff.mp hv);obtain⟨⟨k,q,_⟩,_⟩:=g4 e he;obtain⟨t,q'⟩:=N1 q;exact⟨k,t,q'⟩
 obtain⟨ns,i1,i2,i3⟩:=C8 hv;have hl:vs.length=ks.length:=by rw[hp.length_eq];simp[g8]
 have hns:ns.Perm ks:=Dt g9 (λk hk=>by
  obtain⟨e,he,q⟩:=(g5 k).mp hk;obtain⟨t,q'⟩:=N1 q;exact i3 k t (q'▸hp.mem_iff.mpr (Js.mpr ⟨e,he,rfl⟩))) (by omega)
 have hoL:(g.push (Mc "list" vs.toArray 0)).get? g.objs.size=some (Mc "list" vs.toArray 0):=Io _ rfl;refine Ib (JZ (JH slot_list_sort ⟨_,hoL,rfl⟩ entry_list_sort (list_sort_tree hoL i1 (by omega) λout ns' a1 a2 a3=>⟨_,rfl,?_⟩) (args_list_sort _)));obtain⟨m,hm⟩:=ig (out:=out) hoL;refine Ig ⟨_,rfl,h g.objs.size _ d tk out ns' m (Kj le) hm a1 (a2.trans hns) a3 (λb o e=>?_) lt⟩;exact hU (Kx (Ip (up b o e))) (Ic _ (up b o e))
end
def met (ns:List Int):List Int:=ns.foldl (λks k=>if k∈ks then ks else ks++[k]) []
theorem A7 (ns:List Int)(k:Int):met (ns++[k])=if k∈met ns then met ns else met ns++[k]:=by
 unfold met;rw[NU];rfl
theorem uq (ns:List Int):(met ns).length<=ns.length:=by
 have go:∀ (ns ks:List Int),(ns.foldl (λks k=>if k∈ks then ks else ks++[k]) ks).length<=ks.length+ns.length:=by
  intro ns
  induction ns with
  |nil=>intro ks;exact Il _
  |cons a ns ih=>
   intro ks;refine IS (ih _) ?_;dsimp only
   split<;>simp<;>omega
 have:=go ns []
 simpa [met] using this
theorem Dl (ns:List Int)(x:Int):x∈met ns↔x∈ns:=by
 have go:∀ (ns ks:List Int),x∈ns.foldl (λks k=>if k∈ks then ks else ks++[k]) ks↔x∈ks\/x∈ns:=by
  intro ns
  induction ns with
  |nil=>intro ks;simp
  |cons a ns ih=>
   intro ks;rw[List.foldl_cons,ih]
   split
   ·rename_i h
    constructor
    ·rintro(q|q)
     ·exact .inl q
     ·exact .inr (Iq _ q)
    ·rintro(q|q)
     ·exact .inl q
     ·rcases Iy.mp q with rfl|q
      ·exact .inl h
      ·exact .inr q
   ·simp only[Jb,Iy,IW,KS,or_assoc]
 rw[met,go];simp
section
variable {pr:IN}{wo:Jm}{Ar:JA}{Ex:Ih->Im->Prop}{st:Im}
theorem pB (h:j5 pr wo led H a ks)(k:∀ o,H.get? a=some o->H'.get? a=some o):j5 pr wo led H' a ks:=by
 obtain⟨ob,xs,ep,tb,g1,r⟩:=h;exact⟨ob,xs,ep,tb,k _ g1,r⟩
theorem Bi (hh:Ar.handled=none) (hlI:l ≠ I) (hSI:S ≠ I) (hSl:S ≠ l) (hi:Lb its.toList ns) (hb:ns.length + 1 < scanBound)
  (hR:∀ g tk,j5 pr wo led g S (met ns)->(∀ b o,b≠S->b≠I->st.heap.get? b=some o->g.get? b=some o)->st.toks<=tk->R (.ok (.ret .none)) { st with heap:=g,toks:=tk }):
  ∀ (k i:Nat) (g:Kl) (tk:Nat),ns.length-i=k->i<=ns.length->g.IsListIter I l i->g.IsList l its->j5 pr wo led g S (met (ns.take i)) ->
   (∀ b o,b≠S->b≠I->st.heap.get? b=some o->g.get? b=some o)->st.toks<=tk ->
   L5 (IT pr wo) Ar (.builtin "set.update.loop" ⟨[.ref S,.ref I],[]⟩) R { st with heap:=g,toks:=tk }:=by
 have hlen:its.toList.length=ns.length:=IntsAre.length hi;have hsz:its.size=ns.length:=by simpa using hlen
 intro k
 induction k with
 |zero=>
  intro i g tk hk hi' hit hl hu up le;have hin:i=ns.length:=by omega
  refine KR N9 ?_;rw[KF Mg _];show IB _ Ar.in1 (MR (.ref I)>>=_) _ _ _;refine Ib (wpAny_pyNext_list_end (by simp[hh]) hit hl (by simp;omega) λg' ext=>?_);rw[hin,Li] at hu;exact Ig (hR g' tk (pB hu λo e=>ext S o hSI e) (λb o h1 h2 e=>ext b o h2 (up b o h1 h2 e)) le)
 |succ k ih=>
  intro i g tk hk hi' hit hl hu up le;have hlt:i<ns.length:=by omega
  obtain⟨v,hv⟩:∃ v,its[i]?=some v:=⟨its[i]'(by omega),by simp[hsz,hlt]⟩
  obtain⟨t,rfl⟩:=IntsAre.int_at hi i v (by rw[Lv];exact hv);refine KR N9 ?_;rw[KF Mg _];show IB _ Ar.in1 (MR (.ref I)>>=_) _ _ _;refine Ib (Oz hit hl hv λg' hit' sb=>?_);show IB _ Ar.in1 (holding [Lk (ns.getD i 0) t] (setAdd S (.int (ns.getD i 0) t))>>=_) _ _ _;refine Ib (JZ ?_);unfold setAdd;refine JZ (Ib ((Lh pr wo).pyHash (k:=ns.getD i 0) (intKind_is _ _ _ _) ?_));have hu':j5 pr wo led g' S (met (ns.take i)):=pB hu λo e=>by rw[sb.2 S hSI];exact e
  have hroom:(met (ns.take i)).length+1<scanBound:=by
   have:=uq (ns.take i);rw[IZ] at this;omega
  refine Ak hu' hroom λg2 sb2 hu2=>?_
  have et:met (ns.take (i+1))=if ns.getD i 0∈met (ns.take i) then met (ns.take i) else met (ns.take i)++[ns.getD i 0]:=by
   rw[<- A7]
   congr 1
   rw[List.take_succ];simp[hlt,List.getD]
  rw[<- et] at hu2;refine Ig ⟨Oh Mg _,ih (i+1) g2 (tk+1) (by omega) hlt ?_ ?_ hu2 (λb o h1 h2 e=>?_) (Nat.le_succ_of_le le)⟩
  ·obtain⟨o,q,r⟩:=hit';exact⟨o,by rw[sb2.2 I (KH hSI)];exact q,r⟩
  ·obtain⟨o,q,r⟩:=hl;exact⟨o,by rw[sb2.2 l (KH hSl)];rw[show g'.get? l=g.get? l from sb.2 l hlI];exact q,r⟩
  ·rw[sb2.2 b h1];show g'.get? b=some o;rw[sb.2 b h2];exact up b o h1 h2 e
theorem yY (a:Ih)
  (h:Q₁ (.ref st.heap.objs.size) { st with heap:=st.heap.push { cls:=.type "set",dict:=none,data:=.set #[] 0 (.fresh 0 0 (!byT wo)) } }):
  L5 (IT pr wo) Ar (.call (.builtin "set.__new__") ⟨[.type "set",a],[]⟩) (wants Q₁ Ex) st:=by
 refine OQ ?_;show IB _ Ar.in1 (do checkBuiltinCall "set.__new__" ⟨[.type "set",a],[]⟩;again (.builtin "set.__new__" ⟨[.type "set",a],[]⟩)) _ _ st;refine Ib (Pz (F.newCall_set_1 a) (Ig ⟨Oh F.plain_set_new _,KR F.entry_set_new ?_⟩));rw[KF F.plain_set_new _];unfold Lg.«set.__new__» Builtin.Frozenset.newClass;have hsub:=sub_set_self;dsimp only
 wp_walk
 refine LS (Ig ?_);dsimp only;simp only[newObj];refine Ib (wpAny_alloc (Ig ?_));exact Ig h
theorem u7 (h:H.get? a=some { cls:=.type "set",dict:=none,data:=.set #[] 0 (.fresh 0 0 led) }):j5 pr wo led H a []:=
 ⟨_,#[],0,_,h,⟨rfl,rfl,rfl⟩,rfl,λe he=>by simp at he,λk=>by simp,by decide,by cases led<;>decide,rfl,NG,NT,rfl⟩
end
section
variable {pr:IN}{wo:Jm}{Ar:JA}{Ex:Ih->Im->Prop}{st:Im}
theorem BM (hh:Ar.handled=none) (hl:st.heap.IsList l its) (hi:Lb its.toList ns) (hb:ns.length + 1 < scanBound)
  (h:∀ (g:Kl) (tk:Nat),j5 pr wo (!byT wo) g st.heap.objs.size (met ns)->(∀ b o,st.heap.get? b=some o->g.get? b=some o)->st.toks<=tk->Q (.ref st.heap.objs.size) { st with heap:=g,toks:=tk }):
  IB (IT pr wo) Ar (call (.type "set") [.ref l]) Q Ex st:=by
 obtain⟨c,tl,hmro⟩:=Ly.mro;have hmade:=Ly.made;have hsub:=Ly.sub;refine M4 (OQ ?_);show IB _ _ (callAny (.type "set") _) _ _ _;refine Ig ⟨PD _ (by decide +kernel),KR F.entry_type_call ?_⟩;rw[Around.under_plain (weight_type_call_type "set" [.ref l] []) rfl];have h1:=Ly.notType;have h2:=Ly.canCreate;have hct:=F.typeCall_set_1 (.ref l)
 repeat (any_goals (first|assumption|wp_step))
 refine Lf (yY (pr:=pr) (wo:=wo) (Ex:=Ex) (.ref l) (Q₁:=λobj s₁=>obj=.ref st.heap.objs.size/\s₁={ st with heap:=st.heap.push { cls:=.type "set",dict:=none,data:=.set #[] 0 (.fresh 0 0 (!byT wo)) } }) ⟨rfl,rfl⟩) λr s₁ hr=>?_
 cases r with
 |error e=>exact hr
 |ok fl=>
  cases fl with
  |ret obj=>
   obtain⟨rfl,rfl⟩:=hr;have hS:(st.heap.push { cls:=.type "set",dict:=none,data:=.set #[] 0 (.fresh 0 0 (!byT wo)) }).get? st.heap.objs.size=some { cls:=.type "set",dict:=none,data:=.set #[] 0 (.fresh 0 0 (!byT wo)) }:=Io _ rfl;have hz:(st.heap.push { cls:=.type "set",dict:=none,data:=.set #[] 0 (.fresh 0 0 (!byT wo)) }).objs.size=st.heap.objs.size+1:=Jt _ _;have up0:∀ b o,st.heap.get? b=some o->(st.heap.push { cls:=.type "set",dict:=none,data:=.set #[] 0 (.fresh 0 0 (!byT wo)) }).get? b=some o:=λb o e=>Ic _ e
   generalize st.heap.push { cls:=.type "set",dict:=none,data:=.set #[] 0 (.fresh 0 0 (!byT wo)) }=g1 at hS hz up0 ⊢;have hT:PR { st with heap:=g1 } (.ref st.heap.objs.size) "set":=⟨_,hS,rfl⟩
   have hli:=Ly.init.lookup;have hbi:=Ly.init.bind (.ref st.heap.objs.size)
   repeat (any_goals (first|assumption|wp_step))
   refine Lf (codeAny_call_builtin (R:=wants (fun r s₂=>r=.none/\∃ g tk,s₂={ st with heap:=g,toks:=tk }/\j5 pr wo (!byT wo) g st.heap.objs.size (met ns) /\
     (∀ b o,st.heap.get? b=some o->g.get? b=some o)/\st.toks<=tk) Ex) Ly.init.plain F.entry_set_init (check_set_init_1 hT ?_)) λr₂ s₂ hr₂=>?_
   ·have hl1:g1.IsList l its:=by obtain⟨o,q,r⟩:=hl;exact⟨o,up0 _ _ q,r⟩
    have hlS:l<st.heap.objs.size:=by obtain⟨o,q,r⟩:=hl;exact Ip q
    obtain⟨ol,hol,hcl,nl,hdl⟩:=id hl1;obtain⟨ocls,odict,odata,oslots⟩:=ol;simp only at hcl hdl;subst hcl;subst hdl;have hsls:=F.sub_list_set;have hslf:=F.sub_list_frozenset;have hne:(Kr "list"==Kr "dict")=false:=by decide
    unfold Lg.«set.__init__» noKeywords Builtin.Frozenset.updateFrom;generalize hPI:PX=PI
    wp_walk
    subst hPI;refine KO hl1 ?_;refine Ib (Pf ?_);have up1:∀ b o,g1.get? b=some o->(g1.push { cls:=.type "list_iterator",data:=.fields #[.ref l,.int 0 0] }).get? b=some o:=λb o e=>Ic _ e
    have hl1s:l<g1.objs.size:=by rw[hz];exact LI hlS
    have hSs:st.heap.objs.size<g1.objs.size:=by rw[hz];exact JY _
    refine Bi (st:={ st with heap:=g1 }) (l:=l) (I:=g1.objs.size) (S:=st.heap.objs.size) (led:=!byT wo) (by simp[hh]) (IK hl1s) (IK hSs) (Kx hlS) hi hb (λg tk a1 a2 a3=>?_)
     (ns.length-0) 0 _ st.toks rfl (Jj _) ⟨_,Io _ rfl,rfl,rfl⟩ (hl1.push _) (u7 (up1 _ _ hS)) (λb o _ _ e=>up1 b o e) (Il _)
    show IB _ _ _ _ _ _;refine Ig ?_;show IB _ _ (ret J7) _ _ _;refine Ig ⟨rfl,g,tk,rfl,a1,λb o e=>?_,a3⟩;have lb:=Ip e;exact a2 b o (IK lb) (IK (Nat.lt_trans lb hSs)) (up0 b o e)
   ·cases r₂ with
    |error e=>exact hr₂
    |ok fl₂=>
     cases fl₂ with
     |ret r=>
      obtain⟨rfl,g,tk,rfl,a1,a2,a3⟩:=hr₂
      repeat (any_goals (first|assumption|wp_step))
      exact h _ _ a1 a2 a3
     |_=>exact hr₂.elim
  |_=>exact hr.elim
end
open L2
theorem rM:∀ {ns:List Int}{us:List Ih},bD (ns.map V.int) us->Lb us ns:=by
 intro ns
 induction ns with
 |nil=>intro us r;cases r;exact .nil
 |cons a ns ih=>
  intro us r;cases r with
  |cons h t=>obtain⟨k,rfl⟩:=h;exact .cons a k (ih t)
theorem ia:∀ {ns:List Int}{us:List Ih},Lb us ns->bD (ns.map V.int) us:=by
 intro ns us h
 induction h with
 |nil=>exact .nil
 |cons n t _ ih=>exact .cons ⟨t,rfl⟩ ih
theorem yt (ns:List Int):(met ns).Nodup:=by
 have go:∀ (ns ks:List Int),ks.Nodup->(ns.foldl (λks k=>if k∈ks then ks else ks++[k]) ks).Nodup:=by
  intro ns
  induction ns with
  |nil=>intro ks h;exact h
  |cons a ns ih=>
   intro ks h;refine ih _ ?_;dsimp only
   split
   ·exact h
   ·rename_i hn
    exact Qb.mpr ⟨h,by simp,λx hx y hy=>by
     rw[Ii] at hy;subst hy;exact λq=>hn (q▸hx)⟩
 exact go ns [] NG
theorem yE {ns:List Int}(h1:ns.Pairwise (·<=·))(h2:ns.Nodup):ns.Pairwise (·<·):=by
 induction ns with
 |nil=>exact .nil
 |cons a l ih=>
  have p:=Kb.mp h1;have n:=JW.mp h2;refine Kb.mpr ⟨λx hx=>?_,ih p.2 n.2⟩;have:=p.1 x hx;have ne:a≠x:=λe=>n.1 (e▸hx)
  omega
section
variable {X:Cx}{K:Ia}{pins:List (Iv×Obj)}{σ:L2.St}{H:Hp}{s:Im}
theorem yq (I:Inv X pins σ H s)(d:Drawn):Inv X pins σ H { s with drawn:=d }:=⟨I.ok,I.os,I.bare,I.base,I.loc,I.cell,I.free,I.freeC,I.pin,I.hok,I.len⟩
def tSS (K:Ia)(ta:TA):TE:=λσ H Q=>ta σ H λvs H1=>∃ (q:Iv) (ns:List Int),vs=[.ref q]/\SqL K H1 q (ns.map V.int)/\ns.length<64 /\
 ∀ (L:Iv) (ns':List Int),H1 L=none->ns'.Pairwise (·<·)->(∀ x:Int,x∈ns'↔x∈ns)->ns'.length<=ns.length->Q (.ref L) (upd H1 L (.lst (ns'.map V.int)))
theorem mC (hK:X.K=K) {e:KI}{ta:TA}{p p2 pos pos2:Pos} (hc:X.calm=true) (hg:Gl X "sorted") (hm:X.mg "sorted"=none) (hg2:Gl X "set") (hm2:X.mg "set"=none) (ha:WA X [e] ta)
  (hs:IR [e] X.env=(false,L6 e X.env)::IR [] X.env:=by rfl)(hs2:(Mw pos2 (IR [] X.env)).any (·.1)=false:=by rfl)
  (hs3:IR [Expr.Call (.Name "set" p2) [e] [] pos2] X.env=[(false,L6 (.Call (.Name "set" p2) [e] [] pos2) X.env)]:=by rfl):
  WE X (.Call (.Name "sorted" p) [.Call (.Name "set" p2) [e] [] pos2] [] pos) (tSS K ta):=by
 have ha:=ha.go;refine⟨?_⟩;subst hK;intro pins s σ H Q I h;refine JT (ki I hg hm nH ?_);refine MO ?_ hs3 rfl;rw[hs3];show IB _ _ (spliced ((false,L6 (.Call (.Name "set" p2) [e] [] pos2) X.env)::[])) _ _ s;refine PC ?_;refine Call_ (ki I hg2 hm2 EV (Kc (thn (ha pos2 pins s σ H _ I h) λus s1 ⟨vs,H1,I1,r1,q1⟩=>?_) hs hs2));obtain⟨q,ns,rfl,hq,hl,k⟩:=q1;cases r1 with
 |cons ru rt=>
 cases rt;cases ru;obtain⟨its,rv,⟨o,n,po,pc,pd,pdat⟩,hsz⟩:=I1.list hq;refine BM (I1.ok.hd hc) ⟨o,po,pc,n,pdat⟩ (rM rv) (by unfold scanBound;omega) λg tk hu up le=>P6 ?_
 refine wV (st:={ s1 with heap:=g,toks:=tk }) (I1.ok.hd hc) hu (by have:=uq ns;omega) λL g2 d tk2 out ns' m hL hgL io pe sr up2 le2=>?_
 have lL:s1.heap.objs.size<=L:=IS (Kj (by obtain⟨_,_,_,_,w,_⟩:=hu;exact Ip w)) hL;have fL:=I1.hok.fresh lL;have FL:=I1.fpOk lL fL;have J0:Inv X pins σ H1 { s1 with heap:=g2,toks:=tk2,drawn:=d }:=yq (I1.kept (t':=tk2) λb o e=>up2 b o (up b o e)) d;have ln:ns'.length<=ns.length:=by rw[pe.length_eq];exact uq ns
 have J1:=iM (o:=.lst (ns'.map V.int)) J0 fL (IS I1.sz lL) FL.2.1 FL.2.2.2.2.1 FL.2.2.2.2.2 ⟨by rw[Ij,JK];omega,out.toList,m,ia io,hgL⟩;exact⟨.ref L,_,J1,rfl,k L ns' fL (yE sr (pe.nodup_iff.mpr (yt ns))) (λx=>by rw[pe.mem_iff,Dl]) ln⟩
def yT (K:Ia):List V->Hp->VK->Prop:=λvs H Q=>∃ (q:Iv) (ns:List Int),vs=[.ref q]/\SqL K H q (ns.map V.int)/\ns.length<64 /\
 ∀ (L:Iv) (ns':List Int),H L=none->ns'.Pairwise (·<=·)->ns'.Perm ns->Q (.ref L) (upd H L (.lst (ns'.map V.int)))
theorem uf:eN X (.builtin "sorted") (yT X.K):=by
 intro pins s σ H vs us Q I r h;obtain⟨q,ns,rfl,hq,hl,k⟩:=h;cases r with
 |cons ru rt=>
 cases rt;cases ru;obtain⟨its,rv,⟨o,n,po,pc,pd,pdat⟩,hsz⟩:=I.list hq;have hln:its.length=ns.length:=by have:=bD.length rv;simpa using this.symm
 refine sorted_ints (vs:=its) (ns:=ns) ⟨o,po,pc,n,pdat⟩ (rM rv) (by omega) λout ns' a1 a2 a3=>?_
 have hz:((s.heap.push (Mc "list" #[] 0)).update s.heap.objs.size (KY (·++its.toArray))).objs.size=s.heap.objs.size+1:=by rw[Heap.size_update,size_push']
 have hoL:(((s.heap.push (Mc "list" #[] 0)).update s.heap.objs.size (KY (·++its.toArray))).push (Mc "list" its.toArray 0)).get? (s.heap.objs.size+1)=some (Mc "list" its.toArray 0):=by
  rw[<- hz];exact Io _ rfl
 have up:∀ b o,s.heap.get? b=some o->(sortedAll s.heap its out).get? b=some o:=λb o e=>by
  have lb:=Ip e;unfold sortedAll;refine hU (Kx (LI lb)) (Ic _ ?_);rw[JU _ _ (Kx lb)];exact Ic _ e
 obtain⟨m,hm⟩:=ig (out:=out) hoL;have lL:s.heap.objs.size<=s.heap.objs.size+1:=Nc _;have fL:=I.hok.fresh lL;have FL:=I.fpOk lL fL;have J0:Inv X pins σ H { s with heap:=sortedAll s.heap its out }:=I.kept (t':=s.toks) up;have ln:ns'.length=ns.length:=a2.length_eq;have J1:=iM (o:=.lst (ns'.map V.int)) J0 fL (IS I.sz lL) FL.2.1 FL.2.2.2.2.1 FL.2.2.2.2.2 ⟨by rw[Ij,JK];omega,out.toList,m,ia a1,hm⟩;exact⟨.ref (s.heap.objs.size+1),_,J1,rfl,k _ ns' fL a3 a2⟩
theorem B2 (e:X.K=K):eN X (.builtin "sorted") (yT K):=by subst e;exact uf
end
def wP (p r:Pt):Rat:=((r.2-p.2:Int):Rat)/((r.1-p.1:Int):Rat)
theorem mz {g:TG}{tt:TT}{te:TE}{σ0:L2.St}{Fin:List V->Hp->Prop}{H1:Hp}{lo:Int}{t r:Iv}{n:Nat}{m:Int} (tw:c_ H1 t r) (hl:n <= 1000)
  (he:∀ (i:Nat) (H:Hp),i<n->c_ H t r->Mv [t,r] H1 H->nJ g tt te σ0 (.int (lo+i)) H λy H'=>∃ k:Int,y=.int k/\0<=k/\k<=m/\c_ H' t r/\Mv [t,r] H H')
  (hd:∀ (ks:List Int) (H:Hp),ks.length=n->(∀ k∈ks,0<=k/\k<=m)->c_ H t r->Mv [t,r] H1 H->Fin (ks.map V.int) H):iA (Itr lo n) g tt te σ0 Fin H1:=by
 refine kX (λi ys H=>c_ H t r/\Mv [t,r] H1 H/\∃ ks:List Int,ks.length=i/\(∀ k∈ks,0<=k/\k<=m)/\ys=ks.map V.int) ⟨tw,Mv.refl,[],rfl,λ_ h=>(IW h).elim,rfl⟩ hl (λi ys H hi p=>?_) (λi ys H hi p=>?_) (λys H p=>?_)
 ·obtain⟨_,_,ks,e,_,rfl⟩:=p;rw[Ij,e];exact Il _
 ·obtain⟨tw2,mv2,ks,e,hk,rfl⟩:=p;intro R kk S;refine he i H hi tw2 mv2 R (λy H' hy=>?_) S;obtain⟨k,rfl,k0,k1,tw3,mv3⟩:=hy;refine kk _ _ ⟨tw3,mv2.trans mv3,ks++[k],by simp[e],λx hx=>?_,by simp⟩;rcases Jb.mp hx with h|h
  ·exact hk x h
  ·rw[Ii] at h;subst h;exact⟨k0,k1⟩
 ·obtain⟨tw2,mv2,ks,e,hk,rfl⟩:=p;exact hd ks H e hk tw2 mv2
theorem Di (ps:List Pt):jN (ps.map ptD)=true:=by
 induction ps with
 |nil=>rfl
 |cons p ps ih=>rw[IF];simp only[jN,Ju];exact⟨rfl,ih⟩
theorem ym {K:Ia}{H:Hp}:∀ {ns:List Int}{ys:List V},aD K H (ns.map KM) ys->ys=ns.map V.int
 |[],_,.nil=>rfl
 |_::_,_,.cons (.int _) q=>by rw[ym q];rfl
theorem B3 (xs:List V)(n:Nat)(h:1<=n):Ct xs none (some ((n:Int)-1))=xs.take (n-1):=by
 unfold Ct;have e:((n:Int)-1)=((n-1:Nat):Int):=by omega
 rw[e,HT.sIx_none,HT.sIx_nat,List.drop_zero,Nat.sub_zero];apply P9;intro i;rw[Nt,Nt]
 by_cases h1:i<n-1
 ·by_cases h2:i<xs.length
  ·rw[Jh (by omega),Jh h1]
  ·rw[IY (by omega),Jh h1,List.getElem?_eq_none (by omega)]
 ·rw[IY (by omega),IY h1]
structure Pl (last:Int)(ns:List Int):Prop where
 up:ns.Pairwise (·<·)
 z:ns[0]?=some 0
 l:ns.getLast?=some last
 inn:∀ x∈ns,0<=x/\x<=last
 two:2<=ns.length
 few:ns.length<=12
theorem t7 {R:Int->Int->Prop}{ns:List Int}(h:ns.Pairwise R){i j:Nat}{a b:Int}(hij:i<j)(ea:ns[i]?=some a)(eb:ns[j]?=some b):R a b:=by
 obtain⟨hi,rfl⟩:=Iu.mp ea;obtain⟨hj,rfl⟩:=Iu.mp eb;exact NH.mp h i j hi hj hij
theorem vj {ns:List Int}{a:Int}(h:ns.getLast?=some a):ns[ns.length-1]?=some a:=by
 rw[Jz] at h;exact h
theorem Gs {last:Int}{ns:List Int}(h1:1<=last)(up:ns.Pairwise (·<·))(m0:0∈ns)(ml:last∈ns)(inn:∀ x∈ns,0<=x/\x<=last)(few:ns.length<=12):Pl last ns:=by
 obtain⟨i,hi,ei⟩:=J4 m0;obtain⟨j,hj,ej⟩:=J4 ml;have ei':ns[i]?=some 0:=by rw[ID hi,ei]
 have ej':ns[j]?=some last:=by rw[ID hj,ej]
 have i0:i=0:=by
  by_cases h:i=0
  ·exact h
  ·have h0:ns[0]?=some ns[0]:=ID (by omega);have a:=t7 up (by omega) h0 ei';have b:=(inn ns[0] (KE _)).1;omega
 have jl:j=ns.length-1:=by
  by_cases h:j=ns.length-1
  ·exact h
  ·have hl:ns[ns.length-1]?=some ns[ns.length-1]:=ID (by omega);have a:=t7 up (by omega) ej' hl;have b:=(inn ns[ns.length-1] (KE _)).2;omega
 have ne:i≠j:=λe=>by subst e;rw[ei'] at ej';injection ej';omega
 subst i0;refine⟨up,ei',by rw[Jz,<- jl];exact ej',inn,by omega,few⟩
theorem Fh {last:Int}{ns:List Int}{m:Nat}(h:Pl last ns)(m1:1<m)(m2:m<=ns.length):Pl last (ns.take (m-1)++[last])/\(ns.take (m-1)++[last]).length=m:=by
 have len:(ns.take (m-1)++[last]).length=m:=by rw[IL,IZ];simp;omega
 refine⟨⟨?_,?_,by simp,?_,by omega,by have:=h.few;omega⟩,len⟩
 ·refine O3.mpr ⟨h.up.sublist (NV _ _),List.pairwise_singleton _ _,λa ha b hb=>?_⟩;rw[Ii] at hb;subst hb;obtain⟨i,hi,rfl⟩:=J4 ha;rw[IZ] at hi;rw[P_];exact t7 h.up (i:=i) (j:=ns.length-1) (by omega) (ID (by omega)) (vj h.l)
 ·rw[Kv (by rw[IZ];omega),Nt,Jh (by omega)];exact h.z
 ·intro x hx;rcases Jb.mp hx with q|q
  ·exact h.inn x (List.mem_of_mem_take q)
  ·rw[Ii] at q;subst q;exact h.inn _ (K8 h.l)
theorem Es {last:Int}(h:1<=last):Pl last [0,last]:=⟨by simp;omega,rfl,rfl,λx hx=>by simp at hx;omega,by simp,by simp⟩
theorem zd {last:Int}{ns vs:List Int}(h:Pl last ns)(l1:last<=1000)(hv:vs.Pairwise (·<=·))(iv:∀ x∈vs,0<=x/\x<=1000)(hl:vs.length=ns.length):Pts (ns.zip vs)/\∃ z,(ns.zip vs).getLast?=some z/\z.1=last:=by
 have len:(ns.zip vs).length=ns.length:=by rw[Na];omega
 have two:=h.two;have few:=h.few;refine⟨⟨by omega,by omega,λp hp=>?_,λp hp=>?_,λi p q e1 e2=>?_⟩,?_⟩
 ·have:=(Jk.mp hp).1;rw[h.z] at this;injection this with e
  exact e.symm
 ·obtain⟨a,b⟩:=Ld (a:=p.1) (b:=p.2) hp;have:=h.inn _ a;have:=iv _ b;exact⟨by omega,by omega,by omega,by omega⟩
 ·obtain⟨a1,b1⟩:=Jk.mp e1;obtain⟨a2,b2⟩:=Jk.mp e2;exact⟨t7 h.up (JY i) a1 a2,t7 hv (JY i) b1 b2⟩
 ·have e:=vj h.l;have hb:ns.length-1<vs.length:=by omega
  refine⟨(last,vs[ns.length-1]),?_,rfl⟩;rw[Jz,len];exact Jk.mpr ⟨e,ID hb⟩
theorem Dd {a:Rat}:(p.2:Rat)+((q.2:Rat)-(p.2:Rat))/((q.1:Rat)-(p.1:Rat))*(a-(p.1:Rat))=onl p q a:=by
 unfold onl;rw[Px,Px];grind
theorem vB (p q:Pt)(a:Rat):onl p q a=(p.2:Rat)+wP p q*(a-(p.1:Rat)):=by
 rw[<- Dd];unfold wP;rw[Jg,Jg]
theorem BF (h1:p.1<q.1)(h2:p.2<=q.2):0<=wP p q:=by
 unfold wP;have a:(0:Rat)<=((q.2-p.2:Int):Rat):=by
  have:(0:Int)<=q.2-p.2:=by omega
  exact_mod_cast this
 have b:(0:Rat)<((q.1-p.1:Int):Rat):=by
  have:(0:Int)<q.1-p.1:=by omega
  exact_mod_cast this
 rw[Px];exact Rat.mul_nonneg a (Qx (Rat.inv_pos.mpr b))
theorem Cc (h1:p.1<q.1)(h2:p.2<=q.2){a b:Rat}(h:a<=b):onl p q a<=onl p q b:=by
 have m0:=BF h1 h2;rw[vB,vB];generalize wP p q=m at m0;have:=Rat.mul_nonneg m0 (show 0<=b-a by grind);grind
theorem Fu (p q:Pt):onl p q (p.1:Rat)=(p.2:Rat):=by
 rw[vB];grind
theorem Fk (h1:p.1<q.1):onl p q (q.1:Rat)=(q.2:Rat):=by
 have nz:((q.1-p.1:Int):Rat)≠0:=by
  have:(q.1-p.1:Int)≠0:=by omega
  exact_mod_cast this
 rw[vB];unfold wP;rw[Jg] at nz;rw[Jg,Jg,Px];grind
theorem wT:∀ {ns:List Int}{us:List Ih},bD (ns.map V.int) us->∃ ps:List (Int×Tok),us=ps.map (λp=>Lk p.1 p.2)/\ps.map (·.1)=ns:=by
 intro ns
 induction ns with
 |nil=>intro us r;cases r;exact⟨[],rfl,rfl⟩
 |cons a ns ih=>
  intro us r;cases r with
  |cons h t=>
   obtain⟨k,rfl⟩:=h;obtain⟨ps,rfl,rfl⟩:=ih t;exact⟨(a,k)::ps,rfl,rfl⟩
theorem yR {ps:List (Int×Tok)}{i:Nat}{p:Int×Tok}(h:ps[i]?=some p):numAt ps.toArray i=p.1:=by
 unfold numAt;rw[List.getElem?_toArray,h];rfl
theorem AB (ps:List (Int×Tok)):(ps.map λp=>Lk p.1 p.2).toArray=intItems ps.toArray:=by
 unfold intItems;simp
section
variable {X:Cx}{K:Ia}
def ipM:TIp:=λx y H Q=>∃ i j,x=.int i/\y=.int j/\pK i j/\Q (.int (i*j)) H
theorem CI:PIp X .Mult ipM:=by
 intro pins s σ H x y v u Q I r1 r2 h;obtain⟨i,j,e1,e2,hc,q⟩:=h;subst e1;subst e2;obtain⟨t,rfl⟩:=r1;obtain⟨t',rfl⟩:=r2;refine imul_int ⟨.int _,H,I.tok _,⟨_,rfl⟩,q⟩ ?_;rcases hc with ⟨h1,h2⟩|h1
 ·exact QA (IS h1.bits (by decide)) (IS h2.bits (by decide))
 ·exact QB h1.bits
end
def Eh (rs:List Rat):Rat:=rs.foldl (·+·) 0
theorem tW (rs:List Rat)(q:Rat):Eh (rs++[q])=Eh rs+q:=by unfold Eh;rw[NU];rfl
theorem uI {rs:List Rat}{i:Nat}{d:IV}(h:(rs.map rD)[i]?=some d):∃ q,rs[i]?=some q/\d=rD q:=by
 rw[Ix,IG] at h;obtain⟨q,e,rfl⟩:=h;exact⟨q,e,rfl⟩
theorem Ad {b:Nat}{rs:List Rat}(h:∀ r∈rs,Bq b r):∀ n,n<=rs.length->Bq (n*(b+1)+1) (Eh (rs.take n))
 |0,_=>by
  show Bq _ (0:Rat);exact⟨by decide,by decide,by unfold Sm;simp,by unfold Sm;simp⟩
 |n+1,hn=>by
  have hg:rs[n]?=some rs[n]:=by simp[show n<rs.length by omega]
  rw[b9 hg,tW];have:=(Ad h n (by omega)).add (h _ (KE (show n<rs.length by omega)));exact this.mono (by rw[Mb];omega)
def fH (rs:List Rat):Int:=rs.foldl (λn r=>n*(r.den:Int)) 1
theorem pq (rs:List Rat)(q:Rat):fH (rs++[q])=fH rs*(q.den:Int):=by unfold fH;rw[NU];rfl
theorem j8 {b:Nat}{rs:List Rat}(h:∀ r∈rs,Bq b r):∀ n,n<=rs.length->0<fH (rs.take n)/\Sm (n*b+1) (fH (rs.take n))
 |0,_=>by
  show 0<(1:Int)/\Sm _ (1:Int);exact⟨by decide,by unfold Sm;simp⟩
 |n+1,hn=>by
  have hg:rs[n]?=some rs[n]:=by simp[show n<rs.length by omega]
  rw[b9 hg,pq];obtain⟨h1,h2⟩:=j8 h n (by omega);have k:=h _ (KE (show n<rs.length by omega));refine⟨Int.mul_pos h1 k.pos,(h2.mul k.sd).mono (by rw[Mb];omega)⟩
theorem zk {r:Rat}(h:r∈rs):(r.den:Int)∣fH rs:=by
 have go:∀ (rs:List Rat) (n:Int),n∣rs.foldl (λn r=>n*(r.den:Int)) n:=by
  intro rs
  induction rs with
  |nil=>intro n;exact Int.dvd_refl _
  |cons a rs ih=>intro n;exact Int.dvd_trans ⟨_,rfl⟩ (ih _)
 have go2:∀ (rs:List Rat) (n:Int),r∈rs->(r.den:Int)∣rs.foldl (λn r=>n*(r.den:Int)) n:=by
  intro rs
  induction rs with
  |nil=>intro n h;cases h
  |cons a rs ih=>
   intro n h;rcases Iy.mp h with rfl|h
   ·exact Int.dvd_trans (Int.dvd_mul_left _ _) (go _ _)
   ·exact ih _ h
 exact go2 _ _ h
def ov (B:Int)(r:Rat):Int:=r.num*(B/(r.den:Int))
theorem D4 {B:Int}{r:Rat}(h:(r.den:Int)∣B):((ov B r:Int):Rat)=r*(B:Rat):=by
 obtain⟨k,rfl⟩:=h;have hd:(r.den:Int)≠0:=by have:=r.den_nz;omega
 unfold ov;rw[Int.mul_ediv_cancel_left _ hd,IP,IP];have h1:=jS r;have e1:=iW r;grind
theorem GR {b:Nat}{rs:List Rat}{r:Rat}(h:∀ r∈rs,Bq b r)(hr:r∈rs):Sm (rs.length*b+b+1) (ov (fH rs) r):=by
 obtain⟨h1,h2⟩:=j8 h rs.length (Il _);rw[Li] at h1 h2;have k:=h r hr;refine(k.sn.mul (j:=rs.length*b+1) ?_).mono (by omega);have hd:0<(r.den:Int):=k.pos;have e1:fH rs/(r.den:Int)<=fH rs:=Int.ediv_le_self _ (by omega);have e2:0<=fH rs/(r.den:Int):=OC (by omega) (by omega);unfold Sm at h2 ⊢;omega
def sw (p:Pt):Pt:=(p.2,p.1)
theorem A6 (h:Pts ps){a c:Rat}(hy:ps[0]?=some y)(hz:ps.getLast?=some z)(a0:0<=a)(x:OnC ps a c):(y.2:Rat)<=c/\c<=(z.2:Rat):=by
 obtain⟨j,p,q,st,rfl⟩:=x;have hlast:ps[ps.length-1]?=some z:=by rw[<- Jz];exact hz
 obtain⟨u1,u2⟩:=h.up j p q st.lo st.hi;have hj:=(Iu.mp st.hi).1;have m1:=(h.mono j 0 y p hy (by rw[KL];exact st.lo)).2.1;have m2:=(h.mono (ps.length-1-(j+1)) (j+1) q z st.hi (by rw[show j+1+(ps.length-1-(j+1))=ps.length-1 by omega];exact hlast)).2.1;have pa:(p.1:Rat)<=a:=by
  rcases st.gt with e|e
  ·subst e;have e1:=st.lo;have p0:=h.zero p e1;rw[p0];exact a0
  ·exact Qx e
 have e1:onl p q a<=(q.2:Rat):=by rw[<- Fk u1];exact Cc u1 u2 st.le
 have e2:(p.2:Rat)<=onl p q a:=by
  have:=Cc u1 u2 pa;rw[Fu] at this;exact this
 have m1':(y.2:Rat)<=(p.2:Rat):=by exact_mod_cast m1
 have m2':(q.2:Rat)<=(z.2:Rat):=by exact_mod_cast m2
 exact⟨OO m1' e2,OO e1 m2'⟩
def HB (k:Nat)(d:IV):Prop:=∀ ds,d=.tuple ds->ds.length<=1000/\∀ q,rD q∈ds->Bq k q
theorem o7 (h1:WE X e t)(h2:WE X e u):WE X e (λσ H Q=>t σ H Q\/u σ H Q):=by
 have h1:=h1.go;have h2:=h2.go;exact⟨λpins s σ H Q I h=>h.elim (h1 pins s σ H Q I) (h2 pins s σ H Q I)⟩
theorem jZ {H:Hp}{a b C dx:Iv}{fs:List (Str×V)}{o:HO}(ha:H a=some (.ins C dx fs))(hb:H b=some o)(hn:o≠.ins C dx fs):b≠a:=λz=>by
 rw[z,ha] at hb;exact hn (Ie hb).symm
theorem ur {K:Ia}{H:Hp}{a C dx:Iv}{fs:List (Str×V)}{o:HO}(ha:H a=some (.ins C dx fs)):∀ {ps:List Pt}{xs:List V},aD K H (ps.map ptD) xs->aD K (upd H a o) (ps.map ptD) xs
 |[],_,.nil=>.nil
 |p::ps,_,.cons h t=>by
  refine .cons ?_ (ur ha t);obtain⟨pa,rfl,hpa⟩:=bn (n:=p.1) (d:=p.2) h;exact nj (by rw[ao (jZ ha hpa (λz=>nomatch z))];exact hpa)
theorem sk.put {K:Ia}{H:Hp}{a C dx:Iv}{fs:List (Str×V)}{o:HO}(ha:H a=some (.ins C dx fs))(hf:∀ l:Iv,fs≠[(("points":Str),V.ref l)]){ps:List Pt}{v:V}(h:sk K H ps v):sk K (upd H a o) ps v:=by
 obtain⟨b,Cb,dxb,l,rfl,hC,hH,hd⟩:=h;have nb:b≠a:=jZ ha hH (λz=>by cases z;exact hf l rfl);refine⟨b,Cb,dxb,l,rfl,hC,by rw[ao nb];exact hH,?_⟩;cases hd with
 |lst h q=>
  rcases h with h|h
  ·exact .lst (.inl (by rw[ao (jZ ha h (λz=>nomatch z))];exact h)) (ur ha q)
  ·obtain⟨o',h⟩:=h;exact .lst (.inr ⟨o',by rw[ao (jZ ha h (λz=>nomatch z))];exact h⟩) (ur ha q)
theorem jF (h:a∉T):cut T (upd H a o)=upd (cut T H) a o:=by
 funext b
 by_cases e:b=a
 ·subst e;rw[fh h,ac,ac]
 ·rw[ao e];unfold cut
  split
  ·rfl
  ·rw[ao e]
theorem mH (ps:List (Int×Tok)):∀ n,n<=ps.length->preSum (numAt ps.toArray) n=((ps.take n).map (·.1)).sum
 |0,_=>rfl
 |n+1,h=>by
  have e:ps[n]?=some ps[n]:=ID (by omega);rw[b9 e,JM,List.sum_append];show preSum (numAt ps.toArray) n+numAt ps.toArray n=_;rw[mH ps n (by omega),yR e];simp
section
variable {X:Cx}{K:Ia}
def FG (K:Ia):List V->Hp->VK->Prop:=λxs H Q=>∃ (p:Iv) (ns:List Int),xs=[.ref p]/\SqL K H p (ns.map V.int)/\Q (.int ns.sum) H
theorem y6 (hc:X.calm=true):eN X (.builtin "sum") (FG X.K):=by
 intro pins s σ H xs us Q I r h;obtain⟨p,ns,rfl,hp,q⟩:=h;obtain⟨u,rfl,ru⟩:=mY r;cases ru;obtain⟨its,rv,pl,hz⟩:=I.list hp;obtain⟨ps,rfl,rfl⟩:=wT rv;have hl:=pl.isList;rw[AB] at hl;refine sum_intListG (I.ok.hd hc) hl λh' tk t' kk=>?_
 have I1:Inv X pins σ H { s with heap:=h',toks:=tk }:=I.kept kk;refine⟨.int _,H,I1,⟨t',rfl⟩,?_⟩;rw[IE,mH ps _ (Il _),Li];exact q
theorem Ce (e:X.K=K)(hc:X.calm=true):eN X (.builtin "sum") (FG K):=by subst e;exact y6 hc
end
abbrev EE (X:Cx)(o:KI)(m:Str)(args:List KI)(kws:List ND)(pl:Sem Bool)(apos pos:Pos):Prop:=
 L6 (.Call (.Attribute o m apos) args kws pos) X.env=(do let ov <- L6 o X.env;OT apos.atName;let (f,first) <- holding [ov] (getMethod ov m pl);callWith pos f first (Mw pos (IR args X.env)) (LK pos (Kt kws X.env)))
def F4 (K:Ia)(x m:Str)(sp:Sp)(gV:List V->List V->List V)(E:XK)(ta:TE)(t tk:TA):TE:=λσ H Q=>ta σ H λv H1=>∃ a C dx fs,v=.ref a/\eF K x C/\H1 a=some (.ins C dx fs)/\fs.lookup m=none /\
 t σ H1 λvs H2=>tk σ H2 λzs H3=>sp (gV (v::vs) zs) H3 Q E
section
variable {X:Cx}{CX:CXT}{K:Ia}{k n j:Nat}{x m:Str}{ps ks:List Str}{sp:Sp}{dvs:List V}{pos apos:Pos}{o e:KI}{es:List KI}{kws:List ND}{ta:TE}{t tk:TA}
theorem BP (hK:X.K=K) (hX:NoX CX) (C:rA X.prog X.w X.K X.mg X.base CX k x m ps ks n j dvs sp) (hr:Room k X.A) (he:WE X o ta) (ha:WA X (e :: es) t) (hkw:WK X kws tk)
  (hall:(LK pos (Kt kws X.env)).all (·.1.isSome)=true:=by rfl)(hks:(LK pos (Kt kws X.env)).filterMap (·.1)=ks:=by rfl)
  (hst:IR (e::es) X.env=(false,L6 e X.env)::IR es X.env:=by rfl)
  (hpl:((Mw pos (IR (e::es) X.env)).any (·.1)||(LK pos (Kt kws X.env)).any (·.1.isNone))=false:=by rfl)
  (ht:EE X o m (e::es) kws pl apos pos:=by rfl):WE X (.Call (.Attribute o m apos) (e::es) kws pos) (F4 K x m sp (qX n j dvs) E0 ta t tk):=by
 have he:=he.go;have ha:=ha.go;have hkw:=hkw.go;refine⟨?_⟩;subst hK;obtain⟨D,f,fd,ds,fs0,F,cf,hm,_,hb⟩:=C.ex;intro pins s σ H Q I h;refine MP (pl:=pl) (thn (he pins s σ H _ I h) λu s1 ⟨v,H1,I1,rv,a,E,dx,fs,ev,ec,ea,l,q⟩=>?_) ht;subst ev;cases bZ ec cf.at_;obtain rfl:u=IX a:=rv;refine k8 I1 ea cf.cls hm l ?_;refine Pw (first:=[.ref a]) (h₀:=X.base) I.ok.mod.kin hm.kp hall (thn (ha pos pins s1 σ H1 _ I1 q) λus s2 ⟨vs,H2,I2,r,q2⟩=>?_) hpl hst;refine thn (hkw pos pins s2 σ H2 _ I2 q2) λws s3 ⟨zs,H3,I3,rz,q3⟩=>⟨I3.kIn,?_⟩
 rw[hks];exact DA (us:=.ref a::us) (vs:=.ref a::vs) F hr hb (rp hX) I3 (.cons rfl r) rz q3
end
theorem Ez {K:Ia}{fd:JS}{p:Str}{ps ks:List Str}{n m:Nat}{D:Iv}{o:Obj}{z:Str}{t:Tok} (e:K.lookup D=some o)
  (h:∀ us ws:List Ih,us.length=n->ws.length=m->∃ (part:Option Ih) (kk:Obj->Sem (List (Str×Ih))),JD fd ⟨us,ks.zip ws⟩=Sem.load D part kk/\kk o=pure ((p::ps).zip (us++(ws++[.str z t])))):
  ng K fd (p::ps) ks (qX n m [.str z t]) (qX n m [.str z]):=
 ⟨λs us ws X hl=>by
  obtain⟨a,b,c⟩:=vD hl;rw[c];obtain⟨part,kk,h1,h2⟩:=h us ws a b;exact AW X e h1 h2,λa b=>vo (show bD [V.str z] [N2 z t] from .cons ⟨t,rfl⟩ .nil) a b⟩
theorem zG {K:Ia}{mg:Str->Option Ih}{x m qual p:Str}{st:Ke}{ps ks fs:List Str}{n j:Nat}{C f D:Iv}{o:Obj}{oc:Ih}{od an:Option Iv}{osl:Array (Option Ih)}{doc pm cdv ct:Ih}{z:Str}{t:Tok}
  (l:K.lookup f=some ⟨oc,od,.func (IH m qual (aJ st) (aF st) (ag st) .none (.ref D) doc pm an cdv ct),osl⟩)
  (c:I_ K cdv qual=true)(kp:IU K (.ref f)=true)(fn:Ky K (.ref f)=true)(a:Iw K Ik x=some (some (.ref C)))(b:IQ K (.ref C) m=some (some (.ref f)))(hc:ma K x fs=true)(g:mg x=some (.ref C))
  (e:K.lookup D=some o)
  (h:∀ us ws:List Ih,us.length=n->ws.length=j->∃ (part:Option Ih) (kk:Obj->Sem (List (Str×Ih))),JD (IH m qual (aJ st) (aF st) (ag st) .none (.ref D) doc pm an cdv ct) ⟨us,ks.zip ws⟩=Sem.load D part kk/\kk o=pure ((p::ps).zip (us++(ws++[.str z t])))):
  kN K mg x m qual st (p::ps) ks n j [.str z]:=by
 obtain⟨D',cf⟩:=mK hc;cases bZ cf.at_ a;exact⟨_,f,_,oc,od,.none,.ref D,doc,pm,an,cdv,ct,osl,[.str z t],fs,rfl,l,c,cf,⟨b,fn,kp⟩,g,Ez e h⟩
def pF (elt:KI)(gens:List Mf)(scope:MT)(pos:Pos)(acc:Ih)(env:Env)(d:Nat):Sem Unit:=match gens[d+1]? with
 |some g'=>do
  let x <- L6 g'.iter env
  OT g'.iter.pos
  let x <- if g'.is_async != 0 then foldedIterable g'.iter x else J' g'.iter env x
  let _ <- runOwn (.compStart (.ListComp elt gens scope pos) (d+1) (<- holding [x] (if g'.is_async != 0 then asyncIter x else PX x)) acc env) env
 |none=>do let _ <- call (.builtin "list.append") [acc,<- L6 elt env]
theorem ub {d:Nat} (h:gens[d]?=some ⟨target,iter,ifs,0⟩) :
  compTurn (.ListComp elt gens scope pos) d it acc env=(do
   OT iter.pos
   match <- MR it with
   |none=>pure (.done .next)
   |some v=>
    Mq target it v
    assign target env v
    let mut ok:=true
    for c in ifs do
     if ok then ok <- isTrue c env (L6 c env)
    if ok then
     pF elt gens scope pos acc env d
    again (.compLoop (.ListComp elt gens scope pos) d it acc env)):=by
 unfold compTurn pF;dsimp only;rw[h];cases hg:gens[d+1]? with
 |none=>rfl
 |some g'=>
  dsimp only;have z0:((0:Nat) != 0)=false:=rfl
  by_cases hz:(g'.is_async != 0)=true
  ·simp only[hz,z0,bind_assoc,LC,JR,LR];rfl
  ·have hz:(g'.is_async != 0)=false:=by simpa using hz
   simp only[hz,z0,bind_assoc,LC,JR,LR];rfl
theorem mo {d:Nat} (hd:gens[d]?=some ⟨target,iter,ifs,0⟩) (I:Nat->Im->Prop)
  (tR:∀ n s,I n s->IB (IT prog w) A (MR it) (λr s₁=>match r with
   |none=>R (.ok .next) s₁
   | some v=>IB (IT prog w) A (Mq target it v) (fun _ s₁'=>IB (IT prog w) A (assign target env v) (fun _ s₂=>
     IB (IT prog w) A (forIn ifs true λc r=>if r=true then do let ok <- isTrue c env (L6 c env);pure (Lz ok) else pure (Lz r)) (λok s₃=>
      if ok=true then IB (IT prog w) A (pF elt gens scope pos acc env d) (λ_ s₅=>∃ m,m<n/\I m s₅) (λ_ _=>False) s₃
      else ∃ m,m<n/\I m s₃) (λ_ _=>False) s₂) (λ_ _=>False) s₁') (λ_ _=>False) s₁) (λ_ _=>False) s)
  (n:Nat)(h:I n s):L5 (IT prog w) A (.compLoop (.ListComp elt gens scope pos) d it acc env) R s:=by
 refine codeAny_loop rfl I (λn s hI=>?_) n h;show IB _ A ((compTurn (.ListComp elt gens scope pos) d it acc env).onRaise (λx=>do noteFrame x env;theTreesLotGoes x)) _ _ s;refine wpAny_noted ?_;rw[ub hd];refine Ib (K4 (Ib (JG (tR n s hI) (λr s₁ h₁=>?_) λ_ _ z=>z.elim)));cases r with
 |none=>exact Ig h₁
 |some v=>
  refine Ib (JG h₁ (λ_ s₁' h₁'=>?_) λ_ _ z=>z.elim);refine Ib (JG h₁' (λ_ s₂ h₂=>Ib (JG h₂ (λok s₃ h₃=>?_) λ_ _ z=>z.elim)) λ_ _ z=>z.elim);cases ok with
  |false=>exact Ig ⟨rfl,h₃⟩
  |true=>exact Ib (JG h₃ (λ_ s₅ h₅=>Ig ⟨rfl,h₅⟩) λ_ _ z=>z.elim)
theorem r0 {d:Nat} (hd:gens[d]?=some ⟨target,iter,ifs,0⟩)
  (h0:L5 (IT prog w) A (.compLoop (.ListComp elt gens scope pos) d it acc env) R s)
  (h:IB (IT prog w) A (PX it) (λit' s'=>L5 (IT prog w) A (.compLoop (.ListComp elt gens scope pos) d it' acc env) R s')
   (notedBy (IT prog w) A env λx s'=>R (.error x) s') s) :
  L5 (IT prog w) A (.compStart (.ListComp elt gens scope pos) d it acc env) R s:=by
 refine OQ ?_;show IB _ _ ((compStart (.ListComp elt gens scope pos) d it acc env).onRaise (λx=>do noteFrame x env;OT theWindowsPlace)) _ _ s;refine wpAny_notedAt ?_;have hd':(clausesOf (.ListComp elt gens scope pos))[d]?=some ⟨target,iter,ifs,0⟩:=hd;unfold compStart;rw[hd'];show IB _ _ (ask>>=_) _ _ s;refine Ib (LS (wpAny_ite ?_))
 split
 ·first
   |exact Ib (Ig (Ig (QG rfl h0)))
   |exact Ig (QG rfl h0)
 ·first
   |exact Ib (Me (Ib (K4 (Ib (JG h (λit' s' h'=>Ig (QG rfl h')) λ_ _ x=>x)))))
   |(refine Ib (Me ?_);show IB _ _ (OT iter.pos>>=_) _ _ s;exact Ib (K4 (Ib (JG h (λit' s' h'=>Ig (QG rfl h')) λ_ _ x=>x))))
abbrev TB:=L2.St->Hp->List V->(L2.St->Hp->List V->Prop)->Prop
def lob (its:List Ih)(n:Nat):Obj:={ cls:=.type "list",data:=.seq its.toArray n }
def DOk (X:Cx)(pins:List (Iv×Obj))(D:Iv):Prop:=
 D≠X.env.locals/\(D∈X.ex\/X.s₀.heap.objs.size<=D)/\(∀ x c,X.env.cells.lookup x=some c->c≠D)/\∀ p∈X.pn++pins,p.1≠D
def PB (X:Cx)(elt:KI)(gens:List Mf)(scope:MT)(pos:Pos)(d:Nat)(t:TB):Prop:=
 ∀ (D:Iv) (pins:List (Iv×Obj)) (s:Im) (σ:L2.St) (H:Hp) (ys:List V) (its:List Ih) (n:Nat) (Q:L2.St->Hp->List V->Prop),Inv X ((D,lob its n)::pins) σ H s->DOk X pins D->bD ys its->t σ H ys Q ->
  IB (IT X.prog X.w) X.A (pF elt gens scope pos (.ref D) X.env d) (λ_ s'=>∃ σ' H' ys' its' n',Inv X ((D,lob its' n')::pins) σ' H' s'/\bD ys' its'/\Q σ' H' ys') (λ_ _=>False) s
structure WB (X:Cx)(elt:KI)(gens:List Mf)(scope:MT)(pos:Pos)(d:Nat)(t:TB):Prop where
 go:PB X elt gens scope pos d t
section
variable {X:Cx}{elt:KI}{gens:List Mf}{scope:MT}{pos:Pos}{d:Nat}
def AD (te:TE):TB:=λσ H ys Q=>ys.length<II/\te σ H λy H'=>Q σ H' (ys++[y])
theorem yU (hx:X.xe=λ_ _=>False)(hd:gens[d+1]?=none)(he:PE X elt te):PB X elt gens scope pos d (AD te):=by
 intro D pins s σ H ys its n Q I hD rv h;obtain⟨hz,h⟩:=h;unfold pF;rw[hd];dsimp only;have he':=he _ s σ H _ I h;rw[hx] at he';refine Ib (thn he' λy s8 h8=>?_);obtain⟨yv,H8,I8,r8,q8⟩:=h8;have pD:=I8.pin (D,lob its n) (IC _ IJ);have hsz:its.toArray.size<=II:=by
  have:=rv.length;rw[IE,<- this];exact Kj hz
 refine Ib (append_at (hsz:=hsz) pD.1 λh9 hs9 hD9=>Ig ?_);have J8:Inv X pins σ H8 s8:=I8.pins_of λp hp=>I8.pin p (IC _ (Iq _ hp))
 have J9:Inv X pins σ H8 { s8 with heap:=h9 }:=J8.turned (it:=D) (t':=s8.toks) (λb o hb e=>hs9.extBut b o hb e) pD.2.1 hD.1 hD.2.1 hD.2.2.1 hD.2.2.2;refine⟨σ,H8,ys++[yv],its++[y],n+1,J9.pins_of λp hp=>?_,rv.append (.cons r8 .nil),q8⟩;rcases Iy.mp hp with rfl|hp
 ·have e9:({ cls:=.type "list",data:=.seq (its.toArray.push y) (n+1) }:Obj)=lob (its++[y]) (n+1):=by unfold lob;rw[List.push_toArray]
  exact⟨by rw[<- e9];exact hD9,pD.2.1,pD.2.2.1,pD.2.2.2.1,λv z=>nomatch z⟩
 ·exact J9.pin p (IC _ hp)
def Go (wi:TI)(g:TG)(tt:TT)(tb:TB):TB:=λσ H ys Q=>wi σ H λJ H1=>∃ W:Nat->Nat->L2.St->Hp->List V->Prop,(∃ m,W 0 m σ H1 ys)/\∀ i m σ2 H2 ys2,W i m σ2 H2 ys2 ->
 (J.stop i H2/\Q σ2 H2 ys2) \/
 (J.go i H2/\∀ x H3,J.yld i H2 x H3->g x σ2 H3 λσ3 H4=>tt σ3 H4 λb H5=>if b=true then tb σ3 H5 ys2 λσ' H' ys'=>∃ m',m'<m/\W (i+1) m' σ' H' ys' else ∃ m',m'<m/\W (i+1) m' σ3 H5 ys2)
theorem vy (hx:X.xe=fun _ _=>False) (hc:X.calm=true) (hd:gens[d + 1]?=some ⟨tg,iter,ifs,0⟩) (hi:WI X tg iter wi) (hg:WG X tg g) (ht:WTs X ifs tt) (hb:WB X elt gens scope pos (d + 1) tb)
  (hs:∀ x,J' iter X.env x=pure x:=by intro _;rfl):WB X elt gens scope pos d (Go wi g tt tb):=by
 have hi:=hi.go;have hg:=hg.go;have ht:=ht.go;have hb:=hb.go;refine ⟨?_⟩;intro D pins s σ H ys its n Q I hD rv h;unfold pF;rw [hd];dsimp only;have hi':=hi _ s σ H _ I h;rw [hx] at hi';refine Ib (thn hi' fun v s1 h1=>?_);refine Ib (K4 ?_);show IB _ _ (J' iter X.env v >>= fun x=>holding [x] (PX x) >>= fun it=>runOwn (.compStart (.ListComp elt gens scope pos) (d + 1) it (.ref D) X.env) X.env >>= fun _=>pure ()) _ _ s1;rw [hs];refine Ib (Ig (Ib (JZ (thn h1 fun itv s2 h2=>?_))));obtain ⟨it,fp,tn,J,H2,rfl,I2,T,st2,f2,W,⟨m0,w0⟩,tR⟩:=h2;refine Ib (wpAny_runOwn ?_);have loop:L5 (IT X.prog X.w) X.A (.compLoop (.ListComp elt gens scope pos) (d + 1) (.ref it) (.ref D) X.env) (fun r s'=>match r with
   |.ok _=>IB (IT X.prog X.w) X.A (pure ()) (λ_ s'=>∃ σ' H' ys' its' n',Inv X ((D,lob its' n')::pins) σ' H' s'/\bD ys' its'/\Q σ' H' ys') (λ_ _=>False) s'
   |.error e=>cameBackBy (IT X.prog X.w) X.A X.env (λ_ _=>False) e s') s2:=by
  refine mo hd (λk s'=>∃ i σ' H' ys' its' n',Inv X ((D,lob its' n')::pins) σ' H' s'/\tn i s'.heap/\(∀ b∈fp,H' b=none)/\bD ys' its'/\W i k σ' H' ys') ?_ m0
   ⟨0,σ,H2,ys,its,n,I2,st2,λb hb=>(f2 b hb).1,rv,w0⟩
  rintro k s' ⟨i,σ',H',ys',its',n',I',tn',fr',rv',w'⟩;have fpOk:∀ {H':Hp}{o:Obj},(∀ b∈fp,H' b=none)->∀ b∈fp,ww X ((D,o)::pins) H' b:=λ{H' o} hn b hb=>by
   obtain⟨_,g1,g2,g3,g4,g5⟩:=f2 b hb;refine⟨hn b hb,g1,g2,g3,g4,λp hp=>?_⟩;rcases Jb.mp hp with hp|hp
   ·exact g5 p (KG _ hp)
   ·rcases Iy.mp hp with rfl|hp
    ·exact g5 (D,lob its n) (IC _ IJ)
    ·exact g5 p (IC _ (Iq _ hp))
  rcases tR i k σ' H' ys' w' with ⟨stop,fin⟩|⟨go,step⟩
  ·refine JG (T.done X rfl rfl rfl hc i _ s' σ' H' (λ_ _=>False) I' (fpOk fr') tn' stop) (λr s1 hr=>?_) λ_ _ z=>z
   obtain⟨rfl,I1⟩:=hr;exact Ig ⟨σ',H',ys',its',n',I1,rv',fin⟩
  ·refine JG (T.item X rfl rfl rfl hc i _ s' σ' H' (λ_ _=>False) I' (fpOk fr') tn' go) (λr s4 hr=>?_) λ_ _ z=>z
   obtain⟨u,rfl,h4⟩:=hr;refine JG h4 (λ_ s5 h5=>?_) λ_ _ z=>z
   obtain⟨x,H5,I5,r5,y5,tn5,fr5⟩:=h5;have I5':=I5.pinned (fpOk fr5) (T.obj _ _ tn5);have hg':=hg _ s5 σ' H5 x u _ I5' r5 (step x H5 y5);rw[hx] at hg';refine thn hg' λ_ s6 h6=>?_
   obtain⟨σ6,H6,I6,q6⟩:=h6;have ht':=ht _ s6 σ6 H6 _ I6 q6;rw[hx] at ht';refine thn ht' λok s7 h7=>?_
   obtain⟨H7,I7,q7⟩:=h7;have weak:∀ {s8:Im}{σ8:L2.St}{H8:Hp}{its8:List Ih}{n8:Nat},Inv X ((D,lob its8 n8)::(pins++kc fp s5.heap)) σ8 H8 s8->Inv X ((D,lob its8 n8)::pins) σ8 H8 s8/\tn (i+1) s8.heap/\∀ b∈fp,H8 b=none:=λ{s8 σ8 H8 its8 n8} I8=>by
    refine⟨I8.pins_of λp hp=>I8.pin p (IC _ ?_),T.keep _ _ _ tn5 λb hb o e=>(I8.pin (b,o) (IC _ (Iq _ (IC _ (eX hb e))))).1,λb hb=>?_⟩
    ·rcases Iy.mp hp with rfl|hp
     ·exact IJ
     ·exact Iq _ (KG _ hp)
    ·obtain⟨o,e,_⟩:=T.obj _ _ tn5 b hb;exact(I8.pin (b,o) (IC _ (Iq _ (IC _ (eX hb e))))).2.1
   cases ok with
   |false=>
    obtain⟨m',hm,w8⟩:=q7;obtain⟨a,b,c⟩:=weak I7;exact⟨m',hm,i+1,σ6,H7,ys',its',n',a,b,c,rv',w8⟩
   |true=>
    have D7:DOk X (pins++kc fp s5.heap) D:=⟨hD.1,hD.2.1,hD.2.2.1,λp hp=>by
     rcases Jb.mp hp with hp|hp
     ·exact hD.2.2.2 p (KG _ hp)
     ·rcases Jb.mp hp with hp|hp
      ·exact hD.2.2.2 p (IC _ hp)
      ·exact λz=>(f2 _ (mU hp).1).2.2.2.2.2 (D,lob its n) (IC _ IJ) z.symm⟩
    refine JG (hb D _ s7 σ6 H7 ys' its' n' _ I7 D7 rv' q7) (λ_ s8 h8=>?_) λ_ _ z=>z
    obtain⟨σ8,H8,ys8,its8,n8,I8,rv8,m',hm,w8⟩:=h8;obtain⟨a,b,c⟩:=weak I8;exact⟨m',hm,i+1,σ8,H8,ys8,its8,n8,a,b,c,rv8,w8⟩
 exact r0 hd loop (T.self _ 0 _ _ _ st2 loop)
end
def Ai (J:It)(g:TG)(tt:TT)(tb:TB)(σ0:L2.St)(Fin:List V->Hp->Prop)(H1:Hp):Prop:=∃ W:Nat->Nat->List V->Hp->Prop,(∃ m,W 0 m [] H1)/\∀ i m ys H2,W i m ys H2 ->
 (J.stop i H2/\ys.length<=II/\Fin ys H2) \/
 (J.go i H2/\∀ x H3,J.yld i H2 x H3->g x σ0 H3 λσ' H4=>tt σ' H4 λb H5=>if b=true then tb σ' H5 ys λ_ H6 ys'=>∃ m',m'<m/\W (i+1) m' ys' H6 else ∃ m',m'<m/\W (i+1) m' ys H5)
section
variable {X:Cx}{pins:List (Iv×Obj)}{σ:L2.St}{H H2:Hp}{s s2:Im}
theorem mD {N:List Str}{scope:MT}{elt tg iter:KI}{ifs:List KI}{lv:List Mf}{pos:Pos}{it:Iv}{fp:List Iv}{tn:Nat->Kl->Prop}{J:It}{g:TG}{tt:TT}{tb:TB}{σ0:L2.St}{Fin:List V->Hp->Prop}
  {E:Ih->Im->Prop}{RR:Ih->Iv->Result->Im->Prop}(hc:X.calm=true)(I:Inv X pins σ H2 s2)(S:Cr X scope)
  (hcap:vc X scope N σ σ0)(hlen:σ0.length=N.length)(f2:∀ b∈fp,ww X pins H2 b)(T:Cj X.prog X.w X.K tg J fp it tn)(st2:tn 0 s2.heap)
  (hg:∀ C,PG (bG X N scope (aY X scope C) C s2 H2 fp pins) tg g)(ht:∀ C,PTs (bG X N scope (aY X scope C) C s2 H2 fp pins) ifs tt)(he:∀ C,PB (bG X N scope (aY X scope C) C s2 H2 fp pins) elt (⟨tg,iter,ifs,0⟩::lv) scope pos 0 tb)(hw:Ai J g tt tb σ0 Fin H2)
  (hRR:∀ (D C:Iv) (s':Im) (H':Hp) (ys:List V),Inv X pins σ (upd H' D (.lst ys)) s'->H' D=none->Fin ys H'->(∃ m,s'.heap.Ns C m)->H' C=none->D≠C->s2.heap.objs.size<=C->RR (.ref D) C (.ok .next) s'):
  IB (IT X.prog X.w) X.A (newList []) (λacc s₃=>IB (IT X.prog X.w) X.A (NM scope X.env.globals (clo X.env.cells scope.names []) [] X.env.qual none .none (some X.env)) (λcenv s₄=>
   L5 (IT X.prog X.w) X.A (.compStart (.ListComp elt (⟨tg,iter,ifs,0⟩::lv) scope pos) 0 (.ref it) acc { cenv with scope:=relabel scope X.env }) (RR acc cenv.locals) s₄) E s₃) E s2:=by
 obtain⟨W,⟨m0,w0⟩,tR⟩:=hw;refine JB (A1 λh1 hns1 own1 kk1=>?_);dsimp only at hns1 own1 kk1 ⊢;generalize hG:s2.heap.push { cls:=.type "list",dict:=none,data:=.seq ([]:List Ih).toArray }=G at hns1 own1 kk1 ⊢;have hC:G.objs.size=s2.heap.objs.size+1:=by rw[<- hG,Jt]
 have hDC:s2.heap.objs.size≠G.objs.size:=by rw[hC];exact IK (JY _)
 have below:∀ b,b<s2.heap.objs.size->b≠G.objs.size:=λb hb=>by rw[hC];exact IK (LI hb)
 have old:∀ b o,s2.heap.get? b=some o->h1.get? b=some o:=λb o e=>kk1 b o (hG▸Ic _ e)
 have hacc:h1.get? s2.heap.objs.size=some { cls:=.type "list",data:=.seq ([]:List Ih).toArray 0 }:=kk1 _ _ (hG▸Io _ rfl);have cellLt:∀ x c,X.env.cells.lookup x=some c->c<s2.heap.objs.size:=λx c e=>by
  obtain⟨v,q⟩:=I.cell x c e;exact q.lt
 have big:∀ c:Iv,G.objs.size+1<=c->s2.heap.objs.size+2<=c:=λc h=>by rw[hC] at h;exact h
 have fo:∀ b∈fp,∃ o,s2.heap.get? b=some o:=λb hb=>let ⟨o,e,_⟩:=T.obj 0 _ st2 b hb;⟨o,e⟩
 have fpLt:∀ b∈fp,b<s2.heap.objs.size:=λb hb=>let ⟨o,e⟩:=fo b hb;Ip e
 have st1:tn 0 h1:=T.keep 0 _ _ st2 λb _ o e=>old b o e
 have hCle:s2.heap.objs.size<=G.objs.size:=by rw[hC];exact Nc _
 have I0:∀ tk,Inv (bG X N scope (aY X scope G.objs.size) G.objs.size s2 H2 fp pins) [(s2.heap.objs.size,{ cls:=.type "list",data:=.seq ([]:List Ih).toArray 0 })] σ0 H2 { s2 with heap:=h1,toks:=tk }:=λtk=>
  A2 I S hcap hlen f2 fo hCle (Il _) hDC old hns1 hacc (λv z=>nomatch z) λx c e l=>(own1 x c e).resolve_left λz=>by
   rcases gx S.free z with z|⟨_,z⟩
   ·cases z
   ·exact absurd (cellLt x c z) (JV.mpr (IS (Lj _ 2) (big c l)))
 have fpOk:∀ {H':Hp}{o:Obj},(∀ b∈fp,H' b=none)->∀ b∈fp,ww (bG X N scope (aY X scope G.objs.size) G.objs.size s2 H2 fp pins) [(s2.heap.objs.size,o)] H' b:=λ{H' o} hn b hb=>by
  obtain⟨_,g1,g2,g3,g4,g5⟩:=f2 b hb;refine⟨hn b hb,below b (fpLt b hb),u6 I g1 g2,.inl hb,λx c e=>?_,λp hp=>?_⟩;rcases iN S e with ⟨e,_⟩|⟨l,_⟩
  ·exact g4 x c e
  ·exact λz=>absurd (fpLt b hb) (JV.mpr (z▸IS (Lj _ 2) (big c l)))
  rcases Jb.mp hp with hp|hp
  ·exact g5 p hp
  ·cases Ii.mp hp;exact λz=>absurd (z▸fpLt b hb) (Ji _)
 have loop:∀ s3:Im,s3.heap=h1->s3.gens=s2.gens->s3.os=s2.os->Inv (bG X N scope (aY X scope G.objs.size) G.objs.size s2 H2 fp pins) [(s2.heap.objs.size,{ cls:=.type "list",data:=.seq ([]:List Ih).toArray 0 })] σ0 H2 s3 ->
   L5 (IT X.prog X.w) X.A (.compLoop (.ListComp elt (⟨tg,iter,ifs,0⟩::lv) scope pos) 0 (.ref it) (.ref s2.heap.objs.size) (Nz scope (aY X scope G.objs.size) G.objs.size X.env)) (RR (.ref s2.heap.objs.size) G.objs.size) s3:=by
  intro s3 e3 _ _ I3;refine mo (d:=0) rfl (λk s'=>∃ i ys its n H',Inv (bG X N scope (aY X scope G.objs.size) G.objs.size s2 H2 fp pins) [(s2.heap.objs.size,{ cls:=.type "list",data:=.seq (its:List Ih).toArray n })] σ0 H' s'/\tn i s'.heap/\(∀ b∈fp,H' b=none)/\bD ys its/\W i k ys H') ?_ m0
   ⟨0,[],[],0,H2,I3,by rw[e3];exact st1,λb hb=>(f2 b hb).1,.nil,w0⟩
  rintro k s' ⟨i,ys,its,n,H',I',tn',fr',rv,w'⟩;rcases tR i k ys H' w' with ⟨stop,hz,fin⟩|⟨go,step⟩
  ·refine JG (T.done (bG X N scope (aY X scope G.objs.size) G.objs.size s2 H2 fp pins) rfl rfl rfl hc i _ s' σ0 H' (λ_ _=>False) I' (fpOk fr') tn' stop) (λr s1 hr=>?_) λ_ _ z=>z
   obtain⟨rfl,I1⟩:=hr;obtain⟨m,hn,_⟩:=id I1.loc;exact hRR _ _ s1 H' ys (BL I f2 (Il _) I1 rv hz) (I1.pin _ (IC _ IJ)).2.1 fin ⟨m,hn⟩ I1.free hDC hCle
  ·refine JG (T.item (bG X N scope (aY X scope G.objs.size) G.objs.size s2 H2 fp pins) rfl rfl rfl hc i _ s' σ0 H' (λ_ _=>False) I' (fpOk fr') tn' go) (λr s4 hr=>?_) λ_ _ z=>z
   obtain⟨u,rfl,h4⟩:=hr;refine JG h4 (λ_ s5 h5=>?_) λ_ _ z=>z
   obtain⟨x,H5,I5,r5,y5,tn5,fr5⟩:=h5;have I5':=I5.pinned (fpOk fr5) (T.obj _ _ tn5);refine thn (hg G.objs.size _ s5 σ0 H5 x u _ I5' r5 (step x H5 y5)) λ_ s6 h6=>?_
   obtain⟨σ6,H6,I6,q6⟩:=h6;refine thn (ht G.objs.size _ s6 σ6 H6 _ I6 q6) λok s7 h7=>?_
   obtain ⟨H7,I7,q7⟩:=h7;have weak:∀ {s8:Im}{σ8:L2.St}{H8:Hp}{its':List Ih}{n':Nat},Inv (bG X N scope (aY X scope G.objs.size) G.objs.size s2 H2 fp pins) ([(s2.heap.objs.size,{ cls:=.type "list",data:=.seq its'.toArray n' })] ++ kc fp s5.heap) σ8 H8 s8 ->
     Inv (bG X N scope (aY X scope G.objs.size) G.objs.size s2 H2 fp pins) [(s2.heap.objs.size,{ cls:=.type "list",data:=.seq its'.toArray n' })] σ0 H8 s8/\tn (i+1) s8.heap/\∀ b∈fp,H8 b=none:=λ{s8 σ8 H8 its' n'} I8=>by
    have st8:tn (i+1) s8.heap:=T.keep _ _ _ tn5 λb hb o e=>(I8.pin (b,o) (IC _ (IC _ (eX hb e)))).1
    have fr8:∀ b∈fp,H8 b=none:=λb hb=>by
     obtain⟨o,e,d⟩:=T.obj _ _ tn5 b hb;exact(I8.pin (b,o) (IC _ (IC _ (eX hb e)))).2.1
    refine⟨?_,st8,fr8⟩;obtain⟨m8,hn8,_⟩:=id I8.loc;have J:=I8.unpinned;exact⟨J.ok,J.os,J.bare,J.base,⟨m8,hn8,λj y v e1 e2 _=>by
     obtain⟨m00,_,hm00⟩:=(I0 0).loc;obtain⟨u',r',l'⟩:=hm00 j y v e1 e2 (by
      obtain⟨_,_,_,_,_,z⟩:=hcap j y v e1 e2;exact .inr z)
     obtain⟨j',j1,j2,j3,jf,j4⟩:=hcap j y v e1 e2;rcases l' with ⟨k',_⟩|⟨k',c,ec,z⟩
     ·exfalso;have k'':(Nz scope [] 0 X.env).kindOf y=some .local:=k';rcases j4 with q|q<;>(rw[q] at k'';cases k'')
     ·have eo:X.env.cells.lookup y=some c:=by
       rcases iN S ec with ⟨e,_⟩|⟨_,k2⟩
       ·exact e
       ·rw[jf] at k2;cases k2
      refine⟨u',r',.inr ⟨k',c,ec,?_⟩⟩;obtain⟨oc,hoc,hd⟩:=z;have hlt:c<s2.heap.objs.size:=by
       obtain⟨v',q⟩:=I.cell y c eo;exact q.lt
      have hoc2:s2.heap.get? c=some oc:=by
       obtain⟨v',o',q',d'⟩:=I.cell y c eo;have e':=old c o' q';have hoc':h1.get? c=some oc:=hoc;rw[e'] at hoc';cases hoc';exact q'
      have nfp:c∉fp:=λz=>(f2 c z).2.2.2.2.1 y c eo rfl
      by_cases hfs:c∈frs X.stack
      ·obtain⟨sl,q⟩:=J.base.slot c oc hoc2 (I.freeC y c eo) hfs nfp;exact⟨_,q,hd⟩
      ·exact⟨oc,J.base.keep c oc hoc2 (I.freeC y c eo) hfs nfp,hd⟩⟩,J.cell,J.free,J.freeC,J.pin,J.hok,hlen⟩
   cases ok with
   |false=>
    obtain⟨m',hm,w8⟩:=q7;obtain⟨I8,st8,fr8⟩:=weak I7;exact⟨m',hm,i+1,ys,its,n,H7,I8,st8,fr8,rv,w8⟩
   |true=>
    have D7:DOk (bG X N scope (aY X scope G.objs.size) G.objs.size s2 H2 fp pins) (kc fp s5.heap) s2.heap.objs.size:=by
     refine⟨hDC,.inr (Il _),λx c e z=>?_,λp hp z=>?_⟩
     ·rcases iN S e with ⟨e,_⟩|⟨l,_⟩
      ·exact absurd (z▸cellLt x c e) (Ji _)
      ·exact absurd (IS (Lj _ 1) (big c l)) (by rw[z];exact Nat.not_succ_le_self _)
     ·rcases Jb.mp hp with hp|hp
      ·exact absurd (z▸Ip (I.pin p hp).1) (Ji _)
      ·exact absurd (z▸fpLt _ (mU hp).1) (Ji _)
    refine JG (he G.objs.size _ (kc fp s5.heap) s7 σ6 H7 ys its n _ I7 D7 rv q7) (λ_ s8 h8=>?_) λ_ _ z=>z
    obtain⟨σ8,H8,ys8,its8,n8,I8,rv8,m',hm,w8⟩:=h8;obtain⟨L1,L2',L3⟩:=weak I8;exact⟨m',hm,i+1,ys8,its8,n8,H8,L1,L2',L3,rv8,w8⟩
 exact codeAny_compStart_list (loop _ rfl rfl rfl (I0 _)) (T.self _ 0 _ _ _ st1 (loop _ rfl rfl rfl (I0 _)))
end
section
variable {X:Cx}{pos:Pos}
def Fq (wi:TI)(g:TG)(tt:TT)(tb:TB)(mk:L2.St->L2.St):TE:=λσ H Q=>wi σ H λJ H1=>Ai J g tt tb (mk σ) (λys H2=>∀ D,H2 D=none->Q (.ref D) (upd H2 D (.lst ys))) H1
theorem yH {N:List Str}{lv:List Mf}{scope:MT}{elt tg iter:KI}{ifs:List KI}{wi:TI}{g:TG}{tt:TT}{tb:TB}{mk:L2.St->L2.St} (hc:X.calm=true) (hi:WI X tg iter wi) (S:Cr X scope) (hcap:∀ σ,σ.length=X.N.length->vc X scope N σ (mk σ)/\(mk σ).length=N.length)
  (hg:∀ C s0 H0 fp pn,WG (bG X N scope (aY X scope C) C s0 H0 fp pn) tg g)(ht:∀ C s0 H0 fp pn,WTs (bG X N scope (aY X scope C) C s0 H0 fp pn) ifs tt)(he:∀ C s0 H0 fp pn,WB (bG X N scope (aY X scope C) C s0 H0 fp pn) elt (⟨tg,iter,ifs,0⟩::lv) scope pos 0 tb)
  (hs:∀ x,J' iter X.env x=pure x:=by intro _;rfl):WE X (.ListComp elt (⟨tg,iter,ifs,0⟩::lv) scope pos) (Fq wi g tt tb mk):=by
 have hi:=hi.go;have hg:=λC s0 H0 fp pn=>(hg C s0 H0 fp pn).go
 have ht:=λC s0 H0 fp pn=>(ht C s0 H0 fp pn).go
 have he:=λC s0 H0 fp pn=>(he C s0 H0 fp pn).go
 refine⟨?_⟩;intro pins s σ H Q I h;rw[eval_ListComp];refine Md (use:=none) rfl hs (sR S.free) S.kind (λy hy e=>by rw[S.once y hy,e]) ?_;refine thn (hi pins s σ H _ I h) λv s1 h1=>thn h1 λitv s2 h2=>?_
 obtain⟨it,fp,tn,J,H2,rfl,I2,T,st2,f2,hw⟩:=h2;have hcp:=hcap σ I2.len;refine mD hc I2 S hcp.1 hcp.2 f2 T st2 (λC=>hg C _ _ _ _) (λC=>ht C _ _ _ _) (λC=>he C _ _ _ _) hw ?_;intro D C s' H' ys I' hD fin hm hC hDC hle;obtain⟨m,hn⟩:=hm;refine⟨m,hn,λh' hs'=>⟨.ref D,_,?_,rfl,fin D hD⟩⟩;exact I'.turned (it:=C) (t':=s'.toks) (λb o hb e=>hs'.extBut b o hb e) (by rw[ao (KH hDC)];exact hC) (λz=>absurd (z▸I2.lt) (JV.mpr hle)) (.inr (IS I2.sz hle))
  (λx c e z=>by
   obtain⟨v',q⟩:=I2.cell x c e;exact absurd (z▸q.lt) (JV.mpr hle))
  (λp hp z=>absurd (z▸Ip (I2.pin p hp).1) (JV.mpr hle))
end
section
variable {X:Cx}{pins:List (Iv×Obj)}{σ:L2.St}{H H2:Hp}{s s2:Im}
theorem o9 {N:List Str}{scope:MT}{elt tg iter:KI}{ifs:List KI}{pos:Pos}{it:Iv}{fp:List Iv}{tn:Nat->Kl->Prop}{J:It}{g:TG}{tt:TT}{te:TE}{σ0:L2.St}{Fin:List V->Hp->Prop}
  {E:Ih->Im->Prop}{RR:Ih->Iv->Result->Im->Prop}(hc:X.calm=true)(I:Inv X pins σ H2 s2)(S:Cr X scope)
  (hcap:vc X scope N σ σ0)(hlen:σ0.length=N.length)(f2:∀ b∈fp,ww X pins H2 b)(T:Cj X.prog X.w X.K tg J fp it tn)(st2:tn 0 s2.heap)
  (hg:∀ C,PG (bG X N scope (aY X scope C) C s2 H2 fp pins) tg g)(ht:∀ C,PTs (bG X N scope (aY X scope C) C s2 H2 fp pins) ifs tt)(he:∀ C,PE (bG X N scope (aY X scope C) C s2 H2 fp pins) elt te)(hw:iA J g tt te σ0 Fin H2)
  (hRR:∀ (D C:Iv) (s':Im) (H':Hp) (ys:List V),Inv X pins σ (upd H' D (.lst ys)) s'->H' D=none->Fin ys H'->(∃ m,s'.heap.Ns C m)->H' C=none->D≠C->s2.heap.objs.size<=C->RR (.ref D) C (.ok .next) s'):
  IB (IT X.prog X.w) X.A (newList []) (λacc s₃=>IB (IT X.prog X.w) X.A (NM scope X.env.globals (clo X.env.cells scope.names []) [] X.env.qual none .none (some X.env)) (λcenv s₄=>
   L5 (IT X.prog X.w) X.A (.compStart (.ListComp elt [⟨tg,iter,ifs,0⟩] scope pos) 0 (.ref it) acc { cenv with scope:=relabel scope X.env }) (RR acc cenv.locals) s₄) E s₃) E s2:=by
 obtain⟨W,h0,tR⟩:=hw;refine mD (lv:=[]) (tb:=AD te) hc I S hcap hlen f2 T st2 hg ht (λC=>yU rfl rfl (he C)) ⟨W,h0,λi m ys H w=>?_⟩ hRR;rcases tR i m ys H w with h|⟨h1,h2,h3⟩
 ·exact .inl h
 ·refine .inr ⟨h1,λx H3 y=>?_⟩;have:=h3 x H3 y
  simpa only [AD,h2,true_and] using this
end
section
variable {X:Cx}{pos:Pos}
def A8 (wi:TI)(g:TG)(tt:TT)(te:TE)(mk:L2.St->L2.St):TE:=λσ H Q=>wi σ H λJ H1=>iA J g tt te (mk σ) (λys H2=>∀ D,H2 D=none->Q (.ref D) (upd H2 D (.lst ys))) H1
theorem Bv (hc:X.calm=true) (hi:WI X tg iter wi) (S:Cr X scope) (hcap:∀ σ,σ.length=X.N.length->vc X scope N σ (mk σ)/\(mk σ).length=N.length)
  (hg:∀ C s0 H0 fp pn,WG (bG X N scope (aY X scope C) C s0 H0 fp pn) tg g)(ht:∀ C s0 H0 fp pn,WTs (bG X N scope (aY X scope C) C s0 H0 fp pn) ifs tt)(he:∀ C s0 H0 fp pn,WE (bG X N scope (aY X scope C) C s0 H0 fp pn) elt te)
  (hs:∀ x,J' iter X.env x=pure x:=by intro _;rfl):WE X (.ListComp elt [⟨tg,iter,ifs,0⟩] scope pos) (A8 wi g tt te mk):=by
 have hi:=hi.go;have hg:=λC s0 H0 fp pn=>(hg C s0 H0 fp pn).go
 have ht:=λC s0 H0 fp pn=>(ht C s0 H0 fp pn).go
 have he:=λC s0 H0 fp pn=>(he C s0 H0 fp pn).go
 refine⟨?_⟩;intro pins s σ H Q I h;rw[eval_ListComp];refine Md (use:=none) rfl hs (sR S.free) S.kind (λy hy e=>by rw[S.once y hy,e]) ?_;refine thn (hi pins s σ H _ I h) λv s1 h1=>thn h1 λitv s2 h2=>?_
 obtain⟨it,fp,tn,J,H2,rfl,I2,T,st2,f2,hw⟩:=h2;have hcp:=hcap σ I2.len;refine o9 hc I2 S hcp.1 hcp.2 f2 T st2 (λC=>hg C _ _ _ _) (λC=>ht C _ _ _ _) (λC=>he C _ _ _ _) hw ?_;intro D C s' H' ys I' hD fin hm hC hDC hle;obtain⟨m,hn⟩:=hm;refine⟨m,hn,λh' hs'=>⟨.ref D,_,?_,rfl,fin D hD⟩⟩;exact I'.turned (it:=C) (t':=s'.toks) (λb o hb e=>hs'.extBut b o hb e) (by rw[ao (KH hDC)];exact hC) (λz=>absurd (z▸I2.lt) (JV.mpr hle)) (.inr (IS I2.sz hle))
  (λx c e z=>by
   obtain⟨v',q⟩:=I2.cell x c e;exact absurd (z▸q.lt) (JV.mpr hle))
  (λp hp z=>absurd (z▸Ip (I2.pin p hp).1) (JV.mpr hle))
end
section
variable {X:Cx}{pos:Pos}
def Ck (i:Nat)(wi:TI)(g:TG)(tt:TT)(te:TE)(mk:L2.St->L2.St):TS:=λE σ H=>wi σ H λJ H1=>iA J g tt te (mk σ) (λys H2=>∀ D,H2 D=none->E.nx (σ.set i (some (.ref D))) (upd H2 D (.lst ys))) H1
theorem uD {i:Nat} (hc:X.calm=true) (hN:X.N.Nodup) (hi':X.N[i]?=some y) (hy:X.env.scope.names.lookup y=some .local)
  (hi:WI X tg iter wi)(S:Cr X scope)(hcap:∀ σ,σ.length=X.N.length->vc X scope N σ (mk σ)/\(mk σ).length=N.length)
  (hg:∀ C s0 H0 fp pn,WG (bG X N scope (aY X scope C) C s0 H0 fp pn) tg g)(ht:∀ C s0 H0 fp pn,WTs (bG X N scope (aY X scope C) C s0 H0 fp pn) ifs tt)(he:∀ C s0 H0 fp pn,WE (bG X N scope (aY X scope C) C s0 H0 fp pn) elt te)
  (hsw:N5 (.ListComp elt [⟨tg,iter,ifs,0⟩] scope pos) (some (.Name y py)) spos.line X.env=pure true:=by rfl)
  (hs:∀ x,J' iter X.env x=pure x:=by intro _;rfl):WS X (.Assign [.Name y py] (.ListComp elt [⟨tg,iter,ifs,0⟩] scope pos) spos) (Ck i wi g tt te mk):=by
 have hi:=hi.go;have hg:=λC s0 H0 fp pn=>(hg C s0 H0 fp pn).go
 have ht:=λC s0 H0 fp pn=>(ht C s0 H0 fp pn).go
 have he:=λC s0 H0 fp pn=>(he C s0 H0 fp pn).go
 refine⟨?_⟩;intro pins s σ H E I h;rw[exec_Assign_Name_used _ _ _ _ hsw];refine Ib (K4 (Ib ?_));show IB _ X.A (do let _ <- comprehension (.ListComp elt [⟨tg,iter,ifs,0⟩] scope pos) scope X.env _ (newList []) false (L6 iter X.env) (some (assign (.Name y py) X.env))) _ _ s;refine Ib (JG (Md (use:=some (assign (.Name y py) X.env)) (Q:=λ_ s'=>SP X pins E .next s') rfl hs (sR S.free) S.kind (λy hy e=>by rw[S.once y hy,e]) ?_) (λ_ s' hq=>Ig (Ig hq)) λ_ _ e=>e);refine thn (hi pins s σ H _ I h) λv s1 h1=>thn h1 λitv s2 h2=>?_
 obtain⟨it,fp,tn,J,H2,rfl,I2,T,st2,f2,hw⟩:=h2;have hcp:=hcap σ I2.len;refine o9 hc I2 S hcp.1 hcp.2 f2 T st2 (λC=>hg C _ _ _ _) (λC=>ht C _ _ _ _) (λC=>he C _ _ _ _) hw ?_;intro D C s' H' ys I' hD fin hm hC hDC hle;obtain⟨m,hn⟩:=hm;have neC:X.env.locals≠C:=λz=>absurd (z▸I2.lt) (JV.mpr hle)
 have upC:(upd H' D (.lst ys)) C=none:=by rw[ao (KH hDC)];exact hC
 show IB _ X.A (assign (.Name y py) X.env (.ref D)) _ _ s';refine wpAny_assign_Name (rP I' hN hi' (.inl hy) (v:=.ref D) (u:=.ref D) rfl (λs3 I3 ⟨a,sb,ha⟩=>?_) (.inr hy));have aC:C≠a:=by
  rcases ha with e|e
  ·rw[e];exact KH neC
  ·intro z;obtain⟨v',q⟩:=I2.cell y a e;exact absurd (z▸q.lt) (JV.mpr hle)
 refine⟨m,hn.sameBut sb aC,λh' hs'=>⟨_,_,?_,fin D hD⟩⟩;exact I3.turned (it:=C) (t':=s3.toks) (λb o hb e=>hs'.extBut b o hb e) upC (KH neC) (.inr (IS I2.sz hle))
  (λx c e z=>by
   obtain⟨v',q⟩:=I2.cell x c e;exact absurd (z▸q.lt) (JV.mpr hle))
  (λp hp z=>absurd (z▸Ip (I2.pin p hp).1) (JV.mpr hle))
end
end TR
namespace L2
open PySem PySem.Spec PyProof.Rows
section
variable {κ:Type}[DecidableEq κ]
def vT (kvs:List (κ×V))(k:κ):Option V:=(kvs.find? λkv=>decide (kv.1=k)).map (·.2)
def v_ (kvs:List (κ×V))(k:κ)(v:V):List (κ×V):=
 if(kvs.any λkv=>decide (kv.1=k))=true then kvs.map (λkv=>if kv.1=k then(kv.1,v) else kv) else kvs++[(k,v)]
theorem me {p:κ×V}{r:List (κ×V)}{k:κ}(e:p.1=k):vT (p::r) k=some p.2:=by simp[vT,KP,e]
theorem kf {p:κ×V}{r:List (κ×V)}{k:κ}(e:¬ p.1=k):vT (p::r) k=vT r k:=by simp[vT,KP,e]
theorem qN (k:κ):∀ kvs:List (κ×V),(kvs.any λkv=>decide (kv.1=k))=(vT kvs k).isSome
 |[]=>rfl
 |p::r=>by
  rw[PL]
  by_cases e:p.1=k
  ·simp only[me e,Ir e,Bool.true_or,PN]
  ·rw[kf e,Jd e,Bool.false_or];exact qN k r
theorem nX (kvs:List (κ×V))(k:κ)(v:V):(v_ kvs k v).length<=kvs.length+1:=by
 unfold v_
 split
 ·rw[Ij];omega
 ·rw[IL,Jo,M_];omega
theorem A_ {kvs:List (κ×V)}{k:κ}(v:V)(h:vT kvs k=none):v_ kvs k v=kvs++[(k,v)]:=by
 unfold v_;rw[qN,h];exact IY (by decide)
theorem t_.isSome_eq (r:t_ o u):o.isSome=u.isSome:=by
 cases o with
 |none=>cases u with
  |none=>rfl
  |some _=>exact(show False from r).elim
 |some _=>cases u with
  |none=>exact(show False from r).elim
  |some _=>rfl
theorem KV.val {kvs:List (κ×V)}{vs:List (κ×Ih)}(r:KV kvs vs)(k:κ):t_ (vT kvs k) (Ql vs k):=by
 unfold KV at r
 induction r with
 |nil=>exact True.intro
 |@cons p q ps qs h t ih=>
  obtain⟨h1,h2⟩:=h
  by_cases e:p.1=k
  ·have e':q.1=k:=h1.symm.trans e;have b:Ql (q::qs) k=some q.2:=by simp[Ql,KP,e']
   rw[me e,b];exact h2
  ·have e':¬ q.1=k:=λz=>e (h1.trans z)
   have b:Ql (q::qs) k=Ql qs k:=by simp[Ql,KP,e']
   rw[kf e,b];exact ih
theorem KV.any (r:KV kvs vs)(k:κ):(kvs.any λkv=>decide (kv.1=k))=vs.any λkv=>decide (kv.1=k):=by
 unfold KV at r
 induction r with
 |nil=>rfl
 |cons h t ih=>rw[PL,PL,ih,h.1]
theorem KV.repl (r:KV kvs vs) (k:κ) (ry:c9 y u) :
  KV (kvs.map λkv=>if kv.1=k then(kv.1,y) else kv) (vs.map λkv=>if kv.1=k then(kv.1,u) else kv):=by
 unfold KV at r ⊢
 induction r with
 |nil=>exact .nil
 |@cons p q ps qs h t ih=>
  rw[IF,IF];refine .cons ?_ ih;obtain⟨h1,h2⟩:=h
  by_cases e:p.1=k
  ·rw[Jh e,Jh (h1.symm.trans e)];exact⟨h1,ry⟩
  ·rw[IY e,IY (λz=>e (h1.trans z))];exact⟨h1,h2⟩
theorem KV.put (r:KV kvs vs)(k:κ)(ry:c9 y u):KV (v_ kvs k y) (stored vs k u):=by
 unfold v_ stored;rw[r.any k]
 by_cases e:(vs.any λkv=>decide (kv.1=k))=true
 ·rw[Jh e,Jh e];exact r.repl k ry
 ·rw[IY e,IY e];exact Paired.snoc r ⟨rfl,ry⟩
theorem KV.length (r:KV kvs vs):kvs.length=vs.length:=PP r
end
theorem Do (r:c9 (kV k) u):(ck P w).is k u=true:=by
 cases k with
 |inl i=>obtain⟨t,e⟩:=(show ∃ t,u=Lk i t from r);subst e;exact uw P w i t
 |inr x=>obtain⟨t,e⟩:=(show ∃ t,u=N2 x t from r);subst e;exact uc P w x t
theorem qY:∀ {ks:List Key}{us:List Ih},bD (ks.map kV) us->ItemsAre (ck P w) ks us
 |[],_,r=>by rw[K1] at r;cases r;exact .nil
 |k::ks,_,r=>by
  rw[IF] at r;cases r with
  |cons h t=>exact .cons (Do h) (qY t)
abbrev KT (H:Hp):List (List Key×V)->List (List Key×Iv×Ih)->Prop:=NW λp q=>p.1=q.1/\H q.2.1=some (.tup (p.1.map kV))/\c9 p.2 q.2.2
theorem KT.val {H:Hp}{kvs:List (List Key×V)}{xs:List (List Key×Iv×Ih)}(r:KT H kvs xs)(k:List Key):t_ (vT kvs k) ((atKey xs k).map (·.2)):=by
 induction r with
 |nil=>exact True.intro
 |@cons p q ps qs h t ih=>
  obtain⟨h1,_,h2⟩:=h
  by_cases e:p.1=k
  ·have e':q.1=k:=h1.symm.trans e;have b:atKey (q::qs) k=some q.2:=by simp[atKey,KP,e']
   rw[me e,b];exact h2
  ·have e':¬ q.1=k:=λz=>e (h1.trans z)
   have b:atKey (q::qs) k=atKey qs k:=by simp[atKey,KP,e']
   rw[kf e,b];exact ih
theorem KT.repl (r:KT H kvs xs) (k:List Key) (ry:c9 y u) :
  KT H (kvs.map λkv=>if kv.1=k then(kv.1,y) else kv) (xs.map (putAt k u)):=by
 induction r with
 |nil=>exact .nil
 |@cons p q ps qs h t ih=>
  rw[IF,IF];refine .cons ?_ ih;obtain⟨h1,h2,h3⟩:=h;unfold putAt
  by_cases e:p.1=k
  ·rw[Jh e,Jh (h1.symm.trans e)];exact⟨h1,h2,ry⟩
  ·rw[IY e,IY (λz=>e (h1.trans z))];exact⟨h1,h2,h3⟩
theorem KT.put (r:KT H kvs xs) (k:List Key) (hb:H b=some (.tup (k.map kV))) (ry:c9 y u) :
  KT H (v_ kvs k y) (storedH xs k b u):=by
 have e:(kvs.any λkv=>decide (kv.1=k))=(atKey xs k).isSome:=by
  rw[qN,(r.val k).isSome_eq,Option.isSome_map]
 unfold v_ storedH;rw[e]
 by_cases q:(atKey xs k).isSome=true
 ·rw[Jh q,Jh q];exact r.repl k ry
 ·rw[IY q,IY q];exact Paired.snoc r ⟨rfl,hb,ry⟩
theorem KT.keeps (r:KT H kvs xs)(ht:∀ b ys,H b=some (.tup ys)->H' b=some (.tup ys)):KT H' kvs xs:=
 Paired.mapP r λ_ _ z=>⟨z.1,ht _ _ z.2.1,z.2.2⟩
section
variable {P:IN}{w:Jm}{H:Hp}{h:Kl}{a:Iv}
theorem Fp (ok:HOk P w H h)(e:Rd H a u):cF P w H h a u:=e.ok ok
theorem DF (ok:HOk P w H h)(e:Rd H a (.dK kvs)):kvs.length<=II/\(a==Kg)=false/\∃ vs,KV kvs vs/\h.DictOf (ck P w) a vs:=
 show cF P w H h a (.dK kvs) from Fp ok e
theorem GC (ok:HOk P w H h)(e:H a=some (.dK kvs)):kvs.length<=II/\(a==Kg)=false/\∃ vs,KV kvs vs/\h.DictOf (ck P w) a vs:=DF ok (.inl e)
theorem v7 (ok:HOk P w H h)(e:H a=some (.tup (ks.map kV))):(LD (ck P w)).is h ks a:=by
 obtain⟨_,its,r,o,h1,h2,n,h3⟩:=(show cF P w H h a (.tup (ks.map kV)) from ok a _ e)
 exact⟨o,its.toArray,n,h1,h2,h3,by simpa using qY r⟩
theorem wF (ok:HOk P w H h) (e:Rd H a (.dT kvs)):kvs.length <= II/\(a == Kg)=false /\
  ∃ xs,KT H kvs xs/\h.DictOfH (LD (ck P w)) a xs:=by
 obtain⟨z,y,xs,r,o,es,ep,h1,h2,h3,h4,h5⟩:=(show cF P w H h a (.dT kvs) from Fp ok e)
 refine⟨z,y,xs,r,o,es,ep,h1,h2,h3,h4,λx hx=>?_,h5⟩;have all:∀ {l:List (List Key×V)}{m:List (List Key×Iv×Ih)},KT H l m->∀ x∈m,(LD (ck P w)).is h x.1 x.2.1:=by
  intro l m q
  induction q with
  |nil=>intro x hx;exact nomatch hx
  |@cons p q ps qs hq t ih=>
   intro x hx;rcases Iy.mp hx with e|hx
   ·subst e;exact v7 ok (by rw[<- hq.1];exact hq.2.1)
   ·exact ih x hx
 exact all r x hx
theorem F_ (ok:HOk P w H h) (e:H a=some (.dT kvs)):kvs.length <= II/\(a == Kg)=false /\
  ∃ xs,KT H kvs xs/\h.DictOfH (LD (ck P w)) a xs:=wF ok (.inl e)
end
def Db (H:Hp)(a:Iv)(y:V)(r:Option V):Prop:=
 (∃ kvs k,Rd H a (.dK kvs)/\y=kV k/\r=vT kvs k)\/∃ kvs k b,Rd H a (.dT kvs)/\y=.ref b/\H b=some (.tup (k.map kV))/\r=vT kvs k
def EM (H:Hp)(a:Iv)(y v:V)(H':Hp):Prop:=
 (∃ kvs k,H a=some (.dK kvs)/\y=kV k/\kvs.length<II/\H'=upd H a (.dK (v_ kvs k v))) \/
 ∃ kvs k b,H a=some (.dT kvs)/\y=.ref b/\H b=some (.tup (k.map kV))/\kvs.length<II/\H'=upd H a (.dT (v_ kvs k v))
theorem Db.t {H:Hp}{a b:Iv}{kvs:List (List Key×V)}{k:List Key}(e:H a=some (.dT kvs))(eb:H b=some (.tup (k.map kV))):Db H a (.ref b) (vT kvs k):=.inr ⟨kvs,k,b,.inl e,rfl,eb,rfl⟩
theorem EM.t {H:Hp}{a b:Iv}{kvs:List (List Key × V)}{k:List Key}{v:V} (e:H a=some (.dT kvs)) (eb:H b=some (.tup (k.map kV))) (hl:kvs.length < II) :
  EM H a (.ref b) v (upd H a (.dT (v_ kvs k v))):=.inr ⟨kvs,k,b,e,rfl,eb,hl,rfl⟩
section
variable {X:Cx}{pins:List (Iv×Obj)}{σ:St}{H:Hp}{s:Im}{a:Iv}{y v:V}{u r:Ih}{o:Option V}{A:JA}{E:Ih->Im->Prop}
theorem Inv.big (I:Inv X pins σ H s):Kg<s.heap.objs.size:=by
 have h:Ik<s.heap.objs.size:=(I.mod.glob.keeps I.bk).lt;exact Nat.lt_trans (by decide) h
theorem yo (hu:A.units + 1 < cLine) (I:Inv X pins σ H s) (g:Db H a y (some v)) (ry:c9 y u) (h:∀ w' s',Inv X pins σ H s'->c9 v w'->Q w' s') :
  IB (IT X.prog X.w) A (QN (.ref a) u) Q E s:=by
 rcases g with ⟨kvs,k,e,ey,l⟩|⟨kvs,k,b,e,ey,eb,l⟩
 ·subst ey;obtain⟨z,hd,vs,rel,dd⟩:=DF I.hok e;obtain⟨w',hw,rw'⟩:=t_.some_of (v:=v) (o:=Ql vs k) (by rw[l];exact rel.val k);exact wpAny_getItem_of (Do ry) dd.mapOf hw (h w' _ (I.tok _) rw')
 ·subst ey;cases(show u=IX b from ry);obtain⟨z,hd,xs,rel,dd⟩:=wF I.hok e;obtain⟨w',hw,rw'⟩:=t_.some_of (v:=v) (o:=(atKey xs k).map (·.2)) (by rw[l];exact rel.val k);obtain⟨p,hp,hp2⟩:=IG.mp hw;refine wpAny_getItem_heap (tupleKind_room_in1 hu) (v7 I.hok eb) dd hp ?_;rw[hp2];exact h w' _ (I.tok _) rw'
theorem zc {t':Nat} (I:Inv X pins σ H s) (mu:Mut (H a)) (hs:Jw a s.heap h') (he:∃ q,h'.get? a=some q) (new:cF X.prog X.w (upd H a ob) h' a ob) :
  Inv X pins σ (upd H a ob) { s with heap:=h',toks:=t' }:=
 I.write (x:=a) (e:=a) mu (.inl rfl) (λb q hb z=>(hs.2 b hb).trans z) he new
theorem E5 (z:kvs.length <= II) (hd:(a == Kg)=false) (rel:KV kvs vs) (dd:h'.DictOf (ck P w) a vs) :
  cF P w H' h' a (.dK kvs):=⟨z,hd,vs,rel,dd⟩
theorem yF (hu:A.units + 1 < cLine) (I:Inv X pins σ H s) (g:EM H a y v H') (ry:c9 y u) (rv:c9 v r) (h:∀ s',Inv X pins σ H' s'->Q () s') :
  IB (IT X.prog X.w) A (setItem (.ref a) u r) Q E s:=by
 rcases g with ⟨kvs,k,e,ey,l,eH⟩|⟨kvs,k,b,e,ey,eb,l,eH⟩
 ·subst ey eH;obtain⟨z,hd,vs,rel,dd⟩:=GC I.hok e;have hz:vs.length<=II:=by rw[<- rel.length];exact z
  have hl:(v_ kvs k v).length<=II:=by have:=nX kvs k v;omega
  refine wpAny_setItem_pairs (hsz:=hz) (Do ry) dd λh' dd' hs=>h _ ?_
  have he:∃ q,h'.get? a=some q:=let ⟨q,_,_,hq,_⟩:=dd';⟨q,hq⟩
  exact zc I (by rw[e];exact True.intro) hs he (E5 hl hd (rel.put k rv) dd')
 ·subst ey eH;cases(show u=IX b from ry);obtain⟨z,hd,xs,rel,dd⟩:=F_ I.hok e;have hz:xs.length<=II:=by rw[<- PP rel];exact z
  have hl:(v_ kvs k v).length<=II:=by have:=nX kvs k v;omega
  refine wpAny_setItem_heap (hsz:=hz) (tupleKind_room_in1 hu) (v7 I.hok eb) dd λh' dd' hs=>h _ ?_
  obtain⟨q,es,ep,hq,h2,h3,h4,_,h5⟩:=dd';refine zc I (by rw[e];exact True.intro) hs ⟨q,hq⟩ ⟨hl,hd,_,(rel.put k eb rv).keeps λc ys ec=>?_,q,es,ep,hq,h2,h3,h4,h5⟩;rw[ao (FB ec e (λz=>nomatch z))];exact ec
end
def GU (i:KI):Prop:=∀ ov iv,subscripted i false ov iv=operate [ov,iv] (QN ov iv)
theorem C7 {prog:IN}{w:Jm}{A:JA}{E:Ih->Im->Prop}{s:Im}{env:Env}{value slice:KI}{pos:Pos}{T id:String}{Q:Ih->Im->Prop}
  (hl:typeLookup (.type T) "__getitem__"=pure (some (.builtin id)))(hs:GU slice)
  (h:IB (IT prog w) A (L6 value env) (λo s₁=>IB (IT prog w) A (L6 slice env) (λi s₂=>s₂.TypeIs o T/\IB (IT prog w) A (QN o i) Q E s₂) E s₁) E s):
  IB (IT prog w) A (L6 (.Subscript value slice pos) env) Q E s:=by
 refine Qh (JG h (λo s₁ h₁=>JG h₁ (λi s₂ h₂=>?_) λ_ _ x=>x) λ_ _ x=>x);obtain⟨hT,h₂⟩:=h₂;unfold P1;refine Ib ?_;rw[getitemInPython_of_ne hT.not_modules];refine Ib (Nn hT hl ?_);have fin:IB (IT prog w) A (subscripted slice false o i) (λr s₃=>IB (IT prog w) A (letTemporaryGo value o r>>=λ_=>pure r) Q E s₃) E s₂:=by
  rw[hs o i];exact wpAny_operating (JG h₂ (λr s₃ h₃=>Ib (wpAny_letTemporaryGo (Ig h₃))) λ_ _ x=>x)
 first
  |exact Ig (Ib fin)
  |exact Ib (Ig (Ib fin))
  |exact Ib fin
theorem ug (I:Inv X pins σ H s)(g:Db H a y o):s.TypeIs (.ref a) "dict":=by
 rcases g with ⟨kvs,k,e,_,_⟩|⟨kvs,k,b,e,_,_,_⟩
 ·obtain⟨_,_,vs,_,dd⟩:=DF I.hok e;exact dd.typeIs
 ·obtain⟨_,_,xs,_,dd⟩:=wF I.hok e;exact dd.typeIs
def GK (td ty:TE):TE:=λσ H Q=>td σ H λx H1=>ty σ H1 λy H2=>∃ a v,x=.ref a/\Db H2 a y (some v)/\Q v H2
def F5 (td ty tv:TE):TS:=λD σ H=>tv σ H λv H1=>td σ H1 λx H2=>ty σ H2 λy H3=>∃ a H4,x=.ref a/\EM H3 a y v H4/\D.nx σ H4
section
variable {X:Cx}{o i e value:KI}{pos pos' tpos:Pos}{td ty tv:TE}
theorem md (hu:X.A.units+1<cLine)(ho:WE X o td)(hi:WE X i ty)(hs:GU i):WE X (.Subscript o i pos) (GK td ty):=by
 have ho:=ho.go;have hi:=hi.go;refine⟨?_⟩;intro pins s σ H Q I h;refine C7 PySem.F.slot_dict_getitem.lookup hs (thn (ho pins s σ H _ I h) λu s1 ⟨x,H1,I1,rx,q1⟩=>thn (hi pins s1 σ H1 _ I1 q1) λiv s2 ⟨y,H2,I2,ry,a,v,ex,g,q2⟩=>?_);subst ex;obtain rfl:u=IX a:=rx;exact⟨ug I2 g,yo hu I2 g ry λw' s3 I3 rw'=>⟨v,H2,I3,rw',q2⟩⟩
theorem A5 (hu:X.A.units + 1 < cLine) (ho:WE X o td) (hi:WE X i ty) (hv:WE X value tv) (hs:N5 value (some (.Subscript o i pos')) pos.line X.env=pure false) :
  WS X (.Assign [.Subscript o i pos'] value pos) (F5 td ty tv):=by
 have ho:=ho.go;have hi:=hi.go;have hv:=hv.go;refine⟨?_⟩;intro pins s σ H D I h;refine wpAny_Assign_Subscript (thn (hv pins s σ H _ I h) λr s1 ⟨v,H1,I1,rv,q1⟩=>thn (ho pins s1 σ H1 _ I1 q1) λu s2 ⟨x,H2,I2,rx,q2⟩=>thn (hi pins s2 σ H2 _ I2 q2) λiv s3 ⟨y,H3,I3,ry,a,H4,ex,g,q3⟩=>?_) hs;subst ex;obtain rfl:u=IX a:=rx;exact yF hu I3 g ry rv λs4 I4=>⟨σ,H4,I4,q3⟩
end
theorem Bf (h:Kl)(hb:Kg<h.objs.size):cF P w H (h.push { cls:=.type "dict",data:=.dict #[] }) h.objs.size (.dT []):=
 ⟨Jj _,Ks.mpr (KH (IK hb)),[],.nil,_,#[],0,Io _ rfl,⟨rfl,rfl,rfl⟩,rfl,rfl,NG⟩
def Fx:TE:=λ_ H Q=>∀ p,H p=none->Q (.ref p) (upd H p (.dT []))
section
variable {X:Cx}{pos:Pos}
theorem ya:WE X (.Dict [] [] pos) Fx:=by
 exact⟨λpins s σ H Q I h=>
 wpAny_Dict_empty ⟨.ref s.heap.objs.size,_,I.laid (a:=s.heap.objs.size) (o:=.dT []) (t':=s.toks) (λ_ _ q=>Ic _ q) (Il _) (Bf s.heap I.big),rfl,h _ (I.hok.fresh (Il _))⟩⟩
end
def IsD (H:Hp)(a:Iv):Prop:=(∃ kvs,Rd H a (.dK kvs))\/∃ kvs,Rd H a (.dT kvs)
end L2
namespace PySem
section
variable {prog:IN}{w:Jm}{K:Type}[DecidableEq K]{knd:HeapKind prog w K}{A:JA}{E:Ih->Im->Prop}{s:Im}
theorem nv (knd:HeapKind prog w K) (d:Iv) (hd:(d == Kg)=false) :
  MeetsIn prog w (Lg.«dict.__len__» ⟨[.ref d],[]⟩) (λ_ R s=>∃ xs,s.heap.DictOfH knd d xs/\R (.ok (.ret (.int xs.length s.toks))) { s with toks:=s.toks+1 }):=
 .of_wp λA R s ⟨xs,hm,h⟩=>by
  obtain⟨o,es,ep,ho,hc,hdat,he,hi,hn⟩:=hm;show IB _ _ (dictSize d>>=_) _ _ s;unfold dictSize;refine Ib (Ib (KN ho hdat (Ig ?_)));show IB _ _ (Builtin.Dict.pendingCount d>>=_) _ _ s;refine Ib (wpAny_pendingCount_other hd ?_);refine wpAny_ret_mkInt ?_;rw[Qs,OS he];exact h
theorem yZ {d:Iv}{xs:List (K × Iv × Ih)}{Q:Ih->Im->Prop} (hd:(d == Kg)=false) (hm:s.heap.DictOfH knd d xs) (hfit:(xs.length:Int) < 2 ^ 63)
  (h:Q (.int xs.length (s.toks+1)) { s with toks:=s.toks+1+1 }):IB (IT prog w) A (Lg.«len» ⟨[.ref d],[]⟩) (λfin s'=>∃ r,fin=.done (.ret r)/\Q r s') E s:=by
 unfold Lg.«len»;refine Ib (m:=oneArg "len" _) (Ig ?_);refine Ib (m:=callSpecial? (.ref d) (Kz "__len__")) (Jy (name:=Kz "__len__") hm.typeIs F.slot_dict_len
  (call_meetsIn F.slot_dict_len hm.typeIs F.entry_dict_len (F.args_dict_len_1 _) (nv knd d hd) ⟨xs,hm,?_⟩))
 show IB _ _ _ _ _ { s with toks:=s.toks+1 };refine Ib (JZ (Ig ?_));refine Ib (Oi ?_);show IB _ _ (if((xs.length:Nat):Int)<0 then _ else _) _ _ _;rw[IY (by omega)];show IB _ _ (if((xs.length:Nat):Int)>=2^63 then _ else _) _ _ _;rw[IY (by omega)];exact Ib (wpAny_mkInt (Ig ⟨_,rfl,h⟩))
theorem xZ (hd:(d == Kg)=false) (hm:s.heap.DictOfH knd d xs) (hfit:(xs.length:Int) < 2 ^ 63)
  (h:Q (.int xs.length (s.toks+1)) { s with toks:=s.toks+1+1 }):IB (IT prog w) A (call (.builtin "len") [.ref d]) Q E s:=
 NA kind_len plain_len entry_len (args_len1 _) (yZ hd hm hfit h)
theorem mn:∀ (l:List J_) (h:Int),(l.map (·.hash)).Nodup->(l.filter (·.hash==h)).length<=1
 |[],_,_=>Jj _
 |e::r,h,hn=>by
  rw[IF,JW] at hn;rw[List.filter_cons]
  by_cases q:(e.hash==h)=true
  ·rw[Jh q];have q':e.hash=h:=by simpa using q
   have z:r.filter (·.hash==h)=[]:=List.filter_eq_nil_iff.mpr λa ha y=>hn.1 (by
    have y':a.hash=h:=by simpa using y
    rw[q',<- y'];exact Js.mpr ⟨a,ha,rfl⟩)
   rw[z];exact Il _
  ·rw[IY q];exact mn r h hn.2
theorem wW {id:String}{d:Iv}{o:Obj}{es:Array J_}{ep:Nat}{Q:Array J_->Im->Prop} (ho:s.heap.get? d=some o) (hd:o.data=.dict es ep)
  (hk:∀ e∈es.toList,∃ a,e.key=.ref a/\s.TypeIs (.ref a) "tuple")(hn:(es.toList.map (·.hash)).Nodup)(h:Q es s):IB (IT prog w) A (MY id d) Q E s:=by
 unfold MY;refine Ib (KN ho hd ?_);refine Ib ?_;rw[<- Array.forIn_toList];refine wpAny_forIn_list _ (λlv _ s'=>s'=s/\∀ e∈lv,e∈es.toList) _ ?_ ?_ _ _ ⟨rfl,λe q=>q⟩
 ·rintro e lv b s' ⟨rfl,hr⟩;obtain⟨a,ha,hT⟩:=hk e (hr e IJ);have hf:¬ (es.filter (·.hash==e.hash)).size>1:=by
   have z:=mn es.toList e.hash hn;have z2:(es.filter (·.hash==e.hash)).size=(es.toList.filter (·.hash==e.hash)).length:=by
    rw[<- JL,Array.toList_filter]
   omega
  have q:IB (IT prog w) A (OZ e.key) (λr s''=>r=false/\s''=s') E s':=by
   rw[ha];unfold OZ;exact Ib (Nn hT F.slot_tuple_eq.lookup (Ig ⟨by decide,rfl⟩))
  refine Ib (JG q (λr s'' hq=>?_) λ_ _ z=>z);obtain⟨rfl,rfl⟩:=hq;rw[Jh (by decide),IY hf];exact Ig ⟨rfl,λe q=>hr e (Iq _ q)⟩
 ·rintro b s' ⟨rfl,_⟩;exact Ig h
theorem AO (hdo:d ≠ o) (hoS:(o == Kg)=false) (hd:s.heap.DictOfH knd d []) (ho:s.heap.DictOfH knd o xs)
  (hT:∀ x∈xs,s.TypeIs (.ref x.2.1) "tuple")(hh:(xs.map λx=>knd.hash x.1).Nodup)(hsz:xs.length<=II)(hne0:xs≠[])
  (hQ:∀ h',h'.DictOfH knd d xs->Jw d s.heap h'->Q () { s with heap:=h' }):IB (IT prog w) A (Os nm d o) Q E s:=by
 obtain⟨od,esd,epd,hod,hcd,hdd,hed,hid,hnd⟩:=id hd;obtain⟨oo,eso,epo,hoo,hco,hdo',heo,hio,hno⟩:=id ho;have e0:esd=#[]:=by
  have z:=OS hed;exact Array.eq_empty_of_size_eq_zero z
 subst e0;have hzo:eso.size=xs.length:=OS heo;unfold Os;rw[IY (by simpa using hdo)];unfold OA;rw[IY (by rw[hoS];exact JC)];refine Ib (Ig ?_);refine Ib (KN hoo hdo' ?_);dsimp only;cases xs with
 |nil=>exact absurd rfl hne0
 |cons x r=>
  have hfew:(decide (eso.size<=8)&&eso.all λe=>(keyPart e.key).isSome)=false:=by
   have z:(eso.all λe=>(keyPart e.key).isSome)=false:=by
    rw[<- Array.all_toList,heo,IF,M0];rfl
   rw[z,O6]
  rw[hfew,Jh (by decide)];refine Ib (KN hod hdd ?_);rw[Jh (by decide)];refine Ib (wW hoo hdo' (λe q=>?_) ?_ ?_)
  ·rw[heo] at q;obtain⟨y,hy,rfl⟩:=Js.mp q;exact⟨_,rfl,hT y hy⟩
  ·rw[heo,L_];exact hh
  ·have hne:¬ eso.isEmpty=true:=λz=>by
    rw[Array.isEmpty_iff.mp z] at hzo;cases hzo
   rw[Jh (by simpa using hne)];have hto:eso.size<=II+1:=by omega
   refine Ib (wpAny_updateDictKeysTo hod hdd (Ig (hQ _ ⟨_,_,epd+1,Jx _ hod (Obj.isFreed_of_dict (O5 hdd _)),hcd.mapDictKeys _,
    O5 hdd _,heo,λy hy=>knd.keeps (hio y hy) hod hdd (Jp ..),hno⟩ (Jp ..))) hto)
theorem Dq (hoS:(o == Kg)=false) (ho:s.heap.DictOfH knd o xs) (hsz:xs.length <= II) (hne0:xs ≠ [])
  (hT:∀ x∈xs,s.TypeIs (.ref x.2.1) "tuple")(hh:(xs.map λx=>knd.hash x.1).Nodup)(hpush:∀ x∈xs,knd.is (s.heap.push { cls:=.type "dict",data:=.dict #[] }) x.1 x.2.1)
  (h:∀ h',h'.DictOfH knd s.heap.objs.size xs->Jw s.heap.objs.size (s.heap.push { cls:=.type "dict",data:=.dict #[] }) h'->Q (.ref s.heap.objs.size) { s with heap:=h' }):
  IB (IT prog w) A (call (.type "dict") [.ref o]) Q E s:=by
 refine callType_codes (Q₁:=λobj s₁=>obj=.ref s.heap.objs.size/\s₁={ s with heap:=s.heap.push { cls:=.type "dict",data:=.dict #[] } }) F.kt_called_dict (F.kt_typeCall_dict_1 _) F.entry_dict_init (kt_code_dict_new _ ⟨rfl,rfl⟩) ?_;rintro obj s₁ ⟨rfl,rfl⟩;have hnew:(s.heap.push { cls:=.type "dict",data:=.dict #[] }).DictOfH knd s.heap.objs.size []:=Heap.DictOfH.new s.heap;have hdo:s.heap.objs.size≠o:=by
  obtain⟨_,_,_,hg,_⟩:=ho;exact λe=>absurd (Ip hg) (by rw[e];exact Ji _)
 have ho':(s.heap.push { cls:=.type "dict",data:=.dict #[] }).DictOfH knd o xs:=by
  obtain⟨oo,es,ep,h1,h2,h3,h4,h5,h6⟩:=ho;exact⟨oo,es,ep,Ic _ h1,h2,h3,h4,hpush,h6⟩
 refine⟨hnew.typeIs,F.args_dict_init_2 _ _,?_⟩;unfold Lg.«dict.__init__»;refine Ib ?_;unfold Builtin.Dict.selfAndRest;refine Ib (wpAny_notOrdered_dict hnew.typeIs ?_);show IB _ _ (pure (s.heap.objs.size,[IX o])) _ _ _;refine Ig ?_;show IB _ _ (N8 "dict.__init__" s.heap.objs.size (.ref o) [] .none) _ _ _;unfold N8;refine Ib (wpAny_typeOf ho'.typeIs ?_);rw[IY (by decide)];refine Ib ?_;unfold Builtin.Dict.merge;refine Ib ?_;unfold Builtin.Dict.readDirectly;refine Ib (LU ho'.typeIs isSubtype_dict_dict ?_);simp only[Bool.not_true,JR,LR];refine Ib (Nn ho'.typeIs F.slot_dict_iter.lookup (Ig ?_));simp only[Oo,LC];refine Ib (Ig ?_);refine AO hdo hoS hnew ho' (λx hx=>?_) hh hsz hne0 λh' hd' hs'=>?_
 ·obtain⟨oo,e,c⟩:=hT x hx;exact⟨oo,Ic _ e,c⟩
 show IB _ _ (Builtin.Dict.addKeywords s.heap.objs.size []>>=_) _ _ _;exact Ib (Ig (Ig ⟨rfl,h h' hd' hs'⟩))
end
end PySem
namespace TR
open PySem PySem.Spec PyProof.Rows L2
section
variable {X:Cx}
theorem yL:eN X (.builtin "len") (λxs H Q=>∃ p kvs,xs=[.ref p]/\Rd H p (.dT kvs)/\Q (.int kvs.length) H):=by
 intro pins s σ H xs us Q I r h;obtain⟨p,kvs,rfl,e,q⟩:=h;obtain⟨u,rfl,rx⟩:=mY r;cases rx;obtain⟨z,hd,vs,rel,dd⟩:=wF I.hok e;have hn:=o8;have hl:kvs.length=vs.length:=rel.length;exact xZ hd dd (by omega) ⟨.int kvs.length,H,I.tok _,⟨_,by rw[hl]⟩,q⟩
end
def Da (kvs:List (List Key×V)):Prop:=∀ (P:IN) (w:Jm),(kvs.map λkv=>(LD (ck P w)).hash kv.1).Nodup
section
variable {X:Cx}
theorem DO (r:L2.KT H kvs xs) :
  (kvs.map λkv=>(LD (ck P w)).hash kv.1)=xs.map λx=>(LD (ck P w)).hash x.1:=by
 induction r with
 |nil=>rfl
 |cons h t ih=>rw[IF,IF,ih,h.1]
theorem Dy (r:L2.KT H kvs xs):∀ x∈xs,H x.2.1=some (.tup (x.1.map kV)):=by
 induction r with
 |nil=>intro x hx;exact nomatch hx
 |@cons p q ps qs h t ih=>
  intro x hx;rcases Iy.mp hx with rfl|hx
  ·rw[<- h.1];exact h.2.1
  ·exact ih x hx
theorem xC:eN X (.type "dict") (λxs H Q=>∃ p kvs,xs=[.ref p]/\Rd H p (.dT kvs)/\kvs≠[]/\Da kvs/\∀ a,H a=none->Q (.ref a) (upd H a (.dT kvs))):=by
 intro pins s σ H xs us Q I r h;obtain⟨p,kvs,rfl,e,hne,hh,q⟩:=h;obtain⟨u,rfl,rx⟩:=mY r;cases rx;obtain⟨z,hd,vs,rel,dd⟩:=wF I.hok e;have hl:kvs.length=vs.length:=rel.length;have hk:=Dy rel;have is0:∀ x∈vs,(LD (ck X.prog X.w)).is s.heap x.1 x.2.1:=λx hx=>v7 I.hok (hk x hx)
 refine Dq hd dd (by omega) (λz0=>?_) (λx hx=>(is0 x hx).typeIs) (by rw[<- DO rel];exact hh _ _) (λx hx=>?_) λh' hm hs=>?_
 ·rw[z0] at hl;exact hne (List.length_eq_zero_iff.mp hl)
 ·obtain⟨o,its,n,h1,h2,h3,h4⟩:=is0 x hx;exact⟨o,its,n,Ic _ h1,h2,h3,h4⟩
 ·have kk:∀ b u,s.heap.get? b=some u->h'.get? b=some u:=λb u e=>(hs.2 b (IK (Ip e))).trans (Ic _ e)
  obtain⟨oo,es,ep,g1,g2,g3,g4,g5,g6⟩:=hm;have fr:=I.hok.fresh (Il s.heap.objs.size);refine⟨.ref s.heap.objs.size,_,I.laid (a:=s.heap.objs.size) (o:=.dT kvs) (t':=s.toks) kk (Il _) ⟨z,Ks.mpr (KH (IK I.big)),vs,?_,oo,es,ep,g1,g2,g3,g4,g6⟩,rfl,q _ fr⟩;exact Paired.mapP rel λa b c=>⟨c.1,by rw[ao (aB c.2.1 fr)];exact c.2.1,c.2.2⟩
end
def eD (t:Nat×Nat×Nat):List Key:=[.inl (t.1:Int),.inl (t.2.1:Int),.inl (t.2.2:Int)]
def cw (k:Nat):List (Nat×Nat×Nat):=(Ko k).flatMap λa=>(Ko k).flatMap λb=>(Ko k).map λc=>(a,b,c)
def uY (t:Nat×Nat×Nat):Int:=reduceHash (Builtin.Tuple.tupleHashOf [hashInt (t.1:Int),hashInt (t.2.1:Int),hashInt (t.2.2:Int)])
theorem BD (P:IN)(w:Jm)(t:Nat×Nat×Nat):(LD (ck P w)).hash (eD t)=uY t:=by
 show tupleKeyHash (ck P w) (eD t)=uY t;unfold tupleKeyHash eD uY;simp only[IF,K1];rfl
set_option maxRecDepth 1000000 in
theorem C9:((cw 7).map uY).Nodup:=by decide +kernel
theorem FA:∀ {l:List α},(l.map f).Nodup->∀ {a b:α},a∈l->b∈l->f a=f b->a=b
 |[],_,_,_,h,_,_=>nomatch h
 |x::r,hn,a,b,ha,hb,e=>by
  rw[IF,JW] at hn;rcases Iy.mp ha with za|ha
  ·rcases Iy.mp hb with zb|hb
   ·rw[za,zb]
   ·exact absurd (Js.mpr ⟨b,hb,by rw[<- e,za]⟩) hn.1
  ·rcases Iy.mp hb with zb|hb
   ·exact absurd (Js.mpr ⟨a,ha,by rw[e,zb]⟩) hn.1
   ·exact FA hn.2 ha hb e
theorem dW {k:Nat}:t∈cw k↔t.1<k/\t.2.1<k/\t.2.2<k:=by
 obtain⟨a,b,c⟩:=t;unfold cw;simp only[On,Js,KJ,Prod.mk.injEq];constructor
 ·rintro⟨x,hx,y,hy,z,hz,rfl,rfl,rfl⟩;exact⟨hx,hy,hz⟩
 ·rintro⟨hx,hy,hz⟩;exact⟨a,hx,b,hy,c,hz,rfl,rfl,rfl⟩
theorem ze (ht:t∈cw 7)(hu:u∈cw 7)(e:uY t=uY u):t=u:=FA C9 ht hu e
theorem Cq {h:List Key->Int}{g:Nat×Nat×Nat->Int}(hg:∀ t,h (eD t)=g t):∀ {kvs:List (List Key×V)}{ts:List (Nat×Nat×Nat)},kvs.map (·.1)=ts.map eD->(kvs.map λkv=>h kv.1)=ts.map g
 |[],[],_=>rfl
 |[],_::_,e=>nomatch e
 |_::_,[],e=>nomatch e
 |p::r,t::q,e=>by
  rw[IF,IF] at e;injection e with e1 e2
  rw[IF,IF,Cq hg e2,e1,hg]
theorem wj {g:Nat×Nat×Nat->Int}{l:List (Nat×Nat×Nat)}(hg:∀ {t u},t∈l->u∈l->g t=g u->t=u):∀ {ts:List (Nat×Nat×Nat)},ts.Nodup->(∀ t∈ts,t∈l)->(ts.map g).Nodup
 |[],_,_=>NG
 |t::r,hn,hb=>by
  rw[JW] at hn;rw[IF,JW];refine⟨λz=>?_,wj hg hn.2 λu hu=>hb u (Iq _ hu)⟩;obtain⟨u,hu,e⟩:=Js.mp z;have:=hg (hb u (Iq _ hu)) (hb t IJ) e;exact hn.1 (this▸hu)
theorem DU {h:List Key->Int}{g:Nat × Nat × Nat->Int}{l:List (Nat × Nat × Nat)} (h1:∀ t,h (eD t)=g t) (h2:∀ {t u},t ∈ l->u ∈ l->g t=g u->t=u) {kvs:List (List Key × V)}{ts:List (Nat × Nat × Nat)}
  (hk:kvs.map (·.1)=ts.map eD)(hn:ts.Nodup)(hb:∀ t∈ts,t∈l):(kvs.map λkv=>h kv.1).Nodup:=by
 rw[Cq h1 hk];exact wj h2 hn hb
theorem uM {kvs:List (List Key×V)}{ts:List (Nat×Nat×Nat)}(hk:kvs.map (·.1)=ts.map eD)(hn:ts.Nodup)(hb:∀ t∈ts,t∈cw 7):Da kvs:=
 λP w=>DU (h:=(LD (ck P w)).hash) (g:=uY) (l:=cw 7) (BD P w) ze hk hn hb
end TR
namespace PySem
def Heap.RawD (h:Kl)(d:Iv)(es:Array J_)(ep:Nat):Prop:=∃ o,h.get? d=some o/\o.ExactDict/\o.data=.dict es ep
section
variable {prog:IN}{w:Jm}{A:JA}{E:Ih->Im->Prop}{s:Im}{d v:Iv}{es:Array J_}{ep:Nat}
theorem Heap.RawD.typeIs (hm:s.heap.RawD d es ep):s.TypeIs (.ref d) "dict":=by obtain⟨o,ho,hc,_⟩:=hm;exact⟨o,ho,hc.1⟩
theorem Heap.RawD.of {K:Type}[DecidableEq K]{knd:HeapKind prog w K}{xs:List (K×Iv×Ih)}(hm:s.heap.DictOfH knd d xs):∃ es ep,s.heap.RawD d es ep/\es.toList=xs.map (entryOfKey knd):=by
 obtain⟨o,es,ep,h1,h2,h3,h4,_⟩:=hm;exact⟨es,ep,⟨o,h1,h2,h3⟩,h4⟩
theorem xX (d:Iv) (hd:(d == Kg)=false) :
  MeetsIn prog w (Lg.«dict.items» ⟨[.ref d],[]⟩) (λ_ R s=>(∃ es ep,s.heap.RawD d es ep) /\
   R (.ok (.ret (.ref s.heap.objs.size))) { s with heap:=s.heap.push { cls:=.type "dict_items",data:=.fields #[.ref d] } }):=
 .of_wp λA R s ⟨⟨es,ep,hm⟩,h⟩=>by
  unfold Lg.«dict.items» Builtin.Dict.noArgs;refine Ib (Ib (wpAny_notOrdered_dict hm.typeIs (Ig ?_)));unfold OA;rw[IY (by rw[hd];exact JC)];exact Ib (Ig (Ib (JB (Ig ⟨_,rfl,h⟩))))
theorem AN (hv:s.heap.IsItemsView v d) (hm:s.heap.RawD d es ep)
  (hQ:Q (.ref s.heap.objs.size) { s with heap:=s.heap.push { cls:=.type "dict_itemiterator",data:=.fields #[.none,.bool false,.ref d,.int 0 0,.int es.size 0,.int ep 0,.none,.none] } }):
  IB (IT prog w) A (PX (.ref v)) Q E s:=by
 obtain⟨ov,hov,hcv,hdv⟩:=id hv;obtain⟨o,ho,hc,hdat⟩:=id hm;refine N6 hv.typeIs Ou (JH Ou hv.typeIs F.entry_dict_items_iter ?_ (F.args_dict_items_iter_1 _));unfold Lg.«dict_items.__iter__» QO Qn;refine Ib (Ig (Ib (Ib (J5 hov hdv (x:=.ref d) rfl (Ig ?_)))));refine Ib (Ib (KN ho hdat (Ib (OU ho hdat ?_))));have hown:Lo "dict_itemiterator"=true:=by decide
 simp only[hown,LC];refine JB (Ig ⟨_,rfl,"dict_itemiterator",_,⟨_,Io _ rfl,rfl⟩,JX.lookup,?_⟩)
  (by simp only[sizeOk,LV,IE,IL,Jo,M_,JK];omega)
 simpa [Ll,LV] using hQ
end
section
variable {prog:IN}{w:Jm}{A:JA}{E:Ih->Im->Prop}{s:Im}{d it:Iv}{es:Array J_}{i ep:Nat}{ok ov:Ih}
theorem Dw (hh:A.handled=none) (hit:MB s.heap it d i es.size ep ok ov) (hm:s.heap.RawD d es ep) (hx:es.size <= i)
  (hQ:∀ h',N_ it s.heap h'->Q none { s with heap:=h' }):IB (IT prog w) A (MR (.ref it)) Q E s:=by
 obtain⟨od,hod,hcd,hdd⟩:=id hm;have hT:s.TypeIs (.ref it) "dict_itemiterator":=⟨_,hit,rfl⟩
 have hown:Lo "dict_itemiterator"=true:=by decide
 unfold MR;refine Ib (Mr (Jy (name:=Kz "__next__") hT JX
  (JH JX hT MM ?_ (Mz _))))
 refine Ib (Ig (Ib (Ib ?_)))
 first|refine Ib (KA hT (Ig ?_))|refine Ib (K7 hT (Ig ?_))
 refine Ib (NO hit rfl ?_);simp only[hown,LC];show IB _ _ (if(IX d==J7)=true then _ else _) _ _ s;rw[IY (show ¬ ((IX d==J7)=true) from JC)];refine Ib (Ig (Ib (KN hod hdd ?_)));rw[IY (by simp)];refine Ib (Ig (Ib (OU hod hdd ?_)));rw[IY (by simp)];refine Ig ?_;simp only[show ¬ ((i:Int)<0) from by omega,LR,Ja,Array.getElem?_eq_none hx];refine Ib ?_
 first|refine Ib (KA hT (Ig ?_))|refine Ib (K7 hT (Ig ?_))
 show IB _ _ (setField (.ref it) 2 .none>>=_) _ _ s;refine Ib (K6 hit rfl (by simp) ?_);show IB _ _ (newExc (.type "StopIteration") []>>=_) _ _ _;refine Ib ?_;simp only[newExc,newTuple];refine Ib (JB ?_ (by size_fits));refine Ib (m:=LO _ _) (Pz (a:=J7) (by first|rfl|(simp only[LO];rfl)) ?_);refine JB ?_ (by size_fits);simp only[raiseNew];refine Ib (P2 ?_);rw[show A.in1.handled=none from hh];refine Ib (Ig (wpAny_throw ?_));refine Ib (LU (T:="StopIteration") (b:=true) ⟨_,Io _ rfl,rfl⟩ Pb ?_);exact Ig (hQ _ (((Jp ..).extBut.push _).push _))
theorem Bx (hit:MB s.heap it d i es.size ep ok ov) (hm:s.heap.RawD d es ep) (hx:es[i]?=some e)
  (hQ:∀ h',PJ h' it d (i+1) es.size ep e.key e.val s.heap.objs.size->h'.get? s.heap.objs.size=some { cls:=.type "tuple",data:=.seq #[e.key,e.val] }->h'.objs.size=s.heap.objs.size+1 ->
   (∀ b o,b≠it->s.heap.get? b=some o->h'.get? b=some o)->Q (some (.ref s.heap.objs.size)) { s with heap:=h' }):IB (IT prog w) A (MR (.ref it)) Q E s:=by
 obtain⟨hp,g,dr,tk,os⟩:=s;obtain⟨od,hod,hcd,hdd⟩:=id hm;have hT:PR ⟨hp,g,dr,tk,os⟩ (.ref it) "dict_itemiterator":=⟨_,hit,rfl⟩
 have hown:Lo "dict_itemiterator"=true:=by decide
 unfold MR;refine Ib (Mr (Jy (name:=Kz "__next__") hT JX
  (JH JX hT MM ?_ (Mz _))))
 refine Ib (Ig (Ib (Ib ?_)))
 first|refine Ib (KA hT (Ig ?_))|refine Ib (K7 hT (Ig ?_))
 refine Ib (NO hit rfl ?_);simp only[hown,LC];show IB _ _ (if(IX d==J7)=true then _ else _) _ _ _;rw[IY (show ¬ ((IX d==J7)=true) from JC)];refine Ib (Ig (Ib (KN hod hdd ?_)));rw[IY (by simp)];refine Ib (Ig (Ib (OU hod hdd ?_)));rw[IY (by simp)];refine Ig ?_;simp only[show ¬ ((i:Int)<0) from by omega,LR,Ja,hx];refine Ib ?_
 first|refine Ib (KA hT (Ig ?_))|refine Ib (K7 hT (Ig ?_))
 refine Ib (Mx hT ?_);show IB _ _ (setField (.ref it) 3 (Ll ((i:Int)+1))>>=_) _ _ ⟨hp,g,dr,tk,os⟩;refine Ib (JE hit (by simp) λh₁ he₁ hs₁=>?_);replace hs₁:Jw it hp h₁:=hs₁;replace he₁:MB h₁ it d (i+1) es.size ep ok ov:=by
  have e:((i+1:Nat):Int)=(i:Int)+1:=by omega
  unfold MB;rw[e];simpa [Ll] using he₁
 have hT₁:PR ⟨h₁,g,dr,tk,os⟩ (.ref it) "dict_itemiterator":=⟨_,he₁,rfl⟩
 refine Ib (JZ (Ib (Mx hT₁ (Ib (Mx hT₁ ?_)))));show IB _ _ (Ms (.ref it) 6 e.key e.val) _ _ ⟨h₁,g,dr,tk,os⟩;unfold Ms;refine Ib (Pe ?_);have hz₁:h₁.objs.size=hp.objs.size:=hs₁.1;have hil:it<hp.objs.size:=Ip hit;have up:∀ b o,b≠it->hp.get? b=some o->(h₁.push { cls:=.type "tuple",data:=.seq #[e.key,e.val] }).get? b=some o:=λb o hb q=>Ic _ (hs₁.extBut b o hb q)
 have he₂:MB (h₁.push { cls:=.type "tuple",data:=.seq #[e.key,e.val] }) it d (i+1) es.size ep ok ov:=Ic _ he₁;have ht₂:(h₁.push { cls:=.type "tuple",data:=.seq #[e.key,e.val] }).get? hp.objs.size=some { cls:=.type "tuple",data:=.seq #[e.key,e.val] }:=by rw[<- hz₁];exact Io _ rfl
 have hz₂:(h₁.push { cls:=.type "tuple",data:=.seq #[e.key,e.val] }).objs.size=hp.objs.size+1:=by rw[Jt,hz₁]
 rw[hz₁];generalize h₁.push { cls:=.type "tuple",data:=.seq #[e.key,e.val] }=h₂ at up he₂ ht₂ hz₂ ⊢;show IB _ _ (LW (.ref it)>>=_) _ _ ⟨h₂,g,dr,tk,os⟩;clear he₁ hs₁ hT₁ hz₁ h₁;refine Ib ?_;unfold LW;refine Ib (J5 he₂ rfl (x:=.none) rfl (Ig ?_));simp only[LC];refine Ib (J5 he₂ rfl (x:=ok) rfl (Ib (J5 he₂ rfl (x:=ov) rfl ?_)));refine Ib (JE he₂ (by simp) λh₃ he₃ hs₃=>?_);replace hs₃:Jw it h₂ h₃:=hs₃;replace he₃:MB h₃ it d (i+1) es.size ep e.key ov:=he₃;refine Ib (JE he₃ (by simp) λh₄ he₄ hs₄=>?_);replace hs₄:Jw it h₃ h₄:=hs₄;replace he₄:MB h₄ it d (i+1) es.size ep e.key e.val:=he₄;refine Ib (JE he₄ (by simp) λh₅ he₅ hs₅=>?_);replace hs₅:Jw it h₄ h₅:=hs₅;replace he₅:PJ h₅ it d (i+1) es.size ep e.key e.val hp.objs.size:=he₅;refine Ib (JE he₅ (by simp) λh₆ he₆ hs₆=>?_);replace hs₆:Jw it h₅ h₆:=hs₆;replace he₆:PJ h₆ it d (i+1) es.size ep e.key e.val hp.objs.size:=he₆;have all:∀ b o,b≠it->h₂.get? b=some o->h₆.get? b=some o:=λb o hb q=>hs₆.extBut b o hb (hs₅.extBut b o hb (hs₄.extBut b o hb (hs₃.extBut b o hb q)))
 refine Ib (Oi (Ig (Ig ⟨_,rfl,Ig (hQ h₆ he₆ (all _ _ (Kx hil) ht₂) ?_ λb o hb q=>all b o hb (up b o hb q))⟩)));show h₆.objs.size=hp.objs.size+1;rw[hs₆.1,hs₅.1,hs₄.1,hs₃.1,hz₂]
end
end PySem
namespace TR
open PySem PySem.Spec PyProof.Rows L2
section
variable {X:Cx}{pins:List (Iv×Obj)}{σ:L2.St}{H:Hp}{s:Im}{d:Iv}{u u':HO}
theorem wd (I:Inv X pins σ H s)(e:H d=some u)(nt:∀ xs,u≠.tup xs)(no:∀ x,u≠.own x)(ntb:∀ ps,u≠.tbl ps)(nf:∀ o w,X.H₀ d≠some (.frz o w))(new:cF X.prog X.w (upd H d u') s.heap d u'):Inv X pins σ (upd H d u') s:=by
 have ne:∀ b,H b=none->b≠d:=λb z q=>by rw[q,e] at z;cases z
 have fr:∀ b,H b=none->upd H d u' b=none:=λb z=>by rw[ao (ne b z)];exact z
 refine⟨I.ok,I.os,I.bare,⟨I.base.keep,I.base.slot,λb o q n hx=>fr b (I.base.free b o q n hx),I.base.there,λb xs q=>?_,λb o w q=>?_,λb ps q=>?_⟩,I.loc,I.cell,fr _ I.free,λx c q=>fr _ (I.freeC x c q),λp hp=>?_,λb o q=>?_,I.len⟩
 ·have z:=I.base.tups b xs q;rw[ao (λk=>nt xs (by rw[k,e] at z;exact Ie z))];exact z
 ·have z:=I.base.frzs b o w q;rw[ao (λk=>nf o w (by rw[<- k];exact q))];exact z
 ·obtain⟨more,z⟩:=I.base.tbls b ps q;exact⟨more,by rw[ao (λk=>ntb _ (by rw[k,e] at z;exact Ie z))];exact z⟩
 ·obtain⟨a1,a2,a3⟩:=I.pin p hp;exact⟨a1,fr _ a2,a3⟩
 ·by_cases hb:b=d
  ·subst hb;rw[ac] at q;cases q;exact new
  ·rw[ao hb] at q;refine(I.hok b o q).stay (λ_ _ _ z=>z) (λc z=>?_) λc xs z=>?_
   ·rw[ao (λk=>no b (by rw[k,e] at z;exact Ie z))];exact z
   ·rw[ao (λk=>nt xs (by rw[k,e] at z;exact Ie z))];exact z
theorem xE (I:Inv X pins σ H s)(e:H d=some (.dT kvs)):∃ o,s.heap.get? d=some o/\Inv X pins σ (upd H d (.frz o (.dT kvs))) s:=by
 have ok:=I.hok d _ e;obtain⟨_,_,_,_,o,es,ep,g1,_⟩:=id ok;refine⟨o,g1,wd I e (λ_ z=>nomatch z) (λ_ z=>nomatch z) (λ_ z=>nomatch z) (λob w z=>?_) ⟨g1,?_⟩⟩
 ·have:=I.base.frzs d ob w z;rw[e] at this;cases this
 ·exact(show cF X.prog X.w H s.heap d (.dT kvs) from ok).stay (λ_ _ _ z=>z) (λc z=>by
   by_cases k:c=d
   ·rw[k,e] at z;cases z
   ·rw[ao k];exact z) λc xs z=>by
   by_cases k:c=d
   ·rw[k,e] at z;cases z
   ·rw[ao k];exact z
theorem Bt (I:Inv X pins σ H s)(e:H d=some (.frz o (.dT kvs)))(nf:∀ o w,X.H₀ d≠some (.frz o w)):Inv X pins σ (upd H d (.dT kvs)) s:=by
 have ok:=I.hok d _ e;obtain⟨_,ok⟩:=(show s.heap.get? d=some o/\cF X.prog X.w H s.heap d (.dT kvs) from ok)
 refine wd I e (λ_ z=>nomatch z) (λ_ z=>nomatch z) (λ_ z=>nomatch z) nf (ok.stay (λ_ _ _ z=>z) (λc z=>?_) λc xs z=>?_)
 ·by_cases k:c=d
  ·rw[k,e] at z;cases z
  ·rw[ao k];exact z
 ·by_cases k:c=d
  ·rw[k,e] at z;cases z
  ·rw[ao k];exact z
end
section
variable {X:Cx}
def Gb (t:TE):TE:=λσ H Q=>t σ H λv H'=>∃ d o kvs,H d=some (.dT kvs)/\H' d=some (.frz o (.dT kvs))/\Q v (upd H' d (.dT kvs))
theorem A3 (h:WE X e t):WE X e (Gb t):=by
 have h:=h.go;refine⟨?_⟩;intro pins s σ H Q I q;refine thn (h pins s σ H _ I q) λu s1 h1=>?_
 obtain⟨v,H1,I1,r1,d,o,kvs,e0,e1,q1⟩:=h1;exact⟨v,_,Bt I1 e1 λo w z=>(by
  have:=I.base.frzs d o w z;rw[e0] at this;cases this),r1,q1⟩
end
def Iti (d:Iv)(o:Obj)(kvs:List (List Key×V)):It:=
 ⟨λi H=>H d=some (.frz o (.dT kvs))/\i<kvs.length,
  λi H v H'=>∃ (k:List Key) (x:V) (ka T:Iv),kvs[i]?=some (k,x)/\H ka=some (.tup (k.map kV))/\H T=none/\v=.ref T/\H'=upd H T (.tup [.ref ka,x]),
  λi H=>H d=some (.frz o (.dT kvs))/\kvs.length<=i⟩
theorem rG:∀ {l₁:List α}{l₂:List β}{i:Nat}{a:α},NW F l₁ l₂->l₁[i]?=some a->∃ b,l₂[i]?=some b/\F a b
 |_,_,_,_,.nil,e=>by simp at e
 |_,_,0,_,.cons r _,e=>by simp at e;subst e;exact⟨_,rfl,r⟩
 |_,_,i+1,x,.cons _ t,e=>by
  obtain⟨u,h1,h2⟩:=rG (i:=i) (a:=x) t (by simpa using e);exact⟨u,by simpa using h1,h2⟩
theorem yK {ep:Nat} (hd:o.data=.dict es ep) (ok:cF P w H h d (.frz o (.dT kvs))) :
  h.RawD d es ep/\es.size=kvs.length/\∀ (i:Nat) (k:List Key) (x:V),kvs[i]?=some (k,x)->∃ (e:J_) (ka:Iv) (u:Ih),es[i]?=some e/\e.key=.ref ka/\e.val=u/\H ka=some (.tup (k.map kV))/\c9 x u:=by
 obtain⟨g1,_,_,xs,pr,o',es',ep',g2,ex,dd,ee,_⟩:=ok;rw[g1] at g2;cases g2;rw[hd] at dd;cases dd;refine⟨⟨_,g1,ex,hd⟩,?_,λi k x hx=>?_⟩
 ·have z:=Lr Pr ee;rw[Ij,JL] at z;rw[z];exact pr.length.symm
 ·obtain⟨⟨k',ka,u⟩,h1,h2,h3,h4⟩:=rG pr hx;refine⟨entryOfKey (LD (ck P w)) (k',ka,u),ka,u,?_,rfl,rfl,h3,h4⟩;rw[<- Lv,ee,Ix,h1];rfl
theorem wK {P:IN}{w:Jm}{K:Ia}{elts:List KI}{tk:Nat}{pos:Pos}{it d:Iv}{o:Obj}{kvs:List (List Key × V)}{es:Array J_}{ep:Nat} (hd:o.data=.dict es ep) :
  Cj P w K (.Tuple elts tk pos) (Iti d o kvs) [it] it (λi h=>∃ ok ov,MB h it d i es.size ep ok ov) where
 mem:=by simp
 obj:=λi h st b hb=>by
  obtain⟨ok,ov,e⟩:=st;cases Ii.mp hb;exact⟨_,e,λv z=>nomatch z⟩
 keep:=λi h h' st k=>by
  obtain⟨ok,ov,e⟩:=st;exact⟨ok,ov,k it (by simp) _ e⟩
 item:=by
  intro X hP hw hK hc i pins s σ H E I hf st hg;subst hP hw hK;obtain⟨ok,ov,hit⟩:=st;obtain⟨hH,hi⟩:=hg;obtain⟨raw,hsz,at_⟩:=yK hd (I.hok d _ hH);obtain⟨e,ka,u,e1,e2,e3,e4,e5⟩:=at_ i _ _ (ID hi);refine Bx hit raw e1 λh' hit' hT hz kk=>⟨_,rfl,?_⟩
  refine wpAny_letOwnedTupleGo_items hit' λg' z' sb=>?_
  have nit:it<s.heap.objs.size:=Ip hit;have tz:s.heap.objs.size≠it:=Kx nit;have k2:∀ b o,b≠it->s.heap.get? b=some o->g'.get? b=some o:=λb o hb e=>sb.extBut b o hb (kk b o hb e)
  have fit:=hf it (by simp);have I1:Inv X pins σ H { s with heap:=g' }:=I.turned (it:=it) (t':=s.toks) k2 fit.1 fit.2.1 fit.2.2.2.1 fit.2.2.2.2.1 fit.2.2.2.2.2;have hT':g'.get? s.heap.objs.size=some { cls:=.type "tuple",data:=.seq #[e.key,e.val] }:=sb.extBut _ _ tz hT;have fT:H s.heap.objs.size=none:=I.hok.fresh (Il _);have F:=I.fpOk (b:=s.heap.objs.size) (H':=H) (Il _) fT;have I2:Inv X pins σ (upd H s.heap.objs.size (.tup [.ref ka,kvs[i].2])) { s with heap:=g' }:=iM I1 fT I.sz F.2.1 F.2.2.2.2.1 F.2.2.2.2.2
   ⟨by show 2<=II;decide,[e.key,e.val],.cons (by rw[e2];rfl) (.cons (by rw[e3];exact e5) .nil),⟨_,hT',rfl,_,rfl⟩⟩
  exact⟨.ref s.heap.objs.size,_,I2,rfl,⟨kvs[i].1,kvs[i].2,ka,s.heap.objs.size,ID hi,e4,fT,rfl,rfl⟩,⟨_,_,z'⟩,λb hb=>by
   cases Ii.mp hb;rw[ao (KH tz)];exact fit.1⟩
 done:=by
  intro X hP hw hK hc i pins s σ H E I hf st hg;subst hP hw hK;obtain⟨ok,ov,hit⟩:=st;obtain⟨hH,hi⟩:=hg;obtain⟨raw,hsz,_⟩:=yK hd (I.hok d _ hH);have fit:=hf it (by simp);exact Dw (I.ok.hd hc) hit raw (by omega) λh' ex=>⟨rfl,I.turned (it:=it) (t':=s.toks) (λb o hb e=>ex b o hb e) fit.1 fit.2.1 fit.2.2.2.1 fit.2.2.2.2.1 fit.2.2.2.2.2⟩
 self:=λ_ _ _ _ _ st h=>by
  obtain⟨ok,ov,hit⟩:=st;exact PySem.W.kcp_self hit h
section
variable {X:Cx}
def Fw (to:TE):TI:=λσ H R=>to σ H λx H1=>∃ d kvs,x=.ref d/\H1 d=some (.dT kvs)/\∀ o,R (Iti d o kvs) (upd H1 d (.frz o (.dT kvs)))
theorem y4 {o:KI}{to:TE}{apos cpos tpos:Pos}{elts:List KI}{tk:Nat} (ho:WE X o to)
  (hbase:Of o "items" X.env (L6 o X.env)=L6 o X.env:=by rfl)(hline:(apos.endLine==cpos.line)=true:=by rfl):WI X (.Tuple elts tk tpos) (.Call (.Attribute o "items" apos) [] [] cpos) (Fw to):=by
 have ho:=ho.go;refine⟨?_⟩;intro pins s σ H R I h;refine wpAny_Call_method0_late hbase hline (thn (ho pins s σ H _ I h) λv s1 ⟨x,H1,I1,r1,q1⟩=>?_);obtain⟨d,kvs,rfl,hH,q⟩:=q1;obtain⟨h1,h2⟩:=Cn (T:="dict") I1 r1 (.inr (.inr (.inl ⟨rfl,.inr ⟨kvs,hH⟩⟩)));cases r1;refine⟨"dict","dict.items",PySem.F.plainAttrs_dict,Oc,PySem.F.type_dict_items,h1,h2,Ot rfl (PySem.evalArgs_none ?_)⟩;obtain⟨z,hd,vs,rel,dd⟩:=wF I1.hok (.inl hH);obtain⟨es,ep,raw,hes⟩:=Heap.RawD.of dd;refine call_meetsIn Oc h1 PySem.F.entry_dict_items (PySem.F.args_dict_items_1 _) (xX d hd) ⟨⟨es,ep,raw⟩,?_⟩;obtain⟨ob,g1,I2⟩:=xE I1 hH;obtain⟨o',g1',_,gd⟩:=id raw;rw[g1] at g1';cases g1';have k1:∀ b u,s1.heap.get? b=some u->(s1.heap.push { cls:=.type "dict_items",data:=.fields #[.ref d] }).get? b=some u:=λb u e=>Ic _ e
 have I3:=I2.kept (t':=s1.toks) k1;have raw3:(s1.heap.push { cls:=.type "dict_items",data:=.fields #[.ref d] }).RawD d es ep:=by
  obtain⟨o',a1,a2,a3⟩:=raw;exact⟨o',k1 _ _ a1,a2,a3⟩
 have hv:(s1.heap.push { cls:=.type "dict_items",data:=.fields #[.ref d] }).IsItemsView s1.heap.objs.size d:=⟨_,Io _ rfl,rfl,rfl⟩
 refine AN (s:={ s1 with heap:=s1.heap.push { cls:=.type "dict_items",data:=.fields #[.ref d] } }) hv raw3 ?_;generalize s1.heap.push { cls:=.type "dict_items",data:=.fields #[.ref d] }=g at I3 raw3 hv ⊢;refine⟨g.objs.size,[g.objs.size],_,_,_,rfl,I3.kept (t':=s1.toks) λb u e=>Ic _ e,wK gd,⟨_,_,Io _ rfl⟩,λb hb=>?_,q ob⟩;cases Ii.mp hb;exact I3.fpOk (Il _) (I3.hok.fresh (Il _))
end
end TR
namespace TR
open PySem PySem.Spec PyProof.Rows
def ups (n:Nat):List Int:=(Ko n).map λ(i:Nat)=>(i:Int)
theorem Aa {n i:Nat}(h:i<n):(ups n)[i]?=some (i:Int):=by unfold ups;simp[h]
theorem iI (n:Nat):(ups n).length=n:=by unfold ups;simp
theorem CP {n:Nat}(hl:vs.length=n)(h:∀ (i:Nat) (v:Ih),vs[i]?=some v->∃ t,v=Lk (i:Int) t):Lb vs (ups n):=by
 have go:∀ (vs:List Ih) (k:Nat),(∀ (i:Nat) (v:Ih),vs[i]?=some v->∃ t,v=Lk ((k+i:Nat):Int) t)->Lb vs ((List.range' k vs.length).map λ(i:Nat)=>(i:Int)):=by
  intro vs
  induction vs with
  |nil=>intro k _;exact .nil
  |cons v vs ih=>
   intro k h;obtain⟨t,e⟩:=h 0 v rfl;subst e;rw[Jo,List.range'_succ,IF];refine .cons _ t (ih (k+1) λi v hv=>?_);obtain⟨t',e⟩:=h (i+1) v (by simpa using hv);exact⟨t',by rw[e];congr 1;omega⟩
 have:=go vs 0 λi v hv=>by simpa using h i v hv
 rw[<- List.range_eq_range',hl] at this;exact this
section
variable {prog:IN}{w:Jm}{A:JA}{E:Ih->Im->Prop}{s:Im}
theorem uy {n:Nat} (hh:A.handled=none) (hr:IsRange s.heap r 0 n 1 t u v) (hl:n <= 1000)
  (h:∀ vs h' tk,Lb vs (ups n)->(∀ b o,s.heap.get? b=some o->h'.get? b=some o)->s.heap.objs.size<h'.objs.size->Q vs { s with heap:=h',toks:=tk }):
  IB (IT prog w) A (collect (.ref r)) Q E s:=by
 have key:∀ R:Result->Im->Prop,(∀ h' tk acc' c',(∀ b o,b ≠ s.heap.objs.size->(s.heap.push (Mc "list" #[] 0)).get? b=some o->h'.get? b=some o)->h'.get? s.heap.objs.size=some { cls:=.type "list",dict:=none,data:=.seq acc' c',slots:=#[] } ->
   ItemsOf (λi v=>∃ t,v=.int (0+i*1) t) acc' n->R (.ok (.ret (.ref s.heap.objs.size))) { s with heap:=h',toks:=tk }) ->
   L5 (IT prog w) A (.builtin "list.__iadd__" ⟨[.ref s.heap.objs.size,.ref r],[]⟩) R { s with heap:=s.heap.push (Mc "list" #[] 0) }:=λR hR=>by
  refine KR entry_list_iadd' ?_;rw[KF NR _];show IB _ _ (Lx (.ref s.heap.objs.size) (.ref r) (.ref s.heap.objs.size)) _ _ { s with heap:=s.heap.push (Mc "list" #[] 0) };refine wpAny_extend_range (R:=R) (s:={ s with heap:=s.heap.push (Mc "list" #[] 0) }) hh (Ic _ hr) (small_one (a:=0) (b:=n) (by omega) (by omega) (by omega) (by omega)) (n:=n) ?_ (by omega) s.heap.objs.size _ 0 (Io _ rfl) λh' tk acc' c' hk hS' hacc=>hR h' tk acc' c' hk hS' hacc
  rw[PY]
  split<;>omega
 unfold collect;refine Ib (Pf (KR entry_proto_collect' ?_));show IB _ _ (do again (.builtin "list.__iadd__" ⟨[<- newList [],.ref r],[]⟩)) _ _ s;refine Ib (P3 (Ig ⟨PD _ (by decide +kernel),key _ fun h' tk acc' c' hk hS' hacc=>?_⟩));show IB (IT prog w) A (do
   let o <- load s.heap.objs.size
   match o.data with
   |.seq xs _=>pure xs.toList
   |_=>unsupported "internal:collect") Q E { s with heap:=h',toks:=tk }
 refine Ib (wpAny_load hS' (Ig (h _ _ _ (CP (by rw[JL];exact hacc.1) λi v hv=>?_) (λb o e=>hk b o (IK (Ip e)) (Ic _ e)) (Ip hS'))));obtain⟨t',e⟩:=hacc.2 i v (by rw[<- Lv];exact hv);exact⟨t',by rw[e];congr 1;omega⟩
theorem xH {n:Nat}
  (hh:A.handled=none)(F:Fr h₀ L s.heap m)(N:News h₀ L s.heap news)(hr:IsRange s.heap r 0 n 1 t u v)(hl:n<64)(hlen:kz.length=n)
  (ha1:argsOk "sorted" ⟨[.ref r],kw⟩)(ha2:∀ x,argsOk "list.sort" ⟨[.ref x],kw⟩)(ht:∀ x,Lg.«list.sort» ⟨[.ref x],kw⟩=ksk_tree x f b)
  (tR:∀ (i:Nat) (k:Int) (t:Tok),i<n->kz[i]?=some k->∀ (h:Kl) (tk:Nat) (own:List (Iv×Obj)),Fr h₀ L h m->News h₀ L h (news++own) ->
   IB (IT prog w) A.in1.in1 (call f [.int i t]) (KskEnd h₀ L m (news++own) k { s with heap:=h,toks:=tk }) (λ_ _=>False) { s with heap:=h,toks:=tk })
  (h:∀ D h' tk out c vs,Lb vs (ups n)->Fr h₀ L h' m->News h₀ L h' ((D,Mc "list" out c)::news)->s.heap.objs.size<=D->KskOut b kz vs out.toList->Q (.ref D) { s with heap:=h',toks:=tk }):
  IB (IT prog w) A (call (.builtin "sorted") [.ref r] kw) Q E s:=by
 refine call_function_entry_kw kind_sorted plain_sorted entry_sorted ha1 ?_;unfold Lg.«sorted»;refine Ib (m:=checkCount "sorted" 1 1 _) (Ig ?_);refine Ib (uy (show A.in1.handled=none from hh) hr (by omega) λvs g tk hi kk hlt=>?_);have hvs:vs.length=n:=by rw[hi.length,iI]
 refine Ib (P3 ?_ (by rw[JK];omega));have hL:L<s.heap.objs.size:=F.ns.lt;have hsz:s.heap.objs.size<=g.objs.size:=Kj hlt;have hoL:(g.push (Mc "list" vs.toArray 0)).get? g.objs.size=some (Mc "list" vs.toArray 0):=Io _ rfl;have keep:∀ b o,s.heap.get? b=some o->(g.push (Mc "list" vs.toArray 0)).get? b=some o:=λb o q=>Ic _ (kk b o q)
 have hLg:L<g.objs.size:=(F.kept kk).ns.lt;show IB _ _ _ _ _ { s with heap:=g.push (Mc "list" vs.toArray 0),toks:=tk };refine Ib (JZ (wpAny_call_entry_kw slot_list_sort ⟨_,hoL,rfl⟩ entry_list_sort ?body (ha2 _)))
 case body=>
  have ht':=ht g.objs.size;show IB (IT prog w) A.in1.in1 (Lg.«list.sort» ⟨[.ref g.objs.size],kw⟩) _ _ _;rw[ht'];refine ksk_sort (s:={ s with heap:=g.push (Mc "list" vs.toArray 0),toks:=tk }) (kz:=kz)
   (F.kept keep) (N.grown keep) hoL (Kx hLg) (O1 (IS F.above (Kj hLg)))
   (λp hp=>IK (IA (Ip (N p hp).1) hsz)) (by omega) (by omega) (λi v k hv hk h tk own F' N'=>?_) λh' tk out c F' N' k'=>⟨_,rfl,?_⟩
  ·have hin:i<n:=by rw[<- hvs];exact(Iu.mp hv).1
   obtain⟨t',e⟩:=hi.get i _ (Aa hin);rw[e] at hv;cases hv;exact tR i k t' hin hk h tk own F' N'
  ·exact Ig ⟨_,rfl,h _ h' tk out c vs hi F' N' hsz k'⟩
abbrev DJ (qual far kn:Str)(params:Arguments)(pf pk pp:Pos)(scope:MT)(cl:List (Str×Iv))(pm cd ctv:Ih):JS:=
 O_ "<lambda>" qual params (.Subscript (.Name far pf) (.Name kn pk) pp) scope cl pm cd ctv
theorem AK {i:Nat}{k:Int}
  (hlim:s.heap.NoLimit)(hroom:A.depth<recursionLimit)(ho:s.heap.get? f=some { cls:=.type "function",data:=.func (DJ qual far kn params pf pk pp scope cl pm (.ref c') ctv) })(hcd:s.heap.CodeRec (.ref c') qual)
  (hbind:∀ u,JD (DJ qual far kn params pf pk pp scope cl pm (.ref c') ctv) ⟨[u],[]⟩=pure [(kn,u)])
  (hco:scope.isCoroutine=false)(hgen:scope.isGenerator=false)(hk:scope.kind=.function)(hnc:∀ x∈scope.names,x.2≠.cell)(hkl:scope.names.lookup kn=some .local)(hff:scope.names.lookup far=some .free)
  (hd1:(far==("__debug__":Str))=false)(hd2:(kn==("__debug__":Str))=false)(hd3:(far==("__classdict__":Str))=false)
  (hcl:cl.lookup far=some cf)(hcell:s.heap.IsCell cf (some (.ref l)))(hl:s.heap.IsList l vs.toArray)(hi:Lb vs ns)(hx:ns[i]?=some k)(hsm:ns.length<=1000)
  (h:∀ h' tk t',(∀ b o,s.heap.get? b=some o->h'.get? b=some o)->Q (.int k t') { s with heap:=h',toks:=tk }):
  IB (IT prog w) A (call (.ref f) [.int i t]) Q E s:=by
 refine M4 (PySem.W.kla_callFunE hroom ho rfl hco hgen rfl hcd ?_);rw[hbind];refine Ig (wpAny_newFunctionEnv hnc (λx hx=>?_) (λh₁ hns hsb=>⟨hlim.fresh _ hsb,PySem.W.kla_codeExpr ?_⟩) hk)
 ·cases Ii.mp hx;exact hkl
 have hk₁:∀ b o,s.heap.get? b=some o->h₁.get? b=some o:=λb o e=>hsb.extBut b o (IK (Ip e)) (Ic _ e)
 have hin:i<ns.length:=(Iu.mp hx).1;refine Qh ?_;refine OX (wpAny_loadName_free hk ?_ hcl (hcell.keeps hk₁) ?_ hd3) hd1
 ·exact hff
 refine OX (MV hk ?_ hns (v:=.int i t) ?_ ?_) hd2
 ·exact hkl
 ·simp
 refine item_list_intsR (let ⟨o,e,q⟩:=hl;⟨o,hk₁ _ _ e,q⟩) hi (by omega) (by omega) (by omega) (λt'=>?_) rfl;have e:ns.getD (i:Int).toNat 0=k:=by
  rw[Ja,Nq,hx];rfl
 rw[e];exact h _ _ _ hk₁
end
open L2
theorem iB:∀ {vs:List Ih}{ns:List Int},Lb vs ns->bD (ns.map V.int) vs
 |_,_,.nil=>.nil
 |_,_,.cons n t h=>.cons ⟨t,rfl⟩ (iB h)
section
variable {X:Cx}
def HN (ta:TA):TE:=λσ H Q=>ta σ H λvs H1=>∃ n:Nat,vs=[.int n]/\n<=1000/\∀ p,H1 p=none->Q (.ref p) (upd H1 p (.rng 0 n))
theorem x' (hg:Gl X "range")(hm:X.mg "range"=none)(ha:WA X [a] ta)(hs:IR [a] X.env=[(false,L6 a X.env)]:=by rfl):WE X (.Call (.Name "range" p) [a] [] pos) (HN ta):=by
 have ha:=ha.go;refine⟨?_⟩;intro pins s σ H Q I h;refine Call_ (ki I hg hm boot_range (Kc (thn (ha pos pins s σ H _ I h) λus s1 ⟨vs,H1,I1,r1,q1⟩=>?_) hs rfl));obtain⟨n,rfl,hn,q⟩:=q1;cases r1 with
 |cons r rr=>
  cases rr;obtain⟨t,rfl⟩:=r;exact call_range_1 ⟨.ref s1.heap.objs.size,_,I1.laid (a:=s1.heap.objs.size) (o:=.rng 0 n) (t':=_) (λb o e=>Ic _ e) (Il _) ⟨_,_,_,Io _ rfl⟩,rfl,q _ (I1.hok.fresh (Il _))⟩
def BU:List V->Hp->VK->Prop:=λxs H Q=>∃ (p:Iv) (n:Nat),xs=[.ref p]/\H p=some (.rng 0 n)/\n<=1000/\∀ l,H l=none->Q (.ref l) (upd H l (.lst ((ups n).map V.int)))
theorem rd (hc:X.calm=true):eN X (.type "list") BU:=by
 intro pins s σ H xs us Q I r h;obtain⟨p,n,rfl,hp,hn,q⟩:=h;obtain⟨u,rfl,ru⟩:=mY r;cases ru;obtain⟨t,u,v,e⟩:=(show cF X.prog X.w H s.heap p (.rng 0 n) from I.hok _ _ hp)
 refine call_list_range (n:=n) (I.ok.hd hc) e (small_one (a:=0) (b:=n) (by omega) (by omega) (by omega) (by omega)) (by rw[PY];split<;>omega) (by omega) λh' tk acc c hk hD hI=>?_
 have hv:Lb acc.toList (ups n):=CP (by rw[JL];exact hI.1) λi v hv=>by
  obtain⟨t',e⟩:=hI.2 i v (by rw[<- Lv];exact hv);exact⟨t',by rw[e];congr 1;omega⟩
 refine⟨.ref s.heap.objs.size,_,I.laid (a:=s.heap.objs.size) (o:=.lst ((ups n).map V.int)) (t':=tk) hk (Il _) ⟨?_,acc.toList,c,iB hv,by rw[OY];exact hD⟩,rfl,q _ (I.hok.fresh (Il _))⟩;rw[Ij,iI];exact cI hn
end
theorem kb {l c:Int}{t u:Nat}:∀ (ps:List Ih),PU ps->MQ pos (ps++[.int l t,.int c u,cd])=((MQ pos ps).or (if(l==pos.line&&c==pos.col)=true then some cd else none))
 |[],_=>by
  show(if(l==pos.line&&c==pos.col)=true then some cd else MQ pos [])=_;rfl
 |.int a t::.int b u::e::r,h=>by
  show(if(a==pos.line&&b==pos.col)=true then some e else MQ pos (r++[.int l _,.int c _,cd]))=Option.or (if(a==pos.line&&b==pos.col)=true then some e else MQ pos r) _
  by_cases q:(a==pos.line&&b==pos.col)=true
  ·rw[Jh q,Jh q];rfl
  ·rw[IY q,IY q];exact kb r h
theorem ny {l c:Int}{t u:Nat}:∀ (ps:List Ih),PU ps->PU (ps++[.int l t,.int c u,cd])
 |[],_=>trivial
 |.int a t::.int b u::e::r,h=>ny r h
abbrev tbO (q:Str):HO:=.tbl #[.str q 0]
section
variable {X:Cx}{pins:List (Iv×Obj)}{σ:L2.St}{H:Hp}{s:Im}
theorem Bk (I:Inv X pins σ H s) (hcode:X.env.code=.ref c) (hcd:∀ h,X.K.In h->NJ h c P) (hP:H P=some (tbO (X.env.qual ++ "<lambda>")))
  (hfree:∀ y∈scope.names,y.2=.free->∃ c,X.env.cells.lookup y.1=some c)(hdef:defaultsOf params X.env=([],[]))
  (h:∀ fa c' pm ctv H2 s2,Inv X pins σ H2 s2->aj H H2->s2.heap.get? fa=some { cls:=.type "function",data:=.func (O_ "<lambda>" (X.env.qual++"<lambda>") params body scope (clo X.env.cells scope.names []) pm (.ref c') ctv) } ->
   s2.heap.CodeRec (.ref c') (X.env.qual++"<lambda>")->Q (.ref fa) s2) :
  IB (IT X.prog X.w) X.A (L6 (.Lambda params body scope lp) X.env) Q E s:=by
 have okP:∃ ps:Array Ih,s.heap.get? P=some (QQ ps)/\PU ps.toList/\∀ pos cv,MQ pos ps.toList=some cv->∃ c' o vs t',cv=.ref c'/\H c'=some (.own P)/\s.heap.get? c'=some o/\o.data=.fields vs/\vs[1]?=some (.str (X.env.qual++"<lambda>") t'):=by
  obtain⟨ps,e,tr,q,t,e0,f⟩:=(show cF X.prog X.w H s.heap P (tbO (X.env.qual++"<lambda>")) from I.hok _ _ hP)
  have e0':some (N2 (X.env.qual++"<lambda>") 0)=some (.str q t):=e0;cases e0';exact⟨ps,e,tr,f⟩
 obtain⟨ps,eP,tr,fP⟩:=okP;obtain⟨bm,ob,b1,b2,b3,b4,b5,b6⟩:=I.mod.bm;have hgs:s.heap.Ns Ik X.mg:=I.mod.glob.keeps I.bk;have hgP:Ik≠P:=λq=>by
  obtain⟨o,es,ep,e,hd,_⟩:=hgs;rw[q,eP] at e;cases e;cases hd
 have hbP:bm≠P:=λq=>by
  have e:=I.bk _ _ b3;rw[q,eP] at e;cases e;cases b4
 have hbG:bm≠Ik:=λq=>by
  obtain⟨o,es,ep,e,hd,_⟩:=hgs;have e':=I.bk _ _ b3;rw[q,e] at e';cases e';rw[hd] at b6;cases b6
 have B:s.heap.BuiltinsAt X.mg P:=⟨bm,ob,b1,b2,hbG,hbP,I.bk _ _ b3,b4,b5,b6⟩
 refine PySem.W.kla_eval hdef ?_;cases hcm:MQ lp ps.toList with
 |some cv=>
  obtain⟨c',o,vs,t',rfl,w2,w3,w4,w5⟩:=fP lp cv hcm;refine PySem.W.kla_makeFunctionHit (mg:=X.mg) (sR hfree) I.ok.glob hgs hcode (hcd _ I.kIn) eP tr hcm B λctv h' tk hk hsz=>?_
  have kk:∀ b u,s.heap.get? b=some u->(h'.push { cls:=.type "function",data:=.func (O_ "<lambda>" (X.env.qual++"<lambda>") params body scope (clo X.env.cells scope.names []) ((X.mg "__name__").getD .none) (.ref c') ctv) }).get? b=some u:=λb u e=>Ic _ (hk b u e)
  exact h h'.objs.size c' _ ctv H _ (I.kept (t':=tk) kk) (aj.refl _) (Io _ rfl) ⟨c',o,vs,t',rfl,kk _ _ w3,w4,w5⟩
 |none=>
  refine PySem.W.kla_makeFunction (mg:=X.mg) (sR hfree) I.ok.glob hgs hcode (hcd _ I.kIn) eP tr hcm hgP B λc' ctv h' tk hx hge hlt hrec htb=>?_
  have fc:H c'=none:=I.hok.fresh hge;obtain⟨c2,oc,vs,t,ec,g1,g2,g3⟩:=hrec;cases ec;have nP:∀ b u,b≠P->s.heap.get? b=some u->(h'.push (LB "<lambda>" (X.env.qual++"<lambda>") params body scope (clo X.env.cells scope.names []) ((X.mg "__name__").getD .none) c' ctv)).get? b=some u:=λb u nb e=>Ic _ (hx b u nb e)
  have gc:(h'.push (LB "<lambda>" (X.env.qual++"<lambda>") params body scope (clo X.env.cells scope.names []) ((X.mg "__name__").getD .none) c' ctv)).get? c'=some oc:=Ic _ g1;have gP:(h'.push (LB "<lambda>" (X.env.qual++"<lambda>") params body scope (clo X.env.cells scope.names []) ((X.mg "__name__").getD .none) c' ctv)).get? P=some (QQ (ps++#[Ll lp.line,Ll lp.col,.ref c'])):=Ic _ htb;have gF:(h'.push (LB "<lambda>" (X.env.qual++"<lambda>") params body scope (clo X.env.cells scope.names []) ((X.mg "__name__").getD .none) c' ctv)).get? h'.objs.size=some (LB "<lambda>" (X.env.qual++"<lambda>") params body scope (clo X.env.cells scope.names []) ((X.mg "__name__").getD .none) c' ctv):=Io _ rfl;generalize h'.push (LB "<lambda>" (X.env.qual++"<lambda>") params body scope (clo X.env.cells scope.names []) ((X.mg "__name__").getD .none) c' ctv)=g at nP gc gP gF ⊢;have sm:aj H (upd H c' (.own P)):=λb o e=>by rw[ao (aB e fc)];exact e
  have ne:∀ b,H b=none->b≠P:=λb n z=>by rw[z,hP] at n;cases n
  have lc:∀ b u,s.heap.get? b=some u->b≠c':=λb u e=>IK (IA (Ip e) hge)
  refine h h'.objs.size c' _ ctv (upd H c' (.own P)) _ (I.un (t':=tk) ⟨λb u q n _ _=>nP b u (ne b n) q,λb u q n _ _=>⟨u.slots,nP b u (ne b n) q⟩,λb u q n _=>by rw[ao (lc b u q)];exact n,λb u q _=>?_,λb xs q=>sm _ _ q,λb u w q=>sm _ _ q,λb qs q=>⟨#[],by rw[sm _ _ q];simp⟩⟩ λb u q=>?_) sm gF ⟨c',oc,vs,t,rfl,gc,g2,g3⟩
  ·by_cases hb:b=P
   ·exact⟨_,by rw[hb];exact gP⟩
   ·exact⟨u,nP b u hb q⟩
  ·by_cases hb:b=c'
   ·subst hb;rw[ac] at q;cases q;exact⟨oc,gc⟩
   ·rw[ao hb] at q
    by_cases hbP':b=P
    ·subst hbP';rw[hP] at q;cases q;refine⟨_,gP,?_,_,_,rfl,λpos cv z=>?_⟩
     ·rw[Ph];exact ny _ tr
     ·rw[Ph] at z;have z':=(kb (pos:=pos) (l:=(lp.line:Int)) (c:=(lp.col:Int)) (t:=0) (u:=0) (cd:=.ref c') ps.toList tr).symm.trans z;cases zz:MQ pos ps.toList with
      |some cv'=>
       rw[zz] at z';have z2:cv'=cv:=Ie z';subst z2;obtain⟨c2,o2,vs2,t2,w1,w2,w3,w4,w5⟩:=fP pos cv' zz;exact⟨c2,o2,vs2,t2,w1,sm _ _ w2,nP c2 o2 (λz=>by rw[z,hP] at w2;cases w2) w3,w4,w5⟩
      |none=>
       rw[zz] at z';have z2:(if((lp.line:Int)==pos.line&&(lp.col:Int)==pos.col)=true then some (IX c') else none)=some cv:=z'
       split at z2
       ·cases z2;exact⟨c',oc,vs,t,rfl,ac,gc,g2,g3⟩
       ·cases z2
    ·refine(I.hok b u q).stay (λd v hd r=>nP d v ?_ r) (λd r=>sm _ _ r) λd xs r=>sm _ _ r
     rcases hd with rfl|hd
     ·exact hbP'
     ·exact λz=>by rw[z,hP] at hd;cases hd
end
theorem pI [BEq α][LawfulBEq α]:∀ {l:List (α×β)},l.lookup x=some y->(x,y)∈l
 |[],h=>nomatch h
 |(a,b)::r,h=>by
  rw[Ki] at h;cases q:x==a with
  |true=>
   rw[q] at h;have e:x=a:=eq_of_beq q;cases h;rw[e];exact IJ
  |false=>
   rw[q] at h;exact Iq _ (pI h)
def wn (sc:MT)(far kn:Str):Bool:=sc.kind==.function&&!sc.isCoroutine&&!sc.isGenerator&&sc.names.all (λy=>!(y.2==.cell))&&sc.names.lookup kn==some .local&&sc.names.lookup far==some .free
def AF (K:Ia)(i:Nat)(P:Iv)(q:Str)(tr:TE):TE:=λσ H Q=>tr σ H λx H1=>∃ (r:Iv) (n:Nat) (l:Iv) (ns:List Int),x=.ref r/\H1 r=some (.rng 0 n)/\n<64/\σ[i]?=some (some (.ref l))/\SqL K H1 l (ns.map V.int)/\ns.length=n/\H1 P=some (tbO q) /\
 ∀ (H2:Hp) (D:Iv) (order:List Int),aj H1 H2->H2 D=none->order.Perm (ups n)->order.Pairwise (λa b=>ns.getD b.toNat 0<=ns.getD a.toNat 0)->Q (.ref D) (upd H2 D (.lst (order.map V.int)))
section
variable {X:Cx}{K:Ia}
theorem uo {i k:Nat}{cj:Nat} (hK:X.K=K) (hc:X.calm=true) (hr:Room k X.A) (hg:Gl X "sorted") (hm:X.mg "sorted"=none)
  (hcode:X.env.code=.ref c)(hcd:∀ h,K.In h->NJ h c P)(hN:X.N[i]?=some far)(hv:X.env.kindOf far=some .cell)(he:WE X er tr)
  (hst:IR [er] X.env=[(false,L6 er X.env)]:=by rfl)
  (hsc:wn scope far kn=true:=by decide +kernel)(hfr:(scope.names.all λy=>!(y.2==.free)||(X.env.cells.lookup y.1).isSome)=true:=by rfl)(hdef:defaultsOf params X.env=([],[]):=by rfl)
  (hbind:∀ qual cl pm cd ctv u,JD (DJ qual far kn params pf pk pp scope cl pm cd ctv) ⟨[u],[]⟩=pure [(kn,u)]:=by intros;rfl)
  (hd1:(far==("__debug__":Str))=false:=by decide)(hd2:(kn==("__debug__":Str))=false:=by decide)(hd3:(far==("__classdict__":Str))=false:=by decide):
  WE X (.Call (.Name "sorted" p) [er] [⟨some "key",.Lambda params (.Subscript (.Name far pf) (.Name kn pk) pp) scope lp,kp1⟩,⟨some "reverse",.Constant (.bool true) cj cp,kp2⟩] pos) (AF K i P (X.env.qual++"<lambda>") tr):=by
 have he:=he.go;refine⟨?_⟩;subst hK;unfold wn at hsc;simp only[Ju,Kh,K0] at hsc;obtain⟨⟨⟨⟨⟨k1,k2⟩,k3⟩,k4⟩,k5⟩,k6⟩:=hsc;have hfree:∀ y∈scope.names,y.2=.free->∃ c,X.env.cells.lookup y.1=some c:=λy hy e=>by
  rw[Kh] at hfr;have:=hfr y hy;rw[e] at this;exact KC.mp (by simpa using this)
 intro pins s σ H Q I h;refine JT (ki I hg hm nH ?_);refine callWith_kw (env:=X.env) (he:=by rw[hst];rfl) (hplain:=by rw[hst];rfl) (thn ((zV he CL hst) pos pins s σ H (λvs H1=>match vs with
  |[x]=>∃ (r:Iv) (n:Nat) (l:Iv) (ns:List Int),x=.ref r/\H1 r=some (.rng 0 n)/\n<64/\σ[i]?=some (some (.ref l))/\SqL X.K H1 l (ns.map V.int)/\ns.length=n/\H1 P=some (tbO (X.env.qual++"<lambda>")) /\
   ∀ (H2:Hp) (D:Iv) (order:List Int),aj H1 H2->H2 D=none->order.Perm (ups n)->order.Pairwise (λa b=>ns.getD b.toNat 0<=ns.getD a.toNat 0)->Q (.ref D) (upd H2 D (.lst (order.map V.int)))
  |_=>False) I h) λus s1 ⟨vs,H1,I1,r1,q1⟩=>?_)
 match vs,r1,q1 with
 |[x],r1,q1=>
  obtain⟨r,n,l,ns,rfl,hr1,hn,hσ,hl,hlen,hP,q⟩:=q1;obtain⟨u,rfl,ru⟩:=mY r1;cases ru;refine kws_cons (Bk I1 hcode hcd hP hfree hdef λfa c' pm ctv H2 s2 I2 sm ho hrec=>?_);refine kws_cons (Constant_bool (kws_nil ?_));show IB _ _ (call (.builtin "sorted") [.ref r] [(Kz "key",.ref fa),(Kz "reverse",.bool true)]) _ _ s2;obtain⟨t,u,v,hrng⟩:=(show cF X.prog X.w H2 s2.heap r (.rng 0 n) from I2.hok _ _ (sm _ _ hr1))
  obtain⟨m,hnm,hloc⟩:=id I2.loc;obtain⟨w,rw',lk⟩:=hloc i far (.ref l) hN hσ (.inr (.inl hv));cases rw';obtain⟨cf,ecf,hcell⟩:∃ cf,X.env.cells.lookup far=some cf/\s2.heap.IsCell cf (some (.ref l)):=by
   rcases lk with ⟨z,_⟩|⟨_,cf,e,z⟩
   ·rw[hv] at z;cases z
   ·exact⟨cf,e,z⟩
  have hcl:(clo X.env.cells scope.names []).lookup far=some cf:=by
   have mem:(far,JO)∈scope.names:=pI k6;obtain⟨c2,e2⟩:=j_ (cells:=X.env.cells) (names:=scope.names) (acc:=[]) (x:=far) (.inr mem);rcases gx hfree e2 with z|⟨_,z⟩
   ·cases z
   ·rw[ecf] at z;cases z;exact e2
  obtain⟨its,rv,pl,_⟩:=I2.list (sm.seq hl);have hints:=pA rv;obtain⟨oL,esL,epL,eL,dL,_⟩:=id hnm;have F:Fr X.base X.env.locals s2.heap m:=⟨hnm,I2.bk,IS I2.ok.bsz I2.ok.above⟩
  have all:∀ {h:Kl},Fr X.base X.env.locals h m->News X.base X.env.locals h (k7 X.base s2.heap X.env.locals)->∀ b o,b≠X.env.locals->s2.heap.get? b=some o->h.get? b=some o:=λ{h} F' N' b o nb e=>by
   cases z:X.base.get? b with
   |some o'=>
    have:=I2.bk b o' z;rw[e] at this;cases this;exact F'.keep b o z
   |none=>exact(N' (b,o) (uK nb z e)).1
  have nL:∀ b o,s2.heap.get? b=some o->(∀ es ep,o.data≠.dict es ep)->b≠X.env.locals:=λb o e hd z=>by
   rw[z,eL] at e;cases e;exact hd _ _ dL
  have rm:=hr.dp;refine xH (h₀:=X.base) (L:=X.env.locals) (m:=m) (news:=k7 X.base s2.heap X.env.locals) (b:=true) (kz:=ns) (I2.ok.hd hc) F AX hrng hn hlen (ksk_s2 _ _ _) (λx=>ksk_l2 _ _ _) (λx=>ksk_t2 _ _ _) (λj k t hj hk h tk own F' N'=>?_) λD h' tk out cc vs hi F' N' hD ko=>?_
  ·have al:=all F' (λp hp=>N' p (KG _ hp));obtain⟨oc,hoc,hdc⟩:=hcell;obtain⟨ol,nl,el,cl,dl,xl⟩:=id pl;obtain⟨c2,o2,vs2,t2,ec,g1,g2,g3⟩:=id hrec;cases ec;refine AK (s:={ s2 with heap:=h,toks:=tk }) (ns:=ns) (I2.ok.mod.nolimit.keeps F'.keep) (by show X.A.depth<recursionLimit;omega) (al _ _ (nL _ _ ho λ_ _ z=>nomatch z) ho) ⟨_,o2,vs2,t2,rfl,al _ _ (nL _ _ g1 λ_ _ z=>by rw[g2] at z;cases z) g1,g2,g3⟩ (λu=>hbind _ _ _ _ _ u)
    (by simpa using k2) (by simpa using k3) k1 (λx hx z=>by have:=k4 x hx;rw[z] at this;cases this) k5 k6 hd1 hd2 hd3 hcl ⟨oc,al _ _ (nL _ _ hoc λ_ _ z=>by rw[hdc] at z;cases z) hoc,hdc⟩ ⟨ol,al _ _ (nL _ _ el λ_ _ z=>by rw[xl] at z;cases z) el,cl,nl,xl⟩ hints hk (by omega) λh'' tk' t' kk=>?_
   exact KskEnd.intro (F'.kept kk) (N'.grown kk) λp hp=>hp
  ·have al:=all F' (λp hp=>N' p (Iq _ hp));have gD:=(N' _ IJ).1;have fD:H2 D=none:=I2.hok.fresh hD;obtain⟨pz,pp1,po,pw⟩:=ko;have hvl:vs.length=n:=by rw[hi.length,iI]
   have hint:∀ q∈pz,∃ (j:Nat) (t:Tok),j<n/\q.2=.int j t/\q.1=ns.getD j 0:=λq hq=>by
    have hq':=pp1.mem_iff.mp hq;obtain⟨j,hj⟩:=List.getElem?_of_mem hq';rw[Jk] at hj;have jn:j<n:=by rw[<- hlen];exact(Iu.mp hj.1).1
    obtain⟨t',e⟩:=hi.get j _ (Aa jn);rw[e] at hj;refine⟨j,t',jn,(Ie hj.2).symm,?_⟩;rw[Nq,hj.1];rfl
   have hout:Lb out.toList (pz.map λq=>numOf q.2):=by
    rw[po];have go:∀ (l:List (Int×Ih)),(∀ q∈l,∃ (j:Nat) (t:Tok),j<n/\q.2=.int j t/\q.1=ns.getD j 0)->Lb (l.map Prod.snd) (l.map λq=>numOf q.2):=by
     intro l
     induction l with
     |nil=>intro _;exact .nil
     |cons q l ih=>
      intro hl;obtain⟨j,t,_,e,_⟩:=hl q IJ;rw[IF,IF,e];exact .cons _ _ (ih λq hq=>hl q (Iq _ hq))
    exact go pz hint
   have hperm:(pz.map λq=>numOf q.2).Perm (ups n):=by
    have h1:=(pp1.map Prod.snd).map numOf;rw[List.map_snd_zip (by omega),hi.nums,L_] at h1;exact h1
   have hpw:(pz.map λq=>numOf q.2).Pairwise (λa b=>ns.getD b.toNat 0<=ns.getD a.toNat 0):=by
    rw[List.pairwise_map];refine pw.imp_of_mem λ{a b} ha hb hab=>?_
    obtain⟨ja,ta,_,ea,va⟩:=hint a ha;obtain⟨jb,tb,_,eb,vb⟩:=hint b hb;have hab':b.1<=a.1:=hab;rw[ea,eb];show ns.getD (jb:Int).toNat 0<=ns.getD (ja:Int).toNat 0;rw[Ja,Ja,<- va,<- vb];exact hab'
   refine⟨.ref D,_,?_,rfl,q H2 D _ sm fD hperm hpw⟩;have keepT:∀ b u,H2 b=some u->b≠X.env.locals:=λb u e z=>by rw[z,I2.free] at e;cases e
   have I3:Inv X pins σ H2 { s2 with heap:=h',toks:=tk }:=by
    refine I2.step (g':=s2.gens) (d':=s2.drawn) (ch:=[]) (λ_ z=>nomatch z) (λb o nb _ _ e _=>al b o nb e) (λb o nb _ _ e _=>⟨o.slots,al b o nb e⟩) (λ_ _ _ _ n=>n) (λb o _ e=>?_) (λ_ _ e=>e) (λ_ _ _ e=>e) (λb ps e=>⟨#[],by rw[e];simp⟩) (λm' hm'=>?_) (λb u e=>?_) I2.bare
    ·by_cases nb:b=X.env.locals
     ·obtain⟨o',_,_,e',_⟩:=F'.ns;exact⟨o',by rw[nb];exact e'⟩
     ·exact⟨o,al b o nb e⟩
    ·rw[hm'.eq_nsMap,<- hnm.eq_nsMap];exact F'.ns
    ·refine(I2.hok b u e).stay (λd v hd r=>al d v ?_ r) (λ_ r=>r) λ_ _ r=>r
     rcases hd with rfl|hd
     ·exact keepT _ _ e
     ·exact keepT _ _ hd
   have F3:=I2.fpOk (b:=D) (H':=H2) hD fD;exact iM I3 fD (IS I2.sz hD) F3.2.1 F3.2.2.2.2.1 F3.2.2.2.2.2 ⟨by
    rw[Ij];have:=hperm.length_eq;rw[iI] at this;rw[this];exact cI (by omega),out.toList,cc,iB hout,by rw[OY];exact gD⟩
end
def DG (Tb:Iv->Option Str)(own:Bool)(a:Iv)(o:Obj)(ns:List Int):Hp:=λb=>match Tb b with
 |some q=>some (tbO q)
 |none=>if own=true/\b=a then some (.frz o (.lst (ns.map V.int))) else none
theorem zQ {P:IN}{w:Jm}{K:Ia}{mg mb:Str->Option Ih}{CX:CXT}{k:Nat}{fa a:Iv}{fd:JS}{x:Str}{sp:Sp}{s₁:Im}{vs:List Ih}{ns:List Int} (Tb:Iv->Option Str)
  (KX:K.In s₁.heap)(hns:s₁.heap.Ns Ik mg)(hb:s₁.heap.Ns MI mb)(hbb:∀ x:Str,x≠"__name__"->mb x=Jn x)(hlim:s₁.heap.NoLimit)(hg:s₁.gens=#[])
  (hbm:∃ bm o,mg "__builtins__"=some (.ref bm)/\bm≠MI/\s₁.heap.get? bm=some o/\o.cls=.type "module"/\o.dict=some MI/\o.data=.plain)
  (hT:∀ b q,Tb b=some q->s₁.heap.get? b=some { cls:=.none,data:=.fields #[] }/\isCodeTable s₁.heap b/\K.lookup b=none)
  (ha:s₁.heap.get? a=some { cls:=.type "list",data:=.seq vs.toArray })(hi:Lb vs ns)(hl:ns.length<=II)(hr:Room k QM)
  (F:∀ base:Kl,K.In base->base.Ns Ik mg->oC P w K mg base CX k fa fd [x] sp)(hbind:∀ (s:Im) (u:Ih),Pj s fd ⟨[u],[]⟩ [(x,u)])
  (hsp:∀ H:Hp,(∀ b q,Tb b=some q->H b=some (tbO q))->SqL K H a (ns.map V.int)->sp [.ref a] H (λv _=>v=.bl true) λ_ _ _=>False)
  (hCX:∀ H e s',CX [] H s₁ (λ_ _ _=>False) e s'->False):
  L5 (IT P w) QM (.call (.ref fa) ⟨[.ref a],[]⟩) (λr s'=>r=.ok (.ret (.bool true))/\OldK s₁.heap s'.heap/\s'.os=s₁.os/\Pg s'.gens) s₁:=by
 have rv:=ia hi;have nTa:Tb a=none:=by
  cases q:Tb a with
  |none=>rfl
  |some z=>
   have:=(hT a z q).1;rw[ha] at this;cases this
 obtain⟨own,hown⟩:∃ own:Bool,own=(K.lookup a).isNone:=⟨_,rfl⟩
 let H:Hp:=DG Tb own a { cls:=.type "list",data:=.seq vs.toArray } ns
 have HT:∀ b q,Tb b=some q->H b=some (tbO q):=λb q e=>by
  show(match Tb b with|some q=>some (tbO q)|none=>_)=_;rw[e]
 have cases_:∀ b u,H b=some u->(∃ q,Tb b=some q/\u=tbO q)\/(own=true/\b=a/\u=.frz { cls:=.type "list",data:=.seq vs.toArray } (.lst (ns.map V.int))):=λb u e=>by
  have e':(match Tb b with|some q=>some (tbO q)|none=>if own=true/\b=a then some (HO.frz { cls:=.type "list",data:=.seq vs.toArray } (.lst (ns.map V.int))) else none)=some u:=e;cases q:Tb b with
  |some z=>
   rw[q] at e';exact .inl ⟨z,rfl,(Ie e').symm⟩
  |none=>
   rw[q] at e';dsimp only at e'
   split at e'
   ·rename_i hc
    exact .inr ⟨hc.1,hc.2,(Ie e').symm⟩
   ·cases e'
 have ok:HOk P w H s₁.heap:=λb u e=>by
  rcases cases_ b u e with ⟨q,hq,rfl⟩|⟨_,rfl,rfl⟩
  ·exact⟨#[],(hT b q hq).1,trivial,q,0,rfl,λpos cv z=>nomatch z⟩
  ·exact⟨ha,by rw[Ij];exact hl,vs,_,rv,ha⟩
 have hS:SqL K H a (ns.map V.int):=by
  cases hk:K.lookup a with
  |some o=>
   have e:=KX a o hk;rw[ha] at e;cases e;exact .inr ⟨_,vs.toArray,_,hk,rfl,rfl,rfl,by rw[IE,hi.length];exact hl,by simpa using rv⟩
  |none=>
   refine .inl (.inr ⟨{ cls:=.type "list",data:=.seq vs.toArray },?_⟩);show(match Tb a with|some q=>some (tbO q)|none=>if own=true/\a=a then some (HO.frz { cls:=.type "list",data:=.seq vs.toArray } (.lst (ns.map V.int))) else none)=_;rw[nTa];dsimp only;rw[Jh ⟨by rw[hown,hk];rfl,rfl⟩]
 have un:∀ {b:Iv}{o:Obj},s₁.heap.get? b=some o->(∀ its n,o.data≠.seq its n)->(∀ ws,o.data≠.fields ws)->H b=none:=λ{b o} e h1 h2=>by
  cases q:H b with
  |none=>rfl
  |some u=>
   rcases cases_ b u q with ⟨z,hz,_⟩|⟨_,rfl,_⟩
   ·have:=(hT b z hz).1;rw[e] at this;cases this;exact absurd rfl (h2 _)
   ·rw[ha] at e;cases e;exact absurd rfl (h1 _ _)
 have nsK:∀ {b:Iv}{m:Str->Option Ih},s₁.heap.Ns b m->(CJ s₁.heap H).Ns b m:=λ{b m} ⟨o,es,ep,e,d,r⟩=>⟨o,es,ep,qS e (un e (λ_ _ z=>by rw[d] at z;cases z) λ_ z=>by rw[d] at z;cases z),d,r⟩
 have hKb:K.In (CJ s₁.heap H):=λb o e=>qS (KX b o e) (by
  cases q:H b with
  |none=>rfl
  |some u=>
   rcases cases_ b u q with ⟨z,hz,_⟩|⟨ho,rfl,_⟩
   ·rw[(hT b z hz).2.2] at e;cases e
   ·rw[hown,e] at ho;cases ho)
 have hM:Mod K mg (CJ s₁.heap H):=⟨hKb,nsK hns,⟨mb,nsK hb,hbb⟩,let ⟨mc,h1,h2⟩:=hlim;⟨mc,nsK h1,h2⟩,by
  obtain⟨bm,o,b1,b2,b3,b4,b5,b6⟩:=hbm;exact⟨bm,o,b1,b2,qS b3 (un b3 (λ_ _ z=>by rw[b6] at z;cases z) λ_ z=>by rw[b6] at z;cases z),b4,b5,b6⟩⟩
 have e0:Dp P w K mg (CJ s₁.heap H) QM [] s₁ H:=⟨rfl,hM,λb o e=>Du e,Nat.le_of_eq (zn _ _),trivial,λb hb=>absurd (show b∈([]:List Iv) from hb) (by simp),ok,.of_eq hg⟩
 refine Lf ((F _ hKb (nsK hns)).run QM [] s₁ H ⟨[.ref a],[]⟩ [.ref a] [.ref a] _ _ hr e0 (hbind s₁ (.ref a)) (.cons rfl .nil) (hsp H HT hS)) λr s' h=>?_
 cases r with
 |error e=>exact(hCX H e s' h).elim
 |ok fl=>
  cases fl with
  |next=>exact Km h
  |brk=>exact Km h
  |cont=>exact Km h
  |ret u=>
   obtain⟨v,H',os,bare,un',hok',r',q⟩:=h;have q':v=.bl true:=q;subst q';obtain rfl:u=M3 true:=r';have old:∀ b o,s₁.heap.get? b=some o->asItWas s₁.heap s'.heap b o:=λb o e=>by
    cases z:H b with
    |none=>exact .inl (un'.keep b o e z (by intro z;exact absurd (show b∈([]:List Iv) from z) (by simp)) (by simp))
    |some u=>
     rcases cases_ b u z with ⟨n,hn,rfl⟩|⟨_,rfl,rfl⟩
     ·obtain⟨more,z2⟩:=un'.tbls b _ z;obtain⟨ps,e2,_⟩:=(show cF P w H' s'.heap b (.tbl _) from hok' b _ z2)
      obtain⟨e1,ct,_⟩:=hT b n hn;rw[e] at e1;cases e1;exact .inr (.inl ⟨ct,rfl,#[],ps,rfl,by simpa using e2⟩)
     ·have z2:=un'.frzs _ _ _ z;obtain⟨e2,_⟩:=(show s'.heap.get? _=some _/\_ from hok' _ _ z2)
      rw[ha] at e;cases e;exact .inl e2
   refine⟨rfl,⟨old,λb o e=>?_⟩,os,bare⟩;rcases old b o e with x|⟨_,_,_,_,_,x⟩|⟨_,_,⟨o',_,_,x,_⟩,_⟩
   ·exact⟨_,x⟩
   ·exact⟨_,x⟩
   ·exact⟨_,x⟩
def Az (K:Ia)(x:Str)(P:Iv):Prop:=∃ (f:Iv) (oc:Ih) (od:Option Iv) (fd:JS) (sl:Array (Option Ih)) (c:Iv),Iw K Ik x=some (some (.ref f))/\K.lookup f=some ⟨oc,od,.func fd,sl⟩/\fd.code=.ref c /\
 (∀ h:Kl,K.In h->NJ h c P)/\fd.qualname=x
def TbI (K:Ia)(x:Str)(H:Hp):Prop:=∃ P,Az K x P/\H P=some (tbO (x++".<locals>."++"<lambda>"))
theorem TbI.same {K:Ia}{x:Str}{H H':Hp}(h:TbI K x H)(s:aj H H'):TbI K x H':=by obtain⟨P,a,b⟩:=h;exact⟨P,a,s _ _ b⟩
theorem TbI.mv {K:Ia}{x:Str}{T:List Iv}{H H':Hp}(h:TbI K x H)(m:Mv T H H')(l:cD H T):TbI K x H':=by obtain⟨P,a,b⟩:=h;exact⟨P,a,m _ _ b (l.not b λ_ z=>nomatch z)⟩
structure FT (K:Ia)(mg:Str->Option Ih)(x:Str)(st:Ke)(ps:List Str):Prop where
 dfn:Dfn K mg x st ps []
 at_:∃ f,Iw K Ik x=some (some (.ref f))/\mg x=some (.ref f)
section
variable {P:IN}{w:Jm}{K:Ia}{mg:Str->Option Ih}{base:Kl}{CX:CXT}
theorem FT.cal {x:Str}{st:Ke}{N ps:List Str}{k:Nat}{sp:Sp} (F:FT K mg x st ps) (S:am N ps (ag st)) (len:∀ vs H Q E,sp vs H Q E->vs.length=ps.length)
  (hbody:∀ (f:Iv) (cdv:Ih) (A:JA) (outer:List Env) (s:Im) (H:Hp) (vs:List V) (Q:VK) (E:XK),(∀ Pt,Az K x Pt->∃ c,cdv=.ref c/\∀ h:Kl,K.In h->NJ h c Pt)->Room k (A.deeper (Oq x (ag st) s.heap.objs.size f cdv))->sp vs H Q E ->
   ∃ t,PSs (As CX P w K mg base N x (ag st) f cdv A outer s H E).nox (aF st) t/\t { nx:=λ_ H'=>Q .non H',rt:=Q } (lP N vs) H):Cal P w K mg base CX (k+1) x ps [] sp:=by
 obtain⟨f,fd,oc,od,dV,kV,doc,pm,an,cdv,ct,osl,ds,rfl,lk,hcd,hm,hk,hb,hv⟩:=F.dfn.ex;refine⟨f,_,ds,yI lk hcd S len λA outer s H vs Q E hr hsp=>?_,hm,hk,hb,hv⟩;obtain⟨t,h,q⟩:=hbody f cdv A outer s H vs Q E (λPt ⟨f',oc',od',fd',sl',c,e1,e2,e3,e4,_⟩=>by
  obtain⟨f2,z1,z2⟩:=F.at_;rw[e1] at z1;cases z1;rw[hm] at z2;cases z2;rw[lk] at e2;cases e2;exact⟨c,e3,e4⟩) hr hsp
 exact⟨t,h.nox,q⟩
end
def rV (xs:List Str)(K:Ia):Sp:=λvs H Q _=>∃ (a:Iv) (ns:List Int),vs=[.ref a]/\SqL K H a (ns.map V.int)/\ns.length<=63/\(∀ x∈xs,TbI K x H)/\∀ H',Q (.bl true) H'
def FM (ts:List (Str×Iv))(b:Iv):Option Str:=(ts.find? λp=>p.2==b).map λp=>p.1++".<locals>."++"<lambda>"
def Ds (vs:Array Ih)(c P:Iv):Prop:=∃ file tf flags tg inF text tt,vs[11]?=some (.ref P)/\vs.getD 11 .none=.ref P/\vs.getD 18 .none=.str file tf/\vs.getD 7 .none=.int flags tg/\vs.getD 9 .none=.bool inF/\vs.getD 10 .none=.int text tt/\c≠P
theorem Em {K:Ia}{x:Str}{f c P:Iv}{oc:Ih}{od odc:Option Iv}{fd:JS}{sl slc:Array (Option Ih)}{vs:Array Ih} (a:Iw K Ik x=some (some (.ref f))) (l:K.lookup f=some ⟨oc,od,.func fd,sl⟩) (e:fd.code=.ref c) (qn:fd.qualname=x)
  (cc:K.lookup c=some ⟨.type "code",odc,.fields vs,slc⟩)(h:Ds vs c P):Az K x P:=by
 obtain⟨file,tf,flags,tg,inF,text,tt,h1,h2,h3,h4,h5,h6,h7⟩:=h;exact⟨f,oc,od,fd,sl,c,a,l,e,λhp X=>⟨_,vs,file,tf,flags,tg,inF,text,tt,X _ _ cc,rfl,rfl,h1,h2,h3,h4,h5,h6,h7⟩,qn⟩
theorem Ff {K:Ia}{c P:Iv}{odc:Option Iv}{slc:Array (Option Ih)}{vs:Array Ih}(cc:K.lookup c=some ⟨.type "code",odc,.fields vs,slc⟩)(h:Ds vs c P)(hp:Kl)(X:K.In hp):isCodeTable hp P:=by
 obtain⟨_,_,_,_,_,_,_,h1,_⟩:=h;exact⟨c,_,vs,X _ _ cc,rfl,rfl,h1⟩
structure vW (K:Ia)(tA:List Iv)(ts:List (Str×Iv)):Prop where
 nodup:(ts.map (·.2)).Nodup
 tab:∀ p∈ts,p.2∈tA/\K.lookup p.2=none/\(∀ h:Kl,K.In h->isCodeTable h p.2)/\Az K p.1 p.2
theorem A4 (h:FM ts b=some q):∃ p∈ts,p.2=b/\q=p.1++".<locals>."++"<lambda>":=by
 unfold FM at h;obtain⟨p,e,rfl⟩:=IG.mp h;exact⟨p,List.mem_of_find?_eq_some e,eq_of_beq (List.find?_some (p:=λr:Str×Iv=>r.2==b) e),rfl⟩
theorem Eb {ts:List (Str×Iv)}{p:Str×Iv}(hn:(ts.map (·.2)).Nodup)(hp:p∈ts):FM ts p.2=some (p.1++".<locals>."++"<lambda>"):=by
 unfold FM;have e:ts.find? (λr=>r.2==p.2)=some p:=by
  induction ts with
  |nil=>nomatch hp
  |cons r ts ih=>
   rw[IF,JW] at hn;rw[KP];rcases Iy.mp hp with rfl|hp
   ·rw[Oo]
   ·have:(r.2==p.2)=false:=Ks.mpr λz=>hn.1 (z▸Js.mpr ⟨p,hp,rfl⟩)
    rw[this];exact ih hn.2 hp
 rw[e];rfl
theorem BJ {l:OL}{k:Nat}{q:IN}{loose:List Str}{XP:(Str->Option Ih)->Kl->Prop}{YP:Jm->Kl->Prop}{d:DefRec}{K:Params->Ia}{CX:Jm->CXT}{x:Str}{sp:List Str->Ia->Sp}{tA:List Iv}
  (hn:l.most=some 63)(hdf:d.params.defaults=[])(hr:Room k QM)
  (hY:∀ (w:Jm) (h:Kl),YP w h->(K w.params).In h)(hY2:∀ (w:Jm) (h:Kl),YP w h->∀ P∈tA,h.get? P=some { cls:=.none,data:=.fields #[] })
  (F:∀ (w:Jm) (mg:Str->Option Ih) (fa:Iv) (h:Kl),(K w.params).In h->h.Ns Ik mg->mg d.name=some (.ref fa) ->
   ∃ (ts:List (Str×Iv)) (fd:JS),vW (K w.params) tA ts/\(∀ (s:Im) (u:Ih),Pj s fd ⟨[u],[]⟩ [(x,u)]) /\
    ∀ base:Kl,(K w.params).In base->base.Ns Ik mg->oC l.prog w (K w.params) mg base (CX w) k fa fd [x] (sp (ts.map (·.1)) (K w.params)))
  (hsp:∀ (xs:List Str) (K:Ia) (H:Hp) (a:Iv) (ns:List Int),ns.length<=63->SqL K H a (ns.map V.int)->(∀ x∈xs,TbI K x H)->sp xs K [.ref a] H (λv _=>v=.bl true) λ_ _ _=>False)
  (hCX:∀ (w:Jm) (H:Hp) (s:Im) (e:Ih) (s':Im),CX w [] H s (λ_ _ _=>False) e s'->False):
  PySem.W.WalkO q loose XP YP l.row.toRowW d [] (λf vs=>QT f vs):=by
 refine Att.attach_call hn hdf λw s₀ s₁ mg mb fa o pm cd doc a vs ns G Y ho hd hcd hmg hobj hints hlen hg=>?_
 have KX:=hY w _ Y;obtain⟨ts,fd,tk,hb,hF⟩:=F w mg fa _ KX G.T.g hmg;refine zQ (K:=K w.params) (FM ts) KX G.T.g G.T.b G.T.builtins G.T.nolimit hg G.T.bmain (λb z e=>?_) hobj hints (IS hlen (by decide)) hr hF hb (λH hH hS=>hsp _ _ H a ns hlen hS λy hy=>?_) λH e s'=>hCX w H s₁ e s'
 ·obtain⟨p,m,rfl,rfl⟩:=A4 e;obtain⟨t1,t2,t3,_⟩:=tk.tab p m;exact⟨hY2 w _ Y _ t1,t3 _ KX,t2⟩
 ·obtain⟨p,m,rfl⟩:=Js.mp hy;exact⟨p.2,(tk.tab p m).2.2.2,hH _ _ (Eb tk.nodup m)⟩
theorem Bz {K:Ia}{a:Iv}{o:Obj}{its:Array Ih}{n:Nat}{xs:List V}(l:K.lookup a=some o)(h:o.cls=.type "tuple"/\o.data=.seq its n/\its.size<=II/\bD xs its.toList):KT K a xs:=⟨o,its,n,l,h.1,h.2.1,h.2.2.1,h.2.2.2⟩
theorem _root_.L2.Room.u1 {k:Nat}(r:Room k A):A.units+1<cLine:=Nv (by omega) r.units
abbrev Kn:=Nat×Nat×Nat
def knD (t:Kn):IV:=.tuple [.int t.1,.int t.2.1,.int t.2.2]
def knV (t:Kn):List V:=[.int t.1,.int t.2.1,.int t.2.2]
theorem E3 (t:Kn):(eD t).map kV=knV t:=rfl
theorem qR {K:Ia}{H:Hp}{t:Kn}{v:V}(h:IsD K H (knD t) v):∃ a,v=.ref a/\H a=some (.tup (knV t)):=by
 cases h with
 |tup h q=>
  cases q with
  |cons q1 q=>
   cases q1;cases q with
   |cons q2 q=>
    cases q2;cases q with
    |cons q3 q=>
     cases q3;cases q;exact⟨_,rfl,h⟩
theorem lH {K:Ia}{H:Hp}{t:Kn}{a:Iv}(h:H a=some (.tup (knV t))):IsD K H (knD t) (.ref a):=.tup h (.cons (.int _) (.cons (.int _) (.cons (.int _) .nil)))
theorem sj (h:eD t=eD u):t=u:=by
 obtain⟨a,b,c⟩:=t;obtain⟨x,y,z⟩:=u;have h:[MU (a:Int),MU (b:Int),MU (c:Int)]=([MU (x:Int),MU (y:Int),MU (z:Int)]:List Key):=h;injection h with h1 h
 injection h with h2 h
 injection h with h3 h
 injection h1 with h1
 injection h2 with h2
 injection h3 with h3
 have e1:a=x:=by omega
 have e2:b=y:=by omega
 have e3:c=z:=by omega
 rw[e1,e2,e3]
def tkv:List Kn->List V->List (List Key×V)
 |t::ts,v::vs=>(eD t,v)::tkv ts vs
 |_,_=>[]
theorem vH:∀ {ts:List Kn}{vs:List V},ts.length=vs.length->(tkv ts vs).length=ts.length
 |[],[],_=>rfl
 |[],_::_,h=>by simp at h
 |_::_,[],h=>by simp at h
 |t::ts,v::vs,h=>by
  rw[tkv,Jo,vH (by simpa using h),Jo]
theorem yS:∀ {ts:List Kn}{vs:List V},ts.length=vs.length->(tkv ts vs).map (·.1)=ts.map eD
 |[],[],_=>rfl
 |[],_::_,h=>by simp at h
 |_::_,[],h=>by simp at h
 |t::ts,v::vs,h=>by
  rw[tkv,IF,yS (by simpa using h),IF]
theorem FK:∀ {ts:List Kn}{vs:List V}{i:Nat}{k:List Key}{v:V},(tkv ts vs)[i]?=some (k,v)->∃ t,ts[i]?=some t/\k=eD t/\vs[i]?=some v
 |[],_,_,_,_,h=>by simp[tkv] at h
 |_::_,[],_,_,_,h=>by simp[tkv] at h
 |t::ts,w::vs,0,k,v,h=>by
  have h:some (eD t,w)=some (k,v):=h;cases h;exact⟨t,rfl,rfl,rfl⟩
 |t::ts,w::vs,i+1,k,v,h=>by
  obtain⟨u,a,b,c⟩:=FK (ts:=ts) (vs:=vs) (i:=i) (by simpa [tkv] using h);exact⟨u,by simpa using a,b,by simpa using c⟩
theorem B7 {K:Ia}{H:Hp}{f:Kn->IV}{t:Kn}:∀ {ts:List Kn}{vs:List V},aD K H (ts.map f) vs->t∈ts->∃ v,vT (tkv ts vs) (eD t)=some v/\IsD K H (f t) v
 |[],_,_,m=>nomatch m
 |u::ts,vs,h,m=>by
  cases h with
  |@cons d v ds vs h1 h2=>
   by_cases e:u=t
   ·subst e;exact⟨v,me (p:=(eD u,v)) rfl,h1⟩
   ·rcases Iy.mp m with z|m
    ·exact absurd z.symm e
    ·obtain⟨w,a,b⟩:=B7 h2 m;exact⟨w,by rw[tkv,kf (p:=(eD u,v)) (λz=>e (sj z))];exact a,b⟩
theorem yg:∀ {ts:List Kn}{vs:List V},t∉ts->vT (tkv ts vs) (eD t)=none
 |[],_,_=>rfl
 |_::_,[],_=>rfl
 |u::ts,v::vs,m=>by
  rw[tkv,kf (p:=(eD u,v)) (λz=>m (by rw[sj z];exact IJ))];exact yg λz=>m (Iq _ z)
theorem B8:∀ {ts:List Kn}{vs:List V}{t:Kn}{v:V},ts.length=vs.length->tkv (ts++[t]) (vs++[v])=tkv ts vs++[(eD t,v)]
 |[],[],_,_,_=>rfl
 |[],_::_,_,_,h=>by simp at h
 |_::_,[],_,_,h=>by simp at h
 |u::ts,w::vs,t,v,h=>by
  rw[Om,Om,tkv,tkv,B8 (by simpa using h),Om]
theorem E_ (hl:ts.length=vs.length)(h:t∉ts):v_ (tkv ts vs) (eD t) v=tkv (ts++[t]) (vs++[v]):=by
 rw[A_ v (yg h),B8 hl]
def wD (r:R3):IV:=gE false r
structure R3.Wt (r:R3):Prop where
 a0:0<=r.a
 a1:r.a<=1000
 b0:0<=r.b
 b1:r.b<=1000
 c0:0<=r.c
 c1:r.c<=1000
def GrP (K:Ia)(H:Hp)(ts:List Kn)(f:Kn->R3)(d:Iv):Prop:=∃ vs,H d=some (.dT (tkv ts vs))/\aD K H (ts.map λt=>wD (f t)) vs
def Gr (K:Ia)(H:Hp)(n:Nat)(f:Kn->R3)(d:Iv):Prop:=∃ ts,ts.Perm (cw n)/\GrP K H ts f d
def WtB (n:Nat)(f:Kn->R3):Prop:=∀ t∈cw n,(f t).Wt
theorem Am {f:Kn->R3}:∀ ts:List Kn,jN (ts.map λt=>wD (f t))=true
 |[]=>rfl
 |t::ts=>by
  rw[IF,jN,Am ts];rfl
theorem GrP.len {K:Ia}{ts:List Kn}{f:Kn->R3}{H:Hp}{vs:List V}(h:aD K H (ts.map λt=>wD (f t)) vs):ts.length=vs.length:=by
 have:=h.length
 rwa [Ij] at this
theorem GrP.same {K:Ia}{H H':Hp}{ts:List Kn}{f:Kn->R3}{d:Iv}(h:GrP K H ts f d)(s:aj H H'):GrP K H' ts f d:=by obtain⟨vs,a,b⟩:=h;exact⟨vs,s _ _ a,aD.same s b⟩
theorem Gr.same {K:Ia}{H H':Hp}{n:Nat}{f:Kn->R3}{d:Iv}(h:Gr K H n f d)(s:aj H H'):Gr K H' n f d:=by obtain⟨ts,p,g⟩:=h;exact⟨ts,p,g.same s⟩
theorem GrP.mv {K:Ia}{T:List Iv}{H H':Hp}{ts:List Kn}{f:Kn->R3}{d:Iv}(h:GrP K H ts f d)(m:Mv T H H')(l:cD H T):GrP K H' ts f d:=by
 obtain⟨vs,a,b⟩:=h;exact⟨vs,m _ _ a (l.not a λ_ z=>nomatch z),aD.mv m l (Am ts) b⟩
theorem Gr.mv {K:Ia}{T:List Iv}{H H':Hp}{n:Nat}{f:Kn->R3}{d:Iv}(h:Gr K H n f d)(m:Mv T H H')(l:cD H T):Gr K H' n f d:=by obtain⟨ts,p,g⟩:=h;exact⟨ts,p,g.mv m l⟩
theorem vQ {K:Ia}{H:Hp}{n:Nat}{f:Kn->R3}{d b:Iv}{t:Kn}(h:Gr K H n f d)(ht:t∈cw n)(hb:H b=some (.tup (knV t))):∃ v,Db H d (.ref b) (some v)/\IsD K H (wD (f t)) v:=by
 obtain⟨ts,p,vs,a,q⟩:=h;obtain⟨v,e,hv⟩:=B7 (f:=λt=>wD (f t)) q (p.mem_iff.mpr ht);refine⟨v,?_,hv⟩;have:=Db.t (k:=eD t) a (by rw[E3];exact hb)
 rwa [e] at this
theorem By {n:Nat}(h:n<=7):(cw n).Nodup:=by
 match n,h with
 |0,_=>decide +kernel
 |1,_=>decide +kernel
 |2,_=>decide +kernel
 |3,_=>decide +kernel
 |4,_=>decide +kernel
 |5,_=>decide +kernel
 |6,_=>decide +kernel
 |7,_=>decide +kernel
theorem mV {n:Nat}:(cw n).length=n^3:=by
 unfold cw;have h1:∀ (m:Nat) {α:Type} (g:Nat->List α) (k:Nat),(∀ i,(g i).length=k)->((Ko m).flatMap g).length=m*k:=λm α g k hg=>by
  induction m with
  |zero=>simp
  |succ m ih=>rw[Nb,M',IL,ih];simp[hg,Mb]
 rw[h1 n _ (n*n) λi=>by rw[h1 n _ n λj=>by simp]];rw[Qu,Nat.pow_two,Qt n (n*n)]
theorem Hs {n:Nat}(h:n<=7)(m:t∈cw n):t∈cw 7:=by
 rw[dW] at m ⊢;omega
theorem DC {n:Nat}(h:n<=7)(p:ts.Perm (cw n))(hl:ts.length=vs.length):Da (tkv ts vs):=
 uM (yS hl) (p.nodup_iff.mpr (By h)) λt ht=>Hs h (p.mem_iff.mp ht)
def qW (K:Ia)(H:Hp)(n:Nat)(f:Kn->R3)(v:V):Prop:=∃ a C dx d,v=.ref a/\eF K "Grid" C/\H a=some (.ins C dx [("knots",.int n),("table",.ref d)])/\Gr K H n f d
theorem qW.same {K:Ia}{H H':Hp}{n:Nat}{f:Kn->R3}{v:V}(h:qW K H n f v)(s:aj H H'):qW K H' n f v:=by obtain⟨a,C,dx,d,h1,h2,h3,h4⟩:=h;exact⟨a,C,dx,d,h1,h2,s _ _ h3,h4.same s⟩
theorem qW.mv {K:Ia}{T:List Iv}{H H':Hp}{n:Nat}{f:Kn->R3}{v:V}(h:qW K H n f v)(m:Mv T H H')(l:cD H T):qW K H' n f v:=by
 obtain⟨a,C,dx,d,h1,h2,h3,h4⟩:=h;exact⟨a,C,dx,d,h1,h2,m _ _ h3 (l.not h3 λ_ z=>nomatch z),h4.mv m l⟩
section
variable {K:Ia}{g:TG}{tt:TT}{te:TE}{σ0:L2.St}{Fin:List V->Hp->Prop}{H1:Hp}
theorem wG {d:Iv}{o:Obj}{kvs:List (List Key × V)}{bs:List Bool} (hH:H1 d=some (.frz o (.dT kvs))) (hlb:bs.length=kvs.length) (hl:kvs.length <= 1000)
  (he:∀ (i:Nat) (k:List Key) (x:V) (ka T:Iv) (b:Bool) (H:Hp),kvs[i]?=some (k,x)->bs[i]?=some b->aj H1 H->H ka=some (.tup (k.map kV))->H T=some (.tup [.ref ka,x])->nJ g tt te σ0 (.ref T) H λy H'=>aj H H'/\y=.bl b)
  (hd:∀ H,aj H1 H->Fin (bs.map V.bl) H):iA (Iti d o kvs) g tt te σ0 Fin H1:=by
 refine⟨λi m ys H=>m=kvs.length-i/\i<=kvs.length/\aj H1 H/\ys=(bs.take i).map V.bl,⟨kvs.length,by omega,Jj _,aj.refl _,rfl⟩,?_⟩;rintro i m ys H ⟨rfl,hi,s,rfl⟩;have hyl:((bs.take i).map V.bl).length<=1000:=by rw[Ij,IZ];omega
 by_cases hlt:i<kvs.length
 ·refine .inr ⟨⟨s _ _ hH,hlt⟩,bg hyl,λv H3 y3=>?_⟩;obtain⟨k,x,ka,T,e1,e2,e3,rfl,rfl⟩:=y3;have sT:aj H (upd H T (.tup [.ref ka,x])):=aj.new e3;have hb:bs[i]?=some bs[i]:=by simp[show i<bs.length by omega]
  refine he i k x ka T bs[i] _ e1 hb (s.trans sT) (sT _ _ e2) ac _ (λy H' ⟨s',hy⟩=>⟨kvs.length-(i+1),by omega,rfl,hlt,(s.trans sT).trans s',?_⟩) λH5=>∃ m',m'<kvs.length-i/\(m'=kvs.length-(i+1)/\i+1<=kvs.length/\aj H1 H5/\(bs.take i).map V.bl=(bs.take (i+1)).map V.bl)
  rw[b9 hb,JM,hy];rfl
 ·have e:i=kvs.length:=by omega
  subst e;refine .inl ⟨⟨s _ _ hH,Il _⟩,cI hyl,?_⟩;rw[Jc (by omega)];exact hd H s
end
section
variable {K:Ia}{g:TG}{tt:TT}{tb:TB}{σ0:L2.St}
theorem yC {a:Iv}{b:Bool}{xs:List V}{Fin:List V->Hp->Prop}{H1:Hp} (Pv:Nat->List V->Hp->Prop) (h0:Pv 0 [] H1) (hsrc:∀ i ys H,i <= xs.length->Pv i ys H->SqB K H a xs b)
  (he:∀ i x ys H,xs[i]?=some x->Pv i ys H->∀ R:L2.St->Hp->List V->Prop,(∀ σ' H' ys',Pv (i+1) ys' H'->R σ' H' ys')->∀ S:Hp->Prop,g x σ0 H λσ' H4=>tt σ' H4 λc H5=>if c=true then tb σ' H5 ys R else S H5)
  (hd:∀ ys H,Pv xs.length ys H->ys.length<=1000/\Fin ys H):Ai (Itq K a b) g tt tb σ0 Fin H1:=by
 refine⟨λi m ys H=>m=xs.length-i/\i<=xs.length/\Pv i ys H,⟨xs.length,by omega,Jj _,h0⟩,?_⟩;rintro i m ys H ⟨rfl,hi,p⟩;have q:=hsrc i ys H hi p
 by_cases hlt:i<xs.length
 ·have go:(Itq K a b).go i H:=by
   cases b with
   |true=>exact⟨xs,xs[i],q,by simp[hlt]⟩
   |false=>exact⟨xs,xs[i],q,by simp[hlt]⟩
  refine .inr ⟨go,λx H3 y3=>?_⟩;have e3:H3=H/\xs[i]?=some x:=by
   cases b with
   |true=>exact⟨y3.1,y3.2 xs q⟩
   |false=>exact⟨y3.1,y3.2 xs q⟩
  obtain⟨rfl,hx⟩:=e3;exact he i x ys _ hx p _ (λσ' H' ys' p'=>⟨xs.length-(i+1),by omega,rfl,hlt,p'⟩) λH5=>∃ m',m'<xs.length-i/\(m'=xs.length-(i+1)/\i+1<=xs.length/\Pv (i+1) ys H5)
 ·have e:i=xs.length:=by omega
  subst e;have stop:(Itq K a b).stop xs.length H:=by
   cases b with
   |true=>exact⟨xs,q,Il _⟩
   |false=>exact⟨xs,q,Il _⟩
  exact .inl ⟨stop,cI (hd ys H p).1,(hd ys H p).2⟩
theorem vn {a:Iv}{b:Bool}{xs:List V}{σ:L2.St}{H:Hp}{ys:List V}{Q:L2.St->Hp->List V->Prop} (Pv:Nat->L2.St->List V->Hp->Prop) (h0:Pv 0 σ ys H) (hsrc:∀ i σ ys H,i <= xs.length->Pv i σ ys H->SqB K H a xs b)
  (he:∀ i x σ ys H,xs[i]?=some x->Pv i σ ys H->∀ R:L2.St->Hp->List V->Prop,(∀ σ' H' ys',Pv (i+1) σ' ys' H'->R σ' H' ys')->∀ S:L2.St->Hp->Prop,g x σ H λσ' H4=>tt σ' H4 λc H5=>if c=true then tb σ' H5 ys R else S σ' H5)
  (hd:∀ σ ys H,Pv xs.length σ ys H->Q σ H ys):∃ W:Nat->Nat->L2.St->Hp->List V->Prop,(∃ m,W 0 m σ H ys)/\∀ i m σ2 H2 ys2,W i m σ2 H2 ys2 ->
   ((Itq K a b).stop i H2/\Q σ2 H2 ys2) \/
   ((Itq K a b).go i H2/\∀ x H3,(Itq K a b).yld i H2 x H3->g x σ2 H3 λσ3 H4=>tt σ3 H4 λb H5=>if b=true then tb σ3 H5 ys2 λσ' H' ys'=>∃ m',m'<m/\W (i+1) m' σ' H' ys' else ∃ m',m'<m/\W (i+1) m' σ3 H5 ys2):=by
 refine⟨λi m σ H ys=>m=xs.length-i/\i<=xs.length/\Pv i σ ys H,⟨xs.length,by omega,Jj _,h0⟩,?_⟩;rintro i m σ H ys ⟨rfl,hi,p⟩;have q:=hsrc i σ ys H hi p
 by_cases hlt:i<xs.length
 ·have go:(Itq K a b).go i H:=by
   cases b with
   |true=>exact⟨xs,xs[i],q,by simp[hlt]⟩
   |false=>exact⟨xs,xs[i],q,by simp[hlt]⟩
  refine .inr ⟨go,λx H3 y3=>?_⟩;have e3:H3=H/\xs[i]?=some x:=by
   cases b with
   |true=>exact⟨y3.1,y3.2 xs q⟩
   |false=>exact⟨y3.1,y3.2 xs q⟩
  obtain⟨rfl,hx⟩:=e3;exact he i x σ ys _ hx p _ (λσ' H' ys' p'=>⟨xs.length-(i+1),by omega,rfl,hlt,p'⟩) λσ5 H5=>∃ m',m'<xs.length-i/\(m'=xs.length-(i+1)/\i+1<=xs.length/\Pv (i+1) σ5 ys H5)
 ·have e:i=xs.length:=by omega
  subst e;have stop:(Itq K a b).stop xs.length H:=by
   cases b with
   |true=>exact⟨xs,q,Il _⟩
   |false=>exact⟨xs,q,Il _⟩
  exact .inl ⟨stop,hd σ ys H p⟩
end
section
variable {X:Cx}
def Dx:V->List V->Hp->VK->Prop:=λx vs H Q=>∃ (l:Iv) (xs:List V) (i:Nat) (y:V),x=.ref l/\vs=[.int i,y]/\H l=some (.lst xs)/\i<=xs.length/\xs.length<=1000/\Q .non (upd H l (.lst (xs.take i++y::xs.drop i)))
theorem uC {prog:IN}{w:Jm}{A:JA}{E:Ih->Im->Prop}{s:Im}{l:Iv}{its:List Ih}{n:Nat}{x:Int}{u:Tok}{y:Ih}{Q:Ih->Im->Prop} (hf:No x=true) (hz:its.length <= 1000)
  (e:s.heap.get? l=some { cls:=.type "list",data:=.seq its.toArray n })(h:Q .none { s with heap:=s.heap.update l (KY λxs=>have k:=if x<0 then(x+(xs.size:Int)).toNat else min x.toNat xs.size;(xs.extract 0 k).push y++xs.extract k),toks:=s.toks }):
  IB (IT prog w) A (call (.builtin "list.insert") [.ref l,.int x u,y]) Q E s:=
 N4 NX ⟨_,e,rfl⟩ PySem.F.entry_list_insert (PySem.F.args_list_insert_3 _ _ _) (PySem.AutoSeq1.list_insert_list_int_val_1 l _ n x u y (by simp[hf]) (by rw[IE,JK];omega)) ⟨e,h⟩
theorem zg:MtM X "list.insert" Dx:=by
 intro pins s σ H x vs v us Q I rx rv h;obtain⟨l,xs,i,y,rfl,rfl,hH,hi,hz,q⟩:=h;cases rx;obtain⟨u,w,rfl,ru,rw'⟩:=q_ rv;obtain⟨t,rfl⟩:=ru;obtain⟨z,its,n,r,hl,e⟩:=I.lstM hH;refine uC (fitsIndex_both (by omega) (by omega)) (by omega) e ?_;refine⟨.non,_,I.lset (its':=its.take i++w::its.drop i) hH e ?_ ((r.take i).append (.cons rw' (r.drop i))) ?_,rfl,q⟩
 ·dsimp only;rw[IY (by omega),Ja,IE,Nat.min_eq_left (by omega)];apply Array.ext';simp;exact Jc (by rw[KW];exact Il _)
 ·rw[IL,Jo,IZ,KW];rw[JK];omega
end
def FI (K:Ia)(a:Iv)(rows:List (List Int)):Prop:=∃ bs:List Iv,KT K a (bs.map V.ref)/\NW (λb r=>KT K b (r.map V.int)) bs rows
def tGT (K:Ia)(rows:List (List Int)):TE:=λ_ H Q=>∀ a,FI K a rows->Q (.ref a) H
theorem DV {X:Cx}{K:Ia}{x:Str}{rows:List (List Int)}{pos:Pos}(hg:Gl X x)(hm:∃ a,X.mg x=some (.ref a)/\FI K a rows)(hd:(x==("__debug__":Str))=false:=by decide):WE X (.Name x pos) (tGT K rows):=by
 refine⟨?_⟩;obtain⟨a,e,z⟩:=hm;intro pins s σ H Q I h;exact iE I hg e ⟨.ref a,H,I,rfl,h a z⟩ hd
theorem iP {K:Ia}{H:Hp}:∀ ns:List Int,aD K H (ns.map KM) (ns.map V.int)
 |[]=>.nil
 |n::ns=>.cons (.int n) (iP ns)
theorem cN {K:Ia}{H:Hp}:∀ {ns:List Int}{ys:List V},aD K H (ns.map KM) ys->ys=ns.map V.int
 |[],_,h=>by cases h;rfl
 |n::ns,_,h=>by
  cases h with
  |cons h1 h2=>
   cases h1;rw[cN h2];rfl
def kn3 (a b k:Nat):List Kn:=(Ko k).map λc=>(a,b,c)
def kn2 (n a j:Nat):List Kn:=(Ko j).flatMap λb=>kn3 a b n
def kn1 (n i:Nat):List Kn:=(Ko i).flatMap λa=>kn2 n a n
theorem DI (n:Nat):kn1 n n=cw n:=rfl
theorem vt (a b k:Nat):kn3 a b (k+1)=kn3 a b k++[(a,b,k)]:=by unfold kn3;rw[Nb,JM];rfl
theorem qi (n a j:Nat):kn2 n a (j+1)=kn2 n a j++kn3 a j n:=by unfold kn2;rw[Nb,M'];simp
theorem qQ (n i:Nat):kn1 n (i+1)=kn1 n i++kn2 n i n:=by unfold kn1;rw[Nb,M'];simp
theorem yw (a b k:Nat):(kn3 a b k).length=k:=by unfold kn3;simp
theorem uT (n a:Nat):∀ j,(kn2 n a j).length=j*n
 |0=>by simp[kn2]
 |j+1=>by rw[qi,IL,uT n a j,yw,Mb]
theorem yl (n:Nat):∀ i,(kn1 n i).length=i*(n*n)
 |0=>by simp[kn1]
 |i+1=>by rw[qQ,IL,yl n i,uT,Mb]
theorem x_ {a b k:Nat}:t∈kn3 a b k↔t.1=a/\t.2.1=b/\t.2.2<k:=by
 obtain⟨x,y,z⟩:=t;unfold kn3;simp only[Js,KJ,Prod.mk.injEq];constructor
 ·rintro⟨c,hc,rfl,rfl,rfl⟩;exact⟨rfl,rfl,hc⟩
 ·rintro⟨h1,h2,h3⟩;exact⟨z,h3,h1.symm,h2.symm,rfl⟩
theorem yO {n a j:Nat}:t∈kn2 n a j↔t.1=a/\t.2.1<j/\t.2.2<n:=by
 unfold kn2;simp only[On,KJ,x_];constructor
 ·rintro⟨b,hb,h1,h2,h3⟩;exact⟨h1,by omega,h3⟩
 ·rintro⟨h1,h2,h3⟩;exact⟨t.2.1,h2,h1,rfl,h3⟩
theorem CV {n i:Nat}:t∈kn1 n i↔t.1<i/\t.2.1<n/\t.2.2<n:=by
 unfold kn1;simp only[On,KJ,yO];constructor
 ·rintro⟨b,hb,h1,h2,h3⟩;exact⟨by omega,h2,h3⟩
 ·rintro⟨h1,h2,h3⟩;exact⟨t.1,h1,rfl,h2,h3⟩
theorem Cs {n i j k:Nat}(h:n<=7)(hi:i<n)(hj:j<n)(hk:k<=n):(kn1 n i++kn2 n i j++kn3 i j k).length<=343:=by
 rw[IL,IL,yl,uT,yw];have h1:n*n<=49:=NI h h;have h2:i*(n*n)<=6*49:=NI (by omega) h1;have h3:j*n<=6*7:=NI (by omega) h;omega
theorem vg {n i:Nat}{x:V}(h:((ups n).map V.int)[i]?=some x):i<n/\x=.int (i:Int):=by
 rw[Ix] at h;obtain⟨z,e,rfl⟩:=IG.mp h;have hi:i<(ups n).length:=(Iu.mp e).1;rw[iI] at hi;rw[Aa hi] at e;cases e;exact⟨hi,rfl⟩
theorem le4:[a,b,c,d].length<=II:=by show 4<=II;decide
theorem c_.off (h:c_ H t r)(e:∀ b∈[t,r],∀ o,H b=some o->H' b=some o):c_ H' t r:=by
 obtain⟨c,k,h1,h2,h3,h4⟩:=h;exact⟨c,k,e _ (by simp) _ h1,e _ (by simp) _ h2,h3,h4⟩
structure Q3.Wi (c:Q3)(m:Rat):Prop where
 a0:0<=c.a
 a1:c.a<=m
 b0:0<=c.b
 b1:c.b<=m
 c0:0<=c.c
 c1:c.c<=m
def lW (H H':Hp):Prop:=∀ b o,H b=some o->(∀ kvs,o≠.dT kvs)->H' b=some o
theorem lW.put (h:H d=some (.dT kvs)):lW H (upd H d (.dT kvs')):=λb o e n=>by
 rw[ao (λz=>by rw[z,h] at e;cases e;exact n _ rfl)];exact e
theorem lW.cut (h:lW H H'):lW (TR.cut T H) (TR.cut T H'):=λb o e n=>by
 unfold TR.cut at e ⊢
 split at e
 ·cases e
 ·rename_i nb
  rw[IY nb];exact h b o e n
theorem Rd.sameD (e:lW H H')(h:Rd H a (.lst xs)):Rd H' a (.lst xs):=by
 rcases h with h|⟨o,h⟩
 ·exact .inl (e _ _ h λ_ z=>nomatch z)
 ·exact .inr ⟨o,e _ _ h λ_ z=>nomatch z⟩
mutual
theorem IsD.sameD {K:Ia}{H H':Hp}(e:lW H H'):∀ {d:IV}{v:V},IsD K H d v->IsD K H' d v
 |_,_,.non=>.non
 |_,_,.bl b=>.bl b
 |_,_,.int i=>.int i
 |_,_,.str x=>.str x
 |_,_,.lst h q=>.lst (Rd.sameD e h) (aD.sameD e q)
 |_,_,.tup h q=>.tup (e _ _ h λ_ z=>nomatch z) (aD.sameD e q)
 |_,_,.dct h=>.dct (e _ _ h λ_ z=>nomatch z)
theorem aD.sameD {K:Ia}{H H':Hp}(e:lW H H'):∀ {ds:List IV}{vs:List V},aD K H ds vs->aD K H' ds vs
 |_,_,.nil=>.nil
 |_,_,.cons h q=>.cons (IsD.sameD e h) (aD.sameD e q)
end
theorem c_.sameD (h:c_ H t r)(e:lW H H'):c_ H' t r:=by
 obtain⟨c,k,h1,h2,h3,h4⟩:=h;exact⟨c,k,e _ _ h1 (λ_ z=>nomatch z),e _ _ h2 (λ_ z=>nomatch z),h3,h4⟩
theorem Mv.wide (m:Mv [t,r] H H'):Mv [t,r,d] H H':=λb o e n=>m b o e λz=>n (by
 simp only[Iy,IW,KS] at z ⊢;rcases z with z|z
 ·exact .inl z
 ·exact .inr (.inl z))
theorem y_ (i j:Int):(if j<i then j else i)=min i j:=by
 by_cases h:j<i
 ·rw[Jh h];omega
 ·rw[IY h];omega
end TR
namespace TR
open PySem PySem.Spec PyProof.Rows L2
def un:Nat->Kn
 |0=>(1,0,0)
 |1=>(0,1,0)
 |_=>(0,0,1)
def ay (s t:Kn):Kn:=(s.1+t.1,s.2.1+t.2.1,s.2.2+t.2.2)
def bJ (x y z:Int):Nat->Int
 |0=>x
 |1=>y
 |_=>z
abbrev Pc:=Kn×Int
def pcD (p:Pc):IV:=.tuple [knD p.1,.int p.2]
def i' (g:Nat->Int)(whole:Int)(u v w:Nat):List Pc:=[((0,0,0),whole-g u),(un u,g u-g v),(ay (un u) (un v),g v-g w),(ay (ay (un u) (un v)) (un w),g w)]
def Au:List (Nat×Nat×Nat):=[(0,1,2),(0,2,1),(1,0,2),(1,2,0),(2,0,1),(2,1,0)]
theorem zM (h:o∈Au):o.1<3/\o.2.1<3/\o.2.2<3:=by
 simp only[Au,Iy,IW,KS] at h;rcases h with rfl|rfl|rfl|rfl|rfl|rfl<;>decide
theorem Ey (h:l.Perm (ups 3)):∃ o∈Au,l=[(o.1:Int),(o.2.1:Int),(o.2.2:Int)]:=by
 have h':l.Perm [0,1,2]:=h;rcases ksk_perm3 h' with e|e|e|e|e|e
 ·exact⟨(0,1,2),by decide,e⟩
 ·exact⟨(0,2,1),by decide,e⟩
 ·exact⟨(1,0,2),by decide,e⟩
 ·exact⟨(1,2,0),by decide,e⟩
 ·exact⟨(2,0,1),by decide,e⟩
 ·exact⟨(2,1,0),by decide,e⟩
theorem Ag {x y z:Int}{u:Nat}(h:u<3):atI [V.int x,V.int y,V.int z] (u:Int)=some (.int (bJ x y z u)):=by
 match u,h with
 |0,_=>rfl
 |1,_=>rfl
 |2,_=>rfl
theorem jY {x y z:Int}{u:Nat}(h:u<3):[x,y,z].getD (u:Int).toNat 0=bJ x y z u:=by
 match u,h with
 |0,_=>rfl
 |1,_=>rfl
 |2,_=>rfl
theorem BE {K:Ia}{a:Iv}{u:Nat}(h:FI K a [[1,0,0],[0,1,0],[0,0,1]])(hu:u<3):∃ (bs:List V) (b:Iv),KT K a bs/\atI bs (u:Int)=some (.ref b)/\KT K b (knV (un u)):=by
 obtain⟨bs,h1,h2⟩:=h;cases h2 with
 |cons k1 h2=>
  cases h2 with
  |cons k2 h2=>
   cases h2 with
   |cons k3 h2=>
    cases h2
    match u,hu with
    |0,_=>exact⟨_,_,h1,rfl,k1⟩
    |1,_=>exact⟨_,_,h1,rfl,k2⟩
    |2,_=>exact⟨_,_,h1,rfl,k3⟩
theorem B4 (s t:Kn):(Ma (·+·) [(s.1:Int),(s.2.1:Int),(s.2.2:Int)] [(t.1:Int),(t.2.1:Int),(t.2.2:Int)]).map V.int=knV (ay s t):=by
 simp only[Mt,MN,IF,K1,knV,ay,Int.natCast_add]
theorem qB:∀ ps:List Pc,jN (ps.map pcD)=true
 |[]=>rfl
 |p::ps=>by
  rw[IF,jN,qB ps];rfl
theorem CF {K:Ia}{H:Hp}{p:Pc}{v:V}(h:IsD K H (pcD p) v):∃ a c,v=.ref a/\H a=some (.tup [.ref c,.int p.2])/\H c=some (.tup (knV p.1)):=by
 cases h with
 |tup h q=>
  cases q with
  |cons q1 q=>
   cases q with
   |cons q2 q=>
    cases q2;cases q;obtain⟨c,rfl,hc⟩:=qR q1;exact⟨_,c,rfl,h,hc⟩
def fac (g:Nat->Int)(whole:Int)(k b:Nat):Int:=if b=1 then g k else whole-g k
def eC (g:Nat->Int)(whole:Int)(t:Kn):Nat->Int
 |0=>1
 |1=>1*fac g whole 0 t.1
 |2=>1*fac g whole 0 t.1*fac g whole 1 t.2.1
 |_=>1*fac g whole 0 t.1*fac g whole 1 t.2.1*fac g whole 2 t.2.2
def cU (g:Nat->Int)(whole:Int):List Pc:=(cw 2).map λt=>(t,eC g whole t 3)
theorem CG {x y z whole:Int}{b:Nat}(hx:Sm b x)(hy:Sm b y)(hz:Sm b z)(hw:Sm b whole)(k c:Nat):Sm (b+1) (fac (bJ x y z) whole k c):=by
 have hg:Sm b (bJ x y z k):=by
  match k with
  |0=>exact hx
  |1=>exact hy
  |_+2=>exact hz
 unfold fac
 split
 ·exact hg.mono (by omega)
 ·exact hw.sub hg
theorem wg {whole:Int}{b:Nat}(h:∀ k c,Sm (b+1) (fac g whole k c))(t:Kn):∀ j,Sm (1+3*(b+1)) (eC g whole t j)
 |0=>Sm.mono (k:=1) (show Sm 1 (1:Int) by unfold Sm;decide) (by omega)
 |1=>((show Sm 1 (1:Int) by unfold Sm;decide).mul (h _ _)).mono (by omega)
 |2=>(((show Sm 1 (1:Int) by unfold Sm;decide).mul (h _ _)).mul (h _ _)).mono (by omega)
 |_+3=>((((show Sm 1 (1:Int) by unfold Sm;decide).mul (h _ _)).mul (h _ _)).mul (h _ _)).mono (by omega)
def FQ (f:Kn->R3)(base:Kn)(h:R3->Int)(ps:List Pc):Int:=(Ma (·*·) (ps.map λp=>h (f (ay base p.1))) (ps.map (·.2))).sum
def Ap (f:Kn->R3)(base:Kn)(h:R3->Int)(ps:List Pc):Rat:=((FQ f base h ps:Int):Rat)/(((ps.map (·.2)).sum:Int):Rat)
def Ei (f:Kn->R3)(base:Kn)(ps:List Pc):Q3:=⟨Ap f base R3.a ps,Ap f base R3.b ps,Ap f base R3.c ps⟩
theorem HH {i:Nat}(h:(Ei f base ps).ds[i]?=some d):∃ g:R3->Int,d=rD (Ap f base g ps)/\i<3/\∀ r:R3,r.vs[i]?=some (.int (g r)):=by
 rcases at3 h with ⟨rfl,rfl⟩|⟨rfl,rfl⟩|⟨rfl,rfl⟩
 ·exact⟨R3.a,rfl,by decide,λr=>rfl⟩
 ·exact⟨R3.b,rfl,by decide,λr=>rfl⟩
 ·exact⟨R3.c,rfl,by decide,λr=>rfl⟩
def apN (n:Nat):Int:=60/((n:Int)-1)
theorem tL {n:Nat}(h2:2<=n)(h7:n<=7):0<apN n/\apN n*((n:Int)-1)=60/\apN n<=60:=by
 match n,h2,h7 with
 |2,_,_=>decide
 |3,_,_=>decide
 |4,_,_=>decide
 |5,_,_=>decide
 |6,_,_=>decide
 |7,_,_=>decide
def stp (n:Nat)(x:Rat):Rat:=((x.num:Int):Rat)/(((x.den:Int)*apN n:Int):Rat)
def flo (s:Rat):Int:=s.num.fdiv (s.den:Int)
def lea (n:Nat)(x:Rat):Nat:=(min (flo (stp n x)) ((n:Int)-2)).toNat
def rst (n:Nat)(x:Rat):Rat:=stp n x-((lea n x:Int):Rat)
theorem EI {n:Nat}(h2:2<=n)(h7:n<=7):((apN n:Int):Rat)≠0:=by
 intro z;have:apN n=0:=by exact_mod_cast z
 have:=(tL h2 h7).1;omega
theorem EY {n:Nat}(h2:2<=n)(h7:n<=7)(x:Rat):stp n x=x/((apN n:Int):Rat):=by
 have h1:=jS x;have h2:=EI h2 h7;have e:=iW x;unfold stp;rw[IP];generalize ((x.num:Int):Rat)=a at *;generalize ((x.den:Int):Rat)=b at *;generalize ((apN n:Int):Rat)=c at *;grind
theorem Cv (s:Rat):flo s=s.floor:=by
 unfold flo;rw[JF _ (by have:=s.den_pos;omega),Rat.floor_def]
structure Dv (n:Nat)(x:Rat):Prop where
 n2:2<=n
 n7:n<=7
 lo:0<=x
 hi:x<=((60:Int):Rat)
section
variable {n:Nat}{x:Rat}(h:Dv n x)
include h
theorem E1:0<=stp n x:=by
 rw[EY h.n2 h.n7];have hp:(0:Rat)<((apN n:Int):Rat):=by exact_mod_cast (tL h.n2 h.n7).1
 refine LL (c:=((apN n:Int):Rat)) ?_ hp;rw[Nw (EI h.n2 h.n7),Rat.zero_mul];exact h.lo
theorem Ew:0<=flo (stp n x):=by
 rw[Cv];exact Rat.le_floor_iff.mpr (by simpa using E1 h)
theorem u4:((lea n x:Nat):Int)=min (flo (stp n x)) ((n:Int)-2):=by
 unfold lea;have h1:=Ew h;have h2:=h.n2;omega
theorem g_:lea n x+2<=n:=by
 have h1:=u4 h;have h2:=h.n2;omega
end
def gM (x y z:Rat):Nat->Rat
 |0=>x
 |1=>y
 |_=>z
def pT (h:Kn->Rat)(p:Nat->Rat)(u v w:Nat):Rat:=h (0,0,0)*(1-p u)+h (un u)*(p u-p v)+h (ay (un u) (un v))*(p v-p w)+h (ay (ay (un u) (un v)) (un w))*p w
def we (h:Kn->Rat)(x y z:Rat):Rat:=h (0,0,0)*((1-x)*(1-y)*(1-z))+h (0,0,1)*((1-x)*(1-y)*z)+h (0,1,0)*((1-x)*y*(1-z))+h (0,1,1)*((1-x)*y*z) +
 h (1,0,0)*(x*(1-y)*(1-z))+h (1,0,1)*(x*(1-y)*z)+h (1,1,0)*(x*y*(1-z))+h (1,1,1)*(x*y*z)
def Ef (p:Nat->Rat)(o:Nat×Nat×Nat):Prop:=o∈Au/\p o.2.1<=p o.1/\p o.2.2<=p o.2.1
def zj (x y z:Rat):Nat×Nat×Nat:=if y<=x then(if z<=y then(0,1,2) else if z<=x then(0,2,1) else(2,0,1)) else(if z<=x then(1,0,2) else if z<=y then(1,2,0) else(2,1,0))
theorem xF (x y z:Rat):Ef (gM x y z) (zj x y z):=by
 unfold zj
 split
 ·rename_i h1
  split
  ·rename_i h2
   exact⟨by decide,h1,h2⟩
  ·rename_i h2
   split
   ·rename_i h3
    exact⟨by decide,h3,by show y<=z;grind⟩
   ·rename_i h3
    exact⟨by decide,by show x<=z;grind,h1⟩
 ·rename_i h1
  split
  ·rename_i h2
   exact⟨by decide,by show x<=y;grind,h2⟩
  ·rename_i h2
   split
   ·rename_i h3
    exact⟨by decide,h3,by show x<=z;grind⟩
   ·rename_i h3
    exact⟨by decide,by show y<=z;grind,by show x<=y;grind⟩
theorem yk {x y z:Rat}(a:Ef (gM x y z) o)(b:Ef (gM x y z) o'):pT h (gM x y z) o.1 o.2.1 o.2.2=pT h (gM x y z) o'.1 o'.2.1 o'.2.2:=by
 obtain⟨m,a1,a2⟩:=a;obtain⟨m',b1,b2⟩:=b;simp only[Au,Iy,IW,KS] at m m';rcases m with rfl|rfl|rfl|rfl|rfl|rfl<;>rcases m' with rfl|rfl|rfl|rfl|rfl|rfl <;>
  first|rfl|(simp only[gM,pT,un,ay,Qs,KL] at *;generalize h (0,0,0)=h0 at *;generalize h (1,0,0)=h1 at *;generalize h (0,1,0)=h2 at *;generalize h (0,0,1)=h3 at *;generalize h (1,1,0)=h4 at *;generalize h (1,0,1)=h5 at *;generalize h (0,1,1)=h6 at *;generalize h (1,1,1)=h7 at *;first|(have e:x=y:=(by grind);subst e;first|grind|(have e:x=z:=(by grind);subst e;grind))|(have e:y=z:=(by grind);subst e;grind)|(have e:x=z:=(by grind);subst e;grind))
theorem A0 {f:Kn->R3}{base:Kn}{g:R3->Int}{x y z B:Int}{X Y Z:Rat}{u v w:Nat} (hB:(B:Rat) ≠ 0) (hx:(x:Rat)=X * (B:Rat)) (hy:(y:Rat)=Y * (B:Rat)) (hz:(z:Rat)=Z * (B:Rat)) :
  Ap f base g (i' (bJ x y z) B u v w)=pT (λt=>((g (f (ay base t)):Int):Rat)) (gM X Y Z) u v w:=by
 have hp:∀ k,((bJ x y z k:Int):Rat)=gM X Y Z k*(B:Rat):=λk=>by
  match k with
  |0=>exact hx
  |1=>exact hy
  |_+2=>exact hz
 have hu:=hp u;have hv:=hp v;have hw:=hp w;unfold Ap FQ i' pT;simp only[IF,K1,Mt,MN,M1,OJ,Ni,IP,Jg];rw[hu,hv,hw];have e0:((0:Int):Rat)=0:=rfl;rw[e0];generalize ((g (f (ay base (0,0,0))):Int):Rat)=a0;generalize ((g (f (ay base (un u))):Int):Rat)=a1;generalize ((g (f (ay base (ay (un u) (un v)))):Int):Rat)=a2;generalize ((g (f (ay base (ay (ay (un u) (un v)) (un w)))):Int):Rat)=a3;generalize gM X Y Z u=p;generalize gM X Y Z v=q;generalize gM X Y Z w=r;generalize (B:Rat)=b at *;grind
theorem vw:cw 2=[(0,0,0),(0,0,1),(0,1,0),(0,1,1),(1,0,0),(1,0,1),(1,1,0),(1,1,1)]:=by decide
theorem p9 {B:Int}{u v w:Nat}:((i' g B u v w).map (·.2)).sum=B:=by
 unfold i';simp only[IF,K1,M1,OJ];omega
theorem mT {x y z B:Int}:((cU (bJ x y z) B).map (·.2)).sum=B*B*B:=by
 unfold cU;rw[vw];have n01:¬ (0:Nat)=1:=by decide
 simp only[IF,K1,M1,OJ,eC,fac,IY n01,LC,bJ];grind
theorem yj {f:Kn->R3}{base:Kn}{g:R3->Int}{x y z B:Int}{X Y Z:Rat} (hB:(B:Rat) ≠ 0) (hx:(x:Rat)=X * (B:Rat)) (hy:(y:Rat)=Y * (B:Rat)) (hz:(z:Rat)=Z * (B:Rat)) :
  Ap f base g (cU (bJ x y z) B)=we (λt=>((g (f (ay base t)):Int):Rat)) X Y Z:=by
 have hN:((FQ f base g (cU (bJ x y z) B):Int):Rat)=we (λt=>((g (f (ay base t)):Int):Rat)) X Y Z*((B:Rat)*(B:Rat)*(B:Rat)):=by
  unfold FQ cU we;rw[vw];have n01:¬ (0:Nat)=1:=by decide
  simp only[IF,K1,Mt,MN,M1,OJ,eC,fac,IY n01,LC,bJ,Ni,IP,Jg];rw[hx,hy,hz];have e0:((0:Int):Rat)=0:=rfl;have e1:((1:Int):Rat)=1:=rfl;rw[e0,e1];clear hx hy hz hB;generalize ((g (f (ay base (0,0,0))):Int):Rat)=a0;generalize ((g (f (ay base (0,0,1))):Int):Rat)=a1;generalize ((g (f (ay base (0,1,0))):Int):Rat)=a2;generalize ((g (f (ay base (0,1,1))):Int):Rat)=a3;generalize ((g (f (ay base (1,0,0))):Int):Rat)=a4;generalize ((g (f (ay base (1,0,1))):Int):Rat)=a5;generalize ((g (f (ay base (1,1,0))):Int):Rat)=a6;generalize ((g (f (ay base (1,1,1))):Int):Rat)=a7;generalize (B:Rat)=b;grind
 unfold Ap;rw[hN,mT,IP,IP];refine Rat.mul_div_cancel λz=>?_
 generalize (B:Rat)=b at *;grind
def bas (n:Nat)(c:Q3):Kn:=(lea n c.a,lea n c.b,lea n c.c)
def fK (n:Nat)(f:Kn->R3)(c:Q3)(g:R3->Int)(t:Kn):Rat:=((g (f (ay (bas n c) t)):Int):Rat)
def bf (n:Nat)(c:Q3):Nat->Rat:=gM (rst n c.a) (rst n c.b) (rst n c.c)
def zx (n:Nat)(f:Kn->R3)(c:Q3)(g:R3->Int):Rat:=pT (fK n f c g) (bf n c) (zj (rst n c.a) (rst n c.b) (rst n c.c)).1 (zj (rst n c.a) (rst n c.b) (rst n c.c)).2.1 (zj (rst n c.a) (rst n c.b) (rst n c.c)).2.2
def zR (n:Nat)(f:Kn->R3)(c:Q3)(g:R3->Int):Rat:=we (fK n f c g) (rst n c.a) (rst n c.b) (rst n c.c)
def W4 (n:Nat)(f:Kn->R3)(c:Q3):Q3:=⟨zx n f c R3.a,zx n f c R3.b,zx n f c R3.c⟩
def W8 (n:Nat)(f:Kn->R3)(c:Q3):Q3:=⟨zR n f c R3.a,zR n f c R3.b,zR n f c R3.c⟩
theorem wk {n:Nat}(h:Ef (bf n c) o):pT (fK n f c g) (bf n c) o.1 o.2.1 o.2.2=zx n f c g:=yk h (xF _ _ _)
theorem Ah {m:Nat}:∀ {l:List Int},(∀ x∈l,Sm m x)->Sm (m+l.length) l.sum
 |[],_=>Sm.mono (k:=0) (show Sm 0 (0:Int) by unfold Sm;decide) (Jj _)
 |x::l,h=>by
  rw[M1,Jo];exact(Sm.add ((h x IJ).mono (Lj m l.length)) (Ah λy hy=>h y (Iq _ hy))).mono (by omega)
theorem pX {r:R3}(h:r.Wt):Sm 10 r.a/\Sm 10 r.b/\Sm 10 r.c:=by
 obtain⟨a0,a1,b0,b1,c0,c1⟩:=h;refine⟨?_,?_,?_⟩<;>(unfold Sm;omega)
theorem B9 {n:Nat}{m:Nat}(hw:∀ p∈ps,Sm 10 (g (f (ay base p.1))))(hp:∀ p∈ps,Sm m p.2)(h0:(ps.map (·.2)).sum≠0):Bq (10+m+ps.length) (Ap f base g ps):=by
 refine l0 h0 ?_ ?_
 ·have h1:∀ x∈Ma (·*·) (ps.map λp=>g (f (ay base p.1))) (ps.map (·.2)),Sm (10+m) x:=λx hx=>by
   rw[List.zipWith_map_left,List.zipWith_map_right,List.zipWith_self] at hx;obtain⟨p,hp',rfl⟩:=Js.mp hx;exact(hw p hp').mul (hp p hp')
  have:=Ah h1;rw[List.length_zipWith,Ij,Ij,Nat.min_self] at this;exact this
 ·have h1:∀ x∈ps.map (·.2),Sm m x:=λx hx=>by
   obtain⟨p,hp',rfl⟩:=Js.mp hx;exact hp p hp'
  have:=Ah h1;rw[Ij] at this;exact this.mono (by omega)
theorem B1 {t b:Int}(hb:0<b):flo ((t:Rat)/(b:Rat))=t.fdiv b:=by
 rw[Cv,JF _ (by omega)];have hp:(0:Rat)<(b:Rat):=by exact_mod_cast hb
 have hn:(b:Rat)≠0:=Cm (by omega);have key:∀ z:Int,z<=((t:Rat)/(b:Rat)).floor↔z<=t/b:=λz=>by
  rw[Rat.le_floor_iff,Int.le_ediv_iff_mul_le hb];constructor
  ·intro h;have h':=Rat.mul_le_mul_of_nonneg_right h (Qx hp);rw[Nw hn,<- IP] at h'
   exact_mod_cast h'
  ·intro h;refine LL (c:=(b:Rat)) ?_ hp;rw[Nw hn,<- IP]
   exact_mod_cast h
 exact Int.le_antisymm ((key _).mp (Pq _)) ((key _).mpr (Pq _))
def Q3.lst (q:Q3):IV:=.list q.ds
def BG (n:Nat)(c:Q3):Q3:=⟨rst n c.a,rst n c.b,rst n c.c⟩
def F8 (n:Nat)(c:Q3):IV:=.list [.int ((lea n c.a:Nat):Int),.int ((lea n c.b:Nat):Int),.int ((lea n c.c:Nat):Int)]
theorem Co {n k:Nat}{y:Rat}(h2:2<=n)(h7:n<=7)(h:Bq k y):Bq (k+6) (stp n y):=by
 obtain⟨ap0,ap1,ap2⟩:=tL h2 h7;exact l0 (Jf h.ne (by omega)) (h.sn.mono (by omega)) (h.sd.mul (show Sm 6 (apN n) by unfold Sm;omega))
theorem zK {n k:Nat}{y:Rat}(dv:Dv n y)(h:Bq k y):Bq (k+10) (rst n y):=by
 have h1:=Co dv.n2 dv.n7 h;have h2:Bq 3 (((lea n y:Nat):Int):Rat):=lB (by have:=g_ dv;have:=dv.n7;unfold Sm;omega) (by decide);exact Ok.mono (Bq.sub h1 h2) (by omega)
theorem HX {i:Nat}(hi:i<3):∃ g:R3->Int,(∀ r:R3,r.vs[i]?=some (.int (g r)))/\(∀ r:R3,r.Wt->Sm 10 (g r))/\∀ {α:Type} (F:(R3->Int)->α),[F R3.a,F R3.b,F R3.c][i]?=some (F g):=by
 match i,hi with
 |0,_=>exact⟨R3.a,λ_=>rfl,λ_ h=>(pX h).1,λ_=>rfl⟩
 |1,_=>exact⟨R3.b,λ_=>rfl,λ_ h=>(pX h).2.1,λ_=>rfl⟩
 |2,_=>exact⟨R3.c,λ_=>rfl,λ_ h=>(pX h).2.2,λ_=>rfl⟩
theorem vv (s:aj H0 H)(h:H0 F=none):aj H0 (upd H F o):=λb o' e=>by
 rw[ao (λz=>by rw[z,h] at e;cases e)];exact s _ _ e
theorem D6 {K:Ia}{H:Hp}{d1 d2:IV}{xs:List V}(h:aD K H [d1,d2] xs):∃ x y,xs=[x,y]/\IsD K H d1 x/\IsD K H d2 y:=by
 cases h with
 |cons h1 h=>
  cases h with
  |cons h2 h=>
   cases h;exact⟨_,_,rfl,h1,h2⟩
theorem Ay {K:Ia}{H:Hp}{n:Nat}{c:Q3}{w:V}(h:IsD K H (.tuple [F8 n c,(BG n c).lst]) w):∃ T B R y0 y1 y2,w=.ref T/\H T=some (.tup [.ref B,.ref R])/\SqB K H B [.int ((lea n c.a:Nat):Int),.int ((lea n c.b:Nat):Int),.int ((lea n c.c:Nat):Int)] true/\SqB K H R [y0,y1,y2] true/\IsD K H (rD (rst n c.a)) y0/\IsD K H (rD (rst n c.b)) y1/\IsD K H (rD (rst n c.c)) y2/\IsD K H (F8 n c) (.ref B):=by
 cases h with
 |tup h q=>
  cases q with
  |cons q1 q=>
   cases q with
   |cons q2 q=>
    cases q;obtain⟨B,xs,rfl,hB,hx⟩:=aH (b:=true) (ds:=[.int ((lea n c.a:Nat):Int),.int ((lea n c.b:Nat):Int),.int ((lea n c.c:Nat):Int)]) q1;have e:xs=_:=cN (ns:=[((lea n c.a:Nat):Int),((lea n c.b:Nat):Int),((lea n c.c:Nat):Int)]) hx;subst e;obtain⟨R,ys,rfl,hR,hy⟩:=aH (b:=true) (ds:=(BG n c).ds) q2;obtain⟨y0,y1,y2,rfl,g0,g1,g2⟩:=ff hy;exact⟨_,B,R,y0,y1,y2,rfl,h,hB,hR,g0,g1,g2,q1⟩
def fN (p:Nat->Rat)(r:Nat)(l:List Nat):List Nat:=l.filter λo=>!decide (p o<p r)
def wq (p:Nat->Rat)(l:List Nat)(r:Nat):List Nat:=l.take (fN p r l).length++r::l.drop (fN p r l).length
def k9 (p:Nat->Rat):Nat->List Nat
 |0=>[]
 |i+1=>wq p (k9 p i) i
def ju (l:List Nat):List V:=l.map λ(k:Nat)=>V.int (k:Int)
theorem AS {r x:Nat}:x∈wq p l r↔x∈l\/x=r:=by
 unfold wq;generalize (fN p r l).length=m;rw[Jb,Iy];have h:x∈l↔x∈l.take m\/x∈l.drop m:=by rw[<- Jb,List.take_append_drop]
 rw[h];constructor
 ·rintro(a|b|c)
  ·exact .inl (.inl a)
  ·exact .inr b
  ·exact .inl (.inr c)
 ·rintro((a|c)|b)
  ·exact .inl a
  ·exact .inr (.inr c)
  ·exact .inr (.inl b)
theorem zN:∀ {i x:Nat},x∈k9 p i->x<i
 |0,_,h=>nomatch h
 |i+1,x,h=>by
  rcases AS.mp h with h|h
  ·have:=zN h;omega
  ·omega
theorem nW {r:Nat}:(fN p r l).length<=l.length:=List.length_filter_le _ _
theorem vC:∀ {i:Nat},(k9 p i).length=i
 |0=>rfl
 |i+1=>by
  show(wq p (k9 p i) i).length=i+1;unfold wq;have:=nW (p:=p) (r:=i) (l:=k9 p i);have e:=vC (p:=p) (i:=i);rw[IL,IZ,Jo,KW];omega
theorem zm (p:Nat->Rat):∃ o,Ef p o/\k9 p 3=[o.1,o.2.1,o.2.2]:=by
 have e2:k9 p 2=if p 0<p 1 then[1,0] else[0,1]:=by
  by_cases h:p 0<p 1
  ·simp[k9,wq,fN,h]
  ·simp[k9,wq,fN,h]
 have e3:k9 p 3=wq p (k9 p 2) 2:=rfl;rw[e3,e2]
 by_cases h01:p 0<p 1<;>by_cases h02:p 0<p 2<;>by_cases h12:p 1<p 2
 ·exact⟨(2,1,0),⟨by decide,by show p 1<=p 2;grind,by show p 0<=p 1;grind⟩,by simp[wq,fN,h01,h02,h12]⟩
 ·exact⟨(1,2,0),⟨by decide,by show p 2<=p 1;grind,by show p 0<=p 2;grind⟩,by simp[wq,fN,h01,h02,h12]⟩
 ·exact absurd h02 (by grind)
 ·exact⟨(1,0,2),⟨by decide,by show p 0<=p 1;grind,by show p 2<=p 0;grind⟩,by simp[wq,fN,h01,h02,h12]⟩
 ·exact⟨(2,0,1),⟨by decide,by show p 0<=p 2;grind,by show p 1<=p 0;grind⟩,by simp[wq,fN,h01,h02,h12]⟩
 ·exact absurd h02 (by grind)
 ·exact⟨(0,2,1),⟨by decide,by show p 2<=p 0;grind,by show p 1<=p 2;grind⟩,by simp[wq,fN,h01,h02,h12]⟩
 ·exact⟨(0,1,2),⟨by decide,by show p 1<=p 0;grind,by show p 2<=p 1;grind⟩,by simp[wq,fN,h01,h02,h12]⟩
def way (o:Nat×Nat×Nat):Nat->Nat
 |0=>o.1
 |1=>o.2.1
 |_=>o.2.2
def pth (o:Nat×Nat×Nat):Nat->Kn
 |0=>(0,0,0)
 |i+1=>ay (pth o i) (un (way o i))
theorem EK {i:Nat}(h:o∈Au)(hi:i<=3):(pth o i).1<=1/\(pth o i).2.1<=1/\(pth o i).2.2<=1:=by
 simp only[Au,Iy,IW,KS] at h
 match i,hi with
 |0,_=>rcases h with rfl|rfl|rfl|rfl|rfl|rfl<;>decide
 |1,_=>rcases h with rfl|rfl|rfl|rfl|rfl|rfl<;>decide
 |2,_=>rcases h with rfl|rfl|rfl|rfl|rfl|rfl<;>decide
 |3,_=>rcases h with rfl|rfl|rfl|rfl|rfl|rfl<;>decide
theorem CQ {i:Nat}(h:o∈Au):way o i<3:=by
 obtain⟨a,b,c⟩:=zM h
 match i with
 |0=>exact a
 |1=>exact b
 |_+2=>exact c
def ua (h:Kn->Rat)(p:Nat->Rat)(o:Nat×Nat×Nat):Nat->Rat
 |0=>h (0,0,0)
 |i+1=>ua h p o i+p (way o i)*(h (pth o (i+1))-h (pth o i))
theorem kn0 (t:Kn):ay (0,0,0) t=t:=by
 simp only[ay,KL]
theorem Bl (r s t:Kn):ay (ay r s) t=ay r (ay s t):=by
 simp only[ay,Nat.add_assoc]
theorem Bw (h:Kn->Rat)(p:Nat->Rat)(o:Nat×Nat×Nat):ua h p o 3=pT h p o.1 o.2.1 o.2.2:=by
 simp only[ua,pth,way,kn0,pT];generalize h (0,0,0)=h0;generalize h (un o.1)=h1;generalize h (ay (un o.1) (un o.2.1))=h2;generalize h (ay (ay (un o.1) (un o.2.1)) (un o.2.2))=h3;grind
theorem E2 {r:Nat}(hr:r<3):∃ m:Int,(knV t)[r]?=some (.int m)/\(knV t).set r (.int (m+1))=knV (ay t (un r)):=by
 match r,hr with
 |0,_=>exact⟨_,rfl,by simp[knV,ay,un]⟩
 |1,_=>exact⟨_,rfl,by simp[knV,ay,un]⟩
 |2,_=>exact⟨_,rfl,by simp[knV,ay,un]⟩
theorem DM {K:Ia}{H:Hp}{n k r:Nat}{c:Q3}{y0 y1 y2:V}(h0:IsD K H (rD (rst n c.a)) y0)(h1:IsD K H (rD (rst n c.b)) y1)(h2:IsD K H (rD (rst n c.c)) y2)(b0:Bq k (rst n c.a))(b1:Bq k (rst n c.b))(b2:Bq k (rst n c.c))(hr:r<3):∃ y,[y0,y1,y2][r]?=some y/\IsD K H (rD (bf n c r)) y/\Bq k (bf n c r):=by
 match r,hr with
 |0,_=>exact⟨_,rfl,h0,b0⟩
 |1,_=>exact⟨_,rfl,h1,b1⟩
 |2,_=>exact⟨_,rfl,h2,b2⟩
theorem Ep (l:List Nat)(k r:Nat):(ju l).take k++V.int (r:Int)::(ju l).drop k=ju (l.take k++r::l.drop k):=by
 simp only[ju,JM,List.map_take,IF,List.map_drop]
theorem De {n k:Nat}(h:k<n):ixN n (k:Int)=some k:=by
 unfold ixN;simp[h]
theorem vP {K:Ia}{H:Hp}(r:R3):aD K H r.ds r.vs:=.cons (.int _) (.cons (.int _) (.cons (.int _) .nil))
theorem EJ {K:Ia}{H:Hp}:∀ {ds:List IV}{xs:List V}{i:Nat}{d:IV},aD K H ds xs->ds[i]?=some d->∃ x,xs[i]?=some x/\IsD K H d x
 |_,_,_,_,.nil,e=>by simp at e
 |_,_,0,_,.cons h _,e=>by simp at e;subst e;exact⟨_,rfl,h⟩
 |_,_,i+1,x,.cons _ q,e=>by
  obtain⟨x,a,b⟩:=EJ (i:=i) q (by simpa using e);exact⟨x,by simpa using a,b⟩
theorem G_ (h:u.1<=1/\u.2.1<=1/\u.2.2<=1):u∈cw 2:=dW.mpr (by omega)
def GQ (o:Nat×Nat×Nat)(k:Nat):Nat:=if o.1=k then 0 else if o.2.1=k then 1 else 2
theorem c_.put (h:c_ H t r)(n:F∉[t,r]):c_ (upd H F o) t r:=h.off λb m o' e=>by
 rw[ao (show b≠F from λz=>n (z▸m))];exact e
def Gu (t:Kn):Nat->Nat
 |0=>t.1
 |1=>t.2.1
 |_=>t.2.2
def tR (o:Nat×Nat×Nat)(t:Kn):Kn:=(Gu t o.1,Gu t o.2.1,Gu t o.2.2)
def Hn (o:Nat×Nat×Nat):Nat×Nat×Nat:=(GQ o 0,GQ o 1,GQ o 2)
def fT (o:Nat×Nat×Nat)(f:Kn->R3)(t:Kn):R3:=f (tR (Hn o) t)
theorem Fe {K:Ia}{H:Hp}{c:Q3}{xs:List V}(h:aD K H c.ds xs){k:Nat}(hk:k<3):∃ v,xs[k]?=some v/\IsD K H (rD (gM c.a c.b c.c k)) v:=by
 obtain⟨x,y,z,rfl,h0,h1,h2⟩:=ff h
 match k,hk with
 |0,_=>exact⟨x,rfl,h0⟩
 |1,_=>exact⟨y,rfl,h1⟩
 |2,_=>exact⟨z,rfl,h2⟩
theorem sup {M:V->Hp->Prop}{I:V->Hp->Prop}{G:Prop}(lv:∀ v H,I v H->M v H)(main:(∀ v H,I v H->M v H)->G):G:=main lv
structure Rw where
 w:Int
 x:Int
 y:Int
 z:Int
def Rw.ns (r:Rw):List Int:=[r.w,r.x,r.y,r.z]
def Rw.d (r:Rw):IV:=.tuple (r.ns.map KM)
structure Rw.In (r:Rw)(m:Int):Prop where
 w0:-m<=r.w
 w1:r.w<=m
 x0:-m<=r.x
 x1:r.x<=m
 y0:-m<=r.y
 y1:r.y<=m
 z0:-m<=r.z
 z1:r.z<=m
def hld (i:Int):Int:=min (max i 0) 1000
def Rw.at (r:Rw)(t:Kn):Int:=hld (r.w+(r.x*(t.1:Int)+(r.y*(t.2.1:Int)+r.z*(t.2.2:Int))))
def smp (r1 r2 r3:Rw)(t:Kn):R3:=⟨r1.at t,r2.at t,r3.at t⟩
def R3.sub (r s:R3):R3:=⟨r.a-s.a,r.b-s.b,r.c-s.c⟩
theorem tw3 {l m a b c:Int}(ha:l<=a/\a<=m)(hb:l<=b/\b<=m)(hc:l<=c/\c<=m):twB 3 l m (.tuple [.int a,.int b,.int c])=true:=by
 show((decide (l<=a)&&decide (a<=m))&&((decide (l<=b)&&decide (b<=m))&&((decide (l<=c)&&decide (c<=m))&&true)))=true;rw[Ir ha.1,Ir ha.2,Ir hb.1,Ir hb.2,Ir hc.1,Ir hc.2];rfl
open PySem.W PySem.Calls
def G6 (t u:Kn):Prop:=¬ (t.1<u.1\/(t.1=u.1/\(t.2.1<u.2.1\/(t.2.1=u.2.1/\t.2.2<u.2.2))))
theorem yV {q:Q3}{j k:Nat}(h:q.Bd j)(hk:k<3):Bq j (gM q.a q.b q.c k):=by
 match k,hk with
 |0,_=>exact h.a
 |1,_=>exact h.b
 |2,_=>exact h.c
instance {t u:Kn}:Decidable (G6 t u):=by unfold G6;infer_instance
def Rw.co (r:Rw):Nat->Int
 |0=>r.x
 |1=>r.y
 |_=>r.z
def gS (H H':Hp):Prop:=∀ b o,H b=some o->(∀ C dx fs,o≠.ins C dx fs)->H' b=some o
theorem gS.put (ha:H a=some (.ins C dx fs)):gS H (upd H a o):=λb u e n=>by
 rw[ao (λz=>by rw[z,ha] at e;cases e;exact n _ _ _ rfl)];exact e
theorem Rd.sameI (e:gS H H')(h:Rd H a (.lst xs)):Rd H' a (.lst xs):=by
 rcases h with h|⟨o,h⟩
 ·exact .inl (e _ _ h λ_ _ _ z=>nomatch z)
 ·exact .inr ⟨o,e _ _ h λ_ _ _ z=>nomatch z⟩
mutual
theorem IsD.sameI {K:Ia}{H H':Hp}(e:gS H H'):∀ {d:IV}{v:V},IsD K H d v->IsD K H' d v
 |_,_,.non=>.non
 |_,_,.bl b=>.bl b
 |_,_,.int i=>.int i
 |_,_,.str x=>.str x
 |_,_,.lst h q=>.lst (Rd.sameI e h) (aD.sameI e q)
 |_,_,.tup h q=>.tup (e _ _ h λ_ _ _ z=>nomatch z) (aD.sameI e q)
 |_,_,.dct h=>.dct (e _ _ h λ_ _ _ z=>nomatch z)
theorem aD.sameI {K:Ia}{H H':Hp}(e:gS H H'):∀ {ds:List IV}{vs:List V},aD K H ds vs->aD K H' ds vs
 |_,_,.nil=>.nil
 |_,_,.cons h q=>.cons (IsD.sameI e h) (aD.sameI e q)
end
def f_ (K:Ia)(H:Hp)(e:En)(v:V):Prop:=∃ (a C dx:Iv) (x y:V),v=.ref a/\eF K "Ends" C/\H a=some (.ins C dx [("white",x),("black",y)])/\IsD K H (gE false e.w) x/\IsD K H (gE false e.b) y
theorem f_.same {K:Ia}{H H':Hp}{e:En}{v:V}(h:f_ K H e v)(s:aj H H'):f_ K H' e v:=by
 obtain⟨a,C,dx,x,y,h1,h2,h3,h4,h5⟩:=h;exact⟨a,C,dx,x,y,h1,h2,s _ _ h3,IsD.same s h4,IsD.same s h5⟩
theorem f_.mv {K:Ia}{T:List Iv}{H H':Hp}{e:En}{v:V}(h:f_ K H e v)(m:Mv T H H')(l:cD H T):f_ K H' e v:=by
 obtain⟨a,C,dx,x,y,h1,h2,h3,h4,h5⟩:=h;exact⟨a,C,dx,x,y,h1,h2,m _ _ h3 (l.not h3 λ_ z=>nomatch z),IsD.mv m l rfl h4,IsD.mv m l rfl h5⟩
theorem f_.put {K:Ia}{H:Hp}{a C dx:Iv}{fs:List (Str×V)}{o:HO}{e:En}{v:V}(h:f_ K H e v)(ha:H a=some (.ins C dx fs))(hf:fs.map (·.1)≠[("white":Str),"black"]):f_ K (upd H a o) e v:=by
 obtain⟨b,D,dy,x,y,h1,h2,h3,h4,h5⟩:=h;refine⟨b,D,dy,x,y,h1,h2,?_,IsD.sameI (gS.put ha) h4,IsD.sameI (gS.put ha) h5⟩;rw[ao (λz=>by rw[z,ha] at h3;cases h3;exact hf rfl)];exact h3
theorem qW.put {K:Ia}{H:Hp}{a C dx:Iv}{fs:List (Str×V)}{o:HO}{n:Nat}{f:Kn->R3}{v:V}(h:qW K H n f v)(ha:H a=some (.ins C dx fs))(hf:fs.map (·.1)≠[("knots":Str),"table"]):qW K (upd H a o) n f v:=by
 obtain⟨b,D,dy,d,h1,h2,h3,ts,p,vs,h4,h5⟩:=h;refine⟨b,D,dy,d,h1,h2,?_,ts,p,vs,gS.put ha _ _ h4 (λ_ _ _ z=>nomatch z),aD.sameI (gS.put ha) h5⟩;rw[ao (λz=>by rw[z,ha] at h3;cases h3;exact hf rfl)];exact h3
structure C3 where
 p:List Pt
 q:List Pt
 r:List Pt
def C3.at (P:C3):Nat->List Pt
 |0=>P.p
 |1=>P.q
 |_=>P.r
def C3.In (P:C3)(cap:Int):Prop:=∀ i,i<3->Pts (P.at i)/\∃ y z,(P.at i)[0]?=some y/\(P.at i).getLast?=some z/\z.1=60/\z.2<=cap
theorem C3.In.mono {P:C3}{j k:Int}(h:P.In j)(l:j<=k):P.In k:=λi hi=>let ⟨a,y,z,b,c,d,e⟩:=h i hi;⟨a,y,z,b,c,d,Int.le_trans e l⟩
def kF (K:Ia)(H:Hp)(P:C3)(vs:List V):Prop:=vs.length=3/\∀ (i:Nat) (v:V),vs[i]?=some v->sk K H (P.at i) v
theorem kF.same {K:Ia}{H H':Hp}{P:C3}{vs:List V}(h:kF K H P vs)(s:aj H H'):kF K H' P vs:=⟨h.1,λi v e=>(h.2 i v e).same s⟩
theorem kF.put {K:Ia}{H:Hp}{a C dx:Iv}{fs:List (Str×V)}{o:HO}{P:C3}{vs:List V}(h:kF K H P vs)(ha:H a=some (.ins C dx fs))(hf:fs.map (·.1)≠[("points":Str)]):kF K (upd H a o) P vs:=⟨h.1,λi v e=>sk.put ha (λl z=>hf (by rw[z];rfl)) (h.2 i v e)⟩
def D8 (K:Ia)(H:Hp)(P:C3)(s:S9)(e:En)(v:V):Prop:=∃ (a C dx cl:Iv) (vs:List V) (q en:V),v=.ref a/\eF K "SquareProfile" C/\H a=some (.ins C dx [("curves",.ref cl),("square",q),("bounds",en)])/\H cl=some (.lst vs)/\kF K H P vs/\IsD K H s.d q/\f_ K H e en
def CW (K:Ia)(H:Hp)(P:C3)(f:Kn->R3)(e:En)(v:V):Prop:=∃ (a C dx cl:Iv) (vs:List V) (g en:V),v=.ref a/\eF K "GridProfile" C/\H a=some (.ins C dx [("curves",.ref cl),("grid",g),("bounds",en)])/\H cl=some (.lst vs)/\kF K H P vs/\qW K H 2 f g/\f_ K H e en
theorem D8.same {K:Ia}{H H':Hp}{P:C3}{q:S9}{e:En}{v:V}(h:D8 K H P q e v)(s:aj H H'):D8 K H' P q e v:=by
 obtain⟨a,C,dx,cl,vs,q,en,h1,h2,h3,h4,h5,h6,h7⟩:=h;exact⟨a,C,dx,cl,vs,q,en,h1,h2,s _ _ h3,s _ _ h4,h5.same s,IsD.same s h6,h7.same s⟩
theorem CW.same {K:Ia}{H H':Hp}{P:C3}{f:Kn->R3}{e:En}{v:V}(h:CW K H P f e v)(s:aj H H'):CW K H' P f e v:=by
 obtain⟨a,C,dx,cl,vs,q,en,h1,h2,h3,h4,h5,h6,h7⟩:=h;exact⟨a,C,dx,cl,vs,q,en,h1,h2,s _ _ h3,s _ _ h4,h5.same s,h6.same s,h7.same s⟩
theorem Mv.self:Mv T H (TR.cut T H):=λb o e n=>by rw[fh n];exact e
theorem cD.new (l:cD H T)(h:H b=none):b∉T:=λm=>by
 obtain⟨xs,e⟩:=l b m;rw[h] at e;cases e
theorem cD.same (l:cD H T)(s:aj H H'):cD H' T:=λb m=>let ⟨xs,e⟩:=l b m;⟨xs,s _ _ e⟩
def yf (P:C3)(c r:Q3):Prop:=OnC P.p c.a r.a/\OnC P.q c.b r.b/\OnC P.r c.c r.c
section
variable {K:Ia}{g:TG}{tt:TT}{te:TE}{σ0:L2.St}{Fin:List V->Hp->Prop}{H1:Hp}
theorem yB (Pv:Nat->List V->Hp->Prop) (h0:Pv 0 [] H1) (hle:xs.length=ys.length) (hl:xs.length <= 1000) (hsrc:∀ i zs H,Pv i zs H->SqB K H a1 xs b1/\SqB K H a2 ys b2/\zs.length <= i)
  (he:∀ (i:Nat) (x y:V) (zs:List V) (T:Iv) (H:Hp),xs[i]?=some x->ys[i]?=some y->Pv i zs H->H T=none->nJ g tt te σ0 (.ref T) (upd H T (.tup [x,y])) λz H'=>Pv (i+1) (zs++[z]) H')
  (hd:∀ zs H,Pv xs.length zs H->Fin zs H):iA (Itz K b1 b2 a1 a2) g tt te σ0 Fin H1:=by
 refine⟨λi m zs H=>m=xs.length-i/\i<=xs.length/\Pv i zs H,⟨xs.length,by omega,Jj _,h0⟩,?_⟩;rintro i m zs H ⟨rfl,hi,pv⟩;obtain⟨q1,q2,hzl⟩:=hsrc i zs H pv
 by_cases hlt:i<xs.length
 ·have hlt2:i<ys.length:=by omega
  refine .inr ⟨⟨xs,ys,xs[i],ys[i],q1,q2,by simp[hlt],by simp[hlt2]⟩,bg (by omega),λv H3 y3=>?_⟩;obtain⟨x,y,T,k1,k2,kT,rfl,rfl⟩:=y3;exact he i x y zs T H (k1 xs q1) (k2 ys q2) pv kT _ (λz H' p=>⟨xs.length-(i+1),by omega,rfl,hlt,p⟩) λH5=>∃ m',m'<xs.length-i/\(m'=xs.length-(i+1)/\i+1<=xs.length/\Pv (i+1) zs H5)
 ·have e:i=xs.length:=by omega
  subst e;exact .inl ⟨⟨xs,ys,q1,q2,.inl (Il _)⟩,cI (by omega),hd zs H pv⟩
end
theorem GH (h:l.length=3):∃ a b c,l=[a,b,c]:=by
 match l,h with
 |[a,b,c],_=>exact⟨a,b,c,rfl⟩
theorem xJ {n:Nat}:∀ {vs:List V},vs.length=n->(∀ v∈vs,v=.bl true)->vs=(Iz n true).map V.bl:=λ{vs} h1 h2=>by
 rw[Nu];exact OF.mpr ⟨h1,h2⟩
theorem kM {j:Nat}(h:(l++[x])[j]?=some v):(j<l.length/\l[j]?=some v)\/(j=l.length/\v=x):=by
 by_cases hj:j<l.length
 ·rw[Kv hj] at h;exact .inl ⟨hj,h⟩
 ·rw[Kk (by omega)] at h;have h0:j-l.length<1:=by
   have:=(Iu.mp h).1
   simpa using this
  have e:j=l.length:=by omega
  subst e;rw[Nat.sub_self] at h;exact .inr ⟨rfl,(Ie h).symm⟩
theorem p_ {c:Q3}{m:Rat}(h:c.Wi m){k:Nat}(hk:k<3):0<=gM c.a c.b c.c k/\gM c.a c.b c.c k<=m:=by
 match k,hk with
 |0,_=>exact⟨h.a0,h.a1⟩
 |1,_=>exact⟨h.b0,h.b1⟩
 |2,_=>exact⟨h.c0,h.c1⟩
def Ej (K:Ia)(x:Str)(sp:Sp)(gV:List V->List V->List V)(E:XK)(t tk:TA):TE:=λσ H Q=>t σ H λvs H0=>tk σ H0 λzs H1=>∀ C a dx,eF K x C->H1 a=none->H1 dx=none->dx≠a ->
 sp (gV (.ref a::vs) zs) (upd (upd H1 dx (.own a)) a (.ins C dx [])) (λv H2=>v=.non/\Q (.ref a) H2) E
section
variable {X:Cx}{CX:CXT}{K:Ia}{k n j:Nat}{x:Str}{ps ks:List Str}{sp:Sp}{dvs:List V}{p pos:Pos}{t tk:TA}{e:KI}{es:List KI}{kws:List ND}
theorem yW (M:Mk X.K C f) (F:oC X.prog X.w X.K X.mg X.base CX k f fd ps sp) (hr:Room (k + 1) X.A)
  (hb:ng X.K fd ps ks g gV)(hx:∀ J:Hp,∀ s1:Im,Inv X pins σ J s1->∀ e s',CX X.stack J s1 E e s'->X.xe e s')(I:Inv X pins σ H s)(ru:bD vs us)(rz:bD zs ws)
  (h:∀ a dx,H a=none->H dx=none->dx≠a->sp (gV (.ref a::vs) zs) (upd (upd H dx (.own a)) a (.ins C dx [])) (λv H2=>v=.non/\Q (.ref a) H2) E):
  IB (IT X.prog X.w) X.A (call (.ref C) us (ks.zip ws)) (EP X pins σ Q) X.xe s:=by
 have hq:=h (s.heap.objs.size+1) s.heap.objs.size (I.hok.fresh (Nc _)) (I.hok.fresh (Il _)) (IK (JY _));have J:=Inv.made (C:=C) I;have rr:=hb.rel (show bD (V.ref (s.heap.objs.size+1)::vs) (IX (s.heap.objs.size+1)::us) from .cons rfl ru) rz;have hn:(g (IX (s.heap.objs.size+1)::us) ws).length=ps.length:=rr.length.symm.trans (F.len _ _ _ _ hq);refine M4 (qu (f:=f) I.kIn M.makes M.init (K0.mp M.fn) (Lf (F.run _ X.stack _ _ ⟨IX (s.heap.objs.size+1)::us,ks.zip ws⟩ (g (IX (s.heap.objs.size+1)::us) ws) _ _ E (hr.make C us (ks.zip ws))
  (J.env0.make C us (ks.zip ws)) (hb.to _ (IX (s.heap.objs.size+1)::us) ws J.kIn hn) rr hq) λz s' hz=>?_))
 match z,hz with
 |.error v,hz=>exact hx _ _ J v s' hz
 |.ok (.ret u),hz=>
  obtain⟨v,H',J3,rv,ev,q3⟩:=J.after hz;subst ev;exact⟨rv,⟨V.ref (s.heap.objs.size+1),H',J3,rfl,q3⟩⟩
theorem sM (hK:X.K=K) (hX:NoX CX) (C:rA X.prog X.w X.K X.mg X.base CX k x "__init__" ps ks n j dvs sp) (hr:Room (k + 1) X.A) (hg:Gl X x) (ha:WA X (e :: es) t) (hkw:WK X kws tk)
  (hall:(LK pos (Kt kws X.env)).all (·.1.isSome)=true:=by rfl)(hks:(LK pos (Kt kws X.env)).filterMap (·.1)=ks:=by rfl)(hdb:(x==("__debug__":Str))=false:=by decide)
  (hst:IR (e::es) X.env=(false,L6 e X.env)::IR es X.env:=by rfl)
  (hpl:((Mw pos (IR (e::es) X.env)).any (·.1)||(LK pos (Kt kws X.env)).any (·.1.isNone))=false:=by rfl):
  WE X (.Call (.Name x p) (e::es) kws pos) (Ej K x sp (qX n j dvs) E0 t tk):=by
 have ha:=ha.go;have hkw:=hkw.go;refine⟨?_⟩;subst hK;obtain⟨D,f,fd,ds,fs0,F,cf,hm,hmg,hb⟩:=C.ex;intro pins s σ H Q I h;refine JT (iE I hg hmg ?_ hdb);refine Pw (first:=[]) (h₀:=X.base) I.ok.mod.kin cf.kp hall (thn (ha pos pins s σ H _ I h) λus s1 ⟨vs,H1,I1,ru,q1⟩=>?_) hpl hst;refine thn (hkw pos pins s1 σ H1 _ I1 q1) λws s2 ⟨zs,H2,I2,rz,q2⟩=>⟨I2.kIn,?_⟩
 rw[hks];exact yW ⟨cf.makes,hm.at_,hm.fn,cf.kp⟩ F hr hb (λJ s1 I1 e s' z=>(rp hX) _ _ _ _ _ _ I1 z) I2 ru rz λa dx h1 h2 h3=>q2 D a dx cf.at_ h1 h2 h3
end
theorem DD {cap:Int}(h:P.In cap)(o:yf P c r)(bd:c.Bd 17):r.Bd 400:=
 ⟨Ok.mono (o_ (h 0 (by decide)).1 bd.a o.1) (by decide),Ok.mono (o_ (h 1 (by decide)).1 bd.b o.2.1) (by decide),Ok.mono (o_ (h 2 (by decide)).1 bd.c o.2.2) (by decide)⟩
theorem D1 {a v:Rat}(h:Pts ps)(hy:ps[0]?=some y)(hz:ps.getLast?=some z)(z2:z.2<=60)(a0:0<=a)(o:OnC ps a v):0<=v/\v<=((60:Int):Rat):=by
 obtain⟨l,u⟩:=A6 h hy hz a0 o;have y0:(0:Rat)<=(y.2:Rat):=Nx.mpr (h.inn y (IM hy)).b1;exact⟨OO y0 l,OO u (Ox.mpr z2)⟩
theorem EU (h:P.In 60)(o:yf P c r)(wi:c.Wi ((60:Int):Rat)):r.Wi ((60:Int):Rat):=by
 obtain⟨p0,y0,z0,a0,b0,_,d0⟩:=h 0 (by decide);obtain⟨p1,y1,z1,a1,b1,_,d1⟩:=h 1 (by decide);obtain⟨p2,y2,z2,a2,b2,_,d2⟩:=h 2 (by decide);have x:=D1 p0 a0 b0 d0 wi.a0 o.1;have y:=D1 p1 a1 b1 d1 wi.b0 o.2.1;have z:=D1 p2 a2 b2 d2 wi.c0 o.2.2;exact⟨x.1,x.2,y.1,y.2,z.1,z.2⟩
theorem tH {cap:Int}(h:P.In cap)(x:yf P c r)(y:yf P c r'):r=r':=by
 have a:=qe (h 0 (by decide)).1 x.1 y.1;have b:=qe (h 1 (by decide)).1 x.2.1 y.2.1;have c:=qe (h 2 (by decide)).1 x.2.2 y.2.2;cases r;cases r';simp only at a b c;subst a b c;rfl
def S9.cp (s:S9):S9:=⟨true,true,true,true,s.x,s.y,s.z⟩
theorem S9.In.cp {s:S9}(h:s.In):s.cp.In:=⟨h.x,h.y,h.z⟩
def S9.row (s:S9):Nat->R3
 |0=>s.x
 |1=>s.y
 |_=>s.z
theorem FE {K:Ia}{H:Hp}{s:S9}{xs:List V}(h:aD K H s.rows xs){i:Nat}{x:V}(e:xs[i]?=some x):i<3/\∃ k,IsD K H (gE k (s.row i)) x:=by
 obtain⟨x0,x1,x2,rfl,h0,h1,h2⟩:=ff h;rcases at3 e with ⟨rfl,rfl⟩|⟨rfl,rfl⟩|⟨rfl,rfl⟩
 ·exact⟨by decide,_,h0⟩
 ·exact⟨by decide,_,h1⟩
 ·exact⟨by decide,_,h2⟩
def wOf:S9 ⊕ (Kn->R3)->Q3->Q3
 |.inl s,r=>s.m.led r
 |.inr f,r=>W4 2 f r
theorem j0 (m:Mv T H H')(h:H' l=none)(n:l∉T):H l=none:=by
 cases z:H l with
 |none=>rfl
 |some o=>rw[m _ _ z n] at h;cases h
theorem EW {cap:Int}(h:P.In cap)(o:yf P c r)(bd:c.Bd 17):r.Bd 60:=
 ⟨Ok.mono (o_ (h 0 (by decide)).1 bd.a o.1) (by decide),Ok.mono (o_ (h 1 (by decide)).1 bd.b o.2.1) (by decide),Ok.mono (o_ (h 2 (by decide)).1 bd.c o.2.2) (by decide)⟩
theorem IsD.noIns {K:Ia}{H:Hp}{d:IV}{x C dx:Iv}{fs:List (Str×V)}(h:IsD K H d (.ref x))(hi:H x=some (.ins C dx fs)):False:=by
 cases h with
 |lst h _=>
  rcases h with h|⟨o,h⟩
  ·rw[hi] at h;cases h
  ·rw[hi] at h;cases h
 |tup h _=>rw[hi] at h;cases h
 |dct h=>rw[hi] at h;cases h
theorem aD.noIns {K:Ia}{H:Hp}{ds:List IV}{us:List V}{x C dx:Iv}{fs:List (Str×V)}(h:aD K H ds us)(hx:us[0]?=some (.ref x))(hi:H x=some (.ins C dx fs)):False:=by
 cases h with
 |nil=>cases hx
 |cons h0 _=>cases Ie hx;exact h0.noIns hi
mutual
theorem IsD.offL {K:Ia}{H H':Hp}{cl x C dx:Iv}{us:List V}{fs:List (Str×V)}(h:H cl=some (.lst us))(hx:us[0]?=some (.ref x))(hi:H x=some (.ins C dx fs))(m:Mv [cl] H H'):∀ {d:IV}{v:V},IsD K H d v->IsD K H' d v
 |_,_,.non=>.non
 |_,_,.bl b=>.bl b
 |_,_,.int i=>.int i
 |_,_,.str x=>.str x
 |_,_,.lst hr q=>by
  refine .lst ?_ (aD.offL h hx hi m q);rcases hr with hr|⟨o,hr⟩
  ·refine .inl (m _ _ hr λz=>?_);rw[Ii.mp z,h] at hr;cases hr;exact q.noIns hx hi
  ·refine .inr ⟨o,m _ _ hr λz=>?_⟩;rw[Ii.mp z,h] at hr;cases hr
 |_,_,.tup ht q=>.tup (m _ _ ht λz=>by rw[Ii.mp z,h] at ht;cases ht) (aD.offL h hx hi m q)
 |_,_,.dct hd=>.dct (m _ _ hd λz=>by rw[Ii.mp z,h] at hd;cases hd)
theorem aD.offL {K:Ia}{H H':Hp}{cl x C dx:Iv}{us:List V}{fs:List (Str×V)}(h:H cl=some (.lst us))(hx:us[0]?=some (.ref x))(hi:H x=some (.ins C dx fs))(m:Mv [cl] H H'):∀ {ds:List IV}{vs:List V},aD K H ds vs->aD K H' ds vs
 |_,_,.nil=>.nil
 |_,_,.cons h1 q=>.cons (IsD.offL h hx hi m h1) (aD.offL h hx hi m q)
end
theorem kF.offL {K:Ia}{H H':Hp}{cl x C dx:Iv}{us vs:List V}{fs:List (Str×V)}{P:C3}(g:kF K H P vs)(h:H cl=some (.lst us))(hx:us[0]?=some (.ref x))(hi:H x=some (.ins C dx fs))(m:Mv [cl] H H'):kF K H' P vs:=⟨g.1,λi v e=>by
 obtain⟨a,D,dy,l,rfl,h1,h2,h3⟩:=g.2 i v e;exact⟨a,D,dy,l,rfl,h1,m _ _ h2 (λz=>by rw[Ii.mp z,h] at h2;cases h2),IsD.offL h hx hi m h3⟩⟩
def G7 (K:Ia)(H:Hp)(P:C3)(sv dv:V):S9 ⊕ (Kn->R3)->Prop
 |.inl s=>IsD K H s.d sv/\s.In
 |.inr f=>sv=.non/\(∃ d,dv=.ref d/\Gr K H 2 f d)/\WtB 2 f/\P.In 60
def AtD (K:Ia)(x:Str)(st:Ke):Prop:=∃ f oc od osl kV doc pm an cdv ct,Iw K Ik x=some (some (.ref f))/\K.lookup f=some ⟨oc,od,.func (IH x x (aJ st) (aF st) (ag st) .none kV doc pm an cdv ct),osl⟩/\I_ K cdv x=true/\IU K (.ref f)=true
def AtM (K:Ia)(x m qual:Str)(st:Ke):Prop:=∃ C f oc od osl kV doc pm an cdv ct,Iw K Ik x=some (some (.ref C))/\IQ K (.ref C) m=some (some (.ref f))/\K.lookup f=some ⟨oc,od,.func (IH m qual (aJ st) (aF st) (ag st) .none kV doc pm an cdv ct),osl⟩/\I_ K cdv qual=true/\IU K (.ref f)=true/\Ky K (.ref f)=true
theorem AtD.of {K:Ia}{x:Str}{st:Ke}{f:Iv}{oc kV doc pm cdv ct:Ih}{od an:Option Iv}{osl:Array (Option Ih)}(h1:Iw K Ik x=some (some (.ref f)))(h2:K.lookup f=some ⟨oc,od,.func (IH x x (aJ st) (aF st) (ag st) .none kV doc pm an cdv ct),osl⟩)(h3:I_ K cdv x=true)(h4:IU K (.ref f)=true):AtD K x st:=⟨_,_,_,_,_,_,_,_,_,_,h1,h2,h3,h4⟩
theorem AtM.of {K:Ia}{x m qual:Str}{st:Ke}{C f:Iv}{oc kV doc pm cdv ct:Ih}{od an:Option Iv}{osl:Array (Option Ih)}(h1:Iw K Ik x=some (some (.ref C)))(h2:IQ K (.ref C) m=some (some (.ref f)))(h3:K.lookup f=some ⟨oc,od,.func (IH m qual (aJ st) (aF st) (ag st) .none kV doc pm an cdv ct),osl⟩)(h4:I_ K cdv qual=true)(h5:IU K (.ref f)=true)(h6:Ky K (.ref f)=true):AtM K x m qual st:=⟨_,_,_,_,_,_,_,_,_,_,_,h1,h2,h3,h4,h5,h6⟩
theorem gOf {K:Ia}{x:Str}{i:Int}{t:Tok}(h:Iw K Ik x=some (some (.int i t))):∃ t,Iw K Ik x=some (some (.int i t)):=⟨t,h⟩
section
variable {K:Ia}{mg:Str->Option Ih}{x m qual:Str}{st:Ke}{ps fs:List Str}{h:Kl}
theorem AtD.dfn (a:AtD K x st)(X:K.In h)(G:h.Ns Ik mg)(hb:∀ kV doc pm an cdv ct us,us.length=ps.length->JD (IH x x (aJ st) (aF st) (ag st) .none kV doc pm an cdv ct) ⟨us,[]⟩=pure (ps.zip us)):Dfn K mg x st ps []:=by
 obtain⟨_,_,_,_,_,_,_,_,_,_,h1,h2,h3,h4⟩:=a;exact CC h2 h3 h4 (Jr X G h1) (hb _ _ _ _ _ _)
theorem AtM.dfn (a:AtM K x m qual st)(X:K.In h)(G:h.Ns Ik mg)(hc:ma K x fs=true)(hb:∀ kV doc pm an cdv ct us,us.length=ps.length->JD (IH m qual (aJ st) (aF st) (ag st) .none kV doc pm an cdv ct) ⟨us,[]⟩=pure (ps.zip us)):qD K mg x m qual st ps []:=by
 obtain⟨_,_,_,_,_,_,_,_,_,_,_,h1,h2,h3,h4,h5,h6⟩:=a;exact Dk h3 h4 h5 h6 h1 h2 hc (Jr X G h1) (hb _ _ _ _ _ _)
theorem us1 {P:List Ih->Prop}{us:List Ih}(h:us.length=1)(k:∀ a,P [a]):P us:=by
 match us,h with
 |[a],_=>exact k a
theorem us2 {P:List Ih->Prop}{us:List Ih}(h:us.length=2)(k:∀ a b,P [a,b]):P us:=by
 match us,h with
 |[a,b],_=>exact k a b
theorem us3 {P:List Ih->Prop}{us:List Ih}(h:us.length=3)(k:∀ a b c,P [a,b,c]):P us:=by
 match us,h with
 |[a,b,c],_=>exact k a b c
theorem us4 {P:List Ih->Prop}{us:List Ih}(h:us.length=4)(k:∀ a b c d,P [a,b,c,d]):P us:=by
 match us,h with
 |[a,b,c,d],_=>exact k a b c d
theorem us5 {P:List Ih->Prop}{us:List Ih}(h:us.length=5)(k:∀ a b c d e,P [a,b,c,d,e]):P us:=by
 match us,h with
 |[a,b,c,d,e],_=>exact k a b c d e
theorem AtD.d1 {p:Str}(a:AtD K x st)(X:K.In h)(G:h.Ns Ik mg)(hb:∀ kV doc pm an cdv ct a,JD (IH x x (aJ st) (aF st) (ag st) .none kV doc pm an cdv ct) ⟨[a],[]⟩=pure (([p]:List Str).zip [a])):Dfn K mg x st [p] []:=a.dfn X G λ_ _ _ _ _ _ us hl=>us1 (P:=λus=>JD _ ⟨us,[]⟩=pure ([p].zip us)) hl (hb _ _ _ _ _ _)
theorem AtM.d1 {p:Str}(a:AtM K x m qual st)(X:K.In h)(G:h.Ns Ik mg)(hc:ma K x fs=true)(hb:∀ kV doc pm an cdv ct a,JD (IH m qual (aJ st) (aF st) (ag st) .none kV doc pm an cdv ct) ⟨[a],[]⟩=pure (([p]:List Str).zip [a])):qD K mg x m qual st [p] []:=a.dfn X G hc λ_ _ _ _ _ _ us hl=>us1 (P:=λus=>JD _ ⟨us,[]⟩=pure ([p].zip us)) hl (hb _ _ _ _ _ _)
theorem AtD.d2 {p q:Str}(a:AtD K x st)(X:K.In h)(G:h.Ns Ik mg)(hb:∀ kV doc pm an cdv ct a b,JD (IH x x (aJ st) (aF st) (ag st) .none kV doc pm an cdv ct) ⟨[a,b],[]⟩=pure (([p,q]:List Str).zip [a,b])):Dfn K mg x st [p,q] []:=a.dfn X G λ_ _ _ _ _ _ us hl=>us2 (P:=λus=>JD _ ⟨us,[]⟩=pure ([p,q].zip us)) hl (hb _ _ _ _ _ _)
theorem AtM.d2 {p q:Str}(a:AtM K x m qual st)(X:K.In h)(G:h.Ns Ik mg)(hc:ma K x fs=true)(hb:∀ kV doc pm an cdv ct a b,JD (IH m qual (aJ st) (aF st) (ag st) .none kV doc pm an cdv ct) ⟨[a,b],[]⟩=pure (([p,q]:List Str).zip [a,b])):qD K mg x m qual st [p,q] []:=a.dfn X G hc λ_ _ _ _ _ _ us hl=>us2 (P:=λus=>JD _ ⟨us,[]⟩=pure ([p,q].zip us)) hl (hb _ _ _ _ _ _)
theorem AtD.d3 {p q r:Str}(a:AtD K x st)(X:K.In h)(G:h.Ns Ik mg)(hb:∀ kV doc pm an cdv ct a b c,JD (IH x x (aJ st) (aF st) (ag st) .none kV doc pm an cdv ct) ⟨[a,b,c],[]⟩=pure (([p,q,r]:List Str).zip [a,b,c])):Dfn K mg x st [p,q,r] []:=a.dfn X G λ_ _ _ _ _ _ us hl=>us3 (P:=λus=>JD _ ⟨us,[]⟩=pure ([p,q,r].zip us)) hl (hb _ _ _ _ _ _)
theorem AtM.d3 {p q r:Str}(a:AtM K x m qual st)(X:K.In h)(G:h.Ns Ik mg)(hc:ma K x fs=true)(hb:∀ kV doc pm an cdv ct a b c,JD (IH m qual (aJ st) (aF st) (ag st) .none kV doc pm an cdv ct) ⟨[a,b,c],[]⟩=pure (([p,q,r]:List Str).zip [a,b,c])):qD K mg x m qual st [p,q,r] []:=a.dfn X G hc λ_ _ _ _ _ _ us hl=>us3 (P:=λus=>JD _ ⟨us,[]⟩=pure ([p,q,r].zip us)) hl (hb _ _ _ _ _ _)
theorem AtD.d4 {p q r u:Str}(a:AtD K x st)(X:K.In h)(G:h.Ns Ik mg)(hb:∀ kV doc pm an cdv ct a b c d,JD (IH x x (aJ st) (aF st) (ag st) .none kV doc pm an cdv ct) ⟨[a,b,c,d],[]⟩=pure (([p,q,r,u]:List Str).zip [a,b,c,d])):Dfn K mg x st [p,q,r,u] []:=a.dfn X G λ_ _ _ _ _ _ us hl=>us4 (P:=λus=>JD _ ⟨us,[]⟩=pure ([p,q,r,u].zip us)) hl (hb _ _ _ _ _ _)
theorem AtM.d4 {p q r u:Str}(a:AtM K x m qual st)(X:K.In h)(G:h.Ns Ik mg)(hc:ma K x fs=true)(hb:∀ kV doc pm an cdv ct a b c d,JD (IH m qual (aJ st) (aF st) (ag st) .none kV doc pm an cdv ct) ⟨[a,b,c,d],[]⟩=pure (([p,q,r,u]:List Str).zip [a,b,c,d])):qD K mg x m qual st [p,q,r,u] []:=a.dfn X G hc λ_ _ _ _ _ _ us hl=>us4 (P:=λus=>JD _ ⟨us,[]⟩=pure ([p,q,r,u].zip us)) hl (hb _ _ _ _ _ _)
theorem AtD.d5 {p q r u v:Str}(a:AtD K x st)(X:K.In h)(G:h.Ns Ik mg)(hb:∀ kV doc pm an cdv ct a b c d e,JD (IH x x (aJ st) (aF st) (ag st) .none kV doc pm an cdv ct) ⟨[a,b,c,d,e],[]⟩=pure (([p,q,r,u,v]:List Str).zip [a,b,c,d,e])):Dfn K mg x st [p,q,r,u,v] []:=a.dfn X G λ_ _ _ _ _ _ us hl=>us5 (P:=λus=>JD _ ⟨us,[]⟩=pure ([p,q,r,u,v].zip us)) hl (hb _ _ _ _ _ _)
theorem AtM.d5 {p q r u v:Str}(a:AtM K x m qual st)(X:K.In h)(G:h.Ns Ik mg)(hc:ma K x fs=true)(hb:∀ kV doc pm an cdv ct a b c d e,JD (IH m qual (aJ st) (aF st) (ag st) .none kV doc pm an cdv ct) ⟨[a,b,c,d,e],[]⟩=pure (([p,q,r,u,v]:List Str).zip [a,b,c,d,e])):qD K mg x m qual st [p,q,r,u,v] []:=a.dfn X G hc λ_ _ _ _ _ _ us hl=>us5 (P:=λus=>JD _ ⟨us,[]⟩=pure ([p,q,r,u,v].zip us)) hl (hb _ _ _ _ _ _)
theorem mgI {i:Int}(X:K.In h)(G:h.Ns Ik mg)(a:∃ t,Iw K Ik x=some (some (.int i t))):∃ t,mg x=some (.int i t):=by obtain⟨t,e⟩:=a;exact⟨t,Jr X G e⟩
end
theorem scM (a:sc.kind=.function:=by rfl)(b:sc.isCoroutine=false:=by rfl)(c:sc.isGenerator=false:=by rfl)(d:N.Nodup:=by decide +kernel)(e:N.take P.length=P:=by rfl)(f:∀ x∈P,sc.names.lookup x=some .local\/sc.names.lookup x=some .cell:=by decide +kernel)(g:∀ y∈sc.names,y.2≠.free:=by decide +kernel):am N P sc:=⟨a,b,c,d,e,f,g⟩
theorem tT (hp:H p=none)(e:upd H p o=H1):aj H H1:=e▸aj.new hp
theorem mf (e:upd H p o=H1):H1 p=some o:=e▸ac
theorem CT (ha:H a=none)(hd:H dx=none)(hn:dx≠a)(e:upd (upd H dx o1) a o=H1):aj H H1:=e▸(aj.new hd).trans (aj.new (by rw[ao hn.symm];exact ha))
def Q3.at (q:Q3):Nat->Rat:=gM q.a q.b q.c
def nw (q:Rat):Int:=(2*q.num+(q.den:Int)).fdiv (2*(q.den:Int))
def hq (q:Q3):R3:=⟨hld (nw q.a),hld (nw q.b),hld (nw q.c)⟩
theorem WW.pt {X:Cx}{e:KI}{t:TT}(h:WW X e t):WT X e t:=⟨PW.pt h.go⟩
set_option autoImplicit true
set_option relaxedAutoImplicit true
section
variable {X:Cx}{st:Ke}{K:Ia}
theorem aN :WA X [] AV:=⟨CL ⟩
theorem ai (ha:WE X e te)(hr:WA X es t)(hs:IR (e::es) X.env=(false,L6 e X.env)::IR es X.env:=by rfl):WA X (e::es) (lQ te t):=⟨zV ha.go hr.go hs⟩
theorem wpv (i:Nat)(hN:X.N[i]?=some x:=by rfl)(hv:Vis X.env.scope x:=by first|exact Qv rfl|exact O8 (Qv rfl)|exact O8 (O8 rfl))(hd:(x==("__debug__":Str))=false:=by decide)(hcd:(x==("__classdict__":Str))=false:=by decide):WE X (.Name x pos) (yx i):=⟨pv i hN hv hd hcd⟩
theorem AL (hx:X.xe=λ_ _=>False)(hd:gens[d+1]?=none)(he:WE X elt te):WB X elt gens scope pos d (AD te):=⟨yU hx hd he.go⟩
end
section
variable {X:Cx}
theorem au (i:Nat){x:Str}{e:KI}{te:TE}{pos pos':Pos}(hN:X.N.Nodup)(he:WE X e te)(hi:X.N[i]?=some x:=by rfl)(hx:Loc X.env.scope x:=by first|exact Qv rfl|exact O8 rfl)(hs:N5 e (some (.Name x pos')) pos.line X.env=pure false:=by rfl)(hf:X.fn x=true\/X.env.scope.names.lookup x=some .local:=by first|exact .inl rfl|exact .inr rfl|assumption):WS X (.Assign [.Name x pos'] e pos) (GF te (wM i)):=Dg hN hi hx he hs hf
theorem ah (i:Nat){x:Str}{pos:Pos}(hN:X.N.Nodup)(hi:X.N[i]?=some x:=by rfl)(hx:Loc X.env.scope x:=by first|exact Qv rfl|exact O8 rfl)(hf:X.fn x=true\/X.env.scope.names.lookup x=some .local:=by first|exact .inl rfl|exact .inr rfl|assumption):WG X (.Name x pos) (wM i):=Bj hN hi hx hf
theorem ak (K:Ia){a b:KI}{ta tb:TE}{pos:Pos}(ha:WE X a ta)(hb:WE X b tb)(e:X.K=K:=by rfl)(hs:Aj b:=by intro _ _;rfl):WE X (.Subscript a b pos) (tOp (rIx K) ta tb):=Ch (Hq e) ha hb hs
theorem ae {CX:CXT}{k j:Nat}{x:Str}{ps:List Str}{sp:Sp}{dvs:List V}{p pos:Pos}{e:KI}{es:List KI}{t:TA}(hX:NoX CX)(C:Cal X.prog X.w X.K X.mg X.base CX k x ps dvs sp)(hr:Room j X.A)(ha:WA X (e::es) t)(hj:k<=j:=by decide)(hg:Gl X x:=by rfl)(hdb:(x==("__debug__":Str))=false:=by decide)(he:IR (e::es) X.env=(false,L6 e X.env)::IR es X.env:=by rfl)(hpl:(Mw pos (IR es X.env)).any (·.1)=false:=by rfl):WE X (.Call (.Name x p) (e::es) [] pos) (wz sp dvs E0 t):=DH hX C (hr.mono hj) hg ha hdb he hpl
theorem aO {e:KI}{te:TE}(h:WE X e te)(hs:IR [e] X.env=(false,L6 e X.env)::IR [] X.env:=by rfl):WA X [e] (lQ te AV):=ai h aN hs
theorem aR {e f:KI}{te tf:TE}(h:WE X e te)(g:WE X f tf)(hs:IR [e,f] X.env=(false,L6 e X.env)::IR [f] X.env:=by rfl)(gs:IR [f] X.env=(false,L6 f X.env)::IR [] X.env:=by rfl):WA X [e,f] (lQ te (lQ tf AV)):=ai h (ai g aN gs) hs
theorem ax {scope:MT}{elt tg iter:KI}{ifs:List KI}{wi:TI}{g:TG}{tt:TT}{te:TE}{pos:Pos}(ts cs:List Str)(js:List Nat)(k:Nat)(hi:WI X tg iter wi)(hg:(ts++cs).Nodup->∀ {C s0 H0 fp pn},WG (bG X (ts++cs) scope (aY X scope C) C s0 H0 fp pn) tg g)(ht:∀ {C s0 H0 fp pn},WTs (bG X (ts++cs) scope (aY X scope C) C s0 H0 fp pn) ifs tt)(he:∀ {C s0 H0 fp pn},WE (bG X (ts++cs) scope (aY X scope C) C s0 H0 fp pn) elt te)(nd:(ts++cs).Nodup:=by decide +kernel)(hc:X.calm=true:=by rfl)(h1:qV scope=true:=by decide +kernel)(h2:(scope.names.all λy=>!(y.2==.free)||(X.env.cells.lookup y.1).isSome)=true:=by rfl)(h3:mj X scope cs js=true:=by rfl)(h4:cs.length=js.length:=by rfl)(h5:ts.length=k:=by rfl)(hs:∀ x,J' iter X.env x=pure x:=by intro _;rfl):WE X (.ListComp elt [⟨tg,iter,ifs,0⟩] scope pos) (A8 wi g tt te (Cw k js)):=Bv hc hi (uS h1 h2) (zo (ts:=ts) h3 h4 h5) (λ_ _ _ _ _=>hg nd) (λ_ _ _ _ _=>ht) (λ_ _ _ _ _=>he) hs
theorem cB (i:Nat){y:Str}{py spos:Pos}{scope:MT}{elt tg iter:KI}{ifs:List KI}{wi:TI}{g:TG}{tt:TT}{te:TE}{pos:Pos}(ts cs:List Str)(js:List Nat)(k:Nat)(hN:X.N.Nodup)(hi:WI X tg iter wi)(hg:(ts++cs).Nodup->∀ {C s0 H0 fp pn},WG (bG X (ts++cs) scope (aY X scope C) C s0 H0 fp pn) tg g)(ht:∀ {C s0 H0 fp pn},WTs (bG X (ts++cs) scope (aY X scope C) C s0 H0 fp pn) ifs tt)(he:∀ {C s0 H0 fp pn},WE (bG X (ts++cs) scope (aY X scope C) C s0 H0 fp pn) elt te)(nd:(ts++cs).Nodup:=by decide +kernel)(hc:X.calm=true:=by rfl)(hi':X.N[i]?=some y:=by rfl)(hy:X.env.scope.names.lookup y=some .local:=by rfl)(h1:qV scope=true:=by decide +kernel)(h2:(scope.names.all λy=>!(y.2==.free)||(X.env.cells.lookup y.1).isSome)=true:=by rfl)(h3:mj X scope cs js=true:=by rfl)(h4:cs.length=js.length:=by rfl)(h5:ts.length=k:=by rfl)(hsw:N5 (.ListComp elt [⟨tg,iter,ifs,0⟩] scope pos) (some (.Name y py)) spos.line X.env=pure true:=by rfl)(hs:∀ x,J' iter X.env x=pure x:=by intro _;rfl):WS X (.Assign [.Name y py] (.ListComp elt [⟨tg,iter,ifs,0⟩] scope pos) spos) (Ck i wi g tt te (Cw k js)):=uD hc hN hi' hy hi (uS h1 h2) (zo (ts:=ts) h3 h4 h5) (λ_ _ _ _ _=>hg nd) (λ_ _ _ _ _=>ht) (λ_ _ _ _ _=>he) hsw hs
end
end TR
set_option Elab.async false
set_option linter.all false
set_option maxRecDepth 100000
set_option maxHeartbeats 8000000
namespace TR
open PySem PySem.Spec PyProof.Rows L2
set_option autoImplicit false
def top (i:Nat):Ke:=PySem.Challenge.pw_tintroads_k19_whole_profiles.main.body.getD i (.Pass ⟨0,0,0,0⟩)
abbrev kP:Ke:=top 12
abbrev dQ:Ke:=top 13
abbrev dJ:Ke:=top 14
abbrev dA:Ke:=top 15
abbrev lg:Ke:=top 16
abbrev dI:Ke:=top 17
abbrev gH:Ke:=top 18
abbrev vf:Ke:=top 19
abbrev im:Ke:=top 20
abbrev kY:Ke:=top 21
abbrev mX:Ke:=top 22
abbrev pO:Ke:=top 23
abbrev jr:Ke:=top 24
abbrev eT:Ke:=top 25
abbrev iY:Ke:=top 29
abbrev pS:Ke:=top 30
abbrev jq:Ke:=top 31
abbrev dk:Ke:=top 32
abbrev dh:Ke:=top 33
abbrev jd:Ke:=top 34
abbrev jG:Ke:=top 35
abbrev Ea:Ke:=top 36
abbrev kL:Ke:=top 43
abbrev nN:Ke:=top 44
abbrev kW:Ke:=top 45
abbrev uF:Ke:=top 46
abbrev kG:Ke:=top 47
abbrev b_:Ke:=top 48
abbrev gg:Ke:=top 49
abbrev uj:Ke:=top 50
abbrev cu:Ke:=top 51
abbrev eO:Ke:=top 52
abbrev qF:Ke:=top 54
abbrev dP:Ke:=dB (top 55) 0
abbrev gU:Ke:=dB (top 55) 1
abbrev gI:Ke:=dB (top 55) 2
abbrev gf:Ke:=dB (top 55) 4
abbrev ci:Ke:=dB (top 55) 3
abbrev kQ:Ke:=top 60
abbrev jg:Ke:=top 61
abbrev ji:Ke:=top 62
abbrev ix:Ke:=top 63
abbrev m7:Ke:=top 64
abbrev dC:Ke:=dB (top 65) 0
abbrev fY:Ke:=dB (top 65) 5
abbrev eY:Ke:=dB (top 65) 1
abbrev gh:Ke:=dB (top 65) 6
abbrev bI:Ke:=dB (top 67) 0
abbrev gX:Ke:=top 70
abbrev jI:Ke:=top 71
abbrev dE:Ke:=top 72
abbrev dw:Ke:=top 73
abbrev fv:Ke:=top 74
abbrev gG:Ke:=top 75
abbrev jL:Ke:=top 76
abbrev aL:Ke:=dB (top 77) 0
abbrev bV:Ke:=dB (top 77) 1
abbrev aW:Ke:=dB (top 78) 0
abbrev cq:Ke:=dB (top 78) 1
abbrev jB:Ke:=top 80
abbrev jJ:Ke:=top 81
abbrev je:Ke:=top 82
abbrev iF:Ke:=top 83
abbrev kK:Ke:=top 84
abbrev jh:Ke:=top 85
abbrev jm:Ke:=top 86
abbrev il:Ke:=top 87
abbrev ib:Ke:=top 88
abbrev iK:Ke:=top 89
abbrev iJ:Ke:=top 90
abbrev fI:Ke:=top 91
abbrev fE:Ke:=top 92
abbrev gK:Ke:=top 93
abbrev gR:Ke:=top 94
abbrev kO:Ke:=top 95
abbrev i9:Ke:=top 96
abbrev jk:Ke:=top 97
abbrev jK:Ke:=top 98
abbrev iZ:Ke:=top 99
abbrev i8:Ke:=top 100
abbrev gW:Ke:=top 101
abbrev gi:Ke:=top 102
abbrev iL:Ke:=top 103
abbrev pW:Ke:=top 104
structure Glo (K:Ia)(mg:Str->Option Ih)(w:Jm):Prop where
 x5:ma K "Curve" ["points"]=true
 x9:ma K "Ends" ["white","black"]=true
 x4:ma K "Grid" ["knots","table"]=true
 xa:ma K "GridProfile" ["curves","grid","bounds"]=true
 xb:ma K "SquareProfile" ["curves","square","bounds"]=true
 xn:∃ D,mg "WAYS"=some (.ref D)/\wZ K w mg D [("four","parts_by_four"),("eight","parts_by_eight")]
 xo:∃ t,mg "FEWEST_KNOTS"=some (.int 2 t)
 xp:∃ t,mg "FEWEST_POINTS"=some (.int 2 t)
 xq:∃ t,mg "GREATEST_TO_SQUARE"=some (.int 1000 t)
 xr:∃ t,mg "GREATEST_curves"=some (.int 1000 t)
 xs:∃ t,mg "GREATEST_grids"=some (.int 1000 t)
 xg:∃ t,mg "GREATEST_squares"=some (.int 4000 t)
 xt:∃ t,mg "MOST_KNOTS"=some (.int 7 t)
 xu:∃ t,mg "MOST_POINTS"=some (.int 12 t)
 xe:∃ t,mg "REACH"=some (.int 60 t)
 xv:∃ t,mg "UNIT"=some (.int 1000 t)
 xw:icB K "Curve"=true
 xx:icB K "Ends"=true
 xy:icB K "Grid"=true
 x37:∃ a,mg "STEPS"=some (.ref a)/\FI K a [[1,0,0],[0,1,0],[0,0,1]]
 xh:mg "abs"=none
 x6:mg "all"=none
 xi:mg "bool"=none
 xj:mg "dict"=none
 xk:mg "int"=none
 x3:mg "isinstance"=none
 x2:mg "len"=none
 x7:mg "list"=none
 xz:mg "max"=none
 xc:mg "min"=none
 x0:mg "range"=none
 xl:mg "set"=none
 xf:mg "sorted"=none
 x10:mg "str"=none
 xm:mg "sum"=none
 x1:mg "tuple"=none
 x8:mg "zip"=none
 x11:Dfn K mg "is_whole" kP ["thing"] []
 x12:Dfn K mg "is_whole_within" dQ ["thing","least","most"] []
 x13:Dfn K mg "is_tuple_within" dJ ["thing","many","least","most"] []
 x14:Dfn K mg "greatest_measure" dA ["one","other"] []
 x15:Dfn K mg "is_share" lg ["thing"] []
 x16:Dfn K mg "refuse_no_share" dI ["thing"] []
 xd:Dfn K mg "share" gH ["top","below"] []
 x17:Dfn K mg "share" gH ["top","below"] [.int 1]
 x18:Dfn K mg "added" vf ["one","other"] []
 x19:Dfn K mg "multiplied" im ["one","other"] []
 x1a:Dfn K mg "floor_of" kY ["one"] []
 x1b:Dfn K mg "is_less" mX ["one","other"] []
 x1c:Dfn K mg "sum_of" pO ["many"] []
 x1d:Dfn K mg "is_within" jr ["one","least","most"] []
 x1e:Dfn K mg "over_one_below" eT ["numbers"] []
 x1f:Dfn K mg "is_colour" iY ["thing"] []
 x1g:Dfn K mg "is_row" pS ["thing"] []
 x1h:Dfn K mg "is_square" jq ["thing"] []
 x1i:Dfn K mg "refuse_no_square" dk ["thing"] []
 x1j:Dfn K mg "refuse_no_colour" dh ["thing"] []
 x1k:Dfn K mg "whole_sum" jd ["row","other"] []
 x1l:Dfn K mg "share_sum" jG ["row","colour"] []
 x1m:Dfn K mg "led" Ea ["square","colour"] []
 x1n:Dfn K mg "is_knots" kL ["thing"] []
 x1o:Dfn K mg "is_knot" nN ["thing","knots"] []
 x1p:Dfn K mg "is_worth" kW ["thing"] []
 x1q:Dfn K mg "apart" uF ["knots"] []
 x1r:Dfn K mg "is_table" kG ["thing","knots"] []
 x1s:Dfn K mg "refuse_no_device_colour" b_ ["thing"] []
 x1t:Dfn K mg "places_below" gg ["many"] []
 x1u:Dfn K mg "moved" uj ["place","steps"] []
 x38:FT K mg "parts_by_four" cu ["far","whole"]
 x1v:Dfn K mg "parts_by_eight" eO ["far","whole"] []
 x1w:Dfn K mg "is_way" qF ["thing"] []
 x1x:qD K mg "Grid" "__init__" "Grid.__init__" dP ["self","knots","table"] []
 x1y:qD K mg "Grid" "knot" "Grid.knot" gU ["self","place"] []
 x1z:qD K mg "Grid" "size" "Grid.size" gI ["self"] []
 x20:qD K mg "Grid" "mixed" "Grid.mixed" gf ["self","least","parts"] []
 x39:kN K mg "Grid" "worth" "Grid.worth" ci ["self","colour","way"] [] 2 0 [.str "four"]
 x21:Dfn K mg "is_point" kQ ["thing"] []
 x22:Dfn K mg "is_onward" jg ["low","high"] []
 x23:Dfn K mg "is_points" ji ["thing"] []
 x24:Dfn K mg "stretch_to" ix ["pairs","at"] []
 x25:Dfn K mg "on_line" m7 ["low","high","at"] []
 x26:qD K mg "Curve" "__init__" "Curve.__init__" dC ["self","points"] []
 x27:qD K mg "Curve" "last" "Curve.last" fY ["self"] []
 x28:qD K mg "Curve" "value" "Curve.value" eY ["self","place"] []
 x29:qD K mg "Curve" "ends" "Curve.ends" gh ["self"] []
 x3a:kN K mg "Ends" "__init__" "Ends.__init__" bI ["self","white","black"] ["white","black"] 1 2 []
 x2a:Dfn K mg "is_curve_to" gX ["thing","most"] []
 x2b:Dfn K mg "is_curves" jI ["thing","most"] []
 x2c:Dfn K mg "refuse_no_curves" dE ["thing","most"] []
 x2d:Dfn K mg "refuse_no_bounds" dw ["thing"] []
 x2e:Dfn K mg "copied_curves" fv ["curves"] []
 x2f:Dfn K mg "copied_ends" gG ["ends"] []
 x2g:Dfn K mg "values_at" jL ["curves","colour"] []
 x3b:kN K mg "SquareProfile" "__init__" "SquareProfile.__init__" aL ["self","curves","square","ends"] ["ends"] 3 1 []
 x2h:qD K mg "SquareProfile" "to_worth" "SquareProfile.to_worth" bV ["self","colour"] []
 x3c:kN K mg "GridProfile" "__init__" "GridProfile.__init__" aW ["self","curves","grid","ends"] ["ends"] 3 1 []
 x2i:qD K mg "GridProfile" "to_worth" "GridProfile.to_worth" cq ["self","colour"] []
 x2j:Dfn K mg "_law_town" jB ["_law_script"] []
 x2k:Dfn K mg "_law_draw" jJ ["_law_town_here","_law_many"] []
 x2l:Dfn K mg "_law_pick" je ["_law_town_here","_law_some"] []
 x2m:Dfn K mg "_law_whole" iF ["_law_thing"] []
 x2n:Dfn K mg "_law_low" kK ["_law_one","_law_two"] []
 x2o:Dfn K mg "_law_plus" jh ["_law_one","_law_two"] []
 x2p:Dfn K mg "_law_less" jm ["_law_one","_law_two"] []
 x2q:Dfn K mg "_law_times" il ["_law_one","_law_two"] []
 x2r:Dfn K mg "_law_below" ib ["_law_one","_law_two"] []
 x2s:Dfn K mg "_law_share" iK ["_law_town_here","_law_cap"] []
 x2t:Dfn K mg "_law_three" iJ ["_law_town_here","_law_cap"] []
 x2u:Dfn K mg "_law_is_share" fI ["_law_thing"] []
 x2v:Dfn K mg "_law_is_three" fE ["_law_thing"] []
 x2w:Dfn K mg "_law_points" gK ["_law_town_here","_law_last","_law_cap","_law_climbs"] []
 x2x:Dfn K mg "_law_square" gR ["_law_town_here"] []
 x2y:Dfn K mg "_law_led" kO ["_law_rows","_law_colour"] []
 x2z:Dfn K mg "_law_over" i9 ["_law_square_here"] []
 x30:Dfn K mg "_law_grid" jk ["_law_town_here","_law_size"] []
 x31:Dfn K mg "_law_cell" jK ["_law_size","_law_colour"] []
 x32:Dfn K mg "_law_four" iZ ["_law_table","_law_size","_law_colour"] []
 x33:Dfn K mg "_law_ends" i8 ["_law_town_here"] []
 x34:Dfn K mg "_law_curves" gW ["_law_town_here","_law_cap","_law_climbs"] []
 x35:Dfn K mg "_law_profile" gi ["_law_town_here"] []
 x36:Dfn K mg "_law_worth" iL ["_law_parts","_law_colour"] []
section
variable {P:IN}{w:Jm}{K:Ia}{mg:Str->Option Ih}{base:Kl}
theorem vi:am ["thing"] ["thing"] (ag kP):=scM
def uG (K:Ia):Sp:=λvs H Q _=>∃ x T,vs=[x]/\Ty K H x T/\Q (.bl (isI x)) H
theorem fb (T:Glo K mg w):Cal P w K mg base CX0 1 "is_whole" ["thing"] [] (uG K):=by
 refine T.x11.cal vi (λvs H Q E h=>?_) (λf cdv A outer s H vs Q E hr h=>?_)
 ·obtain⟨x,S,rfl,_⟩:=h;rfl
 ·obtain⟨x,S,rfl,ty,q⟩:=h;refine⟨_,(WSs.go (af (ap (c7 (aq (lS (K:=K) rfl) (by rfl) T.x3 aA (aR (wpv 0) (bO (v:=.ty "int") rfl T.xk B' rfl))) (fq (zU (aq (lS (K:=K) rfl) (by rfl) T.x3 aA (aR (wpv 0) (bO (v:=.ty "bool") rfl T.xi Ao rfl))))))))),?_⟩;obtain⟨b,e1,e2⟩:=CH ty;refine⟨_,rfl,_,_,_,b,rfl,ty,e1,b,rfl,?_⟩;cases b with
  |false=>
   refine cQ ?_;rw[show isI x=false from e2] at q;exact q
  |true=>
   obtain⟨c,e3,e4⟩:=(show ∃ c,jC S "bool"=some c/\isI x=!c from e2)
   refine bQ ⟨_,rfl,_,_,_,c,rfl,ty,e3,c,rfl,?_⟩;rw[e4] at q;exact q
theorem j6:am ["thing","least","most"] ["thing","least","most"] (ag dQ):=scM
def ky (K:Ia):Sp:=λvs H Q _=>∃ x d l m,vs=[x,.int l,.int m]/\IsD K H d x/\Q (.bl (wwB l m d)) H
theorem dG (T:Glo K mg w):Cal P w K mg base CX0 2 "is_whole_within" ["thing","least","most"] [] (ky K):=by
 refine T.x12.cal j6 (λvs H Q E h=>?_) (λf cdv A outer s H vs Q E hr h=>?_)
 ·obtain⟨x,d,l,m,rfl,_⟩:=h;rfl
 ·obtain⟨x,d,l,m,rfl,hx,q⟩:=h;refine⟨_,(WSs.go (af (ap (c7 (ae aK (fb T) hr (aO (wpv 0))) (fq (tm tX tX (wpv 1) (wpv 0) (wpv 2))))))),?_⟩;refine⟨_,rfl,_,_,rfl,hx.ty,_,rfl,?_⟩;cases hx with
  |int i=>
   refine bQ ⟨_,rfl,_,rfl,_,_,rfl,rfl,decide (l<=i),rfl,?_⟩;refine lF (λhc=>?_) (λhc=>?_)
   ·refine⟨_,rfl,_,_,rfl,rfl,?_⟩;have q:Q (.bl (decide (l<=i)&&decide (i<=m))) H:=q;rw[hc,N7] at q;exact q
   ·have hc:decide (l<=i)=false:=by simpa using hc
    have q:Q (.bl (decide (l<=i)&&decide (i<=m))) H:=q;rw[hc,LM] at q;exact q
  |non=>exact cQ q
  |bl b=>exact cQ q
  |str z=>exact cQ q
  |lst h1 h2=>exact cQ q
  |tup h1 h2=>exact cQ q
  |dct h1=>exact cQ q
theorem j7:am ["thing","many","least","most"] ["thing","many","least","most"] (ag dJ):=scM
def ke (K:Ia):Sp:=λvs H Q _=>∃ (x:V) (ns:List Int) (n l m:Int),vs=[x,.int n,.int l,.int m]/\IsD K H (.tuple (ns.map KM)) x/\n=ns.length/\ns.length<=1000 /\
 ∀ H',aj H H'->Q (.bl (ns.all λk=>decide (l<=k)&&decide (k<=m))) H'
theorem dg (T:Glo K mg w):Cal P w K mg base CX0 3 "is_tuple_within" ["thing","many","least","most"] [] (ke K):=by
 refine T.x13.cal j7 (λvs H Q E h=>?_) (λf cdv A outer s H vs Q E hr h=>?_)
 ·obtain⟨x,ns,n,l,m,rfl,_⟩:=h;rfl
 ·obtain⟨x,ns,n,l,m,rfl,hx,rfl,hl,q⟩:=h;refine⟨_,(WSs.go (ab (a_ (WW.pt (eI (aV (aS (aq (lS (K:=K) rfl) (by rfl) T.x3 aA (aR (wpv 0) (bO (v:=.ty "tuple") rfl T.x1 be rfl))))) (dD (aU nh (aq (h_ (K:=K) rfl) (by rfl) T.x2 df (aO (wpv 0))) (wpv 1) (aX _))))) (af (ap iX)) aE)
   (af (ap (aq (oW (K:=K) rfl rfl) (by rfl) T.x6 iV (aO (ax ["number"] ["least","most"] [2,3] 1 (bh (K:=K) rfl (wpv 0)) (λnd=>(ah 0 nd)) aw (ae aK (dG T) hr (ai (wpv 0) (ai (wpv 1) (ai (wpv 2) aN))))))))))),?_⟩
  refine⟨_,rfl,_,_,_,true,rfl,hx.ty,(show jC "tuple" "tuple"=some true by decide +kernel),_,rfl,cQ ?_⟩;obtain⟨a,xs,rfl,ha,hds⟩:=aH (b:=false) hx;have hlen:=hds.length;rw[Ij] at hlen;refine⟨_,rfl,a,_,rfl,nO ha,_,rfl,_,_,rfl,rfl,false,by show V.bl (!decide ((xs.length:Int)=ns.length))=_;rw[Ir (by omega)];rfl,cQ ?_⟩;refine⟨_,rfl,a,false,rfl,⟨_,ha⟩,jX (f:=λd=>.bool (wwB l m d)) ha hds (by rw[Ij];exact hl) (λi d x H2 hd s2 hx2 R kk S=>?_) (λys H2 s2 hys D hD=>?_)⟩
  ·exact bQ (B:=S H2) ⟨_,rfl,_,rfl,_,rfl,x,d,l,m,rfl,hx2,kk _ _ ⟨aj.refl _,.bl _⟩⟩
  ·have hys:aD K H2 (((ns.map KM).map (wwB l m)).map LZ) ys:=by rw[L_];exact hys
   have e:=eU hys;subst e;refine⟨D,_,rfl,SqL.of ac,?_⟩;have e:((ns.map KM).map (wwB l m)).all id=ns.all λk=>decide (l<=k)&&decide (k<=m):=by
    rw[L_,List.all_map];rfl
   rw[e];exact q _ (s2.trans (aj.new hD))
theorem c6:am ["one","other"] ["one","other"] (ag dA):=scM
def jz (_:Ia):Sp:=λvs H Q _=>∃ a b,vs=[.int a,.int b]/\Q (.int (JQ a b)) H
theorem fg (T:Glo K mg w):Cal P w K mg base CX0 1 "greatest_measure" ["one","other"] [] (jz K):=by
 refine T.x14.cal c6 (λvs H Q E h=>?_) (λf cdv A outer s H vs Q E hr h=>?_)
 ·obtain⟨a,b,rfl,_⟩:=h;rfl
 ·obtain⟨a,b,rfl,q⟩:=h;refine⟨_,(WSs.go (ab (k_ (i:=0) (j:=1) rfl c6.nd rfl rfl (by decide) rfl rfl (aR (aq vJ (by rfl) T.xh Ca (aO (wpv 0))) (aq vJ (by rfl) T.xh Ca (aO (wpv 1)))) rfl)
   (ab (mZ Jq (aU wL (wpv 1) aa (aX _)) (af (k_ (i:=0) (j:=1) rfl c6.nd rfl rfl (by decide) rfl rfl (aR (wpv 1) (ar lq (wpv 0) (wpv 1))) rfl)))
   (af (ap (wpv 0)))))),?_⟩
  refine⟨_,rfl,_,rfl,_,rfl,_,rfl,_,_,rfl,?_⟩;refine⟨λm σ H'=>∃ x y:Int,σ=[some (.int x),some (.int y)]/\H'=H/\0<=x/\0<=y/\JQ x y=JQ a b/\m=y.toNat,⟨_,_,_,rfl,rfl,?_,?_,?_,rfl⟩,?_⟩
  ·split<;>omega
  ·split<;>omega
  ·rw[yr]
  ·rintro m σ H' ⟨x,y,rfl,rfl,hx,hy,hg,rfl⟩;refine⟨_,rfl,_,_,rfl,rfl,_,rfl,?_⟩;refine lF (λhc=>?_) (λhc=>?_)
   ·have hc:=JP hc;refine⟨_,λ_ _ z=>z,?_⟩;refine⟨_,rfl,_,rfl,_,rfl,_,_,rfl,rfl,hc,_,_,rfl,?_⟩;have h1:=K' x (show y≠0 by omega);have h2:=KB x hc;exact⟨(x%y).toNat,by omega,y,x%y,rfl,rfl,hy,h1,by rw[vq hx hc];exact hg,rfl⟩
   ·have hc:¬ (0<y):=λz=>hc (Ir z)
    have hy0:y=0:=by omega
    subst hy0;refine⟨_,rfl,?_⟩;have e:x=(JQ a b:Int):=by
     rw[<- hg,PH];omega
    rw[e];exact q
theorem jA:am ["thing","top","below"] ["thing"] (ag lg):=scM
def uV (K:Ia):Sp:=λvs H Q _=>∃ x d,vs=[x]/\IsD K H d x/\Q (.bl (shB d)) H
theorem jc (T:Glo K mg w):Cal P w K mg base CX0 2 "is_share" ["thing"] [] (uV K):=by
 refine T.x15.cal jA (λvs H Q E h=>?_) (λf cdv A outer s H vs Q E hr h=>?_)
 ·obtain⟨x,d,rfl,_⟩:=h;rfl
 ·obtain⟨x,d,rfl,hd,q⟩:=h;refine⟨_,(WSs.go (ab (a_ (WW.pt (eI (aV (aS (aq (lS (K:=K) rfl) (by rfl) T.x3 aA (aR (wpv 0) (bO (v:=.ty "tuple") rfl T.x1 be rfl))))) (dD (aU nh (aq (h_ (K:=K) rfl) (by rfl) T.x2 df (aO (wpv 0))) aa (aX _))))) (af (ap iX)) aE)
   (ab (gY (wpv 0) (dF (K:=K) (n:=2) rfl rfl (av (ah 1 jA.nd) (av (ah 2 jA.nd) bt))))
   (ab (a_ (WW.pt (eI (aV (aS (ae aK (fb T) hr (aO (wpv 1))))) (eI (aV (aS (ae aK (fb T) hr (aO (wpv 2))))) (dD (aU wx (wpv 2) aa (aX _)))))) (af (ap iX)) aE)
   (af (ap (bM eE (ae aK (fg T) hr (aR (wpv 1) (wpv 2))) aa (aX _)))))))),?_⟩
  cases hd with
  |non=>exact⟨_,rfl,_,_,_,false,rfl,.non,by decide +kernel,_,rfl,bQ (bQ q)⟩
  |bl b=>exact⟨_,rfl,_,_,_,false,rfl,.bl b,by decide +kernel,_,rfl,bQ (bQ q)⟩
  |int i=>exact⟨_,rfl,_,_,_,false,rfl,.int i,by decide +kernel,_,rfl,bQ (bQ q)⟩
  |str z=>exact⟨_,rfl,_,_,_,false,rfl,.str z,by decide +kernel,_,rfl,bQ (bQ q)⟩
  |dct h1=>exact⟨_,rfl,_,_,_,false,rfl,.dK h1,(show jC "dict" "tuple"=some false by decide +kernel),_,rfl,bQ (bQ q)⟩
  |lst h1 h2=>exact⟨_,rfl,_,_,_,false,rfl,(IsD.lst h1 h2).ty,(show jC "list" "tuple"=some false by decide +kernel),_,rfl,bQ (bQ q)⟩
  |@tup p xs ds h1 h2=>
   refine⟨_,rfl,_,_,_,true,rfl,.tup h1,by decide +kernel,_,rfl,cQ ?_⟩;refine⟨_,rfl,p,xs,rfl,.inr (SqT.of h1),_,_,rfl,rfl,_,rfl,?_⟩;have hl:=h2.length;refine lF (λhc=>?_) (λhc=>?_)
   ·have hc:¬ ((xs.length:Int)=2):=Ls (by simpa using hc);have e:shB (.tuple ds)=false:=DQ (by omega);rw[e] at q;exact q
   ·have hc:(xs.length:Int)=2:=by simpa using hc
    cases h2 with
    |nil=>simp at hc
    |@cons d1 x1 _ _ g1 g2=>
     cases g2 with
     |nil=>simp at hc
     |@cons d2 x2 _ _ g3 g4=>
      cases g4 with
      |cons _ _=>simp at hc;omega
      |nil=>
       refine⟨_,rfl,p,_,rfl,SqT.of h1,rfl,_,_,rfl,_,_,rfl,rfl,?_⟩;refine⟨_,rfl,_,_,rfl,g1.ty,_,rfl,?_⟩;refine lF (λhc=>?_) (λhc=>?_)
       ·refine bQ ?_;have e:isI x1=false:=by simpa using hc
        rw[Gw g1 e] at q;exact q
       ·have e1:isI x1=true:=by simpa using hc
        refine⟨_,rfl,_,_,rfl,g3.ty,_,rfl,?_⟩;refine lF (λhc=>?_) (λhc=>?_)
        ·refine bQ ?_;have e:isI x2=false:=by simpa using hc
         rw[F6 g3 e] at q;exact q
        ·have e2:isI x2=true:=by simpa using hc
         obtain⟨n,rfl,rfl⟩:=zO g1 e1;obtain⟨m,rfl,rfl⟩:=zO g3 e2;refine⟨_,rfl,_,_,rfl,rfl,_,rfl,?_⟩;have e:shB (shD n m)=(decide (1<=m)&&decide (JQ n m=1)):=rfl;refine lF (λhc=>?_) (λhc=>?_)
         ·have hc:m<1:=JP hc;rw[e,Jd (show ¬ (1<=m) by omega)] at q;exact q
         ·have hc:¬ (m<1):=Ls (by simpa using hc);refine⟨_,rfl,_,rfl,n,m,rfl,_,_,rfl,rfl,?_⟩;rw[e,Ir (show 1<=m by omega),N7] at q;have e3:decide ((JQ n m:Int)=1)=decide (JQ n m=1):=by
           by_cases z:JQ n m=1
           ·rw[Ir z,Ir (by omega)]
           ·rw[Jd z,Jd (by omega)]
          show Q (.bl (decide ((JQ n m:Int)=1))) H;rw[e3];exact q
theorem kg:am ["thing"] ["thing"] (ag dI):=scM
def km (K:Ia):Sp:=λvs H Q _=>∃ x d,vs=[x]/\IsD K H d x/\shB d=true/\Q .non H
theorem b8 (T:Glo K mg w):Cal P w K mg base CX0 3 "refuse_no_share" ["thing"] [] (km K):=by
 refine T.x16.cal kg (λvs H Q E h=>?_) (λf cdv A outer s H vs Q E hr h=>?_)
 ·obtain⟨x,d,rfl,_⟩:=h;rfl
 ·obtain⟨x,d,rfl,hd,hs,q⟩:=h;refine⟨_,(WSs.go (af (a_ (aV (aS (ae aK (jc T) hr (aO (wpv 0))))) (af bw) aE))),?_⟩;refine⟨_,rfl,x,d,rfl,hd,_,rfl,?_⟩;rw[hs];exact cQ q
theorem qH:am ["top","below","measure"] ["top","below"] (ag gH):=scM
def vz (K:Ia):Sp:=λvs H Q _=>∃ t b:Int,vs=[.int t,.int b]/\b≠0/\Sm 8000 b/\Sh K H t b Q
theorem fS (T:Glo K mg w){dvs:List V}(D:Dfn K mg "share" gH ["top","below"] dvs):Cal P w K mg base CX0 2 "share" ["top","below"] dvs (vz K):=by
 refine D.cal qH (λvs H Q E h=>?_) (λf cdv A outer s H vs Q E hr h=>?_)
 ·obtain⟨t,b,rfl,_⟩:=h;rfl
 ·obtain⟨t,b,rfl,hb,sb,q⟩:=h;refine⟨_,(WSs.go (ab (a_ (WW.pt (eI (aV (aS (ae aK (fb T) hr (aO (wpv 0))))) (dD (aV (aS (ae aK (fb T) hr (aO (wpv 1)))))))) (af bw) aE)
   (ab (a_ (aU eE (wpv 1) aa (aX _)) (af bw) aE)
   (ab (au 2 qH.nd (ae aK (fg T) hr (aR (wpv 0) (wpv 1))))
   (ab (a_ (aU wx (wpv 1) aa (aX _)) (af (au 2 qH.nd (vN vm (wpv 2)))) aE)
   (af (ap (aI (aR (ar cL (wpv 0) (wpv 2)) (ar cL (wpv 1) (wpv 2))))))))))),?_⟩
  refine⟨_,rfl,_,_,rfl,.int t,_,rfl,cQ ?_⟩;refine⟨_,rfl,_,_,rfl,.int b,_,rfl,cQ ?_⟩;refine⟨_,rfl,_,_,rfl,rfl,_,rfl,?_⟩;refine lF (λhc=>absurd (JP hc) hb) (λ_=>?_);refine⟨_,rfl,_,rfl,t,b,rfl,?_⟩;refine⟨_,rfl,_,_,rfl,rfl,_,rfl,?_⟩;have gb:Sm 8000 (JQ t b:Int):=sb.le (B5 hb);have gn:(JQ t b:Int)≠0:=by
   have:=Lp t hb;omega
  refine lF (λhc=>?_) (λhc=>?_)
  ·have hc:=JP hc;refine⟨_,rfl,_,rfl,?_⟩;refine⟨_,rfl,_,rfl,_,_,rfl,rfl,⟨by omega,gb.neg⟩,_,rfl,_,rfl,_,_,rfl,rfl,⟨by omega,gb.neg⟩,le2,λp hp=>?_⟩;exact q _ _ _ _ (aj.new hp) (nj ac) (Ac hb rfl (by rw[Jh hc]))
  ·have hc:¬ (b<0):=λz=>hc (Ir z)
   refine⟨_,rfl,_,rfl,_,_,rfl,rfl,⟨gn,gb⟩,_,rfl,_,rfl,_,_,rfl,rfl,⟨gn,gb⟩,le2,λp hp=>?_⟩;exact q _ _ _ _ (aj.new hp) (nj ac) (Ac hb rfl (by rw[IY hc]))
theorem BN:am ["one","other"] ["one","other"] (ag vf):=scM
def BX (K:Ia):Sp:=λvs H Q _=>∃ x y n d m e,vs=[x,y]/\IsD K H (shD n d) x/\IsD K H (shD m e) y/\Ok 3900 n d/\Ok 3900 m e/\Sh K H (n*e+m*d) (d*e) Q
theorem AI (T:Glo K mg w):Cal P w K mg base CX0 4 "added" ["one","other"] [] (BX K):=by
 refine T.x18.cal BN (λvs H Q E h=>?_) (λf cdv A outer s H vs Q E hr h=>?_)
 ·obtain⟨x,y,n,d,m,e,rfl,_⟩:=h;rfl
 ·obtain⟨x,y,n,d,m,e,rfl,hx,hy,ox,oy,q⟩:=h;obtain⟨a,rfl,ha⟩:=bn hx;obtain⟨b,rfl,hb⟩:=bn hy;refine⟨_,(WSs.go (ab (bo (ae aK (b8 T) hr (aO (wpv 0))))
   (ab (bo (ae aK (b8 T) hr (aO (wpv 1))))
   (af (ap (ae aK (fS T T.xd) hr (aR (ar cP (ar aG (ak K (wpv 0) aa) (ak K (wpv 1) aa)) (ar aG (ak K (wpv 1) aa) (ak K (wpv 0) aa))) (ar aG (ak K (wpv 0) aa) (ak K (wpv 1) aa))))))))),?_⟩
  refine⟨_,rfl,_,_,rfl,hx,ox.shB,?_⟩;refine⟨_,rfl,_,_,rfl,hy,oy.shB,?_⟩;have c:∀ {i j:Int},Sm 3900 i->Sm 3900 j->pK i j:=λh1 h2=>.inl ⟨h1.mono (by decide),h2.mono (by decide)⟩
  refine⟨_,rfl,dH ha ⟨_,rfl,cE hb ⟨_,_,rfl,rfl,c ox.sn oy.sd,?_⟩⟩⟩;refine⟨_,rfl,dH hb ⟨_,rfl,cE ha ⟨_,_,rfl,rfl,c oy.sn ox.sd,_,_,rfl,rfl,?_⟩⟩⟩;refine⟨_,rfl,cE ha ⟨_,rfl,cE hb ⟨_,_,rfl,rfl,c ox.sd oy.sd,?_⟩⟩⟩;exact⟨_,_,rfl,Jf ox.ne oy.ne,(ox.sd.mul oy.sd).mono (by decide),q⟩
theorem qd:am ["one","other"] ["one","other"] (ag im):=scM
def qM (K:Ia):Sp:=λvs H Q _=>∃ x y n d m e,vs=[x,y]/\IsD K H (shD n d) x/\IsD K H (shD m e) y/\Ok 3900 n d/\Ok 3900 m e/\Sh K H (n*m) (d*e) Q
theorem qj (T:Glo K mg w):Cal P w K mg base CX0 4 "multiplied" ["one","other"] [] (qM K):=by
 refine T.x19.cal qd (λvs H Q E h=>?_) (λf cdv A outer s H vs Q E hr h=>?_)
 ·obtain⟨x,y,n,d,m,e,rfl,_⟩:=h;rfl
 ·obtain⟨x,y,n,d,m,e,rfl,hx,hy,ox,oy,q⟩:=h;obtain⟨a,rfl,ha⟩:=bn hx;obtain⟨b,rfl,hb⟩:=bn hy;refine⟨_,(WSs.go (ab (bo (ae aK (b8 T) hr (aO (wpv 0))))
   (ab (bo (ae aK (b8 T) hr (aO (wpv 1))))
   (af (ap (ae aK (fS T T.xd) hr (aR (ar aG (ak K (wpv 0) aa) (ak K (wpv 1) aa)) (ar aG (ak K (wpv 0) aa) (ak K (wpv 1) aa))))))))),?_⟩
  refine⟨_,rfl,_,_,rfl,hx,ox.shB,?_⟩;refine⟨_,rfl,_,_,rfl,hy,oy.shB,?_⟩;have c:∀ {i j:Int},Sm 3900 i->Sm 3900 j->pK i j:=λh1 h2=>.inl ⟨h1.mono (by decide),h2.mono (by decide)⟩
  refine⟨_,rfl,dH ha ⟨_,rfl,dH hb ⟨_,_,rfl,rfl,c ox.sn oy.sn,?_⟩⟩⟩;refine⟨_,rfl,cE ha ⟨_,rfl,cE hb ⟨_,_,rfl,rfl,c ox.sd oy.sd,?_⟩⟩⟩;exact⟨_,_,rfl,Jf ox.ne oy.ne,(ox.sd.mul oy.sd).mono (by decide),q⟩
theorem uP:am ["one"] ["one"] (ag kY):=scM
def uJ (K:Ia):Sp:=λvs H Q _=>∃ x n d,vs=[x]/\IsD K H (shD n d) x/\Ok 3900 n d/\Q (.int (n.fdiv d)) H
theorem u8 (T:Glo K mg w):Cal P w K mg base CX0 4 "floor_of" ["one"] [] (uJ K):=by
 refine T.x1a.cal uP (λvs H Q E h=>?_) (λf cdv A outer s H vs Q E hr h=>?_)
 ·obtain⟨x,n,d,rfl,_⟩:=h;rfl
 ·obtain⟨x,n,d,rfl,hx,ox,q⟩:=h;obtain⟨a,rfl,ha⟩:=bn hx;refine⟨_,(WSs.go (ab (bo (ae aK (b8 T) hr (aO (wpv 0))))
   (af (ap (ar cL (ak K (wpv 0) aa) (ak K (wpv 0) aa)))))),?_⟩
  refine⟨_,rfl,_,_,rfl,hx,ox.shB,?_⟩;exact⟨_,rfl,dH ha ⟨_,rfl,cE ha ⟨_,_,rfl,rfl,⟨ox.ne,ox.sd.mono (by decide)⟩,q⟩⟩⟩
theorem xI:am ["one","other"] ["one","other"] (ag mX):=scM
def wI (K:Ia):Sp:=λvs H Q _=>∃ (x y:V) (p q:Rat),vs=[x,y]/\IsD K H (rD p) x/\IsD K H (rD q) y/\Bq 3900 p/\Bq 3900 q/\Q (.bl (decide (p<q))) H
theorem wS (T:Glo K mg w):Cal P w K mg base CX0 1 "is_less" ["one","other"] [] (wI K):=by
 refine T.x1b.cal xI (λvs H Q E h=>?_) (λf cdv A outer s H vs Q E hr h=>?_)
 ·obtain⟨x,y,p,q,rfl,_⟩:=h;rfl
 ·obtain⟨x,y,p,r,rfl,hx,hy,ox,oy,q⟩:=h;obtain⟨a,rfl,ha⟩:=bn hx;obtain⟨b,rfl,hb⟩:=bn hy;refine⟨_,(WSs.go (af (ap (bM wx (ar aG (ak K (wpv 0) aa) (ak K (wpv 1) aa)) (ar aG (ak K (wpv 1) aa) (ak K (wpv 0) aa)) (aX _))))),?_⟩;have c:∀ {i j:Int},Sm 3900 i->Sm 3900 j->pK i j:=λh1 h2=>.inl ⟨h1.mono (by decide),h2.mono (by decide)⟩
  refine⟨_,rfl,dH ha ⟨_,rfl,cE hb ⟨_,_,rfl,rfl,c ox.sn oy.sd,?_⟩⟩⟩;refine⟨_,rfl,dH hb ⟨_,rfl,cE ha ⟨_,_,rfl,rfl,c oy.sn ox.sd,_,_,rfl,rfl,?_⟩⟩⟩;rw[show decide (p<r)=decide (p.num*(r.den:Int)<r.num*(p.den:Int)) from Op.mpr (Rat.lt_iff p r)] at q;exact q
theorem j9:am ["many","total","one"] ["many"] (ag pO):=scM
def yP (K:Ia):Sp:=λvs H Q _=>∃ (x:V) (k:Bool) (b:Nat) (rs:List Rat),vs=[x]/\IsD K H (Ed k (rs.map rD)) x/\(∀ r∈rs,Bq b r)/\b<=3900/\rs.length*(b+1)+1<=3900/\ShQ K H (Eh rs) Q
theorem yJ (T:Glo K mg w):Cal P w K mg base CX0 5 "sum_of" ["many"] [] (yP K):=by
 refine T.x1c.cal j9 (λvs H Q E h=>?_) (λf cdv A outer s H vs Q E hr h=>?_)
 ·obtain⟨x,k,b,rs,rfl,_⟩:=h;rfl
 ·obtain⟨x,k,b,rs,rfl,hx,br,b1,b2,q⟩:=h;obtain⟨a,xs,rfl,ha,hxs⟩:=aH hx;have lx:=hxs.length;rw[Ij] at lx;refine⟨_,(WSs.go (ab (au 1 j9.nd (ae aK (fS T T.x17) hr (aO aa)))
   (ab (dX Jq rfl (bh (K:=K) rfl (wpv 0)) (ah 2 j9.nd) (af (au 1 j9.nd (ae aK (AI T) hr (aR (wpv 1) (wpv 2))))))
   (af (ap (wpv 1)))))),?_⟩
  refine⟨0,1,rfl,by decide,by unfold Sm;decide,λv n d H1 s1 hv lw=>?_⟩;obtain⟨rfl,rfl⟩:=kZ (by decide) lw (Bu 1);have ha1:=SqB.same s1 ha;refine⟨_,rfl,a,k,rfl,⟨_,ha1⟩,kU (λi σ H'=>∃ v o2,σ=[some (.ref a),some v,o2]/\aj H1 H'/\IsD K H' (rD (Eh (rs.take i))) v)
   ⟨_,_,rfl,aj.refl _,hv⟩ (λi σ H2 hi ⟨_,_,_,s2,_⟩=>SqB.same s2 ha1) ?_ ?_⟩
  ·rintro i w σ H2 ew ⟨v,o2,rfl,s2,hv2⟩;obtain⟨d,ed,hd⟩:=(aD.same (s1.trans s2) hxs).get ew;obtain⟨r,er,rfl⟩:=uI ed;have hi:i<rs.length:=(Iu.mp er).1;refine⟨_,rfl,_,rfl,_,_,_,_,_,_,rfl,hv2,hd,((Ad br i (by omega)).mono ?_),(br r (IM er)).mono b1,ShQ.add λv5 H5 s5 hv5=>?_⟩
   ·exact IS (Nat.add_le_add_right (O4 _ (Kj hi)) 1) b2
   ·exact⟨v5,_,rfl,s2.trans s5,by rw[b9 er,tW];exact hv5⟩
  ·rintro σ H2 ⟨v,o2,rfl,s2,hv2⟩;rw[<- lx,Li] at hv2;exact⟨_,rfl,q _ _ (s1.trans s2) hv2⟩
theorem qZ:am ["one","least","most"] ["one","least","most"] (ag jr):=scM
def rf (K:Ia):Sp:=λvs H Q _=>∃ (x:V) (p:Rat) (l m:Int),vs=[x,.int l,.int m]/\IsD K H (rD p) x/\Bq 3900 p/\Sm 60 l/\Sm 60 m/\Q (.bl (decide (l*(p.den:Int)<=p.num)&&decide (p.num<=m*(p.den:Int)))) H
theorem lJ (T:Glo K mg w):Cal P w K mg base CX0 1 "is_within" ["one","least","most"] [] (rf K):=by
 refine T.x1d.cal qZ (λvs H Q E h=>?_) (λf cdv A outer s H vs Q E hr h=>?_)
 ·obtain⟨x,p,l,m,rfl,_⟩:=h;rfl
 ·obtain⟨x,p,l,m,rfl,hx,ox,sl,sm,q⟩:=h;obtain⟨a,rfl,ha⟩:=bn hx;refine⟨_,(WSs.go (af (ap (tm tX tX (ar aG (wpv 1) (ak K (wpv 0) aa)) (ak K (wpv 0) aa) (ar aG (wpv 2) (ak K (wpv 0) aa)))))),?_⟩;refine⟨_,rfl,_,rfl,cE ha ⟨_,_,rfl,rfl,.inr (sl.mono (by decide)),_,rfl,dH ha ⟨_,_,rfl,rfl,_,rfl,?_⟩⟩⟩;cases hc:decide (l*(p.den:Int)<=p.num) with
  |true=>
   rw[hc,N7] at q;exact bQ ⟨_,rfl,_,rfl,cE ha ⟨_,_,rfl,rfl,.inr (sm.mono (by decide)),_,_,rfl,rfl,q⟩⟩
  |false=>
   rw[hc,LM] at q;exact cQ q
theorem cM:am ["numbers","below","number"] ["numbers"] (ag eT):=scM
def kE (K:Ia):Sp:=λvs H Q _=>∃ (x:V) (k:Bool) (b:Nat) (rs:List Rat),vs=[x]/\IsD K H (Ed k (rs.map rD)) x/\(∀ r∈rs,Bq b r)/\rs.length<=500/\b<=7900/\rs.length*b+b+1<=7900/\∀ (v:V) (H':Hp),aj H H'->IsD K H' (.tuple [.list (rs.map λr=>.int (ov (fH rs) r)),.int (fH rs)]) v->Q v H'
theorem kJ (T:Glo K mg w):Cal P w K mg base CX0 1 "over_one_below" ["numbers"] [] (kE K):=by
 refine T.x1e.cal cM (λvs H Q E h=>?_) (λf cdv A outer s H vs Q E hr h=>?_)
 ·obtain⟨x,k,b,rs,rfl,_⟩:=h;rfl
 ·obtain⟨x,k,b,rs,rfl,hx,br,l5,b7,lb,q⟩:=h;obtain⟨a,xs,rfl,ha,hxs⟩:=aH hx;have lx:=hxs.length;rw[Ij] at lx;refine⟨_,(WSs.go (ab (au 1 cM.nd aa)
   (ab (dX Jq rfl (bh (K:=K) rfl (wpv 0)) (ah 2 cM.nd) (af (u_ (i:=1) cM.nd rfl (by first|exact Qv rfl|exact O8 rfl) (ak K (wpv 2) aa) CI)))
   (af (ap (aI (aR (ax ["top","part"] ["below"] [1] 2 (bh (K:=K) rfl (wpv 0)) (λnd=>(dF (K:=K) (n:=2) rfl rfl (av (ah 0 nd) (av (ah 1 nd) bt)))) aw (ar aG (wpv 0) (ar cL (wpv 2) (wpv 1)))) (wpv 1)))))))),?_⟩
  refine⟨_,rfl,a,k,rfl,⟨_,ha⟩,kU (λi σ H'=>∃ o2,σ=[some (.ref a),some (.int (fH (rs.take i))),o2]/\H'=H)
   ⟨_,rfl,rfl⟩ (λi σ H2 hi ⟨_,_,e⟩=>e▸ha) ?_ ?_⟩
  ·rintro i w σ H2 ew ⟨o2,rfl,rfl⟩;obtain⟨d,ed,hd⟩:=hxs.get ew;obtain⟨r,er,rfl⟩:=uI ed;have hi:i<rs.length:=(Iu.mp er).1;have k1:=(j8 br i (by omega)).2;have k2:=br r (IM er);have hm:i*b<=rs.length*b:=O4 _ (Kj hi);obtain⟨wa,rfl,hw⟩:=bn hd;refine⟨_,rfl,_,rfl,cE hw ⟨_,_,rfl,rfl,.inl ⟨k1.mono (by omega),k2.sd.mono (by omega)⟩,some (.ref wa),?_,rfl⟩⟩;rw[b9 er,pq];rfl
  ·rintro σ H2 ⟨o2,rfl,rfl⟩;rw[<- lx,Li];obtain⟨B0,BS⟩:=j8 br rs.length (Il _);rw[Li] at B0 BS;refine⟨_,rfl,a,k,rfl,⟨_,ha⟩,bx (es:=rs.map λr=>.int (ov (fH rs) r)) ha hxs (by simp) (by simp;omega) (λi d e u H1 hd he s1 hu R kk S=>?_) (λzs H1 s1 hzs D hD=>?_)⟩
   ·obtain⟨r,er,rfl⟩:=uI hd;rw[Ix,er] at he;cases he;obtain⟨wa,rfl,hw⟩:=bn hu;have k2:=br r (IM er);have dp:=k2.pos;have ed:(fH rs).fdiv (r.den:Int)=fH rs/(r.den:Int):=JF _ (by omega);refine⟨wa,_,rfl,SqT.of hw,rfl,_,_,rfl,_,_,rfl,rfl,bQ (B:=S H1) ?_⟩;refine⟨_,rfl,_,rfl,_,rfl,_,_,rfl,rfl,⟨by omega,k2.sd.mono (by omega)⟩,_,_,rfl,rfl,.inl ⟨k2.sn.mono (by omega),?_⟩,kk _ _ ⟨aj.refl _,?_⟩⟩
    ·rw[ed];have e1:fH rs/(r.den:Int)<=fH rs:=Int.ediv_le_self _ (by omega);have e2:0<=fH rs/(r.den:Int):=OC (by omega) (by omega);exact(show Sm _ _ from by unfold Sm at BS ⊢;omega:Sm (rs.length*b+1) (fH rs/(r.den:Int))).mono (by omega)
    ·rw[ed];exact .int _
   ·refine⟨_,rfl,le2,λT hT=>?_⟩;have sD:aj H1 (upd H1 D (.lst zs)):=aj.new hD;exact q _ _ ((s1.trans sD).trans (aj.new hT)) (IsD.tupN hT (.cons (IsD.listN hD hzs) (.cons (.int _) .nil)))
theorem t9:am ["thing"] ["thing"] (ag iY):=scM
def tN (K:Ia):Sp:=λvs H Q _=>∃ (x:V) (p r t:Rat),vs=[x]/\IsD K H (G1 p r t) x/\∀ H',aj H H'->Q (.bl true) H'
theorem lC (T:Glo K mg w):Cal P w K mg base CX0 3 "is_colour" ["thing"] [] (tN K):=by
 refine T.x1f.cal t9 (λvs H Q E h=>?_) (λf cdv A outer s H vs Q E hr h=>?_)
 ·obtain⟨x,p,r,t,rfl,_⟩:=h;rfl
 ·obtain⟨x,p,r,t,rfl,hx,q⟩:=h;refine⟨_,(WSs.go (af (ap (c7 (aq (lS (K:=K) rfl) (by rfl) T.x3 aA (aR (wpv 0) (bO (v:=.ty "tuple") rfl T.x1 be rfl))) (c7 (bM eE (aq (h_ (K:=K) rfl) (by rfl) T.x2 df (aO (wpv 0))) aa (aX _)) (fq (aq (oW (K:=K) rfl rfl) (by rfl) T.x6 iV (aO (ax ["number"] [] [] 1 (bh (K:=K) rfl (wpv 0)) (λnd=>(ah 0 nd)) aw (ae aK (jc T) hr (aO (wpv 0)))))))))))),?_⟩;refine⟨_,rfl,_,_,_,true,rfl,hx.ty,(show jC "tuple" "tuple"=some true by decide +kernel),_,rfl,bQ ?_⟩;obtain⟨a,xs,rfl,ha,hds⟩:=aH (b:=false) hx;have hl:=hds.length;refine⟨_,rfl,a,_,rfl,nO ha,_,_,rfl,rfl,true,nr (by rw[<- hl];rfl),bQ ?_⟩;have sh:∀ z:Rat,shB (rD z)=true:=λz=>(show Ok (z.num.natAbs+z.den) z.num z.den from⟨by have:=z.den_pos;omega,z.reduced,by unfold Sm;exact IA (LY) (K9 (by decide) (Lj _ _)),by unfold Sm;exact IA (LY) (K9 (by decide) (Nat.le_add_left _ _))⟩).shB
  refine⟨_,rfl,a,false,rfl,⟨_,ha⟩,jX (f:=λd=>.bool (shB d)) ha hds (by show 3<=1000;decide) (λi d x H2 hd s2 hx2 R kk S=>?_) (λys H2 s2 hys D hD=>?_)⟩
  ·exact bQ (B:=S H2) ⟨_,rfl,x,d,rfl,hx2,kk _ _ ⟨aj.refl _,.bl _⟩⟩
  ·have hys:aD K H2 (([rD p,rD r,rD t].map shB).map LZ) ys:=by rw[L_];exact hys
   have e:=eU hys;subst e;refine⟨D,_,rfl,SqL.of ac,?_⟩;have e:([rD p,rD r,rD t].map shB).all id=true:=by
    show(shB (rD p)&&(shB (rD r)&&(shB (rD t)&&true)))=true;rw[sh p,sh r,sh t];rfl
   rw[e];exact q _ (s2.trans (aj.new hD))
theorem yd:am ["thing"] ["thing"] (ag pS):=scM
def zI (K:Ia):Sp:=λvs H Q _=>∃ x k r,vs=[x]/\IsD K H (gE k r) x/\R3.In r 4000/\∀ H',aj H H'->Q (.bl true) H'
theorem zw (T:Glo K mg w):Cal P w K mg base CX0 3 "is_row" ["thing"] [] (zI K):=by
 refine T.x1g.cal yd (λvs H Q E h=>?_) (λf cdv A outer s H vs Q E hr h=>?_)
 ·obtain⟨x,k,r,rfl,_⟩:=h;rfl
 ·obtain⟨x,k,r,rfl,hx,hin,q⟩:=h;refine⟨_,(WSs.go (ab (a_ (WW.pt (eI (aV (aS (aq (zP (K:=K) rfl) (by rfl) T.x3 aA (aR (wpv 0) (aI (aR (bO (v:=.ty "list") rfl T.x7 f8 rfl) (bO (v:=.ty "tuple") rfl T.x1 be rfl))))))) (dD (aU nh (aq (h_ (K:=K) rfl) (by rfl) T.x2 df (aO (wpv 0))) aa (aX _))))) (af (ap iX)) aE)
   (af (ap (aq (oW (K:=K) rfl rfl) (by rfl) T.x6 iV (aO (ax ["number"] [] [] 1 (bh (K:=K) rfl (wpv 0)) (λnd=>(ah 0 nd)) aw (ae aK (dG T) hr (ai (wpv 0) (ai (vN vm (cH rfl T.xg)) (ai (cH rfl T.xg) aN))))))))))),?_⟩
  refine⟨_,rfl,le2,λp hp=>?_⟩;have s1:aj H (upd H p (.tup [.ty "list",.ty "tuple"])):=aj.new hp;generalize hH1:upd H p (.tup [.ty "list",.ty "tuple"])=H1 at s1 ⊢;have hp1:H1 p=some (.tup [.ty "list",.ty "tuple"]):=by rw[<- hH1];exact ac
  have hx1:=IsD.same s1 hx;obtain⟨T',ty,ek⟩:=Cf hx1;refine⟨_,_,p,_,_,true,rfl,ty,hp1,ek,_,rfl,cQ ?_⟩;obtain⟨a,rfl,ha⟩:=kD hx1;refine⟨_,rfl,a,_,rfl,nO ha,_,_,rfl,rfl,_,rfl,cQ ?_⟩;obtain⟨a',xs,e',hs',hds⟩:=aH hx1;cases e';refine⟨_,rfl,a,k,rfl,⟨_,hs'⟩,jX (f:=λd=>.bool (wwB (-4000) 4000 d)) hs' hds (by show 3<=1000;decide) (λi d x H2 hd s2 hx2 R kk S=>?_) (λys H2 s2 hys D hD=>?_)⟩
  ·exact bQ (B:=S H2) ⟨_,rfl,_,rfl,x,d,-4000,4000,rfl,hx2,kk _ _ ⟨aj.refl _,.bl _⟩⟩
  ·have hys:aD K H2 ((r.ds.map (wwB (-4000) 4000)).map LZ) ys:=by rw[L_];exact hys
   have e:=eU hys;subst e;refine⟨D,_,rfl,SqL.of ac,?_⟩;have e:(r.ds.map (wwB (-4000) 4000)).all id=true:=by
    obtain⟨a1,a2,b1,b2,c1,c2⟩:=hin;show((decide (-4000<=r.a)&&decide (r.a<=4000))&&((decide (-4000<=r.b)&&decide (r.b<=4000))&&((decide (-4000<=r.c)&&decide (r.c<=4000))&&true)))=true;rw[Ir a1,Ir a2,Ir b1,Ir b2,Ir c1,Ir c2];rfl
   rw[e];exact q _ ((s1.trans s2).trans (aj.new hD))
theorem sV:am ["thing"] ["thing"] (ag jq):=scM
def tu (K:Ia):Sp:=λvs H Q _=>∃ (x:V) (s:S9),vs=[x]/\IsD K H s.d x/\s.In/\∀ H',aj H H'->Q (.bl true) H'
theorem tD (T:Glo K mg w):Cal P w K mg base CX0 4 "is_square" ["thing"] [] (tu K):=by
 refine T.x1h.cal sV (λvs H Q E h=>?_) (λf cdv A outer s H vs Q E hr h=>?_)
 ·obtain⟨x,sq,rfl,_⟩:=h;rfl
 ·obtain⟨x,sq,rfl,hx,hin,q⟩:=h;refine⟨_,(WSs.go (af (ap (c7 (aq (zP (K:=K) rfl) (by rfl) T.x3 aA (aR (wpv 0) (aI (aR (bO (v:=.ty "list") rfl T.x7 f8 rfl) (bO (v:=.ty "tuple") rfl T.x1 be rfl))))) (c7 (bM eE (aq (h_ (K:=K) rfl) (by rfl) T.x2 df (aO (wpv 0))) aa (aX _)) (fq (aq (oW (K:=K) rfl rfl) (by rfl) T.x6 iV (aO (ax ["row"] [] [] 1 (bh (K:=K) rfl (wpv 0)) (λnd=>(ah 0 nd)) aw (ae aK (zw T) hr (aO (wpv 0)))))))))))),?_⟩;refine⟨_,rfl,le2,λp hp=>?_⟩;have s1:aj H (upd H p (.tup [.ty "list",.ty "tuple"])):=aj.new hp;generalize hH1:upd H p (.tup [.ty "list",.ty "tuple"])=H1 at s1 ⊢;have hp1:H1 p=some (.tup [.ty "list",.ty "tuple"]):=by rw[<- hH1];exact ac
  have hx1:=IsD.same s1 hx;obtain⟨T',ty,ek⟩:=Cf hx1;refine⟨_,_,p,_,_,true,rfl,ty,hp1,ek,_,rfl,bQ ?_⟩;obtain⟨a,xs,rfl,ha,hds⟩:=aH hx1;have hl:=hds.length;refine⟨_,rfl,a,_,rfl,nO ha,_,_,rfl,rfl,true,nr (by rw[<- hl];rfl),bQ ?_⟩;refine⟨_,rfl,a,sq.k,rfl,⟨_,ha⟩,jX (f:=λ_=>.bool true) ha hds (by show 3<=1000;decide) (λi d x H2 hd s2 hx2 R kk S=>?_) (λys H2 s2 hys D hD=>?_)⟩
  ·refine bQ (B:=S H2) ⟨_,rfl,?_⟩
   match i,hd with
   |0,hd=>cases(Ie hd);exact⟨x,_,_,rfl,hx2,hin.x,λH' s'=>kk _ _ ⟨s',.bl _⟩⟩
   |1,hd=>cases(Ie hd);exact⟨x,_,_,rfl,hx2,hin.y,λH' s'=>kk _ _ ⟨s',.bl _⟩⟩
   |2,hd=>cases(Ie hd);exact⟨x,_,_,rfl,hx2,hin.z,λH' s'=>kk _ _ ⟨s',.bl _⟩⟩
   |n+3,hd=>simp[S9.rows] at hd
  ·have e:=eU (bs:=[true,true,true]) hys;subst e;exact⟨D,[true,true,true],rfl,SqL.of ac,q _ ((s1.trans s2).trans (aj.new hD))⟩
theorem jt:am ["thing"] ["thing"] (ag dk):=scM
def i_ (K:Ia):Sp:=λvs H Q _=>∃ (x:V) (s:S9),vs=[x]/\IsD K H s.d x/\s.In/\∀ H',aj H H'->Q .non H'
theorem fm (T:Glo K mg w):Cal P w K mg base CX0 5 "refuse_no_square" ["thing"] [] (i_ K):=by
 refine T.x1i.cal jt (λvs H Q E h=>?_) (λf cdv A outer s H vs Q E hr h=>?_)
 ·obtain⟨x,sq,rfl,_⟩:=h;rfl
 ·obtain⟨x,sq,rfl,hx,hin,q⟩:=h;refine⟨_,(WSs.go (af (a_ (aV (aS (ae aK (tD T) hr (aO (wpv 0))))) (af bw) aE))),?_⟩;exact⟨_,rfl,x,sq,rfl,hx,hin,λH' s'=>⟨_,rfl,cQ (q _ s')⟩⟩
theorem jv:am ["thing"] ["thing"] (ag dh):=scM
def jx (K:Ia):Sp:=λvs H Q _=>∃ (x:V) (p r t:Rat),vs=[x]/\IsD K H (G1 p r t) x/\∀ H',aj H H'->Q .non H'
theorem jp (T:Glo K mg w):Cal P w K mg base CX0 4 "refuse_no_colour" ["thing"] [] (jx K):=by
 refine T.x1j.cal jv (λvs H Q E h=>?_) (λf cdv A outer s H vs Q E hr h=>?_)
 ·obtain⟨x,p,r,t,rfl,_⟩:=h;rfl
 ·obtain⟨x,p,r,t,rfl,hx,q⟩:=h;refine⟨_,(WSs.go (af (a_ (aV (aS (ae aK (lC T) hr (aO (wpv 0))))) (af bw) aE))),?_⟩;exact⟨_,rfl,x,p,r,t,rfl,hx,λH' s'=>⟨_,rfl,cQ (q _ s')⟩⟩
theorem tP:am ["row","other"] ["row","other"] (ag jd):=scM
def oA (K:Ia):Sp:=λvs H Q _=>∃ (a b:Iv) (k j:Bool) (ns ms:List Int),vs=[.ref a,.ref b]/\SqB K H a (ns.map V.int) k/\SqB K H b (ms.map V.int) j/\ns.length=ms.length/\ns.length<=1000/\(∀ n∈ns,Sm 8000 n)/\(∀ m∈ms,Sm 8000 m) /\
 ∀ H',aj H H'->Q (.int (Ma (·*·) ns ms).sum) H'
theorem oM (T:Glo K mg w):Cal P w K mg base CX0 1 "whole_sum" ["row","other"] [] (oA K):=by
 refine T.x1k.cal tP (λvs H Q E h=>?_) (λf cdv A outer s H vs Q E hr h=>?_)
 ·obtain⟨a,b,k,j,ns,ms,rfl,_⟩:=h;rfl
 ·obtain⟨a,b,k,j,ns,ms,rfl,ha,hb,hl,h10,sn,sm,q⟩:=h;refine⟨_,(WSs.go (af (ap (aq (Ce (K:=K) rfl rfl) (by rfl) T.xm Cp (aO (ax ["part","number"] [] [] 2 (lr (K:=K) rfl rfl T.x8 (aR (wpv 0) (wpv 1))) (λnd=>(dF (K:=K) (n:=2) rfl rfl (av (ah 0 nd) (av (ah 1 nd) bt)))) aw (ar aG (wpv 0) (wpv 1)))))))),?_⟩;refine⟨_,rfl,_,rfl,a,b,k,j,rfl,⟨_,ha⟩,⟨_,hb⟩,iC (fs:=(Ma (·*·) ns ms).map KM) ha hb (iP ns) (iP ms) (by simp[hl]) (by simp[hl]) (by simp;omega) (λi d e g x y T H1 hd he hg s1 hx hy hT R kk S=>?_) (λzs H1 s1 hzs D hD=>?_)⟩
  ·rw[Ix] at hd he hg;obtain⟨n,en,rfl⟩:=IG.mp hd;obtain⟨m,em,rfl⟩:=IG.mp he;obtain⟨z,ez,rfl⟩:=IG.mp hg;rw[MS] at ez;obtain⟨n',m',en',em',rfl⟩:=ez;rw[en] at en';rw[em] at em';cases en';cases em';cases hx;cases hy;exact⟨T,_,rfl,SqT.of hT,rfl,_,_,rfl,_,_,rfl,rfl,bQ (B:=S H1) ⟨_,rfl,_,rfl,_,_,rfl,rfl,.inl ⟨sn _ (IM en),sm _ (IM em)⟩,kk _ _ ⟨aj.refl _,.int _⟩⟩⟩
  ·have e:=cN hzs;subst e;exact⟨D,_,rfl,SqL.of ac,q _ (s1.trans (aj.new hD))⟩
theorem rQ:am ["row","colour"] ["row","colour"] (ag jG):=scM
def lE (K:Ia):Sp:=λvs H Q _=>∃ (x y:V) (k:Bool) (p c:Q3),vs=[x,y]/\IsD K H (Ed k p.ds) x/\IsD K H c.col y/\p.Bd 600/\c.Bd 600/\ShQ K H (zr p c) Q
theorem sY (T:Glo K mg w):Cal P w K mg base CX0 6 "share_sum" ["row","colour"] [] (lE K):=by
 refine T.x1l.cal rQ (λvs H Q E h=>?_) (λf cdv A outer s H vs Q E hr h=>?_)
 ·obtain⟨x,y,k,p,c,rfl,_⟩:=h;rfl
 ·obtain⟨x,y,k,p,c,rfl,hx,hy,bp,bc,q⟩:=h;obtain⟨a,xs,rfl,ha,hxs⟩:=aH hx;obtain⟨b,ys,rfl,hb,hys⟩:=aH (b:=false) hy;refine⟨_,(WSs.go (af (ap (ae aK (yJ T) hr (aO (ax ["part","number"] [] [] 2 (lr (K:=K) rfl rfl T.x8 (aR (wpv 0) (wpv 1))) (λnd=>(dF (K:=K) (n:=2) rfl rfl (av (ah 0 nd) (av (ah 1 nd) bt)))) aw (ae aK (qj T) hr (aR (wpv 0) (wpv 1))))))))),?_⟩;refine⟨_,rfl,_,rfl,a,b,k,false,rfl,⟨_,ha⟩,⟨_,hb⟩,iC (fs:=(Q3.mk (p.a*c.a) (p.b*c.b) (p.c*c.c)).ds) ha hb hxs hys rfl rfl (by show 3<=1000;decide) (λi d e f u v T H1 hd he hf s1 hu hv hT R kk S=>?_) (λzs H1 s1 hzs D hD=>?_)⟩
  ·refine⟨T,_,rfl,SqT.of hT,rfl,_,_,rfl,_,_,rfl,rfl,bQ (B:=S H1) ?_⟩;obtain⟨P,C,rfl,rfl,rfl,bP,bC⟩:∃ P C:Rat,d=rD P/\e=rD C/\f=rD (P*C)/\Bq 600 P/\Bq 600 C:=by
    rcases at3 hd with ⟨rfl,rfl⟩|⟨rfl,rfl⟩|⟨rfl,rfl⟩
    ·cases(Ie he);cases(Ie hf);exact⟨_,_,rfl,rfl,rfl,bp.a,bc.a⟩
    ·cases(Ie he);cases(Ie hf);exact⟨_,_,rfl,rfl,rfl,bp.b,bc.b⟩
    ·cases(Ie he);cases(Ie hf);exact⟨_,_,rfl,rfl,rfl,bp.c,bc.c⟩
   exact⟨_,rfl,_,rfl,_,_,_,_,_,_,rfl,hu,hv,bP.mono (by decide),bC.mono (by decide),ShQ.mul λv4 H4 s4 hv4=>kk _ _ ⟨s4,hv4⟩⟩
  ·refine⟨.ref D,true,1200,[p.a*c.a,p.b*c.b,p.c*c.c],rfl,IsD.listN hD hzs,λr hr=>?_,by decide,by show 3*(1200+1)+1<=3900;decide,λv5 H5 s5 hv5=>q v5 H5 ((s1.trans (aj.new hD)).trans s5) hv5⟩;rcases Iy.mp hr with rfl|hr
   ·exact bp.a.mul bc.a
   ·rcases Iy.mp hr with rfl|hr
    ·exact bp.b.mul bc.b
    ·cases Ii.mp hr;exact bp.c.mul bc.c
theorem Et:am ["square","colour"] ["square","colour"] (ag Ea):=scM
def FN (K:Ia):Sp:=λvs H Q _=>∃ (x y:V) (s:S9) (c:Q3),vs=[x,y]/\IsD K H s.d x/\s.In/\IsD K H c.col y/\c.Bd 600/\∀ v H',aj H H'->IsD K H' (s.m.led c).col v->Q v H'
theorem Ev (T:Glo K mg w):Cal P w K mg base CX0 7 "led" ["square","colour"] [] (FN K):=by
 refine T.x1m.cal Et (λvs H Q E h=>?_) (λf cdv A outer s H vs Q E hr h=>?_)
 ·obtain⟨x,y,sq,c,rfl,_⟩:=h;rfl
 ·obtain⟨x,y,sq,c,rfl,hx,hin,hy,bc,q⟩:=h;refine⟨_,(WSs.go (ab (bo (ae aK (fm T) hr (aO (wpv 0))))
   (ab (bo (ae aK (jp T) hr (aO (wpv 1))))
   (af (ap (aQ (dc (K:=K) rfl) (by rfl) T.x1 be (aO (ax ["row"] ["colour"] [1] 1 (bh (K:=K) rfl (wpv 0)) (λnd=>(ah 0 nd)) aw (ae aK (sY T) hr (aR (ax ["part"] [] [] 1 (bh (K:=K) rfl (wpv 0)) (λnd=>(ah 0 nd)) aw (ae aK (fS T T.xd) hr (aR (wpv 0) (cH rfl T.xv)))) (wpv 1))))))))))),?_⟩
  refine⟨_,rfl,x,sq,rfl,hx,hin,λH1 s1=>?_⟩;refine⟨_,rfl,y,c.a,c.b,c.c,rfl,IsD.same s1 hy,λH2 s2=>?_⟩;have s12:=s1.trans s2;have hx2:=IsD.same s12 hx;have hy2:=IsD.same s12 hy;obtain⟨a,xs,rfl,ha,hds⟩:=aH hx2;have u13:Sm 13 (1000:Int):=by unfold Sm;decide
  have row:∀ (k:Bool) (r:R3),r.In 4000->∀ (v:V) (H3:Hp) (Q4:VK),IsD K H3 (gE k r) v->IsD K H3 c.col y->ShQ K H3 (zr r.q c) Q4 ->
    wz (lE K) [] E0 (lQ (A8 (FZ K (yx 0)) (wM 0) Gg (wz (vz K) [] E0 (lQ (yx 0) (lQ (tC (.int 1000)) AV))) (Cw 1 [])) (lQ (yx 1) AV)) [some v,some y] H3 Q4:=λk r ir v H3 Q4 hv hc hq=>by
   obtain⟨b,ys,rfl,hb,hys⟩:=aH hv;refine⟨_,rfl,b,k,rfl,⟨_,hb⟩,bx (es:=r.q.ds) hb hys rfl (by show 3<=1000;decide) (λi d e u H4 hd he s4 hu R kk S=>?_) (λzs H4 s4 hzs D hD=>?_)⟩
   ·refine bQ (B:=S H4) ?_;rcases at3 hd with ⟨rfl,rfl⟩|⟨rfl,rfl⟩|⟨rfl,rfl⟩<;>(cases hu;cases(Ie he);exact⟨_,rfl,_,_,rfl,by decide,u13.mono (by decide),ShQ.sh (by decide) λv5 H5 s5 hv5=>kk _ _ ⟨s5,hv5⟩⟩)
   ·exact⟨_,rfl,.ref D,y,true,r.q,c,rfl,IsD.listN hD hzs,IsD.same (s4.trans (aj.new hD)) hc,(AM ir).mono (by decide),bc,λv5 H5 s5 hv5=>hq v5 H5 ((s4.trans (aj.new hD)).trans s5) hv5⟩
  refine⟨_,rfl,a,sq.k,rfl,⟨_,ha⟩,bx (es:=(sq.m.led c).ds) ha hds rfl (by show 3<=1000;decide) (λi d e u H3 hd he s3 hu R kk S=>?_) (λys H3 s3 hys D hD=>?_)⟩
  ·refine bQ (B:=S H3) ?_;have hy3:=IsD.same s3 hy2;rcases at3 hd with ⟨rfl,rfl⟩|⟨rfl,rfl⟩|⟨rfl,rfl⟩
   ·cases(Ie he);exact row _ _ hin.x _ _ _ hu hy3 λv5 H5 s5 hv5=>kk _ _ ⟨s5,hv5⟩
   ·cases(Ie he);exact row _ _ hin.y _ _ _ hu hy3 λv5 H5 s5 hv5=>kk _ _ ⟨s5,hv5⟩
   ·cases(Ie he);exact row _ _ hin.z _ _ _ hu hy3 λv5 H5 s5 hv5=>kk _ _ ⟨s5,hv5⟩
  ·refine⟨D,ys,rfl,.inl ⟨SqL.of ac,λl hl=>?_⟩⟩;exact q _ _ ((s12.trans s3).trans ((aj.new hD).trans (aj.new hl))) (IsD.tupN (ds:=(sq.m.led c).ds) hl (aD.same (aj.new hD) hys))
theorem ud:am ["thing"] ["thing"] (ag kL):=scM
def vh (K:Ia):Sp:=λvs H Q _=>∃ (x:V) (d:IV),vs=[x]/\IsD K H d x/\Q (.bl (wwB 2 7 d)) H
theorem uX (T:Glo K mg w):Cal P w K mg base CX0 3 "is_knots" ["thing"] [] (vh K):=by
 refine T.x1n.cal ud (λvs H Q E h=>?_) (λf cdv A outer s H vs Q E hr h=>?_)
 ·obtain⟨x,d,rfl,_⟩:=h;rfl
 ·obtain⟨x,d,rfl,hx,q⟩:=h;refine⟨_,(WSs.go (af (ap (ae aK (dG T) hr (ai (wpv 0) (ai (cH rfl T.xo) (ai (cH rfl T.xt) aN))))))),?_⟩;exact⟨_,rfl,x,d,2,7,rfl,hx,q⟩
theorem wB:am ["thing","knots"] ["thing","knots"] (ag nN):=scM
def wX (K:Ia):Sp:=λvs H Q _=>∃ (x:V) (ns:List Int) (n:Int),vs=[x,.int n]/\IsD K H (.tuple (ns.map KM)) x/\ns.length=3/\∀ H',aj H H'->Q (.bl (ns.all λk=>decide (0<=k)&&decide (k<=n-1))) H'
theorem oZ (T:Glo K mg w):Cal P w K mg base CX0 4 "is_knot" ["thing","knots"] [] (wX K):=by
 refine T.x1o.cal wB (λvs H Q E h=>?_) (λf cdv A outer s H vs Q E hr h=>?_)
 ·obtain⟨x,ns,n,rfl,_⟩:=h;rfl
 ·obtain⟨x,ns,n,rfl,hx,hl,q⟩:=h;refine⟨_,(WSs.go (af (ap (ae aK (dg T) hr (ai (wpv 0) (ai aa (ai aa (ai (ar cS (wpv 1) aa) aN)))))))),?_⟩;exact⟨_,rfl,_,rfl,_,_,rfl,rfl,x,ns,3,0,n-1,rfl,hx,by omega,by omega,q⟩
theorem uO:am ["thing"] ["thing"] (ag kW):=scM
def uU (K:Ia):Sp:=λvs H Q _=>∃ (x:V) (ns:List Int),vs=[x]/\IsD K H (.tuple (ns.map KM)) x/\ns.length=3/\∀ H',aj H H'->Q (.bl (ns.all λk=>decide (0<=k)&&decide (k<=1000))) H'
theorem jE (T:Glo K mg w):Cal P w K mg base CX0 4 "is_worth" ["thing"] [] (uU K):=by
 refine T.x1p.cal uO (λvs H Q E h=>?_) (λf cdv A outer s H vs Q E hr h=>?_)
 ·obtain⟨x,ns,rfl,_⟩:=h;rfl
 ·obtain⟨x,ns,rfl,hx,hl,q⟩:=h;refine⟨_,(WSs.go (af (ap (ae aK (dg T) hr (ai (wpv 0) (ai aa (ai aa (ai (cH rfl T.xs) aN)))))))),?_⟩;exact⟨_,rfl,x,ns,3,0,1000,rfl,hx,by omega,by omega,q⟩
theorem Be:am ["knots"] ["knots"] (ag uF):=scM
def BI (K:Ia):Sp:=λvs H Q _=>∃ n:Nat,vs=[.int n]/\2<=n/\n<=7/\Q (.int (apN n)) H
theorem A9 (T:Glo K mg w):Cal P w K mg base CX0 1 "apart" ["knots"] [] (BI K):=by
 refine T.x1q.cal Be (λvs H Q E h=>?_) (λf cdv A outer s H vs Q E hr h=>?_)
 ·obtain⟨n,rfl,_⟩:=h;rfl
 ·obtain⟨n,rfl,h2,h7,q⟩:=h;refine⟨_,(WSs.go (af (ap (ar cL (cH rfl T.xe) (ar cS (wpv 0) aa))))),?_⟩;refine⟨_,rfl,_,_,rfl,rfl,_,_,rfl,rfl,⟨by omega,Sm.mono (k:=20) (by unfold Sm;omega) (by decide)⟩,?_⟩;dsimp only;rw[JF _ (by omega)];exact q
theorem uA:am ["thing","knots"] ["thing","knots"] (ag kG):=scM
def ux (K:Ia):Sp:=λvs H Q _=>∃ (d:Iv) (n:Nat) (f:Kn->R3),vs=[.ref d,.int n]/\Gr K H n f d/\WtB n f/\n<=7/\∀ H',aj H H'->Q (.bl true) H'
theorem ve (T:Glo K mg w):Cal P w K mg base CX0 5 "is_table" ["thing","knots"] [] (ux K):=by
 refine T.x1r.cal uA (λvs H Q E h=>?_) (λf cdv A outer s H vs Q E hr h=>?_)
 ·obtain⟨d,n,f,rfl,_⟩:=h;rfl
 ·obtain⟨d,n,f,rfl,hg,hw,h7,q⟩:=h;obtain⟨ts,pm,vs,hd,hvs⟩:=hg;have hlen:=GrP.len hvs;have kl:(tkv ts vs).length=n^3:=by rw[vH hlen,pm.length_eq,mV]
  have n3:n^3<=7^3:=Pu h7 3;refine⟨_,(WSs.go (ab (a_ (WW.pt (eI (aV (aS (aq (lS (K:=K) rfl) (by rfl) T.x3 aA (aR (wpv 0) (bO (v:=.ty "dict") rfl T.xj Al rfl))))) (dD (aU nh (aq yL (by rfl) T.x2 df (aO (wpv 0))) (ar CS (wpv 1) aa) (aX _))))) (af (ap iX)) aE)
   (af (ap (aq (oW (K:=K) rfl rfl) (by rfl) T.x6 iV (aO (A3 (ax ["place","worth"] ["knots"] [1] 2 (y4 (wpv 0)) (λnd=>(dF (K:=K) (n:=2) rfl rfl (av (ah 0 nd) (av (ah 1 nd) bt)))) aw (c7 (ae aK (oZ T) hr (aR (wpv 0) (wpv 2))) (fq (ae aK (jE T) hr (aO (wpv 1))))))))))))),?_⟩
  refine⟨_,rfl,_,_,_,true,rfl,.dT hd,(show jC "dict" "dict"=some true by decide +kernel),_,rfl,cQ ?_⟩;refine⟨_,rfl,d,_,rfl,.inl hd,_,rfl,_,_,rfl,rfl,⟨by decide,by decide,by omega⟩,_,_,rfl,rfl,false,?_,cQ ?_⟩
  ·show V.bl (!decide (((tkv ts vs).length:Int)=(n:Int)^(3:Int).toNat))=_;rw[kl,Ir (by show((n^3:Nat):Int)=(n:Int)^3;simp)];rfl
  refine⟨_,rfl,d,_,rfl,hd,λo=>wG (d:=d) (bs:=Iz (tkv ts vs).length true) ac (by simp) (by omega) (λi k x ka T b H1 hk hb s1 hka hT R kk S=>?_) (λH1 s1 D hD=>?_)⟩
  ·obtain⟨t,e1,rfl,e2⟩:=FK hk;have hb:b=true:=by
    rw[Ml] at hb
    split at hb
    ·exact(Ie hb).symm
    ·cases hb
   subst hb;have ht:t∈cw n:=pm.mem_iff.mp (IM e1);have hm:=dW.mp ht;have wt:=hw t ht;have hx:IsD K H1 (wD (f t)) x:=by
    obtain⟨dd,ed,hx⟩:=hvs.get e2;rw[Ix,e1] at ed;cases ed;have hT':IsD K (upd H d (.frz o (.dT (tkv ts vs)))) (wD (f t)) x:=by
     obtain⟨a,xs,rfl,ha,hxs⟩:=aH (b:=false) (ds:=(f t).ds) hx;have hx':IsD K H (.tuple (f t).ds) (.ref a):=hx;cases hx' with
     |tup h1 h2=>exact .tup (by rw[ao (λz=>by rw[z,hd] at h1;cases h1)];exact h1) (by cases gC h2;exact .cons (.int _) (.cons (.int _) (.cons (.int _) .nil)))
    exact IsD.same s1 hT'
   have e3:([(t.1:Int),(t.2.1:Int),(t.2.2:Int)].all λk=>decide (0<=k)&&decide (k<=(n:Int)-1))=true:=by
    simp only[M0,Qr,MX,Ju,MJ];omega
   have e4:([(f t).a,(f t).b,(f t).c].all λk=>decide (0<=k)&&decide (k<=1000))=true:=by
    obtain⟨a0,a1,b0,b1,c0,c1⟩:=wt;simp only[M0,Qr,MX,Ju,MJ];omega
   refine⟨T,_,rfl,SqT.of hT,rfl,_,_,rfl,_,_,rfl,rfl,bQ (B:=S H1) ?_⟩;refine⟨_,rfl,_,rfl,.ref ka,[(t.1:Int),(t.2.1:Int),(t.2.2:Int)],n,rfl,lH hka,rfl,λH2 s2=>⟨true,by rw[e3],bQ ?_⟩⟩;exact⟨_,rfl,x,[(f t).a,(f t).b,(f t).c],rfl,IsD.same s2 hx,rfl,λH3 s3=>by rw[e4];exact kk _ _ ⟨s2.trans s3,rfl⟩⟩
  ·have nd:D≠d:=λz=>by rw[z,s1 _ _ ac] at hD;cases hD
   refine⟨d,o,tkv ts vs,hd,by rw[ao (KH nd)];exact s1 _ _ ac,D,_,rfl,SqL.of (by rw[ao nd];exact ac),?_⟩;rw[show(Iz (tkv ts vs).length true).all id=true by simp];refine q _ λb u e=>?_
   by_cases hb:b=d
   ·subst hb;rw[hd] at e;cases e;exact ac
   ·rw[ao hb];have e':=s1 b u (by rw[ao hb];exact e);rw[ao (λz=>by rw[z,hD] at e';cases e')];exact e'
theorem fQ:am ["thing"] ["thing"] (ag b_):=scM
def fO (K:Ia):Sp:=λvs H Q _=>∃ (x:V) (c:Q3),vs=[x]/\IsD K H c.col x/\c.Wi ((60:Int):Rat)/\c.Bd 3000/\∀ H',aj H H'->Q .non H'
theorem pV {p:Rat}{m:Int}(h0:0<=p)(h1:p<=(m:Rat)):(decide (0*(p.den:Int)<=p.num)&&decide (p.num<=m*(p.den:Int)))=true:=by
 have e1:decide (0*(p.den:Int)<=p.num)=true:=Ir (by rw[Int.zero_mul];exact Rat.num_nonneg.mpr h0);have e2:decide (p.num<=m*(p.den:Int))=true:=Ir (by
  have h:=(Rat.le_iff p (m:Rat)).mp h1;rw[Nk,Nh] at h
  simpa using h)
 rw[e1,e2];rfl
theorem bY (T:Glo K mg w):Cal P w K mg base CX0 4 "refuse_no_device_colour" ["thing"] [] (fO K):=by
 refine T.x1s.cal fQ (λvs H Q E h=>?_) (λf cdv A outer s H vs Q E hr h=>?_)
 ·obtain⟨x,c,rfl,_⟩:=h;rfl
 ·obtain⟨x,c,rfl,hx,hw,hb,q⟩:=h;refine⟨_,(WSs.go (af (a_ (WW.pt (eI (aV (aS (ae aK (lC T) hr (aO (wpv 0))))) (dD (aV (aS (aq (oW (K:=K) rfl rfl) (by rfl) T.x6 iV (aO (ax ["number"] [] [] 1 (bh (K:=K) rfl (wpv 0)) (λnd=>(ah 0 nd)) aw (ae aK (lJ T) hr (ai (wpv 0) (ai aa (ai (cH rfl T.xe) aN)))))))))))) (af bw) aE))),?_⟩;refine⟨_,rfl,x,c.a,c.b,c.c,rfl,hx,λH1 s1=>⟨_,rfl,cQ ?_⟩⟩;obtain⟨a,xs,rfl,ha,hds⟩:=aH (b:=false) (ds:=c.ds) (IsD.same s1 hx);have s60:Sm 60 (60:Int):=by unfold Sm;decide
  have s00:Sm 60 (0:Int):=by unfold Sm;decide
  refine⟨_,rfl,a,false,rfl,⟨_,ha⟩,bx (es:=[.bool true,.bool true,.bool true]) ha hds rfl (by show 3<=1000;decide) (λi d e u H2 hd he s2 hu R kk S=>?_) (λzs H2 s2 hzs D hD=>?_)⟩
  ·refine bQ (B:=S H2) ⟨_,rfl,?_⟩;rcases at3 hd with ⟨rfl,rfl⟩|⟨rfl,rfl⟩|⟨rfl,rfl⟩
   ·cases(Ie he);exact⟨u,c.a,0,60,rfl,hu,hb.a.mono (by decide),s00,s60,by rw[pV hw.a0 hw.a1];exact kk _ _ ⟨aj.refl _,.bl _⟩⟩
   ·cases(Ie he);exact⟨u,c.b,0,60,rfl,hu,hb.b.mono (by decide),s00,s60,by rw[pV hw.b0 hw.b1];exact kk _ _ ⟨aj.refl _,.bl _⟩⟩
   ·cases(Ie he);exact⟨u,c.c,0,60,rfl,hu,hb.c.mono (by decide),s00,s60,by rw[pV hw.c0 hw.c1];exact kk _ _ ⟨aj.refl _,.bl _⟩⟩
  ·have e:=eU (bs:=[true,true,true]) hzs;subst e;exact⟨D,_,rfl,SqL.of ac,_,rfl,cQ (q _ ((s1.trans s2).trans (aj.new hD)))⟩
theorem ij:am ["many","numbers"] ["many"] (ag gg):=scM
def nA (K:Ia):Sp:=λvs H Q _=>∃ n:Nat,vs=[.int n]/\n<=7/\∀ (D:Iv) (ys:List V) (H':Hp),aj H H'->H' D=some (.lst ys)->aD K H' ((cw n).map knD) ys->Q (.ref D) H'
theorem mO (T:Glo K mg w):Cal P w K mg base CX0 1 "places_below" ["many"] [] (nA K):=by
 refine T.x1t.cal ij (λvs H Q E h=>?_) (λf cdv A outer s H vs Q E hr h=>?_)
 ·obtain⟨n,rfl,_⟩:=h;rfl
 ·obtain⟨n,rfl,h7,q⟩:=h;refine⟨_,(WSs.go (ab (au 1 ij.nd (aQ (rd rfl) (by rfl) T.x7 f8 (ai (x' rfl T.x0 (aO (wpv 0))) aN)))
   (af (ap (yH rfl (bh (K:=K) rfl (wpv 1)) (uS (by decide +kernel) (by rfl)) (zo (ts:=["a","b","c"]) (cs:=["numbers"]) (js:=[1]) (k:=3) (by rfl) rfl rfl) (λ_ _ _ _ _=>(ah 0 (show QR (α:=Str) ["a","b","c","numbers"] by decide +kernel))) (λ_ _ _ _ _=>aw) (λ_ _ _ _ _=>(vy rfl rfl rfl (bh (K:=K) rfl (wpv 3)) (ah 1 (show QR (α:=Str) ["a","b","c","numbers"] by decide +kernel)) aw (vy rfl rfl rfl (bh (K:=K) rfl (wpv 3)) (ah 2 (show QR (α:=Str) ["a","b","c","numbers"] by decide +kernel)) aw (AL rfl rfl (aI (ai (wpv 0) (ai (wpv 1) (ai (wpv 2) aN))))))))))))),?_⟩
  refine⟨_,rfl,n,rfl,by omega,λp hp=>⟨p,n,rfl,ac,by omega,λl hl=>?_⟩⟩;have s0:aj H (upd (upd H p (.rng 0 n)) l (.lst ((ups n).map V.int))):=(aj.new hp).trans (aj.new hl);have hl0:SqB K (upd (upd H p (.rng 0 n)) l (.lst ((ups n).map V.int))) l ((ups n).map V.int) true:=SqL.of ac;generalize upd (upd H p (.rng 0 n)) l (.lst ((ups n).map V.int))=H0 at s0 hl0 ⊢;refine⟨_,rfl,l,true,rfl,⟨_,hl0⟩,yC (xs:=(ups n).map V.int) (λi ys H'=>aj H0 H'/\aD K H' ((kn1 n i).map knD) ys) ⟨aj.refl _,.nil⟩ (λi ys H' _ p=>SqB.same p.1 hl0) (λi x ys H1 hx p R kk S=>?_) (λys H1 p=>?_)⟩
  ·obtain⟨hi,rfl⟩:=vg hx;obtain⟨s1,d1⟩:=p;refine bQ (B:=S H1) ⟨_,rfl,l,true,rfl,⟨_,SqB.same s1 hl0⟩,vn (xs:=(ups n).map V.int) (λj σ ys' H'=>(∃ o1 o2,σ=[some (.int i),o1,o2,some (.ref l)])/\aj H0 H'/\aD K H' ((kn1 n i++kn2 n i j).map knD) ys') ⟨⟨none,none,rfl⟩,s1,by simpa [kn2] using d1⟩ (λj σ ys' H' _ p=>SqB.same p.2.1 hl0) (λj x σ ys' H2 hx p R2 kk2 S2=>?_) (λσ ys' H2 p=>?_)⟩
   ·obtain⟨hj,rfl⟩:=vg hx;obtain⟨⟨o1,o2,rfl⟩,s2,d2⟩:=p;refine bQ (B:=S2 [some (.int i),some (.int j),o2,some (.ref l)] H2) ⟨_,rfl,l,true,rfl,⟨_,SqB.same s2 hl0⟩,vn (xs:=(ups n).map V.int) (λk σ ys'' H'=>(∃ o2,σ=[some (.int i),some (.int j),o2,some (.ref l)])/\aj H0 H'/\aD K H' ((kn1 n i++kn2 n i j++kn3 i j k).map knD) ys'') ⟨⟨o2,rfl⟩,s2,by simpa [kn3] using d2⟩ (λj σ ys' H' _ p=>SqB.same p.2.1 hl0) (λk x σ ys'' H3 hx p R3 kk3 S3=>?_) (λσ ys'' H3 p=>?_)⟩
    ·obtain⟨hk,rfl⟩:=vg hx;obtain⟨⟨o3,rfl⟩,s3,d3⟩:=p;have hlen:=d3.length;rw[Ij] at hlen;refine bQ (B:=S3 [some (.int i),some (.int j),some (.int k),some (.ref l)] H3) ⟨bg (by rw[<- hlen];exact IS (Cs h7 hi hj (Kj hk)) (by decide)),_,rfl,_,rfl,_,rfl,le3,λp hp=>kk3 _ _ _ ⟨⟨_,rfl⟩,s3.trans (aj.new hp),?_⟩⟩;rw[vt,<- Lc,JM];exact(aD.same (aj.new hp) d3).snoc (lH (t:=(i,j,k)) ac)
    ·obtain⟨⟨o3,rfl⟩,s3,d3⟩:=p;rw[Ij,iI] at d3;exact kk2 _ _ _ ⟨⟨_,_,rfl⟩,s3,by rw[qi,<- Lc];exact d3⟩
   ·obtain⟨⟨o1,o2,rfl⟩,s2,d2⟩:=p;rw[Ij,iI] at d2;exact kk _ _ _ ⟨s2,by rw[qQ];exact d2⟩
  ·obtain⟨s1,d1⟩:=p;rw[Ij,iI,DI] at d1;have hlen:=d1.length;rw[Ij,mV] at hlen;refine⟨?_,λD hD=>q D ys _ ((s0.trans s1).trans (aj.new hD)) ac (aD.same (aj.new hD) d1)⟩;have:n^3<=7^3:=Pu h7 3;omega
theorem Bg:am ["place","steps"] ["place","steps"] (ag uj):=scM
def AC (K:Ia):Sp:=λvs H Q _=>∃ (a b:Iv) (ns ms:List Int),vs=[.ref a,.ref b]/\SqT K H a (ns.map V.int)/\SqT K H b (ms.map V.int)/\ns.length=ms.length/\ns.length<=10/\∀ (p:Iv) (H':Hp),aj H H'->H' p=some (.tup ((Ma (·+·) ns ms).map V.int))->Q (.ref p) H'
theorem vR (T:Glo K mg w):Cal P w K mg base CX0 1 "moved" ["place","steps"] [] (AC K):=by
 refine T.x1u.cal Bg (λvs H Q E h=>?_) (λf cdv A outer s H vs Q E hr h=>?_)
 ·obtain⟨a,b,ns,ms,rfl,_⟩:=h;rfl
 ·obtain⟨a,b,ns,ms,rfl,ha,hb,hl,h10,q⟩:=h;refine⟨_,(WSs.go (af (ap (aQ (dc (K:=K) rfl) (by rfl) T.x1 be (aO (ax ["number","step"] [] [] 2 (lr (K:=K) rfl rfl T.x8 (aR (wpv 0) (wpv 1))) (λnd=>(dF (K:=K) (n:=2) rfl rfl (av (ah 0 nd) (av (ah 1 nd) bt)))) aw (ar cP (wpv 0) (wpv 1)))))))),?_⟩;refine⟨_,rfl,_,rfl,a,b,false,false,rfl,⟨_,ha⟩,⟨_,hb⟩,iC (fs:=(Ma (·+·) ns ms).map KM) (show SqB K H a (ns.map V.int) false from ha) (show SqB K H b (ms.map V.int) false from hb) (iP ns) (iP ms) (by simp[hl]) (by simp[hl]) (by simp;omega) (λi d e g x y T H1 hd he hg s1 hx hy hT R kk S=>?_) (λzs H1 s1 hzs D hD=>?_)⟩
  ·rw[Ix] at hd he hg;obtain⟨n,en,rfl⟩:=IG.mp hd;obtain⟨m,em,rfl⟩:=IG.mp he;obtain⟨z,ez,rfl⟩:=IG.mp hg;rw[MS] at ez;obtain⟨n',m',en',em',rfl⟩:=ez;rw[en] at en';rw[em] at em';cases en';cases em';cases hx;cases hy;exact⟨T,_,rfl,SqT.of hT,rfl,_,_,rfl,_,_,rfl,rfl,bQ (B:=S H1) ⟨_,rfl,_,rfl,_,_,rfl,rfl,kk _ _ ⟨aj.refl _,.int _⟩⟩⟩
  ·have e:=cN hzs;subst e;exact⟨D,_,rfl,.inl ⟨SqL.of ac,λl hl=>q _ _ ((s1.trans (aj.new hD)).trans (aj.new hl)) ac⟩⟩
theorem bE:am ["far","whole","corner","left","parts","way"] ["far","whole"] (ag cu):=scM
def gZ (K:Ia):Sp:=λvs H Q _=>∃ (a:Iv) (x y z whole:Int),vs=[.ref a,.int whole]/\SqL K H a [.int x,.int y,.int z]/\TbI K "parts_by_four" H /\
 ∀ (o:Nat×Nat×Nat) (D:Iv) (ys:List V) (H':Hp),o∈Au->bJ x y z o.2.1<=bJ x y z o.1->bJ x y z o.2.2<=bJ x y z o.2.1->aj H H'->H' D=some (.lst ys)->aD K H' ((i' (bJ x y z) whole o.1 o.2.1 o.2.2).map pcD) ys->Q (.ref D) H'
theorem l_ (T:Glo K mg w):Cal P w K mg base CX0 2 "parts_by_four" ["far","whole"] [] (gZ K):=by
 refine T.x38.cal bE (λvs H Q E h=>?_) (λf cdv A outer s H vs Q E hcv hr h=>?_)
 ·obtain⟨a,x,y,z,whole,rfl,_⟩:=h;rfl
 ·obtain⟨a,x,y,z,whole,rfl,ha,⟨Pt,tb,hP⟩,q⟩:=h;obtain⟨c,rfl,hcd⟩:=hcv Pt tb;refine⟨_,(WSs.go (ab (au 2 bE.nd (aI (ai aa (ai aa (ai aa aN)))))
   (ab (au 3 bE.nd (wpv 1))
   (ab (au 4 bE.nd (ce aN))
   (ab (dX Jq rfl (bh (K:=K) rfl (uo (K:=K) (i:=0) rfl rfl hr rfl T.xf rfl hcd rfl rfl (x' rfl T.x0 (aO aa)))) (ah 5 bE.nd) (ab (bo (pG Kd Ka KD iH (wpv 4) (aO (aI (aR (wpv 2) (ar cS (wpv 3) (ak K (wpv 0) (wpv 5))))))))
   (ab (au 2 bE.nd (ae aK (vR T) hr (aR (wpv 2) (ak K (DV (K:=K) (rows:=[[1,0,0],[0,1,0],[0,0,1]]) rfl T.x37) (wpv 5)))))
   (af (au 3 bE.nd (ak K (wpv 0) (wpv 5)))))))
   (ab (bo (pG Kd Ka KD iH (wpv 4) (aO (aI (aR (wpv 2) (wpv 3))))))
   (af (ap (wpv 4))))))))),?_⟩
  refine⟨le3,λc0 hc0=>⟨_,rfl,by decide,λPa hPa=>⟨3,rfl,by decide,λrg hrg=>?_⟩⟩⟩;have s0:aj H (upd (upd (upd H c0 (.tup [.int 0,.int 0,.int 0])) Pa (.lst [])) rg (.rng 0 3)):=((aj.new hc0).trans (aj.new hPa)).trans (aj.new hrg);have gc:upd (upd (upd H c0 (.tup [.int 0,.int 0,.int 0])) Pa (.lst [])) rg (.rng 0 3) c0=some (.tup (knV (0,0,0))):=aj.new hrg _ _ (aj.new hPa _ _ ac);have gP:upd (upd (upd H c0 (.tup [.int 0,.int 0,.int 0])) Pa (.lst [])) rg (.rng 0 3) Pa=some (.lst []):=aj.new hrg _ _ ac;have gr:upd (upd (upd H c0 (.tup [.int 0,.int 0,.int 0])) Pa (.lst [])) rg (.rng 0 3) rg=some (.rng 0 3):=ac;have fP:H Pa=none:=(aj.new (o:=.tup [.int 0,.int 0,.int 0]) hc0).free hPa;generalize upd (upd (upd H c0 (.tup [.int 0,.int 0,.int 0])) Pa (.lst [])) rg (.rng 0 3)=H1 at s0 gc gP gr ⊢;refine⟨rg,3,a,[x,y,z],rfl,gr,by decide,rfl,s0.seq ha,rfl,s0 _ _ hP,λH2 D order s2 hD perm pw=>?_⟩;obtain⟨⟨u,v,w⟩,ho,rfl⟩:=Ey perm;obtain⟨u3,v3,w3⟩:=zM ho;have p1:bJ x y z v<=bJ x y z u:=by
   have:=(Kb.mp pw).1 (v:Int) (by simp)
   rwa [jY u3,jY v3] at this
  have p2:bJ x y z w<=bJ x y z v:=by
   have:=(Kb.mp (Kb.mp pw).2).1 (w:Int) (by simp)
   rwa [jY v3,jY w3] at this
  have s3:aj H (upd H2 D (.lst ([(u:Int),(v:Int),(w:Int)].map V.int))):=(s0.trans s2).trans (aj.new hD);have hD3:SqB K (upd H2 D (.lst ([(u:Int),(v:Int),(w:Int)].map V.int))) D [.int (u:Int),.int (v:Int),.int (w:Int)] true:=SqL.of ac;have gc3:=(s2.trans (aj.new (o:=.lst ([(u:Int),(v:Int),(w:Int)].map V.int)) hD)) _ _ gc;have gP3:=(s2.trans (aj.new (o:=.lst ([(u:Int),(v:Int),(w:Int)].map V.int)) hD)) _ _ gP;have DP:D≠Pa:=λz=>by rw[z,s2 _ _ gP] at hD;cases hD
  generalize upd H2 D (.lst ([(u:Int),(v:Int),(w:Int)].map V.int))=H3 at s3 hD3 gc3 gP3 ⊢;have fr:∀ {H':Hp},Mv [Pa] H3 H'->∀ b o,H3 b=some o->b≠Pa->H' b=some o:=λm b o e n=>m b o e (by simp[n])
  have sq:∀ {H':Hp},Mv [Pa] H3 H'->SqL K H' a [.int x,.int y,.int z]:=λ{H'} m=>by
   have aP:∀ o,H a=some o->H' a=some o:=λo e=>m _ _ (s3 _ _ e) (λz=>by rw[Ii.mp z,fP] at e;cases e)
   rcases ha with (h|⟨o,h⟩)|h
   ·exact .inl (.inl (aP _ h))
   ·exact .inl (.inr ⟨o,aP _ h⟩)
   ·exact .inr h
  have hlD:∀ {H':Hp},Mv [Pa] H3 H'->SqB K H' D [.int (u:Int),.int (v:Int),.int (w:Int)] true:=λ{H'} m=>by
   rcases hD3 with (h|⟨o,h⟩)|h
   ·exact .inl (.inl (fr m _ _ h DP))
   ·exact .inl (.inr ⟨o,fr m _ _ h DP⟩)
   ·exact .inr h
  have tR:∀ (g:Nat) (cc:Kn) (left:Int) (ps:List Pc) (H4:Hp) (ca:Iv) (ys:List V),g < 3->Mv [Pa] H3 H4->H4 ca=some (.tup (knV cc))->H4 Pa=some (.lst ys)->aD K H4 (ps.map pcD) ys->ps.length <= 10 ->
    ∀ R:Hp->Iv->List V->Prop,(∀ H5 cb zs,Mv [Pa] H3 H5->H5 cb=some (.tup (knV (ay cc (un g))))->H5 Pa=some (.lst zs)->aD K H5 ((ps++[(cc,left-bJ x y z g)]).map pcD) zs->R H5 cb zs) ->
    ∀ p,H4 p=none->(∀ sa,FI K sa [[1,0,0],[0,1,0],[0,0,1]]->∃ (bs:List V) (b:Iv),KT K sa bs/\atI bs (g:Int)=some (.ref b)/\KT K b (knV (un g))) /\
     ∀ cb H5,aj (upd (upd H4 p (.tup [.ref ca,.int (left-bJ x y z g)])) Pa (.lst (ys++[.ref p]))) H5->H5 cb=some (.tup (knV (ay cc (un g))))->R H5 cb (ys++[.ref p]):=by
   intro g cc left ps H4 ca ys g3 m4 hca hPa4 hys hpl R kk p hp;refine⟨λsa hs=>BE hs g3,λcb H5 s5 hcb=>?_⟩;have pP:p≠Pa:=λz=>by rw[z,hPa4] at hp;cases hp
   have m5:Mv [Pa] H4 (upd (upd H4 p (.tup [.ref ca,.int (left-bJ x y z g)])) Pa (.lst (ys++[.ref p]))):=λb o e n=>by
    rw[ao (λz=>n (by simp[z])),ao (aB e hp)];exact e
   have li:cD H4 [Pa]:=λb mm=>⟨ys,by rw[Ii.mp mm];exact hPa4⟩
   refine kk H5 cb _ ((m4.trans m5).trans (Mv.of s5)) hcb (s5 _ _ ac) ?_;rw[JM];refine aD.same s5 ((aD.mv m5 li (qB ps) hys).snoc (.tup (by rw[ao pP];exact ac) (.cons ?_ (.cons (.int _) .nil))));exact lH (m5 _ _ hca (λz=>by rw[Ii.mp z,hPa4] at hca;cases hca))
  refine ⟨D,true,rfl,⟨_,hD3⟩,kU (xs:=[.int (u:Int),.int (v:Int),.int (w:Int)]) (fun i σ H'=>∃ (ca:Iv) (ys:List V) (ow:Option V) (cc:Kn) (left:Int),σ=[some (.ref a),some (.int whole),some (.ref ca),some (.int left),some (.ref Pa),ow]/\Mv [Pa] H3 H'/\H' ca=some (.tup (knV cc))/\H' Pa=some (.lst ys) /\
    aD K H' (((i' (bJ x y z) whole u v w).take i).map pcD) ys/\(cc=match i with|0=>(0,0,0)|1=>un u|2=>ay (un u) (un v)|_=>ay (ay (un u) (un v)) (un w))/\left=match i with|0=>whole|1=>bJ x y z u|2=>bJ x y z v|_=>bJ x y z w)
   ⟨c0,[],none,(0,0,0),whole,rfl,Mv.refl,gc3,gP3,.nil,rfl,rfl⟩ (λi σ H' hi ⟨_,_,_,_,_,_,m,_⟩=>hlD m) ?_ ?_⟩
  ·rintro i wv σ H4 ew ⟨ca,ys,ow,cc,left,rfl,m4,hca,hPa4,hys,ecc,eleft⟩;have hpl:((i' (bJ x y z) whole u v w).take i).length<=10:=by rw[IZ];show min i 4<=10;omega
   obtain⟨g,rfl,g3,hg⟩:∃ g:Nat,wv=.int (g:Int)/\g<3/\((i=0/\g=u)\/(i=1/\g=v)\/(i=2/\g=w)):=by
    rcases at3 ew with ⟨rfl,rfl⟩|⟨rfl,rfl⟩|⟨rfl,rfl⟩
    ·exact⟨u,rfl,u3,.inl ⟨rfl,rfl⟩⟩
    ·exact⟨v,rfl,v3,.inr (.inl ⟨rfl,rfl⟩)⟩
    ·exact⟨w,rfl,w3,.inr (.inr ⟨rfl,rfl⟩)⟩
   have hl:=hys.length;rw[Ij] at hl;refine⟨_,rfl,.inl ⟨rfl,_,SqL.of hPa4⟩,_,rfl,_,rfl,_,rfl,_,rfl,.inl ⟨a,_,_,_,rfl,rfl,sq m4,Ag g3,_,_,rfl,rfl,le2,λp hp=>?_⟩⟩;have pP:p≠Pa:=λz=>by rw[z,hPa4] at hp;cases hp
   obtain⟨t1,t2⟩:=tR g cc left _ H4 ca ys g3 m4 hca hPa4 hys hpl (λH5 cb zs=>∃ (ca:Iv) (ys:List V) (ow:Option V) (cc:Kn) (left:Int),[some (V.ref a),some (V.int whole),some (V.ref cb),some (V.int (bJ x y z g)),some (V.ref Pa),some (V.int (g:Int))]=[some (.ref a),some (.int whole),some (.ref ca),some (.int left),some (.ref Pa),ow]/\Mv [Pa] H3 H5/\H5 ca=some (.tup (knV cc))/\H5 Pa=some (.lst ys) /\
    aD K H5 (((i' (bJ x y z) whole u v w).take (i+1)).map pcD) ys/\(cc=match i+1 with|0=>(0,0,0)|1=>un u|2=>ay (un u) (un v)|_=>ay (ay (un u) (un v)) (un w))/\left=match i+1 with|0=>whole|1=>bJ x y z u|2=>bJ x y z v|_=>bJ x y z w) (λH5 cb zs m5 hcb hP5 hzs=>by
     refine⟨cb,zs,_,_,_,rfl,m5,hcb,hP5,?_,?_,?_⟩
     ·rcases hg with ⟨rfl,rfl⟩|⟨rfl,rfl⟩|⟨rfl,rfl⟩<;>(subst ecc;subst eleft;exact hzs)
     ·rcases hg with ⟨rfl,rfl⟩|⟨rfl,rfl⟩|⟨rfl,rfl⟩
      ·subst ecc;show ay (0,0,0) (un g)=un g;unfold ay;simp
      ·subst ecc;rfl
      ·subst ecc;rfl
     ·rcases hg with ⟨rfl,rfl⟩|⟨rfl,rfl⟩|⟨rfl,rfl⟩<;>rfl) p hp
   have gP5:upd H4 p (.tup [.ref ca,.int (left-bJ x y z g)]) Pa=some (.lst ys):=by rw[ao (KH pP)];exact hPa4
   refine⟨Pa,ys,.ref p,rfl,rfl,gP5,bg (by omega),?_⟩;have m6:Mv [Pa] H4 (upd (upd H4 p (.tup [.ref ca,.int (left-bJ x y z g)])) Pa (.lst (ys++[.ref p]))):=λb o e n=>by
    rw[ao (λz=>n (by simp[z])),ao (aB e hp)];exact e
   have ca6:upd (upd H4 p (.tup [.ref ca,.int (left-bJ x y z g)])) Pa (.lst (ys++[.ref p])) ca=some (.tup (knV cc)):=m6 _ _ hca (λz=>by rw[Ii.mp z,hPa4] at hca;cases hca);have sq6:=sq (m4.trans m6);refine⟨_,rfl,λsa hsa=>?_⟩;obtain⟨bs,b,k1,k2,k3⟩:=t1 sa hsa;refine⟨_,rfl,.inr (.inl ⟨sa,bs,_,_,rfl,rfl,k1.sq,k2,ca,b,[(cc.1:Int),(cc.2.1:Int),(cc.2.2:Int)],[((un g).1:Int),((un g).2.1:Int),((un g).2.2:Int)],rfl,SqT.of ca6,k3.sq,rfl,by show 3<=10;decide,λcb H5 s5 hcb=>?_⟩)⟩;rw[B4] at hcb;exact⟨_,rfl,_,rfl,.inl ⟨a,_,_,_,rfl,rfl,s5.seq sq6,Ag g3,t2 cb H5 s5 hcb⟩⟩
  ·rintro σ H4 ⟨ca,ys,ow,cc,left,rfl,m4,hca,hPa4,hys,ecc,eleft⟩;have hl:=hys.length;rw[Ij] at hl;refine⟨_,rfl,.inl ⟨rfl,_,SqL.of hPa4⟩,_,rfl,_,rfl,le2,λp hp=>?_⟩;have pP:p≠Pa:=λz=>by rw[z,hPa4] at hp;cases hp
   refine⟨Pa,ys,.ref p,rfl,rfl,by rw[ao (KH pP)];exact hPa4,bg (by rw[<- hl];show 3<=1000;decide),_,rfl,?_⟩;have m6:Mv [Pa] H4 (upd (upd H4 p (.tup [.ref ca,.int left])) Pa (.lst (ys++[.ref p]))):=λb o e n=>by
    rw[ao (λz=>n (by simp[z])),ao (aB e hp)];exact e
   have li:cD H4 [Pa]:=λb mm=>⟨ys,by rw[Ii.mp mm];exact hPa4⟩
   subst ecc eleft;refine q (u,v,w) Pa _ _ ho p1 p2 (λb o e=>(m4.trans m6) b o (s3 _ _ e) (λz=>by rw[Ii.mp z,fP] at e;cases e)) ac ?_;refine(aD.mv m6 li (qB _) hys).snoc (d:=pcD (ay (ay (un u) (un v)) (un w),bJ x y z w)) (.tup (by rw[ao pP];exact ac) (.cons ?_ (.cons (.int _) .nil)));exact lH (m6 _ _ hca (λz=>by rw[Ii.mp z,hPa4] at hca;cases hca))
theorem bj:am ["far","whole","parts","corner","part","beyond","distance"] ["far","whole"] (ag eO):=scM
def gz (K:Ia):Sp:=λvs H Q _=>∃ (a:Iv) (x y z whole:Int) (b:Nat),vs=[.ref a,.int whole]/\SqL K H a [.int x,.int y,.int z]/\Sm b x/\Sm b y/\Sm b z/\Sm b whole/\b<=2000 /\
 ∀ (D:Iv) (ys:List V) (H':Hp),aj H H'->H' D=some (.lst ys)->aD K H' ((cU (bJ x y z) whole).map pcD) ys->Q (.ref D) H'
theorem kI (T:Glo K mg w):Cal P w K mg base CX0 2 "parts_by_eight" ["far","whole"] [] (gz K):=by
 refine T.x1v.cal bj (λvs H Q E h=>?_) (λf cdv A outer s H vs Q E hr h=>?_)
 ·obtain⟨a,x,y,z,whole,b,rfl,_⟩:=h;rfl
 ·obtain⟨a,x,y,z,whole,b,rfl,ha,sx,sy,sz,sw,hb,q⟩:=h;refine⟨_,(WSs.go (ab (au 2 bj.nd (ce aN))
   (ab (dX Jq rfl (bh (K:=K) rfl (ae aK (mO T) hr (aO aa))) (ah 3 bj.nd) (ab (au 4 bj.nd aa)
   (ab (dX Jq rfl (lr (K:=K) rfl rfl T.x8 (aR (wpv 3) (wpv 0))) (dF (K:=K) (n:=2) rfl rfl (av (ah 5 bj.nd) (av (ah 6 bj.nd) bt))) (af (u_ (i:=4) bj.nd rfl (by first|exact Qv rfl|exact O8 rfl) (iy (aU eE (wpv 5) aa (aX _)) (wpv 6) (ar cS (wpv 1) (wpv 6))) CI)))
   (af (bo (pG Kd Ka KD iH (wpv 2) (aO (aI (aR (wpv 3) (wpv 4))))))))))
   (af (ap (wpv 2)))))),?_⟩
  have fs:=CG sx sy sz sw;have gs:∀ k c,Sm 8000 (fac (bJ x y z) whole k c):=λk c=>(fs k c).mono (by omega)
  have ps:∀ t j,Sm 8000 (eC (bJ x y z) whole t j):=λt j=>(wg fs t j).mono (by omega)
  refine⟨by decide,λPa hPa=>⟨2,rfl,by decide,λD xs H1 s1 hD hxs=>?_⟩⟩;have gP:=s1 _ _ (ac (H:=H) (a:=Pa) (o:=.lst []));have s0:aj H H1:=(aj.new hPa).trans s1;have DP:D≠Pa:=λz=>by
   rw[z,gP] at hD;cases hD;have:=hxs.length;exact absurd this (by decide)
  have lx:=hxs.length;rw[Ij] at lx;refine⟨D,true,rfl,⟨_,SqL.of hD⟩,kU (xs:=xs) (λi σ H'=>∃ (ys:List V) (o1 o2 o3 o4:Option V),σ=[some (.ref a),some (.int whole),some (.ref Pa),o1,o2,o3,o4]/\Mv [Pa] H1 H'/\H' Pa=some (.lst ys)/\aD K H' (((cU (bJ x y z) whole).take i).map pcD) ys)
   ⟨[],_,_,_,_,rfl,Mv.refl,gP,.nil⟩ (λi σ H' hi ⟨_,_,_,_,_,_,m,_⟩=>SqL.of (m _ _ hD (by simp[DP]))) ?_ ?_⟩
  ·rintro i wv σ H4 ew ⟨ys,o1,o2,o3,o4,rfl,m4,hP4,hys⟩;obtain⟨d,ed,hd⟩:=hxs.get ew;rw[Ix] at ed;obtain⟨t,et,rfl⟩:=IG.mp ed;obtain⟨ca,rfl,hca⟩:=qR hd;have hca4:H4 ca=some (.tup (knV t)):=m4 _ _ hca (λz=>by rw[Ii.mp z,gP] at hca;cases hca);have ha4:SqL K H4 a [.int x,.int y,.int z]:=by
    have aP:∀ o,H a=some o->H4 a=some o:=λo e=>m4 _ _ (s0 _ _ e) (λz=>by rw[Ii.mp z,hPa] at e;cases e)
    rcases ha with (h|⟨o,h⟩)|h
    ·exact .inl (.inl (aP _ h))
    ·exact .inl (.inr ⟨o,aP _ h⟩)
    ·exact .inr h
   have hl:=hys.length;have e8:(cU (bJ x y z) whole).length=8:=by unfold cU;rw[Ij];rfl
   rw[Ij,IZ,e8] at hl;refine⟨_,rfl,_,rfl,ca,a,false,true,rfl,⟨_,SqT.of hca4⟩,⟨_,ha4⟩,DN (K:=K) (xs:=knV t) (ys:=[.int x,.int y,.int z]) (λj σ H'=>(∃ o3 o4,σ=[some (.ref a),some (.int whole),some (.ref Pa),some (.ref ca),some (.int (eC (bJ x y z) whole t j)),o3,o4])/\aj H4 H')
    ⟨⟨_,_,rfl⟩,aj.refl _⟩ rfl (λj σ H' _ ⟨_,s⟩=>⟨vL s (SqT.of hca4),s.seq ha4⟩) ?_ ?_⟩
   ·rintro j u v T σ H5 eu ev ⟨⟨o3,o4,rfl⟩,s5⟩ hT;refine⟨T,_,rfl,SqT.of ac,rfl,_,_,rfl,_,_,rfl,rfl,_,rfl,?_⟩;have sT:=s5.trans (aj.new (o:=.tup [u,v]) hT);rcases at3 eu with ⟨rfl,rfl⟩|⟨rfl,rfl⟩|⟨rfl,rfl⟩
    ·cases(Ie ev);refine⟨_,rfl,_,_,rfl,rfl,_,rfl,lF (λhc=>?_) (λhc=>?_)⟩
     ·have e:t.1=1:=by have:=JP hc;omega
      have hf:fac (bJ x y z) whole 0 t.1=x:=by unfold fac;rw[Jh e];rfl
      have g0:=gs 0 t.1;rw[hf] at g0;exact⟨_,rfl,_,_,rfl,rfl,.inl ⟨ps t 0,g0⟩,⟨_,_,by rw[show eC (bJ x y z) whole t (0+1)=eC (bJ x y z) whole t 0*x from(show _=eC (bJ x y z) whole t 0*fac (bJ x y z) whole 0 t.1 from rfl).trans (Lr _ hf)];rfl⟩,sT⟩
     ·have e:¬ t.1=1:=by have:=Ls (by simpa using hc);omega
      have hf:fac (bJ x y z) whole 0 t.1=whole-x:=by unfold fac;rw[IY e];rfl
      have g0:=gs 0 t.1;rw[hf] at g0;exact⟨_,rfl,_,rfl,_,_,rfl,rfl,_,_,rfl,rfl,.inl ⟨ps t 0,g0⟩,⟨_,_,by rw[show eC (bJ x y z) whole t (0+1)=eC (bJ x y z) whole t 0*(whole-x) from(show _=eC (bJ x y z) whole t 0*fac (bJ x y z) whole 0 t.1 from rfl).trans (Lr _ hf)];rfl⟩,sT⟩
    ·cases(Ie ev);refine⟨_,rfl,_,_,rfl,rfl,_,rfl,lF (λhc=>?_) (λhc=>?_)⟩
     ·have e:t.2.1=1:=by have:=JP hc;omega
      have hf:fac (bJ x y z) whole 1 t.2.1=y:=by unfold fac;rw[Jh e];rfl
      have g0:=gs 1 t.2.1;rw[hf] at g0;exact⟨_,rfl,_,_,rfl,rfl,.inl ⟨ps t 1,g0⟩,⟨_,_,by rw[show eC (bJ x y z) whole t (1+1)=eC (bJ x y z) whole t 1*y from(show _=eC (bJ x y z) whole t 1*fac (bJ x y z) whole 1 t.2.1 from rfl).trans (Lr _ hf)];rfl⟩,sT⟩
     ·have e:¬ t.2.1=1:=by have:=Ls (by simpa using hc);omega
      have hf:fac (bJ x y z) whole 1 t.2.1=whole-y:=by unfold fac;rw[IY e];rfl
      have g0:=gs 1 t.2.1;rw[hf] at g0;exact⟨_,rfl,_,rfl,_,_,rfl,rfl,_,_,rfl,rfl,.inl ⟨ps t 1,g0⟩,⟨_,_,by rw[show eC (bJ x y z) whole t (1+1)=eC (bJ x y z) whole t 1*(whole-y) from(show _=eC (bJ x y z) whole t 1*fac (bJ x y z) whole 1 t.2.1 from rfl).trans (Lr _ hf)];rfl⟩,sT⟩
    ·cases(Ie ev);refine⟨_,rfl,_,_,rfl,rfl,_,rfl,lF (λhc=>?_) (λhc=>?_)⟩
     ·have e:t.2.2=1:=by have:=JP hc;omega
      have hf:fac (bJ x y z) whole 2 t.2.2=z:=by unfold fac;rw[Jh e];rfl
      have g0:=gs 2 t.2.2;rw[hf] at g0;exact⟨_,rfl,_,_,rfl,rfl,.inl ⟨ps t 2,g0⟩,⟨_,_,by rw[show eC (bJ x y z) whole t (2+1)=eC (bJ x y z) whole t 2*z from(show _=eC (bJ x y z) whole t 2*fac (bJ x y z) whole 2 t.2.2 from rfl).trans (Lr _ hf)];rfl⟩,sT⟩
     ·have e:¬ t.2.2=1:=by have:=Ls (by simpa using hc);omega
      have hf:fac (bJ x y z) whole 2 t.2.2=whole-z:=by unfold fac;rw[IY e];rfl
      have g0:=gs 2 t.2.2;rw[hf] at g0;exact⟨_,rfl,_,rfl,_,_,rfl,rfl,_,_,rfl,rfl,.inl ⟨ps t 2,g0⟩,⟨_,_,by rw[show eC (bJ x y z) whole t (2+1)=eC (bJ x y z) whole t 2*(whole-z) from(show _=eC (bJ x y z) whole t 2*fac (bJ x y z) whole 2 t.2.2 from rfl).trans (Lr _ hf)];rfl⟩,sT⟩
   ·rintro σ H5 ⟨⟨o3,o4,rfl⟩,s5⟩;have hP5:=s5 _ _ hP4;refine⟨_,rfl,.inl ⟨rfl,_,SqL.of hP5⟩,_,rfl,_,rfl,le2,λp hp=>?_⟩;have pP:p≠Pa:=λz=>by rw[z,hP5] at hp;cases hp
    refine⟨Pa,ys,.ref p,rfl,rfl,by rw[ao (KH pP)];exact hP5,bg (by omega),?_⟩;have m6:Mv [Pa] H5 (upd (upd H5 p (.tup [.ref ca,.int (eC (bJ x y z) whole t (knV t).length)])) Pa (.lst (ys++[.ref p]))):=λb o e n=>by
     rw[ao (λz=>n (by simp[z])),ao (aB e hp)];exact e
    have li:cD H5 [Pa]:=λb mm=>⟨ys,by rw[Ii.mp mm];exact hP5⟩
    refine⟨_,_,_,_,_,rfl,(m4.trans (Mv.of s5)).trans m6,ac,?_⟩;have et':(cU (bJ x y z) whole)[i]?=some (t,eC (bJ x y z) whole t 3):=by
     unfold cU;rw[Ix,et];rfl
    rw[b9 et',JM];refine(aD.mv m6 li (qB _) (aD.same s5 hys)).snoc (.tup (by rw[ao pP];exact ac) (.cons ?_ (.cons (.int _) .nil)));exact lH (m6 _ _ (s5 _ _ hca4) (λz=>by rw[Ii.mp z,hP4] at hca4;cases hca4))
  ·rintro σ H4 ⟨ys,o1,o2,o3,o4,rfl,m4,hP4,hys⟩;rw[Jc (by rw[<- lx];show(cU (bJ x y z) whole).length<=_;unfold cU;rw[Ij];exact Il _)] at hys;exact⟨_,rfl,q Pa ys H4 (λb o e=>m4 b o (s0 _ _ e) (λz=>by rw[Ii.mp z,hPa] at e;cases e)) hP4 hys⟩
theorem yi:am ["thing"] ["thing"] (ag qF):=scM
def Eo:List (Str×Str):=[("four","parts_by_four"),("eight","parts_by_eight")]
def Af (K:Ia):Sp:=λvs H Q _=>∃ (i:Str),vs=[.str i]/\Q (.bl (Eo.lookup i).isSome) H
theorem zh (T:Glo K mg w):Cal P w K mg base CX0 1 "is_way" ["thing"] [] (Af K):=by
 refine T.x1w.cal yi (λvs H Q E h=>?_) (λf cdv A outer s H vs Q E hr h=>?_)
 ·obtain⟨i,rfl,_⟩:=h;rfl
 ·obtain⟨i,rfl,q⟩:=h;refine⟨_,(WSs.go (af (ap (c7 (aq (lS (K:=K) rfl) (by rfl) T.x3 aA (aR (wpv 0) (bO (v:=.ty "str") rfl T.x10 Fl rfl))) (fq (bM (BA (K:=K) (w:=w) (mg:=mg) (kvs:=[("four","parts_by_four"),("eight","parts_by_eight")]) rfl rfl) (wpv 0) (y8 (K:=K) (w:=w) (mg:=mg) (kvs:=[("four","parts_by_four"),("eight","parts_by_eight")]) rfl T.xn) rfl)))))),?_⟩;refine⟨_,rfl,_,_,_,true,rfl,.str i,(show jC "str" "str"=some true by decide +kernel),_,rfl,bQ ?_⟩;exact⟨_,rfl,λD hD=>⟨i,D,rfl,rfl,hD,q⟩⟩
theorem kr:am ["self","knots","table"] ["self","knots","table"] (ag dP):=scM
def jV (K:Ia):Sp:=λvs H Q _=>∃ (a C dx d:Iv) (n:Nat) (f:Kn->R3),vs=[.ref a,.int n,.ref d]/\eF K "Grid" C/\H a=some (.ins C dx [])/\Gr K H n f d/\WtB n f/\2<=n/\n<=7/\∀ (H':Hp) (L:Iv),Mv [a] H H'->H' a=some (.ins C dx [("knots",.int n),("table",.ref L)])->Gr K H' n f L->H L=none->Q .non H'
theorem fV (T:Glo K mg w):vZ P w K mg base CX0 6 "Grid" "__init__" ["self","knots","table"] [] (jV K):=by
 refine T.x1x.cal kr (λvs H Q E h=>?_) (λf cdv A outer s H vs Q E hr h=>?_)
 ·obtain⟨a,C,dx,d,n,f,rfl,_⟩:=h;rfl
 ·obtain⟨a,C,dx,d,n,f,rfl,hC,ha,hg,hw,h2,h7,q⟩:=h;refine⟨_,(WSs.go (ab (a_ (aV (aS (ae aK (uX T) hr (aO (wpv 1))))) (af bw) aE)
   (ab (a_ (aV (aS (ae aK (ve T) hr (aR (wpv 2) (wpv 1))))) (af bw) aE)
   (ab (di (K:=K) (x:="Grid") rfl T.x4 (.head _) (wpv 0) (wpv 1))
   (af (di (K:=K) (x:="Grid") rfl T.x4 (.tail _ (.head _)) (wpv 0) (aQ xC (by rfl) T.xj Al (aO (wpv 2))))))))),?_⟩
  have e1:wwB 2 7 (.int (n:Int))=true:=by
   show(decide ((2:Int)<=n)&&decide ((n:Int)<=7))=true;rw[Ir (show(2:Int)<=n by omega),Ir (show(n:Int)<=7 by omega)];rfl
  refine⟨_,rfl,.int n,.int n,rfl,.int _,true,by rw[e1],cQ ?_⟩;refine⟨_,rfl,_,rfl,d,n,f,rfl,hg,hw,h7,λH1 s1=>⟨_,rfl,cQ ?_⟩⟩;have ha1:=s1 _ _ ha;have hg1:=hg.same s1;refine⟨_,rfl,_,rfl,a,C,dx,[],rfl,hC,ha1,by decide,?_⟩;obtain⟨ts,pm,vs,hd,hvs⟩:=id hg1;have hlen:=GrP.len hvs;have na:d≠a:=λz=>by rw[z,ha1] at hd;cases hd
  have mv1:Mv [a] H1 (upd H1 a (.ins C dx (iQ "knots" (.int n) []))):=λb o e nb=>by rw[ao (λz=>nb (by simp[z]))];exact e
  have ne:tkv ts vs≠[]:=λz=>by
   have:=Lr Pr z;rw[vH hlen,pm.length_eq,mV] at this;have:0<n^3:=Nat.pow_pos (by omega);rw[M_] at *;omega
  refine⟨_,rfl,d,_,rfl,.inl (mv1 _ _ hd (by simp[na])),ne,DC h7 pm hlen,λL hL=>?_⟩;refine⟨_,rfl,a,C,dx,_,rfl,hC,by rw[ao (λz=>by rw[<- z,ac] at hL;cases hL)];exact ac,by show 1<1000;decide,?_⟩;have La:L≠a:=λz=>by rw[z,ac] at hL;cases hL
  have mv2:Mv [a] H1 (upd (upd (upd H1 a (.ins C dx (iQ "knots" (.int n) []))) L (.dT (tkv ts vs))) a (.ins C dx (iQ "table" (.ref L) (iQ "knots" (.int n) [])))):=λb o e nb=>by
   have nb:b≠a:=λz=>nb (by simp[z])
   rw[ao nb,ao (λz=>by rw[<- z,ao nb,e] at hL;cases hL),ao nb];exact e
  have wkeep:∀ {ts:List Kn}{ws:List V}{H':Hp},Mv [a] H1 H'->aD K H1 (ts.map λt=>wD (f t)) ws->aD K H' (ts.map λt=>wD (f t)) ws:=λ{ts ws H'} m h=>by
   induction ts generalizing ws with
   |nil=>cases h;exact .nil
   |cons t ts ih=>
    cases h with
    |cons h1 h2=>
     refine .cons ?_ (ih h2);have h1':IsD K H1 (.tuple (f t).ds) _:=h1;cases h1' with
     |tup k1 k2=>
      cases gC k2;exact .tup (m _ _ k1 (λz=>by rw[Ii.mp z,ha1] at k1;cases k1)) (.cons (.int _) (.cons (.int _) (.cons (.int _) .nil)))
  refine q _ L (λb o e nb=>mv2 b o (s1 _ _ e) nb) ac ⟨ts,pm,vs,?_,wkeep mv2 hvs⟩ ?_
  ·rw[ao La];exact ac
  ·cases z:H L with
   |none=>rfl
   |some o=>
    rw[ao La,s1 _ _ z] at hL;cases hL
theorem oP:am ["self","place"] ["self","place"] (ag gU):=scM
def oR (K:Ia):Sp:=λvs H Q _=>∃ (v x:V) (n:Nat) (f:Kn->R3) (t:Kn),vs=[v,x]/\qW K H n f v/\IsD K H (knD t) x/\t∈cw n/\∀ (w:V) (H':Hp),aj H H'->IsD K H' (wD (f t)) w->Q w H'
theorem oE (T:Glo K mg w):vZ P w K mg base CX0 5 "Grid" "knot" ["self","place"] [] (oR K):=by
 refine T.x1y.cal oP (λvs H Q E h=>?_) (λf cdv A outer s H vs Q E hr h=>?_)
 ·obtain⟨v,x,n,f,t,rfl,_⟩:=h;rfl
 ·obtain⟨v,x,n,f,t,rfl,hv,hx,ht,q⟩:=h;obtain⟨a,C,dx,d,rfl,hC,ha,hg⟩:=id hv;refine⟨_,(WSs.go (ab (a_ (aV (aS (ae aK (oZ T) hr (aR (wpv 1) (bN (K:=K) (x:="Grid") rfl T.x4 (.head _) (wpv 0)))))) (af bw) aE)
   (af (ap (md hr.u1 (bN (K:=K) (x:="Grid") rfl T.x4 (.tail _ (.head _)) (wpv 0)) (wpv 1) (λ_ _=>rfl)))))),?_⟩
  have hm:=dW.mp ht;have e:([(t.1:Int),(t.2.1:Int),(t.2.2:Int)].all λk=>decide (0<=k)&&decide (k<=(n:Int)-1))=true:=by
   simp only[M0,Qr,MX,Ju,MJ];omega
  refine⟨_,rfl,_,rfl,a,C,dx,_,_,rfl,hC,ha,rfl,x,[(t.1:Int),(t.2.1:Int),(t.2.2:Int)],n,rfl,hx,rfl,λH1 s1=>⟨true,by rw[e],cQ ?_⟩⟩;obtain⟨b,rfl,hb⟩:=qR (IsD.same s1 hx);obtain⟨w,g1,g2⟩:=vQ (hg.same s1) ht hb;exact⟨_,rfl,a,C,dx,_,_,rfl,hC,s1 _ _ ha,rfl,_,rfl,d,w,rfl,g1,q _ _ s1 g2⟩
theorem om:am ["self"] ["self"] (ag gI):=scM
def oH (K:Ia):Sp:=λvs H Q _=>∃ (v:V) (n:Nat) (f:Kn->R3),vs=[v]/\qW K H n f v/\2<=n/\n<=7/\∀ (w:V) (H':Hp),aj H H'->IsD K H' (.tuple [.int n,.int (apN n)]) w->Q w H'
theorem oQ (T:Glo K mg w):vZ P w K mg base CX0 2 "Grid" "size" ["self"] [] (oH K):=by
 refine T.x1z.cal om (λvs H Q E h=>?_) (λf cdv A outer s H vs Q E hr h=>?_)
 ·obtain⟨v,n,f,rfl,_⟩:=h;rfl
 ·obtain⟨v,n,f,rfl,hv,h2,h7,q⟩:=h;obtain⟨a,C,dx,d,rfl,hC,ha,hg⟩:=hv;refine⟨_,(WSs.go (af (ap (aI (aR (bN (K:=K) (x:="Grid") rfl T.x4 (.head _) (wpv 0)) (ae aK (A9 T) hr (aO (bN (K:=K) (x:="Grid") rfl T.x4 (.head _) (wpv 0))))))))),?_⟩;refine⟨_,rfl,a,C,dx,_,_,rfl,hC,ha,rfl,_,rfl,a,C,dx,_,_,rfl,hC,ha,rfl,n,rfl,h2,h7,le2,λp hp=>?_⟩;exact q _ _ (aj.new hp) (IsD.tupN hp (.cons (.int _) (.cons (.int _) .nil)))
theorem fj:am ["self","least","parts","worths","amounts"] ["self","least","parts"] (ag gf):=scM
def mM (K:Ia):Sp:=λvs H Q _=>∃ (v x:V) (D:Iv) (ys:List V) (n:Nat) (f:Kn->R3) (base:Kn) (ps:List Pc),vs=[v,x,.ref D]/\qW K H n f v/\IsD K H (knD base) x/\H D=some (.lst ys)/\aD K H (ps.map pcD) ys/\ps.length<=10/\WtB n f /\
 (∀ p∈ps,ay base p.1∈cw n)/\(∀ p∈ps,Sm 7000 p.2)/\(ps.map (·.2)).sum≠0/\Sm 8000 (ps.map (·.2)).sum/\∀ (w:V) (H':Hp),aj H H'->IsD K H' (Ei f base ps).col w->Q w H'
theorem nC (T:Glo K mg w):vZ P w K mg base CX0 6 "Grid" "mixed" ["self","least","parts"] [] (mM K):=by
 refine T.x20.cal fj (λvs H Q E h=>?_) (λf cdv A outer s H vs Q E hr h=>?_)
 ·obtain⟨v,x,D,ys,n,f,base,ps,rfl,_⟩:=h;rfl
 ·obtain⟨v,x,D,ys,n,f,base,ps,rfl,hv,hx,hD,hys,hl,hw,hk,hp,h0,hS,q⟩:=h;refine⟨_,(WSs.go (ab (au 3 fj.nd (ax ["corner","part"] ["self","least"] [0,1] 2 (bh (K:=K) rfl (wpv 2)) (λnd=>(dF (K:=K) (n:=2) rfl rfl (av (ah 0 nd) (av (ah 1 nd) bt)))) aw (ik (K:=K) rfl aK (oE T) (hr.mono (by decide)) (wpv 2) (aO (ae aK (vR T) hr (aR (wpv 3) (wpv 0)))))))
   (ab (au 4 fj.nd (ax ["corner","part"] [] [] 2 (bh (K:=K) rfl (wpv 2)) (λnd=>(dF (K:=K) (n:=2) rfl rfl (av (ah 0 nd) (av (ah 1 nd) bt)))) aw (wpv 1)))
   (af (ap (aQ (dc (K:=K) rfl) (by rfl) T.x1 be (aO (ax ["k"] ["worths","amounts"] [3,4] 1 (aM rfl T.x0 (aO aa)) (λnd=>(ah 0 nd)) aw (ae aK (fS T T.xd) hr (aR (ae aK (oM T) hr (aR (ax ["worth"] ["k"] [0] 1 (bh (K:=K) rfl (wpv 1)) (λnd=>(ah 0 nd)) aw (ak K (wpv 0) (wpv 1))) (wpv 2))) (aq (Ce (K:=K) rfl rfl) (by rfl) T.xm Cp (aO (wpv 2))))))))))))),?_⟩
  obtain⟨a,C,dx,d,rfl,hC,ha,hg⟩:=id hv;obtain⟨la,rfl,hla⟩:=qR hx;have lw:∀ {r:R3},r.Wt->∀ g:R3->Int,(∀ r:R3,g r=r.a\/g r=r.b\/g r=r.c)->Sm 8000 (g r):=λ{r} h g hgr=>by
   refine Sm.mono (k:=20) ?_ (by decide);obtain⟨a0,a1,b0,b1,c0,c1⟩:=h;unfold Sm;rcases hgr r with e|e|e<;>(rw[e];omega)
  refine⟨_,rfl,D,true,rfl,⟨_,SqL.of hD⟩,bx (es:=ps.map λp=>wD (f (ay base p.1))) (show SqB K H D ys true from SqL.of hD) hys (by simp) (by simp;omega) (λi e e' u H1 hd he s1 hu R kk S=>?_) (λws H1 s1 hws W hW=>?_)⟩
  ·rw[Ix] at hd he;obtain⟨p,ep,rfl⟩:=IG.mp hd;rw[ep] at he;cases he;obtain⟨ta,ca,rfl,hta,hca⟩:=CF hu;refine⟨ta,_,rfl,SqT.of hta,rfl,_,_,rfl,_,_,rfl,rfl,bQ (B:=S H1) ?_⟩;refine⟨_,rfl,a,C,dx,_,rfl,hC,s1 _ _ ha,rfl,_,rfl,_,rfl,la,ca,[(base.1:Int),(base.2.1:Int),(base.2.2:Int)],[(p.1.1:Int),(p.1.2.1:Int),(p.1.2.2:Int)],rfl,SqT.of (s1 _ _ hla),SqT.of hca,rfl,by show 3<=10;decide,λpa H2 s2 hpa=>?_⟩;rw[B4] at hpa;exact⟨.ref a,.ref pa,n,f,ay base p.1,rfl,hv.same (s1.trans s2),lH hpa,hk p (IM ep),λw H3 s3 hw3=>kk _ _ ⟨s2.trans s3,hw3⟩⟩
  have sW:aj H1 (upd H1 W (.lst ws)):=aj.new hW;have hW2:SqB K (upd H1 W (.lst ws)) W ws true:=SqL.of ac;have hws2:=aD.same sW hws;have s2:=s1.trans sW;generalize upd H1 W (.lst ws)=H2 at sW hW2 hws2 s2 ⊢;refine⟨_,rfl,D,true,rfl,⟨_,SqL.of (s2 _ _ hD)⟩,bx (es:=(ps.map (·.2)).map KM) (show SqB K H2 D ys true from SqL.of (s2 _ _ hD)) (aD.same s2 hys) (by simp) (by simp;omega) (λi e e' u H3 hd he s3 hu R kk S=>?_) (λks H3 s3 hks L hL=>?_)⟩
  ·rw[Ix] at hd he;obtain⟨p,ep,rfl⟩:=IG.mp hd;rw[Ix,ep] at he;cases he;obtain⟨ta,ca,rfl,hta,hca⟩:=CF hu;exact⟨ta,_,rfl,SqT.of hta,rfl,_,_,rfl,_,_,rfl,rfl,bQ (B:=S H3) ⟨_,rfl,kk _ _ ⟨aj.refl _,.int _⟩⟩⟩
  have eks:=cN hks;subst eks;have sL:aj H3 (upd H3 L (.lst ((ps.map (·.2)).map V.int))):=aj.new hL;have hL4:SqB K (upd H3 L (.lst ((ps.map (·.2)).map V.int))) L ((ps.map (·.2)).map V.int) true:=SqL.of ac;have s4:=s3.trans sL;generalize upd H3 L (.lst ((ps.map (·.2)).map V.int))=H4 at sL hL4 s4 ⊢;have hW4:=SqB.same s4 hW2;have hws4:=aD.same s4 hws2;refine⟨3,rfl,by decide,by decide,c5 (K:=K) (lo:=0) (ds:=(Ei f base ps).ds) (n:=3) rfl (by decide) (λi e H5 he s5 R kk S=>?_) (λzs H5 s5 hzs Z hZ=>?_)⟩
  ·obtain⟨g,rfl,hi,hgv⟩:=HH he;have hgr:∀ r:R3,g r=r.a\/g r=r.b\/g r=r.c:=λr=>by
    have:=hgv r;rcases at3 this with ⟨_,e⟩|⟨_,e⟩|⟨_,e⟩
    ·injection e with e;exact .inl e
    ·injection e with e;exact .inr (.inl e)
    ·injection e with e;exact .inr (.inr e)
   refine bQ (B:=S H5) ⟨_,rfl,W,true,rfl,⟨_,SqB.same s5 hW4⟩,bx (es:=(ps.map λp=>g (f (ay base p.1))).map KM) (SqB.same s5 hW4) (aD.same s5 hws4) (by simp) (by simp;omega) (λj e e' u H6 hd he s6 hu R2 kk2 S2=>?_) (λns H6 s6 hns N hN=>?_)⟩
   ·rw[Ix] at hd he;obtain⟨p,ep,rfl⟩:=IG.mp hd;rw[Ix,ep] at he;cases he;obtain⟨wa,rfl,hwa⟩:=kD (b:=false) hu;refine bQ (B:=S2 H6) ⟨_,rfl,_,rfl,?_⟩;have:=ixB (K:=K) (Q:=R2) hwa (hgv (f (ay base p.1))) (kk2 _ _ ⟨aj.refl _,.int _⟩);rw[show((0:Int)+(i:Int))=(i:Int) from L' _];exact this
   ·have ens:=cN hns;subst ens;have hL7:=SqB.same ((s5.trans s6).trans (aj.new (o:=.lst ((ps.map λp=>g (f (ay base p.1))).map V.int)) hN)) hL4;refine⟨_,rfl,N,L,true,true,_,_,rfl,SqL.of ac,hL7,by simp,by simp;omega,λz hz=>?_,λz hz=>?_,λH7 s7=>?_⟩
    ·obtain⟨p,hp',rfl⟩:=Js.mp hz;exact lw (hw _ (hk p hp')) g hgr
    ·obtain⟨p,hp',rfl⟩:=Js.mp hz;exact(hp p hp').mono (by decide)
    ·refine⟨_,rfl,L,_,rfl,SqB.same s7 hL7,_,_,rfl,h0,hS,?_⟩;refine ShQ.sh h0 λw H8 s8 hw8=>kk _ _ ⟨((s6.trans (aj.new hN)).trans s7).trans s8,hw8⟩
  ·exact⟨Z,zs,rfl,.inl ⟨SqL.of ac,λl hl=>q _ _ ((((s2.trans s4).trans s5).trans (aj.new hZ)).trans (aj.new hl)) (IsD.tupN (ds:=(Ei f base ps).ds) hl (aD.same (aj.new hZ) hzs))⟩⟩
theorem bK:am ["self","colour","way","parts_of","steps","least","tops","below","far"] ["self","colour","way"] (ag ci):=scM
def nV (K:Ia):Sp:=λvs H Q _=>∃ (v x:V) (way:Str) (n:Nat) (f:Kn->R3) (c:Q3) (k:Nat),vs=[v,x,.str way]/\qW K H n f v/\WtB n f/\2<=n/\n<=7/\IsD K H c.col x/\c.Wi ((60:Int):Rat)/\c.Bd k/\k<=400/\TbI K "parts_by_four" H/\(way="four"\/way="eight") /\
 ∀ (r:Q3) (w:V) (H':Hp),aj H H'->(way="four"->r=W4 n f c)->(way="eight"->r=W8 n f c)->r.Bd (12*k+120)->IsD K H' r.col w->Q w H'
theorem nK (T:Glo K mg w):rA P w K mg base CX0 7 "Grid" "worth" ["self","colour","way"] [] 2 0 [.str "four"] (nV K):=by
 refine T.x39.cal bK (λvs H Q E h=>?_) (λf cdv A outer s H vs Q E hr h=>?_)
 ·obtain⟨v,x,way,n,f,c,k,rfl,_⟩:=h;rfl
 ·obtain⟨v,x,way,n,f,c,k,rfl,hv,hw,h2,h7,hx,wi,bd,hk,tb,hway,q⟩:=h;obtain⟨a,C,dx,d,rfl,hC,ha,hg⟩:=id hv;obtain⟨ap0,ap1,ap2⟩:=tL h2 h7;have hlk:∃ fnm,Eo.lookup way=some fnm:=by
   rcases hway with rfl|rfl
   ·exact⟨_,rfl⟩
   ·exact⟨_,rfl⟩
  obtain⟨fnm,hlk⟩:=hlk;have dva:Dv n c.a:=⟨h2,h7,wi.a0,wi.a1⟩
  have dvb:Dv n c.b:=⟨h2,h7,wi.b0,wi.b1⟩
  have dvc:Dv n c.c:=⟨h2,h7,wi.c0,wi.c1⟩
  have sap:Sm 6 (apN n):=by unfold Sm;omega
  have bqs:∀ {y:Rat},Bq k y->Bq (k+6) (stp n y):=λ{y} h=>l0 (Jf h.ne (by omega)) (h.sn.mono (by omega)) ((h.sd.mul sap))
  refine⟨_,(WSs.go (ab (a_ (aV (aS (ae aK (zh T) hr (aO (wpv 2))))) (af bw) aE)
   (ab (bo (ae aK (bY T) hr (aO (wpv 1))))
   (ab (au 3 bK.nd (Ch (E6 (K:=K) (w:=w) (mg:=mg) (kvs:=[("four","parts_by_four"),("eight","parts_by_eight")]) rfl rfl) (y8 (K:=K) (w:=w) (mg:=mg) (kvs:=[("four","parts_by_four"),("eight","parts_by_eight")]) rfl T.xn) (wpv 2) (λ_ _=>rfl)))
   (ab (cB 4 ["top","below"] ["self"] [0] 2 bK.nd (bh (K:=K) rfl (wpv 1)) (λnd=>(dF (K:=K) (n:=2) rfl rfl (av (ah 0 nd) (av (ah 1 nd) bt)))) aw (ae aK (fS T T.xd) hr (aR (wpv 0) (ar aG (wpv 1) (ak K (mh (K:=K) rfl aK (oQ T) (hr.mono (by decide)) (wpv 2)) aa)))))
   (ab (au 5 bK.nd (aQ (dc (K:=K) rfl) (by rfl) T.x1 be (aO (ax ["step"] ["self"] [0] 1 (bh (K:=K) rfl (wpv 4)) (λnd=>(ah 0 nd)) aw (aq (iG rfl) (by rfl) T.xc tK (aR (ae aK (u8 T) hr (aO (wpv 0))) (ar cS (bN (K:=K) (x:="Grid") rfl T.x4 (.head _) (wpv 1)) aa)))))))
   (ab (gY (ae aK (kJ T) hr (aO (wpv 4))) (dF (K:=K) (n:=2) rfl rfl (av (ah 6 bK.nd) (av (ah 7 bK.nd) bt))))
   (ab (cB 8 ["top","number"] ["below"] [7] 2 bK.nd (lr (K:=K) rfl rfl T.x8 (aR (wpv 6) (wpv 5))) (λnd=>(dF (K:=K) (n:=2) rfl rfl (av (ah 0 nd) (av (ah 1 nd) bt)))) aw (ar cS (wpv 0) (ar aG (wpv 1) (wpv 2))))
   (af (ap (ik (K:=K) rfl aK (nC T) (hr.mono (by decide)) (wpv 0) (aR (wpv 5) (Bb (P:=P) (w:=w) (K:=K) (mg:=mg) (base:=base) (CX:=CX0) (k:=2) rfl rfl rfl rfl rfl aK (hr.mono (by decide)) (wpv 3) (aR (wpv 8) (wpv 7))))))))))))))),?_⟩
  refine⟨_,rfl,way,rfl,true,by rw[hlk];rfl,cQ ?_⟩;refine⟨_,rfl,x,c,rfl,hx,wi,bd.mono (by omega),λH1 s1=>?_⟩;refine λD hD=>⟨_,rfl,way,fnm,D,rfl,rfl,hD,hlk,λfa hfa=>?_⟩
  have hx1:=IsD.same s1 hx;obtain⟨ca,xs,rfl,hca,hxs⟩:=aH (b:=false) (ds:=c.ds) hx1;have hv1:=hv.same s1;refine⟨_,rfl,ca,false,rfl,⟨_,hca⟩,bx (es:=[rD (stp n c.a),rD (stp n c.b),rD (stp n c.c)]) hca hxs rfl (by show 3<=1000;decide) (λi e e' u H2 hd he s2 hu R kk S=>?_) (λss H2 s2 hss St hSt=>?_)⟩
  ·obtain⟨y,rfl,rfl,by_⟩:∃ y:Rat,e=rD y/\e'=rD (stp n y)/\Bq k y:=by
    rcases at3 hd with ⟨rfl,rfl⟩|⟨rfl,rfl⟩|⟨rfl,rfl⟩
    ·exact⟨c.a,rfl,(Ie he).symm,bd.a⟩
    ·exact⟨c.b,rfl,(Ie he).symm,bd.b⟩
    ·exact⟨c.c,rfl,(Ie he).symm,bd.c⟩
   obtain⟨wa,rfl,hwa⟩:=bn hu;refine⟨wa,_,rfl,SqT.of hwa,rfl,_,_,rfl,_,_,rfl,rfl,bQ (B:=S H2) ?_⟩;refine⟨_,rfl,_,rfl,_,rfl,a,C,dx,_,rfl,hC,(s1.trans s2) _ _ ha,rfl,.ref a,n,f,rfl,hv1.same s2,h2,h7,λw H3 s3 hw3=>?_⟩;obtain⟨wb,rfl,hwb⟩:=bn (n:=(n:Int)) (d:=apN n) hw3;refine cE hwb ⟨_,_,rfl,rfl,.inl ⟨by_.sd.mono (by omega),sap.mono (by decide)⟩,_,_,rfl,Jf by_.ne (by omega),(by_.sd.mul sap).mono (by omega),?_⟩;exact ShQ.sh (Jf by_.ne (by omega)) λw H4 s4 hw4=>kk _ _ ⟨s3.trans s4,hw4⟩
  have sS:aj H2 (upd H2 St (.lst ss)):=aj.new hSt;have hS3:IsD K (upd H2 St (.lst ss)) (.list [rD (stp n c.a),rD (stp n c.b),rD (stp n c.c)]) (.ref St):=IsD.listN hSt hss;have s3:=(s1.trans s2).trans sS;generalize upd H2 St (.lst ss)=H3 at sS hS3 s3 ⊢;obtain⟨St',ss',eS,hSq,hss3⟩:=aH (b:=true) (ds:=[rD (stp n c.a),rD (stp n c.b),rD (stp n c.c)]) hS3;cases eS;refine⟨_,rfl,St,true,rfl,⟨_,hSq⟩,bx (es:=[.int ((lea n c.a:Nat):Int),.int ((lea n c.b:Nat):Int),.int ((lea n c.c:Nat):Int)]) hSq hss3 rfl (by show 3<=1000;decide) (λi e e' u H4 hd he s4 hu R kk S=>?_) (λls H4 s4 hls L hL=>?_)⟩
  ·obtain⟨y,rfl,rfl,by_,dv⟩:∃ y:Rat,e=rD (stp n y)/\e'=.int ((lea n y:Nat):Int)/\Bq k y/\Dv n y:=by
    rcases at3 hd with ⟨rfl,rfl⟩|⟨rfl,rfl⟩|⟨rfl,rfl⟩
    ·exact⟨c.a,rfl,(Ie he).symm,bd.a,dva⟩
    ·exact⟨c.b,rfl,(Ie he).symm,bd.b,dvb⟩
    ·exact⟨c.c,rfl,(Ie he).symm,bd.c,dvc⟩
   refine bQ (B:=S H4) ⟨_,rfl,u,_,_,rfl,hu,(bqs by_).mono (by omega),_,rfl,a,C,dx,_,_,rfl,hC,(s3.trans s4) _ _ ha,rfl,_,_,rfl,rfl,_,_,rfl,?_⟩;have e:(if(n:Int)-2<(stp n y).num.fdiv ((stp n y).den:Int) then(n:Int)-2 else(stp n y).num.fdiv ((stp n y).den:Int))=((lea n y:Nat):Int):=by
    rw[y_,u4 dv];rfl
   rw[e];exact kk _ _ ⟨aj.refl _,.int _⟩
  have els:=cN (ns:=[((lea n c.a:Nat):Int),((lea n c.b:Nat):Int),((lea n c.c:Nat):Int)]) hls;subst els;refine⟨L,_,rfl,.inl ⟨SqL.of ac,λle hle=>?_⟩⟩;have s5:aj H3 (upd (upd H4 L (.lst ([((lea n c.a:Nat):Int),((lea n c.b:Nat):Int),((lea n c.c:Nat):Int)].map V.int))) le (.tup ([((lea n c.a:Nat):Int),((lea n c.b:Nat):Int),((lea n c.c:Nat):Int)].map V.int))):=(s4.trans (aj.new hL)).trans (aj.new hle);have hle5:upd (upd H4 L (.lst ([((lea n c.a:Nat):Int),((lea n c.b:Nat):Int),((lea n c.c:Nat):Int)].map V.int))) le (.tup ([((lea n c.a:Nat):Int),((lea n c.b:Nat):Int),((lea n c.c:Nat):Int)].map V.int)) le=some (.tup (knV (bas n c))):=ac;generalize upd (upd H4 L (.lst ([((lea n c.a:Nat):Int),((lea n c.b:Nat):Int),((lea n c.c:Nat):Int)].map V.int))) le (.tup ([((lea n c.a:Nat):Int),((lea n c.b:Nat):Int),((lea n c.c:Nat):Int)].map V.int))=H5 at s5 hle5 ⊢;have brs:∀ r∈[stp n c.a,stp n c.b,stp n c.c],Bq (k+6) r:=λr hr=>by
   simp only[Iy,IW,KS] at hr;rcases hr with rfl|rfl|rfl
   ·exact bqs bd.a
   ·exact bqs bd.b
   ·exact bqs bd.c
  refine⟨_,rfl,.ref St,true,k+6,[stp n c.a,stp n c.b,stp n c.c],rfl,IsD.same s5 hS3,brs,by show 3<=500;decide,by omega,by show 3*(k+6)+(k+6)+1<=7900;omega,λtv H6 s6 htv=>?_⟩;obtain⟨B0,BS⟩:=j8 brs 3 (by show 3<=3;decide);rw[Jc (by show 3<=3;decide)] at B0 BS;have dvd:∀ r∈[stp n c.a,stp n c.b,stp n c.c],(r.den:Int)∣fH [stp n c.a,stp n c.b,stp n c.c]:=λr hr=>zk hr
  have ovs:∀ r∈[stp n c.a,stp n c.b,stp n c.c],Sm (3*(k+6)+(k+6)+1) (ov (fH [stp n c.a,stp n c.b,stp n c.c]) r):=λr hr=>GR brs hr
  generalize fH [stp n c.a,stp n c.b,stp n c.c]=B at *;obtain⟨ta,ts,rfl,hta,hts⟩:=aH (b:=false) (ds:=[.list ([stp n c.a,stp n c.b,stp n c.c].map λr=>.int (ov B r)),.int B]) htv;obtain⟨t0,rfl,ht0⟩:∃ t0,ts=[t0,.int B]/\IsD K H6 (.list ([stp n c.a,stp n c.b,stp n c.c].map λr=>.int (ov B r))) t0:=by
   cases hts with
   |cons k1 k2=>
    cases k2 with
    |cons k3 k4=>
     cases k3;cases k4;exact⟨_,rfl,k1⟩
  refine⟨ta,_,rfl,hta,rfl,_,_,rfl,_,_,rfl,rfl,?_⟩;obtain⟨tl,tls,rfl,htl,htls⟩:=aH (b:=true) (ds:=[stp n c.a,stp n c.b,stp n c.c].map λr=>.int (ov B r)) ht0;have hle6:=s6 _ _ hle5;refine⟨_,rfl,_,rfl,tl,le,true,false,rfl,⟨_,htl⟩,⟨_,SqT.of hle6⟩,iC (fs:=[.int (ov B (stp n c.a)-((lea n c.a:Nat):Int)*B),.int (ov B (stp n c.b)-((lea n c.b:Nat):Int)*B),.int (ov B (stp n c.c)-((lea n c.c:Nat):Int)*B)]) htl (show SqB K H6 le (knV (bas n c)) false from SqT.of hle6) htls (iP [((lea n c.a:Nat):Int),((lea n c.b:Nat):Int),((lea n c.c:Nat):Int)]) rfl rfl (by show 3<=1000;decide) (λi e e' e'' u v T H7 hd he hf s7 hu hv' hT R kk S=>?_) (λfs H7 s7 hfs F hF=>?_)⟩
  ·have sle:∀ {m:Nat},m+2<=n->Sm 8000 (m:Int):=λh=>Sm.mono (k:=20) (by unfold Sm;omega) (by decide)
   have sB:Sm 8000 B:=BS.mono (by omega);have l1:=g_ dva;have l2:=g_ dvb;have l3:=g_ dvc;rcases at3 hd with ⟨rfl,rfl⟩|⟨rfl,rfl⟩|⟨rfl,rfl⟩
   ·cases(Ie he);cases(Ie hf);cases hu;cases hv';exact⟨T,_,rfl,SqT.of hT,rfl,_,_,rfl,_,_,rfl,rfl,bQ (B:=S H7) ⟨_,rfl,_,rfl,_,rfl,_,_,rfl,rfl,.inl ⟨sle l1,sB⟩,_,_,rfl,rfl,kk _ _ ⟨aj.refl _,.int _⟩⟩⟩
   ·cases(Ie he);cases(Ie hf);cases hu;cases hv';exact⟨T,_,rfl,SqT.of hT,rfl,_,_,rfl,_,_,rfl,rfl,bQ (B:=S H7) ⟨_,rfl,_,rfl,_,rfl,_,_,rfl,rfl,.inl ⟨sle l2,sB⟩,_,_,rfl,rfl,kk _ _ ⟨aj.refl _,.int _⟩⟩⟩
   ·cases(Ie he);cases(Ie hf);cases hu;cases hv';exact⟨T,_,rfl,SqT.of hT,rfl,_,_,rfl,_,_,rfl,rfl,bQ (B:=S H7) ⟨_,rfl,_,rfl,_,rfl,_,_,rfl,rfl,.inl ⟨sle l3,sB⟩,_,_,rfl,rfl,kk _ _ ⟨aj.refl _,.int _⟩⟩⟩
  have efs:=cN (ns:=[ov B (stp n c.a)-((lea n c.a:Nat):Int)*B,ov B (stp n c.b)-((lea n c.b:Nat):Int)*B,ov B (stp n c.c)-((lea n c.c:Nat):Int)*B]) hfs;subst efs;have BR:(B:Rat)≠0:=by
   intro z;have:B=0:=by exact_mod_cast z
   omega
  have ra:((ov B (stp n c.a)-((lea n c.a:Nat):Int)*B:Int):Rat)=rst n c.a*(B:Rat):=by
   rw[Jg,IP,D4 (dvd _ (by simp))];unfold rst;grind
  have rb:((ov B (stp n c.b)-((lea n c.b:Nat):Int)*B:Int):Rat)=rst n c.b*(B:Rat):=by
   rw[Jg,IP,D4 (dvd _ (by simp))];unfold rst;grind
  have rc:((ov B (stp n c.c)-((lea n c.c:Nat):Int)*B:Int):Rat)=rst n c.c*(B:Rat):=by
   rw[Jg,IP,D4 (dvd _ (by simp))];unfold rst;grind
  have sf:∀ {y:Rat},y∈[c.a,c.b,c.c]->Dv n y->Sm (4*k+30) (ov B (stp n y)-((lea n y:Nat):Int)*B):=λ{y} hy dv=>by
   have h1:=ovs (stp n y) (by simp only[Iy,IW,KS] at hy ⊢;rcases hy with rfl|rfl|rfl<;>simp);have h2:Sm (3+(3*(k+6)+1)) (((lea n y:Nat):Int)*B):=(show Sm 3 ((lea n y:Nat):Int) by have:=g_ dv;unfold Sm;omega).mul BS;have h3:Sm (4*k+29) (ov B (stp n y)):=h1.mono (by omega);have h4:Sm (4*k+29) (((lea n y:Nat):Int)*B):=h2.mono (by omega);exact h3.sub h4
  have sfa:=sf (by simp) dva;have sfb:=sf (by simp) dvb;have sfc:=sf (by simp) dvc;generalize ov B (stp n c.a)-((lea n c.a:Nat):Int)*B=fx at *;generalize ov B (stp n c.b)-((lea n c.b:Nat):Int)*B=fy at *;generalize ov B (stp n c.c)-((lea n c.c:Nat):Int)*B=fz at *;have s8:aj H7 (upd H7 F (.lst ([fx,fy,fz].map V.int))):=aj.new hF;have hF8:SqL K (upd H7 F (.lst ([fx,fy,fz].map V.int))) F [.int fx,.int fy,.int fz]:=SqL.of ac;have sAll:aj H (upd H7 F (.lst ([fx,fy,fz].map V.int))):=(((s3.trans s5).trans s6).trans s7).trans s8;have hle8:=(s7.trans s8) _ _ hle6;generalize upd H7 F (.lst ([fx,fy,fz].map V.int))=H8 at s8 hF8 sAll hle8 ⊢;have hB8:Sm (4*k+30) B:=BS.mono (by omega);have cin:∀ t:Kn,t.1<=1->t.2.1<=1->t.2.2<=1->ay (bas n c) t∈cw n:=λt u1 u2 u3=>by
   rw[dW];have l1:=g_ dva;have l2:=g_ dvb;have l3:=g_ dvc;show lea n c.a+t.1<n/\lea n c.b+t.2.1<n/\lea n c.c+t.2.2<n;omega
  have smp:∀ j,Sm (4*k+30) (bJ fx fy fz j):=λj=>by
   match j with
   |0=>exact sfa
   |1=>exact sfb
   |_+2=>exact sfc
  refine⟨_,rfl,a,C,dx,_,rfl,hC,sAll _ _ ha,rfl,_,rfl,?_⟩;rcases hway with rfl|rfl
  ·cases(Ie hlk);refine⟨_,rfl,gZ K,(l_ T).fnV hfa (by decide),_,rfl,_,rfl,F,fx,fy,fz,B,rfl,hF8,tb.same sAll,λo D9 ys H9 ho p1 p2 s9 hD9 hys=>?_⟩;have fall:Ef (bf n c) o:=by
    have mono:∀ i j,bJ fx fy fz i<=bJ fx fy fz j->bf n c i<=bf n c j:=λi j h=>by
     have hp:∀ k,((bJ fx fy fz k:Int):Rat)=bf n c k*(B:Rat):=λk=>by
      match k with
      |0=>exact ra
      |1=>exact rb
      |_+2=>exact rc
     have h':((bJ fx fy fz i:Int):Rat)<=((bJ fx fy fz j:Int):Rat):=by exact_mod_cast h
     rw[hp,hp] at h';exact LL h' (by exact_mod_cast B0)
    exact⟨ho,mono _ _ p1,mono _ _ p2⟩
   obtain⟨o1,o2,o3⟩:=zM ho;have un1:∀ {j:Nat},j<3->(un j).1<=1/\(un j).2.1<=1/\(un j).2.2<=1:=λ{j} h=>by
    match j,h with
    |0,_=>decide
    |1,_=>decide
    |2,_=>decide
   have u2:∀ {p:Pc},p∈i' (bJ fx fy fz) B o.1 o.2.1 o.2.2->(p.1.1<=1/\p.1.2.1<=1/\p.1.2.2<=1)/\Sm (4*k+31) p.2:=λ{p} hp=>by
    simp only[Au,Iy,IW,KS] at ho;simp only[i',Iy,IW,KS] at hp;refine⟨?_,?_⟩
    ·rcases ho with rfl|rfl|rfl|rfl|rfl|rfl<;>rcases hp with rfl|rfl|rfl|rfl<;>(dsimp only;decide)
    ·rcases hp with rfl|rfl|rfl|rfl
     ·exact hB8.sub (smp _)
     ·exact(smp _).sub (smp _)
     ·exact(smp _).sub (smp _)
     ·exact(smp _).mono (by omega)
   have wtp:∀ p∈i' (bJ fx fy fz) B o.1 o.2.1 o.2.2,(f (ay (bas n c) p.1)).Wt:=λp hp=>hw _ (cin p.1 (u2 hp).1.1 (u2 hp).1.2.1 (u2 hp).1.2.2)
   refine⟨.ref a,.ref le,D9,ys,n,f,bas n c,_,rfl,hv.same (sAll.trans s9),lH (s9 _ _ hle8),hD9,hys,by show 4<=10;decide,hw,λp hp=>cin p.1 (u2 hp).1.1 (u2 hp).1.2.1 (u2 hp).1.2.2,λp hp=>(u2 hp).2.mono (by omega),by rw[p9];omega,by rw[p9];exact hB8.mono (by omega),λw Ha sa hwr=>?_⟩;refine q (Ei f (bas n c) (i' (bJ fx fy fz) B o.1 o.2.1 o.2.2)) w Ha ((sAll.trans s9).trans sa) (λ_=>?_) (λz=>absurd z (by decide)) ?_ hwr
   ·refine Q3.ext ?_ ?_ ?_<;>exact(A0 BR ra rb rc).trans (wk fall)
   ·have h0:((i' (bJ fx fy fz) B o.1 o.2.1 o.2.2).map (·.2)).sum≠0:=by rw[p9];omega
    have bb:∀ {g:R3->Int},(∀ p∈i' (bJ fx fy fz) B o.1 o.2.1 o.2.2,Sm 10 (g (f (ay (bas n c) p.1))))->Bq (12*k+120) (Ap f (bas n c) g (i' (bJ fx fy fz) B o.1 o.2.1 o.2.2)):=λhg=>Ok.mono (B9 (n:=n) hg (λp hp=>(u2 hp).2) h0) (by show 10+(4*k+31)+4<=12*k+120;omega)
    exact⟨bb λp hp=>(pX (wtp p hp)).1,bb λp hp=>(pX (wtp p hp)).2.1,bb λp hp=>(pX (wtp p hp)).2.2⟩
  ·cases(Ie hlk);refine⟨_,rfl,gz K,(kI T).fnV hfa (by decide),_,rfl,_,rfl,F,fx,fy,fz,B,4*k+30,rfl,hF8,sfa,sfb,sfc,hB8,by omega,λD9 ys H9 s9 hD9 hys=>?_⟩;have u2:∀ {p:Pc},p∈cU (bJ fx fy fz) B->(p.1.1<=1/\p.1.2.1<=1/\p.1.2.2<=1)/\Sm (12*k+94) p.2:=λ{p} hp=>by
    obtain⟨t,ht,rfl⟩:=Js.mp hp;have:=dW.mp ht;exact⟨by show t.1<=1/\t.2.1<=1/\t.2.2<=1;omega,(wg (CG sfa sfb sfc hB8) t 3).mono (by omega)⟩
   have wtp:∀ p∈cU (bJ fx fy fz) B,(f (ay (bas n c) p.1)).Wt:=λp hp=>hw _ (cin p.1 (u2 hp).1.1 (u2 hp).1.2.1 (u2 hp).1.2.2)
   have l8:(cU (bJ fx fy fz) B).length=8:=by unfold cU;rw[Ij];rfl
   have h0:((cU (bJ fx fy fz) B).map (·.2)).sum≠0:=by
    rw[mT];exact Jf (Jf (by omega) (by omega)) (by omega)
   refine⟨.ref a,.ref le,D9,ys,n,f,bas n c,_,rfl,hv.same (sAll.trans s9),lH (s9 _ _ hle8),hD9,hys,by rw[l8];decide,hw,λp hp=>cin p.1 (u2 hp).1.1 (u2 hp).1.2.1 (u2 hp).1.2.2,λp hp=>(u2 hp).2.mono (by omega),h0,by rw[mT];exact((hB8.mul hB8).mul hB8).mono (by omega),λw Ha sa hwr=>?_⟩;refine q (Ei f (bas n c) (cU (bJ fx fy fz) B)) w Ha ((sAll.trans s9).trans sa) (λz=>absurd z (by decide)) (λ_=>?_) ?_ hwr
   ·refine Q3.ext ?_ ?_ ?_<;>exact yj BR ra rb rc
   ·have bb:∀ {g:R3->Int},(∀ p∈cU (bJ fx fy fz) B,Sm 10 (g (f (ay (bas n c) p.1))))->Bq (12*k+120) (Ap f (bas n c) g (cU (bJ fx fy fz) B)):=λhg=>Ok.mono (B9 (n:=n) hg (λp hp=>(u2 hp).2) h0) (by rw[l8];omega)
    exact⟨bb λp hp=>(pX (wtp p hp)).1,bb λp hp=>(pX (wtp p hp)).2.1,bb λp hp=>(pX (wtp p hp)).2.2⟩
theorem uh:am ["thing"] ["thing"] (ag kQ):=scM
def vd (K:Ia):Sp:=λvs H Q _=>∃ (x:V) (p:Pt),vs=[x]/\IsD K H (ptD p) x/\p.In/\∀ H',aj H H'->Q (.bl true) H'
theorem uk (T:Glo K mg w):Cal P w K mg base CX0 4 "is_point" ["thing"] [] (vd K):=by
 refine T.x21.cal uh (λvs H Q E h=>?_) (λf cdv A outer s H vs Q E hr h=>?_)
 ·obtain⟨x,p,rfl,_⟩:=h;rfl
 ·obtain⟨x,p,rfl,hx,ip,q⟩:=h;refine⟨_,(WSs.go (af (ap (ae aK (dg T) hr (ai (wpv 0) (ai aa (ai aa (ai (cH rfl T.xr) aN)))))))),?_⟩;refine⟨_,rfl,x,[p.1,p.2],2,0,1000,rfl,hx,rfl,by show 2<=1000;decide,λH' s=>?_⟩;have e:([p.1,p.2].all λk=>decide (0<=k)&&decide (k<=1000))=true:=by
   show((decide (0<=p.1)&&decide (p.1<=1000))&&((decide (0<=p.2)&&decide (p.2<=1000))&&true))=true;rw[Ir ip.a1,Ir ip.a2,Ir ip.b1,Ir ip.b2];rfl
  rw[e];exact q _ s
theorem rN:am ["low","high"] ["low","high"] (ag jg):=scM
def so (K:Ia):Sp:=λvs H Q _=>∃ (x y:V) (p q:Pt),vs=[x,y]/\IsD K H (ptD p) x/\IsD K H (ptD q) y/\Q (.bl (decide (p.1<q.1)&&decide (p.2<=q.2))) H
theorem rl (T:Glo K mg w):Cal P w K mg base CX0 1 "is_onward" ["low","high"] [] (so K):=by
 refine T.x22.cal rN (λvs H Q E h=>?_) (λf cdv A outer s H vs Q E hr h=>?_)
 ·obtain⟨x,y,p,q,rfl,_⟩:=h;rfl
 ·obtain⟨x,y,p,r,rfl,hx,hy,q⟩:=h;obtain⟨a,rfl,ha⟩:=bn hx;obtain⟨b,rfl,hb⟩:=bn hy;refine⟨_,(WSs.go (af (ap (c7 (bM wx (ak K (wpv 0) aa) (ak K (wpv 1) aa) (aX _)) (fq (bM tX (ak K (wpv 0) aa) (ak K (wpv 1) aa) (aX _))))))),?_⟩;refine⟨_,rfl,dH ha ⟨_,rfl,dH hb ⟨_,_,rfl,rfl,decide (p.1<r.1),rfl,?_⟩⟩⟩;cases hc:decide (p.1<r.1) with
  |true=>
   rw[hc,N7] at q;exact bQ ⟨_,rfl,cE ha ⟨_,rfl,cE hb ⟨_,_,rfl,rfl,q⟩⟩⟩
  |false=>
   rw[hc,LM] at q;exact cQ q
theorem r9:am ["thing"] ["thing"] (ag ji):=scM
def rZ (K:Ia):Sp:=λvs H Q _=>∃ (x:V) (ps:List Pt),vs=[x]/\IsD K H (F1 ps) x/\Pts ps/\∀ H',aj H H'->Q (.bl true) H'
theorem sU (T:Glo K mg w):Cal P w K mg base CX0 5 "is_points" ["thing"] [] (rZ K):=by
 refine T.x23.cal r9 (λvs H Q E h=>?_) (λf cdv A outer s H vs Q E hr h=>?_)
 ·obtain⟨x,ps,rfl,_⟩:=h;rfl
 ·obtain⟨x,ps,rfl,hx,hp,q⟩:=h;refine⟨_,(WSs.go (ab (a_ (WW.pt (eI (aV (aS (aq (lS (K:=K) rfl) (by rfl) T.x3 aA (aR (wpv 0) (bO (v:=.ty "list") rfl T.x7 f8 rfl))))) (dD (aV (yn tX tX (cH rfl T.xp) (aq (h_ (K:=K) rfl) (by rfl) T.x2 df (aO (wpv 0))) (cH rfl T.xu)))))) (af (ap iX)) aE)
   (ab (a_ (WW.pt (eI (aV (aS (aq (oW (K:=K) rfl rfl) (by rfl) T.x6 iV (aO (ax ["point"] [] [] 1 (bh (K:=K) rfl (wpv 0)) (λnd=>(ah 0 nd)) aw (ae aK (uk T) hr (aO (wpv 0)))))))) (dD (aU nh (ak K (ak K (wpv 0) aa) aa) aa (aX _))))) (af (ap iX)) aE)
   (af (ap (aq (oW (K:=K) rfl rfl) (by rfl) T.x6 iV (aO (ax ["low","high"] [] [] 2 (lr (K:=K) rfl rfl T.x8 (aR (wpv 0) (rX (Hh (K:=K) rfl) (wpv 0) (vM aa) vA))) (λnd=>(dF (K:=K) (n:=2) rfl rfl (av (ah 0 nd) (av (ah 1 nd) bt)))) aw (ae aK (rl T) hr (aR (wpv 0) (wpv 1))))))))))),?_⟩
  refine⟨_,rfl,_,_,_,true,rfl,hx.ty,(show jC "list" "list"=some true by decide +kernel),_,rfl,cQ ?_⟩;obtain⟨l,xs,rfl,hl,hds⟩:=aH (b:=true) hx;have hlen:=hds.length;rw[Ij] at hlen;have two:=hp.two;have few:=hp.few;refine⟨_,rfl,l,_,rfl,nO hl,?_⟩;refine⟨_,_,rfl,rfl,true,nr (by omega),bQ ⟨_,_,rfl,rfl,true,nr (by omega),cQ ?_⟩⟩;have tr:∀ n:Nat,(Iz n true).all id=true:=λn=>by induction n with
   |zero=>rfl
   |succ n ih=>rw[Kp,M0,ih];rfl
  refine⟨_,rfl,l,true,rfl,⟨_,hl⟩,jX (f:=λ_=>.bool true) hl hds (by rw[Ij];omega) (λi d x H2 hd s2 hx2 R kk S=>?_) (λys H2 s2 hys D hD=>?_)⟩
  ·rw[Ix] at hd;cases e:ps[i]? with
   |none=>rw[e] at hd;cases hd
   |some p=>
    rw[e] at hd;cases hd;exact bQ (B:=S H2) ⟨_,rfl,x,p,rfl,hx2,hp.inn p (IM e),λH3 s3=>kk _ _ ⟨s3,.bl _⟩⟩
  have hys:aD K H2 ((Iz ps.length true).map LZ) ys:=by
   have e:(ps.map ptD).map (λ_=>LZ true)=(Iz ps.length true).map LZ:=by
    rw[L_,Nu];exact OF.mpr ⟨by simp,λb hb=>by obtain⟨_,_,h⟩:=Js.mp hb;exact h.symm⟩
   rw[<- e];exact hys
  have e:=eU hys;subst e;refine⟨D,_,rfl,SqL.of ac,_,rfl,?_⟩;rw[tr];refine cQ ?_;have s3:aj H (upd H2 D (.lst ((Iz ps.length true).map V.bl))):=s2.trans (aj.new hD);generalize upd H2 D (.lst ((Iz ps.length true).map V.bl))=H3 at s3 ⊢;clear hys s2 hD;have e0:ps[0]?=some ps[0]:=ID (by omega);obtain⟨v0,ev0,hv0⟩:=mW (aD.same s3 hds) e0;obtain⟨p0,rfl,hp0⟩:=bn hv0;refine⟨_,rfl,ixB (i:=0) (SqB.same s3 hl) ev0 (dH hp0 ⟨_,_,rfl,rfl,_,rfl,GM (hp.zero _ e0) ?_⟩)⟩;have l3:=SqB.same s3 hl;refine⟨_,rfl,_,rfl,1,rfl,l,xs,rfl,l3,λL hL=>?_⟩;rw[BB xs (by omega)];have sL:aj H3 (upd H3 L (.lst (xs.drop 1))):=aj.new hL;have hL1:SqB K (upd H3 L (.lst (xs.drop 1))) L (xs.drop 1) true:=SqL.of ac;generalize upd H3 L (.lst (xs.drop 1))=H4 at sL hL1 ⊢;have d4:=aD.same (s3.trans sL) hds;have d5:=aD.drop 1 d4;refine⟨l,L,true,true,rfl,⟨_,SqB.same sL l3⟩,⟨_,hL1⟩,?_⟩;refine yX (fs:=Iz (ps.length-1) (.bool true)) (SqB.same sL l3) hL1 d4 d5 (by simp) (by simp) (by simp;omega) (λi d e f x y Z H5 hd he hf s5 hx5 hy5 hZ R kk S=>?_) (λzs H5 s5 hzs D2 hD2=>?_)
  ·have hf:f=.bool true:=(List.mem_replicate.mp (IM hf)).2;subst hf;rw[Ix] at hd;rw[List.getElem?_drop,Ix] at he;cases e1:ps[i]? with
   |none=>rw[e1] at hd;cases hd
   |some p=>
    cases e2:ps[1+i]? with
    |none=>rw[e2] at he;cases he
    |some r=>
     rw[e1] at hd;rw[e2] at he;cases hd;cases he;obtain⟨u1,u2⟩:=hp.up i p r e1 (by rw[Nat.add_comm];exact e2);refine⟨Z,_,rfl,SqT.of hZ,rfl,_,_,rfl,_,_,rfl,rfl,?_⟩;refine bQ (B:=S H5) ⟨_,rfl,_,rfl,x,y,p,r,rfl,hx5,hy5,?_⟩;rw[Ir u1,Ir u2];exact kk _ _ ⟨aj.refl _,.bl _⟩
  ·have hzs:aD K H5 ((Iz (ps.length-1) true).map LZ) zs:=by rw[Nu];exact hzs
   have e:=eU hzs;subst e;refine⟨D2,_,rfl,SqL.of ac,?_⟩;rw[tr];exact q _ (((s3.trans sL).trans s5).trans (aj.new hD2))
theorem gJ:am ["pairs","at","k"] ["pairs","at"] (ag ix):=scM
def qt (K:Ia):Sp:=λvs H Q _=>∃ (x y:V) (ps:List Pt) (a:Rat) (z:Pt),vs=[x,y]/\IsD K H (F1 ps) x/\IsD K H (rD a) y/\2<=ps.length/\(∀ p∈ps,p.In)/\Bq 600 a/\ps.getLast?=some z/\a<=(z.1:Rat) /\
 ∀ (v:V) (k:Nat) (p q:Pt) (H':Hp),aj H H'->Ee ps a k p q->IsD K H' (.tuple [ptD p,ptD q]) v->Q v H'
theorem qx (T:Glo K mg w):Cal P w K mg base CX0 3 "stretch_to" ["pairs","at"] [] (qt K):=by
 refine T.x24.cal gJ (λvs H Q E h=>?_) (λf cdv A outer s H vs Q E hr h=>?_)
 ·obtain⟨x,y,ps,a,z,rfl,_⟩:=h;rfl
 ·obtain⟨x,y,ps,a,z,rfl,hx,hy,two,inn,oa,hz,ha,q⟩:=h;obtain⟨l,xs,rfl,hl,hds⟩:=aH (b:=true) hx;refine⟨_,(WSs.go (ab (au 2 gJ.nd aa)
   (ab (mZ Jq (aS (ae aK (wS T) hr (aR (ae aK (fS T T.x17) hr (aO (ak K (ak K (wpv 0) (wpv 2)) aa))) (wpv 1)))) (af (u_ (i:=2) gJ.nd rfl (by first|exact Qv rfl|exact O8 rfl) aa Fm)))
   (af (ap (aI (aR (ak K (wpv 0) (ar cS (wpv 2) aa)) (ak K (wpv 0) (wpv 2))))))))),?_⟩
  have hlast:ps[ps.length-1]?=some z:=by rw[<- Jz];exact hz
  refine⟨λm σ H'=>∃ k:Nat,σ=[some (.ref l),some y,some (.int k)]/\aj H H'/\1<=k/\k<ps.length/\(k=1\/∃ p,ps[k-1]?=some p/\(p.1:Rat)<a)/\m=ps.length-k,⟨_,1,rfl,aj.refl _,by decide,by omega,.inl rfl,rfl⟩,?_⟩;rintro m σ H1 ⟨k,rfl,s1,k1,k2,hk,rfl⟩;have e1:ps[k]?=some ps[k]:=ID k2;obtain⟨v,ev,hv⟩:=mW (aD.same s1 hds) e1;obtain⟨pa,rfl,hpa⟩:=bn hv;have ip:=inn _ (IM e1);have l1:=SqB.same s1 hl;have st:Sm 20 (ps[k]).1:=by have:=ip.a1;have:=ip.a2;unfold Sm;omega
  refine⟨_,rfl,_,rfl,ixB l1 ev (dH hpa ⟨_,_,rfl,by decide,Sm.mono (k:=4) (by unfold Sm;decide) (by decide),ShQ.sh (by decide) λv2 H2 s2 hv2=>?_⟩)⟩;have e2:((ps[k]).1:Rat)/((1:Int):Rat)=((ps[k]).1:Rat):=by
   rw[show((1:Int):Rat)=1 from rfl];grind
  rw[e2] at hv2;refine⟨_,rfl,v2,y,_,a,rfl,hv2,IsD.same (s1.trans s2) hy,?_,oa.mono (by decide),_,rfl,?_⟩
  ·show Ok 3900 (((ps[k]).1:Rat)).num ((((ps[k]).1:Rat)).den:Int);rw[Nk,Nh];exact⟨by decide,by simp,st.mono (by decide),Sm.mono (k:=4) (by unfold Sm;decide) (by decide)⟩
  refine lF (λhc=>?_) (λhc=>?_)
  ·have hc:((ps[k]).1:Rat)<a:=JP hc;have kn:k+1<ps.length:=by
    by_cases e:k=ps.length-1
    ·exfalso;have ez:ps[k]?=some z:=by rw[e];exact hlast
     rw[e1] at ez;rw[Ie ez] at hc;grind
    ·omega
   refine⟨_,λ_ _ w=>w,?_⟩;refine⟨_,rfl,_,_,rfl,rfl,?_⟩;exact⟨ps.length-(k+1),by omega,k+1,rfl,s1.trans s2,by omega,kn,.inr ⟨ps[k],by rw[Nat.add_sub_cancel];exact e1,hc⟩,rfl⟩
  ·have hc:¬ ((ps[k]).1:Rat)<a:=λw=>hc (Ir w)
   have e0:ps[k-1]?=some ps[k-1]:=ID (by omega);obtain⟨v0,ev0,hv0⟩:=mW (aD.same (s1.trans s2) hds) e0;have l2:=SqB.same s2 l1;have ek:((k:Nat):Int)-1=((k-1:Nat):Int):=by omega
   refine⟨_,rfl,_,rfl,_,_,rfl,rfl,?_⟩;dsimp only;rw[ek];refine ixB l2 ev0 ⟨_,rfl,_,rfl,ixB l2 ev ⟨le2,λr hr=>?_⟩⟩;have sr:=s2.trans (aj.new (o:=.tup [v0,.ref pa]) hr);refine q _ (k-1) ps[k-1] ps[k] _ (s1.trans sr) ⟨e0,by rw[Nat.sub_add_cancel k1];exact e1,?_,by grind⟩ (IsD.tupN hr (.cons hv0 (.cons (IsD.same s2 hv) .nil)));rcases hk with w|⟨p,w1,w2⟩
   ·exact .inl (by omega)
   ·rw[e0] at w1;cases w1;exact .inr w2
theorem gm:am ["low","high","at","run","rise","top","below"] ["low","high","at"] (ag m7):=scM
def xB (K:Ia):Sp:=λvs H Q _=>∃ (x y z:V) (p q:Pt) (a:Rat),vs=[x,y,z]/\IsD K H (ptD p) x/\IsD K H (ptD q) y/\IsD K H (rD a) z/\p.In/\q.In/\p.1<q.1/\Bq 600 a/\ShQ K H (onl p q a) Q
theorem wY (T:Glo K mg w):Cal P w K mg base CX0 3 "on_line" ["low","high","at"] [] (xB K):=by
 refine T.x25.cal gm (λvs H Q E h=>?_) (λf cdv A outer s H vs Q E hr h=>?_)
 ·obtain⟨x,y,z,p,q,a,rfl,_⟩:=h;rfl
 ·obtain⟨x,y,z,p,r,c,rfl,hx,hy,hz,ip,ir,hlt,oc,q⟩:=h;obtain⟨a,rfl,ha⟩:=bn hx;obtain⟨b,rfl,hb⟩:=bn hy;obtain⟨d,rfl,hd⟩:=bn hz;refine⟨_,(WSs.go (ab (au 3 gm.nd (ar cS (ak K (wpv 1) aa) (ak K (wpv 0) aa)))
   (ab (au 4 gm.nd (ar cS (ak K (wpv 1) aa) (ak K (wpv 0) aa)))
   (ab (gY (wpv 2) (dF (K:=K) (n:=2) rfl rfl (av (ah 5 gm.nd) (av (ah 6 gm.nd) bt))))
   (af (ap (ae aK (fS T T.xd) hr (aR (ar cP (ar aG (ar aG (ak K (wpv 0) aa) (wpv 3)) (wpv 6)) (ar aG (ar cS (wpv 5) (ar aG (ak K (wpv 0) aa) (wpv 6))) (wpv 4))) (ar aG (wpv 3) (wpv 6)))))))))),?_⟩
  have s11:∀ {i:Int},0<=i->i<=1000->Sm 10 i:=λh1 h2=>by unfold Sm;omega
  have s12:∀ {i j:Int},0<=i->i<=1000->0<=j->j<=1000->Sm 11 (i-j):=λh1 h2 h3 h4=>by unfold Sm;omega
  refine⟨_,rfl,dH hb ⟨_,rfl,dH ha ⟨_,_,rfl,rfl,?_⟩⟩⟩;refine⟨_,rfl,cE hb ⟨_,rfl,cE ha ⟨_,_,rfl,rfl,?_⟩⟩⟩;refine⟨_,rfl,d,_,rfl,SqT.of hd,rfl,_,_,rfl,_,_,rfl,rfl,?_⟩;have sr:Sm 11 (r.1-p.1):=s12 ir.a1 ir.a2 ip.a1 ip.a2;have su:Sm 11 (r.2-p.2):=s12 ir.b1 ir.b2 ip.b1 ip.b2;refine⟨_,rfl,cE ha ⟨_,rfl,_,_,rfl,rfl,.inr ((s11 ip.b1 ip.b2).mono (by decide)),?_⟩⟩;refine⟨_,rfl,_,_,rfl,rfl,.inr (((s11 ip.b1 ip.b2).mul sr).mono (by decide)),?_⟩;refine⟨_,rfl,_,rfl,dH ha ⟨_,rfl,_,_,rfl,rfl,.inr ((s11 ip.a1 ip.a2).mono (by decide)),_,_,rfl,rfl,_,rfl,?_⟩⟩;refine⟨_,_,rfl,rfl,.inl ⟨?_,su.mono (by decide)⟩,_,_,rfl,rfl,?_⟩
  ·exact((oc.sn.mono (show 600<=610 by decide)).sub ((s11 ip.a1 ip.a2).mul oc.sd)).mono (by decide)
  refine⟨_,rfl,_,rfl,_,_,rfl,rfl,.inr (sr.mono (by decide)),_,_,rfl,?_,?_,?_⟩
  ·exact Jf (by omega) (by exact_mod_cast c.den_nz)
  ·exact(sr.mul oc.sd).mono (by decide)
  ·rw[B_ hlt] at q;exact ShQ.sh (Jf (by omega) (by exact_mod_cast c.den_nz)) q
theorem jw:am ["self","points"] ["self","points"] (ag dC):=scM
def jo (K:Ia):Sp:=λvs H Q _=>∃ (a C dx:Iv) (x:V) (ps:List Pt),vs=[.ref a,x]/\eF K "Curve" C/\H a=some (.ins C dx [])/\IsD K H (F1 ps) x/\Pts ps/\∀ H',Mv [a] H H'->sk K H' ps (.ref a)->(∀ T,cD H T->sk K (cut T H') ps (.ref a))->Q .non H'
theorem fJ (T:Glo K mg w):vZ P w K mg base CX0 6 "Curve" "__init__" ["self","points"] [] (jo K):=by
 refine T.x26.cal jw (λvs H Q E h=>?_) (λf cdv A outer s H vs Q E hr h=>?_)
 ·obtain⟨a,C,dx,x,ps,rfl,_⟩:=h;rfl
 ·obtain⟨a,C,dx,x,ps,rfl,hC,hH,hx,hp,q⟩:=h;refine⟨_,(WSs.go (ab (a_ (aV (aS (ae aK (sU T) hr (aO (wpv 1))))) (af bw) aE)
   (af (di (K:=K) (x:="Curve") rfl T.x5 (.head _) (wpv 0) (aQ (jO (K:=K) rfl) (by rfl) T.x7 f8 (aO (wpv 1))))))),?_⟩
  refine⟨_,rfl,x,ps,rfl,hx,hp,λH1 s1=>⟨_,rfl,cQ ?_⟩⟩;have hx1:=IsD.same s1 hx;obtain⟨l,xs,rfl,hl,hds⟩:=aH (b:=true) hx1;refine⟨_,rfl,l,xs,rfl,.inl hl,λL hL=>?_⟩;have sL:aj H1 (upd H1 L (.lst xs)):=aj.new hL;have ha:=sL _ _ (s1 _ _ hH);refine⟨_,rfl,a,C,dx,[],rfl,hC,ha,by decide,?_⟩;have na:L≠a:=λz=>by rw[z,s1 _ _ hH] at hL;cases hL
  have mv:Mv [a] (upd H1 L (.lst xs)) (upd (upd H1 L (.lst xs)) a (.ins C dx (iQ "points" (.ref L) []))):=λb o e nb=>by rw[ao (λz=>nb (by simp[z]))];exact e
  have tup:∀ p∈ps.map ptD,At p=true:=λp hp=>by obtain⟨r,_,rfl⟩:=Js.mp hp;rfl
  have keep:∀ {ds:List IV}{ys:List V},(∀ p∈ds,∃ r:Pt,p=ptD r)->aD K (upd H1 L (.lst xs)) ds ys->aD K (upd (upd H1 L (.lst xs)) a (.ins C dx (iQ "points" (.ref L) []))) ds ys:=λ{ds ys} hd h=>by
   induction ds generalizing ys with
   |nil=>cases h;exact .nil
   |cons d ds ih=>
    cases h with
    |cons h1 h2=>
     refine .cons ?_ (ih (λp hp=>hd p (Iq _ hp)) h2);obtain⟨r,rfl⟩:=hd d (IJ ..);obtain⟨pa,rfl,hpa⟩:=bn h1;exact nj (mv _ _ hpa (λz=>by rw[Ii.mp z,ha] at hpa;cases hpa))
  have kd:=keep (ds:=ps.map ptD) (λp hp=>by obtain⟨r,_,rfl⟩:=Js.mp hp;exact⟨r,rfl⟩) (aD.same sL hds);have gL:upd (upd H1 L (.lst xs)) a (.ins C dx (iQ "points" (.ref L) [])) L=some (.lst xs):=by rw[ao na];exact ac
  refine q _ (λb o e nb=>mv b o (sL _ _ (s1 _ _ e)) nb) ⟨a,C,dx,L,rfl,hC,ac,.lst (.inl gL) kd⟩ λT lT=>?_
  have aT:a∉T:=lT.not hH λ_ z=>nomatch z
  have LT:L∉T:=λm=>by
   obtain⟨ys,e⟩:=lT L m;rw[s1 _ _ e] at hL;cases hL
  have lT':cD (upd (upd H1 L (.lst xs)) a (.ins C dx (iQ "points" (.ref L) []))) T:=λb m=>by
   obtain⟨ys,e⟩:=lT b m;exact⟨ys,mv _ _ (sL _ _ (s1 _ _ e)) (λz=>aT (Ii.mp z▸m))⟩
  exact⟨a,C,dx,L,rfl,hC,by rw[fh aT];exact ac,.lst (.inl (by rw[fh LT];exact gL)) (aD.cutT lT' (Di ps) kd)⟩
theorem nM:am ["self"] ["self"] (ag fY):=scM
def ni (K:Ia):Sp:=λvs H Q _=>∃ (v:V) (ps:List Pt) (z:Pt),vs=[v]/\sk K H ps v/\ps.getLast?=some z/\Q (.int z.1) H
theorem iD (T:Glo K mg w):vZ P w K mg base CX0 1 "Curve" "last" ["self"] [] (ni K):=by
 refine T.x27.cal nM (λvs H Q E h=>?_) (λf cdv A outer s H vs Q E hr h=>?_)
 ·obtain⟨v,ps,z,rfl,_⟩:=h;rfl
 ·obtain⟨v,ps,z,rfl,⟨a,C,dx,l,rfl,hC,hH,hd⟩,hz,q⟩:=h;refine⟨_,(WSs.go (af (ap (ak K (ak K (bN (K:=K) (x:="Curve") rfl T.x5 (.head _) (wpv 0)) (vN vm aa)) aa)))),?_⟩;obtain⟨l',xs,e,hl,hds⟩:=aH (b:=true) hd;cases e;obtain⟨u,eu,hu⟩:=v9 hds hz;obtain⟨pa,rfl,hpa⟩:=bn hu;exact⟨_,rfl,a,C,dx,_,_,rfl,hC,hH,rfl,_,rfl,.inl ⟨l,xs,_,_,rfl,rfl,hl,qf eu,dH hpa q⟩⟩
theorem eM:am ["self","place","low","high"] ["self","place"] (ag eY):=scM
def lY (K:Ia):Sp:=λvs H Q _=>∃ (v x:V) (ps:List Pt) (a:Rat) (z:Pt),vs=[v,x]/\sk K H ps v/\IsD K H (rD a) x/\Pts ps/\Bq 600 a/\ps.getLast?=some z/\0<=a/\a<=(z.1:Rat) /\
 ∀ (w:V) (c:Rat) (H':Hp),aj H H'->OnC ps a c->IsD K H' (rD c) w->Q w H'
theorem hJ (T:Glo K mg w):vZ P w K mg base CX0 4 "Curve" "value" ["self","place"] [] (lY K):=by
 refine T.x28.cal eM (λvs H Q E h=>?_) (λf cdv A outer s H vs Q E hr h=>?_)
 ·obtain⟨v,x,ps,a,z,rfl,_⟩:=h;rfl
 ·obtain⟨v,x,ps,c,z,rfl,hv,hx,hp,oc,hz,c0,cz,q⟩:=h;refine⟨_,(WSs.go (ab (a_ (WW.pt (eI (aV (aS (ae aK (jc T) hr (aO (wpv 1))))) (dD (aV (aS (ae aK (lJ T) hr (ai (wpv 1) (ai aa (ai (mh (K:=K) rfl aK (iD T) (hr.mono (by decide)) (wpv 0)) aN))))))))) (af bw) aE)
   (ab (gY (ae aK (qx T) hr (aR (bN (K:=K) (x:="Curve") rfl T.x5 (.head _) (wpv 0)) (wpv 1))) (dF (K:=K) (n:=2) rfl rfl (av (ah 2 eM.nd) (av (ah 3 eM.nd) bt))))
   (af (ap (ae aK (wY T) hr (ai (wpv 2) (ai (wpv 3) (ai (wpv 1) aN))))))))),?_⟩
  refine⟨_,rfl,x,_,rfl,hx,_,rfl,?_⟩;rw[Ec];refine cQ ?_;obtain⟨a,C,dx,l,rfl,hC,hH,hd⟩:=id hv;have iz:=hp.inn z (K8 hz);refine⟨_,rfl,_,rfl,a,C,dx,_,rfl,hC,hH,rfl,.ref a,ps,z,rfl,hv,hz,x,c,0,z.1,rfl,hx,oc.mono (by decide),?_,?_,?_⟩
  ·unfold Sm;decide
  ·refine Sm.mono (k:=20) ?_ (by decide);have:=iz.a1;have:=iz.a2;unfold Sm;omega
  have e1:decide (0*(c.den:Int)<=c.num)=true:=Ir (by rw[Int.zero_mul];exact Rat.num_nonneg.mpr c0);have e2:decide (c.num<=z.1*(c.den:Int))=true:=Ir (by
   have h:=(Rat.le_iff c (z.1:Rat)).mp cz;rw[Nk,Nh] at h
   simpa using h)
  rw[e1,e2];refine⟨_,rfl,cQ ?_⟩;refine⟨_,rfl,a,C,dx,_,_,rfl,hC,hH,rfl,_,rfl,.ref l,x,ps,c,z,rfl,hd,hx,hp.two,hp.inn,oc,hz,cz,λu k p r H1 s1 st hu=>?_⟩;obtain⟨tp,ys,rfl,ht,hys⟩:=aH (b:=false) hu;obtain⟨y0,y1,rfl,g0,g1⟩:∃ y0 y1,ys=[y0,y1]/\IsD K H1 (ptD p) y0/\IsD K H1 (ptD r) y1:=by
   cases hys with
   |cons h1 h2=>
    cases h2 with
    |cons h3 h4=>
     cases h4;exact⟨_,_,rfl,h1,h3⟩
  refine⟨tp,_,rfl,ht,rfl,_,_,rfl,_,_,rfl,rfl,?_⟩;have hlt:=(hp.up k p r st.lo st.hi).1;refine⟨_,rfl,_,rfl,_,rfl,y0,y1,x,p,r,c,rfl,g0,g1,IsD.same s1 hx,hp.inn p (IM st.lo),hp.inn r (IM st.hi),hlt,oc,λw H2 s2 hw=>?_⟩;exact q w _ H2 (s1.trans s2) ⟨k,p,r,st,rfl⟩ hw
theorem mF:am ["self"] ["self"] (ag gh):=scM
def mx (K:Ia):Sp:=λvs H Q _=>∃ (v:V) (ps:List Pt) (y z:Pt),vs=[v]/\sk K H ps v/\ps[0]?=some y/\ps.getLast?=some z/\∀ u H',aj H H'->IsD K H' (.tuple [.int y.2,.int z.2]) u->Q u H'
theorem mS (T:Glo K mg w):vZ P w K mg base CX0 1 "Curve" "ends" ["self"] [] (mx K):=by
 refine T.x29.cal mF (λvs H Q E h=>?_) (λf cdv A outer s H vs Q E hr h=>?_)
 ·obtain⟨v,ps,y,z,rfl,_⟩:=h;rfl
 ·obtain⟨v,ps,y,z,rfl,⟨a,C,dx,l,rfl,hC,hH,hd⟩,hy,hz,q⟩:=h;refine⟨_,(WSs.go (af (ap (aI (aR (ak K (ak K (bN (K:=K) (x:="Curve") rfl T.x5 (.head _) (wpv 0)) aa) aa) (ak K (ak K (bN (K:=K) (x:="Curve") rfl T.x5 (.head _) (wpv 0)) (vN vm aa)) aa)))))),?_⟩;obtain⟨l',xs,e,hl,hds⟩:=aH (b:=true) hd;cases e;obtain⟨u0,eu0,hu0⟩:=mW hds hy;obtain⟨pb,rfl,hpb⟩:=bn hu0;obtain⟨u,eu,hu⟩:=v9 hds hz;obtain⟨pa,rfl,hpa⟩:=bn hu;refine⟨_,rfl,a,C,dx,_,_,rfl,hC,hH,rfl,ixB (i:=0) hl eu0 (cE hpb ?_)⟩;refine⟨_,rfl,a,C,dx,_,_,rfl,hC,hH,rfl,_,rfl,.inl ⟨l,xs,_,_,rfl,rfl,hl,qf eu,cE hpa ⟨le2,λp hp=>?_⟩⟩⟩;exact q _ _ (aj.new hp) (IsD.tupN hp (.cons (.int _) (.cons (.int _) .nil)))
theorem kA:am ["self","white","black"] ["self","white","black"] (ag bI):=scM
def kC (K:Ia):Sp:=λvs H Q _=>∃ (a C dx:Iv) (x y:V) (e:En),vs=[.ref a,x,y]/\eF K "Ends" C/\H a=some (.ins C dx [])/\IsD K H (gE false e.w) x/\IsD K H (gE false e.b) y/\e.In/\∀ H',Mv [a] H H'->f_ K H' e (.ref a)->Q .non H'
theorem fU (T:Glo K mg w):rA P w K mg base CX0 5 "Ends" "__init__" ["self","white","black"] ["white","black"] 1 2 [] (kC K):=by
 refine T.x3a.cal kA (λvs H Q E h=>?_) (λf cdv A outer s H vs Q E hr h=>?_)
 ·obtain⟨a,C,dx,x,y,e,rfl,_⟩:=h;rfl
 ·obtain⟨a,C,dx,x,y,e,rfl,hC,hH,hx,hy,ie,q⟩:=h;refine⟨_,(WSs.go (ab (a_ (WW.pt (eI (aV (aS (ae aK (jE T) hr (aO (wpv 1))))) (dD (aV (aS (ae aK (jE T) hr (aO (wpv 2)))))))) (af bw) aE)
   (ab (a_ (aV (aS (aq (oW (K:=K) rfl rfl) (by rfl) T.x6 iV (aO (ax ["high","low"] [] [] 2 (lr (K:=K) rfl rfl T.x8 (aR (wpv 1) (wpv 2))) (λnd=>(dF (K:=K) (n:=2) rfl rfl (av (ah 0 nd) (av (ah 1 nd) bt)))) aw (bM wL (wpv 0) (wpv 1) (aX _))))))) (af bw) aE)
   (ab (di (K:=K) (x:="Ends") rfl T.x9 (.head _) (wpv 0) (wpv 1))
   (af (di (K:=K) (x:="Ends") rfl T.x9 (.tail _ (.head _)) (wpv 0) (wpv 2))))))),?_⟩
  have ok:∀ {i j k:Int},0<=i->i<=1000->0<=j->j<=1000->0<=k->k<=1000->([i,j,k].all λz=>decide (0<=z)&&decide (z<=1000))=true:=λ{i j k} h1 h2 h3 h4 h5 h6=>by
   simp[h1,h2,h3,h4,h5,h6]
  have⟨a0,a1,a2,b0,b1,b2,c0,c1,c2⟩:=ie;refine⟨_,rfl,x,[e.w.a,e.w.b,e.w.c],rfl,hx,rfl,λH1 s1=>⟨_,rfl,?_⟩⟩;rw[ok (by omega) (by omega) (by omega) (by omega) (by omega) (by omega)];refine cQ ?_;refine⟨_,rfl,y,[e.b.a,e.b.b,e.b.c],rfl,IsD.same s1 hy,rfl,λH2 s2=>⟨_,rfl,?_⟩⟩;rw[ok (by omega) (by omega) (by omega) (by omega) (by omega) (by omega)];refine cQ ?_;have s12:=s1.trans s2;obtain⟨p,xs,rfl,hp,hds⟩:=aH (b:=false) (IsD.same s12 hx);obtain⟨r,ys,rfl,hr',hes⟩:=aH (b:=false) (IsD.same s12 hy);refine⟨_,rfl,_,rfl,p,r,false,false,rfl,⟨_,hp⟩,⟨_,hr'⟩,iC (fs:=[.bool true,.bool true,.bool true]) hp hr' hds hes rfl rfl (by show 3<=1000;decide) (λi d e' f x y T H3 hd he hf s3 hx3 hy3 hT R kk S=>?_) (λzs H3 s3 hzs D hD=>?_)⟩
  ·obtain⟨n,rfl,hn⟩:=R3.at (r:=e.w) hd;obtain⟨m,rfl,hm⟩:=R3.at (r:=e.b) he;have hf:f=.bool true:=by rcases at3 hf with ⟨_,rfl⟩|⟨_,rfl⟩|⟨_,rfl⟩<;>rfl
   subst hf;cases hx3;cases hy3;refine⟨T,_,rfl,SqT.of hT,rfl,_,_,rfl,_,_,rfl,rfl,?_⟩;refine bQ (B:=S H3) ⟨_,rfl,_,rfl,_,_,rfl,rfl,?_⟩;dsimp only;rw[Ir (show m<n by omega)];exact kk _ _ ⟨aj.refl _,.bl _⟩
  ·have ez:=eU (bs:=[true,true,true]) hzs;subst ez;refine⟨D,[true,true,true],rfl,SqL.of ac,_,rfl,cQ ?_⟩;have sD:aj H (upd H3 D (.lst ([true,true,true].map V.bl))):=(s12.trans s3).trans (aj.new hD);generalize upd H3 D (.lst ([true,true,true].map V.bl))=G at sD ⊢;have hx':=IsD.same sD hx;have hy':=IsD.same sD hy;have ha:=sD _ _ hH;refine⟨_,rfl,_,rfl,a,C,dx,[],rfl,hC,ha,by decide,?_⟩;refine⟨_,rfl,_,rfl,a,C,dx,_,rfl,hC,ac,(by show 1<1000;decide),?_⟩;rw[C4];have mv:∀ {o:HO},Mv [a] G (upd G a o):=λb u z nb=>by rw[ao (λw=>nb (by simp[w]))];exact z
   refine q _ (λb u z nb=>mv b u (sD _ _ z) nb) ⟨a,C,dx,_,_,rfl,hC,ac,IsD.sameI (gS.put ha) hx',IsD.sameI (gS.put ha) hy'⟩
theorem oJ:am ["thing","most"] ["thing","most"] (ag gX):=scM
def n_ (K:Ia):Sp:=λvs H Q _=>∃ (v:V) (ps:List Pt) (y z:Pt) (most:Int),vs=[v,.int most]/\sk K H ps v/\ps[0]?=some y/\ps.getLast?=some z/\z.1=60/\z.2<=most/\∀ H',aj H H'->Q (.bl true) H'
theorem oz (T:Glo K mg w):Cal P w K mg base CX0 2 "is_curve_to" ["thing","most"] [] (n_ K):=by
 refine T.x2a.cal oJ (λvs H Q E h=>?_) (λf cdv A outer s H vs Q E hr h=>?_)
 ·obtain⟨v,ps,y,z,most,rfl,_⟩:=h;rfl
 ·obtain⟨v,ps,y,z,most,rfl,hv,e0,ez,z1,z2,q⟩:=h;refine⟨_,(WSs.go (af (ap (c7 (aq (DK (K:=K) (x:="Curve") rfl T.x5 T.xw) (by rfl) T.x3 aA (aR (wpv 0) (ue (K:=K) (x:="Curve") rfl rfl (mN T.x5)))) (c7 (bM (AA (K:=K) rfl hr.units) (mh (K:=K) rfl aK (iD T) (hr.mono (by decide)) (wpv 0)) (cH rfl T.xe) (aX _)) (fq (bM tX (ak K (mh (K:=K) rfl aK (mS T) (hr.mono (by decide)) (wpv 0)) aa) (wpv 1) (aX _)))))))),?_⟩;obtain⟨a,C,dx,l,rfl,hC,ha,hl⟩:=id hv;refine⟨_,rfl,λD hD=>?_⟩;cases bZ hD hC;refine⟨_,_,rfl,hC,.inl ⟨a,dx,_,rfl,ha,_,rfl,bQ ?_⟩⟩;refine⟨_,rfl,a,C,dx,_,rfl,hC,ha,rfl,.ref a,ps,z,rfl,hv,ez,.int z.1,.int 60,.int _,.int _,rfl,rfl,true,by rw[z1];rfl,bQ ?_⟩;refine⟨_,rfl,a,C,dx,_,rfl,hC,ha,rfl,.ref a,ps,y,z,rfl,hv,e0,ez,λu H1 s1 hu=>?_⟩;obtain⟨p,rfl,hp⟩:=bn hu;refine ixB (b:=false) (i:=1) (SqT.of hp) rfl ⟨_,rfl,_,_,rfl,rfl,?_⟩;dsimp only;rw[Ir z2];exact q _ s1
theorem sX:am ["thing","most"] ["thing","most"] (ag jI):=scM
def tS (K:Ia):Sp:=λvs H Q _=>∃ (l:Iv) (ws:List V) (P:C3) (most:Int),vs=[.ref l,.int most]/\H l=some (.lst ws)/\kF K H P ws/\P.In most/\∀ H',aj H H'->Q (.bl true) H'
theorem sJ (T:Glo K mg w):Cal P w K mg base CX0 3 "is_curves" ["thing","most"] [] (tS K):=by
 refine T.x2b.cal sX (λvs H Q E h=>?_) (λf cdv A outer s H vs Q E hr h=>?_)
 ·obtain⟨l,ws,P,most,rfl,_⟩:=h;rfl
 ·obtain⟨l,ws,P,most,rfl,hl,hw,hp,q⟩:=h;refine⟨_,(WSs.go (ab (a_ (WW.pt (eI (aV (aS (aq (zP (K:=K) rfl) (by rfl) T.x3 aA (aR (wpv 0) (aI (aR (bO (v:=.ty "list") rfl T.x7 f8 rfl) (bO (v:=.ty "tuple") rfl T.x1 be rfl))))))) (dD (aU nh (aq (h_ (K:=K) rfl) (by rfl) T.x2 df (aO (wpv 0))) aa (aX _))))) (af (ap iX)) aE)
   (af (ap (aq (oW (K:=K) rfl rfl) (by rfl) T.x6 iV (aO (ax ["curve"] ["most"] [1] 1 (bh (K:=K) rfl (wpv 0)) (λnd=>(ah 0 nd)) aw (ae aK (oz T) hr (aR (wpv 0) (wpv 1)))))))))),?_⟩
  refine⟨_,rfl,le2,λp hpp=>?_⟩;generalize e0:upd H p _=H1;have s1:=tT hpp e0;have g1:=mf e0;obtain⟨T0,ty0,ek0⟩:∃ T,Ty K H1 (.ref l) T/\rh T ["list","tuple"]=some true:=⟨"list",.lst (s1 _ _ hl),by decide +kernel⟩
  refine⟨_,T0,p,_,_,true,rfl,ty0,g1,ek0,_,rfl,cQ ?_⟩;refine⟨_,rfl,l,ws,rfl,.inl (SqL.of (s1 _ _ hl)),_,_,rfl,rfl,false,by rw[hw.1];rfl,cQ ?_⟩;refine⟨_,rfl,l,true,rfl,⟨_,SqL.of (s1 _ _ hl)⟩,jR (K:=K) (b:=true) (xs:=ws) (λi ys H'=>aj H1 H'/\ys.length=i/\∀ v∈ys,v=.bl true) ⟨aj.refl _,rfl,λ_ h=>nomatch h⟩ (by rw[hw.1];decide) (λi ys H' hi ⟨s',e,_⟩=>⟨SqL.of (s' _ _ (s1 _ _ hl)),by omega⟩) (λi x ys H' hx ⟨s',e,hb⟩ R S kk _=>?_) (λys H' ⟨s',e,hb⟩ D hD=>?_)⟩
  ·have hi:i<3:=by rw[<- hw.1];exact(Iu.mp hx).1
   obtain⟨pp,y,z,e0,ez,z1,z2⟩:=hp i hi;refine bQ (B:=S H') ⟨_,rfl,_,rfl,x,_,y,z,most,rfl,(hw.2 i x hx).same (s1.trans s'),e0,ez,z1,z2,λH2 s2=>kk _ _ ⟨s'.trans s2,by rw[IL,e];rfl,λv hv=>?_⟩⟩;rcases Jb.mp hv with hv|hv
   ·exact hb v hv
   ·exact Ii.mp hv
  ·rw[hw.1] at e;have ey:=xJ e hb;subst ey;exact⟨D,_,rfl,SqL.of ac,q _ ((s1.trans s').trans (aj.new hD))⟩
theorem jH:am ["thing","most"] ["thing","most"] (ag dE):=scM
def jD (K:Ia):Sp:=λvs H Q _=>∃ (l:Iv) (ws:List V) (P:C3) (most:Int),vs=[.ref l,.int most]/\H l=some (.lst ws)/\kF K H P ws/\P.In most/\∀ H',aj H H'->Q .non H'
theorem e_ (T:Glo K mg w):Cal P w K mg base CX0 4 "refuse_no_curves" ["thing","most"] [] (jD K):=by
 refine T.x2c.cal jH (λvs H Q E h=>?_) (λf cdv A outer s H vs Q E hr h=>?_)
 ·obtain⟨l,ws,P,most,rfl,_⟩:=h;rfl
 ·obtain⟨l,ws,P,most,rfl,hl,hw,hp,q⟩:=h;refine⟨_,(WSs.go (af (a_ (aV (aS (ae aK (sJ T) hr (aR (wpv 0) (wpv 1))))) (af bw) aE))),?_⟩;exact⟨_,rfl,_,rfl,l,ws,P,most,rfl,hl,hw,hp,λH1 s1=>⟨_,rfl,cQ (q _ s1)⟩⟩
theorem jj:am ["thing"] ["thing"] (ag dw):=scM
def jM (K:Ia):Sp:=λvs H Q _=>∃ (v:V) (e:En),vs=[v]/\f_ K H e v/\Q .non H
theorem fk (T:Glo K mg w):Cal P w K mg base CX0 1 "refuse_no_bounds" ["thing"] [] (jM K):=by
 refine T.x2d.cal jj (λvs H Q E h=>?_) (λf cdv A outer s H vs Q E hr h=>?_)
 ·obtain⟨v,e,rfl,_⟩:=h;rfl
 ·obtain⟨v,e,rfl,hv,q⟩:=h;refine⟨_,(WSs.go (af (a_ (aV (aS (aq (DK (K:=K) (x:="Ends") rfl T.x9 T.xx) (by rfl) T.x3 aA (aR (wpv 0) (ue (K:=K) (x:="Ends") rfl rfl (mN T.x9)))))) (af bw) aE))),?_⟩;obtain⟨a,C,dx,x,y,rfl,hC,ha,_⟩:=hv;refine⟨_,rfl,λD hD=>?_⟩;cases bZ hD hC;exact⟨_,_,rfl,hC,.inl ⟨a,dx,_,rfl,ha,_,rfl,cQ q⟩⟩
theorem lO:am ["curves"] ["curves"] (ag fv):=scM
def lN (K:Ia):Sp:=λvs H Q _=>∃ (l:Iv) (ws:List V) (P:C3) (most:Int),vs=[.ref l]/\H l=some (.lst ws)/\kF K H P ws/\P.In most/\∀ (D:Iv) (us:List V) (H':Hp),aj H H'->H D=none->H' D=some (.lst us)->kF K H' P us->(∀ T,cD H T->kF K (cut T H') P us)->Q (.ref D) H'
theorem hV (T:Glo K mg w):Cal P w K mg base CX0 8 "copied_curves" ["curves"] [] (lN K):=by
 refine T.x2e.cal lO (λvs H Q E h=>?_) (λf cdv A outer s H vs Q E hr h=>?_)
 ·obtain⟨l,ws,P,most,rfl,_⟩:=h;rfl
 ·obtain⟨l,ws,P,most,rfl,hl,hw,hp,q⟩:=h;refine⟨_,(WSs.go (af (ap (ax ["curve"] [] [] 1 (bh (K:=K) rfl (wpv 0)) (λnd=>(ah 0 nd)) aw (qC (K:=K) rfl aK (fJ T) (hr.mono (by decide)) rfl (aO (bN (K:=K) (x:="Curve") rfl T.x5 (.head _) (wpv 0)))))))),?_⟩;refine⟨_,rfl,l,true,rfl,⟨_,SqL.of hl⟩,jR (K:=K) (b:=true) (xs:=ws) (λi us H'=>aj H H'/\us.length=i/\(∀ (j:Nat) (v:V),us[j]?=some v->sk K H' (P.at j) v)/\∀ T,cD H T->∀ (j:Nat) (v:V),us[j]?=some v->sk K (cut T H') (P.at j) v) ⟨aj.refl _,rfl,λj v e=>by simp at e,λ_ _ j v e=>by simp at e⟩ (by rw[hw.1];decide) (λi us H' hi ⟨s',e,_⟩=>⟨SqL.of (s' _ _ hl),by omega⟩) (λi x us H' hx ⟨s',e,hc,hcT⟩ R S kk _=>?_) (λus H' ⟨s',e,hc,hcT⟩=>?_)⟩
  ·have hi:i<3:=by rw[<- hw.1];exact(Iu.mp hx).1
   obtain⟨pp,_⟩:=hp i hi;obtain⟨a,C,dx,l2,rfl,hC,ha,hl2⟩:=(hw.2 i x hx).same s';refine bQ (B:=S H') ⟨_,rfl,a,C,dx,_,_,rfl,hC,ha,rfl,λC2 b dy hC2 hb hdy hne=>?_⟩;have s5:aj H' (upd (upd H' dy (.own b)) b (.ins C2 dy [])):=(aj.new hdy).trans (aj.new (by rw[ao hne.symm];exact hb));have gv:upd (upd H' dy (.own b)) b (.ins C2 dy []) b=some (.ins C2 dy []):=ac;generalize upd (upd H' dy (.own b)) b (.ins C2 dy [])=H5 at s5 gv ⊢;refine⟨b,C2,dy,_,P.at i,rfl,hC2,gv,IsD.same s5 hl2,pp,λH6 mv6 cv6 cT6=>⟨rfl,kk _ _ ?_⟩⟩;have s6:aj H' H6:=λb' o e=>mv6 _ _ (s5 _ _ e) (λz=>by rw[Ii.mp z,hb] at e;cases e)
   refine⟨s'.trans s6,by rw[IL,e];rfl,λj v ej=>?_,λT lT j v ej=>?_⟩
   ·rcases kM ej with ⟨_,ej⟩|⟨rfl,rfl⟩
    ·exact(hc j v ej).same s6
    ·rw[e];exact cv6
   ·rcases kM ej with ⟨_,ej⟩|⟨rfl,rfl⟩
    ·exact(hcT T lT j v ej).same (aj.cut s6)
    ·rw[e];exact cT6 T ((lT.same s').same s5)
  ·intro D hD;rw[hw.1] at e;refine q D us _ (s'.trans (aj.new hD)) ?_ ac ⟨e,λj v ej=>(hc j v ej).same (aj.new hD)⟩ λT lT=>⟨e,λj v ej=>(hcT T lT j v ej).same (aj.cut (aj.new hD))⟩
   cases z:H D with
   |none=>rfl
   |some o=>rw[s' _ _ z] at hD;cases hD
theorem oU:am ["ends"] ["ends"] (ag gG):=scM
def oG (K:Ia):Sp:=λvs H Q _=>∃ (v:V) (e:En),vs=[v]/\f_ K H e v/\e.In/\∀ (u:V) (H':Hp),aj H H'->f_ K H' e u->Q u H'
theorem iT (T:Glo K mg w):Cal P w K mg base CX0 7 "copied_ends" ["ends"] [] (oG K):=by
 refine T.x2f.cal oU (λvs H Q E h=>?_) (λf cdv A outer s H vs Q E hr h=>?_)
 ·obtain⟨v,e,rfl,_⟩:=h;rfl
 ·obtain⟨v,e,rfl,hv,ie,q⟩:=h;refine⟨_,(WSs.go (af (ap (vX (K:=K) rfl aK (fU T) (hr.mono (by decide)) rfl (iR (bN (K:=K) (x:="Ends") rfl T.x9 (.head _) (wpv 0)) (iR (bN (K:=K) (x:="Ends") rfl T.x9 (.tail _ (.head _)) (wpv 0)) nU)))))),?_⟩;obtain⟨a,C,dx,x,y,rfl,hC,ha,hx,hy⟩:=hv;refine⟨_,rfl,a,C,dx,_,_,rfl,hC,ha,rfl,_,rfl,a,C,dx,_,_,rfl,hC,ha,rfl,λC2 b dy hC2 hb hdy hne=>?_⟩;generalize e0:upd (upd H dy _) b _=H5;have s5:=CT hb hdy hne e0;have gv:=mf e0;refine⟨b,C2,dy,x,y,e,rfl,hC2,gv,IsD.same s5 hx,IsD.same s5 hy,ie,λH6 mv6 en6=>⟨rfl,q _ _ (λb' o e=>mv6 _ _ (s5 _ _ e) (λz=>by rw[Ii.mp z,hb] at e;cases e)) en6⟩⟩
theorem tV:am ["curves","colour"] ["curves","colour"] (ag jL):=scM
def rW (K:Ia):Sp:=λvs H Q _=>∃ (l:Iv) (x:V) (ws:List V) (P:C3) (most:Int) (c:Q3),vs=[.ref l,x]/\H l=some (.lst ws)/\kF K H P ws/\P.In most/\IsD K H c.col x/\c.Bd 17/\c.Wi ((60:Int):Rat)/\∀ (r:Q3) (u:V) (H':Hp),aj H H'->yf P c r->IsD K H' r.col u->Q u H'
theorem lG (T:Glo K mg w):Cal P w K mg base CX0 5 "values_at" ["curves","colour"] [] (rW K):=by
 refine T.x2g.cal tV (λvs H Q E h=>?_) (λf cdv A outer s H vs Q E hr h=>?_)
 ·obtain⟨l,x,ws,P,most,c,rfl,_⟩:=h;rfl
 ·obtain⟨l,x,ws,P,most,c,rfl,hl,hw,hp,hx,bd,wi,q⟩:=h;refine⟨_,(WSs.go (af (ap (aQ (dc (K:=K) rfl) (by rfl) T.x1 be (aO (ax ["curve","number"] [] [] 2 (lr (K:=K) rfl rfl T.x8 (aR (wpv 0) (wpv 1))) (λnd=>(dF (K:=K) (n:=2) rfl rfl (av (ah 0 nd) (av (ah 1 nd) bt)))) aw (ik (K:=K) rfl aK (hJ T) (hr.mono (by decide)) (wpv 0) (aO (wpv 1))))))))),?_⟩;obtain⟨ca,xs,rfl,hca,hxs⟩:=aH (b:=false) (ds:=c.ds) hx;have hxl:xs.length=3:=by rw[<- hxs.length];rfl
  refine⟨_,rfl,_,rfl,l,ca,true,false,rfl,⟨_,SqL.of hl⟩,⟨_,hca⟩,yB (K:=K) (b1:=true) (b2:=false) (xs:=ws) (ys:=xs) (λi us H'=>aj H H'/\us.length=i/\∀ (j:Nat) (v:V),us[j]?=some v->∃ r:Rat,OnC (P.at j) (gM c.a c.b c.c j) r/\IsD K H' (rD r) v) ⟨aj.refl _,rfl,λj v e=>by simp at e⟩ (by rw[hw.1,hxl]) (by rw[hw.1];decide) (λi us H' ⟨s',e,_⟩=>⟨SqL.of (s' _ _ hl),SqB.same s' hca,by omega⟩) (λi x y us T H' hx hy ⟨s',e,hc⟩ hT R kk S=>?_) (λus H' ⟨s',e,hc⟩ D hD=>?_)⟩
  ·have hi:i<3:=by rw[<- hw.1];exact(Iu.mp hx).1
   generalize e0:upd H' T _=H2;have sT:=tT hT e0;have gT:=mf e0;obtain⟨pp,yy,z,e0,ez,z1,z2⟩:=hp i hi;obtain⟨yv,ey,hyv⟩:=Fe hxs hi;rw[hy] at ey;cases ey;have hcv:=(hw.2 i x hx).same (s'.trans sT);obtain⟨a,C,dx,l2,rfl,hC,ha,hl2⟩:=id hcv;refine⟨T,_,rfl,SqT.of gT,rfl,_,_,rfl,_,_,rfl,rfl,bQ (B:=S H2) ⟨_,rfl,a,C,dx,_,rfl,hC,ha,rfl,_,rfl,.ref a,y,P.at i,_,z,rfl,hcv,IsD.same (s'.trans sT) hyv,pp,Ok.mono (yV bd hi) (by decide),ez,(p_ wi hi).1,by rw[z1];exact(p_ wi hi).2,λw r H3 s3 on hw3=>kk _ _ ⟨(s'.trans sT).trans s3,by rw[IL,e];rfl,λj v ej=>?_⟩⟩⟩;rcases kM ej with ⟨_,ej⟩|⟨rfl,rfl⟩
   ·obtain⟨r',o',h'⟩:=hc j v ej;exact⟨r',o',IsD.same (sT.trans s3) h'⟩
   ·rw[e];exact⟨r,on,hw3⟩
  ·rw[hw.1] at e;obtain⟨u0,u1,u2,rfl⟩:=GH e;obtain⟨x0,o0,h0⟩:=hc 0 u0 rfl;obtain⟨x1,o1,h1⟩:=hc 1 u1 rfl;obtain⟨x2,o2,h2⟩:=hc 2 u2 rfl;refine⟨D,_,rfl,.inl ⟨SqL.of ac,λy hy=>?_⟩⟩;have sD:=aj.new (o:=.lst [u0,u1,u2]) hD;exact q ⟨x0,x1,x2⟩ (.ref y) _ ((s'.trans sD).trans (aj.new hy)) ⟨o0,o1,o2⟩ (IsD.tupN (ds:=(Q3.mk x0 x1 x2).ds) hy (aD.same sD (.cons h0 (.cons h1 (.cons h2 .nil)))))
theorem fB:am ["self","curves","square","ends"] ["self","curves","square","ends"] (ag aL):=scM
def fC (K:Ia):Sp:=λvs H Q _=>∃ (a C dx l:Iv) (x y:V) (ws:List V) (P:C3) (s:S9) (e:En),vs=[.ref a,.ref l,x,y]/\eF K "SquareProfile" C/\H a=some (.ins C dx [])/\H l=some (.lst ws)/\kF K H P ws/\P.In 1000/\IsD K H s.d x/\s.In/\f_ K H e y/\e.In/\∀ H',Mv [a] H H'->(∀ T,cD H T->D8 K (cut T H') P s.cp e (.ref a))->Q .non H'
theorem fG (T:Glo K mg w):rA P w K mg base CX0 9 "SquareProfile" "__init__" ["self","curves","square","ends"] ["ends"] 3 1 [] (fC K):=by
 refine T.x3b.cal fB (λvs H Q E h=>?_) (λf cdv A outer s H vs Q E hr h=>?_)
 ·obtain⟨a,C,dx,l,x,y,ws,P,s,e,rfl,_⟩:=h;rfl
 ·obtain⟨a,C,dx,l,x,y,ws,P,s,e,rfl,hC,hH,hl,hw,hp,hx,hs,hy,ie,q⟩:=h;refine⟨_,(WSs.go (ab (bo (ae aK (e_ T) hr (aR (wpv 1) (cH rfl T.xq))))
   (ab (bo (ae aK (fk T) hr (aO (wpv 3))))
   (ab (bo (ae aK (fm T) hr (aO (wpv 2))))
   (ab (di (K:=K) (x:="SquareProfile") rfl T.xb (.head _) (wpv 0) (ae aK (hV T) hr (aO (wpv 1))))
   (ab (di (K:=K) (x:="SquareProfile") rfl T.xb (.tail _ (.head _)) (wpv 0) (ax ["row"] [] [] 1 (bh (K:=K) rfl (wpv 2)) (λnd=>(ah 0 nd)) aw (aQ (jO (K:=K) rfl) (by rfl) T.x7 f8 (aO (wpv 0)))))
   (af (di (K:=K) (x:="SquareProfile") rfl T.xb (.tail _ (.tail _ (.head _))) (wpv 0) (ae aK (iT T) hr (aO (wpv 3))))))))))),?_⟩
  refine⟨_,rfl,l,ws,P,1000,rfl,hl,hw,hp,λH1 s1=>?_⟩;refine⟨_,rfl,y,e,rfl,hy.same s1,?_⟩;refine⟨_,rfl,x,s,rfl,IsD.same s1 hx,hs,λH2 s2=>?_⟩;have s12:=s1.trans s2;refine⟨_,rfl,l,ws,P,1000,rfl,s12 _ _ hl,hw.same s12,hp,λD us H3 s3 hD gD c3 cT=>?_⟩;have s13:=s12.trans s3;have ha:=s13 _ _ hH;refine⟨_,rfl,a,C,dx,[],rfl,hC,ha,by decide,?_⟩;generalize hG:upd H3 a (.ins C dx (iQ "curves" (.ref D) []))=G;have ga:G a=some (.ins C dx [("curves",.ref D)]):=by rw[<- hG];exact ac
  have sI:gS H3 G:=by rw[<- hG];exact gS.put ha
  have mG:Mv [a] H G:=λb o z nb=>by rw[<- hG,ao (λw=>nb (by simp[w]))];exact s13 _ _ z
  have gD':G D=some (.lst us):=sI _ _ gD λ_ _ _ z=>nomatch z
  have yG:f_ K G e y:=by rw[<- hG];exact(hy.same s13).put ha (by decide)
  have cG:∀ T,cD H T->kF K (cut T G) P us:=λT lT=>by
   have aT:a∉T:=lT.not hH λ_ z=>nomatch z
   have e:cut T G=upd (cut T H3) a (.ins C dx (iQ "curves" (.ref D) [])):=by rw[<- hG];exact jF aT
   rw[e];exact(cT T (lT.same s12)).put (by rw[fh aT];exact ha) (by decide)
  have xG:=IsD.sameI sI (IsD.same s13 hx);have hD0:H D=none:=j0 (T:=[]) (l:=D) (Mv.of s12) hD (by simp);clear hG sI s1 s2 s3 s12 s13 ha hl hw hx hy gD c3 cT;obtain⟨xa,xs,rfl,hxa,hxs⟩:=aH xG;have hxl:xs.length=3:=by rw[<- hxs.length];rfl
  refine⟨_,rfl,xa,s.k,rfl,⟨_,hxa⟩,jR (K:=K) (xs:=xs) (λi zs H'=>aj G H'/\zs.length=i/\∀ (j:Nat) (v:V),zs[j]?=some v->∃ l,v=.ref l/\H l=none/\H' l=some (.lst (s.row j).vs)) ⟨aj.refl _,rfl,λj v e=>by simp at e⟩ (by rw[hxl];decide) (λi zs H' hi ⟨s',el,_⟩=>⟨SqB.same s' hxa,by omega⟩) (λi x zs H' hx ⟨s',el,hz⟩ R S kk _=>?_) (λzs H' ⟨s',el,hz⟩=>?_)⟩
  ·obtain⟨hi,k,hr⟩:=FE (aD.same s' hxs) hx;obtain⟨ra,rfl,hra⟩:=kD hr;refine bQ (B:=S H') ⟨_,rfl,ra,_,rfl,nO hra,λl hl=>kk _ _ ⟨s'.trans (aj.new hl),by rw[IL,el];rfl,λj v ej=>?_⟩⟩;rcases kM ej with ⟨_,ej⟩|⟨rfl,rfl⟩
   ·obtain⟨l',h1,h2,h3⟩:=hz j v ej;exact⟨l',h1,h2,aj.new hl _ _ h3⟩
   ·rw[el];refine⟨l,rfl,j0 (T:=[a]) (λb o z nb=>s' _ _ (mG _ _ z nb)) hl (λz=>?_),ac⟩;rw[Ii.mp z,s' _ _ ga] at hl;cases hl
  intro D2 hD2;have sZ:=s'.trans (aj.new (o:=.lst zs) hD2);have eZ:upd H' D2 (.lst zs) D2=some (.lst zs):=ac;have hD20:H D2=none:=j0 (T:=[a]) (λb o z nb=>s' _ _ (mG _ _ z nb)) hD2 (λz=>by rw[Ii.mp z,s' _ _ ga] at hD2;cases hD2);replace hz:∀ (j:Nat) (v:V),zs[j]?=some v->∃ l,v=.ref l/\H l=none/\upd H' D2 (.lst zs) l=some (.lst (s.row j).vs):=λj v ej=>let ⟨l,h1,h2,h3⟩:=hz j v ej;⟨l,h1,h2,aj.new hD2 _ _ h3⟩
  generalize upd H' D2 (.lst zs)=H4 at sZ eZ hz ⊢;rw[hxl] at el;obtain⟨z0,z1,z2,rfl⟩:∃ z0 z1 z2,zs=[z0,z1,z2]:=by
   match zs,el with
   |[z0,z1,z2],_=>exact⟨z0,z1,z2,rfl⟩
  have ga4:=sZ _ _ ga;refine⟨_,rfl,a,C,dx,_,rfl,hC,ga4,(by show 1<1000;decide),?_⟩;generalize hG2:upd H4 a (.ins C dx (iQ "square" (.ref D2) [("curves",.ref D)]))=G2;have ga2:G2 a=some (.ins C dx [("curves",.ref D),("square",.ref D2)]):=by rw[<- hG2];exact ac
  have sI2:gS H4 G2:=by rw[<- hG2];exact gS.put ga4
  have mG2:Mv [a] H G2:=λb o z nb=>by rw[<- hG2,ao (λw=>nb (by simp[w]))];exact sZ _ _ (mG _ _ z nb)
  have yG2:f_ K G2 e y:=by rw[<- hG2];exact(yG.same sZ).put ga4 (by show([("curves":Str)]:List Str)≠[("white":Str),("black":Str)];decide)
  have cG2:∀ T,cD H T->kF K (cut T G2) P us:=λT lT=>by
   have aT:a∉T:=lT.not hH λ_ z=>nomatch z
   have e:cut T G2=upd (cut T H4) a (.ins C dx (iQ "square" (.ref D2) [("curves",.ref D)])):=by rw[<- hG2];exact jF aT
   rw[e];exact((cG T lT).same (aj.cut sZ)).put (by rw[fh aT];exact ga4) (by show([("curves":Str)]:List Str)≠[("points":Str)];decide)
  refine⟨_,rfl,y,e,rfl,yG2,ie,λu H5 s5 en5=>?_⟩;have ga5:=s5 _ _ ga2;refine⟨_,rfl,a,C,dx,_,rfl,hC,ga5,(by show 2<1000;decide),?_⟩;have aT:∀ {T},cD H T->a∉T:=λlT=>lT.not hH λ_ z=>nomatch z
  have m5:Mv [a] H H5:=λb o z nb=>s5 _ _ (mG2 _ _ z nb)
  refine q _ (λb o z nb=>by rw[ao (λw=>nb (by simp[w]))];exact m5 _ _ z nb) λT lT=>?_
  have aT:=aT lT;have lT5:cD H5 T:=λb m=>let ⟨w,e⟩:=lT b m;⟨w,m5 _ _ e (λz=>aT (Ii.mp z▸m))⟩
  rw[jF aT];have hcut:cut T H5 a=some (.ins C dx [("curves",.ref D),("square",.ref D2)]):=by rw[fh aT];exact ga5
  have at5:∀ {l:Iv}{o:HO},H l=none->H4 l=some o->(∀ C dx fs,o≠.ins C dx fs)->upd (cut T H5) a (.ins C dx (iQ "bounds" u [("curves",.ref D),("square",.ref D2)])) l=some o:=λ{l o} h0 h4 hn=>by
   rw[ao (λz=>by rw[z,hH] at h0;cases h0),fh (lT.new h0)];exact s5 _ _ (sI2 _ _ h4 hn)
  have rows:∀ (j:Nat) (v:V),[z0,z1,z2][j]?=some v->IsD K (upd (cut T H5) a (.ins C dx (iQ "bounds" u [("curves",.ref D),("square",.ref D2)]))) (gE true (s.row j)) v:=λj v ej=>by
   obtain⟨l,rfl,h0,h4⟩:=hz j v ej;exact .lst (.inl (at5 h0 h4 λ_ _ _ z=>nomatch z)) (vP _)
  exact⟨a,C,dx,D,us,.ref D2,u,rfl,hC,ac,at5 hD0 (sZ _ _ gD') (λ_ _ _ z=>nomatch z),((cG2 T lT).same (aj.cut s5)).put hcut (by show([("curves":Str),("square":Str)]:List Str)≠[("points":Str)];decide),
   .lst (.inl (at5 hD20 eZ λ_ _ _ z=>nomatch z)) (.cons (rows 0 z0 rfl) (.cons (rows 1 z1 rfl) (.cons (rows 2 z2 rfl) .nil))),(en5.mv Mv.self lT5).put hcut (by show([("curves":Str),("square":Str)]:List Str)≠[("white":Str),("black":Str)];decide)⟩
theorem fw:am ["self","colour"] ["self","colour"] (ag bV):=scM
def cK (K:Ia):Sp:=λvs H Q _=>∃ (v x:V) (P:C3) (s:S9) (e:En) (c:Q3),vs=[v,x]/\D8 K H P s e v/\P.In 1000/\s.In/\IsD K H c.col x/\c.Wi ((60:Int):Rat)/\c.Bd 17/\∀ (r:Q3) (u:V) (H':Hp),aj H H'->yf P c r->r.Bd 400->IsD K H' (s.m.led r).col u->Q u H'
theorem cJ (T:Glo K mg w):vZ P w K mg base CX0 8 "SquareProfile" "to_worth" ["self","colour"] [] (cK K):=by
 refine T.x2h.cal fw (λvs H Q E h=>?_) (λf cdv A outer s H vs Q E hr h=>?_)
 ·obtain⟨v,x,P,s,e,c,rfl,_⟩:=h;rfl
 ·obtain⟨v,x,P,s,e,c,rfl,hv,hp,hs,hx,wi,bd,q⟩:=h;refine⟨_,(WSs.go (ab (bo (ae aK (bY T) hr (aO (wpv 1))))
   (af (ap (ae aK (Ev T) hr (aR (bN (K:=K) (x:="SquareProfile") rfl T.xb (.tail _ (.head _)) (wpv 0)) (ae aK (lG T) hr (aR (bN (K:=K) (x:="SquareProfile") rfl T.xb (.head _) (wpv 0)) (wpv 1))))))))),?_⟩
  refine⟨_,rfl,x,c,rfl,hx,wi,bd.mono (by decide),λH1 s1=>?_⟩;obtain⟨a,C,dx,cl,us,qv,en,rfl,hC,ha,hcl,h3,hq,he⟩:=hv.same s1;refine⟨_,rfl,a,C,dx,_,_,rfl,hC,ha,rfl,_,rfl,a,C,dx,_,_,rfl,hC,ha,rfl,_,rfl,cl,x,us,P,1000,c,rfl,hcl,h3,hp,IsD.same s1 hx,bd,wi,λr u H2 s2 on hu=>?_⟩;have rb:=DD hp on bd;exact⟨qv,u,s,r,rfl,IsD.same s2 hq,hs,hu,rb.mono (by decide),λv H3 s3 hv3=>q r v H3 ((s1.trans s2).trans s3) on rb hv3⟩
theorem fZ:am ["self","curves","grid","ends"] ["self","curves","grid","ends"] (ag aW):=scM
def gj (K:Ia):Sp:=λvs H Q _=>∃ (a C dx l:Iv) (x y:V) (ws:List V) (P:C3) (f:Kn->R3) (e:En),vs=[.ref a,.ref l,x,y]/\eF K "GridProfile" C/\H a=some (.ins C dx [])/\H l=some (.lst ws)/\kF K H P ws/\P.In 60/\qW K H 2 f x/\WtB 2 f/\f_ K H e y/\e.In/\∀ H',Mv [a] H H'->(∀ T,cD H T->CW K (cut T H') P f e (.ref a))->Q .non H'
theorem fX (T:Glo K mg w):rA P w K mg base CX0 9 "GridProfile" "__init__" ["self","curves","grid","ends"] ["ends"] 3 1 [] (gj K):=by
 refine T.x3c.cal fZ (λvs H Q E h=>?_) (λf cdv A outer s H vs Q E hr h=>?_)
 ·obtain⟨a,C,dx,l,x,y,ws,P,f,e,rfl,_⟩:=h;rfl
 ·obtain⟨a,C,dx,l,x,y,ws,P,f,e,rfl,hC,hH,hl,hw,hp,hx,wt,hy,ie,q⟩:=h;refine⟨_,(WSs.go (ab (bo (ae aK (e_ T) hr (aR (wpv 1) (cH rfl T.xe))))
   (ab (bo (ae aK (fk T) hr (aO (wpv 3))))
   (ab (a_ (aV (aS (aq (DK (K:=K) (x:="Grid") rfl T.x4 T.xy) (by rfl) T.x3 aA (aR (wpv 2) (ue (K:=K) (x:="Grid") rfl rfl (mN T.x4)))))) (af bw) aE)
   (ab (di (K:=K) (x:="GridProfile") rfl T.xa (.head _) (wpv 0) (ae aK (hV T) hr (aO (wpv 1))))
   (ab (di (K:=K) (x:="GridProfile") rfl T.xa (.tail _ (.head _)) (wpv 0) (qC (K:=K) rfl aK (fV T) (hr.mono (by decide)) rfl (aR (bN (K:=K) (x:="Grid") rfl T.x4 (.head _) (wpv 2)) (bN (K:=K) (x:="Grid") rfl T.x4 (.tail _ (.head _)) (wpv 2)))))
   (af (di (K:=K) (x:="GridProfile") rfl T.xa (.tail _ (.tail _ (.head _))) (wpv 0) (ae aK (iT T) hr (aO (wpv 3))))))))))),?_⟩
  refine⟨_,rfl,l,ws,P,60,rfl,hl,hw,hp,λH1 s1=>?_⟩;refine⟨_,rfl,y,e,rfl,hy.same s1,?_⟩;obtain⟨g,Cg,dy,Lt,rfl,hCg,hg,gLt⟩:=hx.same s1;refine⟨_,rfl,λD hD=>?_⟩;cases bZ hD hCg;refine⟨_,_,rfl,hCg,.inl ⟨g,dy,_,rfl,hg,_,rfl,cQ ?_⟩⟩;refine⟨_,rfl,l,ws,P,60,rfl,s1 _ _ hl,hw.same s1,hp,λD us H3 s3 hD gD c3 cT=>?_⟩;have s13:=s1.trans s3;have ha:=s13 _ _ hH;refine⟨_,rfl,a,C,dx,[],rfl,hC,ha,by decide,?_⟩;generalize hG:upd H3 a (.ins C dx (iQ "curves" (.ref D) []))=G;have ga:G a=some (.ins C dx [("curves",.ref D)]):=by rw[<- hG];exact ac
  have sI:gS H3 G:=by rw[<- hG];exact gS.put ha
  have mG:Mv [a] H G:=λb o z nb=>by rw[<- hG,ao (λw=>nb (by simp[w]))];exact s13 _ _ z
  have gD':G D=some (.lst us):=sI _ _ gD λ_ _ _ z=>nomatch z
  have yG:f_ K G e y:=by rw[<- hG];exact(hy.same s13).put ha (by decide)
  have cG:∀ T,cD H T->kF K (cut T G) P us:=λT lT=>by
   have aT:a∉T:=lT.not hH λ_ z=>nomatch z
   have e:cut T G=upd (cut T H3) a (.ins C dx (iQ "curves" (.ref D) [])):=by rw[<- hG];exact jF aT
   rw[e];exact(cT T (lT.same s1)).put (by rw[fh aT];exact ha) (by decide)
  have xG:qW K G 2 f (.ref g):=by rw[<- hG];exact(hx.same s13).put ha (by decide)
  have hD0:H D=none:=j0 (T:=[]) (l:=D) (Mv.of s1) hD (by simp);clear hG s1 s3 s13 ha hl hw hx hy gD c3 cT hg gLt hCg sI;obtain⟨_,Cg,dy,Lt,eg,hCg,hg,gLt⟩:=id xG;cases eg;refine⟨_,rfl,g,Cg,dy,_,_,rfl,hCg,hg,rfl,_,rfl,g,Cg,dy,_,_,rfl,hCg,hg,rfl,λC3 b dz hC3 hb hdz hne=>?_⟩;generalize e0:upd (upd G dz _) b _=H5;have s5:=CT hb hdz hne e0;have gv:=mf e0;refine⟨b,C3,dz,Lt,2,f,rfl,hC3,gv,gLt.same s5,wt,by decide,by decide,λH4 L4 mv4 hb4 gL4 hL4=>⟨rfl,?_⟩⟩;have sZ:aj G H4:=λb' o e=>mv4 _ _ (s5 _ _ e) (λz=>by rw[Ii.mp z,hb] at e;cases e)
  have gr4:qW K H4 2 f (.ref b):=⟨b,C3,dz,L4,rfl,hC3,hb4,gL4⟩
  clear s5 gv mv4 hb4 gL4 hL4 hg gLt xG;have ga4:=sZ _ _ ga;refine⟨_,rfl,a,C,dx,_,rfl,hC,ga4,(by show 1<1000;decide),?_⟩;generalize hG2:upd H4 a (.ins C dx (iQ "grid" (.ref b) [("curves",.ref D)]))=G2;have ga2:G2 a=some (.ins C dx [("curves",.ref D),("grid",.ref b)]):=by rw[<- hG2];exact ac
  have sI2:gS H4 G2:=by rw[<- hG2];exact gS.put ga4
  have mG2:Mv [a] H G2:=λb o z nb=>by rw[<- hG2,ao (λw=>nb (by simp[w]))];exact sZ _ _ (mG _ _ z nb)
  have yG2:f_ K G2 e y:=by rw[<- hG2];exact(yG.same sZ).put ga4 (by show([("curves":Str)]:List Str)≠[("white":Str),("black":Str)];decide)
  have gr2:qW K G2 2 f (.ref b):=by rw[<- hG2];exact gr4.put ga4 (by show([("curves":Str)]:List Str)≠[("knots":Str),("table":Str)];decide)
  have cG2:∀ T,cD H T->kF K (cut T G2) P us:=λT lT=>by
   have aT:a∉T:=lT.not hH λ_ z=>nomatch z
   have e:cut T G2=upd (cut T H4) a (.ins C dx (iQ "grid" (.ref b) [("curves",.ref D)])):=by rw[<- hG2];exact jF aT
   rw[e];exact((cG T lT).same (aj.cut sZ)).put (by rw[fh aT];exact ga4) (by show([("curves":Str)]:List Str)≠[("points":Str)];decide)
  refine⟨_,rfl,y,e,rfl,yG2,ie,λu H5 s5 en5=>?_⟩;have ga5:=s5 _ _ ga2;refine⟨_,rfl,a,C,dx,_,rfl,hC,ga5,(by show 2<1000;decide),?_⟩;have aT:∀ {T},cD H T->a∉T:=λlT=>lT.not hH λ_ z=>nomatch z
  have m5:Mv [a] H H5:=λb o z nb=>s5 _ _ (mG2 _ _ z nb)
  refine q _ (λb o z nb=>by rw[ao (λw=>nb (by simp[w]))];exact m5 _ _ z nb) λT lT=>?_
  have aT:=aT lT;have lT5:cD H5 T:=λb m=>let ⟨w,e⟩:=lT b m;⟨w,m5 _ _ e (λz=>aT (Ii.mp z▸m))⟩
  rw[jF aT];have hcut:cut T H5 a=some (.ins C dx [("curves",.ref D),("grid",.ref b)]):=by rw[fh aT];exact ga5
  refine⟨a,C,dx,D,us,.ref b,u,rfl,hC,ac,?_,((cG2 T lT).same (aj.cut s5)).put hcut (by show([("curves":Str),("grid":Str)]:List Str)≠[("points":Str)];decide),((gr2.same s5).mv Mv.self lT5).put hcut (by show([("curves":Str),("grid":Str)]:List Str)≠[("knots":Str),("table":Str)];decide),(en5.mv Mv.self lT5).put hcut (by show([("curves":Str),("grid":Str)]:List Str)≠[("white":Str),("black":Str)];decide)⟩;rw[ao (λz=>by rw[z,hH] at hD0;cases hD0),fh (lT.new hD0)];exact s5 _ _ (sI2 _ _ (sZ _ _ gD') λ_ _ _ z=>nomatch z)
theorem f9:am ["self","colour"] ["self","colour"] (ag cq):=scM
def cR (K:Ia):Sp:=λvs H Q _=>∃ (v x:V) (P:C3) (f:Kn->R3) (e:En) (c:Q3),vs=[v,x]/\CW K H P f e v/\P.In 60/\WtB 2 f/\IsD K H c.col x/\c.Wi ((60:Int):Rat)/\c.Bd 17/\TbI K "parts_by_four" H/\∀ (r:Q3) (u:V) (H':Hp),aj H H'->yf P c r->r.Wi ((60:Int):Rat)->r.Bd 400->IsD K H' (W4 2 f r).col u->(W4 2 f r).Bd 3900->Q u H'
theorem cV (T:Glo K mg w):vZ P w K mg base CX0 8 "GridProfile" "to_worth" ["self","colour"] [] (cR K):=by
 refine T.x2i.cal f9 (λvs H Q E h=>?_) (λf cdv A outer s H vs Q E hr h=>?_)
 ·obtain⟨v,x,P,f,e,c,rfl,_⟩:=h;rfl
 ·obtain⟨v,x,P,f,e,c,rfl,hv,hp,wt,hx,wi,bd,tb,q⟩:=h;refine⟨_,(WSs.go (ab (bo (ae aK (bY T) hr (aO (wpv 1))))
   (af (ap (BP (K:=K) rfl aK (nK T) (hr.mono (by decide)) (bN (K:=K) (x:="GridProfile") rfl T.xa (.tail _ (.head _)) (wpv 0)) (aO (ae aK (lG T) hr (aR (bN (K:=K) (x:="GridProfile") rfl T.xa (.head _) (wpv 0)) (wpv 1)))) nU))))),?_⟩
  refine⟨_,rfl,x,c,rfl,hx,wi,bd.mono (by decide),λH1 s1=>?_⟩;obtain⟨a,C,dx,cl,us,gv,en,rfl,hC,ha,hcl,h3,hq,he⟩:=hv.same s1;obtain⟨g,C2,dy,L,rfl,hC2,hg,gL⟩:=id hq;refine⟨_,rfl,a,C,dx,_,_,rfl,hC,ha,rfl,g,C2,dy,_,rfl,hC2,hg,rfl,_,rfl,a,C,dx,_,_,rfl,hC,ha,rfl,_,rfl,cl,x,us,P,60,c,rfl,hcl,h3,hp,IsD.same s1 hx,bd,wi,λr u H2 s2 on hu=>?_⟩;have rb:=DD (cap:=60) hp on bd;have rw:=EU hp on wi;exact⟨.ref g,u,"four",2,f,r,60,rfl,hq.same s2,wt,by decide,by decide,hu,rw,EW hp on bd,by decide,(tb.same s1).same s2,.inl rfl,λr4 v H3 s3 e4 _ b4 hv3=>by
   rw[e4 rfl] at hv3 b4;exact q r v H3 ((s1.trans s2).trans s3) on rw rb hv3 (b4.mono (by decide))⟩
theorem tI:am ["_law_script"] ["_law_script"] (ag jB):=scM
def rO (K:Ia):Sp:=λvs H Q _=>∃ (a:Iv) (ns:List Int),vs=[.ref a]/\SqL K H a (ns.map V.int)/\ns.length<=63/\∀ t r H',aj H H'->H t=none->H r=none->c_ H' t r->Q (.ref t) H'
theorem q9 (T:Glo K mg w):Cal P w K mg base CX0 1 "_law_town" ["_law_script"] [] (rO K):=by
 refine T.x2j.cal tI (λvs H Q E h=>?_) (λf cdv A outer s H vs Q E hr h=>?_)
 ·obtain⟨a,ns,rfl,_⟩:=h;rfl
 ·obtain⟨a,ns,rfl,hS,hl,q⟩:=h;refine⟨_,(WSs.go (af (ap (ce (aR (iy (aU (DE (K:=K) rfl hr.units) (wpv 0) (ce aN) (aX _)) (aQ (jO (K:=K) rfl) (by rfl) T.x7 f8 (aO (wpv 0))) (ce (aO aa))) aa))))),?_⟩;refine⟨_,rfl,by decide,λp hp=>⟨a,p,ns,rfl,rfl,(aj.new hp).seq hS,ac,_,rfl,?_⟩⟩;have s1:aj H (upd H p (.lst [])):=aj.new hp
  by_cases hn:ns=[]
  ·rw[Ir hn];refine cQ ⟨by decide,λr hr=>⟨le2,λt ht=>?_⟩⟩;have s2:=s1.trans (aj.new (o:=.lst [.int 0]) hr);exact q t r _ (s2.trans (aj.new ht)) (s2.free ht) (s1.free hr) ⟨[0],0,ac,by rw[ao (aB ac ht)];exact ac,by decide,by decide⟩
  ·rw[Jd hn];refine bQ ⟨_,rfl,a,ns.map V.int,rfl,.inl (s1.seq hS),λr hr=>⟨le2,λt ht=>?_⟩⟩;have s2:=s1.trans (aj.new (o:=.lst (ns.map V.int)) hr);exact q t r _ (s2.trans (aj.new ht)) (s2.free ht) (s1.free hr) ⟨ns,0,ac,by rw[ao (aB ac ht)];exact ac,hn,hl⟩
theorem da:am ["_law_town_here","_law_many","_law_row","_law_at","_law_cell_here","_law_mixed"] ["_law_town_here","_law_many"] (ag jJ):=scM
def tj (_:Ia):Sp:=λvs H Q _=>∃ (t r:Iv) (many:Int),vs=[.ref t,.int many]/\c_ H t r/\0<many/\Sm 8000 many /\
 ∀ (d:Int) (H':Hp),0<=d->d<many->c_ H' t r->Mv [t,r] H H'->Q (.int d) H'
theorem az (T:Glo K mg w):Cal P w K mg base CX0 1 "_law_draw" ["_law_town_here","_law_many"] [] (tj K):=by
 refine T.x2k.cal da (λvs H Q E h=>?_) (λf cdv A outer s H vs Q E hr h=>?_)
 ·obtain⟨t,r,many,rfl,_⟩:=h;rfl
 ·obtain⟨t,r,many,rfl,tw,hm,sm,q⟩:=h;have htr:=tw.ne;obtain⟨cells,k,ht,hw,hne,hlen⟩:=tw;refine⟨_,(WSs.go (ab (au 2 da.nd (ak K (wpv 0) aa))
   (ab (gY (ar cP (ak K (wpv 0) aa) aa) (uB (wpv 0) aa qU))
   (ab (au 3 da.nd (ar lq (ak K (wpv 0) aa) (aq (h_ (K:=K) rfl) (by rfl) T.x2 df (aO (wpv 2)))))
   (ab (au 4 da.nd (ak K (wpv 2) (wpv 3)))
   (ab (a_ (aU GI (wpv 4) aa (aX _)) (ab (gY (ar cL (wpv 4) (wpv 1)) (uB (wpv 2) (wpv 3) qU))
   (af (ap (ar lq (wpv 4) (wpv 1))))) aE)
   (ab (au 5 da.nd (ar lq (ar cP (wpv 4) (ar aG aa (ak K (wpv 0) aa))) aa))
   (ab (au 5 da.nd (ar lq (ar CS (wpv 5) aa) aa))
   (af (ap (ar lq (ar cL (ar lq (ar cP (ar aG (ar cL (wpv 5) aa) aa) (wpv 5)) aa) aa) (wpv 1)))))))))))),?_⟩
  have nz:0<cells.length:=Ps.mpr hne;have hw1:∀ o,upd H t o r=some (.lst (cells.map V.int)):=λo=>by rw[ao htr.symm];exact hw
  refine⟨_,rfl,Ek ht ?_⟩;refine⟨_,rfl,yD ht ⟨_,_,rfl,rfl,_,rfl,t,_,1,1,rfl,rfl,ht,rfl,?_⟩⟩;refine⟨_,rfl,yD (x:=.ref r) (y:=.int (k+1)) ac ⟨_,rfl,r,cells.map V.int,rfl,.inl (SqL.of (hw1 _)),_,_,rfl,rfl,?_,?_⟩⟩
  ·show(0:Int)<((cells.map V.int).length:Int);rw[Ij];omega
  have e0:((cells.map V.int).length:Int)=(cells.length:Int):=by rw[Ij]
  obtain⟨j,hj⟩:∃ j:Nat,(k+1)%((cells.map V.int).length:Int)=(j:Int):=⟨_,(Int.toNat_of_nonneg (K' _ (by omega))).symm⟩
  have hjl:j<cells.length:=by
   have:=KB (k+1) (show 0<((cells.map V.int).length:Int) by omega);omega
  simp only[hj];refine⟨_,rfl,_,rfl,.inl ⟨r,_,_,.int cells[j],rfl,rfl,SqL.of (hw1 _),m9 (by simp[hjl]),?_⟩⟩;generalize cells[j]=c;refine⟨_,rfl,_,_,rfl,rfl,_,rfl,?_⟩;refine lF (λhc=>?_) (λhc=>?_)
  ·refine⟨_,rfl,_,rfl,_,_,rfl,rfl,⟨by omega,sm⟩,_,rfl,_,rfl,r,_,_,j,rfl,rfl,hw1 _,?_,?_⟩
   ·rw[Ij];unfold ixN;rw[Jh (show(0:Int)<=(j:Int) by omega),Jh (show(j:Int)<(cells.length:Int) by omega)];rfl
   refine⟨_,rfl,_,rfl,_,_,rfl,rfl,hm,?_⟩;refine q _ _ (K' _ (by omega)) (KB _ hm) ⟨cells.set j (c.fdiv many),k+1,?_,?_,?_,?_⟩ ?_
   ·rw[ao htr];exact ac
   ·rw[ac,List.map_set]
   ·intro z;have:=Lr Pr z;rw[OI] at this;exact absurd this (by rw[M_];omega)
   ·rw[OI];exact hlen
   ·exact(Mv.upd (by simp)).trans (Mv.upd (by simp))
  ·refine⟨_,rfl,_,rfl,yD (x:=.ref r) (y:=.int (k+1)) ac ⟨_,_,rfl,rfl,.inr (by unfold Sm;decide),_,_,rfl,rfl,_,_,rfl,rfl,(by show(0:Int)<4294967291;decide),?_⟩⟩;dsimp only;have b1:=K' (c+104729*(k+1)) (show(4294967291:Int)≠0 by decide);have b2:=KB (c+104729*(k+1)) (show(0:Int)<4294967291 by decide);generalize (c+104729*(k+1))%4294967291=m1 at b1 b2 ⊢;refine⟨_,rfl,_,_,rfl,rfl,⟨by decide,by decide,by omega⟩,_,_,rfl,rfl,(by show(0:Int)<4294967279;decide),?_⟩;dsimp only;have b3:=K' (m1^(5:Int).toNat) (show(4294967279:Int)≠0 by decide);have b4:=KB (m1^(5:Int).toNat) (show(0:Int)<4294967279 by decide);generalize m1^(5:Int).toNat%4294967279=m2 at b3 b4 ⊢;have b5:Sm 64 (m2.fdiv 64):=by
    rw[JF _ (by decide)];unfold Sm;omega
   refine⟨_,rfl,_,_,rfl,rfl,⟨by decide,by unfold Sm;decide⟩,_,_,rfl,rfl,.inr b5,_,rfl,_,_,rfl,rfl,_,_,rfl,rfl,(by show(0:Int)<4294967231;decide),_,_,rfl,rfl,⟨by decide,by unfold Sm;decide⟩,_,rfl,_,_,rfl,rfl,hm,?_⟩;exact q _ _ (K' _ (by omega)) (KB _ hm) ⟨cells,k+1,ac,hw1 _,hne,hlen⟩ (Mv.upd (by simp))
theorem sQ:am ["_law_town_here","_law_some"] ["_law_town_here","_law_some"] (ag je):=scM
def rR (K:Ia):Sp:=λvs H Q _=>∃ (t r p:Iv) (xs:List V),vs=[.ref t,.ref p]/\c_ H t r/\H p=some (.lst xs)/\p≠t/\p≠r/\xs≠[]/\xs.length<=1000 /\
 ∀ (i:Nat) (v:V) (H':Hp),xs[i]?=some v->c_ H' t r->Mv [t,r] H H'->Q v H'
theorem eG (T:Glo K mg w):Cal P w K mg base CX0 2 "_law_pick" ["_law_town_here","_law_some"] [] (rR K):=by
 refine T.x2l.cal sQ (λvs H Q E h=>?_) (λf cdv A outer s H vs Q E hr h=>?_)
 ·obtain⟨t,r,p,xs,rfl,_⟩:=h;rfl
 ·obtain⟨t,r,p,xs,rfl,tw,hp,n1,n2,hne,hl,q⟩:=h;refine⟨_,(WSs.go (af (ap (ak K (wpv 1) (ae aK (az T) hr (aR (wpv 0) (aq (h_ (K:=K) rfl) (by rfl) T.x2 df (aO (wpv 1))))))))),?_⟩;have nz:0<xs.length:=Ps.mpr hne;refine⟨_,rfl,_,rfl,_,rfl,p,xs,rfl,.inl (SqL.of hp),t,r,_,rfl,tw,by omega,?_,λd H' h0 h1 tw' mv=>?_⟩
  ·refine Sm.mono (k:=64) ?_ (by decide);unfold Sm;omega
  obtain⟨j,rfl⟩:=Mi h0;have hj:j<xs.length:=by omega
  exact .inl ⟨p,xs,_,xs[j],rfl,rfl,SqL.of (mv p _ hp (by simp[n1,n2])),m9 (by simp[hj]),q j _ _ (by simp[hj]) tw' mv⟩
theorem qm:am ["_law_thing"] ["_law_thing"] (ag iF):=scM
def qr (K:Ia):Sp:=λvs H Q _=>∃ x T,vs=[x]/\Ty K H x T/\Q (.bl (isI x)) H
theorem kq (T:Glo K mg w):Cal P w K mg base CX0 1 "_law_whole" ["_law_thing"] [] (qr K):=by
 refine T.x2m.cal qm (λvs H Q E h=>?_) (λf cdv A outer s H vs Q E hr h=>?_)
 ·obtain⟨x,S,rfl,_⟩:=h;rfl
 ·obtain⟨x,S,rfl,ty,q⟩:=h;refine⟨_,(WSs.go (af (ap (c7 (aq (lS (K:=K) rfl) (by rfl) T.x3 aA (aR (wpv 0) (bO (v:=.ty "int") rfl T.xk B' rfl))) (fq (zU (aq (lS (K:=K) rfl) (by rfl) T.x3 aA (aR (wpv 0) (bO (v:=.ty "bool") rfl T.xi Ao rfl))))))))),?_⟩;obtain⟨b,e1,e2⟩:=CH ty;refine⟨_,rfl,_,_,_,b,rfl,ty,e1,b,rfl,?_⟩;cases b with
  |false=>
   refine cQ ?_;rw[show isI x=false from e2] at q;exact q
  |true=>
   obtain⟨c,e3,e4⟩:=(show ∃ c,jC S "bool"=some c/\isI x=!c from e2)
   refine bQ ⟨_,rfl,_,_,_,c,rfl,ty,e3,c,rfl,?_⟩;rw[e4] at q;exact q
theorem gQ:am ["_law_one","_law_two","_law_a","_law_b"] ["_law_one","_law_two"] (ag kK):=scM
def m_ (K:Ia):Sp:=λvs H Q _=>∃ t b:Int,vs=[.int t,.int b]/\b≠0/\Sm 8000 b/\Sh K H t b Q
theorem cZ (T:Glo K mg w):Cal P w K mg base CX0 1 "_law_low" ["_law_one","_law_two"] [] (m_ K):=by
 refine T.x2n.cal gQ (λvs H Q E h=>?_) (λf cdv A outer s H vs Q E hr h=>?_)
 ·obtain⟨t,b,rfl,_⟩:=h;rfl
 ·obtain⟨t,b,rfl,hb,sb,q⟩:=h;refine⟨_,(WSs.go (ab (a_ (aU wx (wpv 1) aa (aX _)) (af (k_ (i:=0) (j:=1) rfl gQ.nd rfl rfl (by decide) rfl rfl (aR (ar cS aa (wpv 0)) (ar cS aa (wpv 1))) rfl)) aE)
   (ab (k_ (i:=2) (j:=3) rfl gQ.nd rfl rfl (by decide) rfl rfl (aR (aq (ye rfl) (by rfl) T.xz ER (aR (wpv 0) (ar cS aa (wpv 0)))) (wpv 1)) rfl)
   (ab (mZ Jq (aU wL (wpv 3) aa (aX _)) (af (k_ (i:=2) (j:=3) rfl gQ.nd rfl rfl (by decide) rfl rfl (aR (wpv 3) (ar lq (wpv 2) (wpv 3))) rfl)))
   (af (ap (aI (aR (ar cL (wpv 0) (wpv 2)) (ar cL (wpv 1) (wpv 2)))))))))),?_⟩
  have core:∃ t' b':Int,(b<0->t'=0-t/\b'=0-b)/\(¬ b<0->t'=t/\b'=b)/\0<b'/\Sm 8000 b'/\∀ n d,Low t' b' n d->Low t b n d:=by
   by_cases hc:b<0
   ·refine⟨0-t,0-b,λ_=>⟨rfl,rfl⟩,λz=>absurd hc z,by omega,by rw[Qq];exact sb.neg,λn d z=>⟨z.1,z.2.1,?_⟩⟩;have:=z.2.2;rw[Qq,Qq,QH,Int.neg_mul] at this;omega
   ·exact⟨t,b,λz=>absurd z hc,λ_=>⟨rfl,rfl⟩,by omega,sb,λ_ _ z=>z⟩
  obtain⟨t',b',c1,c2,hb',sb',lw⟩:=core;refine⟨_,rfl,_,_,rfl,rfl,_,rfl,?_⟩
  suffices lv:FR _ _ _ [some (.int t'),some (.int b'),none,none] H by
   refine lF (λhc=>?_) (λhc=>?_)
   ·obtain⟨rfl,rfl⟩:=c1 (JP hc);exact⟨_,rfl,_,_,rfl,rfl,_,rfl,_,_,rfl,rfl,_,_,rfl,lv⟩
   ·obtain⟨rfl,rfl⟩:=c2 (λz=>hc (Ir z));exact lv
  refine⟨_,rfl,_,rfl,_,_,rfl,rfl,_,_,rfl,_,rfl,_,_,rfl,?_⟩;refine⟨λm σ H'=>∃ x y:Int,σ=[some (.int t'),some (.int b'),some (.int x),some (.int y)]/\H'=H/\0<=x/\0<=y/\JQ x y=JQ t' b'/\m=y.toNat,⟨_,_,_,rfl,rfl,?_,?_,?_,rfl⟩,?_⟩
  ·split<;>omega
  ·omega
  ·rw[<- yr t' b',show(if b'<0 then -b' else b')=b' from IY (by omega)]
   congr 1
   by_cases h1:t'<0
   ·rw[Jh h1,Jh (show 0-t'>t' by omega)];omega
   ·rw[IY h1]
    split<;>omega
  ·rintro m σ H' ⟨x,y,rfl,rfl,hx,hy,hg,rfl⟩;refine⟨_,rfl,_,_,rfl,rfl,_,rfl,?_⟩;refine lF (λhc=>?_) (λhc=>?_)
   ·have hc:=JP hc;refine⟨_,λ_ _ z=>z,?_⟩;refine⟨_,rfl,_,rfl,_,rfl,_,_,rfl,rfl,hc,_,_,rfl,?_⟩;have h1:=K' x (show y≠0 by omega);have h2:=KB x hc;exact⟨(x%y).toNat,by omega,y,x%y,rfl,rfl,hy,h1,by rw[vq hx hc];exact hg,rfl⟩
   ·have hc:¬ (0<y):=λz=>hc (Ir z)
    have hy0:y=0:=by omega
    subst hy0;have e:x=(JQ t' b':Int):=by
     rw[<- hg,PH];omega
    subst e;have gb:Sm 8000 (JQ t' b':Int):=sb'.le (B5 (by omega));have gn:(JQ t' b':Int)≠0:=by
     have:=Lp t' (show b'≠0 by omega);omega
    refine⟨_,rfl,_,rfl,_,_,rfl,rfl,⟨gn,gb⟩,_,rfl,_,rfl,_,_,rfl,rfl,⟨gn,gb⟩,le2,λp hp=>?_⟩;exact q _ _ _ _ (aj.new hp) (nj ac) (lw _ _ (Ac (by omega) rfl (by rw[IY (by omega)])))
theorem tJ:am ["_law_one","_law_two"] ["_law_one","_law_two"] (ag jh):=scM
def r_ (K:Ia):Sp:=λvs H Q _=>∃ x y n d m e,vs=[x,y]/\IsD K H (shD n d) x/\IsD K H (shD m e) y/\Ok 3900 n d/\Ok 3900 m e/\Sh K H (n*e+m*d) (d*e) Q
theorem lI (T:Glo K mg w):Cal P w K mg base CX0 2 "_law_plus" ["_law_one","_law_two"] [] (r_ K):=by
 refine T.x2o.cal tJ (λvs H Q E h=>?_) (λf cdv A outer s H vs Q E hr h=>?_)
 ·obtain⟨x,y,n,d,m,e,rfl,_⟩:=h;rfl
 ·obtain⟨x,y,n,d,m,e,rfl,hx,hy,ox,oy,q⟩:=h;obtain⟨a,rfl,ha⟩:=bn hx;obtain⟨b,rfl,hb⟩:=bn hy;refine⟨_,(WSs.go (af (ap (ae aK (cZ T) hr (aR (ar cP (ar aG (ak K (wpv 0) aa) (ak K (wpv 1) aa)) (ar aG (ak K (wpv 1) aa) (ak K (wpv 0) aa))) (ar aG (ak K (wpv 0) aa) (ak K (wpv 1) aa))))))),?_⟩;have c:∀ {i j:Int},Sm 3900 i->Sm 3900 j->pK i j:=λh1 h2=>.inl ⟨h1.mono (by decide),h2.mono (by decide)⟩
  refine⟨_,rfl,dH ha ⟨_,rfl,cE hb ⟨_,_,rfl,rfl,c ox.sn oy.sd,?_⟩⟩⟩;refine⟨_,rfl,dH hb ⟨_,rfl,cE ha ⟨_,_,rfl,rfl,c oy.sn ox.sd,_,_,rfl,rfl,?_⟩⟩⟩;refine⟨_,rfl,cE ha ⟨_,rfl,cE hb ⟨_,_,rfl,rfl,c ox.sd oy.sd,?_⟩⟩⟩;exact⟨_,_,rfl,Jf ox.ne oy.ne,(ox.sd.mul oy.sd).mono (by decide),q⟩
theorem re:am ["_law_one","_law_two"] ["_law_one","_law_two"] (ag jm):=scM
def rj (K:Ia):Sp:=λvs H Q _=>∃ x y n d m e,vs=[x,y]/\IsD K H (shD n d) x/\IsD K H (shD m e) y/\Ok 3900 n d/\Ok 3900 m e/\Sh K H (n*e-m*d) (d*e) Q
theorem s_ (T:Glo K mg w):Cal P w K mg base CX0 2 "_law_less" ["_law_one","_law_two"] [] (rj K):=by
 refine T.x2p.cal re (λvs H Q E h=>?_) (λf cdv A outer s H vs Q E hr h=>?_)
 ·obtain⟨x,y,n,d,m,e,rfl,_⟩:=h;rfl
 ·obtain⟨x,y,n,d,m,e,rfl,hx,hy,ox,oy,q⟩:=h;obtain⟨a,rfl,ha⟩:=bn hx;obtain⟨b,rfl,hb⟩:=bn hy;refine⟨_,(WSs.go (af (ap (ae aK (cZ T) hr (aR (ar cS (ar aG (ak K (wpv 0) aa) (ak K (wpv 1) aa)) (ar aG (ak K (wpv 1) aa) (ak K (wpv 0) aa))) (ar aG (ak K (wpv 0) aa) (ak K (wpv 1) aa))))))),?_⟩;have c:∀ {i j:Int},Sm 3900 i->Sm 3900 j->pK i j:=λh1 h2=>.inl ⟨h1.mono (by decide),h2.mono (by decide)⟩
  refine⟨_,rfl,dH ha ⟨_,rfl,cE hb ⟨_,_,rfl,rfl,c ox.sn oy.sd,?_⟩⟩⟩;refine⟨_,rfl,dH hb ⟨_,rfl,cE ha ⟨_,_,rfl,rfl,c oy.sn ox.sd,_,_,rfl,rfl,?_⟩⟩⟩;refine⟨_,rfl,cE ha ⟨_,rfl,cE hb ⟨_,_,rfl,rfl,c ox.sd oy.sd,?_⟩⟩⟩;exact⟨_,_,rfl,Jf ox.ne oy.ne,(ox.sd.mul oy.sd).mono (by decide),q⟩
theorem p7:am ["_law_one","_law_two"] ["_law_one","_law_two"] (ag il):=scM
def qP (K:Ia):Sp:=λvs H Q _=>∃ x y n d m e,vs=[x,y]/\IsD K H (shD n d) x/\IsD K H (shD m e) y/\Ok 3900 n d/\Ok 3900 m e/\Sh K H (n*m) (d*e) Q
theorem jW (T:Glo K mg w):Cal P w K mg base CX0 2 "_law_times" ["_law_one","_law_two"] [] (qP K):=by
 refine T.x2q.cal p7 (λvs H Q E h=>?_) (λf cdv A outer s H vs Q E hr h=>?_)
 ·obtain⟨x,y,n,d,m,e,rfl,_⟩:=h;rfl
 ·obtain⟨x,y,n,d,m,e,rfl,hx,hy,ox,oy,q⟩:=h;obtain⟨a,rfl,ha⟩:=bn hx;obtain⟨b,rfl,hb⟩:=bn hy;refine⟨_,(WSs.go (af (ap (ae aK (cZ T) hr (aR (ar aG (ak K (wpv 0) aa) (ak K (wpv 1) aa)) (ar aG (ak K (wpv 0) aa) (ak K (wpv 1) aa))))))),?_⟩;have c:∀ {i j:Int},Sm 3900 i->Sm 3900 j->pK i j:=λh1 h2=>.inl ⟨h1.mono (by decide),h2.mono (by decide)⟩
  refine⟨_,rfl,dH ha ⟨_,rfl,dH hb ⟨_,_,rfl,rfl,c ox.sn oy.sn,?_⟩⟩⟩;refine⟨_,rfl,cE ha ⟨_,rfl,cE hb ⟨_,_,rfl,rfl,c ox.sd oy.sd,?_⟩⟩⟩;exact⟨_,_,rfl,Jf ox.ne oy.ne,(ox.sd.mul oy.sd).mono (by decide),q⟩
theorem qh:am ["_law_one","_law_two"] ["_law_one","_law_two"] (ag ib):=scM
def qo (K:Ia):Sp:=λvs H Q _=>∃ (x y:V) (p q:Rat),vs=[x,y]/\IsD K H (rD p) x/\IsD K H (rD q) y/\Bq 3900 p/\Bq 3900 q/\Q (.bl (decide (p<q))) H
theorem p8 (T:Glo K mg w):Cal P w K mg base CX0 1 "_law_below" ["_law_one","_law_two"] [] (qo K):=by
 refine T.x2r.cal qh (λvs H Q E h=>?_) (λf cdv A outer s H vs Q E hr h=>?_)
 ·obtain⟨x,y,p,q,rfl,_⟩:=h;rfl
 ·obtain⟨x,y,p,r,rfl,hx,hy,ox,oy,q⟩:=h;obtain⟨a,rfl,ha⟩:=bn hx;obtain⟨b,rfl,hb⟩:=bn hy;refine⟨_,(WSs.go (af (ap (bM wx (ar aG (ak K (wpv 0) aa) (ak K (wpv 1) aa)) (ar aG (ak K (wpv 1) aa) (ak K (wpv 0) aa)) (aX _))))),?_⟩;have c:∀ {i j:Int},Sm 3900 i->Sm 3900 j->pK i j:=λh1 h2=>.inl ⟨h1.mono (by decide),h2.mono (by decide)⟩
  refine⟨_,rfl,dH ha ⟨_,rfl,cE hb ⟨_,_,rfl,rfl,c ox.sn oy.sd,?_⟩⟩⟩;refine⟨_,rfl,dH hb ⟨_,rfl,cE ha ⟨_,_,rfl,rfl,c oy.sn ox.sd,_,_,rfl,rfl,?_⟩⟩⟩;rw[show decide (p<r)=decide (p.num*(r.den:Int)<r.num*(p.den:Int)) from Op.mpr (Rat.lt_iff p r)] at q;exact q
theorem kj:am ["_law_town_here","_law_cap","_law_below_here"] ["_law_town_here","_law_cap"] (ag iK):=scM
def ql (K:Ia):Sp:=λvs H Q _=>∃ (t r:Iv) (cap:Int),vs=[.ref t,.int cap]/\c_ H t r/\0<cap/\cap<=1000 /\
 ∀ (v:V) (q:Rat) (H':Hp),IsD K H' (rD q) v->0<=q->q<=(cap:Rat)->Bq 17 q->c_ H' t r->Mv [t,r] H H'->Q v H'
theorem eW (T:Glo K mg w):Cal P w K mg base CX0 3 "_law_share" ["_law_town_here","_law_cap"] [] (ql K):=by
 refine T.x2s.cal kj (λvs H Q E h=>?_) (λf cdv A outer s H vs Q E hr h=>?_)
 ·obtain⟨t,r,cap,rfl,_⟩:=h;rfl
 ·obtain⟨t,r,cap,rfl,tw,c0,c1,q⟩:=h;refine⟨_,(WSs.go (ab (au 2 kj.nd (ae aK (eG T) hr (aR (wpv 0) (ce (ai aa (ai aa (ai aa (ai aa (ai aa (ai aa aN))))))))))
   (af (ap (ae aK (eG T) hr (aR (wpv 0) (ar zS (ar CB (ce (aO (ae aK (cZ T) hr (aR (ae aK (az T) hr (aR (wpv 0) (ar cP (ar aG (wpv 1) (wpv 2)) aa))) (wpv 2))))) aa) (ce (aR (aI (aR aa aa)) (aI (aR (wpv 1) aa))))))))))),?_⟩
  have s64:∀ {n:Int},0<n->n<100000->Sm 8000 n:=λh1 h2=>Sm.mono (k:=20) (by unfold Sm;omega) (by decide)
  refine⟨_,rfl,(by show 6<=II;decide),λp hp=>?_⟩;have sp:=aj.new (o:=.lst [.int 1,.int 1,.int 2,.int 3,.int 7,.int 60]) hp;have np:=tw.not hp;refine⟨t,r,p,_,rfl,tw.same sp,ac,λz=>np (by simp[z]),λz=>np (by simp[z]),by simp,by show 6<=1000;decide,λj v G hv tw1 mv1=>?_⟩;obtain⟨b,rfl,b0,b1⟩:∃ b:Int,v=.int b/\0<b/\b<=60:=by
   match j,hv with
   |0,hv=>exact⟨1,(Ie hv).symm,by decide,by decide⟩
   |1,hv=>exact⟨1,(Ie hv).symm,by decide,by decide⟩
   |2,hv=>exact⟨2,(Ie hv).symm,by decide,by decide⟩
   |3,hv=>exact⟨3,(Ie hv).symm,by decide,by decide⟩
   |4,hv=>exact⟨7,(Ie hv).symm,by decide,by decide⟩
   |5,hv=>exact⟨60,(Ie hv).symm,by decide,by decide⟩
  have cb:cap*b<=60000:=Int.le_trans (Int.mul_le_mul_of_nonneg_right c1 (by omega)) (by omega);have cb0:0<=cap*b:=K5 (by omega) (by omega);have mv1:=(Mv.of sp).trans mv1;clear hv sp np hp;refine⟨_,rfl,_,rfl,_,rfl,_,rfl,_,_,rfl,rfl,.inr ((GZ (by omega) c1).mono (by decide)),_,_,rfl,rfl,?_⟩;refine⟨t,r,_,rfl,tw1,by omega,s64 (by omega) (by omega),λd H2 d0 d1 tw2 mv2=>?_⟩;have bq:Bq 17 ((d:Rat)/(b:Rat)):=l0 (by omega) (by unfold Sm;omega) (by unfold Sm;omega);have bp:(0:Rat)<(b:Rat):=Rat.intCast_pos.mpr b0;have hd0:(0:Rat)<=(d:Rat):=Nx.mpr d0;have hd1:(d:Rat)<=(cap:Rat)*(b:Rat):=by rw[<- IP];exact Ox.mpr (by omega)
  have nb:=Cm (n:=b) (by omega);have eq:(d:Rat)=(d:Rat)/(b:Rat)*(b:Rat):=by grind
  have q0:0<=(d:Rat)/(b:Rat):=Rat.not_lt.mp λz=>by
   have:=Nj z bp;grind
  have q1:(d:Rat)/(b:Rat)<=(cap:Rat):=Rat.not_lt.mp λz=>by
   have:=Nj z bp;grind
  refine⟨_,rfl,_,_,rfl,by omega,s64 (by omega) (by omega),ShQ.sh (by omega) λv3 H3 s3 hv3=>?_⟩;refine⟨le1,λp1 hp1=>?_⟩;have s4:=aj.new (o:=.lst [v3]) hp1;refine D_ (n:=4) rfl (by decide) ac λp2 hp2=>?_
  have s5:=aj.new (o:=.lst (Iz 4 v3)) hp2;refine⟨le2,λp3 hp3=>?_⟩;have s6:=aj.new (o:=.tup [.int 0,.int 1]) hp3;refine⟨_,rfl,le2,λp4 hp4=>?_⟩;have s7:=aj.new (o:=.tup [.int cap,.int 1]) hp4;refine⟨le2,λp5 hp5=>?_⟩;have s8:=aj.new (o:=.lst [.ref p3,.ref p4]) hp5;have s67:=s6.trans (s7.trans s8);refine⟨p2,p5,_,_,rfl,rfl,s67 _ _ ac,ac,(by show 4+2<=II;decide),λp6 hp6=>?_⟩;have s9:=aj.new (o:=.lst (Iz 4 v3++[.ref p3,.ref p4])) hp6;have g3:=s9 _ _ (s8 _ _ (s7 _ _ (ac (H:=upd (upd H3 p1 (.lst [v3])) p2 (.lst (Iz 4 v3))) (a:=p3) (o:=.tup [.int 0,.int 1]))));have g4:=s9 _ _ (s8 _ _ (ac (H:=upd (upd (upd H3 p1 (.lst [v3])) p2 (.lst (Iz 4 v3))) p3 (.tup [.int 0,.int 1])) (a:=p4) (o:=.tup [.int cap,.int 1])));have sA:aj H3 _:=((s4.trans s5).trans s67).trans s9;have hv:=IsD.same sA hv3;have twA:=(tw2.same s3).same sA;have n6:p6∉[t,r]:=((tw2.same s3).same ((s4.trans s5).trans s67)).not hp6;have mvA:=(mv1.trans mv2).trans (Mv.of (s3.trans sA));have gA:upd (upd (upd (upd (upd (upd H3 p1 (.lst [v3])) p2 (.lst (Iz 4 v3))) p3 (.tup [.int 0,.int 1])) p4 (.tup [.int cap,.int 1])) p5 (.lst [.ref p3,.ref p4])) p6 (.lst (Iz 4 v3++[.ref p3,.ref p4])) p6=some (.lst (Iz 4 v3++[.ref p3,.ref p4])):=ac;generalize upd (upd (upd (upd (upd (upd H3 p1 (.lst [v3])) p2 (.lst (Iz 4 v3))) p3 (.tup [.int 0,.int 1])) p4 (.tup [.int cap,.int 1])) p5 (.lst [.ref p3,.ref p4])) p6 (.lst (Iz 4 v3++[.ref p3,.ref p4]))=GA at g3 g4 sA hv twA mvA gA ⊢;refine⟨t,r,p6,_,rfl,twA,gA,λz=>n6 (by simp[z]),λz=>n6 (by simp[z]),by simp,by show 6<=1000;decide,λj v H7 hj tw7 mv7=>?_⟩;have one:∀ {n:Int}{a:Iv},GA a=some (.tup [.int n,.int 1])->IsD K GA (rD (n:Rat)) (.ref a):=λ{n a} h=>by rw[rn];exact nj h
  obtain⟨z,hz,z0,z1,bz⟩:∃ z:Rat,IsD K GA (rD z) v/\0<=z/\z<=(cap:Rat)/\Bq 17 z:=by
   have cp:(0:Rat)<=(cap:Rat):=Nx.mpr (by omega)
   match j,hj with
   |0,hj=>cases hj;exact⟨_,hv,q0,q1,bq⟩
   |1,hj=>cases hj;exact⟨_,hv,q0,q1,bq⟩
   |2,hj=>cases hj;exact⟨_,hv,q0,q1,bq⟩
   |3,hj=>cases hj;exact⟨_,hv,q0,q1,bq⟩
   |4,hj=>cases hj;exact⟨_,one g3,Oe,cp,(lB (n:=0) (k:=17) (by unfold Sm;decide) (by decide))⟩
   |5,hj=>cases hj;exact⟨_,one g4,cp,Oe,(lB (GZ (by omega) c1) (by decide)).mono (by decide)⟩
  exact q v z H7 (IsD.mv mv7 twA.lists rfl hz) z0 z1 bz tw7 (mvA.trans mv7)
theorem qE:am ["_law_town_here","_law_cap"] ["_law_town_here","_law_cap"] (ag iJ):=scM
def qJ (K:Ia):Sp:=λvs H Q _=>∃ (t r:Iv) (cap:Int),vs=[.ref t,.int cap]/\c_ H t r/\0<cap/\cap<=1000 /\
 ∀ (v:V) (c:Q3) (H':Hp),IsD K H' c.col v->c.Wi cap->c.Bd 17->c_ H' t r->Mv [t,r] H H'->Q v H'
theorem qG (T:Glo K mg w):Cal P w K mg base CX0 4 "_law_three" ["_law_town_here","_law_cap"] [] (qJ K):=by
 refine T.x2t.cal qE (λvs H Q E h=>?_) (λf cdv A outer s H vs Q E hr h=>?_)
 ·obtain⟨t,r,cap,rfl,_⟩:=h;rfl
 ·obtain⟨t,r,cap,rfl,tw,c0,c1,q⟩:=h;refine⟨_,(WSs.go (ab (a_ (aU eE (ae aK (az T) hr (aR (wpv 0) aa)) aa (aX _)) (af (ap (ar qp (aI (aO (ae aK (eW T) hr (aR (wpv 0) (wpv 1))))) aa))) aE)
   (af (ap (aI (ai (ae aK (eW T) hr (aR (wpv 0) (wpv 1))) (ai (ae aK (eW T) hr (aR (wpv 0) (wpv 1))) (ai (ae aK (eW T) hr (aR (wpv 0) (wpv 1))) aN)))))))),?_⟩
  refine⟨_,rfl,t,r,6,rfl,tw,by decide,by unfold Sm;decide,λd H1 d0 d1 tw1 mv1=>⟨_,_,rfl,rfl,_,rfl,?_⟩⟩;refine lF (λ_=>?_) (λ_=>?_)
  ·refine⟨_,rfl,_,rfl,t,r,cap,rfl,tw1,c0,c1,λv z H2 hv z0 z1 bz tw2 mv2=>⟨le1,λp hp=>?_⟩⟩;have s3:=aj.new (o:=.tup [v]) hp;refine⟨p,_,rfl,rfl,ac,λp2 hp2=>?_⟩;have s4:=aj.new (o:=.tup [v,v,v]) hp2;have hv:=IsD.same (s3.trans s4) hv;exact q _ ⟨z,z,z⟩ _ (.tup ac (.cons hv (.cons hv (.cons hv .nil)))) ⟨z0,z1,z0,z1,z0,z1⟩ ⟨bz,bz,bz⟩ (tw2.same (s3.trans s4)) ((mv1.trans mv2).trans (Mv.of (s3.trans s4)))
  ·refine⟨_,rfl,_,rfl,t,r,cap,rfl,tw1,c0,c1,λv1 z1 H2 hv1 a0 a1 ba tw2 mv2=>?_⟩;refine⟨_,rfl,_,rfl,t,r,cap,rfl,tw2,c0,c1,λv2 z2 H3 hv2 b0 b1 bb tw3 mv3=>?_⟩;refine⟨_,rfl,_,rfl,t,r,cap,rfl,tw3,c0,c1,λv3 z3 H4 hv3 k0 k1 bk tw4 mv4=>⟨le3,λp hp=>?_⟩⟩;have s:=aj.new (o:=.tup [v1,v2,v3]) hp;exact q _ ⟨z1,z2,z3⟩ _ (IsD.tupN hp (.cons (IsD.mv (mv3.trans mv4) tw2.lists rfl hv1) (.cons (IsD.mv mv4 tw3.lists rfl hv2) (.cons hv3 .nil)))) ⟨a0,a1,b0,b1,k0,k1⟩ ⟨ba,bb,bk⟩ (tw4.same s) ((((mv1.trans mv2).trans mv3).trans mv4).trans (Mv.of s))
theorem lV:am ["_law_thing"] ["_law_thing"] (ag fI):=scM
def lM (K:Ia):Sp:=λvs H Q _=>∃ x n d,vs=[x]/\IsD K H (shD n d) x/\Ok 8000 n d/\∀ H',aj H H'->Q (.bl true) H'
theorem lX (T:Glo K mg w):Cal P w K mg base CX0 2 "_law_is_share" ["_law_thing"] [] (lM K):=by
 refine T.x2u.cal lV (λvs H Q E h=>?_) (λf cdv A outer s H vs Q E hr h=>?_)
 ·obtain⟨x,n,d,rfl,_⟩:=h;rfl
 ·obtain⟨x,n,d,rfl,hx,ox,q⟩:=h;obtain⟨a,rfl,ha⟩:=bn hx;refine⟨_,(WSs.go (ab (a_ (WW.pt (eI (aV (aS (aq (lS (K:=K) rfl) (by rfl) T.x3 aA (aR (wpv 0) (bO (v:=.ty "tuple") rfl T.x1 be rfl))))) (eI (aU nh (aq (h_ (K:=K) rfl) (by rfl) T.x2 df (aO (wpv 0))) aa (aX _)) (eI (aV (aS (ae aK (kq T) hr (aO (ak K (wpv 0) aa))))) (dD (aV (aS (ae aK (kq T) hr (aO (ak K (wpv 0) aa)))))))))) (af (ap iX)) aE)
   (af (ap (c7 (bM wL (ak K (wpv 0) aa) aa (aX _)) (fq (bM (AA (K:=K) rfl hr.units) (ae aK (cZ T) hr (aR (ak K (wpv 0) aa) (ak K (wpv 0) aa))) (wpv 0) (aX _)))))))),?_⟩
  refine⟨_,rfl,_,_,_,true,rfl,.tup ha,by decide +kernel,_,rfl,cQ ?_⟩;refine⟨_,rfl,a,_,rfl,.inr (SqT.of ha),_,_,rfl,rfl,_,rfl,cQ ?_⟩;refine⟨_,rfl,dH ha ⟨_,_,rfl,.int n,_,rfl,cQ ?_⟩⟩;refine⟨_,rfl,cE ha ⟨_,_,rfl,.int d,_,rfl,cQ ?_⟩⟩;refine⟨_,rfl,cE ha ⟨_,_,rfl,rfl,_,rfl,?_⟩⟩;rw[Ir ox.pos];refine bQ ⟨_,rfl,dH ha ⟨_,rfl,cE ha ⟨n,d,rfl,ox.ne,ox.sd,λv m e H1 s1 hv lw=>?_⟩⟩⟩;refine⟨_,rfl,_,_,hv,IsD.same s1 hx,rfl,rfl,?_⟩;rw[uz (kZ ox.ne lw (Bm ox.pos ox.co))];exact q _ s1
theorem l9:am ["_law_thing"] ["_law_thing"] (ag fE):=scM
def lU (K:Ia):Sp:=λvs H Q _=>∃ (x:V) (c:Q3),vs=[x]/\IsD K H c.col x/\c.Bd 3900/\∀ H',aj H H'->Q (.bl true) H'
theorem l6 (T:Glo K mg w):Cal P w K mg base CX0 3 "_law_is_three" ["_law_thing"] [] (lU K):=by
 refine T.x2v.cal l9 (λvs H Q E h=>?_) (λf cdv A outer s H vs Q E hr h=>?_)
 ·obtain⟨x,c,rfl,_⟩:=h;rfl
 ·obtain⟨x,c,rfl,hx,bc,q⟩:=h;refine⟨_,(WSs.go (af (ap (c7 (aq (lS (K:=K) rfl) (by rfl) T.x3 aA (aR (wpv 0) (bO (v:=.ty "tuple") rfl T.x1 be rfl))) (c7 (bM eE (aq (h_ (K:=K) rfl) (by rfl) T.x2 df (aO (wpv 0))) aa (aX _)) (fq (bM (AA (K:=K) rfl hr.units) (ax ["_law_one"] [] [] 1 (bh (K:=K) rfl (wpv 0)) (λnd=>(ah 0 nd)) (vK (aV (aS (ae aK (lX T) hr (aO (wpv 0)))))) (wpv 0)) (ce aN) (aX _)))))))),?_⟩;refine⟨_,rfl,_,_,_,true,rfl,hx.ty,(show jC "tuple" "tuple"=some true by decide +kernel),_,rfl,bQ ?_⟩;obtain⟨a,xs,rfl,ha,hds⟩:=aH (b:=false) hx;have hl:=hds.length;refine⟨_,rfl,a,_,rfl,nO ha,_,_,rfl,rfl,true,nr (by rw[<- hl];rfl),bQ ?_⟩;refine⟨_,rfl,a,false,rfl,⟨_,ha⟩,zi ha hds (by show 3<=1000;decide) (λi d u H2 hd s2 hu Y S hS=>?_) (λH2 s2 D hD=>?_)⟩
  ·rcases at3 hd with ⟨rfl,rfl⟩|⟨rfl,rfl⟩|⟨rfl,rfl⟩
   ·exact⟨_,rfl,u,_,_,rfl,hu,bc.a.mono (by decide),λH' s'=>⟨_,rfl,cQ (hS _ s')⟩⟩
   ·exact⟨_,rfl,u,_,_,rfl,hu,bc.b.mono (by decide),λH' s'=>⟨_,rfl,cQ (hS _ s')⟩⟩
   ·exact⟨_,rfl,u,_,_,rfl,hu,bc.c.mono (by decide),λH' s'=>⟨_,rfl,cQ (hS _ s')⟩⟩
  ·refine⟨by decide,λp hp=>⟨.list [],.list [],IsD.same (aj.new hp) (IsD.listN hD .nil),IsD.listN hp .nil,rfl,rfl,?_⟩⟩;exact q _ ((s2.trans (aj.new hD)).trans (aj.new hp))
theorem bH:am ["_law_town_here","_law_last","_law_cap","_law_climbs","_law_size","_law_places","_law_values"] ["_law_town_here","_law_last","_law_cap","_law_climbs"] (ag gK):=scM
def oY (K:Ia):Sp:=λvs H Q _=>∃ (t r:Iv) (last cap:Int) (c:Bool),vs=[.ref t,.int last,.int cap,.bl c]/\c_ H t r/\1<=last/\last<=1000/\1<=cap/\cap<=1000 /\
 ∀ (D:Iv) (ps:List Pt) (z:Pt) (xs:List V) (H':Hp),H' D=some (.lst xs)->aD K H' (ps.map ptD) xs->Pts ps->ps.getLast?=some z->z.1=last->z.2<=cap->D∉[t,r]->c_ H' t r->Mv [t,r] H H'->Q (.ref D) H'
theorem oV (T:Glo K mg w):Cal P w K mg base CX0 2 "_law_points" ["_law_town_here","_law_last","_law_cap","_law_climbs"] [] (oY K):=by
 refine T.x2w.cal bH (λvs H Q E h=>?_) (λf cdv A outer s H vs Q E hr h=>?_)
 ·obtain⟨t,r,last,cap,c,rfl,_⟩:=h;rfl
 ·obtain⟨t,r,last,cap,c,rfl,tw,l1,l2,c1,c2,q⟩:=h;refine⟨_,(WSs.go (ab (au 4 bH.nd (ar cP aa (ae aK (az T) hr (aR (wpv 0) aa))))
   (ab (au 5 bH.nd (mC (K:=K) rfl rfl (by rfl) T.xf (by rfl) T.xl (aO (ar zS (ce (aR aa (wpv 1))) (ax ["_law_k"] ["_law_town_here","_law_last"] [0,1] 1 (aM rfl T.x0 (aO (wpv 4))) (λnd=>(ah 0 nd)) aw (ae aK (az T) hr (aR (wpv 1) (ar cP (wpv 2) aa))))))))
   (ab (au 6 bH.nd (aq (B2 (K:=K) rfl) (by rfl) T.xf nH (aO (ax ["_law_k"] ["_law_town_here","_law_cap"] [0,2] 1 (aM rfl T.x0 (aO (aq (h_ (K:=K) rfl) (by rfl) T.x2 df (aO (wpv 5))))) (λnd=>(ah 0 nd)) aw (ae aK (az T) hr (aR (wpv 1) (ar cP (wpv 2) aa)))))))
   (ab (a_ (aS (wpv 3)) (ab (au 6 bH.nd (ax ["_law_k"] ["_law_cap","_law_values"] [2,6] 1 (aM rfl T.x0 (aO (aq (h_ (K:=K) rfl) (by rfl) T.x2 df (aO (wpv 5))))) (λnd=>(ah 0 nd)) aw (aq (iG rfl) (by rfl) T.xc tK (aR (wpv 1) (ar cP (ak K (wpv 2) (wpv 0)) (wpv 0))))))
   (ab (au 6 bH.nd (mC (K:=K) rfl rfl (by rfl) T.xf (by rfl) T.xl (aO (wpv 6))))
   (ab (au 5 bH.nd (iy (aU wL (aq (h_ (K:=K) rfl) (by rfl) T.x2 df (aO (wpv 6))) aa (aX _)) (ar zS (rX (Hh (K:=K) rfl) (wpv 5) vA (vM (ar cS (aq (h_ (K:=K) rfl) (by rfl) T.x2 df (aO (wpv 6))) aa))) (ce (aO (wpv 1)))) (ce (aR aa (wpv 1)))))
   (af (au 6 bH.nd (iy (aU wL (aq (h_ (K:=K) rfl) (by rfl) T.x2 df (aO (wpv 6))) aa (aX _)) (wpv 6) (ce (aR aa (wpv 2))))))))) aE)
   (af (ap (ax ["_law_k"] ["_law_places","_law_values"] [5,6] 1 (aM rfl T.x0 (aO (aq (h_ (K:=K) rfl) (by rfl) T.x2 df (aO (wpv 5))))) (λnd=>(ah 0 nd)) aw (aI (aR (ak K (wpv 1) (wpv 0)) (ak K (wpv 2) (wpv 0)))))))))))),?_⟩
  have s64:∀ {n:Int},0<n->n<100000->Sm 8000 n:=λh1 h2=>Sm.mono (k:=20) (by unfold Sm;omega) (by decide)
  refine⟨_,rfl,t,r,5,rfl,tw,by decide,s64 (by decide) (by decide),λd H1 d0 d1 tw1 mv1=>⟨_,_,rfl,rfl,?_⟩⟩;refine⟨_,rfl,le2,λp hp=>?_⟩;generalize e0:upd H1 p _=H2;have sp:=tT hp e0;have gp:=mf e0;have np:=tw1.not hp;have tw2:=tw1.same sp;have mv2:=mv1.trans (Mv.of sp);refine⟨_,rfl,_,rfl,by omega,by omega,mz (t:=t) (r:=r) (lo:=0) (m:=last) tw2 (by omega) (λi H3 hi tw3 mv3 R kk S=>?_) (λks H3 hk hP tw3 mv3 D hD=>?_)⟩
  ·exact bQ (B:=S H3) ⟨_,rfl,_,rfl,_,_,rfl,rfl,t,r,_,rfl,tw3,by omega,s64 (by omega) (by omega),λd3 H4 a3 b3 tw4 mv4=>kk _ _ ⟨d3,rfl,a3,by omega,tw4,mv4⟩⟩
  generalize e0:upd H3 D _=H4;have sD:=tT hD e0;have gD:=mf e0;have tw4:=tw3.same sD;have mv4:=(mv2.trans mv3).trans (Mv.of sD);have gp4:=sD _ _ (mv3 _ _ gp np);have hk':ks.length<=6:=by omega
  refine⟨p,D,_,_,rfl,rfl,gp4,gD,by rw[Ij,JK];simp;omega,λp5 hp5=>?_⟩;have s5:aj H4 (upd H4 p5 (.lst ([.int 0,.int last]++ks.map V.int))):=aj.new hp5;have g5:upd H4 p5 (.lst ([.int 0,.int last]++ks.map V.int)) p5=some (.lst (([0,last]++ks).map V.int)):=by rw[ac,JM];rfl
  have tw5:=tw4.same s5;have mv5:=mv4.trans (Mv.of s5);generalize upd H4 p5 (.lst ([.int 0,.int last]++ks.map V.int))=H5 at s5 g5 tw5 mv5 ⊢;refine⟨p5,[0,last]++ks,rfl,SqL.of g5,by simp;omega,λL ns hL up mem len=>?_⟩;have pl:Pl last ns:=Gs l1 up ((mem 0).mpr (by simp)) ((mem last).mpr (by simp)) (λx hx=>by
   have:=(mem x).mp hx;simp only[Jb,Iy,IW,KS] at this;rcases this with (e|e)|e
   ·omega
   ·omega
   ·exact hP x e) (by simp at len;omega)
  have few8:ns.length<=8:=by simp at len;omega
  generalize e0:upd H5 L _=H6;have s6:=tT hL e0;have g6:=mf e0;have nL:=tw5.not hL;have tw6:=tw5.same s6;have mv6:=mv5.trans (Mv.of s6);have two:=pl.two;have len6:(ns.map V.int).length=ns.length:=Ij _;refine⟨_,rfl,L,_,rfl,.inl (SqL.of g6),_,rfl,by omega,by omega,mz (t:=t) (r:=r) (lo:=0) (m:=cap) tw6 (by omega) (λi H7 hi tw7 mv7 R kk S=>?_) (λvs H7 hv iv tw7 mv7 D7 hD7=>?_)⟩
  ·exact bQ (B:=S H7) ⟨_,rfl,_,rfl,_,_,rfl,rfl,t,r,_,rfl,tw7,by omega,s64 (by omega) (by omega),λd3 H4 a3 b3 tw4 mv4=>kk _ _ ⟨d3,rfl,a3,by omega,tw4,mv4⟩⟩
  have hv:vs.length=ns.length:=by omega
  generalize e0:upd H7 D7 _=H8;have s8:=tT hD7 e0;have g8:=mf e0;have tw8:=tw7.same s8;have mv8:=(mv6.trans mv7).trans (Mv.of s8);have gL8:=s8 _ _ (mv7 _ _ g6 nL);refine⟨D7,vs,rfl,SqL.of g8,by omega,λL9 ws hL9 up9 pe9=>?_⟩;have lw:ws.length=ns.length:=by rw[pe9.length_eq];exact hv
  have iw:∀ x∈ws,0<=x/\x<=cap:=λx hx=>iv x (pe9.mem_iff.mp hx)
  generalize e0:upd H8 L9 _=H9;have s9:=tT hL9 e0;have g9:=mf e0;have nL9:=tw8.not hL9;have tw9:=tw8.same s9;have mv9:=mv8.trans (Mv.of s9);have gL9:=s9 _ _ gL8;have out:∀ (ps:List Pt) (z:Pt) (G:Hp) (ys:List V) (D:Iv),Pts ps->ps.getLast?=some z->z.1=last->z.2<=cap->c_ G t r->Mv [t,r] H G->aD K G (ps.map ptD) ys->G D=none->Q (.ref D) (upd G D (.lst ys)):=
   λps z G ys D h1 h2 h3 h4 twG mvG hys hD=>q D ps z ys _ ac (aD.same (aj.new hD) hys) h1 h2 h3 h4 (twG.not hD) (twG.same (aj.new hD)) (mvG.trans (Mv.of (aj.new hD)))
  refine⟨_,rfl,_,rfl,?_⟩;refine lF (λhc=>?_) (λhc=>?_)
  ·let cl:List Int:=(Ko ns.length).map λk:Nat=>if ws.getD k 0+(k:Int)<cap then ws.getD k 0+(k:Int) else cap
   have icl:∀ x∈cl,0<=x/\x<=cap:=λx hx=>by
    obtain⟨k,hk,rfl⟩:=Js.mp hx;rw[KJ] at hk;have:ws.getD k 0=ws[k]:=by simp[List.getD,show k<ws.length by omega]
    have:=iw ws[k] (KE _)
    split<;>omega
   have lcl:cl.length=ns.length:=by simp[cl]
   refine⟨_,rfl,L,_,rfl,.inl (SqL.of gL9),_,rfl,by omega,by omega,c5 (K:=K) (lo:=0) (ds:=cl.map KM) (by rw[Ij,lcl];omega) (by omega) (λi d G hd sG R kk S=>?_) (λys G sG hys D hD=>?_)⟩
   ·rw[Ix] at hd;obtain⟨m,em,rfl⟩:=IG.mp hd;have hi:i<ns.length:=by have:=(Iu.mp em).1;omega
    have em':m=if ws.getD i 0+(i:Int)<cap then ws.getD i 0+(i:Int) else cap:=by
     simp only[cl,Ix,List.getElem?_range hi,QJ,Qd] at em;exact em.symm
    have ew:(ws.map V.int)[i]?=some (.int (ws.getD i 0)):=by simp[List.getD,show i<ws.length by omega]
    exact bQ (B:=S G) ⟨_,rfl,_,rfl,_,rfl,ixL (sG _ _ g9) (j:=i) ew (by omega) ⟨_,rfl,_,_,rfl,rfl,_,_,rfl,kk _ _ ⟨aj.refl _,by rw[em',L'];exact .int _⟩⟩⟩
   cases ym hys;have s10:aj H9 (upd G D (.lst (cl.map V.int))):=sG.trans (aj.new hD);have g10:upd G D (.lst (cl.map V.int)) D=some (.lst (cl.map V.int)):=ac;clear hys;generalize upd G D (.lst (cl.map V.int))=G at s10 g10 ⊢;refine⟨_,rfl,D,cl,rfl,SqL.of g10,by omega,λL2 us hL2 up2 mem2 len2=>?_⟩;have iu:∀ x∈us,0<=x/\x<=cap:=λx hx=>icl x ((mem2 x).mp hx)
   have s11:aj H9 (upd G L2 (.lst (us.map V.int))):=s10.trans (aj.new hL2);have g11:upd G L2 (.lst (us.map V.int)) L2=some (.lst (us.map V.int)):=ac;generalize upd G L2 (.lst (us.map V.int))=G at s11 g11 ⊢;have lu:(us.map V.int).length=us.length:=Ij _;have gL11:=s11 _ _ gL9;refine⟨_,rfl,L2,_,rfl,.inl (SqL.of g11),_,_,rfl,rfl,_,rfl,?_⟩
   by_cases hu:1<us.length
   ·rw[Ir (show((us.map V.int).length:Int)>1 by omega)];refine bQ ?_;refine⟨_,rfl,_,rfl,L2,_,rfl,.inl (SqL.of g11),_,_,rfl,rfl,_,rfl,L,_,rfl,SqL.of gL11,λp1 hp1=>⟨_,rfl,le1,λp2 hp2=>?_⟩⟩;rw[lu,B3 (ns.map V.int) us.length (by omega),<- List.map_take] at hp2 ⊢;have s12:aj G (upd (upd G p1 (.lst ((ns.take (us.length-1)).map V.int))) p2 (.lst [.int last])):=(aj.new hp1).trans (aj.new hp2);have ga:upd (upd G p1 (.lst ((ns.take (us.length-1)).map V.int))) p2 (.lst [.int last]) p1=some (.lst ((ns.take (us.length-1)).map V.int)):=aj.new hp2 _ _ ac;have gb:upd (upd G p1 (.lst ((ns.take (us.length-1)).map V.int))) p2 (.lst [.int last]) p2=some (.lst [.int last]):=ac;generalize upd (upd G p1 (.lst ((ns.take (us.length-1)).map V.int))) p2 (.lst [.int last])=G2 at s12 ga gb ⊢;refine⟨p1,p2,_,_,rfl,rfl,ga,gb,by rw[Ij,IZ,JK];simp;omega,λp3 hp3=>?_⟩;rw[show(ns.take (us.length-1)).map V.int++[V.int last]=(ns.take (us.length-1)++[last]).map V.int by simp];obtain⟨pl2,len2'⟩:=Fh pl hu (by omega);generalize ns.take (us.length-1)++[last]=ms at pl2 len2' ⊢;have s13:aj H9 (upd G2 p3 (.lst (ms.map V.int))):=(s11.trans s12).trans (aj.new hp3);have g13:upd G2 p3 (.lst (ms.map V.int)) p3=some (.lst (ms.map V.int)):=ac;have gu13:upd G2 p3 (.lst (ms.map V.int)) L2=some (.lst (us.map V.int)):=aj.new hp3 _ _ (s12 _ _ g11);generalize upd G2 p3 (.lst (ms.map V.int))=G3 at s13 g13 gu13 ⊢;have lm:(ms.map V.int).length=ms.length:=Ij _;refine⟨_,rfl,L2,_,rfl,.inl (SqL.of gu13),_,_,rfl,rfl,_,rfl,?_⟩;rw[Ir (show((us.map V.int).length:Int)>1 by omega)];refine bQ ⟨_,rfl,?_⟩;obtain⟨hp1,z,hz,ez⟩:=zd pl2 l2 (up2.imp (λh=>OD h)) (λx hx=>by have:=iu x hx;omega) (by omega);have lz:(ms.zip us).length=ms.length:=by rw[Na];omega
    refine⟨_,rfl,p3,_,rfl,.inl (SqL.of g13),_,rfl,by omega,by omega,c5 (K:=K) (lo:=0) (ds:=(ms.zip us).map ptD) (by rw[Ij];omega) (by omega) (λi d G' hd sG R kk S=>?_) (λys G' sG hys D hD=>?_)⟩
    ·rw[Ix] at hd;obtain⟨pt,ept,rfl⟩:=IG.mp hd;obtain⟨ea,eb⟩:=Jk.mp ept;exact bQ (B:=S G') ⟨_,rfl,_,rfl,ixL (sG _ _ g13) (j:=i) (v:=.int pt.1) (by rw[Ix,ea];rfl) (by omega) ⟨_,rfl,_,rfl,ixL (sG _ _ gu13) (j:=i) (v:=.int pt.2) (by rw[Ix,eb];rfl) (by omega) ⟨le2,λp hp=>kk _ _ ⟨aj.new hp,IsD.tupN hp (.cons (.int _) (.cons (.int _) .nil))⟩⟩⟩⟩
    ·exact out _ z G' ys D hp1 hz ez (iu z.2 (Ld (K8 hz)).2).2 ((tw9.same s13).same sG) ((mv9.trans (Mv.of s13)).trans (Mv.of sG)) hys hD
   ·rw[Jd (show ¬ ((us.map V.int).length:Int)>1 by omega)];refine cQ ⟨_,rfl,le2,λp1 hp1=>?_⟩;have s12:aj H9 (upd G p1 (.lst [.int 0,.int last])):=s11.trans (aj.new hp1);have g12:upd G p1 (.lst [.int 0,.int last]) p1=some (.lst ([0,last].map V.int)):=ac;have gu12:upd G p1 (.lst [.int 0,.int last]) L2=some (.lst (us.map V.int)):=aj.new hp1 _ _ g11;generalize upd G p1 (.lst [.int 0,.int last])=G2 at s12 g12 gu12 ⊢;refine⟨_,rfl,L2,_,rfl,.inl (SqL.of gu12),_,_,rfl,rfl,_,rfl,?_⟩;rw[Jd (show ¬ ((us.map V.int).length:Int)>1 by omega)];refine cQ ⟨_,rfl,le2,λp2 hp2=>?_⟩;have s13:aj H9 (upd G2 p2 (.lst [.int 0,.int cap])):=s12.trans (aj.new hp2);have g13:upd G2 p2 (.lst [.int 0,.int cap]) p1=some (.lst ([0,last].map V.int)):=aj.new hp2 _ _ g12;have gu13:upd G2 p2 (.lst [.int 0,.int cap]) p2=some (.lst ([0,cap].map V.int)):=ac;generalize upd G2 p2 (.lst [.int 0,.int cap])=G3 at s13 g13 gu13 ⊢;have lm:([0,last].map V.int).length=2:=rfl;have lm2:[0,last].length=2:=rfl;have lm3:[0,cap].length=2:=rfl;obtain⟨hp1,z,hz,ez⟩:=zd (Es l1) l2 (show[0,cap].Pairwise (·<=·) by simp;omega) (λx hx=>by simp at hx;omega) rfl;have lz:([0,last].zip [0,cap]).length=[0,last].length:=by rw[Na];omega
    refine⟨_,rfl,p1,_,rfl,.inl (SqL.of g13),_,rfl,by omega,by omega,c5 (K:=K) (lo:=0) (ds:=([0,last].zip [0,cap]).map ptD) (by rw[Ij];omega) (by omega) (λi d G' hd sG R kk S=>?_) (λys G' sG hys D hD=>?_)⟩
    ·rw[Ix] at hd;obtain⟨pt,ept,rfl⟩:=IG.mp hd;obtain⟨ea,eb⟩:=Jk.mp ept;exact bQ (B:=S G') ⟨_,rfl,_,rfl,ixL (sG _ _ g13) (j:=i) (v:=.int pt.1) (by rw[Ix,ea];rfl) (by omega) ⟨_,rfl,_,rfl,ixL (sG _ _ gu13) (j:=i) (v:=.int pt.2) (by rw[Ix,eb];rfl) (by omega) ⟨le2,λp hp=>kk _ _ ⟨aj.new hp,IsD.tupN hp (.cons (.int _) (.cons (.int _) .nil))⟩⟩⟩⟩
    ·exact out _ z G' ys D hp1 hz ez (by have m:=(Ld (K8 hz)).2;simp at m;omega) ((tw9.same s13).same sG) ((mv9.trans (Mv.of s13)).trans (Mv.of sG)) hys hD
  ·obtain⟨hp1,z,hz,ez⟩:=zd pl l2 up9 (λx hx=>by have:=iw x hx;omega) lw;have lz:(ns.zip ws).length=ns.length:=by rw[Na];omega
   refine⟨_,rfl,L,_,rfl,.inl (SqL.of gL9),_,rfl,by omega,by omega,c5 (K:=K) (lo:=0) (ds:=(ns.zip ws).map ptD) (by rw[Ij];omega) (by omega) (λi d G hd sG R kk S=>?_) (λys G sG hys D hD=>?_)⟩
   ·rw[Ix] at hd;obtain⟨pt,ept,rfl⟩:=IG.mp hd;obtain⟨ea,eb⟩:=Jk.mp ept;exact bQ (B:=S G) ⟨_,rfl,_,rfl,ixL (sG _ _ gL9) (j:=i) (v:=.int pt.1) (by rw[Ix,ea];rfl) (by omega) ⟨_,rfl,_,rfl,ixL (sG _ _ g9) (j:=i) (v:=.int pt.2) (by rw[Ix,eb];rfl) (by omega) ⟨le2,λp hp=>kk _ _ ⟨aj.new hp,IsD.tupN hp (.cons (.int _) (.cons (.int _) .nil))⟩⟩⟩⟩
   ·exact out _ z G ys D hp1 hz ez (iw z.2 (Ld (K8 hz)).2).2 (tw9.same sG) (mv9.trans (Mv.of sG)) hys hD
theorem eh:am ["_law_town_here","_law_kind","_law_first","_law_cap"] ["_law_town_here"] (ag gR):=scM
def og (K:Ia):Sp:=λvs H Q _=>∃ (t r:Iv),vs=[.ref t]/\c_ H t r /\
 ∀ (v:V) (s:S9) (H':Hp),IsD K (cut [t,r] H') s.d v->s.In->c_ H' t r->Mv [t,r] H H'->Q v H'
def in4 (d:IV):Prop:=∃ i:Int,d=.int i/\-4000<=i/\i<=4000
theorem CK {ds:List IV}(hl:ds.length=3)(h:∀ d∈ds,in4 d):∃ r:R3,ds=r.ds/\r.In 4000:=by
 match ds,hl,h with
 |[x,y,z],_,h=>
  obtain⟨a,rfl,a1,a2⟩:=h x (by simp);obtain⟨b,rfl,b1,b2⟩:=h y (by simp);obtain⟨c,rfl,c1,c2⟩:=h z (by simp);exact⟨⟨a,b,c⟩,rfl,a1,a2,b1,b2,c1,c2⟩
theorem oF (T:Glo K mg w):Cal P w K mg base CX0 3 "_law_square" ["_law_town_here"] [] (og K):=by
 refine T.x2x.cal eh (λvs H Q E h=>?_) (λf cdv A outer s H vs Q E hr h=>?_)
 ·obtain⟨t,r,rfl,_⟩:=h;rfl
 ·obtain⟨t,r,rfl,tw,q⟩:=h;refine⟨_,(WSs.go (ab (au 1 eh.nd (ae aK (az T) hr (aR (wpv 0) aa)))
   (ab (a_ (aU eE (wpv 1) aa (aX _)) (af (ap (aI (ai (aI (ai aa (ai aa (ai aa aN)))) (ai (aI (ai aa (ai aa (ai aa aN)))) (ai (aI (ai aa (ai aa (ai aa aN)))) aN)))))) aE)
   (ab (a_ (aU eE (wpv 1) aa (aX _)) (ab (cB 2 ["_law_k"] ["_law_town_here"] [0] 1 eh.nd (aM rfl T.x0 (aO aa)) (λnd=>(ah 0 nd)) aw (ar cS (ae aK (az T) hr (aR (wpv 1) aa)) aa))
   (af (ap (ce (ai (wpv 2) (ai (ax ["_law_one"] [] [] 1 (bh (K:=K) rfl (wpv 2)) (λnd=>(ah 0 nd)) aw (ar aG aa (wpv 0))) (ai (ax ["_law_k"] ["_law_town_here"] [0] 1 (aM rfl T.x0 (aO aa)) (λnd=>(ah 0 nd)) aw (ae aK (az T) hr (aR (wpv 1) aa))) aN))))))) aE)
   (ab (au 3 eh.nd (ae aK (eG T) hr (aR (wpv 0) (ce (ai aa (ai aa (ai aa aN)))))))
   (af (ap (ax ["_law_j"] ["_law_town_here","_law_cap"] [0,3] 1 (aM rfl T.x0 (aO aa)) (λnd=>(ah 0 nd)) aw (ax ["_law_k"] ["_law_town_here","_law_cap"] [1,2] 1 (aM rfl T.x0 (aO aa)) (λnd=>(ah 0 nd)) aw (ar cS (ae aK (az T) hr (aR (wpv 1) (ar cP (ar aG aa (wpv 2)) aa))) (wpv 2))))))))))),?_⟩
  have s64:∀ {n:Int},0<n->n<100000->Sm 8000 n:=λh1 h2=>Sm.mono (k:=20) (by unfold Sm;omega) (by decide)
  refine⟨_,rfl,t,r,4,rfl,tw,by decide,s64 (by decide) (by decide),λd1 H1 a1 b1 tw1 mv1=>?_⟩;refine⟨_,rfl,_,_,rfl,rfl,_,rfl,?_⟩;refine lF (λ_=>?_) (λ_=>?_)
  ·refine⟨le3,λp hp=>⟨le3,λp2 hp2=>⟨le3,λp3 hp3=>⟨le3,λp4 hp4=>?_⟩⟩⟩⟩;have t1:IsD K (upd H1 p (.tup [.int 412,.int 357,.int 180])) (gE false ⟨412,357,180⟩) (.ref p):=IsD.tupN hp (.cons (.int _) (.cons (.int _) (.cons (.int _) .nil)));have sa:aj H1 (upd H1 p (.tup [.int 412,.int 357,.int 180])):=aj.new hp;generalize upd H1 p (.tup [.int 412,.int 357,.int 180])=H2 at t1 sa hp2 hp3 hp4 ⊢;have t2:IsD K (upd H2 p2 (.tup [.int 212,.int 715,.int 72])) (gE false ⟨212,715,72⟩) (.ref p2):=IsD.tupN hp2 (.cons (.int _) (.cons (.int _) (.cons (.int _) .nil)));have sb:aj H2 (upd H2 p2 (.tup [.int 212,.int 715,.int 72])):=aj.new hp2;generalize upd H2 p2 (.tup [.int 212,.int 715,.int 72])=H3 at t2 sb hp3 hp4 ⊢;have t3:IsD K (upd H3 p3 (.tup [.int 19,.int 119,.int 950])) (gE false ⟨19,119,950⟩) (.ref p3):=IsD.tupN hp3 (.cons (.int _) (.cons (.int _) (.cons (.int _) .nil)));have sc:aj H3 (upd H3 p3 (.tup [.int 19,.int 119,.int 950])):=aj.new hp3;generalize upd H3 p3 (.tup [.int 19,.int 119,.int 950])=H4 at t3 sc hp4 ⊢;have sd:aj H4 (upd H4 p4 (.tup [.ref p,.ref p2,.ref p3])):=aj.new hp4;have s4:aj H1 (upd H4 p4 (.tup [.ref p,.ref p2,.ref p3])):=(sa.trans sb).trans (sc.trans sd);have tw4:=tw1.same s4;have hh:IsD K (upd H4 p4 (.tup [.ref p,.ref p2,.ref p3])) (S9.d ⟨false,false,false,false,⟨412,357,180⟩,⟨212,715,72⟩,⟨19,119,950⟩⟩) (.ref p4):=
    IsD.tupN hp4 (.cons (IsD.same (sb.trans sc) t1) (.cons (IsD.same sc t2) (.cons t3 .nil)))
   refine q _ ⟨false,false,false,false,⟨412,357,180⟩,⟨212,715,72⟩,⟨19,119,950⟩⟩ _ (IsD.cutT tw4.lists rfl hh) ?_ tw4 (mv1.trans (Mv.of s4));exact⟨⟨by decide,by decide,by decide,by decide,by decide,by decide⟩,⟨by decide,by decide,by decide,by decide,by decide,by decide⟩,⟨by decide,by decide,by decide,by decide,by decide,by decide⟩⟩
  refine⟨_,rfl,_,_,rfl,rfl,_,rfl,?_⟩;refine lF (λ_=>?_) (λ_=>?_)
  ·refine⟨3,rfl,by decide,by decide,c8 (K:=K) (lo:=0) (n:=3) (Pd:=λd=>∃ i:Int,d=.int i/\-2000<=i/\i<=2000) tw1 (by decide) (λi H2 hi tw2 mv2 R kk S=>?_) (λds ys H2 hl hP tw2 mv2 hys D hD=>?_)⟩
   ·refine bQ (B:=S H2) ⟨_,rfl,t,r,9,rfl,tw2,by decide,s64 (by decide) (by decide),λd2 H3 a2 b2 tw3 mv3=>⟨_,_,rfl,rfl,kk _ _ ⟨tw3,mv3,.int (d2-4),⟨_,rfl,by omega,by omega⟩,.int _⟩⟩⟩
   obtain⟨r1,rfl,i1⟩:∃ r1:R3,ds=r1.ds/\r1.In 2000:=by
    match ds,hl,hP with
    |[x,y,z],_,h=>
     obtain⟨a,rfl,a1,a2⟩:=h x (by simp);obtain⟨b,rfl,b1,b2⟩:=h y (by simp);obtain⟨c,rfl,c1,c2⟩:=h z (by simp);exact⟨⟨a,b,c⟩,rfl,a1,a2,b1,b2,c1,c2⟩
   have sD:aj H2 (upd H2 D (.lst ys)):=aj.new hD;have c1:=fR tw2 hD hys;have tw3:=tw2.same sD;have mv3:=(mv1.trans mv2).trans (Mv.of sD);generalize upd H2 D (.lst ys)=H3 at sD c1 tw3 mv3 ⊢;have g1:=IsD.uncut c1;obtain⟨b,xs,eb,hb,hxs⟩:=aH (b:=true) g1;cases eb;refine⟨_,rfl,_,rfl,D,true,rfl,⟨_,hb⟩,bx (es:=(R3.mk (2*r1.a) (2*r1.b) (2*r1.c)).ds) hb hxs rfl (by show 3<=1000;decide) (λi d e u H4 hd he s4 hu R kk S=>?_) (λzs H4 s4 hzs D2 hD2=>?_)⟩
   ·refine bQ (B:=S H4) ?_;rcases at3 hd with ⟨rfl,rfl⟩|⟨rfl,rfl⟩|⟨rfl,rfl⟩<;>(cases hu;cases(Ie he);exact⟨_,rfl,_,_,rfl,rfl,.inr (by unfold Sm;decide),kk _ _ ⟨aj.refl _,.int _⟩⟩)
   have tw4:=tw3.same s4;have sD2:aj H4 (upd H4 D2 (.lst zs)):=aj.new hD2;have zz:=gC hzs;subst zz;have c2:IsD K (cut [t,r] (upd H4 D2 (.lst (R3.mk (2*r1.a) (2*r1.b) (2*r1.c)).vs))) (gE true ⟨2*r1.a,2*r1.b,2*r1.c⟩) (.ref D2):=fR tw4 hD2 (.cons (.int _) (.cons (.int _) (.cons (.int _) .nil)));have c1':=IsD.same (aj.cut (T:=[t,r]) (s4.trans sD2)) c1;have tw5:=tw4.same sD2;have mv5:=(mv3.trans (Mv.of s4)).trans (Mv.of sD2);generalize upd H4 D2 (.lst (R3.mk (2*r1.a) (2*r1.b) (2*r1.c)).vs)=H5 at c2 c1' tw5 mv5 ⊢;refine⟨3,rfl,by decide,by decide,c8 (K:=K) (lo:=0) (n:=3) (Pd:=in4) tw5 (by decide) (λi H6 hi tw6 mv6 R kk S=>?_) (λds ys H6 hl hP tw6 mv6 hys D3 hD3=>?_)⟩
   ·refine bQ (B:=S H6) ⟨_,rfl,t,r,99,rfl,tw6,by decide,s64 (by decide) (by decide),λd2 H7 a2 b2 tw7 mv7=>kk _ _ ⟨tw7,mv7,.int d2,⟨_,rfl,by omega,by omega⟩,.int _⟩⟩
   obtain⟨r3,rfl,i3⟩:=CK hl hP;have c3:=fR tw6 hD3 hys;have sD3:aj H6 (upd H6 D3 (.lst ys)):=aj.new hD3;have c1'':=IsD.same ((mv6.trans (Mv.of sD3)).cut) c1';have c2':=IsD.same ((mv6.trans (Mv.of sD3)).cut) c2;have tw7:=tw6.same sD3;have mv7:=(mv5.trans mv6).trans (Mv.of sD3);generalize upd H6 D3 (.lst ys)=H7 at c3 c1'' c2' tw7 mv7 ⊢;refine⟨le3,λL hL=>?_⟩;refine q _ ⟨true,true,true,true,r1,⟨2*r1.a,2*r1.b,2*r1.c⟩,r3⟩ _ (fR (ds:=[gE true r1,gE true ⟨2*r1.a,2*r1.b,2*r1.c⟩,gE true r3]) tw7 hL (.cons c1'' (.cons c2' (.cons c3 .nil)))) ⟨?_,?_,i3⟩ (tw7.same (aj.new hL)) (mv7.trans (Mv.of (aj.new hL)))
   ·obtain⟨a1,a2,b1,b2,c1,c2⟩:=i1;exact⟨by show -4000<=r1.a;omega,by show r1.a<=4000;omega,by show -4000<=r1.b;omega,by show r1.b<=4000;omega,by show -4000<=r1.c;omega,by show r1.c<=4000;omega⟩
   ·obtain⟨a1,a2,b1,b2,c1,c2⟩:=i1;exact⟨by show -4000<=2*r1.a;omega,by show 2*r1.a<=4000;omega,by show -4000<=2*r1.b;omega,by show 2*r1.b<=4000;omega,by show -4000<=2*r1.c;omega,by show 2*r1.c<=4000;omega⟩
  refine⟨_,rfl,le3,λp hp=>?_⟩;obtain⟨_,_,k1,k2,_⟩:=id tw1;refine⟨t,r,p,_,rfl,tw1.same (aj.new hp),ac,(aB k1 hp).symm,(aB k2 hp).symm,by simp,by decide,λi v H2 hv tw2 mv2=>?_⟩;obtain⟨cap,rfl,h1,h2⟩:∃ cap:Int,v=.int cap/\0<cap/\cap<=4000:=by
   rcases at3 hv with ⟨_,rfl⟩|⟨_,rfl⟩|⟨_,rfl⟩<;>exact⟨_,rfl,by decide,by decide⟩
  have mv2':=(mv1.trans (Mv.of (aj.new hp))).trans mv2;refine⟨3,rfl,by decide,by decide,c8 (K:=K) (lo:=0) (n:=3) (Pd:=λd=>∃ r:R3,d=gE true r/\r.In 4000) tw2 (by decide) (λi H3 hi tw3 mv3 R kk S=>?_) (λds ys H3 hl hP tw3 mv3 hys D hD=>?_)⟩
  ·refine bQ (B:=S H3) ?_;refine⟨3,rfl,by decide,by decide,c8 (K:=K) (lo:=0) (n:=3) (Pd:=in4) tw3 (by decide) (λi H4 hi tw4 mv4 R kk S=>?_) (λds ys H4 hl hP tw4 mv4 hys D hD=>?_)⟩
   ·refine bQ (B:=S H4) ⟨_,rfl,_,rfl,_,_,rfl,rfl,.inr (by unfold Sm;decide),_,_,rfl,rfl,t,r,2*cap+1,rfl,tw4,by omega,s64 (by omega) (by omega),λd2 H5 a2 b2 tw5 mv5=>⟨_,rfl,_,_,rfl,rfl,kk _ _ ⟨tw5,mv5,.int (d2-cap),⟨_,rfl,by omega,by omega⟩,.int _⟩⟩⟩
   obtain⟨r3,rfl,i3⟩:=CK hl hP;exact kk _ _ ⟨tw4.same (aj.new hD),mv4.trans (Mv.of (aj.new hD)),gE true r3,⟨_,rfl,i3⟩,fR tw4 hD hys⟩
  obtain⟨r1,r2,r3,rfl,i1,i2,i3⟩:∃ r1 r2 r3:R3,ds=[gE true r1,gE true r2,gE true r3]/\r1.In 4000/\r2.In 4000/\r3.In 4000:=by
   match ds,hl,hP with
   |[x,y,z],_,h=>
    obtain⟨a,rfl,a1⟩:=h x (by simp);obtain⟨b,rfl,b1⟩:=h y (by simp);obtain⟨c,rfl,c1⟩:=h z (by simp);exact⟨a,b,c,rfl,a1,b1,c1⟩
  exact q _ ⟨true,true,true,true,r1,r2,r3⟩ _ (fR tw3 hD hys) ⟨i1,i2,i3⟩ (tw3.same (aj.new hD)) ((mv2'.trans mv3).trans (Mv.of (aj.new hD)))
theorem dS:am ["_law_rows","_law_colour","_law_found","_law_row","_law_whole_here","_law_k"] ["_law_rows","_law_colour"] (ag kO):=scM
def ul (K:Ia):Sp:=λvs H Q _=>∃ (x y:V) (m:M9) (c:Q3),vs=[x,y]/\IsD K H m.d x/\IsD K H c.col y/\m.Bd 600/\c.Bd 600/\∀ v H',aj H H'->IsD K H' (m.led c).col v->Q v H'
theorem uZ (T:Glo K mg w):Cal P w K mg base CX0 3 "_law_led" ["_law_rows","_law_colour"] [] (ul K):=by
 refine T.x2y.cal dS (λvs H Q E h=>?_) (λf cdv A outer s H vs Q E hr h=>?_)
 ·obtain⟨x,y,m,c,rfl,_⟩:=h;rfl
 ·obtain⟨x,y,m,c,rfl,hx,hy,bm,bc,q⟩:=h;obtain⟨a,xs,rfl,ha,hxs⟩:=aH (b:=true) hx;obtain⟨b,ys,rfl,hb,hys⟩:=aH (b:=false) hy;have lx:=hxs.length;have ly:=hys.length;refine⟨_,(WSs.go (ab (au 2 dS.nd (ce aN))
   (ab (dX Jq rfl (bh (K:=K) rfl (wpv 0)) (ah 3 dS.nd) (ab (au 4 dS.nd (aI (aR aa aa)))
   (ab (dX Jq rfl (aM rfl T.x0 (aO aa)) (ah 5 dS.nd) (af (au 4 dS.nd (ae aK (lI T) hr (aR (wpv 4) (ae aK (jW T) hr (aR (ak K (wpv 3) (wpv 5)) (ak K (wpv 1) (wpv 5)))))))))
   (af (bo (pG Kd Ka KD iH (wpv 2) (aO (wpv 4))))))))
   (af (ap (aQ (dc (K:=K) rfl) (by rfl) T.x1 be (aO (wpv 2)))))))),?_⟩
  refine⟨by decide,λF hF=>?_⟩;have s0:aj H (upd H F (.lst [])):=aj.new hF;refine⟨_,rfl,a,true,rfl,⟨_,SqB.same s0 ha⟩,kU (λi σ H'=>∃ zs o3 o4 o5,σ=[some (.ref a),some (.ref b),some (.ref F),o3,o4,o5]/\aj H H'/\H' F=some (.lst zs)/\aD K H' ((m.led c).ds.take i) zs)
   ⟨[],_,_,_,rfl,s0,ac,.nil⟩ (λi σ H2 hi ⟨_,_,_,_,_,s2,_⟩=>SqB.same s2 ha) ?_ ?_⟩
  ·rintro i w σ H2 ew ⟨zs,o3,o4,o5,rfl,s2,hF2,hzs⟩;obtain⟨p,hw,bp,ep⟩:∃ p:Q3,IsD K H2 (.list p.ds) w/\p.Bd 600/\(m.led c).ds[i]?=some (rD (zr p c)):=by
    obtain⟨x0,x1,x2,rfl,g0,g1,g2⟩:=ff hxs;rcases at3 ew with ⟨rfl,rfl⟩|⟨rfl,rfl⟩|⟨rfl,rfl⟩
    ·exact⟨_,IsD.same s2 g0,bm.x,rfl⟩
    ·exact⟨_,IsD.same s2 g1,bm.y,rfl⟩
    ·exact⟨_,IsD.same s2 g2,bm.z,rfl⟩
   obtain⟨g,ws,rfl,hg,hws⟩:=aH (b:=true) hw;have lw:=hws.length;refine⟨le2,λz0 hz0=>?_⟩;have sz:aj H2 (upd H2 z0 (.tup [.int 0,.int 1])):=aj.new hz0;refine⟨3,rfl,by decide,by decide,gk (lo:=0) (n:=3) (λj σ H'=>∃ v o5,σ=[some (.ref a),some (.ref b),some (.ref F),some (.ref g),some v,o5]/\aj H2 H'/\IsD K H' (rD (prt p c j)) v)
    ⟨_,_,rfl,sz,nj ac⟩ ?_ ?_⟩
   ·rintro j σ H3 hj ⟨v,o5,rfl,s3,hv⟩;have hwj:ws[j]?=some ws[j]:=by simp[show j<ws.length by rw[<- lw];exact hj]
    have hyj:ys[j]?=some ys[j]:=by simp[show j<ys.length by rw[<- ly];exact hj]
    obtain⟨P,C,hP,hC,bP,bC,eq,bq⟩:=BH (aD.same s3 hws) (aD.same (s2.trans s3) hys) bp bc hwj hyj;have e0:(0:Int)+(j:Int)=(j:Int):=L' _;rw[e0];refine⟨_,rfl,_,rfl,_,rfl,ixB (SqB.same s3 hg) hwj ⟨_,rfl,_,rfl,ixB (SqB.same (s2.trans s3) hb) hyj ?_⟩⟩;refine⟨_,_,_,_,_,_,rfl,hP,hC,bP.mono (by decide),bC.mono (by decide),ShQ.mul λv4 H4 s4 hv4=>?_⟩;refine⟨_,_,_,_,_,_,rfl,IsD.same s4 hv,hv4,bq.mono (by decide),Ok.mono (Bq.mul bP bC) (by decide),ShQ.add λv5 H5 s5 hv5=>?_⟩;exact⟨v5,_,rfl,s3.trans (s4.trans s5),by rw[eq];exact hv5⟩
   ·rintro σ H3 ⟨v,o5,rfl,s3,hv⟩;have hF3:=s3 _ _ hF2;have hzs3:=aD.same s3 hzs;have zl:=hzs.length;rw[IZ] at zl;have li:cD H3 [F]:=λb mb=>by cases Ii.mp mb;exact⟨_,hF3⟩
    have mv:Mv [F] H3 (upd H3 F (.lst (zs++[v]))):=λb o e nb=>by rw[ao (show b≠F from λz=>nb (z▸List.mem_singleton_self _))];exact e
    have td:jN ((m.led c).ds.take i)=true:=by
     rcases at3 (show[rD (zr m.x c),rD (zr m.y c),rD (zr m.z c)][i]?=_ from ep) with ⟨rfl,_⟩|⟨rfl,_⟩|⟨rfl,_⟩<;>rfl
    refine⟨_,rfl,.inl ⟨rfl,_,SqL.of hF3⟩,_,rfl,F,zs,v,rfl,rfl,hF3,bg (by have:(m.led c).ds.length=3:=rfl;omega),?_⟩;refine⟨zs++[v],_,_,_,rfl,λb o e=>?_,ac,?_⟩
    ·have nb:b≠F:=λz=>by rw[z,hF] at e;cases e
     rw[ao nb];exact s3 _ _ (s2 _ _ e)
    ·rw[b9 ep];exact(aD.mv mv li td hzs3).snoc (IsD.mv mv li rfl hv)
  ·rintro σ H2 ⟨zs,o3,o4,o5,rfl,s2,hF2,hzs⟩;rw[<- lx] at hzs;refine⟨_,rfl,F,zs,rfl,.inl ⟨SqL.of hF2,λl hl=>?_⟩⟩;exact q _ _ (s2.trans (aj.new hl)) (IsD.tupN (ds:=(m.led c).ds) hl hzs)
theorem rJ:am ["_law_square_here"] ["_law_square_here"] (ag i9):=scM
def rE (K:Ia):Sp:=λvs H Q _=>∃ (x:V) (s:S9),vs=[x]/\IsD K H s.d x/\s.In/\∀ v H',aj H H'->IsD K H' s.m.d v->Q v H'
theorem rk (T:Glo K mg w):Cal P w K mg base CX0 2 "_law_over" ["_law_square_here"] [] (rE K):=by
 refine T.x2z.cal rJ (λvs H Q E h=>?_) (λf cdv A outer s H vs Q E hr h=>?_)
 ·obtain⟨x,sq,rfl,_⟩:=h;rfl
 ·obtain⟨x,sq,rfl,hx,hin,q⟩:=h;obtain⟨a,xs,rfl,ha,hds⟩:=aH hx;have u13:Sm 13 (1000:Int):=by unfold Sm;decide
  refine⟨_,(WSs.go (af (ap (ax ["_law_row"] [] [] 1 (bh (K:=K) rfl (wpv 0)) (λnd=>(ah 0 nd)) aw (ax ["_law_one"] [] [] 1 (bh (K:=K) rfl (wpv 0)) (λnd=>(ah 0 nd)) aw (ae aK (cZ T) hr (aR (wpv 0) aa))))))),?_⟩;have row:∀ (k:Bool) (r:R3),∀ (v:V) (H5:Hp) (Q5:VK),IsD K H5 (gE k r) v->(∀ w H',aj H5 H'->IsD K H' (.list r.q.ds) w->Q5 w H')->A8 (FZ K (yx 0)) (wM 0) Gg (wz (m_ K) [] E0 (lQ (yx 0) (lQ (tC (.int 1000)) AV))) (Cw 1 []) [some v] H5 Q5:=λk r v H5 Q5 hv hq=>by
   obtain⟨b,ys,rfl,hb,hys⟩:=aH hv;refine⟨_,rfl,b,k,rfl,⟨_,hb⟩,bx (es:=r.q.ds) hb hys rfl (by show 3<=1000;decide) (λi d e u H6 hd he s6 hu R kk S=>?_) (λzs H6 s6 hzs D hD=>hq _ _ (s6.trans (aj.new hD)) (IsD.listN hD hzs))⟩;refine bQ (B:=S H6) ?_;rcases at3 hd with ⟨rfl,rfl⟩|⟨rfl,rfl⟩|⟨rfl,rfl⟩<;>(cases hu;cases(Ie he);exact⟨_,rfl,_,_,rfl,by decide,u13.mono (by decide),ShQ.sh (by decide) λv8 H8 s8 hv8=>kk _ _ ⟨s8,hv8⟩⟩)
  refine⟨_,rfl,a,sq.k,rfl,⟨_,ha⟩,bx (es:=[.list sq.m.x.ds,.list sq.m.y.ds,.list sq.m.z.ds]) ha hds rfl (by show 3<=1000;decide) (λi d e u H5 hd he s5 hu R kk S=>?_) (λzs H5 s5 hzs D hD=>q _ _ (s5.trans (aj.new hD)) (IsD.listN hD hzs))⟩;refine bQ (B:=S H5) ?_;rcases at3 hd with ⟨rfl,rfl⟩|⟨rfl,rfl⟩|⟨rfl,rfl⟩
  ·cases(Ie he);exact row _ _ _ _ _ hu λw H' s' hw=>kk _ _ ⟨s',hw⟩
  ·cases(Ie he);exact row _ _ _ _ _ hu λw H' s' hw=>kk _ _ ⟨s',hw⟩
  ·cases(Ie he);exact row _ _ _ _ _ hu λw H' s' hw=>kk _ _ ⟨s',hw⟩
theorem bB:am ["_law_town_here","_law_size","_law_table","_law_kind","_law_rows","_law_a","_law_b","_law_c","_law_worth_here"] ["_law_town_here","_law_size"] (ag jk):=scM
def rF (K:Ia):Sp:=λvs H Q _=>∃ (t r:Iv) (n:Nat),vs=[.ref t,.int n]/\c_ H t r/\2<=n/\n<=7 /\
 ∀ (d:Iv) (f:Kn->R3) (H':Hp),GrP K H' (cw n) f d->WtB n f->c_ H' t r->Mv [t,r] H H'->H d=none->Q (.ref d) H'
structure R4 where
 w:Int
 x:Int
 y:Int
 z:Int
def R4.ds (r:R4):List IV:=[.int r.w,.int r.x,.int r.y,.int r.z]
structure R4.In (r:R4):Prop where
 w0:0<=r.w
 w1:r.w<200
 x0:0<=r.x
 x1:r.x<90
 y0:0<=r.y
 y1:r.y<90
 z0:0<=r.z
 z1:r.z<90
theorem CO {K:Ia}{H:Hp}{r:R4}{v:V}(h:IsD K H (.list r.ds) v):∃ a,v=.ref a/\SqL K H a [.int r.w,.int r.x,.int r.y,.int r.z]:=by
 obtain⟨a,xs,rfl,ha,hx⟩:=aH (b:=true) (ds:=r.ds) h;have e:xs=[r.w,r.x,r.y,r.z].map V.int:=cN (ns:=[r.w,r.x,r.y,r.z]) hx;subst e;exact⟨a,rfl,ha⟩
structure R3.Up (r:R3):Prop where
 a:0<=r.a
 b:0<=r.b
 c:0<=r.c
theorem Gn {ds:List IV}(hl:ds.length=3)(h:∀ d∈ds,∃ i:Int,d=.int i/\0<=i):∃ r:R3,ds=r.ds/\r.Up:=by
 match ds,hl,h with
 |[x,y,z],_,h=>
  obtain⟨a,rfl,a1⟩:=h x (by simp);obtain⟨b,rfl,b1⟩:=h y (by simp);obtain⟨c,rfl,c1⟩:=h z (by simp);exact⟨⟨a,b,c⟩,rfl,a1,b1,c1⟩
structure lR (K:Ia)(t r d R:Iv)(rs:IV)(H1:Hp)(ts:List Kn)(H':Hp):Prop where
 tw:c_ H' t r
 mv:Mv [t,r,d] H1 H'
 rs:IsD K (cut [t,r] H') rs (.ref R)
 gr:∃ f,GrP K H' ts f d/\∀ u∈ts,(f u).Wt
theorem lR.same {K:Ia}{t r d R:Iv}{rs:IV}{H1 H2 H3:Hp}{ts:List Kn}(h:lR K t r d R rs H1 ts H2)(s:aj H2 H3):lR K t r d R rs H1 ts H3:=
 ⟨h.tw.same s,h.mv.trans (Mv.of s),IsD.same (aj.cut s) h.rs,let ⟨f,a,b⟩:=h.gr;⟨f,a.same s,b⟩⟩
theorem lR.draw {K:Ia}{t r d R:Iv}{rs:IV}{H1 H2 H3:Hp}{ts:List Kn}(h:lR K t r d R rs H1 ts H2)(tw:c_ H3 t r)(m:Mv [t,r] H2 H3):lR K t r d R rs H1 ts H3:=
 ⟨tw,h.mv.trans m.wide,IsD.same m.cut h.rs,let ⟨f,a,b⟩:=h.gr;⟨f,a.mv m h.tw.lists,b⟩⟩
theorem t6 (T:Glo K mg w):Cal P w K mg base CX0 2 "_law_grid" ["_law_town_here","_law_size"] [] (rF K):=by
 refine T.x30.cal bB (λvs H Q E h=>?_) (λf cdv A outer s H vs Q E hr h=>?_)
 ·obtain⟨t,r,n,rfl,_⟩:=h;rfl
 ·obtain⟨t,r,n,rfl,tw,h2,h7,q⟩:=h;refine⟨_,(WSs.go (ab (au 2 bB.nd ya)
   (ab (au 3 bB.nd (ae aK (az T) hr (aR (wpv 0) aa)))
   (ab (cB 4 ["_law_k"] ["_law_town_here"] [0] 1 bB.nd (aM rfl T.x0 (aO aa)) (λnd=>(ah 0 nd)) aw (ce (ai (ae aK (az T) hr (aR (wpv 1) aa)) (ai (ae aK (az T) hr (aR (wpv 1) aa)) (ai (ae aK (az T) hr (aR (wpv 1) aa)) (ai (ae aK (az T) hr (aR (wpv 1) aa)) aN))))))
   (ab (dX Jq rfl (aM rfl T.x0 (aO (wpv 1))) (ah 5 bB.nd) (af (dX Jq rfl (aM rfl T.x0 (aO (wpv 1))) (ah 6 bB.nd) (af (dX Jq rfl (aM rfl T.x0 (aO (wpv 1))) (ah 7 bB.nd) (ab (a_ (aU eE (wpv 3) aa (aX _)) (af (cB 8 ["_law_w","_law_x","_law_y","_law_z"] ["_law_a","_law_b","_law_c"] [5,6,7] 4 bB.nd (bh (K:=K) rfl (wpv 4)) (λnd=>(CD (K:=K) (n:=4) rfl rfl (av (ah 0 nd) (av (ah 1 nd) (av (ah 2 nd) (av (ah 3 nd) bt)))))) aw (ar cP (ar cP (ar cP (wpv 0) (ar aG (wpv 1) (wpv 4))) (ar aG (wpv 2) (wpv 5))) (ar aG (wpv 3) (wpv 6))))) (af (a_ (aU eE (wpv 3) aa (aX _)) (af (cB 8 ["_law_k"] ["_law_town_here"] [0] 1 bB.nd (aM rfl T.x0 (aO aa)) (λnd=>(ah 0 nd)) aw (ae aK (az T) hr (aR (wpv 1) aa)))) (af (cB 8 ["_law_w","_law_x","_law_y","_law_z"] ["_law_a","_law_size","_law_b","_law_c"] [5,1,6,7] 4 bB.nd (bh (K:=K) rfl (wpv 4)) (λnd=>(CD (K:=K) (n:=4) rfl rfl (av (ah 0 nd) (av (ah 1 nd) (av (ah 2 nd) (av (ah 3 nd) bt)))))) aw (aq (iG rfl) (by rfl) T.xc tK (aR aa (ar cP (ar cP (ar cP (wpv 0) (ar cL (ar aG (ar aG (wpv 1) (wpv 4)) (wpv 4)) (wpv 5))) (ar aG aa (wpv 6))) (ar aG aa (wpv 7))))))))))
   (ab (a_ (WW.pt (zt (aU eE (wpv 5) (wpv 6) (aX _)) (zt (aU eE (wpv 6) (wpv 7) (aX _)) (AQ (aU eE (wpv 3) aa (aX _)))))) (af (au 8 bB.nd (ar CB (ce (aO (ak K (wpv 8) aa))) aa))) aE)
   (af (A5 hr.u1 (wpv 2) (aI (ai (wpv 5) (ai (wpv 6) (ai (wpv 7) aN)))) (aQ (dc (K:=K) rfl) (by rfl) T.x1 be (aO (ax ["_law_one"] [] [] 1 (bh (K:=K) rfl (wpv 8)) (λnd=>(ah 0 nd)) aw (aq (iG rfl) (by rfl) T.xc tK (aR aa (wpv 0)))))) rfl)))))))))
   (af (ap (wpv 2)))))))),?_⟩
  have s64:∀ {n:Int},0<n->n<100000->Sm 8000 n:=λh1 h2=>Sm.mono (k:=20) (by unfold Sm;omega) (by decide)
  refine λd hd=>?_
  have sd:aj H (upd H d (.dT [])):=aj.new hd;have tw0:=tw.same sd;have gd0:upd H d (.dT []) d=some (.dT []):=ac;generalize hH0:upd H d (.dT [])=H0 at sd tw0 gd0 ⊢;refine⟨_,rfl,t,r,3,rfl,tw0,by decide,s64 (by decide) (by decide),λkd H1 k0 k3 tw1 mv1=>?_⟩;refine⟨3,rfl,by decide,by decide,c8 (K:=K) (lo:=0) (n:=3) (Pd:=λd=>∃ r:R4,d=.list r.ds/\r.In) tw1 (by decide) (λi H2 hi tw2 mv2 R kk S=>?_) (λds ys H2 hl hP tw2 mv2 hys R hR=>?_)⟩
  ·refine bQ (B:=S H2) ⟨_,rfl,t,r,200,rfl,tw2,by decide,s64 (by decide) (by decide),λx1 H3 a1 b1 tw3 mv3=>?_⟩;refine⟨_,rfl,t,r,90,rfl,tw3,by decide,s64 (by decide) (by decide),λx2 H4 a2 b2 tw4 mv4=>?_⟩;refine⟨_,rfl,t,r,90,rfl,tw4,by decide,s64 (by decide) (by decide),λx3 H5 a3 b3 tw5 mv5=>?_⟩;refine⟨_,rfl,t,r,90,rfl,tw5,by decide,s64 (by decide) (by decide),λx4 H6 a4 b4 tw6 mv6=>⟨le4,λL hL=>?_⟩⟩;exact kk _ _ ⟨tw6.same (aj.new hL),(((mv3.trans mv4).trans mv5).trans mv6).trans (Mv.of (aj.new hL)),_,⟨⟨x1,x2,x3,x4⟩,rfl,a1,b1,a2,b2,a3,b3,a4,b4⟩,fR tw6 hL (.cons (.int _) (.cons (.int _) (.cons (.int _) (.cons (.int _) .nil))))⟩
  obtain⟨r1,r2,r3,rfl,i1,i2,i3⟩:∃ r1 r2 r3:R4,ds=[.list r1.ds,.list r2.ds,.list r3.ds]/\r1.In/\r2.In/\r3.In:=by
   match ds,hl,hP with
   |[x,y,z],_,h=>
    obtain⟨a,rfl,a1⟩:=h x (by simp);obtain⟨b,rfl,b1⟩:=h y (by simp);obtain⟨c,rfl,c1⟩:=h z (by simp);exact⟨a,b,c,rfl,a1,b1,c1⟩
  have nd:d∉[t,r]:=λm=>by
   obtain⟨xs,e⟩:=tw0.lists d m;rw[gd0] at e;cases e
  have gi0:lR K t r d R (.list [.list r1.ds,.list r2.ds,.list r3.ds]) H0 [] (upd H2 R (.lst ys)):=⟨tw2.same (aj.new hR),((mv1.trans mv2).trans (Mv.of (aj.new hR))).wide,fR tw2 hR hys,λ_=>⟨0,0,0⟩,⟨[],aj.new hR _ _ (mv2 _ _ (mv1 _ _ gd0 nd) nd),.nil⟩,λ_ m=>nomatch m⟩
  generalize upd H2 R (.lst ys)=H3 at gi0 ⊢;have lt:∀ {x:Int}{m:Nat},0<=x->x<200->m<7->Sm 64 x:=λh1 h2 _=>by unfold Sm;omega
  have inr:∀ {rr:R4},rr=r1\/rr=r2\/rr=r3->rr.In:=λh=>by rcases h with rfl|rfl|rfl<;>assumption
  refine⟨_,rfl,(n:Int),rfl,by omega,by omega,gk (lo:=0) (n:=(n:Int).toNat) (λi σ H'=>(∃ oa ob oc ow,σ=[some (.ref t),some (.int n),some (.ref d),some (.int kd),some (.ref R),oa,ob,oc,ow])/\lR K t r d R (.list [.list r1.ds,.list r2.ds,.list r3.ds]) H0 (kn1 n i) H')
   ⟨⟨_,_,_,_,rfl⟩,gi0⟩ ?_ ?_⟩
  ·rintro i σ H4 hi ⟨⟨oa,ob,oc,ow,rfl⟩,gi1⟩;have hi:i<n:=by omega
   refine⟨_,rfl,(n:Int),rfl,by omega,by omega,gk (lo:=0) (n:=(n:Int).toNat) (λj σ H'=>(∃ ob oc ow,σ=[some (.ref t),some (.int n),some (.ref d),some (.int kd),some (.ref R),some (.int (0+i)),ob,oc,ow])/\lR K t r d R (.list [.list r1.ds,.list r2.ds,.list r3.ds]) H0 (kn1 n i++kn2 n i j) H')
    ⟨⟨_,_,_,rfl⟩,by simpa [kn2] using gi1⟩ ?_ ?_⟩
   ·rintro j σ H5 hj ⟨⟨ob,oc,ow,rfl⟩,gi2⟩;have hj:j<n:=by omega
    refine⟨_,rfl,(n:Int),rfl,by omega,by omega,gk (lo:=0) (n:=(n:Int).toNat) (λk σ H'=>(∃ oc ow,σ=[some (.ref t),some (.int n),some (.ref d),some (.int kd),some (.ref R),some (.int (0+i)),some (.int (0+j)),oc,ow])/\lR K t r d R (.list [.list r1.ds,.list r2.ds,.list r3.ds]) H0 (kn1 n i++kn2 n i j++kn3 i j k) H')
     ⟨⟨_,_,rfl⟩,by simpa [kn3] using gi2⟩ ?_ ?_⟩
    ·rintro k σ H6 hk ⟨⟨oc,ow,rfl⟩,gi3⟩;have hk:k<n:=by omega
     obtain⟨b0,xs,eb,hb,hxs⟩:=aH (b:=true) (ds:=[.list r1.ds,.list r2.ds,.list r3.ds]) (IsD.uncut gi3.rs);cases eb;apply sup (I:=λwv H'=>∃ (W:Iv) (wr:R3),wv=.ref W/\lR K t r d R (.list [.list r1.ds,.list r2.ds,.list r3.ds]) H0 (kn1 n i++kn2 n i j++kn3 i j k) H'/\H' W=some (.lst wr.vs)/\wr.Up)
     case main=>
      intro rest1;refine⟨_,rfl,_,_,rfl,rfl,_,rfl,lF (λhc=>?k0) (λhc=>?kx)⟩
      case' k0=>
       refine⟨_,rfl,R,true,rfl,⟨_,hb⟩,bx (es:=[.int (r1.w+r1.x*(0+i)+r1.y*(0+j)+r1.z*(0+k)),.int (r2.w+r2.x*(0+i)+r2.y*(0+j)+r2.z*(0+k)),.int (r3.w+r3.x*(0+i)+r3.y*(0+j)+r3.z*(0+k))]) hb hxs rfl (by show 3<=1000;decide) (λii dd ee u H7 hd he s7 hu RR kk S=>?_) (λzs H7 s7 hzs W hW=>?_)⟩
       ·obtain⟨rr,hrr,rfl,rfl⟩:∃ rr:R4,(rr=r1\/rr=r2\/rr=r3)/\dd=.list rr.ds/\ee=.int (rr.w+rr.x*(0+i)+rr.y*(0+j)+rr.z*(0+k)):=by
         rcases at3 hd with ⟨rfl,rfl⟩|⟨rfl,rfl⟩|⟨rfl,rfl⟩
         ·exact⟨r1,.inl rfl,rfl,(Ie he).symm⟩
         ·exact⟨r2,.inr (.inl rfl),rfl,(Ie he).symm⟩
         ·exact⟨r3,.inr (.inr rfl),rfl,(Ie he).symm⟩
        obtain⟨w0,w1,x0,x1,y0,y1,z0,z1⟩:=inr hrr;obtain⟨ra,rfl,hra⟩:=CO hu;refine⟨ra,_,rfl,.inl hra,rfl,_,_,rfl,_,_,rfl,_,_,rfl,_,_,rfl,rfl,bQ (B:=S H7) ?_⟩;exact⟨_,rfl,_,rfl,_,rfl,_,_,rfl,rfl,.inr (by unfold Sm;omega),_,_,rfl,rfl,_,rfl,_,rfl,_,_,rfl,rfl,.inr (by unfold Sm;omega),_,_,rfl,rfl,_,rfl,_,rfl,_,_,rfl,rfl,.inr (by unfold Sm;omega),_,_,rfl,rfl,kk _ _ ⟨aj.refl _,.int _⟩⟩
       have zz:=cN (ns:=[r1.w+r1.x*(0+i)+r1.y*(0+j)+r1.z*(0+k),r2.w+r2.x*(0+i)+r2.y*(0+j)+r2.z*(0+k),r3.w+r3.x*(0+i)+r3.y*(0+j)+r3.z*(0+k)]) hzs;subst zz;have gi4:=(gi3.same s7).same (aj.new (o:=.lst ([r1.w+r1.x*(0+i)+r1.y*(0+j)+r1.z*(0+k),r2.w+r2.x*(0+i)+r2.y*(0+j)+r2.z*(0+k),r3.w+r3.x*(0+i)+r3.y*(0+j)+r3.z*(0+k)].map V.int)) hW);have pos:∀ {rr:R4},rr.In->0<=rr.w+rr.x*(0+(i:Int))+rr.y*(0+(j:Int))+rr.z*(0+(k:Int)):=λh=>by
        have p1:=K5 h.x0 (show(0:Int)<=0+i by omega);have p2:=K5 h.y0 (show(0:Int)<=0+j by omega);have p3:=K5 h.z0 (show(0:Int)<=0+k by omega);have p4:=h.w0;omega
       obtain⟨wr,ewr,up⟩:∃ wr:R3,upd H7 W (.lst ([r1.w+r1.x*(0+i)+r1.y*(0+j)+r1.z*(0+k),r2.w+r2.x*(0+i)+r2.y*(0+j)+r2.z*(0+k),r3.w+r3.x*(0+i)+r3.y*(0+j)+r3.z*(0+k)].map V.int)) W=some (.lst wr.vs)/\wr.Up:=⟨⟨_,_,_⟩,ac,pos i1,pos i2,pos i3⟩
       generalize upd H7 W (.lst ([r1.w+r1.x*(0+i)+r1.y*(0+j)+r1.z*(0+k),r2.w+r2.x*(0+i)+r2.y*(0+j)+r2.z*(0+k),r3.w+r3.x*(0+i)+r3.y*(0+j)+r3.z*(0+k)].map V.int))=H8 at gi4 ewr ⊢
      case' kx=>
       refine⟨_,rfl,_,_,rfl,rfl,_,rfl,lF (λhc1=>?k1) (λhc1=>?k2)⟩
      case' k1=>
       refine⟨3,rfl,by decide,by decide,c8 (K:=K) (lo:=0) (n:=3) (Pd:=λd=>∃ i:Int,d=.int i/\0<=i) gi3.tw (by decide) (λii H7 hii tw7 mv7 RR kk S=>bQ (B:=S H7) ⟨_,rfl,t,r,1001,rfl,tw7,by decide,s64 (by decide) (by decide),λx1 H9 a1 b1 tw9 mv9=>kk _ _ ⟨tw9,mv9,_,⟨x1,rfl,a1⟩,.int _⟩⟩) (λds ws H7 hl hP tw7 mv7 hws W hW=>?_)⟩;obtain⟨wr,rfl,up⟩:=Gn hl hP;have zz:=gC hws;subst zz;have gi4:=(gi3.draw tw7 mv7).same (aj.new (o:=.lst wr.vs) hW);have ewr:upd H7 W (.lst wr.vs) W=some (.lst wr.vs):=ac;generalize upd H7 W (.lst wr.vs)=H8 at gi4 ewr ⊢
      case' k2=>
       have e2:∃ g:R4->Int,g=λrr=>if rr.w+(rr.x*(0+(i:Int))*(0+(i:Int))).fdiv n+40*(0+(j:Int))+30*(0+(k:Int))<1000 then rr.w+(rr.x*(0+(i:Int))*(0+(i:Int))).fdiv n+40*(0+(j:Int))+30*(0+(k:Int)) else 1000:=⟨_,rfl⟩
       obtain⟨g,hg⟩:=e2;refine⟨_,rfl,R,true,rfl,⟨_,hb⟩,bx (es:=[.int (g r1),.int (g r2),.int (g r3)]) hb hxs rfl (by show 3<=1000;decide) (λii dd ee u H7 hd he s7 hu RR kk S=>?_) (λzs H7 s7 hzs W hW=>?_)⟩
       ·obtain⟨rr,hrr,rfl,rfl⟩:∃ rr:R4,(rr=r1\/rr=r2\/rr=r3)/\dd=.list rr.ds/\ee=.int (g rr):=by
         rcases at3 hd with ⟨rfl,rfl⟩|⟨rfl,rfl⟩|⟨rfl,rfl⟩
         ·exact⟨r1,.inl rfl,rfl,(Ie he).symm⟩
         ·exact⟨r2,.inr (.inl rfl),rfl,(Ie he).symm⟩
         ·exact⟨r3,.inr (.inr rfl),rfl,(Ie he).symm⟩
        obtain⟨w0,w1,x0,x1,y0,y1,z0,z1⟩:=inr hrr;obtain⟨ra,rfl,hra⟩:=CO hu;have sx:Sm 64 (rr.x*(0+(i:Int))):=((show Sm 10 rr.x by unfold Sm;omega).mul (show Sm 10 (0+(i:Int)) by unfold Sm;omega)).mono (by decide);refine⟨ra,_,rfl,.inl hra,rfl,_,_,rfl,_,_,rfl,_,_,rfl,_,_,rfl,rfl,bQ (B:=S H7) ?_⟩;refine⟨_,rfl,_,rfl,_,rfl,_,_,rfl,rfl,.inr (by unfold Sm;omega),_,rfl,_,_,rfl,rfl,.inr sx,_,rfl,_,_,rfl,rfl,⟨by omega,Sm.mono (k:=20) (by unfold Sm;omega) (by decide)⟩,_,_,rfl,rfl,_,rfl,_,_,rfl,rfl,.inr (by unfold Sm;decide),_,_,rfl,rfl,_,rfl,_,_,rfl,rfl,.inr (by unfold Sm;decide),_,_,rfl,rfl,_,_,rfl,kk _ _ ⟨aj.refl _,?_⟩⟩;rw[hg];exact .int _
       have zz:=cN (ns:=[g r1,g r2,g r3]) hzs;subst zz;have gi4:=(gi3.same s7).same (aj.new (o:=.lst ([g r1,g r2,g r3].map V.int)) hW);have pos:∀ {rr:R4},rr.In->0<=g rr:=λ{rr} h=>by
        have p1:=K5 (K5 h.x0 (show(0:Int)<=0+i by omega)) (show(0:Int)<=0+i by omega);have p2:0<=(rr.x*(0+(i:Int))*(0+(i:Int))).fdiv n:=by
         rw[JF _ (by omega)];exact OC p1 (by omega)
        have p4:=h.w0;rw[hg];dsimp only
        split<;>omega
       obtain⟨wr,ewr,up⟩:∃ wr:R3,upd H7 W (.lst ([g r1,g r2,g r3].map V.int)) W=some (.lst wr.vs)/\wr.Up:=⟨⟨_,_,_⟩,ac,pos i1,pos i2,pos i3⟩
       generalize upd H7 W (.lst ([g r1,g r2,g r3].map V.int))=H8 at gi4 ewr ⊢
      all_goals
       obtain⟨wv,ewv⟩:∃ wv,wv=V.ref W:=⟨_,rfl⟩
       rw[<- ewv];exact rest1 wv H8 ⟨W,wr,ewv,gi4,ewr,up⟩
     clear gi3 hb hxs;rintro wv H8 ⟨W,wr,rfl,gi4,ewr,up⟩;apply sup (I:=λwv H'=>∃ (W:Iv) (wr:R3),wv=.ref W/\lR K t r d R (.list [.list r1.ds,.list r2.ds,.list r3.ds]) H0 (kn1 n i++kn2 n i j++kn3 i j k) H'/\H' W=some (.lst wr.vs)/\wr.Up)
     case main=>
      intro rest2;refine⟨_,rfl,_,rfl,_,_,rfl,rfl,_,rfl,lF (λc1=>?c1t) (λc1=>cQ ?c1f)⟩
      case c1t=>
       refine⟨_,rfl,_,rfl,_,_,rfl,rfl,_,rfl,lF (λc2=>?c2t) (λc2=>cQ ?c2f)⟩
       case c2t=>
        refine⟨_,rfl,_,_,rfl,rfl,_,rfl,lF (λc3=>?c3t) (λc3=>?c3f)⟩
        case c3t=>
         refine⟨_,rfl,.inl ⟨W,_,0,.int wr.a,rfl,rfl,SqL.of ewr,rfl,le1,λp hp=>⟨p,3,_,rfl,rfl,ac,by decide,by decide,by show 3<=II;decide,λp2 hp2=>?_⟩⟩⟩;have gi4:=(gi4.same (aj.new (o:=.lst [.int wr.a]) hp)).same (aj.new (o:=.lst (Iz (3:Int).toNat [V.int wr.a]).flatten) hp2);have ewr2:upd (upd H8 p (.lst [.int wr.a])) p2 (.lst (Iz (3:Int).toNat [V.int wr.a]).flatten) p2=some (.lst (R3.mk wr.a wr.a wr.a).vs):=ac;generalize upd (upd H8 p (.lst [.int wr.a])) p2 (.lst (Iz (3:Int).toNat [V.int wr.a]).flatten)=H9 at gi4 ewr2 ⊢;obtain⟨wv,ewv⟩:∃ wv,wv=V.ref p2:=⟨_,rfl⟩
         rw[<- ewv];exact rest2 wv H9 ⟨p2,_,ewv,gi4,ewr2,up.a,up.a,up.a⟩
        case c3f=>exact rest2 (.ref W) H8 ⟨W,wr,rfl,gi4,ewr,up⟩
       case c2f=>exact rest2 (.ref W) H8 ⟨W,wr,rfl,gi4,ewr,up⟩
      case c1f=>exact rest2 (.ref W) H8 ⟨W,wr,rfl,gi4,ewr,up⟩
     clear gi4 ewr up;rintro wv H8 ⟨W,wr,rfl,gi4,ewr,up⟩;refine⟨_,rfl,_,true,rfl,⟨_,SqL.of ewr⟩,bx (es:=[.int (min 1000 wr.a),.int (min 1000 wr.b),.int (min 1000 wr.c)]) (K:=K) (b:=true) (SqL.of ewr) (.cons (.int wr.a) (.cons (.int wr.b) (.cons (.int wr.c) .nil))) rfl (by show 3<=1000;decide) (λii dd ee u H9 hd he s9 hu RR kk S=>?_) (λzs H9 s9 hzs D9 hD9=>?_)⟩
     ·refine bQ (B:=S H9) ?_;rcases at3 hd with ⟨rfl,rfl⟩|⟨rfl,rfl⟩|⟨rfl,rfl⟩<;>(cases hu;cases(Ie he);exact⟨_,rfl,_,_,rfl,by rw[y_];exact kk _ _ ⟨aj.refl _,.int _⟩⟩)
     ·have zz:=cN (ns:=[min 1000 wr.a,min 1000 wr.b,min 1000 wr.c]) hzs;subst zz;refine⟨D9,_,rfl,.inl ⟨SqL.of ac,λl hl=>?_⟩⟩;have wtl:(R3.mk (min 1000 wr.a) (min 1000 wr.b) (min 1000 wr.c)).Wt:=by
       obtain⟨u1,u2,u3⟩:=up;exact⟨by show 0<=min 1000 wr.a;omega,by show min 1000 wr.a<=1000;omega,by show 0<=min 1000 wr.b;omega,by show min 1000 wr.b<=1000;omega,by show 0<=min 1000 wr.c;omega,by show min 1000 wr.c<=1000;omega⟩
      have gi5:=((gi4.same s9).same (aj.new (o:=.lst ([min 1000 wr.a,min 1000 wr.b,min 1000 wr.c].map V.int)) hD9)).same (aj.new (o:=.tup ([min 1000 wr.a,min 1000 wr.b,min 1000 wr.c].map V.int)) hl);have hlt:IsD K (upd (upd H9 D9 (.lst ([min 1000 wr.a,min 1000 wr.b,min 1000 wr.c].map V.int))) l (.tup ([min 1000 wr.a,min 1000 wr.b,min 1000 wr.c].map V.int))) (wD ⟨min 1000 wr.a,min 1000 wr.b,min 1000 wr.c⟩) (.ref l):=IsD.tupN hl (.cons (.int _) (.cons (.int _) (.cons (.int _) .nil)));generalize upd (upd H9 D9 (.lst ([min 1000 wr.a,min 1000 wr.b,min 1000 wr.c].map V.int))) l (.tup ([min 1000 wr.a,min 1000 wr.b,min 1000 wr.c].map V.int))=Ha at gi5 hlt ⊢;generalize R3.mk (min 1000 wr.a) (min 1000 wr.b) (min 1000 wr.c)=wf at wtl hlt;refine⟨_,rfl,_,rfl,_,rfl,_,rfl,le3,λkt hkt=>?_⟩;have ek:[V.int (0+(i:Int)),V.int (0+(j:Int)),V.int (0+(k:Int))]=(eD (i,j,k)).map kV:=by rw[L',L',L'];rfl
      have gi6:=gi5.same (aj.new (o:=.tup [V.int (0+(i:Int)),V.int (0+(j:Int)),V.int (0+(k:Int))]) hkt);have hlt:=IsD.same (aj.new (o:=.tup [V.int (0+(i:Int)),V.int (0+(j:Int)),V.int (0+(k:Int))]) hkt) hlt;have hkt':upd Ha kt (.tup [V.int (0+(i:Int)),V.int (0+(j:Int)),V.int (0+(k:Int))]) kt=some (.tup ((eD (i,j,k)).map kV)):=by rw[<- ek];exact ac
      generalize upd Ha kt (.tup [V.int (0+(i:Int)),V.int (0+(j:Int)),V.int (0+(k:Int))])=Hb at gi6 hlt hkt' ⊢;obtain⟨f,⟨vs,gd,gv⟩,gw⟩:=gi6.gr;have hlen:=GrP.len gv;have fresh:((i,j,k):Kn)∉kn1 n i++kn2 n i j++kn3 i j k:=λm=>by
       rcases Jb.mp m with m|m
       ·rcases Jb.mp m with m|m
        ·have:=(CV.mp m).1;exact absurd this (Ji _)
        ·have:=(yO.mp m).2.1;exact absurd this (Ji _)
       ·have:=(x_.mp m).2.2;exact absurd this (Ji _)
      refine⟨d,_,rfl,EM.t (k:=eD (i,j,k)) gd hkt' (by rw[vH hlen];exact bg (IS (Cs h7 hi hj (Kj hk)) (by decide))),⟨_,_,rfl⟩,?_⟩;rw[E_ hlen fresh,vt,<- Lc];have sdb:lW Hb (upd Hb d (.dT (tkv (kn1 n i++kn2 n i j++kn3 i j k++[(i,j,k)]) (vs++[.ref l])))):=lW.put gd;refine⟨gi6.tw.sameD sdb,gi6.mv.trans λb o e nb=>?_,IsD.sameD (lW.cut sdb) gi6.rs,λu=>if u=(i,j,k) then wf else f u,⟨_,ac,?_⟩,λu hu=>?_⟩
      ·rw[ao (λz=>nb (by simp[z]))];exact e
      ·rw[JM];refine(aD.sameD sdb (show aD K Hb _ _ from ?_)).snoc ?_
       ·have cg:(kn1 n i++kn2 n i j++kn3 i j k).map (λu=>wD (if u=(i,j,k) then wf else f u))=(kn1 n i++kn2 n i j++kn3 i j k).map (λu=>wD (f u)):=List.map_congr_left λu hu=>by
         have nu:u≠(i,j,k):=λz=>fresh (z▸hu)
         rw[IY nu]
        rw[cg];exact gv
       ·show IsD K _ (wD (if((i,j,k):Kn)=(i,j,k) then wf else f (i,j,k))) _;rw[Jh rfl];exact IsD.sameD sdb hlt
      ·show(if u=(i,j,k) then wf else f u).Wt;rcases Jb.mp hu with hu|hu
       ·have nu:u≠(i,j,k):=λz=>fresh (z▸hu)
        rw[IY nu];exact gw u hu
       ·rw[Jh (Ii.mp hu)];exact wtl
    ·rintro σ H6 ⟨⟨oc,ow,rfl⟩,gi3⟩;refine⟨⟨_,_,_,rfl⟩,?_⟩;rw[qi,<- Lc];exact gi3
   ·rintro σ H5 ⟨⟨ob,oc,ow,rfl⟩,gi2⟩;refine⟨⟨_,_,_,_,rfl⟩,?_⟩;rw[qQ];exact gi2
  ·rintro σ H4 ⟨⟨oa,ob,oc,ow,rfl⟩,gi1⟩;obtain⟨f,g1,g2⟩:=gi1.gr;refine⟨_,rfl,q d f H4 g1 (λu hu=>g2 u hu) gi1.tw (λb o e nb=>?_) hd⟩;refine gi1.mv b o (sd _ _ e) λz=>?_
   simp only[Iy,IW,KS] at z nb;rcases z with z|z|z
   ·exact nb (.inl z)
   ·exact nb (.inr z)
   ·rw[z,hd] at e;cases e
theorem ic:am ["_law_size","_law_colour","_law_step","_law_base"] ["_law_size","_law_colour"] (ag jK):=scM
def tU (K:Ia):Sp:=λvs H Q _=>∃ (x:V) (n:Nat) (c:Q3) (k:Nat),vs=[.int n,x]/\IsD K H c.col x/\c.Wi ((60:Int):Rat)/\c.Bd k/\k<=400/\2<=n/\n<=7/\∀ (w:V) (H':Hp),aj H H'->IsD K H' (.tuple [F8 n c,(BG n c).lst]) w->Q w H'
theorem tM (T:Glo K mg w):Cal P w K mg base CX0 3 "_law_cell" ["_law_size","_law_colour"] [] (tU K):=by
 refine T.x31.cal ic (λvs H Q E h=>?_) (λf cdv A outer s H vs Q E hr h=>?_)
 ·obtain⟨x,n,c,k,rfl,_⟩:=h;rfl
 ·obtain⟨x,n,c,k,rfl,hx,wi,bd,hk,h2,h7,q⟩:=h;obtain⟨ap0,ap1,ap2⟩:=tL h2 h7;have sap:Sm 6 (apN n):=by unfold Sm;omega
  have dva:Dv n c.a:=⟨h2,h7,wi.a0,wi.a1⟩
  have dvb:Dv n c.b:=⟨h2,h7,wi.b0,wi.b1⟩
  have dvc:Dv n c.c:=⟨h2,h7,wi.c0,wi.c1⟩
  refine⟨_,(WSs.go (ab (au 2 ic.nd (ar cL aa (ar cS (wpv 0) aa)))
   (ab (au 3 ic.nd (ax ["_law_one"] ["_law_step","_law_size"] [2,0] 1 (bh (K:=K) rfl (wpv 1)) (λnd=>(ah 0 nd)) aw (aq (iG rfl) (by rfl) T.xc tK (aR (ar cL (ak K (wpv 0) aa) (ar aG (ak K (wpv 0) aa) (wpv 1))) (ar cS (wpv 2) aa)))))
   (af (ap (aI (aR (wpv 3) (ax ["_law_k"] ["_law_colour","_law_step","_law_base"] [1,2,3] 1 (aM rfl T.x0 (aO aa)) (λnd=>(ah 0 nd)) aw (ae aK (s_ T) hr (aR (ae aK (cZ T) hr (aR (ak K (ak K (wpv 1) (wpv 0)) aa) (ar aG (ak K (ak K (wpv 1) (wpv 0)) aa) (wpv 2)))) (aI (aR (ak K (wpv 3) (wpv 0)) aa)))))))))))),?_⟩
  refine⟨_,rfl,_,_,rfl,rfl,_,_,rfl,rfl,⟨by omega,Sm.mono (k:=20) (by unfold Sm;omega) (by decide)⟩,?_⟩;dsimp only;rw[show(60:Int).fdiv ((n:Int)-1)=apN n by rw[JF _ (by omega)];rfl];obtain⟨ca,xs,rfl,hca,hxs⟩:=aH (b:=false) (ds:=c.ds) hx;refine⟨_,rfl,ca,false,rfl,⟨_,hca⟩,bx (es:=[.int ((lea n c.a:Nat):Int),.int ((lea n c.b:Nat):Int),.int ((lea n c.c:Nat):Int)]) hca hxs rfl (by show 3<=1000;decide) (λi e e' u H2 hd he s2 hu R kk S=>?_) (λls H2 s2 hls L hL=>?_)⟩
  ·obtain⟨y,rfl,rfl,by_,dv⟩:∃ y:Rat,e=rD y/\e'=.int ((lea n y:Nat):Int)/\Bq k y/\Dv n y:=by
    rcases at3 hd with ⟨rfl,rfl⟩|⟨rfl,rfl⟩|⟨rfl,rfl⟩
    ·exact⟨c.a,rfl,(Ie he).symm,bd.a,dva⟩
    ·exact⟨c.b,rfl,(Ie he).symm,bd.b,dvb⟩
    ·exact⟨c.c,rfl,(Ie he).symm,bd.c,dvc⟩
   obtain⟨wa,rfl,hwa⟩:=bn hu;have dp:=by_.pos;refine bQ (B:=S H2) ⟨_,rfl,dH hwa ⟨_,rfl,cE hwa ⟨_,rfl,_,_,rfl,rfl,.inl ⟨by_.sd.mono (by omega),sap.mono (by decide)⟩,_,_,rfl,rfl,⟨Jf by_.ne (by omega),(by_.sd.mul sap).mono (by omega)⟩,_,rfl,_,_,rfl,rfl,_,_,rfl,?_⟩⟩⟩;have e:(if(n:Int)-2<y.num.fdiv ((y.den:Int)*apN n) then(n:Int)-2 else y.num.fdiv ((y.den:Int)*apN n))=((lea n y:Nat):Int):=by
    rw[y_,u4 dv];unfold stp;rw[B1 (Int.mul_pos dp ap0)]
   rw[e];exact kk _ _ ⟨aj.refl _,.int _⟩
  have els:=cN (ns:=[((lea n c.a:Nat):Int),((lea n c.b:Nat):Int),((lea n c.c:Nat):Int)]) hls;subst els;have sL:aj H (upd H2 L (.lst ([((lea n c.a:Nat):Int),((lea n c.b:Nat):Int),((lea n c.c:Nat):Int)].map V.int))):=s2.trans (aj.new hL);have hL3:upd H2 L (.lst ([((lea n c.a:Nat):Int),((lea n c.b:Nat):Int),((lea n c.c:Nat):Int)].map V.int)) L=some (.lst ([((lea n c.a:Nat):Int),((lea n c.b:Nat):Int),((lea n c.c:Nat):Int)].map V.int)):=ac;generalize upd H2 L (.lst ([((lea n c.a:Nat):Int),((lea n c.b:Nat):Int),((lea n c.c:Nat):Int)].map V.int))=H3 at sL hL3 ⊢;refine⟨_,rfl,3,rfl,by decide,by decide,c5 (K:=K) (lo:=0) (ds:=(BG n c).ds) (n:=3) rfl (by decide) (λi e H5 he s5 R kk S=>?_) (λzs H5 s5 hzs Z hZ=>?_)⟩
  ·have hcas:=SqB.same (sL.trans s5) hca;have hxs5:=aD.same (sL.trans s5) hxs;obtain⟨y,u,rfl,by_,dv,hi,eu,hu,el⟩:∃ (y:Rat) (u:V),e=rD (rst n y)/\Bq k y/\Dv n y/\i<3/\xs[i]?=some u/\IsD K H5 (rD y) u/\([((lea n c.a:Nat):Int),((lea n c.b:Nat):Int),((lea n c.c:Nat):Int)].map V.int)[i]?=some (.int ((lea n y:Nat):Int)):=by
    obtain⟨x0,x1,x2,rfl,g0,g1,g2⟩:=ff hxs5;rcases at3 he with ⟨rfl,rfl⟩|⟨rfl,rfl⟩|⟨rfl,rfl⟩
    ·exact⟨c.a,x0,rfl,bd.a,dva,by decide,rfl,g0,rfl⟩
    ·exact⟨c.b,x1,rfl,bd.b,dvb,by decide,rfl,g1,rfl⟩
    ·exact⟨c.c,x2,rfl,bd.c,dvc,by decide,rfl,g2,rfl⟩
   obtain⟨wa,rfl,hwa⟩:=bn hu;have eu:xs[0+i]?=some (V.ref wa):=by rw[KL];exact eu
   have el:([((lea n c.a:Nat):Int),((lea n c.b:Nat):Int),((lea n c.c:Nat):Int)].map V.int)[0+i]?=some (.int ((lea n y:Nat):Int)):=by rw[KL];exact el
   refine bQ (B:=S H5) ⟨_,rfl,_,rfl,?_⟩;refine ixB hcas eu (dH hwa ⟨_,rfl,_,rfl,?_⟩);refine ixB hcas eu (cE hwa ⟨_,rfl,_,_,rfl,rfl,.inl ⟨by_.sd.mono (by omega),sap.mono (by decide)⟩,_,_,rfl,Jf by_.ne (by omega),(by_.sd.mul sap).mono (by omega),?_⟩);refine ShQ.sh (Jf by_.ne (by omega)) λw6 H6 s6 hw6=>⟨_,rfl,_,rfl,?_⟩
   refine ixB (show SqB K H6 L _ true from SqL.of ((s5.trans s6) _ _ hL3)) el ⟨le2,λp hp=>?_⟩;have hw7:IsD K (upd H6 p (.tup [.int ((lea n y:Nat):Int),.int 1])) (rD (stp n y)) w6:=IsD.same (aj.new hp) hw6;have hp7:IsD K (upd H6 p (.tup [.int ((lea n y:Nat):Int),.int 1])) (rD (((lea n y:Nat):Int):Rat)) (.ref p):=by
    rw[rn];exact nj ac
   refine⟨w6,.ref p,_,_,_,_,rfl,hw7,hp7,(Co h2 h7 by_).mono (by omega),(lB (k:=3) (n:=((lea n y:Nat):Int)) (by have:=g_ dv;unfold Sm;omega) (by decide)).mono (by decide),?_⟩;exact ShQ.sub λw8 H8 s8 hw8=>kk _ _ ⟨(s6.trans (aj.new hp)).trans s8,hw8⟩
  ·refine⟨le2,λp hp=>?_⟩;exact q _ _ (((sL.trans s5).trans (aj.new hZ)).trans (aj.new hp)) (IsD.tupN hp (.cons (.lst (.inl (aj.new hZ _ _ (s5 _ _ hL3))) (.cons (.int _) (.cons (.int _) (.cons (.int _) .nil)))) (.cons (IsD.listN hZ hzs) .nil)))
theorem aZ:am ["_law_table","_law_size","_law_colour","_law_base","_law_rest","_law_order","_law_road","_law_at","_law_place","_law_found","_law_before","_law_after"] ["_law_table","_law_size","_law_colour"] (ag iZ):=scM
def rL (K:Ia):Sp:=λvs H Q _=>∃ (x:V) (d:Iv) (n:Nat) (f:Kn->R3) (c:Q3) (k:Nat),vs=[.ref d,.int n,x]/\Gr K H n f d/\WtB n f/\IsD K H c.col x/\c.Wi ((60:Int):Rat)/\c.Bd k/\k<=400/\2<=n/\n<=7/\∀ (w:V) (H':Hp),aj H H'->IsD K H' (W4 n f c).col w->Q w H'
theorem tO (T:Glo K mg w):Cal P w K mg base CX0 4 "_law_four" ["_law_table","_law_size","_law_colour"] [] (rL K):=by
 refine T.x32.cal aZ (λvs H Q E h=>?_) (λf cdv A outer s H vs Q E hr h=>?_)
 ·obtain⟨x,d,n,f,c,k,rfl,_⟩:=h;rfl
 ·obtain⟨x,d,n,f,c,k,rfl,hg,hw,hx,wi,bd,hk,h2,h7,q⟩:=h;refine⟨_,(WSs.go (ab (gY (ae aK (tM T) hr (aR (wpv 1) (wpv 2))) (dF (K:=K) (n:=2) rfl rfl (av (ah 3 aZ.nd) (av (ah 4 aZ.nd) bt))))
   (ab (au 5 aZ.nd (ce aN))
   (ab (dX Jq rfl (aM rfl T.x0 (aO aa)) (ah 6 aZ.nd) (ab (au 7 aZ.nd (aq (h_ (K:=K) rfl) (by rfl) T.x2 df (aO (ax ["_law_other"] ["_law_rest","_law_road"] [4,6] 1 (bh (K:=K) rfl (wpv 5)) (λnd=>(ah 0 nd)) (vK (aV (aS (ae aK (p8 T) hr (aR (ak K (wpv 1) (wpv 0)) (ak K (wpv 1) (wpv 2))))))) (wpv 0)))))
   (af (bo (pG Kd NX PySem.F.type_list_insert zg (wpv 5) (aR (wpv 7) (wpv 6)))))))
   (ab (au 8 aZ.nd (aQ (jO (K:=K) rfl) (by rfl) T.x7 f8 (aO (wpv 3))))
   (ab (au 9 aZ.nd (ax ["_law_one"] [] [] 1 (bh (K:=K) rfl (md hr.u1 (wpv 0) (aQ (dc (K:=K) rfl) (by rfl) T.x1 be (aO (wpv 8))) (λ_ _=>rfl))) (λnd=>(ah 0 nd)) aw (aI (aR (wpv 0) aa))))
   (ab (dX Jq rfl (bh (K:=K) rfl (wpv 5)) (ah 6 aZ.nd) (ab (au 10 aZ.nd (md hr.u1 (wpv 0) (aQ (dc (K:=K) rfl) (by rfl) T.x1 be (aO (wpv 8))) (λ_ _=>rfl)))
   (ab (gY (ar cP (ak K (wpv 8) (wpv 6)) aa) (uB (wpv 8) (wpv 6) qU))
   (ab (au 11 aZ.nd (md hr.u1 (wpv 0) (aQ (dc (K:=K) rfl) (by rfl) T.x1 be (aO (wpv 8))) (λ_ _=>rfl)))
   (af (au 9 aZ.nd (ax ["_law_k"] ["_law_found","_law_rest","_law_road","_law_after","_law_before"] [9,4,6,11,10] 1 (aM rfl T.x0 (aO aa)) (λnd=>(ah 0 nd)) aw (ae aK (lI T) hr (aR (ak K (wpv 1) (wpv 0)) (ae aK (jW T) hr (aR (ak K (wpv 2) (wpv 3)) (aI (aR (ar cS (ak K (wpv 4) (wpv 0)) (ak K (wpv 5) (wpv 0))) aa)))))))))))))
   (af (ap (aQ (dc (K:=K) rfl) (by rfl) T.x1 be (aO (wpv 9)))))))))))),?_⟩
  refine⟨_,rfl,_,rfl,x,n,c,k,rfl,hx,wi,bd,hk,h2,h7,λw H1 s1 hw1=>?_⟩;have dva:Dv n c.a:=⟨h2,h7,wi.a0,wi.a1⟩
  have dvb:Dv n c.b:=⟨h2,h7,wi.b0,wi.b1⟩
  have dvc:Dv n c.c:=⟨h2,h7,wi.c0,wi.c1⟩
  have lta:=g_ dva;have ltb:=g_ dvb;have ltc:=g_ dvc;have bra:=zK dva bd.a;have brb:=zK dvb bd.b;have brc:=zK dvc bd.c;obtain⟨T,B,Rr,y0,y1,y2,rfl,hT,hB,hR,g0,g1,g2,_⟩:=Ay hw1;have hg1:=hg.same s1;have rat:∀ {r:Nat}{H':Hp},aj H1 H'->r<3->∃ y,[y0,y1,y2][r]?=some y/\IsD K H' (rD (bf n c r)) y/\Bq (k+10) (bf n c r):=λs hr=>DM (IsD.same s g0) (IsD.same s g1) (IsD.same s g2) bra brb brc hr
  refine⟨T,_,rfl,SqT.of hT,rfl,_,_,rfl,_,_,rfl,rfl,by decide,λO hO=>?_⟩;generalize e0:upd H1 O _=H2;have sO:=tT hO e0;have gO:=mf e0;refine⟨3,rfl,by decide,by decide,gk (lo:=0) (n:=3) (λi σ H'=>(∃ o1 o2 o3 o4 o5 o6,σ=[some (.ref d),some (.int n),some x,some (.ref B),some (.ref Rr),some (.ref O),o1,o2,o3,o4,o5,o6])/\aj H1 H'/\H' O=some (.lst (ju (k9 (bf n c) i))))
   ⟨⟨_,_,_,_,_,_,rfl⟩,sO,gO⟩ ?_ ?_⟩
  ·rintro i σ H3 hi ⟨⟨o1,o2,o3,o4,o5,o6,rfl⟩,s3,hO3⟩;have hi:i<3:=hi;have ll:(k9 (bf n c) i).length=i:=vC;refine⟨_,rfl,O,true,rfl,⟨_,SqL.of hO3⟩,jR (K:=K) (xs:=ju (k9 (bf n c) i)) (λj ys H'=>aj H3 H'/\j<=i/\ys=ju (fN (bf n c) i ((k9 (bf n c) i).take j))) ⟨aj.refl _,Jj _,rfl⟩ (by show(List.map _ _).length<=1000;rw[Ij,ll];omega) (λj ys H' _ ⟨s,hj,e⟩=>⟨SqL.of (s _ _ hO3),?_⟩) (λj xv ys H4 ex ⟨s4,hj,e4⟩ RR SS kR kS=>?_) (λys H4 ⟨s4,hj,e4⟩ N hN=>?_)⟩
   ·rw[e];show(List.map _ _).length<=_;rw[Ij];have:=nW (p:=bf n c) (r:=i) (l:=(k9 (bf n c) i).take j);rw[IZ] at this;omega
   ·have ex':((k9 (bf n c) i)[j]?).map (λk:Nat=>V.int (k:Int))=some xv:=by rw[<- Ix];exact ex
    obtain⟨oo,eo,rfl⟩:=IG.mp ex';have ho:oo<i:=zN (IM eo);have hj:j<i:=by
     have:=(Iu.mp eo).1;omega
    have s14:=s3.trans s4;obtain⟨u,eu,hu,bu⟩:=rat s14 (show oo<3 by omega);obtain⟨v,ev,hv,bv⟩:=rat s14 hi;have ev:[y0,y1,y2][0+i]?=some v:=by rw[KL];exact ev
    have tk:fN (bf n c) i ((k9 (bf n c) i).take (j+1))=fN (bf n c) i ((k9 (bf n c) i).take j)++(if(!decide (bf n c oo<bf n c i))=true then[oo] else[]):=by
     rw[b9 eo];unfold fN;rw[List.filter_append];cases hc:(!decide (bf n c oo<bf n c i))<;>simp[List.filter,hc]
    refine⟨_,rfl,_,rfl,ixB (SqB.same s14 hR) eu ⟨_,rfl,_,rfl,ixB (SqB.same s14 hR) ev ⟨u,v,_,_,rfl,hu,hv,bu.mono (by omega),bv.mono (by omega),_,rfl,lF (λhc=>⟨_,rfl,kR _ _ ⟨s4,hj,?_⟩⟩) (λhc=>kS _ ⟨s4,hj,?_⟩)⟩⟩⟩
    ·rw[tk,Jh hc,e4];simp only[ju,JM,IF,K1]
    ·rw[tk,IY hc,e4,M8]
   ·have lx:(ju (k9 (bf n c) i)).length=i:=by show(List.map _ _).length=i;rw[Ij,ll]
    rw[lx,Jc (by omega)] at e4;subst e4;have sN:aj H3 (upd H4 N (.lst (ju (fN (bf n c) i (k9 (bf n c) i))))):=s4.trans (aj.new hN);have gN:upd H4 N (.lst (ju (fN (bf n c) i (k9 (bf n c) i)))) N=some (.lst (ju (fN (bf n c) i (k9 (bf n c) i)))):=ac;generalize upd H4 N (.lst (ju (fN (bf n c) i (k9 (bf n c) i))))=H5 at sN gN ⊢;have lk:(ju (fN (bf n c) i (k9 (bf n c) i))).length=(fN (bf n c) i (k9 (bf n c) i)).length:=Ij _;have lk2:=nW (p:=bf n c) (r:=i) (l:=k9 (bf n c) i);refine⟨N,_,rfl,.inl (SqL.of gN),_,rfl,.inl ⟨rfl,_,SqL.of (sN _ _ hO3)⟩,_,rfl,_,rfl,O,_,_,_,rfl,rfl,sN _ _ hO3,by rw[lx,lk];omega,by rw[lx];omega,⟨_,_,_,_,_,_,rfl⟩,vv (s3.trans sN) hO,?_⟩;rw[ac,lk,L',Ep];rfl
  ·rintro σ H3 ⟨⟨o1,o2,o3,o4,o5,o6,rfl⟩,s3,hO3⟩;obtain⟨o,fall,eo⟩:=zm (bf n c);rw[eo] at hO3;have hcl:∀ {i:Nat},i<=3->ay (bas n c) (pth o i)∈cw n:=λ{i} hi=>by
    rw[dW];have:=EK fall.1 hi;show lea n c.a+(pth o i).1<n/\lea n c.b+(pth o i).2.1<n/\lea n c.c+(pth o i).2.2<n;omega
   refine⟨_,rfl,B,_,rfl,.inl (SqB.same s3 hB),λPl hPl=>?_⟩;have gP:upd H3 Pl (.lst (knV (ay (bas n c) (pth o 0)))) Pl=some (.lst (knV (ay (bas n c) (pth o 0)))):=ac;have sP:aj H3 (upd H3 Pl (.lst (knV (ay (bas n c) (pth o 0))))):=aj.new hPl;show FR _ _ _ _ (upd H3 Pl (.lst (knV (ay (bas n c) (pth o 0)))));generalize upd H3 Pl (.lst (knV (ay (bas n c) (pth o 0))))=H4 at gP sP ⊢;refine⟨_,rfl,_,rfl,Pl,_,rfl,.inl ⟨SqL.of gP,λl hl=>?_⟩⟩;generalize e0:upd H4 l _=H5;have sl:=tT hl e0;have gl:=mf e0;have s15:=(s3.trans sP).trans sl;obtain⟨wv,w1,w2⟩:=vQ (hg1.same s15) (hcl (by decide)) gl;obtain⟨wa,rfl,hwa⟩:=kD (b:=false) w2;refine⟨d,.ref wa,rfl,w1,wa,false,rfl,⟨_,hwa⟩,bx (K:=K) (b:=false) (ds:=(f (ay (bas n c) (pth o 0))).ds) (es:=[R3.a,R3.b,R3.c].map λg=>rD (ua (fK n f c g) (bf n c) o 0)) hwa (vP _) rfl (by show 3<=1000;decide) (λi e e' u H6 hd he s6 hu R kk S=>?_) (λfs H6 s6 hfs Fd hFd=>?_)⟩
   ·refine bQ (B:=S H6) ⟨_,rfl,le2,λp hp=>kk _ _ ⟨aj.new hp,?_⟩⟩;rcases at3 hd with ⟨rfl,rfl⟩|⟨rfl,rfl⟩|⟨rfl,rfl⟩<;>(cases hu;cases(Ie he);exact(by dsimp only;rw[show ∀ g:R3->Int,ua (fK n f c g) (bf n c) o 0=((g (f (ay (bas n c) (pth o 0))):Int):Rat) from λg=>rfl,rn];exact nj ac))
   have s46:=sl.trans s6;generalize e0:upd H6 Fd _=H7;have sF:=tT hFd e0;have gF:=mf e0;have FP:Fd≠Pl:=λz=>by rw[z,s46 _ _ gP] at hFd;cases hFd
   have s37:aj H3 H7:=(sP.trans s46).trans sF;have tupF:∀ i,jN ([R3.a,R3.b,R3.c].map λg=>rD (ua (fK n f c g) (bf n c) o i))=true:=λi=>rfl
   refine⟨_,rfl,O,true,rfl,⟨_,SqL.of (s37 _ _ hO3)⟩,kU (K:=K) (xs:=ju [o.1,o.2.1,o.2.2]) (λi σ H'=>(∃ (Fd:Iv) (fs:List V) (o1 o2 o5 o6:Option V),σ=[some (.ref d),some (.int n),some x,some (.ref B),some (.ref Rr),some (.ref O),o1,o2,some (.ref Pl),some (.ref Fd),o5,o6]/\H' Fd=some (.lst fs)/\Fd≠Pl/\aD K H' ([R3.a,R3.b,R3.c].map λg=>rD (ua (fK n f c g) (bf n c) o i)) fs)/\aj H3 H'/\H' Pl=some (.lst (knV (ay (bas n c) (pth o i)))))
    ⟨⟨Fd,fs,_,_,_,_,rfl,gF,FP,aD.same sF hfs⟩,s37,(s46.trans sF) _ _ gP⟩ (λi σ H' _ ⟨_,s,_⟩=>SqL.of (s _ _ hO3)) ?_ ?_⟩
   ·rintro i xv σ H8 ex ⟨⟨Fd,fs,o1,o2,o5,o6,rfl,hF8,FP,hfs⟩,s8,hP8⟩;have hi:i<3:=(Iu.mp ex).1;have exv:xv=.int ((way o i:Nat):Int):=by
     match i,hi,ex with
     |0,_,ex=>exact(Ie ex).symm
     |1,_,ex=>exact(Ie ex).symm
     |2,_,ex=>exact(Ie ex).symm
    subst exv;have w3:=CQ (i:=i) fall.1;obtain⟨m,em,es⟩:=E2 (t:=ay (bas n c) (pth o i)) w3;rw[Bl] at es;refine⟨_,rfl,_,rfl,Pl,_,rfl,.inl ⟨SqL.of hP8,λl hl=>?_⟩⟩;generalize e0:upd H8 l _=H9;have sl:=tT hl e0;have gl:=mf e0;have s39:=s8.trans sl;obtain⟨wv,w1,w2⟩:=vQ (hg1.same (s3.trans s39)) (hcl (by omega)) gl;refine⟨d,wv,rfl,w1,_,rfl,_,rfl,ixB (show SqB K H9 Pl _ true from SqL.of (sl _ _ hP8)) em ⟨_,_,rfl,rfl,_,rfl,_,rfl,Pl,_,_,way o i,rfl,rfl,sl _ _ hP8,De (by show way o i<3;exact w3),?_⟩⟩;rw[es];have mA:Mv [Pl] H9 (upd H9 Pl (.lst (knV (ay (bas n c) (pth o (i+1)))))):=λb o e n=>by
     rw[ao (λz=>n (by simp[z]))];exact e
    have liA:cD H9 [Pl]:=λb mm=>⟨knV (ay (bas n c) (pth o i)),by rw[Ii.mp mm];exact sl _ _ hP8⟩
    have sA:aj H3 (upd H9 Pl (.lst (knV (ay (bas n c) (pth o (i+1)))))):=vv s39 hPl;have gA:upd H9 Pl (.lst (knV (ay (bas n c) (pth o (i+1))))) Pl=some (.lst (knV (ay (bas n c) (pth o (i+1))))):=ac;have hFA:=mA _ _ (sl _ _ hF8) (by simp[FP]);have hfsA:=aD.mv mA liA (tupF i) (aD.same sl hfs);have w2A:IsD K (upd H9 Pl (.lst (knV (ay (bas n c) (pth o (i+1)))))) (wD (f (ay (bas n c) (pth o i)))) wv:=by
     have:=aD.mv mA liA (ds:=[wD (f (ay (bas n c) (pth o i)))]) rfl (.cons w2 .nil);cases this with
     |cons h _=>exact h
    show FR _ _ _ _ (upd H9 Pl (.lst (knV (ay (bas n c) (pth o (i+1))))));generalize upd H9 Pl (.lst (knV (ay (bas n c) (pth o (i+1)))))=HA at sA gA hFA hfsA w2A ⊢;refine⟨_,rfl,_,rfl,Pl,_,rfl,.inl ⟨SqL.of gA,λl2 hl2=>?_⟩⟩;generalize e0:upd HA l2 _=HB;have sB:=tT hl2 e0;have gB:=mf e0;have s1B:=s3.trans (sA.trans sB);obtain⟨wv2,v1,v2⟩:=vQ (hg1.same s1B) (hcl (i:=i+1) (by omega)) gB;obtain⟨wa,rfl,hwa⟩:=kD (b:=false) (IsD.same sB w2A);obtain⟨wb,rfl,hwb⟩:=kD (b:=false) v2;have hfsB:=aD.same sB hfsA;have bF:∀ {g:R3->Int},(∀ r:R3,r.Wt->Sm 10 (g r))->∀ j,j<=3->Bq (10+j*(k+22)) (ua (fK n f c g) (bf n c) o j):=λ{g} gs j=>by
     induction j with
     |zero=>exact λ_=>Ok.mono (lB (gs _ (hw _ (hcl (i:=0) (by decide)))) (by decide)) (by omega)
     |succ j ih=>
      intro hj;obtain⟨_,_,_,br⟩:=rat (aj.refl H1) (CQ (i:=j) fall.1);have b1:Bq 11 (fK n f c g (pth o (j+1))-fK n f c g (pth o j)):=by
       show Bq 11 (((g (f (ay (bas n c) (pth o (j+1)))):Int):Rat)-((g (f (ay (bas n c) (pth o j))):Int):Rat));rw[<- Jg];exact lB ((gs _ (hw _ (hcl hj))).sub (gs _ (hw _ (hcl (by omega))))) (by decide)
      have:=Bq.add (ih (by omega)) (Bq.mul br b1);refine Ok.mono this ?_;rw[Mb];omega
    refine⟨d,.ref wb,rfl,v1,3,rfl,by decide,by decide,c5 (K:=K) (lo:=0) (ds:=[R3.a,R3.b,R3.c].map λg=>rD (ua (fK n f c g) (bf n c) o (i+1))) (n:=3) rfl (by decide) (λe dd HC hd sC R kk S=>?_) (λzs HC sC hzs E hE=>?_)⟩
    ·have he:e<3:=(Iu.mp hd).1;obtain⟨g,gv,gs,gq⟩:=HX he;have ed:dd=rD (ua (fK n f c g) (bf n c) o (i+1)):=Ie (hd.symm.trans (gq λg=>rD (ua (fK n f c g) (bf n c) o (i+1))));subst ed;have hfsC:=aD.same sC hfsB;obtain⟨u,eu,hu⟩:=EJ hfsC (gq λg=>rD (ua (fK n f c g) (bf n c) o i));obtain⟨v,ev,hv,bv⟩:=rat (s1B.trans sC) w3;have eu:fs[0+e]?=some u:=by rw[KL];exact eu
     have ea:(f (ay (bas n c) (pth o i))).vs[0+e]?=some (.int (g (f (ay (bas n c) (pth o i))))):=by rw[KL];exact gv _
     have eb:(f (ay (bas n c) (pth o (i+1)))).vs[0+e]?=some (.int (g (f (ay (bas n c) (pth o (i+1)))))):=by rw[KL];exact gv _
     refine bQ (B:=S HC) ⟨_,rfl,_,rfl,ixB (show SqB K HC Fd _ true from SqL.of ((sB.trans sC) _ _ hFA)) eu ⟨_,rfl,_,rfl,ixB (SqB.same (s1B.trans sC) hR) ev ⟨_,rfl,_,rfl,ixB (SqB.same sC hwb) eb ⟨_,rfl,_,rfl,ixB (SqB.same sC hwa) ea ⟨_,_,rfl,rfl,le2,λp hp=>?_⟩⟩⟩⟩⟩;have b1:Bq 11 (fK n f c g (pth o (i+1))-fK n f c g (pth o i)):=by
      show Bq 11 (((g (f (ay (bas n c) (pth o (i+1)))):Int):Rat)-((g (f (ay (bas n c) (pth o i))):Int):Rat));rw[<- Jg];exact lB ((gs _ (hw _ (hcl (by omega)))).sub (gs _ (hw _ (hcl (by omega))))) (by decide)
     have hp2:IsD K (upd HC p (.tup [.int (g (f (ay (bas n c) (pth o (i+1))))-g (f (ay (bas n c) (pth o i)))),.int 1])) (rD (fK n f c g (pth o (i+1))-fK n f c g (pth o i))) (.ref p):=by
      show IsD K _ (rD (((g (f (ay (bas n c) (pth o (i+1)))):Int):Rat)-((g (f (ay (bas n c) (pth o i))):Int):Rat))) _;rw[<- Jg,rn];exact nj ac
     have sp:aj HC (upd HC p (.tup [.int (g (f (ay (bas n c) (pth o (i+1))))-g (f (ay (bas n c) (pth o i)))),.int 1])):=aj.new hp;have l22:i*(k+22)<=2*422:=NI (by omega) (by omega);refine⟨v,.ref p,_,_,_,_,rfl,IsD.same sp hv,hp2,bv.mono (by omega),b1.mono (by decide),ShQ.mul λw5 HD sD hw5=>?_⟩;refine⟨u,w5,_,_,_,_,rfl,IsD.same (sp.trans sD) hu,hw5,(bF gs i (by omega)).mono (by omega),(Bq.mul bv b1).mono (by omega),ShQ.add λw6 HE sE hw6=>kk _ _ ⟨(sp.trans sD).trans sE,hw6⟩⟩
    ·have sBE:aj HA (upd HC E (.lst zs)):=(sB.trans sC).trans (aj.new hE);refine⟨⟨E,zs,_,_,_,_,rfl,ac,λz=>?_,aD.same (aj.new hE) hzs⟩,sA.trans sBE,sBE _ _ gA⟩;rw[z,(sB.trans sC) _ _ gA] at hE;cases hE
   ·rintro σ H8 ⟨⟨Fd,fs,o1,o2,o5,o6,rfl,hF8,FP,hfs⟩,s8,hP8⟩;refine⟨_,rfl,Fd,fs,rfl,.inl ⟨SqL.of hF8,λl hl=>q _ _ (((s1.trans s3).trans s8).trans (aj.new hl)) (IsD.tupN (ds:=(W4 n f c).ds) hl ?_)⟩⟩;have e4:∀ g:R3->Int,ua (fK n f c g) (bf n c) o 3=zx n f c g:=λg=>(Bw _ _ _).trans (wk fall)
    have hfs:aD K H8 [rD (ua (fK n f c R3.a) (bf n c) o 3),rD (ua (fK n f c R3.b) (bf n c) o 3),rD (ua (fK n f c R3.c) (bf n c) o 3)] fs:=hfs;rw[e4,e4,e4] at hfs;exact hfs
theorem lj:am ["_law_town_here","_law_dark"] ["_law_town_here"] (ag i8):=scM
def tF (K:Ia):Sp:=λvs H Q _=>∃ (t r:Iv),vs=[.ref t]/\c_ H t r /\
 ∀ (v:V) (e:En) (H':Hp),IsD K H' (.tuple [gE false e.w,gE false e.b]) v->e.In->c_ H' t r->Mv [t,r] H H'->Q v H'
theorem sg (T:Glo K mg w):Cal P w K mg base CX0 3 "_law_ends" ["_law_town_here"] [] (tF K):=by
 refine T.x33.cal lj (λvs H Q E h=>?_) (λf cdv A outer s H vs Q E hr h=>?_)
 ·obtain⟨t,r,rfl,_⟩:=h;rfl
 ·obtain⟨t,r,rfl,tw,q⟩:=h;refine⟨_,(WSs.go (ab (cB 1 ["_law_k"] ["_law_town_here"] [0] 1 lj.nd (aM rfl T.x0 (aO aa)) (λnd=>(ah 0 nd)) aw (ae aK (eG T) hr (aR (wpv 1) (ce (ai aa (ai aa (ai (ae aK (az T) hr (aR (wpv 1) aa)) aN)))))))
   (af (ap (aI (aR (aQ (dc (K:=K) rfl) (by rfl) T.x1 be (aO (ax ["_law_one"] ["_law_town_here"] [0] 1 (bh (K:=K) rfl (wpv 1)) (λnd=>(ah 0 nd)) aw (ar cP (ar cP (wpv 0) aa) (ae aK (az T) hr (aR (wpv 1) (ar cS aa (wpv 0)))))))) (aQ (dc (K:=K) rfl) (by rfl) T.x1 be (aO (wpv 1))))))))),?_⟩
  have s64:∀ {n:Int},0<n->n<100000->Sm 8000 n:=λh1 h2=>Sm.mono (k:=20) (by unfold Sm;omega) (by decide)
  refine⟨3,rfl,by decide,by decide,c8 (K:=K) (lo:=0) (n:=3) (Pd:=λd=>∃ i:Int,d=.int i/\0<=i/\i<=399) tw (by decide) (λi H2 hi tw2 mv2 R kk S=>?_) (λds ys H2 hl hP tw2 mv2 hys D hD=>?_)⟩
  ·refine bQ (B:=S H2) ⟨_,rfl,_,rfl,t,r,400,rfl,tw2,by decide,s64 (by decide) (by decide),λd2 H3 a2 b2 tw3 mv3=>⟨le3,λp hp=>?_⟩⟩;have sp:aj H3 (upd H3 p (.lst [.int 0,.int 0,.int d2])):=aj.new hp;have np:=tw3.not hp;refine⟨t,r,p,_,rfl,tw3.same sp,ac,λz=>np (by simp[z]),λz=>np (by simp[z]),by simp,by show 3<=1000;decide,λj v H4 hv tw4 mv4=>?_⟩;refine kk _ _ ⟨tw4,(mv3.trans (Mv.of sp)).trans mv4,?_⟩;rcases at3 hv with ⟨rfl,rfl⟩|⟨rfl,rfl⟩|⟨rfl,rfl⟩
   ·exact⟨_,⟨0,rfl,by decide,by decide⟩,.int _⟩
   ·exact⟨_,⟨0,rfl,by decide,by decide⟩,.int _⟩
   ·exact⟨_,⟨d2,rfl,a2,by omega⟩,.int _⟩
  obtain⟨b,rfl,bi⟩:∃ b:R3,ds=b.ds/\(0<=b.a/\b.a<=399/\0<=b.b/\b.b<=399/\0<=b.c/\b.c<=399):=by
   match ds,hl,hP with
   |[x,y,z],_,h=>
    obtain⟨a,rfl,a1,a2⟩:=h x (by simp);obtain⟨b,rfl,b1,b2⟩:=h y (by simp);obtain⟨c,rfl,c1,c2⟩:=h z (by simp);exact⟨⟨a,b,c⟩,rfl,a1,a2,b1,b2,c1,c2⟩
  cases gC hys;generalize e0:upd H2 D _=G;have sD:=tT hD e0;have gD:=mf e0;have nD:=tw2.not hD;have tw3:=tw2.same sD;have mv3:=mv2.trans (Mv.of sD);refine⟨_,rfl,D,true,rfl,⟨_,SqL.of gD⟩,wE (K:=K) (xs:=b.vs) (Pn:=λi n=>∃ m,b.vs[i]?=some (.int m)/\m<n/\n<=1000) tw3 gD nD (by show 3<=1000;decide) (λi x H4 hx tw4 mv4 R kk S=>?_) (λns H4 hn hP4 tw4 mv4 D2 hD2=>?_)⟩
  ·obtain⟨m,rfl,m1,m2⟩:∃ m:Int,x=.int m/\0<=m/\m<=399:=by
    rcases at3 hx with ⟨rfl,rfl⟩|⟨rfl,rfl⟩|⟨rfl,rfl⟩
    ·exact⟨_,rfl,by omega,by omega⟩
    ·exact⟨_,rfl,by omega,by omega⟩
    ·exact⟨_,rfl,by omega,by omega⟩
   refine bQ (B:=S H4) ⟨_,rfl,_,_,rfl,rfl,_,rfl,_,rfl,_,_,rfl,rfl,t,r,_,rfl,tw4,by omega,s64 (by omega) (by omega),λd5 H5 a5 b5 tw5 mv5=>⟨_,_,rfl,rfl,kk _ _ ⟨tw5,mv5,_,⟨m,hx,by omega,by omega⟩,rfl⟩⟩⟩
  obtain⟨w,ew,wi⟩:∃ w:R3,ns.map V.int=w.vs/\(b.a<w.a/\w.a<=1000/\b.b<w.b/\w.b<=1000/\b.c<w.c/\w.c<=1000):=by
   match ns,hn,hP4 with
   |[x,y,z],_,h=>
    obtain⟨a,ea,a1,a2⟩:=h 0 x rfl;obtain⟨b',eb,b1,b2⟩:=h 1 y rfl;obtain⟨c,ec,c1,c2⟩:=h 2 z rfl;cases ea;cases eb;cases ec;exact⟨⟨x,y,z⟩,rfl,a1,a2,b1,b2,c1,c2⟩
  rw[ew];have sD2:aj H4 (upd H4 D2 (.lst w.vs)):=aj.new hD2;refine⟨D2,_,rfl,.inl ⟨SqL.of ac,λl hl=>?_⟩⟩;have sl:aj (upd H4 D2 (.lst w.vs)) (upd (upd H4 D2 (.lst w.vs)) l (.tup w.vs)):=aj.new hl;have gl:upd (upd H4 D2 (.lst w.vs)) l (.tup w.vs) l=some (.tup w.vs):=ac;have s5:=sD2.trans sl;have g5:=s5 _ _ (mv4 _ _ gD nD);generalize upd (upd H4 D2 (.lst w.vs)) l (.tup w.vs)=G5 at gl s5 g5 ⊢;refine⟨_,rfl,D,_,rfl,.inl ⟨SqL.of g5,λl2 hl2=>⟨le2,λp hp=>?_⟩⟩⟩;have s6:aj G5 (upd G5 l2 (.tup b.vs)):=aj.new hl2;have s7:aj (upd G5 l2 (.tup b.vs)) (upd (upd G5 l2 (.tup b.vs)) p (.tup [.ref l,.ref l2])):=aj.new hp;refine q _ ⟨w,b⟩ _ (.tup ac (.cons (IsD.same (s6.trans s7) (.tup gl (.cons (.int _) (.cons (.int _) (.cons (.int _) .nil))))) (.cons (IsD.same s7 (.tup ac (.cons (.int _) (.cons (.int _) (.cons (.int _) .nil))))) .nil))) ⟨bi.1,wi.1,wi.2.1,bi.2.2.1,wi.2.2.1,wi.2.2.2.1,bi.2.2.2.2.1,wi.2.2.2.2.1,wi.2.2.2.2.2⟩ (tw4.same (s5.trans (s6.trans s7))) ((mv3.trans mv4).trans (Mv.of (s5.trans (s6.trans s7))))
theorem oX:am ["_law_town_here","_law_cap","_law_climbs"] ["_law_town_here","_law_cap","_law_climbs"] (ag gW):=scM
def oi (K:Ia):Sp:=λvs H Q _=>∃ (t r:Iv) (cap:Int) (c:Bool),vs=[.ref t,.int cap,.bl c]/\c_ H t r/\1<=cap/\cap<=1000/\∀ (D:Iv) (us:List V) (P:C3) (H':Hp),H D=none->H' D=some (.lst us)->D∉[t,r]->kF K (cut [t,r] H') P us->P.In cap->c_ H' t r->Mv [t,r] H H'->Q (.ref D) H'
theorem iS (T:Glo K mg w):Cal P w K mg base CX0 8 "_law_curves" ["_law_town_here","_law_cap","_law_climbs"] [] (oi K):=by
 refine T.x34.cal oX (λvs H Q E h=>?_) (λf cdv A outer s H vs Q E hr h=>?_)
 ·obtain⟨t,r,cap,c,rfl,_⟩:=h;rfl
 ·obtain⟨t,r,cap,c,rfl,tw,c1,c2,q⟩:=h;refine⟨_,(WSs.go (af (ap (ax ["_law_k"] ["_law_town_here","_law_cap","_law_climbs"] [0,1,2] 1 (aM rfl T.x0 (aO aa)) (λnd=>(ah 0 nd)) aw (qC (K:=K) rfl aK (fJ T) (hr.mono (by decide)) rfl (aO (ae aK (oV T) hr (ai (wpv 1) (ai aa (ai (wpv 2) (ai (wpv 3) aN))))))))))),?_⟩;refine⟨3,rfl,by decide,by decide,mI (lo:=0) (n:=3) (λi us H'=>c_ H' t r/\Mv [t,r] H H'/\us.length=i/\∀ (j:Nat) (v:V),us[j]?=some v->∃ ps y z,sk K (cut [t,r] H') ps v/\Pts ps/\ps[0]?=some y/\ps.getLast?=some z/\z.1=60/\z.2<=cap) ⟨tw,Mv.refl,rfl,λj v e=>by simp at e⟩ (by decide) (λi us H' _ ⟨_,_,e,_⟩=>by omega) (λi us H' hi ⟨tw',mv',e,hc⟩ R S kk _=>?_) (λus H' ⟨tw',mv',e,hc⟩=>?_)⟩
  ·refine bQ (B:=S H') ⟨_,rfl,_,rfl,_,rfl,t,r,60,cap,c,rfl,tw',by decide,by decide,c1,c2,λL ps z xs H1 hL hxs hp hz z1 z2 nL tw1 mv1=>?_⟩;refine λC a dx hC ha hdx hne=>?_
   generalize e0:upd (upd H1 dx _) a _=H5;have s5:=CT ha hdx hne e0;have gv:=mf e0;refine⟨a,C,dx,.ref L,ps,rfl,hC,gv,IsD.same s5 (.lst (.inl hL) hxs),hp,λH6 mv6 cv6 cT6=>⟨rfl,kk _ _ ?_⟩⟩;have s6:aj H1 H6:=λb' o e=>mv6 _ _ (s5 _ _ e) (λz=>by rw[Ii.mp z,ha] at e;cases e)
   refine⟨tw1.same s6,(mv'.trans mv1).trans (Mv.of s6),by rw[IL,e];rfl,λj v ej=>?_⟩;rcases kM ej with ⟨_,ej⟩|⟨rfl,rfl⟩
   ·obtain⟨ps',y,z',h1,h2⟩:=hc j v ej;exact⟨ps',y,z',(h1.same mv1.cut).same (aj.cut s6),h2⟩
   ·exact⟨ps,ps[0]'(by have:=hp.two;omega),z,cT6 [t,r] (tw1.lists.same s5),hp,ID _,hz,z1,z2⟩
  ·intro D hD;obtain⟨u0,u1,u2,rfl⟩:=GH e;obtain⟨p0,y0,z0,a0,b0,c0,d0,e0,f0⟩:=hc 0 u0 rfl;obtain⟨p1,y1,z1,a1,b1,c1',d1,e1,f1⟩:=hc 1 u1 rfl;obtain⟨p2,y2,z2,a2,b2,c2',d2,e2,f2⟩:=hc 2 u2 rfl;have sD:=aj.new (o:=.lst [u0,u1,u2]) hD;refine q D [u0,u1,u2] ⟨p0,p1,p2⟩ _ (j0 mv' hD (tw'.not hD)) ac (tw'.not hD) ⟨rfl,λi v ei=>?_⟩ (λi hi=>?_) (tw'.same sD) (mv'.trans (Mv.of sD))
   ·rcases at3 ei with ⟨rfl,rfl⟩|⟨rfl,rfl⟩|⟨rfl,rfl⟩
    ·exact a0.same (aj.cut sD)
    ·exact a1.same (aj.cut sD)
    ·exact a2.same (aj.cut sD)
   ·match i,hi with
    |0,_=>exact⟨b0,y0,z0,c0,d0,e0,f0⟩
    |1,_=>exact⟨b1,y1,z1,c1',d1,e1,f1⟩
    |2,_=>exact⟨b2,y2,z2,c2',d2,e2,f2⟩
theorem bA:am ["_law_town_here","_law_bright","_law_dark","_law_edges","_law_curves_here","_law_square_here","_law_table"] ["_law_town_here"] (ag gi):=scM
structure LP (K:Ia)(t r:Iv)(P:C3)(b:S9 ⊕ (Kn->R3))(e:En)(cl:Iv)(us:List V)(pv sv dv:V)(H:Hp):Prop where
 tw:c_ H t r
 nc:cl∉[t,r]
 hl:H cl=some (.lst us)
 hc:kF K (cut [t,r] H) P us
 hb:match b with
  |.inl s=>D8 K (cut [t,r,cl] H) P s.cp e pv/\IsD K (cut [t,r] H) s.d sv/\s.In/\P.In 1000
  |.inr f=>CW K (cut [t,r,cl] H) P f e pv/\sv=.non/\(∃ d,dv=.ref d/\Gr K H 2 f d)/\WtB 2 f/\P.In 60
def nE (K:Ia):Sp:=λvs H Q _=>∃ (t r:Iv),vs=[.ref t]/\c_ H t r/\∀ (Tp cl:Iv) (us:List V) (P:C3) (b:S9 ⊕ (Kn->R3)) (e:En) (pv sv dv ev:V) (H':Hp),H' Tp=some (.tup [pv,.ref cl,sv,dv,ev])->LP K t r P b e cl us pv sv dv H'->IsD K H' (.tuple [gE false e.w,gE false e.b]) ev->e.In->Mv [t,r] H H'->Q (.ref Tp) H'
theorem mJ (T:Glo K mg w):Cal P w K mg base CX0 11 "_law_profile" ["_law_town_here"] [] (nE K):=by
 refine T.x35.cal bA (λvs H Q E h=>?_) (λf cdv A outer s H vs Q E hr h=>?_)
 ·obtain⟨t,r,rfl,_⟩:=h;rfl
 ·obtain⟨t,r,rfl,tw,q⟩:=h;refine⟨_,(WSs.go (ab (gY (ae aK (sg T) hr (aO (wpv 0))) (dF (K:=K) (n:=2) rfl rfl (av (ah 1 bA.nd) (av (ah 2 bA.nd) bt))))
   (ab (au 3 bA.nd (vX (K:=K) rfl aK (fU T) (hr.mono (by decide)) rfl (iR (wpv 1) (iR (wpv 2) nU))))
   (ab (a_ (aU eE (ae aK (az T) hr (aR (wpv 0) aa)) aa (aX _)) (ab (au 4 bA.nd (ae aK (iS T) hr (ai (wpv 0) (ai (ae aK (eG T) hr (aR (wpv 0) (ce (aR aa aa)))) (ai (bM eE (ae aK (az T) hr (aR (wpv 0) aa)) aa (aX _)) aN)))))
   (ab (au 5 bA.nd (ae aK (oF T) hr (aO (wpv 0))))
   (af (ap (aI (ai (sM (K:=K) rfl aK (fG T) (hr.mono (by decide)) rfl (aR (wpv 4) (wpv 5)) (iR (wpv 3) nU)) (ai (wpv 4) (ai (wpv 5) (ai lf (ai (aI (aR (wpv 1) (wpv 2))) aN)))))))))) aE)
   (ab (au 4 bA.nd (ae aK (iS T) hr (ai (wpv 0) (ai aa (ai (bM eE (ae aK (az T) hr (aR (wpv 0) aa)) aa (aX _)) aN)))))
   (ab (au 6 bA.nd (ae aK (t6 T) hr (aR (wpv 0) aa)))
   (af (ap (aI (ai (sM (K:=K) rfl aK (fX T) (hr.mono (by decide)) rfl (aR (wpv 4) (qC (K:=K) rfl aK (fV T) (hr.mono (by decide)) rfl (aR aa (wpv 6)))) (iR (wpv 3) nU)) (ai (wpv 4) (ai lf (ai (wpv 6) (ai (aI (aR (wpv 1) (wpv 2))) aN)))))))))))))),?_⟩
  refine⟨_,rfl,t,r,rfl,tw,λv e H1 hv ie tw1 mv1=>?_⟩;obtain⟨ea,xs,rfl,hea,hes⟩:=aH (b:=false) (ds:=[gE false e.w,gE false e.b]) hv;obtain⟨x,y,rfl,hx,hy⟩:=D6 hes;refine⟨ea,_,rfl,hea,rfl,_,_,rfl,_,_,rfl,rfl,_,rfl,_,rfl,λC1 a1 dx1 hC1 ha1 hdx1 hne1=>?_⟩;generalize e0:upd (upd H1 dx1 _) a1 _=H2;have s2:=CT ha1 hdx1 hne1 e0;have gv:=mf e0;refine⟨a1,C1,dx1,x,y,e,rfl,hC1,gv,IsD.same s2 hx,IsD.same s2 hy,ie,λH3 mv3 en=>⟨rfl,?_⟩⟩;have s3:aj H1 H3:=λb' o z=>mv3 _ _ (s2 _ _ z) (λw=>by rw[Ii.mp w,ha1] at z;cases z)
  replace tw:=tw1.same s3;have mv:=mv1.trans (Mv.of s3);replace hx:=IsD.same s3 hx;replace hy:=IsD.same s3 hy;clear s2 gv mv3 s3 tw1 mv1 hv hea hes ha1 hdx1 hne1;have s64:∀ {n:Int},0<n->n<100000->Sm 8000 n:=λh1 h2=>Sm.mono (k:=20) (by unfold Sm;omega) (by decide)
  refine⟨_,rfl,t,r,2,rfl,tw,by decide,s64 (by decide) (by decide),λx0 H4 a0 b0 tw4 mv4=>⟨_,_,rfl,rfl,_,rfl,?_⟩⟩;replace en:=en.mv mv4 tw.lists;replace hx:=IsD.mv mv4 tw.lists rfl hx;replace hy:=IsD.mv mv4 tw.lists rfl hy;replace mv:=mv.trans mv4;clear tw mv4;refine lF (λhc=>?_) (λhc=>?_)
  ·refine⟨_,rfl,_,rfl,le2,λp hp=>?_⟩;generalize e0:upd H4 p _=H5;have s5:=tT hp e0;have gp:=mf e0;have np:=tw4.not hp;refine⟨t,r,p,_,rfl,tw4.same s5,gp,λz=>np (by simp[z]),λz=>np (by simp[z]),by simp,by show 2<=1000;decide,λi v H6 ev tw6 mv6=>?_⟩;obtain⟨cap,rfl,c1,c2⟩:∃ cap:Int,v=.int cap/\1<=cap/\cap<=1000:=by
    have m:=IM ev;simp only[Iy,IW,KS] at m;rcases m with rfl|rfl
    ·exact⟨60,rfl,by decide,by decide⟩
    ·exact⟨1000,rfl,by decide,by decide⟩
   have mv6':=(Mv.of (T:=[t,r]) s5).trans mv6;refine⟨_,rfl,t,r,2,rfl,tw6,by decide,s64 (by decide) (by decide),λx1 H7 a2 b2 tw7 mv7=>⟨_,_,rfl,rfl,t,r,cap,_,rfl,tw7,c1,c2,λD us P H8 hD gD nD c3 pin tw8 mv8=>?_⟩⟩;refine⟨_,rfl,t,r,rfl,tw8,λsv s H9 hs si tw9 mv9=>?_⟩;have m49:=((mv6'.trans mv7).trans mv8).trans mv9;replace en:=en.mv m49 tw4.lists;replace hx:=IsD.mv m49 tw4.lists rfl hx;replace hy:=IsD.mv m49 tw4.lists rfl hy;replace mv:=mv.trans m49;replace gD:=mv9 _ _ gD nD;replace c3:=c3.same mv9.cut;clear s5 gp np tw6 mv6 mv6' tw7 mv7 tw8 mv8 mv9 m49 tw4 ev hD;refine⟨_,rfl,_,rfl,_,rfl,λC a dx hC ha hdx hne=>?_⟩;generalize e0:upd (upd H9 dx _) a _=H10;have s10:=CT ha hdx hne e0;have gv:=mf e0;refine⟨a,C,dx,D,sv,.ref a1,us,P,s,e,rfl,hC,gv,s10 _ _ gD,(c3.same fW).same s10,pin.mono c2,IsD.same s10 (IsD.uncut hs),si,en.same s10,ie,λH11 mv11 sp11=>⟨rfl,?_⟩⟩;have s11:aj H9 H11:=λb' o z=>mv11 _ _ (s10 _ _ z) (λw=>by rw[Ii.mp w,ha] at z;cases z)
   refine⟨_,rfl,_,rfl,_,rfl,_,rfl,le2,λp1 hp1=>⟨by show 5<=II;decide,λp2 hp2=>?_⟩⟩;have s12:=aj.new (o:=.tup [x,y]) hp1;have ge:IsD K (upd H11 p1 (.tup [x,y])) (.tuple [gE false e.w,gE false e.b]) (.ref p1):=IsD.tupN (ds:=[gE false e.w,gE false e.b]) hp1 (.cons (IsD.same s11 hx) (.cons (IsD.same s11 hy) .nil));have s13:=aj.new (o:=.tup [.ref a,.ref D,sv,.non,.ref p1]) hp2;have sA:=(s11.trans s12).trans s13;have sC:=aj.cut (T:=[t,r,D]) (s12.trans s13);have lD:cD H10 [t,r,D]:=λb m=>by
    simp only[Iy,IW,KS] at m;rcases m with rfl|rfl|rfl
    ·exact(tw9.lists.same s10) _ (by simp)
    ·exact(tw9.lists.same s10) _ (by simp)
    ·exact⟨_,s10 _ _ gD⟩
   exact q p2 D us P (.inl s) e (.ref a) sv .non (.ref p1) _ ac ⟨tw9.same sA,nD,sA _ _ gD,c3.same (aj.cut sA),⟨(sp11 [t,r,D] lD).same sC,IsD.same (aj.cut sA) hs,si,pin.mono c2⟩⟩ (IsD.same s13 ge) ie (mv.trans (Mv.of sA))
  ·refine⟨_,rfl,_,rfl,t,r,2,rfl,tw4,by decide,s64 (by decide) (by decide),λx1 H7 a2 b2 tw7 mv7=>⟨_,_,rfl,rfl,t,r,60,_,rfl,tw7,by decide,by decide,λD us P H8 hD gD nD c3 pin tw8 mv8=>?_⟩⟩;refine⟨_,rfl,t,r,2,rfl,tw8,by decide,by decide,λd f H9 gp wt tw9 mv9 nd=>?_⟩;have m49:=(mv7.trans mv8).trans mv9;replace en:=en.mv m49 tw4.lists;replace hx:=IsD.mv m49 tw4.lists rfl hx;replace hy:=IsD.mv m49 tw4.lists rfl hy;replace mv:=mv.trans m49;replace gD:=mv9 _ _ gD nD;replace c3:=c3.same mv9.cut;have gr:Gr K H9 2 f d:=⟨_,.refl _,gp⟩
   clear tw7 mv7 tw8 mv8 mv9 m49 tw4 hD nd;refine⟨_,rfl,_,rfl,λC2 g dy hC2 hg hdy hne2=>?_⟩;generalize e0:upd (upd H9 dy _) g _=H5;have s5:=CT hg hdy hne2 e0;have gv2:=mf e0;refine⟨g,C2,dy,d,2,f,rfl,hC2,gv2,gr.same s5,wt,by decide,by decide,λH6 L mv6 hg6 gL hL=>⟨rfl,_,rfl,λC a dx hC ha hdx hne=>?_⟩⟩;have s6:aj H9 H6:=λb' o z=>mv6 _ _ (s5 _ _ z) (λw=>by rw[Ii.mp w,hg] at z;cases z)
   generalize e0:upd (upd H6 dx _) a _=H10;have s10':=CT ha hdx hne e0;have gv:=mf e0;have s10:=s6.trans s10';refine⟨a,C,dx,D,.ref g,.ref a1,us,P,f,e,rfl,hC,gv,s10 _ _ gD,(c3.same fW).same s10,pin,⟨g,C2,dy,L,rfl,hC2,s10' _ _ hg6,gL.same s10'⟩,wt,en.same s10,ie,λH11 mv11 sp11=>⟨rfl,?_⟩⟩;have s11:aj H9 H11:=λb' o z=>mv11 _ _ (s10 _ _ z) (λw=>by rw[Ii.mp w] at z;rw[s6 _ _ z] at ha;cases ha)
   refine⟨_,rfl,_,rfl,_,rfl,_,rfl,le2,λp1 hp1=>⟨by show 5<=II;decide,λp2 hp2=>?_⟩⟩;have s12:=aj.new (o:=.tup [x,y]) hp1;have ge:IsD K (upd H11 p1 (.tup [x,y])) (.tuple [gE false e.w,gE false e.b]) (.ref p1):=IsD.tupN (ds:=[gE false e.w,gE false e.b]) hp1 (.cons (IsD.same s11 hx) (.cons (IsD.same s11 hy) .nil));have s13:=aj.new (o:=.tup [.ref a,.ref D,.non,.ref d,.ref p1]) hp2;have sA:=(s11.trans s12).trans s13;have sC:=aj.cut (T:=[t,r,D]) (s12.trans s13);have lD:cD H10 [t,r,D]:=λb m=>by
    simp only[Iy,IW,KS] at m;rcases m with rfl|rfl|rfl
    ·exact(tw9.lists.same s10) _ (by simp)
    ·exact(tw9.lists.same s10) _ (by simp)
    ·exact⟨_,s10 _ _ gD⟩
   exact q p2 D us P (.inr f) e (.ref a) .non (.ref d) (.ref p1) _ ac ⟨tw9.same sA,nD,sA _ _ gD,c3.same (aj.cut sA),⟨(sp11 [t,r,D] lD).same sC,rfl,⟨d,rfl,gr.same sA⟩,wt,pin⟩⟩ (IsD.same s13 ge) ie (mv.trans (Mv.of sA))
theorem ku:am ["_law_parts","_law_colour","_law_inner"] ["_law_parts","_law_colour"] (ag iL):=scM
def qk (K:Ia):Sp:=λvs H Q _=>∃ (Tp cl:Iv) (ws us:List V) (x sv dv:V) (P:C3) (b:S9 ⊕ (Kn->R3)) (c:Q3),vs=[.ref Tp,x]/\H Tp=some (.tup ws)/\ws[1]?=some (.ref cl)/\ws[2]?=some sv/\ws[3]?=some dv/\H cl=some (.lst us)/\kF K H P us/\P.In 1000/\IsD K H c.col x/\c.Wi ((60:Int):Rat)/\c.Bd 17 /\
 G7 K H P sv dv b/\∀ (r:Q3) (u:V) (H':Hp),aj H H'->yf P c r->IsD K H' (wOf b r).col u->Q u H'
theorem jQ (T:Glo K mg w):Cal P w K mg base CX0 5 "_law_worth" ["_law_parts","_law_colour"] [] (qk K):=by
 refine T.x36.cal ku (λvs H Q E h=>?_) (λf cdv A outer s H vs Q E hr h=>?_)
 ·obtain⟨Tp,cl,ws,us,x,sv,dv,P,b,c,rfl,_⟩:=h;rfl
 ·obtain⟨Tp,cl,ws,us,x,sv,dv,P,b,c,rfl,hT,e1,e2,e3,hcl,h3,hp,hx,wi,bd,hb,q⟩:=h;refine⟨_,(WSs.go (ab (au 2 ku.nd (aQ (dc (K:=K) rfl) (by rfl) T.x1 be (aO (ax ["_law_k"] ["_law_parts","_law_colour"] [0,1] 1 (aM rfl T.x0 (aO aa)) (λnd=>(ah 0 nd)) aw (ik (K:=K) rfl aK (hJ T) (hr.mono (by decide)) (ak K (ak K (wpv 1) aa) (wpv 0)) (aO (ak K (wpv 2) (wpv 0))))))))
   (af (ap (iy (aU Fc (ak K (wpv 0) aa) lf (aX _)) (ae aK (tO T) hr (ai (ak K (wpv 0) aa) (ai aa (ai (wpv 2) aN)))) (ae aK (uZ T) hr (aR (ae aK (rk T) hr (aO (ak K (wpv 0) aa))) (wpv 2)))))))),?_⟩
  obtain⟨ca,xs,rfl,hca,hxs⟩:=aH (b:=false) (ds:=c.ds) hx;refine⟨3,rfl,by decide,by decide,mI (lo:=0) (n:=3) (λi zs H'=>aj H H'/\zs.length=i/\∀ (j:Nat) (v:V),zs[j]?=some v->∃ r:Rat,OnC (P.at j) (gM c.a c.b c.c j) r/\IsD K H' (rD r) v) ⟨aj.refl _,rfl,λj v e=>by simp at e⟩ (by decide) (λi zs H' _ ⟨_,e,_⟩=>by omega) (λi zs H' hi ⟨s',e,hc⟩ R S kk _=>?_) (λzs H' ⟨s',e,hc⟩=>?_)⟩
  ·have hu:i<us.length:=by rw[h3.1];exact hi
   have eu:=ID hu;generalize us[i]=uv at eu;have hcv:=(h3.2 i uv eu).same s';obtain⟨a,C,dx,l2,rfl,hC,ha,hl2⟩:=id hcv;obtain⟨pp,yy,z,e0,ez,z1,z2⟩:=hp i hi;obtain⟨yv,ey,hyv⟩:=Fe hxs hi;have eu':us[0+i]?=some (.ref a):=by rw[KL];exact eu
   have ey':xs[0+i]?=some yv:=by rw[KL];exact ey
   refine bQ (B:=S H') ⟨_,rfl,ixB (b:=false) (i:=1) (SqT.of (s' _ _ hT)) e1 ⟨_,rfl,ixB (b:=true) (SqL.of (s' _ _ hcl)) eu' ⟨a,C,dx,_,rfl,hC,ha,rfl,_,rfl,_,rfl,ixB (b:=false) (SqB.same s' hca) ey' ⟨.ref a,yv,P.at i,_,z,rfl,hcv,IsD.same s' hyv,pp,Ok.mono (yV bd hi) (by decide),ez,(p_ wi hi).1,by rw[z1];exact(p_ wi hi).2,λw r H3 s3 on hw3=>kk _ _ ⟨s'.trans s3,by rw[IL,e];rfl,λj v ej=>?_⟩⟩⟩⟩⟩;rcases kM ej with ⟨_,ej⟩|⟨rfl,rfl⟩
   ·obtain⟨r',o',h'⟩:=hc j v ej;exact⟨r',o',IsD.same s3 h'⟩
   ·rw[e];exact⟨r,on,hw3⟩
  intro D hD;obtain⟨u0,u1,u2,rfl⟩:=GH e;obtain⟨x0,o0,h0⟩:=hc 0 u0 rfl;obtain⟨x1,o1,h1⟩:=hc 1 u1 rfl;obtain⟨x2,o2,h2⟩:=hc 2 u2 rfl;refine⟨D,_,rfl,.inl ⟨SqL.of ac,λy hy=>?_⟩⟩;have sD:=aj.new (o:=.lst [u0,u1,u2]) hD;have s1:=(s'.trans sD).trans (aj.new (o:=.tup [u0,u1,u2]) hy);have on:yf P c ⟨x0,x1,x2⟩:=⟨o0,o1,o2⟩
  have gy:IsD K (upd (upd H' D (.lst [u0,u1,u2])) y (.tup [u0,u1,u2])) (Q3.mk x0 x1 x2).col (.ref y):=IsD.tupN (ds:=(Q3.mk x0 x1 x2).ds) hy (aD.same sD (.cons h0 (.cons h1 (.cons h2 .nil))));generalize upd (upd H' D (.lst [u0,u1,u2])) y (.tup [u0,u1,u2])=H2 at s1 gy ⊢;have rb:=DD hp on bd;cases b with
  |inl s=>
   obtain⟨hs,si⟩:=hb;obtain⟨sa,ss,rfl,hsa,hss⟩:=aH hs;refine⟨_,rfl,ixB (b:=false) (i:=2) (SqT.of (s1 _ _ hT)) e2 ⟨rfl,_,rfl,cQ ?_⟩⟩;refine⟨_,rfl,ixB (b:=false) (i:=2) (SqT.of (s1 _ _ hT)) e2 ⟨.ref sa,s,rfl,IsD.same s1 hs,si,λv H3 s3 hv=>?_⟩⟩;exact⟨_,rfl,v,.ref y,s.m,_,rfl,hv,IsD.same s3 gy,(ES si).mono (by decide),rb.mono (by decide),λw H4 s4 hw=>q _ w H4 ((s1.trans s3).trans s4) on hw⟩
  |inr f=>
   obtain⟨rfl,⟨d,rfl,hd⟩,wt,h60⟩:=hb;refine⟨_,rfl,ixB (b:=false) (i:=2) (SqT.of (s1 _ _ hT)) e2 ⟨rfl,_,rfl,bQ ?_⟩⟩;exact⟨_,rfl,ixB (b:=false) (i:=3) (SqT.of (s1 _ _ hT)) e3 ⟨_,rfl,.ref y,d,2,f,_,400,rfl,hd.same s1,wt,gy,EU h60 on wi,rb,by decide,by decide,by decide,λw H3 s3 hw=>q _ w H3 (s1.trans s3) on hw⟩⟩
theorem lA:am ["_law_script","_law_town_here","_law_parts","_law_profile_here","_law_curves_here","_law_turn","_law_colour","_law_told","_law_bright"] ["_law_script"] (ag pW):=scM
structure V19 (K:Ia)(t r cl cc Tp:Iv)(P:C3)(b:S9 ⊕ (Kn->R3))(e:En)(us:List V)(pv sv dv ev:V)(H:Hp):Prop where
 tw:c_ H t r
 hT:H Tp=some (.tup [pv,.ref cl,sv,dv,ev])
 hcc:H cc=some (.lst us)
 h3:kF K (cut [t,r] H) P us
 tb:TbI K "parts_by_four" H
 pp:P.In 1000
 hb:match b with
  |.inl s=>D8 K (cut [t,r,cl] H) P s.cp e pv/\IsD K (cut [t,r] H) s.d sv/\s.In
  |.inr f=>CW K (cut [t,r,cl] H) P f e pv/\sv=.non/\(∃ d,dv=.ref d/\Gr K H 2 f d)/\WtB 2 f/\P.In 60
section
variable {K:Ia}{t r cl cc Tp:Iv}{P:C3}{b:S9 ⊕ (Kn->R3)}{e:En}{us:List V}{pv sv dv ev:V}{H H':Hp}
theorem V19.mv (h:V19 K t r cl cc Tp P b e us pv sv dv ev H)(m:Mv [t,r] H H')(tw:c_ H' t r)(nc:cc∉[t,r]):V19 K t r cl cc Tp P b e us pv sv dv ev H':=by
 obtain⟨a1,a2,a3,a4,a5,a6,a7⟩:=h;refine⟨tw,m _ _ a2 (a1.lists.not a2 λ_ z=>nomatch z),m _ _ a3 nc,a4.same m.cut,a5.mv m a1.lists,a6,?_⟩;cases b with
 |inl s=>exact⟨a7.1.same m.wide.cut,IsD.same m.cut a7.2.1,a7.2.2⟩
 |inr f=>
  obtain⟨b1,b2,⟨d,b3,b4⟩,b5⟩:=a7;exact⟨b1.same m.wide.cut,b2,⟨d,b3,b4.mv m a1.lists⟩,b5⟩
theorem V19.same (h:V19 K t r cl cc Tp P b e us pv sv dv ev H)(s:aj H H'):V19 K t r cl cc Tp P b e us pv sv dv ev H':=by
 obtain⟨a1,a2,a3,a4,a5,a6,a7⟩:=h;refine⟨a1.same s,s _ _ a2,s _ _ a3,a4.same (aj.cut s),a5.same s,a6,?_⟩;cases b with
 |inl q=>exact⟨a7.1.same (aj.cut s),IsD.same (aj.cut s) a7.2.1,a7.2.2⟩
 |inr f=>
  obtain⟨b1,b2,⟨d,b3,b4⟩,b5⟩:=a7;exact⟨b1.same (aj.cut s),b2,⟨d,b3,b4.same s⟩,b5⟩
theorem V19.own (h:V19 K t r cl cc Tp P b e us pv sv dv ev H):G7 K H P sv dv b:=by
 have a7:=h.hb;cases b with
 |inl s=>exact⟨IsD.uncut a7.2.1,a7.2.2⟩
 |inr f=>exact a7.2
theorem CM {ta:TA}{σ:L2.St}{Q:VK}{c:Q3} (h:V19 K t r cl cc Tp P b e us pv sv dv ev H) (h3:σ[3]?=some (some pv)) (hta:∀ R:List V->Hp->Prop,(∀ x H',aj H H'->IsD K H' c.col x->R [x] H')->ta σ H R) (wi:c.Wi ((60:Int):Rat)) (bd:c.Bd 17)
  (q:∀ (r:Q3) (u:V) (H':Hp),aj H H'->yf P c r->IsD K H' (wOf b r).col u->(wOf b r).Bd 3900->Q u H'):
  Bh K "SquareProfile" "to_worth" (cK K) [] E0 (yx 3) ta σ H Q\/Bh K "GridProfile" "to_worth" (cR K) [] E0 (yx 3) ta σ H Q:=by
 have a7:=h.hb;cases b with
 |inl s=>
  have sp:=a7.1.same fW;obtain⟨a,C,dx,l,vs,q1,en,rfl,hC,ha,r1⟩:=id sp;refine .inl ⟨_,h3,a,C,dx,_,rfl,hC,ha,rfl,hta _ λx H1 s1 hx=>?_⟩;exact⟨.ref a,x,P,s.cp,e,c,rfl,sp.same s1,h.pp,a7.2.2.cp,hx,wi,bd,λr u H2 s2 on rb hu=>q r u H2 (s1.trans s2) on hu ((Fj (ES a7.2.2) rb).mono (by decide))⟩
 |inr f=>
  have sp:=a7.1.same fW;obtain⟨a,C,dx,l,vs,q1,en,rfl,hC,ha,r1⟩:=id sp;refine .inr ⟨_,h3,a,C,dx,_,rfl,hC,ha,rfl,hta _ λx H1 s1 hx=>?_⟩;exact⟨.ref a,x,P,f,e,c,rfl,sp.same s1,a7.2.2.2.2,a7.2.2.2.1,hx,wi,bd,h.tb.same s1,λr u H2 s2 on _ _ hu b4=>q r u H2 (s1.trans s2) on hu b4⟩
end
theorem Fn (T:Glo K mg w){f:Iv}{fd:JS}(F:Fun K "law" "law" pW f fd):oC P w K mg base CX0 12 f fd ["_law_script"] (rV ["parts_by_four"] K):=by
 refine Fun.okX F lA (λvs H Q E h=>?_) (λcdv A outer s H vs Q E hr h=>?_)
 ·obtain⟨a,ns,rfl,_⟩:=h;rfl
 ·obtain⟨a,ns,rfl,hS,hl,hT,q⟩:=h;refine⟨_,(WSs.go (ab (au 1 lA.nd (ae aK (q9 T) hr (aO (wpv 0))))
   (ab (au 2 lA.nd (ae aK (mJ T) hr (aO (wpv 1))))
   (ab (k_ (i:=3) (j:=4) rfl lA.nd rfl rfl (by decide) rfl rfl (aR (ak K (wpv 2) aa) (aQ (jO (K:=K) rfl) (by rfl) T.x7 f8 (aO (ak K (wpv 2) aa)))) rfl)
   (ab (bo (pG Kd Ka KD iH (ak K (wpv 2) aa) (aO lf)))
   (ab (dX Jq rfl (aM rfl T.x0 (aO aa)) (ah 5 lA.nd) (ab (au 6 lA.nd (ae aK (qG T) hr (aR (wpv 1) aa)))
   (ab (au 7 lA.nd (o7 (ik (K:=K) rfl aK (cJ T) (hr.mono (by decide)) (wpv 3) (aO (wpv 6))) (ik (K:=K) rfl aK (cV T) (hr.mono (by decide)) (wpv 3) (aO (wpv 6)))))
   (af (a_ (WW.pt (eI (aV (aS (ae aK (l6 T) hr (aO (wpv 7))))) (dD (aU (Gp (K:=K) rfl hr.units) (wpv 7) (ae aK (jQ T) hr (aR (aI (ai lf (ai (wpv 4) (ai (ak K (wpv 2) aa) (ai (ak K (wpv 2) aa) aN))))) (wpv 6))) (aX _))))) (af (ap iX)) aE)))))
   (ab (au 8 lA.nd (o7 (ik (K:=K) rfl aK (cJ T) (hr.mono (by decide)) (wpv 3) (aO (ar qp (aI (aO (aI (aR aa aa)))) aa))) (ik (K:=K) rfl aK (cV T) (hr.mono (by decide)) (wpv 3) (aO (ar qp (aI (aO (aI (aR aa aa)))) aa)))))
   (af (ap (bM (AA (K:=K) rfl hr.units) (wpv 8) (ae aK (jQ T) hr (aR (aI (ai lf (ai (wpv 4) (ai (ak K (wpv 2) aa) (ai (ak K (wpv 2) aa) aN))))) (ar qp (aI (aO (aI (aR aa aa)))) aa))) (aX _))))))))))),?_⟩
  refine⟨_,rfl,a,ns,rfl,hS,hl,λt r H0 s0 _ _ tw0=>?_⟩;have tb0:=(hT "parts_by_four" (by simp)).same s0;clear hT hS hl s0;refine⟨_,rfl,t,r,rfl,tw0,λTp cl us P b e pv sv dv ev H1 hT lp _ ie mv1=>?_⟩;have tb1:=tb0.mv mv1 tw0.lists;clear tb0 mv1 tw0;refine⟨_,rfl,ixB (b:=false) (i:=0) (SqT.of hT) rfl ⟨_,rfl,ixB (b:=false) (i:=1) (SqT.of hT) rfl ⟨cl,us,rfl,.inl (SqL.of lp.hl),λcc hcc=>?_⟩⟩⟩;refine⟨_,_,rfl,?_⟩;generalize e0:upd H1 cc _=H2;have s2:=tT hcc e0;have hc2:=mf e0;have ncc:cc∉[t,r]:=lp.tw.not hcc;have ncl:cl≠cc:=λz=>by rw[<- z,lp.hl] at hcc;cases hcc
  refine⟨_,rfl,ixB (b:=false) (i:=1) (SqT.of (s2 _ _ hT)) rfl ⟨.inl ⟨rfl,_,SqL.of (s2 _ _ lp.hl)⟩,cl,us,.non,rfl,rfl,s2 _ _ lp.hl,by rw[lp.hc.1];decide,?_⟩⟩;have s64:∀ {n:Int},0<n->n<100000->Sm 8000 n:=λh1 h2=>Sm.mono (k:=20) (by unfold Sm;omega) (by decide)
  have V:V19 K t r cl cc Tp P b e us pv sv dv ev (upd H2 cl (.lst (us++[.non]))):=by
   obtain⟨l1,l2,l3,l4,l5⟩:=lp;have hl2:=s2 _ _ l3;obtain⟨u0,hu0⟩:∃ u0,us[0]?=some u0:=⟨us[0]'(by rw[l4.1];decide),ID _⟩
   obtain⟨x0,C0,dx0,_,e0,_,hx0,_⟩:=(l4.2 0 u0 hu0).same (aj.cut s2);subst e0;have m:Mv [cl] H2 (upd H2 cl (.lst (us++[.non]))):=λb' o z nb=>by rw[ao (λw=>nb (by simp[w]))];exact z
   have mc:Mv [cl] (cut [t,r] H2) (cut [t,r] (upd H2 cl (.lst (us++[.non])))):=λb' o z nb=>by
    rw[jF l2,ao (λw=>nb (by simp[w]))];exact z
   have hlc:cut [t,r] H2 cl=some (.lst us):=by rw[fh l2];exact hl2
   have sc:aj (cut [t,r,cl] H2) (cut [t,r,cl] (upd H2 cl (.lst (us++[.non])))):=Mv.cut (λb' o z nb=>m _ _ z λw=>nb (by simp[Ii.mp w]));refine⟨(l1.same s2).put l2,?_,?_,(l4.same (aj.cut s2)).offL hlc hu0 hx0 mc,?_,?_,?_⟩
   ·have:=s2 _ _ hT;rw[ao (λz=>by rw[z,hl2] at this;cases this)];exact this
   ·rw[ao (KH ncl)];exact hc2
   ·obtain⟨Pa,ha,hb⟩:=tb1.same s2;exact⟨Pa,ha,by rw[ao (λz=>by rw[z,hl2] at hb;cases hb)];exact hb⟩
   ·cases b with
    |inl s=>exact l5.2.2.2
    |inr f=>exact l5.2.2.2.2.mono (by decide)
   ·cases b with
    |inl s=>exact⟨(l5.1.same (aj.cut s2)).same sc,IsD.offL hlc hu0 hx0 mc (IsD.same (aj.cut s2) l5.2.1),l5.2.2.1⟩
    |inr f=>
     obtain⟨b1,b2,⟨d,b3,ts,pm,vs,b4,b5⟩,b6⟩:=l5;have b4':=s2 _ _ b4;exact⟨(b1.same (aj.cut s2)).same sc,b2,⟨d,b3,ts,pm,vs,m _ _ b4' (λz=>by rw[Ii.mp z,hl2] at b4';cases b4'),aD.offL hl2 hu0 (fW _ _ hx0) m (aD.same s2 b5)⟩,b6⟩
  generalize upd H2 cl (.lst (us++[.non]))=H3 at V ⊢;clear hc2 s2 hcc tb1 lp hT;refine⟨5,rfl,by decide,by decide,gk (lo:=0) (n:=5) (λj σ H'=>(∃ p0 p1 p2,σ=[some (.ref a),some (.ref t),some (.ref Tp),some pv,some (.ref cc),p0,p1,p2,none])/\V19 K t r cl cc Tp P b e us pv sv dv ev H')
   ⟨⟨_,_,_,rfl⟩,V⟩ ?_ ?_⟩
  ·clear V;rintro j σ H1 hj ⟨⟨p0,p1,p2,rfl⟩,V⟩;refine⟨_,rfl,t,r,60,rfl,V.tw,by decide,by decide,λcv c H2 hc wi bd tw2 mv2=>?_⟩;replace V:=V.mv mv2 tw2 ncc;clear mv2 tw2;refine CM V rfl (λR k=>⟨_,rfl,k _ _ (aj.refl _) hc⟩) wi bd λq u H3 s3 on hu bq=>?_
   replace V:=V.same s3;replace hc:=IsD.same s3 hc;refine⟨_,rfl,u,_,rfl,hu,bq,λH4 s4=>⟨_,rfl,cQ ?_⟩⟩;replace V:=V.same s4;replace hc:=IsD.same s4 hc;replace hu:=IsD.same s4 hu;refine⟨_,rfl,_,rfl,_,rfl,ixB (b:=false) (i:=2) (SqT.of V.hT) rfl ⟨_,rfl,ixB (b:=false) (i:=3) (SqT.of V.hT) rfl ⟨le4,λp hp=>?_⟩⟩⟩;generalize e0:upd H4 p _=H5;have s5:=tT hp e0;have g5:=mf e0;replace V:=V.same s5;refine⟨_,rfl,p,cc,_,us,cv,sv,dv,P,b,c,rfl,g5,rfl,rfl,rfl,V.hcc,V.h3.same fW,V.pp,IsD.same s5 hc,wi,bd,V.own,λq' u' H6 s6 on' hu'=>?_⟩;obtain rfl:=tH V.pp on on';refine⟨_,_,IsD.same (s5.trans s6) hu,hu',rfl,rfl,false,by rw[Ci rfl];rfl,cQ ⟨⟨_,_,_,rfl⟩,V.same s6⟩⟩
  rintro σ H1 ⟨⟨p0,p1,p2,rfl⟩,V1⟩;clear V;have wi:(Q3.mk ((60:Int):Rat) ((60:Int):Rat) ((60:Int):Rat)).Wi ((60:Int):Rat):=⟨by decide +kernel,Oe,by decide +kernel,Oe,by decide +kernel,Oe⟩
  have b60:Bq 17 ((60:Int):Rat):=lB (by unfold Sm;decide) (by decide);have col:∀ {H:Hp}{R:V->Hp->Prop},(∀ x H',aj H H'->IsD K H' (Q3.mk ((60:Int):Rat) ((60:Int):Rat) ((60:Int):Rat)).col x->R x H')->∀ p,H p=none->∀ p1,upd H p (.tup [.int 60,.int 1]) p1=none->∀ p2,upd (upd H p (.tup [.int 60,.int 1])) p1 (.tup [.ref p]) p2=none->R (.ref p2) (upd (upd (upd H p (.tup [.int 60,.int 1])) p1 (.tup [.ref p])) p2 (.tup [.ref p,.ref p,.ref p])):=λ{H R} k p hp p1 hp1 p2 hp2=>by
   have h0:IsD K (upd H p (.tup [.int 60,.int 1])) (rD ((60:Int):Rat)) (.ref p):=by rw[rn];exact nj ac
   have h1:=IsD.same (aj.new (o:=.tup [.ref p]) hp1) h0;exact k _ _ (((aj.new hp).trans (aj.new hp1)).trans (aj.new hp2)) (IsD.tupN (ds:=(Q3.mk ((60:Int):Rat) ((60:Int):Rat) ((60:Int):Rat)).ds) hp2 (.cons h1 (.cons h1 (.cons h1 .nil))))
  refine CM V1 rfl (λR k=>⟨le2,λp hp=>⟨le1,λp1 hp1=>⟨p1,_,rfl,rfl,ac,λp2 hp2=>col (R:=λx H'=>R [x] H') k p hp p1 hp1 p2 hp2⟩⟩⟩) wi ⟨b60,b60,b60⟩ λr u H2 s2 on hu bq=>?_
  replace V1:=V1.same s2;refine⟨_,rfl,_,rfl,_,rfl,ixB (b:=false) (i:=2) (SqT.of V1.hT) rfl ⟨_,rfl,ixB (b:=false) (i:=3) (SqT.of V1.hT) rfl ⟨le4,λp hp=>?_⟩⟩⟩;generalize e0:upd H2 p _=H5;have s5:=tT hp e0;have g5:=mf e0;replace V1:=V1.same s5;refine⟨le2,λq0 hq0=>⟨le1,λq1 hq1=>⟨q1,_,rfl,rfl,ac,λq2 hq2=>?_⟩⟩⟩;obtain⟨s6,hx⟩:=col (H:=H5) (R:=λx H'=>aj H5 H'/\IsD K H' (Q3.mk ((60:Int):Rat) ((60:Int):Rat) ((60:Int):Rat)).col x) (λx H' s h=>⟨s,h⟩) q0 hq0 q1 hq1 q2 hq2;generalize upd (upd (upd H5 q0 (.tup [.int 60,.int 1])) q1 (.tup [.ref q0])) q2 (.tup [.ref q0,.ref q0,.ref q0])=H6 at s6 hx ⊢;replace V1:=V1.same s6;refine⟨p,cc,_,us,.ref q2,sv,dv,P,b,_,rfl,s6 _ _ g5,rfl,rfl,rfl,V1.hcc,V1.h3.same fW,V1.pp,hx,wi,⟨b60,b60,b60⟩,V1.own,λr' u' H7 s7 on' hu'=>?_⟩;obtain rfl:=tH V1.pp on on';refine⟨_,_,IsD.same ((s5.trans s6).trans s7) hu,hu',rfl,rfl,?_⟩;rw[Ci rfl];exact q _
end
structure HR (K:Ia):Prop where
 xh:Iw K Ik "abs"=some none
 x6:Iw K Ik "all"=some none
 xi:Iw K Ik "bool"=some none
 xj:Iw K Ik "dict"=some none
 xk:Iw K Ik "int"=some none
 x3:Iw K Ik "isinstance"=some none
 x2:Iw K Ik "len"=some none
 x7:Iw K Ik "list"=some none
 xz:Iw K Ik "max"=some none
 xc:Iw K Ik "min"=some none
 x0:Iw K Ik "range"=some none
 xl:Iw K Ik "set"=some none
 xf:Iw K Ik "sorted"=some none
 x10:Iw K Ik "str"=some none
 xm:Iw K Ik "sum"=some none
 x1:Iw K Ik "tuple"=some none
 x8:Iw K Ik "zip"=some none
structure Ht (K:Ia):Prop where
 xo:∃ t,Iw K Ik "FEWEST_KNOTS"=some (some (.int 2 t))
 xp:∃ t,Iw K Ik "FEWEST_POINTS"=some (some (.int 2 t))
 xq:∃ t,Iw K Ik "GREATEST_TO_SQUARE"=some (some (.int 1000 t))
 xr:∃ t,Iw K Ik "GREATEST_curves"=some (some (.int 1000 t))
 xs:∃ t,Iw K Ik "GREATEST_grids"=some (some (.int 1000 t))
 xg:∃ t,Iw K Ik "GREATEST_squares"=some (some (.int 4000 t))
 xt:∃ t,Iw K Ik "MOST_KNOTS"=some (some (.int 7 t))
 xu:∃ t,Iw K Ik "MOST_POINTS"=some (some (.int 12 t))
 xe:∃ t,Iw K Ik "REACH"=some (some (.int 60 t))
 xv:∃ t,Iw K Ik "UNIT"=some (some (.int 1000 t))
structure Hz (K:Ia):Prop where
 x5:ma K "Curve" ["points"]=true
 x9:ma K "Ends" ["white","black"]=true
 x4:ma K "Grid" ["knots","table"]=true
 xa:ma K "GridProfile" ["curves","grid","bounds"]=true
 xb:ma K "SquareProfile" ["curves","square","bounds"]=true
 xw:icB K "Curve"=true
 xx:icB K "Ends"=true
 xy:icB K "Grid"=true
structure RawD (K:Ia):Prop where
 x11:AtD K "is_whole" kP
 x12:AtD K "is_whole_within" dQ
 x13:AtD K "is_tuple_within" dJ
 x14:AtD K "greatest_measure" dA
 x15:AtD K "is_share" lg
 x16:AtD K "refuse_no_share" dI
 x18:AtD K "added" vf
 x19:AtD K "multiplied" im
 x1a:AtD K "floor_of" kY
 x1b:AtD K "is_less" mX
 x1c:AtD K "sum_of" pO
 x1d:AtD K "is_within" jr
 x1e:AtD K "over_one_below" eT
 x1f:AtD K "is_colour" iY
 x1g:AtD K "is_row" pS
 x1h:AtD K "is_square" jq
 x1i:AtD K "refuse_no_square" dk
 x1j:AtD K "refuse_no_colour" dh
 x1k:AtD K "whole_sum" jd
 x1l:AtD K "share_sum" jG
 x1m:AtD K "led" Ea
 x1n:AtD K "is_knots" kL
 x1o:AtD K "is_knot" nN
 x1p:AtD K "is_worth" kW
 x1q:AtD K "apart" uF
 x1r:AtD K "is_table" kG
 x1s:AtD K "refuse_no_device_colour" b_
 x1t:AtD K "places_below" gg
 x1u:AtD K "moved" uj
 x1v:AtD K "parts_by_eight" eO
 x1w:AtD K "is_way" qF
 x21:AtD K "is_point" kQ
 x22:AtD K "is_onward" jg
 x23:AtD K "is_points" ji
 x24:AtD K "stretch_to" ix
 x25:AtD K "on_line" m7
 x2a:AtD K "is_curve_to" gX
 x2b:AtD K "is_curves" jI
 x2c:AtD K "refuse_no_curves" dE
 x2d:AtD K "refuse_no_bounds" dw
 x2e:AtD K "copied_curves" fv
 x2f:AtD K "copied_ends" gG
 x2g:AtD K "values_at" jL
 x2j:AtD K "_law_town" jB
 x2k:AtD K "_law_draw" jJ
 x2l:AtD K "_law_pick" je
 x2m:AtD K "_law_whole" iF
 x2n:AtD K "_law_low" kK
 x2o:AtD K "_law_plus" jh
 x2p:AtD K "_law_less" jm
 x2q:AtD K "_law_times" il
 x2r:AtD K "_law_below" ib
 x2s:AtD K "_law_share" iK
 x2t:AtD K "_law_three" iJ
 x2u:AtD K "_law_is_share" fI
 x2v:AtD K "_law_is_three" fE
 x2w:AtD K "_law_points" gK
 x2x:AtD K "_law_square" gR
 x2y:AtD K "_law_led" kO
 x2z:AtD K "_law_over" i9
 x30:AtD K "_law_grid" jk
 x31:AtD K "_law_cell" jK
 x32:AtD K "_law_four" iZ
 x33:AtD K "_law_ends" i8
 x34:AtD K "_law_curves" gW
 x35:AtD K "_law_profile" gi
 x36:AtD K "_law_worth" iL
structure Hr (K:Ia):Prop where
 x1x:AtM K "Grid" "__init__" "Grid.__init__" dP
 x1y:AtM K "Grid" "knot" "Grid.knot" gU
 x1z:AtM K "Grid" "size" "Grid.size" gI
 x20:AtM K "Grid" "mixed" "Grid.mixed" gf
 x26:AtM K "Curve" "__init__" "Curve.__init__" dC
 x27:AtM K "Curve" "last" "Curve.last" fY
 x28:AtM K "Curve" "value" "Curve.value" eY
 x29:AtM K "Curve" "ends" "Curve.ends" gh
 x2h:AtM K "SquareProfile" "to_worth" "SquareProfile.to_worth" bV
 x2i:AtM K "GridProfile" "to_worth" "GridProfile.to_worth" cq
set_option autoImplicit true in
set_option relaxedAutoImplicit true in
theorem all_mk {l:OL}{w:Jm}{K:Ia}{h:Kl}{mg:Str->Option Ih}{fa:Iv}{tA:List Iv} (X:K.In h) (G:h.Ns Ik mg) (hfa:mg "law"=some (.ref fa))
  (RN:HR K)
  (RG:Ht K)
  (RB:Hz K)
  (RD:RawD K)
  (RM:Hr K)
  (pC:Iw K Ik "Grid"=some (some (.ref EF)))
  (wm:Iw K Ik "Ends"=some (some (.ref Er)))
  (du:Iw K Ik "SquareProfile"=some (some (.ref nR)))
  (eV:Iw K Ik "GridProfile"=some (some (.ref qO)))
  (pY:Iw K Ik "share"=some (some (.ref zX)))
  (pZ:K.lookup zX=some ⟨F0,FY,.func (IH "share" "share" (aJ gH) (aF gH) (ag gH) (.ref D0) FS FW FU FX Br FV),F2⟩)
  (pM:I_ K Br "share"=true)
  (qA:IU K (.ref zX)=true)
  (qI:K.lookup D0=some AR)
  (qc:AR.data=.seq #[.int 1 Ba] GB)
  (bL:Iw K Ik "parts_by_four"=some (some (.ref fu)))
  (de:K.lookup fu=some ⟨xS,xQ,.func (IH "parts_by_four" "parts_by_four" (aJ cu) (aF cu) (ag cu) .none xR xN xK xO (.ref eR) xP),xM⟩)
  (e6:I_ K (.ref eR) "parts_by_four"=true)
  (fA:IU K (.ref fu)=true)
  (cW:K.lookup eR=some ⟨.type "code",xA,.fields lZ,wC⟩)
  (cY:Ds lZ eR cX)
  (eK:K.lookup cX=none)
  (eQ:cX∈tA)
  (dZ:IQ K (.ref EF) "worth"=some (some (.ref f6)))
  (eB:K.lookup f6=some ⟨zq,An,.func (IH "worth" "Grid.worth" (aJ ci) (aF ci) (ag ci) .none (.ref nQ) xV yA yQ mr Aq),yb⟩)
  (ef:I_ K mr "Grid.worth"=true)
  (d_:IU K (.ref f6)=true)
  (eA:Ky K (.ref f6)=true)
  (fe:K.lookup nQ=some ⟨.type "dict",none,.dict #[⟨xL,.str "way" xU,.str "four" lK⟩] xT,#[]⟩)
  (dR:IQ K (.ref Er) "__init__"=some (some (.ref dO)))
  (dM:K.lookup dO=some ⟨vU,wc,.func (IH "__init__" "Ends.__init__" (aJ bI) (aF bI) (ag bI) .none vV vk vY vO jT vS),vF⟩)
  (dN:I_ K jT "Ends.__init__"=true)
  (dU:IU K (.ref dO)=true)
  (dY:Ky K (.ref dO)=true)
  (bX:IQ K (.ref nR) "__init__"=some (some (.ref bW)))
  (bS:K.lookup bW=some ⟨mR,nF,.func (IH "__init__" "SquareProfile.__init__" (aJ aL) (aF aL) (ag aL) .none nS mL n0 mB fF mw),nG⟩)
  (bT:I_ K fF "SquareProfile.__init__"=true)
  (bU:IU K (.ref bW)=true)
  (bR:Ky K (.ref bW)=true)
  (cA:IQ K (.ref qO) "__init__"=some (some (.ref cy)))
  (cn:K.lookup cy=some ⟨n5,ot,.func (IH "__init__" "GridProfile.__init__" (aJ aW) (aF aW) (ag aW) .none oh oI oB oK f7 oO),n9⟩)
  (cx:I_ K f7 "GridProfile.__init__"=true)
  (cm:IU K (.ref cy)=true)
  (cr:Ky K (.ref cy)=true)
  (a_law:Iw K Ik "law"=some (some (.ref f_law)))
  (l_law:K.lookup f_law=some ⟨Hd,Hc,.func (IH "law" "law" (aJ pW) (aF pW) (ag pW) .none Eu FD EH FH Cd EN),G0⟩)
  (c_law:I_ K Cd "law"=true)
  (k_law:IU K (.ref f_law)=true)
  (eJ:Iw K Ik "parts_by_eight"=some (some (.ref l7)))
  (um:Iw K Ik "WAYS"=some (some (.ref yu)))
  (uR:K.lookup yu=some ⟨.type "dict",none,.dict uH Dm,#[]⟩)
  (ut:QK w.params uH.toList)
  (uN:NW (λ(e:J_) (p:Str×Iv)=>∃ t,e.key=.str p.1 t/\e.val=.ref p.2) uH.toList [("four",fu),("eight",l7)])
  (uQ:(yu==Kg)=false)
  (z_k_STEPS:Iw K Ik "STEPS"=some (some (.ref TA_STEPS)))
  (pR:K.lookup TA_STEPS=some oTA_STEPS)
  (qL:oTA_STEPS.cls=.type "tuple"/\oTA_STEPS.data=.seq iTA_STEPS nTA_STEPS/\iTA_STEPS.size<=II/\bD [.ref TA_STEPS_0,.ref TA_STEPS_1,.ref TA_STEPS_2] iTA_STEPS.toList)
  (kt_STEPS_0:K.lookup TA_STEPS_0=some oTA_STEPS_0)
  (ku_STEPS_0:oTA_STEPS_0.cls=.type "tuple"/\oTA_STEPS_0.data=.seq iTA_STEPS_0 nTA_STEPS_0/\iTA_STEPS_0.size<=II/\bD ([1,0,0].map V.int) iTA_STEPS_0.toList)
  (kt_STEPS_1:K.lookup TA_STEPS_1=some oTA_STEPS_1)
  (ku_STEPS_1:oTA_STEPS_1.cls=.type "tuple"/\oTA_STEPS_1.data=.seq iTA_STEPS_1 nTA_STEPS_1/\iTA_STEPS_1.size<=II/\bD ([0,1,0].map V.int) iTA_STEPS_1.toList)
  (kt_STEPS_2:K.lookup TA_STEPS_2=some oTA_STEPS_2)
  (ku_STEPS_2:oTA_STEPS_2.cls=.type "tuple"/\oTA_STEPS_2.data=.seq iTA_STEPS_2 nTA_STEPS_2/\iTA_STEPS_2.size<=II/\bD ([0,0,1].map V.int) iTA_STEPS_2.toList)
  : ∃ (ts:List (Str×Iv)) (fd:JS),vW K tA ts/\(∀ (s:Im) (v:Ih),Pj s fd ⟨[v],[]⟩ [("_law_script",v)])/\∀ base:Kl,K.In base->base.Ns Ik mg->oC l.prog w K mg base CX0 12 fa fd ["_law_script"] (rV (ts.map (·.1)) K):=by
 have tabs:vW K tA [("parts_by_four",cX)]:=⟨by simp,λp m=>by
  simp only[Iy,IW,KS] at m;subst m;exact⟨eQ,eK,Ff cW cY,Em bL de rfl rfl cW cY⟩⟩
 refine⟨[("parts_by_four",cX)],IH "law" "law" (aJ pW) (aF pW) (ag pW) .none Eu FD EH FH Cd EN,tabs,λs v=>.of_eq rfl,?_⟩;show ∀ base:Kl,K.In base->base.Ns Ik mg->oC l.prog w K mg base CX0 12 fa _ ["_law_script"] (rV ["parts_by_four"] K);have e:=hfa.symm.trans (Jr X G a_law);cases e;have DY:Dfn K mg "share" gH ["top","below"] []:=yh (ds:=[]) pZ pM qA (Jr X G pY) qI qc .nil λus hl=>match us,hl with|[_,_],_=>⟨_,rfl,rfl⟩
 have D_share_d:Dfn K mg "share" gH ["top","below"] [.int 1]:=yh (ds:=[.int 1 Ba]) pZ pM qA (Jr X G pY) qI qc (.cons ⟨_,rfl⟩ (.nil)) λus hl=>match us,(show us.length=1 by simpa using hl) with|[_],_=>⟨_,rfl,rfl⟩
 have nk:FT K mg "parts_by_four" cu ["far","whole"]:=⟨CC de e6 fA (Jr X G bL) λus hl=>match us,hl with|[_,_],_=>rfl,_,bL,Jr X G bL⟩
 have lh:kN K mg "Grid" "worth" "Grid.worth" ci ["self","colour","way"] [] 2 0 [.str "four"]:=zG (t:=lK) eB ef d_ eA pC dZ RB.x4 (Jr X G pC) fe λus ws h1 h2=>match us,h1,ws,h2 with|[_,_],_,[],_=>⟨_,_,rfl,rfl⟩
 have Aw:kN K mg "Grid" "worth" "Grid.worth" ci ["self","colour","way"] ["way"] 2 1 []:=mi eB ef d_ eA pC dZ RB.x4 (Jr X G pC) λus ws h1 h2=>match us,h1,ws,h2 with|[_,_],_,[_],_=>rfl
 have kH:kN K mg "Ends" "__init__" "Ends.__init__" bI ["self","white","black"] ["white","black"] 1 2 []:=mi dM dN dU dY wm dR RB.x9 (Jr X G wm) λus ws h1 h2=>match us,h1,ws,h2 with|[_],_,[_,_],_=>rfl
 have fM:kN K mg "SquareProfile" "__init__" "SquareProfile.__init__" aL ["self","curves","square","ends"] ["ends"] 3 1 []:=mi bS bT bU bR du bX RB.xb (Jr X G du) λus ws h1 h2=>match us,h1,ws,h2 with|[_,_,_],_,[_],_=>rfl
 have gu:kN K mg "GridProfile" "__init__" "GridProfile.__init__" aW ["self","curves","grid","ends"] ["ends"] 3 1 []:=mi cn cx cm cr eV cA RB.xa (Jr X G eV) λus ws h1 h2=>match us,h1,ws,h2 with|[_,_,_],_,[_],_=>rfl
 have T:Glo K mg w:=⟨RB.x5,RB.x9,RB.x4,RB.xa,RB.xb,⟨yu,Jr X G um,⟨uH,Dm,uR,ut,vp uN (.cons ⟨rfl,Jr X G bL⟩ (.cons ⟨rfl,Jr X G eJ⟩ (.nil)))⟩,uQ⟩,mgI X G RG.xo,mgI X G RG.xp,mgI X G RG.xq,mgI X G RG.xr,mgI X G RG.xs,mgI X G RG.xg,mgI X G RG.xt,mgI X G RG.xu,mgI X G RG.xe,mgI X G RG.xv,RB.xw,RB.xx,RB.xy,⟨_,Jr X G z_k_STEPS,[TA_STEPS_0,TA_STEPS_1,TA_STEPS_2],Bz pR qL,.cons (Bz kt_STEPS_0 ku_STEPS_0) (.cons (Bz kt_STEPS_1 ku_STEPS_1) (.cons (Bz kt_STEPS_2 ku_STEPS_2) (.nil)))⟩,I9 X G RN.xh,I9 X G RN.x6,I9 X G RN.xi,I9 X G RN.xj,I9 X G RN.xk,I9 X G RN.x3,I9 X G RN.x2,I9 X G RN.x7,I9 X G RN.xz,I9 X G RN.xc,I9 X G RN.x0,I9 X G RN.xl,I9 X G RN.xf,I9 X G RN.x10,I9 X G RN.xm,I9 X G RN.x1,I9 X G RN.x8,RD.x11.d1 X G λ_ _ _ _ _ _ _=>rfl,RD.x12.d3 X G λ_ _ _ _ _ _ _ _ _=>rfl,RD.x13.d4 X G λ_ _ _ _ _ _ _ _ _ _=>rfl,RD.x14.d2 X G λ_ _ _ _ _ _ _ _=>rfl,RD.x15.d1 X G λ_ _ _ _ _ _ _=>rfl,RD.x16.d1 X G λ_ _ _ _ _ _ _=>rfl,DY,D_share_d,RD.x18.d2 X G λ_ _ _ _ _ _ _ _=>rfl,RD.x19.d2 X G λ_ _ _ _ _ _ _ _=>rfl,RD.x1a.d1 X G λ_ _ _ _ _ _ _=>rfl,RD.x1b.d2 X G λ_ _ _ _ _ _ _ _=>rfl,RD.x1c.d1 X G λ_ _ _ _ _ _ _=>rfl,RD.x1d.d3 X G λ_ _ _ _ _ _ _ _ _=>rfl,RD.x1e.d1 X G λ_ _ _ _ _ _ _=>rfl,RD.x1f.d1 X G λ_ _ _ _ _ _ _=>rfl,RD.x1g.d1 X G λ_ _ _ _ _ _ _=>rfl,RD.x1h.d1 X G λ_ _ _ _ _ _ _=>rfl,RD.x1i.d1 X G λ_ _ _ _ _ _ _=>rfl,RD.x1j.d1 X G λ_ _ _ _ _ _ _=>rfl,RD.x1k.d2 X G λ_ _ _ _ _ _ _ _=>rfl,RD.x1l.d2 X G λ_ _ _ _ _ _ _ _=>rfl,RD.x1m.d2 X G λ_ _ _ _ _ _ _ _=>rfl,RD.x1n.d1 X G λ_ _ _ _ _ _ _=>rfl,RD.x1o.d2 X G λ_ _ _ _ _ _ _ _=>rfl,RD.x1p.d1 X G λ_ _ _ _ _ _ _=>rfl,RD.x1q.d1 X G λ_ _ _ _ _ _ _=>rfl,RD.x1r.d2 X G λ_ _ _ _ _ _ _ _=>rfl,RD.x1s.d1 X G λ_ _ _ _ _ _ _=>rfl,RD.x1t.d1 X G λ_ _ _ _ _ _ _=>rfl,RD.x1u.d2 X G λ_ _ _ _ _ _ _ _=>rfl,nk,RD.x1v.d2 X G λ_ _ _ _ _ _ _ _=>rfl,RD.x1w.d1 X G λ_ _ _ _ _ _ _=>rfl,RM.x1x.d3 X G RB.x4 λ_ _ _ _ _ _ _ _ _=>rfl,RM.x1y.d2 X G RB.x4 λ_ _ _ _ _ _ _ _=>rfl,RM.x1z.d1 X G RB.x4 λ_ _ _ _ _ _ _=>rfl,RM.x20.d3 X G RB.x4 λ_ _ _ _ _ _ _ _ _=>rfl,lh,RD.x21.d1 X G λ_ _ _ _ _ _ _=>rfl,RD.x22.d2 X G λ_ _ _ _ _ _ _ _=>rfl,RD.x23.d1 X G λ_ _ _ _ _ _ _=>rfl,RD.x24.d2 X G λ_ _ _ _ _ _ _ _=>rfl,RD.x25.d3 X G λ_ _ _ _ _ _ _ _ _=>rfl,RM.x26.d2 X G RB.x5 λ_ _ _ _ _ _ _ _=>rfl,RM.x27.d1 X G RB.x5 λ_ _ _ _ _ _ _=>rfl,RM.x28.d2 X G RB.x5 λ_ _ _ _ _ _ _ _=>rfl,RM.x29.d1 X G RB.x5 λ_ _ _ _ _ _ _=>rfl,kH,RD.x2a.d2 X G λ_ _ _ _ _ _ _ _=>rfl,RD.x2b.d2 X G λ_ _ _ _ _ _ _ _=>rfl,RD.x2c.d2 X G λ_ _ _ _ _ _ _ _=>rfl,RD.x2d.d1 X G λ_ _ _ _ _ _ _=>rfl,RD.x2e.d1 X G λ_ _ _ _ _ _ _=>rfl,RD.x2f.d1 X G λ_ _ _ _ _ _ _=>rfl,RD.x2g.d2 X G λ_ _ _ _ _ _ _ _=>rfl,fM,RM.x2h.d2 X G RB.xb λ_ _ _ _ _ _ _ _=>rfl,gu,RM.x2i.d2 X G RB.xa λ_ _ _ _ _ _ _ _=>rfl,RD.x2j.d1 X G λ_ _ _ _ _ _ _=>rfl,RD.x2k.d2 X G λ_ _ _ _ _ _ _ _=>rfl,RD.x2l.d2 X G λ_ _ _ _ _ _ _ _=>rfl,RD.x2m.d1 X G λ_ _ _ _ _ _ _=>rfl,RD.x2n.d2 X G λ_ _ _ _ _ _ _ _=>rfl,RD.x2o.d2 X G λ_ _ _ _ _ _ _ _=>rfl,RD.x2p.d2 X G λ_ _ _ _ _ _ _ _=>rfl,RD.x2q.d2 X G λ_ _ _ _ _ _ _ _=>rfl,RD.x2r.d2 X G λ_ _ _ _ _ _ _ _=>rfl,RD.x2s.d2 X G λ_ _ _ _ _ _ _ _=>rfl,RD.x2t.d2 X G λ_ _ _ _ _ _ _ _=>rfl,RD.x2u.d1 X G λ_ _ _ _ _ _ _=>rfl,RD.x2v.d1 X G λ_ _ _ _ _ _ _=>rfl,RD.x2w.d4 X G λ_ _ _ _ _ _ _ _ _ _=>rfl,RD.x2x.d1 X G λ_ _ _ _ _ _ _=>rfl,RD.x2y.d2 X G λ_ _ _ _ _ _ _ _=>rfl,RD.x2z.d1 X G λ_ _ _ _ _ _ _=>rfl,RD.x30.d2 X G λ_ _ _ _ _ _ _ _=>rfl,RD.x31.d2 X G λ_ _ _ _ _ _ _ _=>rfl,RD.x32.d3 X G λ_ _ _ _ _ _ _ _ _=>rfl,RD.x33.d1 X G λ_ _ _ _ _ _ _=>rfl,RD.x34.d3 X G λ_ _ _ _ _ _ _ _ _=>rfl,RD.x35.d1 X G λ_ _ _ _ _ _ _=>rfl,RD.x36.d2 X G λ_ _ _ _ _ _ _ _=>rfl⟩
 intro base _ _;exact Fn T (E8 (st:=pW) l_law c_law k_law)
theorem walk {l:OL}{qq:IN}{loose:List Str}{XP:(Str->Option Ih)->Kl->Prop}{YP:Jm->Kl->Prop}{d:DefRec}{K:Params->Ia} (hn:l.most=some 63) (hdf:d.params.defaults=[])
  {tA:List Iv}(hY:∀ (w:Jm) (h:Kl),YP w h->(K w.params).In h)(hY2:∀ (w:Jm) (h:Kl),YP w h->∀ P∈tA,h.get? P=some { cls:=.none,data:=.fields #[] })
  (F:∀ (w:Jm) (mg:Str->Option Ih) (fa:Iv) (h:Kl),(K w.params).In h->h.Ns Ik mg->mg d.name=some (.ref fa) ->
   ∃ (ts:List (Str×Iv)) (fd:JS),vW (K w.params) tA ts/\(∀ (s:Im) (u:Ih),Pj s fd ⟨[u],[]⟩ [("_law_script",u)])/\∀ base:Kl,(K w.params).In base->base.Ns Ik mg->oC l.prog w (K w.params) mg base CX0 12 fa fd ["_law_script"] (rV (ts.map (·.1)) (K w.params))) :
  PySem.W.WalkO qq loose XP YP l.row.toRowW d [] (λf vs=>QT f vs):=
 BJ (k:=12) (x:="_law_script") (CX:=λw=>CX0) (sp:=rV) hn hdf ⟨rfl,by decide,by decide⟩ hY hY2 F (λ_ _ _ a ns hl hS hx=>⟨a,ns,rfl,hS,hl,hx,λ_=>rfl⟩) λ_ _ _ _ _ z=>z
end TR
theorem PySem.W.Fast.tw3616287542830909435:True:=trivial
theorem PySem.W.Fast.tw190741457387863393:True:=trivial
theorem PySem.W.Fast.tw16395715922644193056:True:=trivial
theorem PySem.W.Fast.tw3393293766119592211:True:=trivial
theorem PySem.W.Fast.tw119850732568313042:True:=trivial
theorem PySem.W.Fast.tw814709731171804049:True:=trivial
theorem PySem.W.Fast.tw11526351757036632714:True:=trivial
theorem PySem.W.Fast.tw6238941787367426004:True:=trivial
theorem PySem.W.Fast.tw8901636696248292033:True:=trivial
theorem PySem.W.Fast.tw15448337209311229723:True:=trivial
theorem PySem.W.Fast.tw565467888501056275:True:=trivial
theorem PySem.W.Fast.tw5016535791332872927:True:=trivial
theorem PySem.W.Fast.tw13904437254583460521:True:=trivial
theorem PySem.W.Fast.tw15433224331087812963:True:=trivial
theorem PySem.W.Fast.tw9598732879793690670:True:=trivial
theorem PySem.W.Fast.tw2657796269926853673:True:=trivial
theorem PySem.W.Fast.tw4627468298093078080:True:=trivial
theorem PySem.W.Fast.tw14608777038122631098:True:=trivial
theorem PySem.W.Fast.tw8566735176196302061:True:=trivial
theorem PySem.W.Fast.tw5447015739662196511:True:=trivial
theorem PySem.W.Fast.tw13065316660027883281:True:=trivial
theorem PySem.W.Fast.tw11997595292311445926:True:=trivial
theorem PySem.W.Fast.tw2084227977630486720:True:=trivial
theorem PySem.W.Fast.tw9465206182896400247:True:=trivial
theorem PySem.W.Fast.tw15857443374628339528:True:=trivial
theorem PySem.W.Fast.tw12736001651131676375:True:=trivial
theorem PySem.W.Fast.tw16216606474253069463:True:=trivial
theorem PySem.W.Fast.tw344837125212113764:True:=trivial
theorem PySem.W.Fast.tw11289951511575368583:True:=trivial
theorem PySem.W.Fast.tw5709170485729366798:True:=trivial
theorem PySem.W.Fast.tw7271421299944260123:True:=trivial
theorem PySem.W.Fast.tw2174407429077430743:True:=trivial
theorem PySem.W.Fast.tw10210317715292750476:True:=trivial
theorem PySem.W.Fast.tw7968116349234179225:True:=trivial
theorem PySem.W.Fast.tw14870930270218330763:True:=trivial
theorem PySem.W.Fast.tw2768740401312502302:True:=trivial
theorem PySem.W.Fast.tw6853721091224678441:True:=trivial
theorem PySem.W.Fast.tw6505866494985189256:True:=trivial
theorem PySem.W.Fast.tw7005970929735993102:True:=trivial
theorem PySem.W.Fast.tw6593460333591088326:True:=trivial
theorem PySem.W.Fast.tw7987367155975956114:True:=trivial
theorem PySem.W.Fast.tw10343308756897630850:True:=trivial
theorem PySem.W.Fast.tw10443769776044628563:True:=trivial
theorem PySem.W.Fast.tw15431218595648677930:True:=trivial
theorem PySem.W.Fast.tw12115697968900661370:True:=trivial
theorem PySem.W.Fast.tw9144375271395691695:True:=trivial
theorem PySem.W.Fast.tw9213014938306679561:True:=trivial
theorem PySem.W.Fast.tw14115138917208894435:True:=trivial
theorem PySem.W.Fast.tw7392359443881446029:True:=trivial
theorem PySem.W.Fast.tw5206226366136648457:True:=trivial
theorem PySem.W.Fast.tw17614556305316446267:True:=trivial
theorem PySem.W.Fast.tw2704766270646668572:True:=trivial
theorem PySem.W.Fast.tw15614844641072425665:True:=trivial
theorem PySem.W.Fast.tw10137862683443542419:True:=trivial
theorem PySem.W.Fast.tw5277565230640965937:True:=trivial
theorem PySem.W.Fast.tw1015107972372220175:True:=trivial
theorem PySem.W.Fast.tw1795498458308823071:True:=trivial
theorem PySem.W.Fast.tw7999519719659479401:True:=trivial
theorem PySem.W.Fast.tw14842140840800374714:True:=trivial
theorem PySem.W.Fast.tw3852132622016750830:True:=trivial
theorem PySem.W.Fast.tw11863945289615695048:True:=trivial
theorem PySem.W.Fast.tw3793637130622624808:True:=trivial
theorem PySem.W.Fast.tw6790672220474536209:True:=trivial
theorem PySem.W.Fast.tw8559458828158189326:True:=trivial
theorem PySem.W.Fast.tw18033750652003332552:True:=trivial
theorem PySem.W.Fast.tw963669330786191682:True:=trivial
theorem PySem.W.Fast.tw13946684810201265858:True:=trivial
theorem PySem.W.Fast.tw1930112421796165198:True:=trivial
theorem PySem.W.Fast.tw12757047086021153628:True:=trivial
theorem PySem.W.Fast.tw5890806561662109700:True:=trivial
theorem PySem.W.Fast.tw11496450678690837303:True:=trivial
theorem PySem.W.Fast.tw16481195142956034537:True:=trivial
theorem PySem.W.Fast.tw17794045021476291541:True:=trivial
theorem PySem.W.Fast.tw5210121825169336020:True:=trivial
theorem PySem.W.Fast.tw18047800262094428969:True:=trivial
theorem PySem.W.Fast.tw15895915737563909693:True:=trivial
theorem PySem.W.Fast.tw970723209605053153:True:=trivial
theorem PySem.W.Fast.tw6860630920136533378:True:=trivial
theorem PySem.W.Fast.tw2532203035172382683:True:=trivial
theorem PySem.W.Fast.tw16698117728412072654:True:=trivial
theorem PySem.W.Fast.tw2703662049704120747:True:=trivial
theorem PySem.W.Fast.tw6473939500435896768:True:=trivial
theorem PySem.W.Fast.tw10053001490020653740:True:=trivial
theorem PySem.W.Fast.tw2025007172564416658:True:=trivial
theorem PySem.W.Fast.tw16564835419969143378:True:=trivial
theorem PySem.W.Fast.tw17551094660950810911:True:=trivial
theorem PySem.W.Fast.tw1895391675295383345:True:=trivial
theorem PySem.W.Fast.tw9126514080327619415:True:=trivial
theorem PySem.W.Fast.tw15681105328542487875:True:=trivial
theorem PySem.W.Fast.tw15085352862501435863:True:=trivial
theorem PySem.W.Fast.tw16467541331122456894:True:=trivial
theorem PySem.W.Fast.tw9500314456169256141:True:=trivial
theorem PySem.W.Fast.tw5077805797569337998:True:=trivial
theorem PySem.W.Fast.tw4336628527501877076:True:=trivial
theorem PySem.W.Fast.tw4244637296592197631:True:=trivial
theorem PySem.W.Fast.tw10575718096838958749:True:=trivial
theorem PySem.W.Fast.tw79395524731179480:True:=trivial
theorem PySem.W.Fast.tw6497218925587919196:True:=trivial
theorem PySem.W.Fast.tw3565789950374298688:True:=trivial
theorem PySem.W.Fast.tw3932171572911863438:True:=trivial
theorem PySem.W.Fast.tw16282919345748890350:True:=trivial
theorem PySem.W.Fast.tw3592332780583743905:True:=trivial
theorem PySem.W.Fast.tw13164717270738905589:True:=trivial
theorem PySem.W.Fast.tw727894874520198942:True:=trivial
theorem PySem.W.Fast.tw8740940489253013436:True:=trivial
theorem PySem.W.Fast.tw4542696928758300894:True:=trivial
theorem PySem.W.Fast.tw13742354120726878077:True:=trivial
theorem PySem.W.Fast.tw612674084284078145:True:=trivial
theorem PySem.W.Fast.tw18048581806273940913:True:=trivial
theorem PySem.W.Fast.tw1115963412872601553:True:=trivial
theorem PySem.W.Fast.tw16334541493876797159:True:=trivial
theorem PySem.W.Fast.tw8576932181654209476:True:=trivial
theorem PySem.W.Fast.tw40358150441243192:True:=trivial
theorem PySem.W.Fast.tw11283478488725383502:True:=trivial
theorem PySem.W.Fast.tw12490241300142659377:True:=trivial
theorem PySem.W.Fast.tw1225856602662544326:True:=trivial
theorem PySem.W.Fast.tw11344400475023520902:True:=trivial
theorem PySem.W.Fast.tw17549047732468432964:True:=trivial
theorem PySem.W.Fast.tw10222244755282406372:True:=trivial
theorem PySem.W.Fast.tw849751841477144387:True:=trivial
theorem PySem.W.Fast.tw3329801724869873929:True:=trivial
theorem PySem.W.Fast.tw13331702679548904763:True:=trivial
theorem PySem.W.Fast.tw18086951473275368196:True:=trivial
theorem PySem.W.Fast.tw3143029606376523023:True:=trivial
theorem PySem.W.Fast.tw3537992992718049123:True:=trivial
theorem PySem.W.Fast.tw6778745410080471613:True:=trivial
theorem PySem.W.Fast.tw16093447251614620607:True:=trivial
theorem PySem.W.Fast.tw7846900873448411425:True:=trivial
theorem PySem.W.Fast.tw2591249999898303781:True:=trivial
theorem PySem.W.Fast.tw7903576776344547192:True:=trivial
theorem PySem.W.Fast.tw10455558111040690586:True:=trivial
theorem PySem.W.Fast.tw16589233211631006225:True:=trivial
theorem PySem.W.Fast.tw14976926860671734155:True:=trivial
theorem PySem.W.Fast.tw3995716729498776123:True:=trivial
theorem PySem.W.Fast.tw13328201471892972087:True:=trivial
theorem PySem.W.Fast.tw4362751120064686934:True:=trivial
theorem PySem.W.Fast.tw13377473814131846195:True:=trivial
theorem PySem.W.Fast.tw17256303875849085546:True:=trivial
theorem PySem.W.Fast.tw5980603203687097256:True:=trivial
theorem PySem.W.Fast.tw5507385156275153565:True:=trivial
theorem PySem.W.Fast.tw1216419078227680303:True:=trivial
theorem PySem.W.Fast.tw9456219872689167319:True:=trivial
theorem PySem.W.Fast.tw5959013723836512250:True:=trivial
theorem PySem.W.Fast.tw11264531103559302536:True:=trivial
theorem PySem.W.Fast.tw18356540551359997253:True:=trivial
theorem PySem.W.Fast.tw4021122905476466594:True:=trivial
theorem PySem.W.Fast.tw9791406235035620646:True:=trivial
theorem PySem.W.Fast.tw1065573409380977918:True:=trivial
theorem PySem.W.Fast.tw9056318763574054473:True:=trivial
theorem PySem.W.Fast.tw16113372594984451907:True:=trivial
theorem PySem.W.Fast.tw9337756579573118602:True:=trivial
theorem PySem.W.Fast.tw11564511740183596830:True:=trivial
theorem PySem.W.Fast.tw12307697253724614219:True:=trivial
theorem PySem.W.Fast.tw17805068443916104907:True:=trivial
theorem PySem.W.Fast.tw13578249234820226550:True:=trivial
theorem PySem.W.Fast.tw9181991925938070699:True:=trivial
theorem PySem.W.Fast.tw17725935956966381102:True:=trivial
theorem PySem.W.Fast.tw9245690929376177119:True:=trivial
theorem PySem.W.Fast.tw18405921647093118877:True:=trivial
theorem PySem.W.Fast.tw8905866378113923050:True:=trivial
theorem PySem.W.Fast.tw1136829737656640123:True:=trivial
theorem PySem.W.Fast.tw7195483680519369075:True:=trivial
theorem PySem.W.Fast.tw5165983230893242575:True:=trivial
theorem PySem.W.Fast.tw15595973370021598001:True:=trivial
theorem PySem.W.Fast.tw17090234627745873786:True:=trivial
theorem PySem.W.Fast.tw6280999733654554148:True:=trivial
theorem PySem.W.Fast.tw6502333835958881934:True:=trivial
theorem PySem.W.Fast.tw8506591289278703568:True:=trivial
theorem PySem.W.Fast.tw15227203213262964741:True:=trivial
theorem PySem.W.Fast.tw15358935924070209108:True:=trivial
theorem PySem.W.Fast.tw4538761183644634222:True:=trivial
theorem PySem.W.Fast.tw16686109612205599735:True:=trivial
theorem PySem.W.Fast.tw16647651001346867311:True:=trivial
theorem PySem.W.Fast.tw13047782219974667163:True:=trivial
theorem PySem.W.Fast.tw1101300259474226573:True:=trivial
theorem PySem.W.Fast.tw13430795888404694739:True:=trivial
theorem PySem.W.Fast.tw17040507673353094666:True:=trivial
theorem PySem.W.Fast.tw18085727665370939547:True:=trivial
theorem PySem.W.Fast.tw2689490423767468778:True:=trivial
theorem PySem.W.Fast.tw1740118764855343971:True:=trivial
theorem PySem.W.Fast.tw16517533125979600713:True:=trivial
theorem PySem.W.Fast.tw3822533746215516902:True:=trivial
theorem PySem.W.Fast.tw16581174276228313153:True:=trivial
theorem PySem.W.Fast.tw5001900849150701262:True:=trivial
theorem PySem.W.Fast.tw17527549427634972484:True:=trivial
theorem PySem.W.Fast.tw5352016752093925382:True:=trivial
theorem PySem.W.Fast.tw13353483730620710123:True:=trivial
theorem PySem.W.Fast.tw10673251790538743269:True:=trivial
theorem PySem.W.Fast.tw3922985082539752254:True:=trivial
theorem PySem.W.Fast.tw13762521161925691957:True:=trivial
theorem PySem.W.Fast.tw15950209962790093672:True:=trivial
theorem PySem.W.Fast.tw2269279144689067470:True:=trivial
theorem PySem.W.Fast.tw15554637685251387177:True:=trivial
theorem PySem.W.Fast.tw3987947743742343805:True:=trivial
theorem PySem.W.Fast.tw4413109917351076317:True:=trivial
theorem PySem.W.Fast.tw7807312742066514984:True:=trivial
theorem PySem.W.Fast.tw16171609042855396065:True:=trivial
theorem PySem.W.Fast.tw16505588935651734972:True:=trivial
theorem PySem.W.Fast.tw9637048100716914676:True:=trivial
theorem PySem.W.Fast.tw10393623927202889398:True:=trivial
theorem PySem.W.Fast.tw11521844363795597928:True:=trivial
theorem PySem.W.Fast.tw5540931993680339097:True:=trivial
theorem PySem.W.Fast.tw10612916661862592655:True:=trivial
theorem PySem.W.Fast.tw5201567578352188046:True:=trivial
theorem PySem.W.Fast.tw17500969634500693123:True:=trivial
theorem PySem.W.Fast.tw5921273502970213414:True:=trivial
theorem PySem.W.Fast.tw7716241375909196340:True:=trivial
theorem PySem.W.Fast.tw14315151261402211959:True:=trivial
theorem PySem.W.Fast.tw6733083199016107866:True:=trivial
theorem PySem.W.Fast.tw2058261436711894661:True:=trivial
theorem PySem.W.Fast.tw8533751993614244794:True:=trivial
theorem PySem.W.Fast.tw17338180532057586961:True:=trivial
theorem PySem.W.Fast.tw15550750415258644556:True:=trivial
theorem PySem.W.Fast.tw81050981856698131:True:=trivial
theorem PySem.W.Fast.tw11824933616573400607:True:=trivial
theorem PySem.W.Fast.tw254468209398509900:True:=trivial
theorem PySem.W.Fast.tw14625025656147422284:True:=trivial
theorem PySem.W.Fast.tw16951210704161570289:True:=trivial
theorem PySem.W.Fast.tw1244475071846505277:True:=trivial
theorem PySem.W.Fast.tw9651210408749464331:True:=trivial
theorem PySem.W.Fast.tw13384038737080166121:True:=trivial
theorem PySem.W.Fast.tw3155057563585065266:True:=trivial
theorem PySem.W.Fast.tw7105150090433551137:True:=trivial
theorem PySem.W.Fast.tw15987985378941976592:True:=trivial
theorem PySem.W.Fast.tw4306607343580777704:True:=trivial
theorem PySem.W.Fast.tw18059783588170188272:True:=trivial
theorem PySem.W.Fast.tw13289260271097500917:True:=trivial
theorem PySem.W.Fast.tw9091856527789654830:True:=trivial
theorem PySem.W.Fast.tw10865233575462312995:True:=trivial
theorem PySem.W.Fast.tw3184927880300993304:True:=trivial
theorem PySem.W.Fast.tw14354929741908072014:True:=trivial
theorem PySem.W.Fast.tw8399149107819554220:True:=trivial
theorem PySem.W.Fast.tw3562028629343082373:True:=trivial
theorem PySem.W.Fast.tw12211862739362677853:True:=trivial
theorem PySem.W.Fast.tw3722447216942428843:True:=trivial
theorem PySem.W.Fast.tw10623539685890298880:True:=trivial
theorem PySem.W.Fast.tw11844855751138640881:True:=trivial
theorem PySem.W.Fast.tw1709224816786187797:True:=trivial
theorem PySem.W.Fast.tw5126519018170033037:True:=trivial
theorem PySem.W.Fast.tw7241804239107729080:True:=trivial
theorem PySem.W.Fast.tw9557597284837545206:True:=trivial
theorem PySem.W.Fast.tw151205579874219072:True:=trivial
theorem PySem.W.Fast.tw10720379937828289038:True:=trivial
theorem PySem.W.Fast.tw1795274716243637798:True:=trivial
theorem PySem.W.Fast.tw6539281070294117392:True:=trivial
theorem PySem.W.Fast.tw9129523598077334691:True:=trivial
theorem PySem.W.Fast.tw960409497809272229:True:=trivial
theorem PySem.W.Fast.tw11004978131996969529:True:=trivial
theorem PySem.W.Fast.tw982424773977068095:True:=trivial
theorem PySem.W.Fast.tw13112522902967331815:True:=trivial
theorem PySem.W.Fast.tw4583923619714227027:True:=trivial
theorem PySem.W.Fast.tw2320079855410015479:True:=trivial
theorem PySem.W.Fast.tw17930513003157155140:True:=trivial
theorem PySem.W.Fast.tw15791784978400293720:True:=trivial
theorem PySem.W.Fast.tw18369873537827358497:True:=trivial
theorem PySem.W.Fast.tw13971961558127098456:True:=trivial
theorem PySem.W.Fast.tw17756527903950290583:True:=trivial
theorem PySem.W.Fast.tw5929154037614522479:True:=trivial
theorem PySem.W.Fast.tw11714145451257136302:True:=trivial
theorem PySem.W.Fast.tw17776718249890257641:True:=trivial
theorem PySem.W.Fast.tw4435183577282910132:True:=trivial
theorem PySem.W.Fast.tw13806011604406980279:True:=trivial
theorem PySem.W.Fast.tw17583864801154002974:True:=trivial
theorem PySem.W.Fast.tw9843870192117118803:True:=trivial
theorem PySem.W.Fast.tw7493276807520682745:True:=trivial
theorem PySem.W.Fast.tw12304395681500040693:True:=trivial
theorem PySem.W.Fast.tw11518505127700261568:True:=trivial
theorem PySem.W.Fast.tw10863789150329796082:True:=trivial
theorem PySem.W.Fast.tw643914827684167872:True:=trivial
theorem PySem.W.Fast.tw18213483670592897628:True:=trivial
theorem PySem.W.Fast.tw16867550940453911083:True:=trivial
theorem PySem.W.Fast.tw16692459498906538960:True:=trivial
theorem PySem.W.Fast.tw3594405032787149509:True:=trivial
theorem PySem.W.Fast.tw7664942485788138071:True:=trivial
theorem PySem.W.Fast.tw5463886004474871443:True:=trivial
theorem PySem.W.Fast.tw9406638583678079051:True:=trivial
theorem PySem.W.Fast.tw7939062037799236406:True:=trivial
theorem PySem.W.Fast.tw2343077934939556617:True:=trivial
theorem PySem.W.Fast.tw17961091696677462016:True:=trivial
theorem PySem.W.Fast.tw14215744817338347895:True:=trivial
theorem PySem.W.Fast.tw7627077300007252432:True:=trivial
theorem PySem.W.Fast.tw16146436186079768305:True:=trivial
theorem PySem.W.Fast.tw440290960203583957:True:=trivial
theorem PySem.W.Fast.tw10187882384941751871:True:=trivial
theorem PySem.W.Fast.tw6950665610062193845:True:=trivial
theorem PySem.W.Fast.tw5287537945348725618:True:=trivial
theorem PySem.W.Fast.tw17056730570069104007:True:=trivial
theorem PySem.W.Fast.tw7792046926056900642:True:=trivial
theorem PySem.W.Fast.tw5148342226660500309:True:=trivial
theorem PySem.W.Fast.tw6449514512288627258:True:=trivial
theorem PySem.W.Fast.tw16449666727857970732:True:=trivial
theorem PySem.W.Fast.tw4221995998362719848:True:=trivial
theorem PySem.W.Fast.tw1931881432751016774:True:=trivial
theorem PySem.W.Fast.tw12838890954805373609:True:=trivial
theorem PySem.W.Fast.tw14432721175406575076:True:=trivial
theorem PySem.W.Fast.tw3402563236858514283:True:=trivial
theorem PySem.W.Fast.tw9395590572524680480:True:=trivial
theorem PySem.W.Fast.tw17797889692856999717:True:=trivial
theorem PySem.W.Fast.tw6865447235062903889:True:=trivial
theorem PySem.W.Fast.tw761719977996729618:True:=trivial
theorem PySem.W.Fast.tw7901220151223241628:True:=trivial
theorem PySem.W.Fast.tw13494620841263388294:True:=trivial
theorem PySem.W.Fast.tw1899233344748699167:True:=trivial
theorem PySem.W.Fast.tw1906491763661685221:True:=trivial
theorem PySem.W.Fast.tw6623838880765802780:True:=trivial
theorem PySem.W.Fast.tw695011781140551932:True:=trivial
theorem PySem.W.Fast.tw14213504580915302798:True:=trivial
theorem PySem.W.Fast.tw8861661355041998903:True:=trivial
theorem PySem.W.Fast.tw1760226809778685941:True:=trivial
theorem PySem.W.Fast.tw82234218517121315:True:=trivial
theorem PySem.W.Fast.tw9503385625469939815:True:=trivial
theorem PySem.W.Fast.tw13653984040584368688:True:=trivial
theorem PySem.W.Fast.tw10103717057869022978:True:=trivial
theorem PySem.W.Fast.tw4351369869172944608:True:=trivial
theorem PySem.W.Fast.tw3484631426822321519:True:=trivial
theorem PySem.W.Fast.tw14881700725417963940:True:=trivial
theorem PySem.W.Fast.tw1823476719466750488:True:=trivial
theorem PySem.W.Fast.tw8051974846474749986:True:=trivial
theorem PySem.W.Fast.tw6480764364098849793:True:=trivial
theorem PySem.W.Fast.tw3838330219914768112:True:=trivial
theorem PySem.W.Fast.tw15435488163451989372:True:=trivial
theorem PySem.W.Fast.tw2754720069056571682:True:=trivial
theorem PySem.W.Fast.tw809607915237323320:True:=trivial
theorem PySem.W.Fast.tw9319136864494848298:True:=trivial
theorem PySem.W.Fast.tw15481788650540022937:True:=trivial
theorem PySem.W.Fast.tw13176601887667034578:True:=trivial
theorem PySem.W.Fast.tw8991017581976227358:True:=trivial
theorem PySem.W.Fast.tw8283576326909985775:True:=trivial
theorem PySem.W.Fast.tw4258178557801917292:True:=trivial
theorem PySem.W.Fast.tw12488055052543495117:True:=trivial
theorem PySem.W.Fast.tw13804358121097315682:True:=trivial
theorem PySem.W.Fast.tw16589057361573690056:True:=trivial
theorem PySem.W.Fast.tw2943517460571815055:True:=trivial
theorem PySem.W.Fast.tw8225980389242531459:True:=trivial
theorem PySem.W.Fast.tw9254752620603313012:True:=trivial
theorem PySem.W.Fast.tw6702834880598640301:True:=trivial
theorem PySem.W.Fast.tw14208133273424823440:True:=trivial
theorem PySem.W.Fast.tw3437422856347676860:True:=trivial
theorem PySem.W.Fast.tw10253188032470941624:True:=trivial
theorem PySem.W.Fast.tw165748992964241089:True:=trivial
theorem PySem.W.Fast.tw5922193440063282612:True:=trivial
theorem PySem.W.Fast.tw15185239324224374067:True:=trivial
theorem PySem.W.Fast.tw10802439721522670525:True:=trivial
theorem PySem.W.Fast.tw11170720888906591577:True:=trivial
theorem PySem.W.Fast.tw8341529122586857855:True:=trivial
theorem PySem.W.Fast.tw11990534637609438186:True:=trivial
theorem PySem.W.Fast.tw15769964485817852993:True:=trivial
theorem PySem.W.Fast.tw15125365655759921672:True:=trivial
theorem PySem.W.Fast.tw5546283821743888597:True:=trivial
theorem PySem.W.Fast.tw8813332026512959575:True:=trivial
theorem PySem.W.Fast.tw1215044344685136321:True:=trivial
theorem PySem.W.Fast.tw17048945151669663868:True:=trivial
theorem PySem.W.Fast.tw7576803634535273839:True:=trivial
theorem PySem.W.Fast.tw7690431258725906951:True:=trivial
theorem PySem.W.Fast.tw2288882353352149159:True:=trivial
theorem PySem.W.Fast.tw10429759520829307457:True:=trivial
theorem PySem.W.Fast.tw11174763136042890670:True:=trivial
theorem PySem.W.Fast.tw4089141863375333841:True:=trivial
theorem PySem.W.Fast.tw13041039323631259566:True:=trivial
theorem PySem.W.Fast.tw15604236630214534349:True:=trivial
theorem PySem.W.Fast.tw14402305711132390835:True:=trivial
theorem PySem.W.Fast.tw14469152346545382906:True:=trivial
theorem PySem.W.Fast.tw15988720752437045178:True:=trivial
theorem PySem.W.Fast.tw6399938345599690290:True:=trivial
theorem PySem.W.Fast.tw16496244677099028879:True:=trivial
theorem PySem.W.Fast.tw13326423596344518031:True:=trivial
theorem PySem.W.Fast.tw14822919630974841671:True:=trivial
theorem PySem.W.Fast.tw3259927899460708534:True:=trivial
theorem PySem.W.Fast.tw16391344831760316401:True:=trivial
theorem PySem.W.Fast.tw2330056926964024592:True:=trivial
theorem PySem.W.Fast.tw13310777907175323560:True:=trivial
theorem PySem.W.Fast.tw7461423209301187034:True:=trivial
theorem PySem.W.Fast.tw7855103004322255574:True:=trivial
theorem PySem.W.Fast.tw5504786108384981174:True:=trivial
theorem PySem.W.Fast.tw14201584598200607986:True:=trivial
theorem PySem.W.Fast.tw15236496729195870371:True:=trivial
theorem PySem.W.Fast.tw3984046649689360095:True:=trivial
theorem PySem.W.Fast.tw6340511376911124444:True:=trivial
theorem PySem.W.Fast.tw1041443391112144885:True:=trivial
theorem PySem.W.Fast.tw16762491883468012508:True:=trivial
theorem PySem.W.Fast.tw10512112938992842034:True:=trivial
theorem PySem.W.Fast.tw1941755994503821453:True:=trivial
theorem PySem.W.Fast.tw3540633286062085544:True:=trivial
theorem PySem.W.Fast.tw12160162964659814990:True:=trivial
theorem PySem.W.Fast.tw16634411286285665311:True:=trivial
theorem PySem.W.Fast.tw8083642532766941729:True:=trivial
theorem PySem.W.Fast.tw13038923670768518096:True:=trivial
theorem PySem.W.Fast.tw12814615614116099030:True:=trivial
theorem PySem.W.Fast.tw7766048081452000894:True:=trivial
theorem PySem.W.Fast.tw5549795500151353362:True:=trivial
theorem PySem.W.Fast.tw3673733510304927890:True:=trivial
theorem PySem.W.Fast.tw3948731911720125087:True:=trivial
theorem PySem.W.Fast.tw1941912186463619351:True:=trivial
theorem PySem.W.Fast.tw10522712288223033502:True:=trivial
theorem PySem.W.Fast.tw7504773994172633279:True:=trivial
theorem PySem.W.Fast.tw13285966252515560441:True:=trivial
theorem PySem.W.Fast.tw15558002847847101927:True:=trivial
theorem PySem.W.Fast.tw16763236030771091662:True:=trivial
theorem PySem.W.Fast.tw1380346086600743812:True:=trivial
theorem PySem.W.Fast.tw2863139123121710958:True:=trivial
theorem PySem.W.Fast.tw35617635170464481:True:=trivial
theorem PySem.W.Fast.tw4196888252002753060:True:=trivial
theorem PySem.W.Fast.tw1574323207030745321:True:=trivial
theorem PySem.W.Fast.tw9840096937541185333:True:=trivial
theorem PySem.W.Fast.tw10784524289879413313:True:=trivial
theorem PySem.W.Fast.tw13367907479492442726:True:=trivial
theorem PySem.W.Fast.tw6113356345130854196:True:=trivial
theorem PySem.W.Fast.tw15501206498379297385:True:=trivial
theorem PySem.W.Fast.tw18106903501579885616:True:=trivial
theorem PySem.W.Fast.tw8520986801639158591:True:=trivial
theorem PySem.W.Fast.tw18070720452633847665:True:=trivial
theorem PySem.W.Fast.tw10776224736189165096:True:=trivial
theorem PySem.W.Fast.tw3621559452204388:True:=trivial
theorem PySem.W.Fast.tw9221152353093112451:True:=trivial
theorem PySem.W.Fast.tw5874305664863706845:True:=trivial
theorem PySem.W.Fast.tw14058676846653947503:True:=trivial
theorem PySem.W.Fast.tw4415861356352399763:True:=trivial
theorem PySem.W.Fast.tw8220160767811805798:True:=trivial
theorem PySem.W.Fast.tw9904928428506001355:True:=trivial
theorem PySem.W.Fast.tw653923453169559674:True:=trivial
theorem PySem.W.Fast.tw791503168661972028:True:=trivial
theorem PySem.W.Fast.tw14140179151372775348:True:=trivial
theorem PySem.W.Fast.tw868982363237696023:True:=trivial
theorem PySem.W.Fast.tw3788292746032715742:True:=trivial
open PySem PySem.W PyProof.Rows
set_option maxRecDepth 100000 in
set_option maxHeartbeats 0 in
theorem PySem.Challenge.cw_tintroads_k19_whole_profiles_holds : PySem.Challenge.rw_tintroads_k19_whole_profiles.Holds := by
  w_on;o_law;k_head;(case hw=>w_witness2)
  k_fill
  refine TR.walk (l:=PySem.Challenge.rw_tintroads_k19_whole_profiles) rfl rfl (fun w h Y=>PySem.W.km_in_of Y) (fun w h Y=>PySem.W.km_tabs_of Y) ?F
  case F=>
    intro w mg fa h KX G hmg
    refine' TR.all_mk KX G hmg ?RN ?RG ?RB ?RD ?RM ?pC ?wm ?du ?eV ?pY ?pZ ?pM ?qA ?qI ?qc ?bL ?de ?e6 ?fA ?cW ?cY ?eK ?eQ ?dZ ?eB ?ef ?d_ ?eA ?fe ?dR ?dM ?dN ?dU ?dY ?bX ?bS ?bT ?bU ?bR ?cA ?cn ?cx ?cm ?cr ?a_law ?l_law ?c_law ?k_law ?eJ ?um ?uR ?ut ?uN ?uQ ?z_k_STEPS ?pR ?qL ?kt_STEPS_0 ?ku_STEPS_0 ?kt_STEPS_1 ?ku_STEPS_1 ?kt_STEPS_2 ?ku_STEPS_2
    (case RN=>constructor <;> k_is)
    (case RG=>constructor <;> (refine' TR.gOf ?a;(case a=>k_is)))
    (case RB=>constructor <;> kernel_rfl)
    (case RD=>constructor <;> (refine' TR.AtD.of ?a ?b ?c ?d;(case a=>k_is);(case b=>k_is);(case c=>k_is);(case d=>k_is)))
    (case RM=>constructor <;> (refine' TR.AtM.of ?a ?b ?c ?d ?e ?f;(case a=>k_is);(case b=>k_is);(case c=>k_is);(case d=>k_is);(case e=>k_is);(case f=>k_is)))
    (case pC=>k_is)
    (case wm=>k_is)
    (case du=>k_is)
    (case eV=>k_is)
    (case pY=>k_is)
    (case pZ=>k_is)
    (case pM=>k_is)
    (case qA=>k_is)
    (case qI=>k_is)
    (case qc=>first | rfl | k_is)
    (case bL=>k_is)
    (case de=>k_is)
    (case e6=>k_is)
    (case fA=>k_is)
    (case cW=>k_is)
    (case cY=>exact ⟨_,_,_,_,_,_,_,rfl,rfl,rfl,rfl,rfl,rfl,by decide⟩)
    (case eK=>kernel_rfl)
    (case eQ=>decide)
    (case eJ=>k_is)
    (case dZ=>k_is)
    (case eB=>k_is)
    (case ef=>k_is)
    (case d_=>k_is)
    (case eA=>k_is)
    (case fe=>k_is)
    (case dR=>k_is)
    (case dM=>k_is)
    (case dN=>k_is)
    (case dU=>k_is)
    (case dY=>k_is)
    (case bX=>k_is)
    (case bS=>k_is)
    (case bT=>k_is)
    (case bU=>k_is)
    (case bR=>k_is)
    (case cA=>k_is)
    (case cn=>k_is)
    (case cx=>k_is)
    (case cm=>k_is)
    (case cr=>k_is)
    (case a_law=>k_is)
    (case l_law=>k_is)
    (case c_law=>k_is)
    (case k_law=>k_is)
    (case um=>k_is)
    (case uR=>k_is)
    (case ut=>first | exact ⟨⟨_,_,rfl,rfl⟩,⟨_,_,rfl,rfl⟩,trivial⟩ | (k_is;exact ⟨⟨_,_,rfl,rfl⟩,⟨_,_,rfl,rfl⟩,trivial⟩))
    (case uN=>exact .cons ⟨_,rfl,rfl⟩ (.cons ⟨_,rfl,rfl⟩ (.nil)))
    (case uQ=>first | rfl | decide)
    (case z_k_STEPS=>k_is)
    (case pR=>k_is)
    (case qL=>exact ⟨rfl,rfl,by decide,.cons rfl (.cons rfl (.cons rfl (.nil)))⟩)
    (case kt_STEPS_0=>k_is)
    (case ku_STEPS_0=>exact ⟨rfl,rfl,by decide,.cons ⟨_,rfl⟩ (.cons ⟨_,rfl⟩ (.cons ⟨_,rfl⟩ .nil))⟩)
    (case kt_STEPS_1=>k_is)
    (case ku_STEPS_1=>exact ⟨rfl,rfl,by decide,.cons ⟨_,rfl⟩ (.cons ⟨_,rfl⟩ (.cons ⟨_,rfl⟩ .nil))⟩)
    (case kt_STEPS_2=>k_is)
    (case ku_STEPS_2=>exact ⟨rfl,rfl,by decide,.cons ⟨_,rfl⟩ (.cons ⟨_,rfl⟩ (.cons ⟨_,rfl⟩ .nil))⟩)
#print axioms PySem.Challenge.cw_tintroads_k19_whole_profiles_holds
