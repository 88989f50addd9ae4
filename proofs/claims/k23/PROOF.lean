import PyProof.Rows.All
import Wide.All
import OpenK.AllK
import Wide.FinOn
import Lean
import PyProof.EqAt
import PyProof.EqKinds
import PyProof.TupleCall
import KE.KTryMore
import PyProof.ExcAttrAll.ValueError
import PyProof.NsDelKeeps
import KE.KDictOf
import KE.KPairComp
import KE.KSortKey
import KE.KLam
import KE.KRevSl
import PyProof.ListRange
import KE.KSortTup
import KE.KDictSum
import KE.KIntText
import PySem.Challenge.RW_tintroads_k23_whole_link_bound
theorem O.{u}{α:Sort u}{a:α}:a=a:=rfl
theorem Z {p:Prop}(h:p:=by decide):p:=h
theorem zyA {p:Prop}(h:p:=by lia):p:=h
theorem zyB {p:Prop}(h:p:=by simp):p:=h
theorem zyC {p:Prop}(h:p:=by decide +kernel):p:=h
open Option renaming some->Y
open PySem renaming wpAny_bind->HD,wpAny_pure->RT,Value->RV,Shared->RZ,mainGlobals->R1,wpAny->Sb,Addr->Sd,sizeLine->Sk,starEach->Ss,Program->SA,model->SD,wpAny_callSpecial?_slot->SI,wpAny_setField_rec->SU,wpAny_call_entry->SZ,wpAny_field->S',World->Te,Around->Tf,wpAny_newObj_type->Tj,wpAny_seqItems->Tl,bootBuiltins->Tq,PyData->Tr,wpAny_setState_of->Tw,wpAny_holding->TC,keywordEach->TQ,wpAny_mono->TU,wpAny_Call_Name_kw->TV,Stmt->T6,bindArgs->T_,sysModules->Ua,wpAny_dictEntries->Ub,Heap->Uc,sizeLine_eq->Uo,foldedSetIterable->Ur,wpAny_pyIter_list->Us,DictEntry->Uv,FuncData->Uw,wpAny_attempt->UA,rawInt->UD,compareOp->UF,mem_of_lookup->UJ,wpAny_truthy_bool->UL,wpAny_setField->UN,codeAny_builtin->UR,wpAny_typeNameOfWhole_itemiter->US,backToKw->UV,wpAny_isInstance->U0,wpAny_typeNameOfWhole_keyiter->U1,Expr->U2,pyNext->U_,Builtin->Va,codeAny->Vc,assignEach->Ve,codeAny_mono->Vg,wpAny_pyIter_tuple->Vh,wpAny_standAt->Vi,firstArgMember->Vn,wpAny_typeNameOf_itemiter->Vo,wpAny_passesOwn->Vx,wpAny_rule->Vy,wpAny_typeNameOf_keyiter->Vz,wpAny_updateSeq->VA,intKind->VG,wpAny_onRaise->VH,tupleKind->VP,SetTable->VX,backTo->VY,eval->V1,IsPair->V8,builtinLookup_eq_fast->Wb,wpAny_dictEpoch->Wc,wpAny_letGo->Wd,wpAny_specialOf->We,NameKind->Wg,isSubtype_stop->Wo,wpAny_fieldsOf->Wp,wpAny_askSetting->Ws,wpAny_pyIter_zip->Wu,wpAny_comprehension_free->WM,Comprehension->WN,cellsFrom->W3,letOwnedTupleGo->W5,plainId_quiet->W6,wpAny_isOneOf_itemiter->Xa,IsItemIter->Xf,builtinsNs->Xl,sliceBounds->Xm,wpAny_pyIter_slot->Xn,wpAny_newTuple->Xp,Scope->Xy,codeAmong->Xz,wpAny_notOrdered_dict->XA,Keyword->XC,wpAny_loadName_local->XJ,wpAny_updateSeq_pair->XM,attributeBase->XT,binaryOp->XU,wpAny_call->XW,IsZip->XZ,pickOrder->Yc,typeLookup_type->Yd,wpAny_execs_nil->Ye,Paired->Yp,compEnvC->Ys,tupleKind_room_in1->Yt,newFunctionEnv->YF,wpAny_binaryOp_repeat_ref->YG,wpAny_letOwnedTupleGo_zip->YH,swapsWith->YX,updateSeq->YY,KeyKind->Y8,behindInMarks->Y',wpAny_handled->Y_,wpAny_of_eq->Za,wpAny_pyNext_list_item->Zp,call_meetsIn->ZH,codeAny_of_tree->ZI,pushCells_keeps->ZJ,size_of_entries->ZK,standAt->ZL,wpAny_typeOf->ZM,call_meets->ZN,isInstance->ZO,setEntries->ZP,typeIs_int->ZQ,typeLookup->ZR,wpAny_Name->ZS,pyIter->Z8,wpAny_runValue->Z9,BindsTo->aab,setNext->aah,wpAny_throw->aai,IsItemIterOut->aan,TriplesOk->aaw,assignInOrder->aax,rangeSize_one->aay,relayAll->aaz,seqItems?->aaA,setField->aaB,wpAny_newList->aaD,valueAt->aaW,Within->aa6,seqSlot_of->abc,argsOk->abj,callerA->abk,getItem->abl,newExc->abm,call->abu
open PySem.W renaming Frag->KE,nsIn->Sa,fnOf->Sn,keepIn->Sq,codeIn->SF,findIn->SG,mg_of->SJ,mg_none_of->SS,emptyDict->Uq,isFn->UP,instObj->U',kitAny->Vj,kitOne->Vk,cellsFrom_some->VS,kla_obj->V_,subIn->Wm,plainGet->Wr,callWith_K->W1,mroIn->W2,hasDictIn->Xi,specialIn->Xj,methodCall_KW->Xx,callWith_KW->X7,makesIn->X8,plainGet_of->X9,takesIn->X',CodeHd->YA,lookIn->YB,typeIn->YC,methodObj->YQ,plainOver->YR,KeysLit->ZB,OpenLaw->ZC,isClsIn->ZD,takerIn->ZE,kla_fn->Z7,kitx_dict->aaP,kitx_list->aaQ,handedIn->abb,InstAt->abo,tabObj->abp
open PySem.Heap renaming get?_push_of_some->RS,get?_push_size->RW,lt_size->RX,get?_update_self->SK,size_push->SR,SameBut->S_,get?_update_other->Ud,ExtBut->Xd,IsList->XY,IsTuple->Yj,get?_none_of_le->ZX
open Option.some renaming inj->RU,injEq->aaO
open List renaming mem_singleton->RY,length_map->R5,getElem?_eq_some_iff->R9,mem_cons->R',mem_cons_of_mem->R_,getElem?_map->Sc,mem_of_getElem?->Se,getElem?_eq_getElem->Sf,not_mem_nil->Sg,mem_append_right->Sj,replicate->Sl,size_toArray->Su,map_cons->Sy,mem_cons_self->Sz,length_append->SB,length_take->SX,take_of_length_le->SY,getElem?_zip_eq_some->S5,mem_append->S8,mem_map->Ta,getLast?_eq_getElem?->TD,length_cons->TL,lookup_cons->TM,getElem_of_mem->TY,map_append->T5,nodup_cons->Ui,all_eq_true->Ul,pairwise_cons->Uy,mem_append_left->UC,getElem?_append_right->UE,range->UH,replicate_succ->UI,getElem?_append_left->UM,getElem_mem->UY,mem_range->U4,append_assoc->U5,find?_cons->U8,take_length->Vd,mem_of_getLast?->Vp,forIn_cons->Vv,of_mem_zip->Vw,map_nil->VD,mem_flatMap->VM,forIn_nil->VQ,mem_filterMap->VV,map_map->V9,flatten_cons->Wf,pairwise_iff_getElem->Wn,filterMap_cons->Wx,flatMap_append->Wy,zipWith->WH,getElem?_drop->WV,getElem?_replicate->WY,length_nil->WZ,zipWith_cons_cons->W',lookup->Xg,zipWith_nil_left->Xt,getElem?_zipWith_eq_some->XD,length_drop->XE,zipIdx_cons->XF,all_cons->XR,sum_cons->XS,append_nil->X0,length_pos_iff->X1,length_zip->X2,range_succ->X3,zipIdx_nil->X4,getD_eq_getElem?_getD->Yg,length_eraseIdx_of_lt->Yh,getElem?_take->Ym,map_replicate->Yn,getElem?_eq_none_iff->Yy,nodup_nil->Yz,foldl_append->YM,getElem_take->YN,take_sublist->YO,cons_append->Zc,getElem?_set_self->Zk,pairwise_lt_range->Zl,eq_replicate_iff->Zt,foldl_cons->Zu,getElem?_toArray->Zv,length_replicate->Zw,length_set->Zx,sum_nil->Zy,getElem?_of_mem->ZY,getElem?_set_ne->ZZ,pairwise_append->Z2,length->aag,any_cons->aao,find?_toArray->aap,drop_sublist->aaI,ext_getElem?->aaJ,getElem_drop->aaK,length_range->aaL,nodup_append->aaM,all_nil->aa1,Nodup->abr,foldl->abt
open Nat renaming le_refl->R0,lt_of_lt_of_le->R6,ne_of_lt->Si,le_trans->Sv,zero_add->SL,ne_of_gt->SM,add_zero->SV,lt_irrefl->Th,zero_le->Tn,le_of_lt->TH,not_lt->Ue,lt_succ_self->Um,pow_le_pow_right->Vq,add_comm->VE,le_add_right->VN,lt_trans->V',le_of_succ_le->Wj,lt_succ_of_lt->Wk,lt_two_pow_self->Wz,pow_le_pow_left->WC,succ_mul->Xu,le_succ->X5,not_lt_zero->X6,lt_of_le_of_lt->Yo,add_assoc->Y2,le_mul_of_pos_right->Y3,coprime_one_right->Zz,eq_of_beq_eq_true->ZA,mul_le_mul_right->Z3,mul_le_mul->Z5,lt_or_ge->aa2,mul_comm->aa3,pow_succ->aa4,beq->abg
open Option renaming map_eq_some_iff->So,isSome_iff_exists->UT,isSome_some->aar,getD_none->aba,map_some->abh
open PySem.Builtin.SmallTypes renaming ownedTupleIsFree->Sr,nextOf->Sw,ownedTupleHandOut->Ug
open PySem.Value renaming ref->SC,none->Tv,type->T9,isStrOf->Vf,int->VO,bool->XV,isInt_shape->YT,str->YU,float->abi
open Rat renaming intCast_mul->SE,le_trans->SN,mul_le_mul_of_nonneg_right->S0,intCast_le_intCast->Tk,intCast_sub->Tt,mul_nonneg->TF,le_of_mul_le_mul_right->TX,intCast_add->Uj,den_intCast->Uz,le_of_lt->UQ,div_mul_cancel->UU,le_refl->UZ,div_def->Vl,intCast_nonneg->VW,num_intCast->Wa,mul_le_mul_of_nonneg_left->XG,intCast_pos->X_,mul_lt_mul_of_pos_right->Ya,le_of_mul_le_mul_left->YD,num_nonneg->YE,inv_pos->Y9,intCast_lt_intCast->Zn,intCast_neg->ZG,mul_div_cancel->aat,not_lt->aaR
open PySem.Heap.SameBut renaming update->SH,refl->Xe
open Int renaming toNat_natCast->SQ,mul_ne_zero->Tx,fdiv_eq_ediv_of_nonneg->TW,gcd->Uh,emod_lt_of_pos->Ux,mul_nonneg->U3,emod_nonneg->U7,mul_fdiv_cancel_left->Vt,mul_comm->VC,toNat->VL,gcd_pos_of_ne_zero_right->VU,eq_ofNat_of_zero_le->WR,mul_assoc->WU,zero_add->Xs,le_of_lt->Yk,le_trans->Yl,eq_of_mul_eq_mul_left->Yv,natAbs_mul->Yw,mul_left_comm->YK,ediv_nonneg->Zq,natAbs_dvd_natAbs->Zr,zero_sub->Zs,le_refl->aaf,gcd_zero_right->aam,gcd_comm->aa0,mul_neg->abf
open PySem.PassesOwn renaming never->SW
open Bool renaming false_eq_true->Tc,false_ne_true->Tg,and_eq_true->Tu,beq_eq_decide_eq->V3,false_and->Xo,and_true->XN,true_and->YZ,or_false->aaj
open PySem.SetTable renaming below->To,grown->VR,insertAt->YS,advance->abd,Probe->abq
open PyProof.Rows renaming callWith_type1->Ts,IntsAre->Vu,seqObj->WL,callWith_builtin1->Xv,assignInOrder_cons->Yr,envOfC->YW,subscriptTail_builtinR->Zo,AllBare->Z_,subscriptTail->aaC,Subscript_->aaT,sortedHeap->aaV
open PySem.Obj renaming data_mapFields->Tz,mapSeq->T1,isFreed_of_fields->UO,cls_mapFields->Wl,data_mapDictKeys->Z4,mapFields->aaq,putSet->aaN
open PySem.Str renaming ofString->TJ
open PySem.Builtin.List renaming listExtendWith->TN,listSameRef->Vr,listLengthHint->V5,listTooLong->WF,listItems->Zg,listTouch->Zh
open Array renaming getElem_toList->TZ,length_toList->T2,getElem?_toList->V2,forIn_toList->Yi,getElem?_eq_none->Ze,toArray_toList->ZT,toList_append->aaa,getD->aaE,toList_push->aaF
open PySem.F renaming slot_zip_next->T4,slot_dict_itemiterator_next->Uk,slot_dict_keyiterator_next->Uu,slot_tuple_iterator_next->Vb,args_zip_next_1->Vs,plain_extend_loop->VB,entry_zip_next->VI,slot_list_append->VJ,called_set->V6,type_list_append->WJ,slot_int_rmul->WQ,plainAttrs_list->W0,slot_tuple_mul->W_,args_dict_itemiterator_next_1->Xc,args_dict_keyiterator_next_1->Xq,entry_dict_itemiterator_next->Xr,slot_dict_get->Xw,entry_dict_keyiterator_next->XB,args_tuple_iterator_next_1->XQ,entry_tuple_iterator_next->XX,plain_list_iadd->YJ,args_dict_get_3->Y4,plainAttrs_dict->Y5,slot_dict_items->Y6,slot_tuple_rmul->Y7,slot_dict_iter->Zb,slot_dict_items_iter->Zj,entry_dict_get->Zm,args_int_rmul_2->ZW,entry_int_rmul->aad,slot_int_index->aae,fills_int_mul->aal
open PySem.NameKind renaming cell->T7,free->T8
open PySem.PyData renaming int->Uf,bool->WD,eqv->Xh
open PySem.Builtin.Dict_items renaming ownsTuple->Ut,ownedTupleFields->Wv,ownedTupleIsFree->Ww,pairFromOwner->W7,newIterator->aaY,dictOf->abn
open PySem.Around renaming under_plainId->UB,under->aaX
open False renaming elim->UG
open Ne renaming symm->U9
open PySem.Shared renaming heap->Vm,TypeIs->aav
open PySem.Calls renaming spliced_cons->VT,callWith_builtin->W9,spliced_nil->Xb,Name_function_global->Yf,call_function_entry->Yu,evalArgs_plain->ZV
open PySem.Builtin.Dict renaming showsAll->V4,entriesForEmpty->XO,updateFrom->Y0,mergeDict->Zf,quietEq->ZU
open ForInStep renaming yield->V7
open PySem.Heap.IsList renaming push->Wq
open PyProof.Rows.F renaming plain_set_update_loop->WP,entry_set_update_loop->Y1
open PySem.SetTable.below renaming go->Xk
open Sum renaming inl->XH,inr->aaU
open PySem.SeqAt renaming shaped->Yq
open List.Perm renaming refl->Yx
open PySem.Builtin.Frozenset renaming sizeOf->YI
open List.Pairwise renaming nil->YL
open Classical renaming epsilon_spec->Zi,epsilon->aaG
open Or renaming inr->Z6,inl->aa5
open PySem.Builtin.Int renaming intBits->aac
open PySem.Code renaming quiet_builtin->aak,isFrame->aaZ
open PySem.Paired renaming length->aas
open PySem.ScopeKind renaming function->aau
open PySem.Heap.IsTuple renaming push->aaH
open PySem.SetTable.probe renaming go->aaS
open PySem.pickOrder renaming go->aa7
open PySem.IntMulOk renaming of_bits->aa8,of_left->aa9
open And renaming intro->abe
abbrev R8:=@decide_eq_true
abbrev Sx:=@if_neg
abbrev SO:=@if_pos
abbrev Td:=@decide_eq_false
abbrev Ti:=@of_decide_eq_true
abbrev TK:=@or_false
abbrev UK:=@beq_eq_false_iff_ne
abbrev UW:=@beq_iff_eq
abbrev UX:=@if_false
abbrev U6:=@decide_eq_true_eq
abbrev VF:=@if_true
abbrev VZ:=@congrArg
abbrev V0:=@of_decide_eq_false
abbrev XI:=@beq_self_eq_true
abbrev Yb:=@beq_false_of_ne
abbrev YV:=@bne_self_eq_false
abbrev Zd:=@decide_eq_decide
set_option autoImplicit true
set_option relaxedAutoImplicit true
set_option Elab.async false
set_option linter.all false
set_option maxRecDepth 100000
namespace L2
open PySem PySem.Spec PyProof.Rows
abbrev iB:=Sum Int Str
def y8:iB->RV->Bool
 |.inl k,v=>Value.isInt k v
 |.inr x,v=>Vf x v
def Q1 (w:Te):iB->Int
 |.inl k=>hashInt k
 |.inr x=>hashStr w x
theorem dC:∀ {k:iB}{v:RV},y8 k v=true->(∃ i t,k=XH i/\v=VO i t)\/(∃ x t,k=aaU x/\v=YU x t)
 |.inl i,v,h=>by
  obtain⟨t,e⟩:=YT (k:=i) (v:=v) h;exact .inl ⟨i,t,O,e⟩
 |.inr x,v,h=>by
  obtain⟨t,e⟩:=Value.isStrOf_shape (x:=x) (v:=v) h;exact .inr ⟨x,t,O,e⟩
theorem F6 (i:Int)(t:Tok):y8 (.inl i) (.int i t)=true:=by simp[y8,Value.isInt]
theorem Fs (x:Str)(t:Tok):y8 (.inr x) (.str x t)=true:=by simp[y8,Vf]
theorem NW (a b:Int):decide ((XH a:iB)=XH b)=(a==b):=by
 by_cases e:a=b
 ·subst e;simp
 ·have h:¬ (XH a:iB)=XH b:=λq=>e (Sum.inl.inj q)
  rw[Td h];exact(UK.mpr e).symm
theorem Mw (a b:Str):decide ((aaU a:iB)=aaU b)=decide (a=b):=by
 by_cases e:a=b
 ·subst e;simp
 ·have h:¬ (aaU a:iB)=aaU b:=λq=>e (Sum.inr.inj q)
  rw[Td h,Td e]
theorem M' (a:Int)(b:Str):decide ((XH a:iB)=aaU b)=false:=Td (λq=>nomatch q)
theorem NR (a:Str)(b:Int):decide ((aaU a:iB)=XH b)=false:=Td (λq=>nomatch q)
def ck (prog:SA)(w:Te):Y8 prog w iB where
 is:=y8
 hash:=Q1 w
 inj:=λv a b g f=>by
  rcases dC g with ⟨i,t,rfl,rfl⟩|⟨x,t,rfl,rfl⟩
  ·rcases dC f with ⟨j,u,rfl,e⟩|⟨y,u,rfl,e⟩
   ·injection e with c _;rw[c]
   ·exact nomatch e
  ·rcases dC f with ⟨j,u,rfl,e⟩|⟨y,u,rfl,e⟩
   ·exact nomatch e
   ·injection e with c _;rw[c]
 byValue:=λk v h=>by
  rcases dC h with ⟨i,t,rfl,rfl⟩|⟨x,t,rfl,rfl⟩<;>rfl
 pyHash:=λd h=>by
  rcases dC d with ⟨i,t,rfl,rfl⟩|⟨x,t,rfl,rfl⟩
  ·exact wpAny_pyHash_int h
  ·exact wpAny_pyHash_str h
 eqBool:=λl d h=>by
  rcases dC l with ⟨i,t,rfl,rfl⟩|⟨x,t,rfl,rfl⟩
  ·rcases dC d with ⟨j,u,rfl,rfl⟩|⟨y,u,rfl,rfl⟩
   ·rw[NW] at h;exact wpAny_eqBool_int h
   ·rw[M'] at h;exact SeqAt.EqAt.int_str i t y u _ _ _ _ h
  ·rcases dC d with ⟨j,u,rfl,rfl⟩|⟨y,u,rfl,rfl⟩
   ·rw[NR] at h;exact SeqAt.EqAt.str_int x t j u _ _ _ _ h
   ·rw[Mw] at h;exact wpAny_eqBool_str h
 «strs»:=λk x t v h=>by
  rcases dC h with ⟨i,u,rfl,e⟩|⟨y,u,rfl,e⟩
  ·exact nomatch e
  ·injection e with c _
   subst c;cases v<;>rfl
theorem By (prog:SA)(w:Te)(i:Int)(t:Tok):(ck prog w).is (.inl i) (.int i t)=true:=F6 i t
theorem Bz (prog:SA)(w:Te)(x:Str)(t:Tok):(ck prog w).is (.inr x) (.str x t)=true:=Fs x t
inductive V where
 |non|bl (b:Bool)|int (i:Int)|str (x:Str)|byt (b:Array UInt8)|flt (b:UInt64)|ref (a:Sd)|ty (n:String)
 deriving DecidableEq
def bJ:V->RV->Prop
 |.non,u=>u=Tv
 |.bl b,u=>u=XV b
 |.int i,u=>∃ t,u=VO i t
 |.str x,u=>∃ t,u=YU x t
 |.byt b,u=>∃ t,u=Value.bytes b t
 |.flt b,u=>∃ t,u=abi b t
 |.ref a,u=>u=SC a
 |.ty n,u=>u=T9 n
abbrev aU:List V->List RV->Prop:=Yp bJ
theorem aU.length (r:aU xs us):xs.length=us.length:=aas r
theorem aU.get:∀ {xs:List V}{us:List RV}{i:Nat}{x:V},aU xs us->xs[i]?=Y x->∃ u,us[i]?=Y u/\bJ x u
 |_,_,_,_,.nil,e=>by simp at e
 |_,_,0,_,.cons r _,e=>by simp at e;subst e;exact⟨_,O,r⟩
 |_,_,i+1,x,.cons _ t,e=>by
  obtain⟨u,a,b⟩:=aU.get (i:=i) (x:=x) t (by simpa using e);exact⟨u,by simpa using a,b⟩
theorem aU.set (r:bJ x u):∀ {xs:List V}{us:List RV} (i:Nat),aU xs us->aU (xs.set i x) (us.set i u)
 |_,_,_,.nil=>.nil
 |_,_,0,.cons _ t=>.cons r t
 |_,_,i+1,.cons q t=>.cons q (aU.set r i t)
theorem aU.append:∀ {xs ys:List V}{us a:List RV},aU xs us->aU ys a->aU (xs++ys) (us++a)
 |_,_,_,_,.nil,s=>s
 |_,_,_,_,.cons r t,s=>.cons r (aU.append t s)
theorem aU.take:∀ {xs:List V}{us:List RV} (n:Nat),aU xs us->aU (xs.take n) (us.take n)
 |_,_,0,_=>.nil
 |_,_,_+1,.nil=>.nil
 |_,_,n+1,.cons r t=>.cons r (aU.take n t)
theorem aU.drop:∀ {xs:List V}{us:List RV} (n:Nat),aU xs us->aU (xs.drop n) (us.drop n)
 |_,_,0,r=>r
 |_,_,_+1,.nil=>.nil
 |_,_,n+1,.cons _ t=>aU.drop n t
def mw:Option V->Option RV->Prop
 |some v,Y u=>bJ v u
 |none,none=>True
 |_,_=>False
def KV {a:Type}:List (a×V)->List (a×RV)->Prop:=Yp λ(p:a×V) (q:a×RV)=>p.1=q.1/\bJ p.2 q.2
def kV:iB->V
 |.inl i=>.int i
 |.inr x=>.str x
inductive HO where
  |lst (xs:List V)
  |tup (xs:List V)
  |dK (kvs:List (iB×V))|dT (kvs:List (List iB×V))
  |set (S:Int->Bool) (n:Nat)
  |ins (C dx:Sd) (fs:List (Str×V))
  |own (x:Sd)
  |xd (fs:List (Str×V))
  |met (f x:Sd)
  |rng (lo hi:Int)
  |frz (o:Obj) (u:HO)
  |tbl (ps:Array RV)
  |ext (φ:Uc->Prop)
abbrev Hp:=Sd->Option HO
def upd (H:Hp)(a:Sd)(o:HO):Hp:=λb=>if b=a then Y o else H b
theorem ag:upd H a o a=Y o:=by unfold upd;rw[SO rfl]
theorem ar (h:b≠a):upd H a o b=H b:=by unfold upd;rw[Sx h]
theorem KA:upd (upd H a o) a u=upd H a u:=by
 funext b;unfold upd;split<;>rfl
theorem LX {H:Hp}{a b:Sd}{o u:HO}(h:H a=Y o)(h':H b=Y u)(d:o≠u):a≠b:=by
 intro e;subst e;rw[h] at h';exact d (RU h')
theorem aS {H:Hp}{a b:Sd}{o:HO}(h:H a=Y o)(h':H b=none):a≠b:=by
 intro e;subst e;rw[h] at h';cases h'
section
variable (P:SA)(w:Te)
def cq (H:Hp)(h:Uc)(a:Sd):HO->Prop
 |.lst e=>e.length<=Sk/\∃ (d:List RV) (n:Nat),aU e d/\h.get? a=Y { cls:=.type "list",data:=.seq d.toArray n }
 |.tup e=>e.length<=Sk/\∃ d:List RV,aU e d/\IsTup h a d.toArray
 |.dK b=>b.length<=Sk/\(a==Ua)=false/\∃ vs,KV b vs/\h.DictOf (ck P w) a vs
 | .dT b=>b.length <= Sk/\(a == Ua)=false/\∃ e:List (List iB × Sd × RV),
   Yp (λ(p:List iB×V) (q:List iB×Sd×RV)=>p.1=q.1/\H q.2.1=Y (.tup (p.1.map kV))/\bJ p.2 q.2.2) b e /\
   ∃ o i j,h.get? a=Y o/\o.ExactDict/\o.data=.dict i j/\i.toList=e.map (entryOfKey (VP (ck P w)))/\(e.map (·.1)).Nodup
 |.set S n=>h.SetOf (VG P w) a S n
 | .ins C i fs=>H i=Y (.own a)/\fs.length <= 1000/\i ≠ a/\h.get? a=Y (U' C i) /\
   ∃ g,h.Ns1 i g/\(∀ f,mw (fs.lookup f) (g f))/\aa6 g (fs.map (·.1))
 |.own _=>∃ o,h.get? a=Y o
 |.xd fs=>∃ g,h.Ns1 a g/\∀ f,mw (fs.lookup f) (g f)
 |.rng lo i=>∃ t u v,h.get? a=Y { cls:=.type "range",data:=.fields #[.int lo t,.int i u,.int 1 v] }
 |.frz o u=>h.get? a=Y o/\cq H h a u
 |.tbl m=>∃ i:Array RV,h.get? a=Y { cls:=.none,data:=.fields i }/\aaw i.toList/\∃ (q:Str) (t:Nat),m[0]?=Y (.str q t)/\∀ j k,Xz j i.toList=Y k->∃ c o vs l,k=.ref c/\H c=Y (.own a)/\h.get? c=Y o/\o.data=.fields vs/\vs[1]?=Y (.str q l)
 |.met f x=>h.get? a=Y (YQ (.ref f) (.ref x))
 |.ext i=>i h/\(∃ o,h.get? a=Y o)/\∀ k j:Uc,i k->(∀ o,k.get? a=Y o->j.get? a=Y o)->i j
def qA (H:Hp)(h:Uc):Prop:=∀ a o,H a=Y o->cq P w H h a o
end
section
variable {P:SA}{w:Te}{H H':Hp}{h h':Uc}{a:Sd}{o:HO}
theorem cq.lt (x:cq P w H h a o):a<h.objs.size:=by
 cases o with
 |lst c=>obtain⟨_,_,_,_,e⟩:=x;exact RX e
 |tup c=>obtain⟨_,_,_,p⟩:=x;exact p.lt
 |dK b=>obtain⟨_,_,_,_,o,_,_,e,_⟩:=x;exact RX e
 |dT b=>obtain⟨_,_,_,_,o,_,_,e,_⟩:=x;exact RX e
 |set S n=>obtain⟨o,_,_,_,e,_⟩:=x;exact RX e
 |ins C d fs=>obtain⟨_,_,_,e,_⟩:=x;exact RX e
 |own y=>obtain⟨_,e⟩:=x;exact RX e
 |xd fs=>obtain⟨_,⟨_,_,_,e,_⟩,_⟩:=x;exact RX e
 |rng lo d=>obtain⟨_,_,_,e⟩:=x;exact RX e
 |frz d u=>obtain⟨e,_⟩:=x;exact RX e
 |tbl d=>obtain⟨_,e,_⟩:=x;exact RX e
 |met f y=>exact RX (show h.get? a=Y _ from x)
 |ext d=>obtain⟨_,⟨_,e⟩,_⟩:=x;exact RX e
theorem Paired.mapP:∀ {c:List α}{d:List β},Yp F c d->(∀ a b,F a b->G a b)->Yp G c d
 |_,_,.nil,_=>.nil
 |_,_,.cons r t,f=>.cons (f _ _ r) (Paired.mapP t f)
theorem cq.stay (x:cq P w H h a o) (k:∀ b u,(b=a\/H b=Y (.own a))->h.get? b=Y u->h'.get? b=Y u)
  (E:∀ b,H b=Y (.own a)->H' b=Y (.own a))(ht:∀ b xs,H b=Y (.tup xs)->H' b=Y (.tup xs)):cq P w H' h' a o:=by
 induction o with
 |lst xs=>obtain⟨z,l,n,r,e⟩:=x;exact⟨z,l,n,r,k _ _ (.inl rfl) e⟩
 |tup xs=>obtain⟨z,l,r,g,e,c⟩:=x;exact⟨z,l,r,g,k _ _ (.inl rfl) e,c⟩
 |dK s=>obtain⟨z,y,vs,r,g,i,j,e,c⟩:=x;exact⟨z,y,vs,r,g,i,j,k _ _ (.inl rfl) e,c⟩
 |dT s=>
  obtain⟨z,y,xs,r,g,i,j,e,c⟩:=x;exact⟨z,y,xs,Paired.mapP r λp q z=>⟨z.1,ht _ _ z.2.1,z.2.2⟩,g,i,j,k _ _ (.inl rfl) e,c⟩
 |set S n=>obtain⟨g,i,j,t,e,c⟩:=x;exact⟨g,i,j,t,k _ _ (.inl rfl) e,c⟩
 |ins C D fs=>
  obtain⟨d,z,ne,e,A,⟨m,i,j,B,c⟩,r⟩:=x;exact⟨E _ d,z,ne,k _ _ (.inl rfl) e,A,⟨m,i,j,k _ _ (.inr d) B,c⟩,r⟩
 |own y=>obtain⟨g,e⟩:=x;exact⟨g,k _ _ (.inl rfl) e⟩
 |xd fs=>obtain⟨A,⟨m,i,j,e,c⟩,r⟩:=x;exact⟨A,⟨m,i,j,k _ _ (.inl rfl) e,c⟩,r⟩
 |rng lo B=>obtain⟨t,u,v,e⟩:=x;exact⟨t,u,v,k _ _ (.inl rfl) e⟩
 |frz g u B=>obtain⟨e,q⟩:=x;exact⟨k _ _ (.inl rfl) e,B q⟩
 |tbl qs=>
  obtain⟨I,e,F,q,M,T,f⟩:=x;refine⟨I,k _ _ (.inl rfl) e,F,q,M,T,λB J z=>?_⟩;obtain⟨c,L,vs,tc,Q,D,N,G⟩:=f B J z;exact⟨c,L,vs,tc,Q,E _ D,k _ _ (.inr D) N,G⟩
 |met f y=>
  have e:h.get? a=Y (YQ (.ref f) (.ref y)):=x;show h'.get? a=Y (YQ (.ref f) (.ref y));exact k a _ (.inl rfl) e
 |ext B=>obtain⟨p,⟨o,e⟩,st⟩:=x;exact⟨st _ _ p λo q=>k _ _ (.inl rfl) q,⟨o,k _ _ (.inl rfl) e⟩,st⟩
theorem qA.lt (x:qA P w H h)(e:H a=Y o):a<h.objs.size:=(x a o e).lt
theorem qA.fresh (x:qA P w H h)(e:h.objs.size<=a):H a=none:=by
 cases q:H a with
 |none=>rfl
 |some u=>exact absurd (R6 (x.lt q) e) (Th _)
theorem qA.kept (x:qA P w H h)(k:∀ b u,h.get? b=Y u->h'.get? b=Y u):qA P w H h':=λa o e=>
 (x a o e).stay (λb u _ q=>k b u q) (λ_ q=>q) λ_ _ q=>q
theorem qA.laid (x:qA P w H h)(k:∀ b u,h.get? b=Y u->h'.get? b=Y u)(g:h.objs.size<=a)(new:cq P w (upd H a o) h' a o):qA P w (upd H a o) h':=λb u e=>by
 have d:=x.fresh g
 by_cases f:b=a
 ·subst f;rw[ag] at e;cases e;exact new
 ·rw[ar f] at e;exact(x b u e).stay (λc v _ q=>k c v q) (λc q=>by rw[ar (aS q d)];exact q) λc i q=>by rw[ar (aS q d)];exact q
end
def Rd (H:Hp)(a:Sd)(u:HO):Prop:=H a=Y u\/∃ o,H a=Y (.frz o u)
theorem Rd.ok (r:Rd H a u)(x:qA P w H h):cq P w H h a u:=by
 rcases r with r|⟨o,r⟩
 ·exact x a u r
 ·obtain⟨_,q⟩:=x a _ r;exact q
def O9:Option HO->Prop
 |some (.lst _)=>True
 |some (.dK _)=>True
 |some (.dT _)=>True
 |some (.set _ _)=>True
 |some (.ins _ _ _)=>True
 |some (.ext _)=>True
 |_=>False
section
variable {P:SA}{w:Te}{H:Hp}{h h':Uc}{x e:Sd}{o':HO}
theorem qA.write (ok:qA P w H h) (i:O9 (H x)) (he:e=x\/H e=Y (.own x)) (k:∀ b u,b ≠ e->h.get? b=Y u->h'.get? b=Y u) (m:∃ u,h'.get? e=Y u)
  (new:cq P w (upd H x o') h' x o'):qA P w (upd H x o') h':=λb u q=>by
 have d:∀ c y,H c=Y (.own y)->c≠x:=λc y r z=>by subst z;rw[r] at i;exact i
 have f:∀ c l,H c=Y (.tup l)->c≠x:=λc l r z=>by subst z;rw[r] at i;exact i
 by_cases g:b=x
 ·subst g;rw[ag] at q;cases q;exact new
 ·rw[ar g] at q
  by_cases a:b=e
  ·have j:H b=Y (.own x):=by
    rcases he with z|z
    ·exact absurd (a.trans z) g
    ·rw[a];exact z
   rw[q] at j;cases j;obtain⟨v,n⟩:=m;exact⟨v,by rw[a];exact n⟩
  ·refine(ok b u q).stay (λc v j r=>k c v ?_ r) (λc r=>by rw[ar (d c b r)];exact r) λc l r=>by rw[ar (f c l r)];exact r
   rcases j with rfl|j
   ·exact a
   ·rintro rfl;rcases he with z|z
    ·exact d c b j z
    ·rw[j] at z;cases z;exact g rfl
end
structure Un (fs ex:List Sd)(H H':Hp)(h h':Uc):Prop where
 keep:∀ b o,h.get? b=Y o->H b=none->b∉fs->b∉ex->h'.get? b=Y o
 slot:∀ b o,h.get? b=Y o->H b=none->b∈fs->b∉ex->∃ sl,h'.get? b=Y { o with slots:=sl }
 free:∀ b o,h.get? b=Y o->H b=none->b∉ex->H' b=none
 there:∀ b o,h.get? b=Y o->b∉ex->∃ o',h'.get? b=Y o'
 tups:∀ b xs,H b=Y (.tup xs)->H' b=Y (.tup xs)
 frzs:∀ b o u,H b=Y (.frz o u)->H' b=Y (.frz o u)
 tbls:∀ b ps,H b=Y (.tbl ps)->∃ more,H' b=Y (.tbl (ps++more))
section
variable {fs fs' ex ex':List Sd}{H H1 H2:Hp}{h h1 h2 h':Uc}{a x e:Sd}{o:HO}
theorem Un.any (u:Un fs ex H H1 h h1)(q:h.get? b=Y ob)(n:H b=none)(a:b∉ex):∃ d,h1.get? b=Y { ob with slots:=d }:=by
 by_cases c:b∈fs
 ·exact u.slot b ob q n c a
 ·exact⟨ob.slots,u.keep b ob q n c a⟩
theorem Un.kept (k:∀ b u,h.get? b=Y u->h'.get? b=Y u):Un fs ex H H h h':=
 ⟨λb a q _ _ _=>k b a q,λb a q _ _ _=>⟨a.slots,k b a q⟩,λ_ _ _ n _=>n,λb a q _=>⟨a,k b a q⟩,λ_ _ q=>q,λ_ _ _ q=>q,λ_ c q=>⟨#[],by rw[q];simp⟩⟩
theorem Un.refl:Un fs ex H H h h:=Un.kept λ_ _ q=>q
theorem Un.laid (k:∀ b u,h.get? b=Y u->h'.get? b=Y u)(e:h.objs.size<=a)(c:H a=none):Un fs ex H (upd H a o) h h' where
 keep:=λb u q _ _ _=>k b u q
 slot:=λb u q _ _ _=>⟨u.slots,k b u q⟩
 free:=λb u q n _=>by rw[ar (Si (R6 (RX q) e))];exact n
 there:=λb u q _=>⟨u,k b u q⟩
 tups:=λb d q=>by rw[ar (aS q c)];exact q
 frzs:=λb u d q=>by rw[ar (aS q c)];exact q
 tbls:=λb f q=>⟨#[],by rw[ar (aS q c),q];simp⟩
theorem Un.write (c:O9 (H x))(he:e=x\/H e=Y (.own x))(k:∀ b u,b≠e->h.get? b=Y u->h'.get? b=Y u)(d:∃ u,h'.get? e=Y u):Un fs ex H (upd H x o) h h':=by
 have g:∀ b,H b=none->b≠x:=λb n z=>by subst z;rw[n] at c;exact c
 have i:∀ b,H b=none->b≠e:=λb n z=>by
  subst z;rcases he with r|r
  ·exact g b n r
  ·rw[n] at r;cases r
 have f:∀ b u,H b=Y u->¬ O9 (Y u)->b≠x:=λb u q l z=>by subst z;rw[q] at c;exact l c
 refine⟨λb u q n _ _=>k b u (i b n) q,λb u q n _ _=>⟨u.slots,k b u (i b n) q⟩,λb u q n _=>by rw[ar (g b n)];exact n,λb u q _=>?_,
  λb j q=>by rw[ar (f b _ q λz=>z)];exact q,λb u j q=>by rw[ar (f b _ q λz=>z)];exact q,λb m q=>⟨#[],by rw[ar (f b _ q λz=>z),q];simp⟩⟩
 by_cases a:b=e
 ·subst a;exact d
 ·exact⟨u,k b u a q⟩
end
def Qf (h:Uc)(H:Hp):List Sd:=(UH h.objs.size).filter λa=>(H a).isSome
def CZ (h:Uc)(H:Hp):Uc:=PySem.W.hideAll h (Qf h H)
theorem FM (h:Uc)(H:Hp):(CZ h H).objs.size=h.objs.size:=PySem.W.hideAll_size _ _
theorem vZ (e:h.get? b=Y o)(n:H b=none):(CZ h H).get? b=Y o:=
 PySem.W.hideAll_get _ e λa=>by
  have q:(H b).isSome=true:=(List.mem_filter.mp a).2;rw[n] at q;simp at q
theorem Lb (e:(CZ h H).get? b=Y o):h.get? b=Y o/\H b=none:=by
 have a:h.get? b=Y o:=PySem.W.of_hideAll (Qf h H) e;refine⟨a,?_⟩;cases q:H b with
 |none=>rfl
 |some x=>
  have c:b∈Qf h H:=List.mem_filter.mpr ⟨U4.mpr (RX a),by simp[q]⟩;have z:(CZ h H).get? b=none:=PySem.W.hideAll_none (Qf h H) c;rw[z] at e;cases e
def og (g h:Uc)(L:Sd):List (Sd×Obj):=(UH h.objs.size).filterMap λa=>if a=L\/(g.get? a).isSome=true then none else(h.get? a).map λo=>(a,o)
theorem C8 (c:a≠L)(d:g.get? a=none)(b:h.get? a=Y o):(a,o)∈og g h L:=
 VV.mpr ⟨a,U4.mpr (RX b),by simp[c,d,b]⟩
theorem wC (c:p∈og g h L):p.1≠L/\g.get? p.1=none/\h.get? p.1=Y p.2:=by
 obtain⟨b,_,e⟩:=VV.mp c
 split at e
 ·cases e
 ·rename_i a
  cases q:h.get? b with
  |none=>rw[q] at e;simp at e
  |some u=>
   rw[q] at e;simp only[abh,aaO] at e;subst e;refine⟨λz=>a (.inl z),?_,q⟩;show g.get? b=none;cases r:g.get? b with
   |none=>rfl
   |some v=>exact(a (.inr (by simp[r]))).elim
def fh (g h:Uc)(L d:Sd):List (Sd×Obj):=(og g h L).filter λp=>decide (p.1≠d)
theorem J7:News g L h (og g h L):=λp d=>let ⟨a,b,c⟩:=wC d;⟨c,a,b⟩
structure Mod (K:KE)(mg:Str->Option RV)(base:Uc):Prop where
 kin:K.In base
 glob:base.Ns R1 mg
 blt:∃ mb,base.Ns Xl mb/\∀ x:Str,x≠"__name__"->mb x=Tq x
 nolimit:base.NoLimit
 bm:∃ bm o,mg "__builtins__"=Y (.ref bm)/\bm≠Xl/\base.get? bm=Y o/\o.cls=.type "module"/\o.dict=Y Xl/\o.data=.plain
structure Cx where
 prog:SA
 w:Te
 K:KE
 mg:Str->Option RV
 base:Uc
 A:Tf
 N:List Str
 s₀:RZ
 H₀:Hp
 env:Env
 outer:List Env
 stack:List Env
 ex:List Sd
 fn:Str->Bool
 calm:Bool
 pn:List (Sd×Obj)
 xe:RV->RZ->Prop
def Da (l:List Env):List Sd:=l.filterMap (·.frame)
abbrev Cx.fs (X:Cx):List Sd:=Da X.outer
def Oj (a:Xy)(x:Str):Prop:=a.names.lookup x=Y .local\/a.names.lookup x=Y .cell\/a.names.lookup x=Y .free
def Nl (a:Xy)(x:Str):Prop:=a.names.lookup x=Y .local\/a.names.lookup x=Y .cell
def QL (env:Env)(h:Uc)(m:Str->Option RV)(x:Str)(u:RV):Prop:=
 (env.kindOf x=Y .local/\m x=Y u)\/((env.kindOf x=Y .cell\/env.kindOf x=Y .free)/\∃ c,env.cells.lookup x=Y c/\h.IsCell c (Y u))
structure Cx.Ok (X:Cx):Prop where
 mod:Mod X.K X.mg X.base
 kind:X.env.scope.kind=.function
 glob:X.env.globals=R1
 blt:X.env.builtins=Xl
 above:X.s₀.heap.objs.size<=X.env.locals
 inj:∀ x y c,X.env.cells.lookup x=Y c->X.env.cells.lookup y=Y c->x=y
 has:∀ x,(X.env.kindOf x=Y .cell\/X.env.kindOf x=Y .free)->∃ c,X.env.cells.lookup x=Y c
 cab:∀ x c,X.fn x=true->X.env.cells.lookup x=Y c->X.s₀.heap.objs.size<=c
 hd:X.calm=true->X.A.handled=none
 frames:X.A.frames=Y X.stack
 stk:X.stack=X.outer\/(X.stack=X.env::X.outer/\X.env.frame=Y X.env.locals)
 exf:∀ b∈X.ex,b≠X.env.locals/\∀ x c,X.env.cells.lookup x=Y c->c≠b
 bs:∀ b o,X.base.get? b=Y o->X.s₀.heap.get? b=Y o/\X.H₀ b=none
 bsz:X.base.objs.size<=X.s₀.heap.objs.size
 noex:∀ b o,X.base.get? b=Y o->b∉X.ex
 exfs:∀ b∈X.ex,b∉X.fs
 funs:X.s₀.heap.FunFrames X.base X.outer
 frf:∀ b∈X.fs,X.H₀ b=none
structure aK (X:Cx)(pins:List (Sd×Obj))(σ:List (Option V))(H:Hp)(s:RZ):Prop where
 ok:X.Ok
 os:s.os=X.s₀.os
 bare:Z_ s.gens
 base:Un X.fs X.ex X.H₀ H X.s₀.heap s.heap
 loc:∃ m,s.heap.Ns X.env.locals m/\∀ (i:Nat) (x:Str) (v:V),X.N[i]?=Y x->σ[i]?=Y (Y v)->Oj X.env.scope x->∃ u,bJ v u/\QL X.env s.heap m x u
 cell:∀ x c,X.env.cells.lookup x=Y c->∃ v,s.heap.IsCell c v
 free:H X.env.locals=none
 freeC:∀ x c,X.env.cells.lookup x=Y c->H c=none
 pin:∀ p∈X.pn++pins,s.heap.get? p.1=Y p.2/\H p.1=none/\p.1≠X.env.locals/\p.1∉X.fs/\∀ v,p.2.data≠.cell v
 hok:qA X.prog X.w H s.heap
 len:σ.length=X.N.length
section
variable {X:Cx}{pins:List (Sd×Obj)}{σ:List (Option V)}{H H':Hp}{s:RZ}{h':Uc}
theorem Cx.Ok.nofr (ok:X.Ok)(e:X.base.get? b=Y o):b∉X.fs:=λa=>by
 have:=(ok.funs.mem a).1;rw[e] at this;cases this
theorem aK.bs (I:aK X pins σ H s):∀ b o,X.base.get? b=Y o->s.heap.get? b=Y o/\H b=none:=λb o e=>
 ⟨I.base.keep b o (I.ok.bs b o e).1 (I.ok.bs b o e).2 (I.ok.nofr e) (I.ok.noex b o e),I.base.free b o (I.ok.bs b o e).1 (I.ok.bs b o e).2 (I.ok.noex b o e)⟩
theorem aK.bk (I:aK X pins σ H s):∀ b o,X.base.get? b=Y o->s.heap.get? b=Y o:=λb o e=>(I.bs b o e).1
theorem aK.mod (I:aK X pins σ H s):Mod X.K X.mg X.base:=I.ok.mod
theorem aK.kIn (I:aK X pins σ H s):X.K.In s.heap:=I.ok.mod.kin.keeps I.bk
theorem aK.lt (I:aK X pins σ H s):X.env.locals<s.heap.objs.size:=let ⟨_,hn,_⟩:=I.loc;hn.lt
theorem aK.sz (I:aK X pins σ H s):X.s₀.heap.objs.size<=s.heap.objs.size:=Sv I.ok.above (TH I.lt)
theorem aK.nofs (I:aK X pins σ H s)(h:s.heap.objs.size<=a):a∉X.fs:=λb=>by
 obtain⟨_,o,c,_⟩:=I.ok.funs.mem b;exact absurd (R6 (RX c) (Sv I.sz h)) (Th _)
theorem aK.cne (I:aK X pins σ H s):∀ x c,X.env.cells.lookup x=Y c->c≠X.env.locals:=λx c e z=>by
 obtain⟨v,o,f,d⟩:=I.cell x c e;obtain⟨m,⟨i,h,g,b,a,_⟩,_⟩:=I.loc;rw[z,b] at f;cases f;rw[a] at d;cases d
theorem aK.funs (I:aK X pins σ H s):s.heap.FunFrames X.base X.outer:=by
 have all:∀ (l:List Env),(∀ b∈Da l,b∈X.fs)->X.s₀.heap.FunFrames X.base l->s.heap.FunFrames X.base l:=by
  intro l
  induction l with
  |nil=>intro _ _;trivial
  |cons m r k=>
   intro f g;obtain⟨n,⟨L,o,d,h,p,j⟩,i⟩:=g;have c:L∈X.fs:=f L (by unfold Da;rw[Wx,d];exact Sz);obtain⟨q,e⟩:=I.base.slot L o p (I.ok.frf L c) c λz=>I.ok.exfs L z c
   exact⟨n,⟨L,_,d,h,e,j⟩,k (λb a=>f b (by unfold Da;rw[Wx,d];exact R_ _ a)) i⟩
 exact all X.outer (λ_ a=>a) I.ok.funs
theorem aK.stack (I:aK X pins σ H s):s.heap.FunFrames X.base X.stack:=by
 rcases I.ok.stk with e|⟨e,b⟩
 ·rw[e];exact I.funs
 ·rw[e];obtain⟨m,a,_⟩:=I.loc;refine .cons (by rw[I.ok.kind];decide) b a ?_ I.funs;exact ZX (Sv I.ok.bsz I.ok.above)
theorem aK.stkSub (I:aK X pins σ H s):∀ b∈Da X.stack,b∈X.env.locals::X.fs:=λb a=>by
 rcases I.ok.stk with e|⟨e,c⟩
 ·rw[e] at a;exact R_ _ a
 ·rw[e] at a;unfold Da at a;rw[Wx,c] at a;exact a
theorem aK.stkFree (I:aK X pins σ H s):∀ b∈Da X.stack,H b=none:=λb a=>by
 rcases R'.mp (I.stkSub b a) with e|a
 ·rw[e];exact I.free
 ·obtain⟨_,o,c,_⟩:=I.ok.funs.mem a;exact I.base.free b o c (I.ok.frf b a) λz=>I.ok.exfs b z a
theorem aK.step {g':Array GenState}{t':Nat}{d':Drawn}{ch:List Sd} (I:aK X pins σ H s)
  (g:∀ b∈ch,(b∈X.ex\/X.s₀.heap.objs.size<=b)/\b≠X.env.locals/\(∀ x c,X.env.cells.lookup x=Y c->c≠b)/\∀ p∈X.pn++pins,p.1≠b)
  (keep:∀ b o,b≠X.env.locals->b∉X.fs->b∉ch->s.heap.get? b=Y o->H b=none->h'.get? b=Y o)
  (y:∀ b o,b≠X.env.locals->b∈X.fs->b∉ch->s.heap.get? b=Y o->H b=none->∃ T,h'.get? b=Y { o with slots:=T })(free:∀ b o,b∉ch->s.heap.get? b=Y o->H b=none->H' b=none)
  (there:∀ b o,b∉ch->s.heap.get? b=Y o->∃ D,h'.get? b=Y D)
  (J:∀ b xs,H b=Y (.tup xs)->H' b=Y (.tup xs))(G:∀ b o u,H b=Y (.frz o u)->H' b=Y (.frz o u))(F:∀ b L,H b=Y (.tbl L)->∃ more,H' b=Y (.tbl (L++more)))
  (ns:∀ m,s.heap.Ns X.env.locals m->h'.Ns X.env.locals m)(M:qA X.prog X.w H' h')(hg:Z_ g'):
  aK X pins σ H' { s with heap:=h',gens:=g',drawn:=d',toks:=t' }:=by
 have E:∀ b o,X.s₀.heap.get? b=Y o->b≠X.env.locals:=λb o e=>Si (R6 (RX e) I.ok.above)
 have t:∀ b o,X.s₀.heap.get? b=Y o->b∉X.ex->b∉ch:=λb o e a A=>by
  rcases(g b A).1 with z|z
  ·exact a z
  ·exact absurd (R6 (RX e) z) (Th _)
 have f:∀ x c,X.env.cells.lookup x=Y c->∀ v,s.heap.IsCell c v->h'.IsCell c v:=λx c e v ⟨o,B,N⟩=>by
  have h:c∉ch:=λz=>(g c z).2.2.1 x c e rfl
  by_cases hc:c∈X.fs
  ·obtain⟨T,q⟩:=y c o (I.cne x c e) hc h B (I.freeC x c e);exact⟨_,q,N⟩
  ·exact⟨o,keep c o (I.cne x c e) hc h B (I.freeC x c e),N⟩
 refine⟨I.ok,I.os,hg,⟨λb o e n A a=>?_,λb o e n A a=>?_,λb o e n a=>?_,λb o e a=>?_,λb xs e=>J b xs (I.base.tups b xs e),λb o xs e=>G b o xs (I.base.frzs b o xs e),λb L e=>?_⟩,?_,λx c e=>?_,?_,λx c e=>?_,λp hp=>?_,M,I.len⟩
 ·exact keep b o (E b o e) A (t b o e a) (I.base.keep b o e n A a) (I.base.free b o e n a)
 ·obtain⟨T,j⟩:=I.base.slot b o e n A a;obtain⟨Q,C⟩:=y b _ (E b o e) A (t b o e a) j (I.base.free b o e n a);exact⟨Q,C⟩
 ·obtain⟨D,j⟩:=I.base.there b o e a;exact free b D (t b o e a) j (I.base.free b o e n a)
 ·obtain⟨D,j⟩:=I.base.there b o e a;exact there b D (t b o e a) j
 ·obtain⟨m1,j⟩:=I.base.tbls b L e;obtain⟨Q,C⟩:=F b _ j;exact⟨m1++Q,by rw[C,Array.append_assoc]⟩
 ·obtain⟨m,hn,Q⟩:=I.loc;refine⟨m,ns m hn,λi x v j C e3=>?_⟩;obtain⟨u,r,l⟩:=Q i x v j C e3;refine⟨u,r,?_⟩;rcases l with l|⟨k,c,e,z⟩
  ·exact .inl l
  ·exact .inr ⟨k,c,e,f x c e _ z⟩
 ·obtain⟨v,z⟩:=I.cell x c e;exact⟨v,f x c e v z⟩
 ·obtain⟨m,⟨o,_,_,B,_⟩,_⟩:=I.loc;exact free _ o (λz=>(g _ z).2.1 O) B I.free
 ·obtain⟨v,o,B,N⟩:=I.cell x c e;exact free c o (λz=>(g c z).2.2.1 x c e rfl) B (I.freeC x c e)
 ·obtain⟨e,n,ne,Q,d⟩:=I.pin p hp;have h:p.1∉ch:=λz=>(g p.1 z).2.2.2 p hp rfl
  exact⟨keep p.1 p.2 ne Q h e n,free p.1 p.2 h e n,ne,Q,d⟩
theorem aK.un {t':Nat}(I:aK X pins σ H s)(u:Un X.fs [] H H' s.heap h')(d:qA X.prog X.w H' h'):aK X pins σ H' { s with heap:=h',toks:=t' }:=by
 obtain⟨m,⟨o,l,q,h,r⟩,_⟩:=id I.loc;obtain⟨v,k⟩:=u.any h I.free zyB;exact I.step (g':=s.gens) (d':=s.drawn) (ch:=[]) (λ_ z=>nomatch z) (λb o _ g _ e n=>u.keep b o e n g zyB) (λb o _ g _ e n=>u.slot b o e n g zyB) (λb o _ e n=>u.free b o e n zyB) (λb o _ e=>u.there b o e zyB) u.tups u.frzs u.tbls (λt j=>by
  obtain⟨p,f,c,a,i⟩:=j;rw[h] at a;cases a;exact⟨_,f,c,k,i⟩) d I.bare
theorem aK.call {g':Array GenState}{t':Nat}{d':Drawn}{ch:List Sd} (I:aK X pins σ H s) (u:Un (Da X.stack) ch H H' s.heap h') (h:qA X.prog X.w H' h') (v:Z_ g')
  (f:∀ b∈ch,(b∈X.ex\/X.s₀.heap.objs.size<=b)/\b≠X.env.locals/\(∀ x c,X.env.cells.lookup x=Y c->c≠b)/\∀ p∈X.pn++pins,p.1≠b):
  aK X pins σ H' { s with heap:=h',gens:=g',drawn:=d',toks:=t' }:=by
 obtain⟨m,⟨o,y,B,k,r⟩,_⟩:=id I.loc;obtain⟨D,j⟩:=u.any k I.free λz=>(f _ z).2.1 O
 exact I.step (ch:=ch) f (λb o j t a e n=>u.keep b o e n (λz=>(R'.mp (I.stkSub b z)).elim j t) a) (λb o _ _ a e n=>u.any e n a) (λb o a e n=>u.free b o e n a) (λb o a e=>u.there b o e a) u.tups u.frzs u.tbls (λC q=>by
  obtain⟨A,i,g,d,l⟩:=q;rw[k] at d;cases d;exact⟨_,i,g,j,l⟩) h v
theorem aK.turned {t':Nat}{it:Sd} (I:aK X pins σ H s) (k:∀ b o,b ≠ it->s.heap.get? b=Y o->h'.get? b=Y o) (g:H it=none) (f:it ≠ X.env.locals)
  (j:it∈X.ex\/X.s₀.heap.objs.size<=it)(A:∀ x c,X.env.cells.lookup x=Y c->c≠it)(i:∀ p∈X.pn++pins,p.1≠it):aK X pins σ H { s with heap:=h',toks:=t' }:=by
 have d:∀ b u,H b=Y u->b≠it:=λb u e z=>by rw[z,g] at e;cases e
 refine I.step (g':=s.gens) (d':=s.drawn) (ch:=[it]) (λb t=>?_) (λb o _ _ a e _=>k b o (λz=>a (by simp[z])) e) (λb o _ _ a e _=>⟨o.slots,k b o (λz=>a (by simp[z])) e⟩) (λ_ _ _ _ n=>n)
  (λb o a e=>⟨o,k b o (λz=>a (by simp[z])) e⟩) (λ_ _ e=>e) (λ_ _ _ e=>e) (λb C e=>⟨#[],by rw[e];simp⟩) (λm l=>?_) (λb u e=>?_) I.bare
 ·have e:b=it:=by simpa using t
  subst e;exact⟨j,f,A,i⟩
 ·obtain⟨o,h,y,B,r⟩:=l;exact⟨o,h,y,k _ o (U9 f) B,r⟩
 ·refine(I.hok b u e).stay (λc v a q=>k c v ?_ q) (λ_ q=>q) λ_ _ q=>q
  rcases a with z|z
  ·rw[z];exact d b u e
  ·exact d c _ z
theorem aK.tok (I:aK X pins σ H s)(t:Nat):aK X pins σ H { s with toks:=t }:=I.un (h':=s.heap) (t':=t) Un.refl I.hok
theorem aK.kept (I:aK X pins σ H s)(k:∀ b u,s.heap.get? b=Y u->h'.get? b=Y u):aK X pins σ H { s with heap:=h',toks:=t' }:=I.un (Un.kept k) (I.hok.kept k)
theorem aK.laid (I:aK X pins σ H s) (k:∀ b u,s.heap.get? b=Y u->h'.get? b=Y u) (c:s.heap.objs.size <= a) (new:cq X.prog X.w (upd H a o) h' a o) :
  aK X pins σ (upd H a o) { s with heap:=h',toks:=t' }:=I.un (Un.laid k c (I.hok.fresh c)) (I.hok.laid k c new)
theorem aK.write (I:aK X pins σ H s) (c:O9 (H x)) (he:e=x\/H e=Y (.own x)) (k:∀ b u,b ≠ e->s.heap.get? b=Y u->h'.get? b=Y u) (a:∃ u,h'.get? e=Y u)
  (new:cq X.prog X.w (upd H x o) h' x o):aK X pins σ (upd H x o) { s with heap:=h',toks:=t' }:=I.un (Un.write c he k a) (I.hok.write c he k a new)
theorem aK.pins_of (I:aK X pins σ H s)(h:∀ p∈pins',s.heap.get? p.1=Y p.2/\H p.1=none/\p.1≠X.env.locals/\p.1∉X.fs/\∀ v,p.2.data≠.cell v):aK X pins' σ H s:=
 ⟨I.ok,I.os,I.bare,I.base,I.loc,I.cell,I.free,I.freeC,λp a=>(S8.mp a).elim (λz=>I.pin p (UC _ z)) (h p),I.hok,I.len⟩
theorem Bw {N:List Str}(d:N.Nodup){i j:Nat}{x:Str}(a:N[i]?=Y x)(b:N[j]?=Y x):i=j:=by
 obtain⟨g,e⟩:=R9.mp a;obtain⟨f,c⟩:=R9.mp b;exact(List.getElem_inj d).mp (e.trans c.symm)
theorem zq {M:Model}{A:Tf}{E:RV->RZ->Prop}{i:Nat}{x:Str}{v:V}{u:RV}{Q:Unit->RZ->Prop} (I:aK X pins σ H s) (hN:X.N.Nodup) (hi:X.N[i]?=Y x) (B:Nl X.env.scope x) (r:bJ v u)
  (h:∀ s',aK X pins (σ.set i (Y v)) H s'->(∃ a,S_ a s.heap s'.heap/\(a=X.env.locals\/X.env.cells.lookup x=Y a))->Q () s')(hf:X.fn x=true\/X.env.scope.names.lookup x=Y .local:=by first|exact .inl rfl|exact .inr rfl|assumption):Sb M A (storeName X.env x u) Q E s:=by
 obtain⟨m,hn,hl⟩:=id I.loc;have T:(X.env.scope.kind==.class||(X.env.scope.kind==.module&&X.env.locals != X.env.globals))=false:=by rw[I.ok.kind];rfl
 have hiσ:i<σ.length:=by rw[I.len];exact(R9.mp hi).1
 have cne:=I.cne;have l:∀ {a:Sd}{h':Uc},(∃ o,s.heap.get? a=Y o/\H a=none)->S_ a s.heap h'->qA X.prog X.w H h':=λ{a h'} ha f b ob e=>by
  obtain⟨_,_,C⟩:=ha;refine(I.hok b ob e).stay (λc w' t q=>(f.2 c ?_).trans q) (λ_ q=>q) λ_ _ q=>q
  rintro rfl;rcases t with rfl|t
  ·rw[C] at e;cases e
  ·rw[C] at t;cases t
 rcases B with F|F
 ·refine wpAny_storeName_local F hn (λh' hn' f=>?_) T;obtain⟨oL,_,_,J,_⟩:=id hn;refine h _ ⟨I.ok,I.os,I.bare,⟨λb o e n L B=>?_,λb o e n L B=>?_,I.base.free,λb o e B=>?_,I.base.tups,I.base.frzs,I.base.tbls⟩,⟨_,hn',λj y v' g D e3=>?_⟩,λy c e=>?_,I.free,I.freeC,λp hp=>?_,l ⟨oL,J,I.free⟩ f,by simpa using I.len⟩ ⟨_,f,.inl rfl⟩
  ·exact(f.2 b (Si (R6 (RX e) I.ok.above))).trans (I.base.keep b o e n L B)
  ·obtain⟨sl,g⟩:=I.base.slot b o e n L B;exact⟨sl,(f.2 b (Si (R6 (RX e) I.ok.above))).trans g⟩
  ·obtain⟨o',g⟩:=I.base.there b o e B;exact⟨o',(f.2 b (Si (R6 (RX e) I.ok.above))).trans g⟩
  ·by_cases G:j=i
   ·subst G;rw[hi] at g;cases g;rw[Zk hiσ] at D;cases D;exact⟨u,r,.inl ⟨F,zyB⟩⟩
   ·rw[ZZ (U9 G)] at D;obtain⟨u',r',q⟩:=hl j y v' g D e3;refine⟨u',r',?_⟩;rcases q with ⟨k,e⟩|⟨k,c,e,z⟩
    ·refine .inl ⟨k,?_⟩;have:y≠x:=λe=>G (Bw hN g (e▸hi))
     simp[this,e]
    ·exact .inr ⟨k,c,e,z.sameBut f (cne y c e)⟩
  ·obtain⟨w',z⟩:=I.cell y c e;exact⟨w',z.sameBut f (cne y c e)⟩
  ·obtain⟨e,n,ne,nf,d⟩:=I.pin p hp;exact⟨(f.2 p.1 ne).trans e,n,ne,nf,d⟩
 ·have J:X.fn x=true:=by
   rcases hf with z|z
   ·exact z
   ·rw[z] at F;cases F
  obtain⟨c,t⟩:=I.ok.has x (.inl F);obtain⟨w',z⟩:=I.cell x c t;refine wpAny_storeName_cell I.ok.kind F t z (λh' hc' f=>?_);obtain⟨oc,hoc,hocd⟩:=id z;refine h { s with heap:=h' } ⟨I.ok,I.os,I.bare,⟨λb o e n L B=>?_,λb o e n L B=>?_,I.base.free,λb o e B=>?_,I.base.tups,I.base.frzs,I.base.tbls⟩,⟨m,hn.sameBut f (U9 (cne x c t)),λj y v' g D e3=>?_⟩,λy c' e=>?_,I.free,I.freeC,λp hp=>?_,l ⟨oc,hoc,I.freeC x c t⟩ f,by simpa using I.len⟩ ⟨c,f,.inr t⟩
  ·exact(f.2 b (Si (R6 (RX e) (I.ok.cab x c J t)))).trans (I.base.keep b o e n L B)
  ·obtain⟨sl,g⟩:=I.base.slot b o e n L B;exact⟨sl,(f.2 b (Si (R6 (RX e) (I.ok.cab x c J t)))).trans g⟩
  ·obtain⟨o',g⟩:=I.base.there b o e B;exact⟨o',(f.2 b (Si (R6 (RX e) (I.ok.cab x c J t)))).trans g⟩
  ·by_cases G:j=i
   ·subst G;rw[hi] at g;cases g;rw[Zk hiσ] at D;cases D;exact⟨u,r,.inr ⟨.inl F,c,t,hc'⟩⟩
   ·rw[ZZ (U9 G)] at D;obtain⟨u',r',q⟩:=hl j y v' g D e3;refine⟨u',r',?_⟩;rcases q with q|⟨k,c',e,z'⟩
    ·exact .inl q
    ·refine .inr ⟨k,c',e,z'.sameBut f ?_⟩;rintro rfl;exact G (Bw hN g (I.ok.inj _ _ _ e t▸hi))
  ·by_cases hcc:c'=c
   ·subst hcc;exact⟨_,hc'⟩
   ·obtain⟨w2,z2⟩:=I.cell y c' e;exact⟨w2,z2.sameBut f hcc⟩
  ·obtain⟨e,n,ne,nf,d⟩:=I.pin p hp;refine⟨(f.2 p.1 ?_).trans e,n,ne,nf,d⟩;intro q;rw[q,hoc] at e;have q':oc=p.2:=RU e;exact d w' (by rw[<- q'];exact hocd)
theorem mT (I:aK X pins σ H s) (d:X.N.Nodup) (hi:X.N[i]?=Y x) (b:Nl X.env.scope x) (r:bJ v u)
  (h:∀ a,aK X pins (σ.set i (Y v)) H a->Q () a)(e:X.fn x=true\/X.env.scope.names.lookup x=Y .local:=by first|exact .inl rfl|exact .inr rfl|assumption):Sb M A (storeName X.env x u) Q E s:=
 zq I d hi b r (λa c _=>h a c) e
theorem aK.call' (I:aK X pins σ H s) (h:s'.os=s.os) (u:Un (Da X.stack) ch H H' s.heap s'.heap) (d:qA X.prog X.w H' s'.heap) (g:Z_ s'.gens)
  (a:∀ b∈ch,(b∈X.ex\/X.s₀.heap.objs.size<=b)/\b≠X.env.locals/\(∀ x c,X.env.cells.lookup x=Y c->c≠b)/\∀ p∈X.pn++pins,p.1≠b):aK X pins σ H' s':=by
 obtain⟨h',g',d',t',f⟩:=s';have e:f=s.os:=h;subst e;exact I.call (g':=g') (t':=t') (d':=d') u d g a
end
abbrev XK:=RV->Option Sd->Hp->Prop
abbrev St:=List (Option V)
abbrev VK:=V->Hp->Prop
abbrev TE:=St->Hp->VK->Prop
abbrev TT:=St->Hp->(Bool->Hp->Prop)->Prop
abbrev TA:=St->Hp->(List V->Hp->Prop)->Prop
structure Cp where
 nx:St->Hp->Prop
 rt:VK
 bk:St->Hp->Prop:=λ_ _=>False
 ct:St->Hp->Prop:=λ_ _=>False
abbrev TS:=Cp->St->Hp->Prop
def EP (X:Cx)(a:List (Sd×Obj))(c:St)(Q:VK)(u:RV)(d:RZ):Prop:=∃ v b,aK X a c b d/\bJ v u/\Q v b
def TP (X:Cx)(a:List (Sd×Obj))(d:St)(Q:Bool->Hp->Prop)(b:Bool)(e:RZ):Prop:=∃ c,aK X a d c e/\Q b c
def AP (X:Cx)(a:List (Sd×Obj))(c:St)(Q:List V->Hp->Prop)(us:List RV)(d:RZ):Prop:=∃ vs b,aK X a c b d/\aU vs us/\Q vs b
def SP (X:Cx)(b:List (Sd×Obj))(D:Cp)(f:Flow)(d:RZ):Prop:=
 match f with
 |.next=>∃ a c,aK X b a c d/\D.nx a c
 |.brk=>∃ a c,aK X b a c d/\D.bk a c
 |.cont=>∃ a c,aK X b a c d/\D.ct a c
 |.ret u=>∃ v a c,aK X b a c d/\bJ v u/\D.rt v c
def PE (X:Cx)(e:U2)(t:TE):Prop:=
 ∀ (a:List (Sd×Obj)) (s:RZ) (b:St) (H:Hp) (Q:VK),aK X a b H s->t b H Q->Sb (SD X.prog X.w) X.A (V1 e X.env) (EP X a b Q) X.xe s
structure WE (X:Cx)(e:U2)(t:TE):Prop where
 go:PE X e t
def PT (X:Cx)(e:U2)(t:TT):Prop:=
 ∀ (a:List (Sd×Obj)) (s:RZ) (b:St) (H:Hp) (Q:Bool->Hp->Prop),aK X a b H s->t b H Q->Sb (SD X.prog X.w) X.A (isTrue e X.env (V1 e X.env)) (TP X a b Q) X.xe s
structure WT (X:Cx)(e:U2)(t:TT):Prop where
 go:PT X e t
def PW (X:Cx)(e:U2)(t:TT):Prop:=
 ∀ (b:Sem RV) (a:List (Sd×Obj)) (s:RZ) (c:St) (H:Hp) (Q:Bool->Hp->Prop),aK X a c H s->t c H Q->Sb (SD X.prog X.w) X.A (isTrue e X.env b) (TP X a c Q) X.xe s
structure WW (X:Cx)(e:U2)(t:TT):Prop where
 go:PW X e t
theorem PW.pt (h:PW X e t):PT X e t:=h _
def PA (X:Cx)(es:List U2)(t:TA):Prop:=
 ∀ (c:Pos) (a:List (Sd×Obj)) (s:RZ) (b:St) (H:Hp) (Q:List V->Hp->Prop),aK X a b H s->t b H Q->Sb (SD X.prog X.w) X.A (spliced (VY c (Ss es X.env))) (AP X a b Q) X.xe s
structure WA (X:Cx)(e:List U2)(t:TA):Prop where
 go:PA X e t
def PS (X:Cx)(st:T6)(t:TS):Prop:=
 ∀ (a:List (Sd×Obj)) (s:RZ) (b:St) (H:Hp) (D:Cp),aK X a b H s->t D b H->Sb (SD X.prog X.w) X.A (exec st X.env) (SP X a D) X.xe s
structure WS (X:Cx)(e:T6)(t:TS):Prop where
 go:PS X e t
def Ht (X:Cx)(st:List T6)(t:TS):Prop:=
 ∀ (a:List (Sd×Obj)) (s:RZ) (b:St) (H:Hp) (D:Cp),aK X a b H s->t D b H->Sb (SD X.prog X.w) X.A (execs st X.env) (SP X a D) X.xe s
structure cA (X:Cx)(e:List T6)(t:TS):Prop where
 go:Ht X e t
theorem cu (h:Sb M A t Q E s)(b:∀ a s,Q a s->Q' a s):Sb M A t Q' E s:=TU h b λ_ _ x=>x
section
variable {X:Cx}
inductive rX (i:Nat)(σ:St)(H:Hp)(Q:VK):Prop
 |mk (v:V) (_:σ[i]?=Y (Y v)) (_:Q v H)
def tC (v:V):TE:=λ_ H Q=>Q v H
theorem NQ (p:X.N[i]?=Y x)(y:Oj X.env.scope x)(j:(x==("__debug__":Str))=false:=by decide)(g:(x==("__classdict__":Str))=false:=by decide):PE X (.Name x pos) (rX i):=by
 intro f s t H Q I h;obtain⟨v,e,h⟩:=h;obtain⟨m,o,n⟩:=I.loc;obtain⟨u,r,l⟩:=n i x v p e y;have b:EP X f t Q u s:=⟨v,H,I,r,h⟩
 rcases l with ⟨d,q⟩|⟨d,c,k,a⟩
 ·exact ZS (XJ I.ok.kind d o q b) j
 ·rcases d with d|d
  ·exact ZS (wpAny_loadName_cell I.ok.kind d k a b) j
  ·exact ZS (wpAny_loadName_free I.ok.kind d k a b g) j
theorem aa {i j pos}:WE X (.Constant (.int i) j pos) (tC (.int i)):=by
 exact⟨λ_ _ _ H _ I h=>wpAny_Constant_int ⟨.int i,H,I.tok _,⟨_,O⟩,h⟩⟩
theorem iH {b j pos}:WE X (.Constant (.bool b) j pos) (tC (.bl b)):=by
 exact⟨λ_ _ _ H _ I h=>Constant_bool ⟨.bl b,H,I,O,h⟩⟩
theorem Eu {j pos}:WE X (.Constant .none j pos) (tC .non):=by
 exact⟨λ_ _ _ H _ I h=>Constant_none ⟨.non,H,I,O,h⟩⟩
theorem ji {x j pos}:WE X (.Constant (.str x) j pos) (tC (.str x)):=by
 exact⟨λ_ _ _ H _ I h=>Calls.Constant_str ⟨.str x,H,I.tok _,⟨_,O⟩,h⟩⟩
def Gl (X:Cx)(x:Str):Prop:=X.env.kindOf x=Y .globalImplicit
theorem jk (I:aK X pins σ H s) (a:Gl X x) (b:X.mg x=Y u) (h:Q u s)
  (c:(x==("__debug__":Str))=false:=by decide):Sb (SD X.prog X.w) X.A (V1 (.Name x pos) X.env) Q E s:=
 Yf I.ok.kind a (Calls.loadGlobal_global (by rw[I.ok.glob];exact I.mod.glob.keeps I.bk) b h) c
theorem iG (I:aK X pins σ H s) (c:Gl X x) (f:X.mg x=none) (d:Tq x=Y u) (h:Q u s)
  (a:x≠"__name__":=by decide)(g:(x==("__debug__":Str))=false:=by decide):Sb (SD X.prog X.w) X.A (V1 (.Name x pos) X.env) Q E s:=by
 obtain⟨i,e,b⟩:=I.mod.blt;exact Yf I.ok.kind c (Calls.loadGlobal_builtin (by rw[I.ok.glob];exact I.mod.glob.keeps I.bk) f (by rw[I.ok.blt];exact e.keeps I.bk) ((b x a).trans d) h) g
theorem KZ (a:Gl X x)(b:X.mg x=Y u)(r:bJ v u)(c:(x==("__debug__":Str))=false:=by decide):PE X (.Name x pos) (tC v):=
 λ_ _ _ H _ I h=>jk I a b ⟨v,H,I,r,h⟩ c
theorem c_ (b:Gl X x)(d:X.mg x=none)(c:Tq x=Y u)(r:bJ v u)(a:x≠"__name__":=by decide)(e:(x==("__debug__":Str))=false:=by decide):WE X (.Name x pos) (tC v):=by
 exact⟨λ_ _ _ H _ I h=>iG I b d c ⟨v,H,I,r,h⟩ a e⟩
variable {a b:U2}{ta tb:TE}{pos:Pos}
inductive Rj (x:V)(H:Hp)(Q:Bool->Hp->Prop):Prop
 |mk (c:Bool) (_:x=.bl c) (_:Q c H)
def tB (t:TE):TT:=λb H Q=>t b H λx a=>Rj x a Q
theorem aV (h:WE X e t)(he:∀ a,isTrue e X.env a=(do let v <- a;ZL e.pos;holding [v] (truthy v)):=by intro _;rfl):WT X e (tB t):=by
 have h:=h.go;refine⟨?_⟩;intro b s j H Q I hw;refine isTrue_plain (cu (h b s j H _ I hw) λv l c=>?_) (he _);obtain⟨x,f,k,g,i⟩:=c;obtain⟨d,rfl,q⟩:=i;cases g;exact UL ⟨f,k,q⟩
variable {tA tB':TT}{fh:List U2}
def QW (t u:TT):TT:=λb H Q=>t b H λc a=>if c=true then u b a Q else Q false a
def RE (t u:TT):TT:=λb H Q=>t b H λc a=>if c=true then Q true a else u b a Q
def QT (t:TT):TT:=λb H Q=>t b H λc a=>Q (!c) a
theorem HQ (d:WT X a tA):WW X (.BoolOp .And [a] pos) tA:=by
 have d:=d.go;refine⟨?_⟩;intro g b s f H Q I h;refine isTrue_and (cu (d b s f H Q I h) λc i e=>?_);cases c with
 |true=>exact isTrue_and_nil e
 |false=>exact e
theorem eI (d:WT X a tA):WW X (.BoolOp .Or [a] pos) tA:=by
 have d:=d.go;refine⟨?_⟩;intro g b s f H Q I h;refine isTrue_or (cu (d b s f H Q I h) λc i e=>?_);cases c with
 |false=>exact isTrue_or_nil e
 |true=>exact e
theorem EQ (e:WT X a tA)(f:WW X (.BoolOp .And (b::fh) pos) tB'):WW X (.BoolOp .And (a::b::fh) pos) (QW tA tB'):=by
 have e:=e.go;have f:=f.go;refine⟨?_⟩;intro m d s i H Q I h;refine isTrue_and (cu (e d s i H _ I h) λc n g=>?_);obtain⟨j,k,l⟩:=g;cases c with
 |true=>exact f m d n i j Q k l
 |false=>exact⟨j,k,l⟩
theorem fU (e:WT X a tA)(f:WW X (.BoolOp .Or (b::fh) pos) tB'):WW X (.BoolOp .Or (a::b::fh) pos) (RE tA tB'):=by
 have e:=e.go;have f:=f.go;refine⟨?_⟩;intro m d s i H Q I h;refine isTrue_or (cu (e d s i H _ I h) λc n g=>?_);obtain⟨j,k,l⟩:=g;cases c with
 |true=>exact⟨j,k,l⟩
 |false=>exact f m d n i j Q k l
theorem bu (d:WT X a tA):WT X (.UnaryOp .Not a pos) (QT tA):=by
 have d:=d.go;refine⟨?_⟩;intro b s f H Q I h;exact isTrue_not (d b s f H (λc e=>Q (!c) e) I h)
def O7 (ta tb:TE):TE:=λb H Q=>ta b H λx a=>∃ c,x=.bl c/\if c=true then tb b a Q else Q (.bl false) a
def PM (ta:TE):TE:=λb H Q=>ta b H λx a=>∃ c,x=.bl c/\Q (.bl (!c)) a
theorem jh {op}(h:WE X a t):WE X (.BoolOp op [a] pos) t:=by
 have h:=h.go;exact⟨λb s c H Q I hw=>BoolOp_one (h b s c H Q I hw)⟩
theorem fB (f:WE X a ta)(i:WE X (.BoolOp .And (b::fh) pos) tb):WE X (.BoolOp .And (a::b::fh) pos) (O7 ta tb):=by
 have f:=f.go;have i:=i.go;refine⟨?_⟩;intro d s k H Q I h;refine BoolOp_and (cu (f d s k H _ I h) λv n g=>?_);obtain⟨x,j,l,m,e⟩:=g;obtain⟨c,rfl,e⟩:=e;cases m;refine UL ?_;cases c with
 |true=>exact i d n k j Q l e
 |false=>exact⟨.bl false,j,l,O,e⟩
theorem KC (d:WE X a ta):WE X (.UnaryOp .Not a pos) (PM ta):=by
 have d:=d.go;refine⟨?_⟩;intro b s j H Q I h;refine UnaryOp_ (cu (d b s j H _ I h) λv l f=>?_);obtain⟨x,g,k,i,e⟩:=f;obtain⟨c,rfl,e⟩:=e;cases i;exact not_of (UL ⟨.bl (!c),g,k,O,e⟩)
def Rs (t:TT)(ta tb:TE):TE:=λa H Q=>t a H λc b=>if c=true then ta a b Q else tb a b Q
theorem jp (k:WT X c tA)(f:WE X a ta)(g:WE X b tb):WE X (.IfExp c a b pos) (Rs tA ta tb):=by
 have k:=k.go;have f:=f.go;have g:=g.go;refine⟨?_⟩;intro e s i H Q I h;refine wpAny_IfExp (cu (k e s i H _ I h) λd o j=>?_);obtain⟨l,n,m⟩:=j;cases d with
 |true=>exact f e o i l Q n m
 |false=>exact g e o i l Q n m
end
def bI (K:KE)(H:Hp)(a:Sd)(xs:List V):Prop:=
 Rd H a (.lst xs) \/
  ∃ (o:Obj) (b:Array RV) (n:Nat),K.lookup a=Y o/\o.cls=.type "list"/\o.dict=none/\o.data=.seq b n/\b.size<=Sk/\aU xs b.toList
def eM (K:KE)(H:Hp)(a:Sd)(xs:List V):Prop:=
 Rd H a (.tup xs) \/
  ∃ (o:Obj) (b:Array RV) (n:Nat),K.lookup a=Y o/\o.cls=.type "tuple"/\o.data=.seq b n/\b.size<=Sk/\aU xs b.toList
def QE:RV->Option V
 |.none=>Y .non
 |.bool b=>Y (.bl b)
 |.int i _=>Y (.int i)
 |.str x _=>Y (.str x)
 |.bytes b _=>Y (.byt b)
 |.float b _=>Y (.flt b)
 |.ref a=>Y (.ref a)
 |.type n=>Y (.ty n)
 |_=>none
theorem bJ.abs (r:bJ x u):QE u=Y x:=by
 cases x with
 |non=>cases r;rfl
 |bl _=>cases r;rfl
 |int _=>obtain⟨t,rfl⟩:=r;rfl
 |str _=>obtain⟨t,rfl⟩:=r;rfl
 |byt _=>obtain⟨t,rfl⟩:=r;rfl
 |flt _=>obtain⟨t,rfl⟩:=r;rfl
 |ref _=>cases r;rfl
 |ty _=>cases r;rfl
theorem bJ.inj (r:bJ x u)(q:bJ y u):x=y:=RU (r.abs.symm.trans q.abs)
theorem aU.inj:∀ {xs ys:List V}{us:List RV},aU xs us->aU ys us->xs=ys
 |_,_,_,.nil,.nil=>rfl
 |_,_,_,.cons r t,.cons b a=>by rw[r.inj b,aU.inj t a]
section
variable {X:Cx}{pins:List (Sd×Obj)}{σ:St}{H:Hp}{s:RZ}{a:Sd}{xs ys:List V}
theorem bI.of {K:KE}(h:H a=Y (.lst xs)):bI K H a xs:=.inl (.inl h)
theorem eM.of {K:KE}(h:H a=Y (.tup xs)):eM K H a xs:=.inl (.inl h)
theorem aK.list (I:aK X pins σ H s)(h:bI X.K H a xs):∃ b:List RV,aU xs b/\PlainL s.heap a b.toArray/\xs.length<=Sk:=by
 rcases h with h|⟨o,b,n,c,g,d,f,i,r⟩
 ·obtain⟨z,b,n,r,e⟩:=h.ok I.hok;exact⟨b,r,⟨_,n,e,O,O,O⟩,z⟩
 ·refine⟨b.toList,r,⟨o,n,I.kIn a o c,g,d,by simpa using f⟩,?_⟩;have e:=r.length;simp only[T2] at e;lia
theorem aK.tuple (I:aK X pins σ H s)(h:eM X.K H a xs):∃ b:List RV,aU xs b/\IsTup s.heap a b.toArray/\xs.length<=Sk:=by
 rcases h with h|⟨o,b,n,c,f,d,g,r⟩
 ·obtain⟨z,b,r,p⟩:=h.ok I.hok;exact⟨b,r,p,z⟩
 ·refine⟨b.toList,r,⟨o,I.kIn a o c,f,n,by simpa using d⟩,?_⟩;have e:=r.length;simp only[T2] at e;lia
theorem aK.list_inj (I:aK X pins σ H s)(h:bI X.K H a xs)(h':bI X.K H a ys):xs=ys:=by
 obtain⟨c,r,⟨o,n,e,_,_,d⟩,_⟩:=I.list h;obtain⟨b,i,⟨k,j,f,_,_,g⟩,_⟩:=I.list h';rw[e] at f;cases f;rw[d] at g;injection g with d1 _
 have:c=b:=by simpa using VZ Array.toList d1
 subst this;exact r.inj i
theorem aK.tuple_inj (I:aK X pins σ H s)(h:eM X.K H a xs)(h':eM X.K H a ys):xs=ys:=by
 obtain⟨c,r,⟨o,e,_,n,d⟩,_⟩:=I.tuple h;obtain⟨b,i,⟨k,f,_,j,g⟩,_⟩:=I.tuple h';rw[e] at f;cases f;rw[d] at g;injection g with d1 _
 have:c=b:=by simpa using VZ Array.toList d1
 subst this;exact r.inj i
end
abbrev Cx.wish (X:Cx)(E:RV->RZ->Prop):Cx:={ X with xe:=E }
abbrev Cx.nox (X:Cx):Cx:=X.wish λ_ _=>False
theorem Cx.Ok.wish {X:Cx}(ok:X.Ok)(E:RV->RZ->Prop):(X.wish E).Ok:=
 ⟨ok.mod,ok.kind,ok.glob,ok.blt,ok.above,ok.inj,ok.has,ok.cab,ok.hd,ok.frames,ok.stk,ok.exf,ok.bs,ok.bsz,ok.noex,ok.exfs,ok.funs,ok.frf⟩
theorem Cx.Ok.unwish {X:Cx}{E:RV->RZ->Prop}(ok:(X.wish E).Ok):X.Ok:=
 ⟨ok.mod,ok.kind,ok.glob,ok.blt,ok.above,ok.inj,ok.has,ok.cab,ok.hd,ok.frames,ok.stk,ok.exf,ok.bs,ok.bsz,ok.noex,ok.exfs,ok.funs,ok.frf⟩
section
variable {X:Cx}{pins:List (Sd×Obj)}{σ:St}{H:Hp}{s:RZ}{E:RV->RZ->Prop}
theorem aK.wish (I:aK X pins σ H s)(E:RV->RZ->Prop):aK (X.wish E) pins σ H s:=⟨I.ok.wish E,I.os,I.bare,I.base,I.loc,I.cell,I.free,I.freeC,I.pin,I.hok,I.len⟩
theorem aK.unwish (I:aK (X.wish E) pins σ H s):aK X pins σ H s:=⟨I.ok.unwish,I.os,I.bare,I.base,I.loc,I.cell,I.free,I.freeC,I.pin,I.hok,I.len⟩
theorem SP.unwish (h:SP (X.wish E) pins D f s'):SP X pins D f s':=by
 cases f with
 |next=>obtain⟨a,b,I,q⟩:=h;exact⟨a,b,I.unwish,q⟩
 |brk=>obtain⟨a,b,I,q⟩:=h;exact⟨a,b,I.unwish,q⟩
 |cont=>obtain⟨a,b,I,q⟩:=h;exact⟨a,b,I.unwish,q⟩
 |ret u=>obtain⟨v,a,b,I,r,q⟩:=h;exact⟨v,a,b,I.unwish,r,q⟩
theorem Ht.nox {st:List T6}{t:TS}(h:Ht X.nox st t):Ht X st t:=λpins s σ H D I hw=>
 TU (h pins s σ H D (I.wish _) hw) (λ_ _ q=>q.unwish) λ_ _ z=>UG z
end
section
variable {X:Cx}{st:T6}{fh:List T6}{t u:TS}{e:U2}{te:TE}{pos:Pos}
def Ph:TS:=λD a H=>D.nx a H
def OY (t u:TS):TS:=λD a H=>t { D with nx:=u D } a H
theorem aH:cA X [] Ph:=by
 exact⟨λ_ _ a H _ I h=>Ye ⟨a,H,I,h⟩⟩
theorem ac (b:WS X st t)(d:cA X fh u):cA X (st::fh) (OY t u):=by
 have b:=b.go;have d:=d.go;refine⟨?_⟩;intro a s g H D I h;refine wpAny_execs_cons (cu (b a s g H { D with nx:=u D } I h) λf j q=>?_);cases f with
 |next=>
  obtain⟨c,i,e,q⟩:=q;exact d a j c i D e q
 |ret v=>exact q
 |brk=>exact q
 |cont=>exact q
theorem ae (b:WS X st t):cA X [st] t:=by
 have b:=b.go;refine⟨?_⟩;intro a s c H D I h;refine wpAny_execs_cons (cu (b a s c H D I h) λf d q=>?_);cases f with
 |next=>exact Ye q
 |ret v=>exact q
 |brk=>exact q
 |cont=>exact q
theorem aK.quiet (I:aK X pins σ H s):interactive X.env=false:=by simp[interactive,I.ok.kind]
def Pu (te:TE):TS:=λD a H=>te a H λ_ b=>D.nx a b
theorem bo (he:WE X e te)(i:YX e none pos.line X.env=pure false:=by rfl):WS X (.Expr e pos) (Pu te):=by
 have he:=he.go;refine⟨?_⟩;intro a s c H D I h;refine wpAny_Expr_any (cu (he a s c H _ I h) λv k b=>?_) I.quiet i;obtain⟨x,d,g,j,f⟩:=b;exact⟨c,d,g,f⟩
def Qs (te:TE):TS:=λD a H=>te a H D.rt
theorem aq (he:WE X e te):WS X (.Return (Y e) pos) (Qs te):=by
 have he:=he.go;refine⟨?_⟩;intro a s c H D I h;refine wpAny_Return_some (cu (he a s c H _ I h) λv j b=>?_);obtain⟨x,d,i,f,g⟩:=b;exact⟨x,c,d,i,f,g⟩
def Rg (c:TT)(t u:TS):TS:=λD a H=>c a H λb d=>if b=true then t D a d else u D a d
theorem aZ (k:WT X c tc)(f:cA X a t)(g:cA X b u):WS X (.If c a b pos) (Rg tc t u):=by
 have k:=k.go;have f:=f.go;have g:=g.go;refine⟨?_⟩;intro e s i H D I h;refine wpAny_If (cu (k e s i H _ I h) λd o j=>?_);obtain⟨l,n,m⟩:=j;cases d with
 |true=>exact f e o i l D n m
 |false=>exact g e o i l D n m
def Nk:TS:=λ_ _ _=>False
theorem bH:WS X st Nk:=by
 exact⟨λ_ _ _ _ _ _ h=>h.elim⟩
end
abbrev TG:=V->St->Hp->(St->Hp->Prop)->Prop
abbrev N5:=List V->St->Hp->(St->Hp->Prop)->Prop
def PG (X:Cx)(a:U2)(t:TG):Prop:=
 ∀ (b:List (Sd×Obj)) (s:RZ) (d:St) (H:Hp) (v:V) (u:RV) (Q:St->Hp->Prop),aK X b d H s->bJ v u->t v d H Q ->
  Sb (SD X.prog X.w) X.A (assign a X.env u) (λ_ f=>∃ c e,aK X b c e f/\Q c e) X.xe s
structure WG (X:Cx)(e:U2)(t:TG):Prop where
 go:PG X e t
def QG (X:Cx)(ts:List U2)(t:N5):Prop:=
 ∀ (a:List (Sd×Obj)) (s:RZ) (d:St) (H:Hp) (vs:List V) (c:List RV) (Q:St->Hp->Prop),aK X a d H s->aU vs c->t vs d H Q ->
  Sb (SD X.prog X.w) X.A (aax ((Ve ts X.env).map (·.2)) c) (λ_ f=>∃ b e,aK X a b e f/\Q b e) X.xe s
structure OU (X:Cx)(e:List U2)(t:N5):Prop where
 go:QG X e t
abbrev P_:=V->V->V->Hp->(Hp->Prop)->Prop
def Pz (X:Cx)(t:P_):Prop:=
 ∀ (a:List (Sd×Obj)) (s:RZ) (c:St) (H:Hp) (o i v:V) (ov b u:RV) (Q:Hp->Prop),aK X a c H s->bJ o ov->bJ i b->bJ v u->t o i v H Q ->
  Sb (SD X.prog X.w) X.A (setItem ov b u) (λ_ e=>∃ d,aK X a c d e/\Q d) X.xe s
abbrev Qm:=V->V->Hp->VK->Prop
def Q9 (X:Cx)(c:Operator)(t:Qm):Prop:=
 ∀ (a:List (Sd×Obj)) (s:RZ) (b:St) (H:Hp) (x y:V) (v u:RV) (Q:VK),aK X a b H s->bJ x v->bJ y u->t x y H Q ->
  Sb (SD X.prog X.w) X.A (inplaceOp c v u) (EP X a b Q) X.xe s
section
variable {X:Cx}{pos:Pos}
def wA (i:Nat):TG:=λv a H Q=>Q (a.set i (Y v)) H
theorem Ii (d:X.N.Nodup)(hi:X.N[i]?=Y x)(b:Nl X.env.scope x)(e:X.fn x=true\/X.env.scope.names.lookup x=Y .local:=by first|exact .inl rfl|exact .inr rfl|assumption):WG X (.Name x pos) (wA i):=by
 refine⟨?_⟩;intro a s f H v u Q I r h;exact wpAny_assign_Name (mT I d hi b r (λg c=>⟨_,H,c,h⟩) e)
def QA:N5:=λvs a H Q=>vs=[]/\Q a H
def PD (t:TG)(u:N5):N5:=λvs b H Q=>∃ v r,vs=v::r/\t v b H λa c=>u r a c Q
theorem bv:OU X [] QA:=by
 refine⟨?_⟩;intro a s b H vs c Q I r h;obtain⟨e,h⟩:=h;subst e;cases r;exact assignInOrder_nil ⟨b,H,I,h⟩
theorem az (b:WG X e t) (f:OU X es u)
  (o:(Ve (e::es) X.env).map (·.2)=assign e X.env::(Ve es X.env).map (·.2):=by rfl):OU X (e::es) (PD t u):=by
 have b:=b.go;have f:=f.go;refine⟨?_⟩;intro a s l H vs q Q I r h;obtain⟨v,p,i,h⟩:=h;subst i;cases r with
 |cons r g=>
  rw[o];refine Yr (cu (b a s l H _ _ _ I r h) λ_ n c=>?_);obtain⟨d,j,m,k⟩:=c;exact f a n d j _ _ Q m g k
def O2 (K:KE)(n:Nat)(t:N5):TG:=λv c H Q=>∃ a b,v=.ref a/\eM K H a b/\b.length=n/\t b c H Q
theorem MZ (x:X.calm=true) (h:QG X es t)
  (l:(Ve es X.env).length=n:=by rfl)(d:(Ve es X.env).findIdx? (·.1)=none:=by rfl):PG X (.Tuple es k pos) (O2 X.K n t):=by
 intro c s f H v u Q I r hw;obtain⟨a,y,m,hq,j,hw⟩:=hw;subst m;cases r;obtain⟨z,g,A,B⟩:=I.tuple hq;refine assign_Tuple_tuple (I.ok.hd x) A (by simp[l,<- j,g.length]) d λq i=>?_
 have p:aK X c f H { s with heap:=q }:=I.kept (t':=s.toks) λb o e=>i b o (Si (RX e)) e
 exact h c _ f H y _ Q p (by simpa using g) hw
def Q0 (to ti:TE)(t:P_):TG:=λv a H Q=>to a H λo b=>ti a b λi c=>t o i v c λd=>Q a d
theorem EK (g:WE X o to) (hi:WE X i ti) (E:Pz X t)
  (k:∀ v,assign (.Subscript o i pos) X.env v=(do
   let ov <- holding [v] (V1 o X.env)
   let b <- holding [v,ov] (V1 i X.env)
   ZL pos
   holding [v,ov,b] (setItem ov b v)
   release [v,ov,b] []):=by intro _;rfl):WG X (.Subscript o i pos) (Q0 to ti t):=by
 have g:=g.go;have hi:=hi.go;refine⟨?_⟩;intro a s c H v u Q I r h;rw[k];refine HD (TC (cu (g a s c H _ I h) λov B f=>?_));obtain⟨x,m,A,q,z⟩:=f;refine HD (TC (cu (hi a B c m _ A z) λb s2 d=>?_));obtain⟨y,l,C,j,D⟩:=d;refine HD (Vi (HD (TC (cu (E a s2 c l x y v ov b u _ C q j r D) λ_ G e=>?_))));obtain⟨F,p,n⟩:=e;exact wpAny_release ⟨c,F,p,n⟩
def MT (c:TE)(g:TG):TS:=λD a H=>c a H λx b=>g x a b D.nx
theorem kq (he:WE X e te) (c:WG X tg g) (n:swapsWithSole [tg] e pos.line X.env=pure false:=by rfl) (hw:swappedStores [tg] e X.env=pure none:=by rfl)
  (i:(Ve [tg] X.env).map (·.2)=[assign tg X.env]:=by rfl):WS X (.Assign [tg] e pos) (MT te g):=by
 have he:=he.go;have c:=c.go;refine⟨?_⟩;intro a s d H D I h;refine wpAny_Assign_stores (cu (he a s d H _ I h) λv m b=>?_) n hw;obtain⟨x,f,l,j,k⟩:=b;rw[i];exact cu (c a m d f x v _ l j k) λ_ s2 q=>q
theorem KR (d:X.N.Nodup) (hi:X.N[i]?=Y x) (c:Nl X.env.scope x) (he:WE X e te) (n:YX e (Y (.Name x pos')) pos.line X.env=pure false:=by rfl) (o:X.fn x=true\/X.env.scope.names.lookup x=Y .local:=by first | exact .inl rfl | exact .inr rfl | assumption) :
  WS X (.Assign [.Name x pos'] e pos) (MT te (wA i)):=by
 have he:=he.go;refine⟨?_⟩;intro a s k H D I h;refine wpAny_Assign_Name (cu (he a s k H _ I h) λv p b=>?_) n;obtain⟨y,f,l,g,j⟩:=b;exact mT l d hi c g (λs2 m=>⟨_,f,m,j⟩) o
def Q_ (i j:Nat)(b:TA):TS:=λD a H=>b a H λvs c=>∃ v w,vs=[v,w]/\D.nx ((a.set i (Y v)).set j (Y w)) c
theorem n_ {kt k2 pt2} (hc:X.calm=true) (u:X.N.Nodup) (hi:X.N[i]?=Y x) (M:X.N[j]?=Y y) (l:i ≠ j)
  (t:X.env.scope.names.lookup x=Y .local)(E:X.env.scope.names.lookup y=Y .local)(g:WA X [a,b] ta)
  (hw:swappedStores [.Tuple [.Name x px,.Name y py] kt pt] (.Tuple [a,b] k2 pt2) X.env=pure (Y [x,y]))
  (hs:swapsWithSole [.Tuple [.Name x px,.Name y py] kt pt] (.Tuple [a,b] k2 pt2) pos.line X.env=pure false:=by rfl):
  WS X (.Assign [.Tuple [.Name x px,.Name y py] kt pt] (.Tuple [a,b] k2 pt2) pos) (Q_ i j ta):=by
 have g:=g.go;refine⟨?_⟩;intro c s C H D I h;rw[exec_Assign_arm];refine HD (Vi ?_);rw[hs];refine HD (RT ?_);rw[Sx Z];refine HD (Tuple_ (cu (g _ c s C H _ I h) λL f n=>?_));obtain⟨vs,B,I1,r1,r⟩:=n;obtain⟨v,w,G,r⟩:=r;subst G;obtain⟨u1,d,rfl,rv,m⟩:∃ u1 d,L=[u1,d]/\bJ v u1/\bJ w d:=by
  cases r1 with
  |cons p q=>
   cases q with
   |cons J Q=>
    cases Q;exact⟨_,_,O,p,J⟩
 refine Tj ?_ (Z:2<=Sk);have I2:aK X c C B { f with heap:=f.heap.push { cls:=.type "tuple",data:=.seq [u1,d].toArray } }:=I1.kept (t':=f.toks) λb o e=>RS _ e
 rw[hw];refine HD (RT ?_);show Sb (SD X.prog X.w) X.A (do rule "assign.swapped-stores";let items <- unpackItems (.ref f.heap.objs.size) 2 none;aax [λv=>bindName X.env y v,λv=>bindName X.env x v] items.reverse;pure Flow.next) _ _ _;refine HD (Vy (HD (unpackItems_tuple (items:=#[u1,d]) (I.ok.hd hc) (IsTup.new f.heap _) λh' k=>?_)));have T:=I2.kept (h':=h') (t':=f.toks) λb o e=>k b o (Si (RX e)) e
 show Sb _ _ (aax [λv=>bindName X.env y v,λv=>bindName X.env x v] [d,u1]>>=λ_=>pure Flow.next) _ _ _;refine HD (Yr (wpAny_bindName (mT T u M (.inl E) m (λs2 F=>?_) (.inr E))));refine Yr (wpAny_bindName (mT F u hi (.inl t) rv (λs3 z=>assignInOrder_nil (RT ?_)) (.inr t)));rw[List.set_comm _ _ (U9 l)] at z;exact⟨_,B,z,r⟩
def QQ (i:Nat)(c:TE)(ti:Qm):TS:=λD a H=>∃ x,a[i]?=Y (Y x)/\c a H λy b=>ti x y b λz d=>D.nx (a.set i (Y z)) d
theorem Bs (G:X.N.Nodup) (hi:X.N[i]?=Y x) (j:Nl X.env.scope x) (he:WE X e te) (ho:Q9 X op ti) (hf:X.fn x=true\/X.env.scope.names.lookup x=Y .local:=by first | exact .inl rfl | exact .inr rfl | assumption) :
  WS X (.AugAssign (.Name x pos') op e pos) (QQ i te ti):=by
 have he:=he.go;refine⟨?_⟩;intro a s t H D I h;obtain⟨v,J,h⟩:=h;obtain⟨m,E,B⟩:=I.loc;have o:Oj X.env.scope x:=by rcases j with k|k;exact .inl k;exact .inr (.inl k)
 obtain⟨u,r,l⟩:=B i x v hi J o;refine wpAny_AugAssign_Name ?_;have q:Sb (SD X.prog X.w) X.A (V1 e X.env) (λw g=>Sb (SD X.prog X.w) X.A (inplaceOp op u w) (λr f=>Sb (SD X.prog X.w) X.A (storeName X.env x r) (λ_=>SP X a D .next) X.xe f) X.xe g) X.xe s:=by
  refine cu (he a s t H _ I h) λw s1 p=>?_;obtain⟨y,L,I1,T,q1⟩:=p
  refine cu (ho a s1 t L v y u w _ I1 r T q1) λz s2 n=>?_;obtain⟨zv,F,I2,C,q2⟩:=n
  exact mT I2 G hi j C (λs3 Q=>⟨_,F,Q,q2⟩) hf
 rcases l with ⟨b,M⟩|⟨b,c,hc,d⟩
 ·exact XJ I.ok.kind b E M q
 ·rcases b with b|b
  ·exact wpAny_loadName_cell I.ok.kind b hc d q
  ·rcases j with k|k
   ·have:X.env.scope.names.lookup x=Y .free:=b;rw[k] at this;cases this
   ·have:X.env.scope.names.lookup x=Y .free:=b;rw[k] at this;cases this
def RL (f:Int->Int->Int):Qm:=λx y H Q=>∃ i j,x=.int i/\y=.int j/\Q (.int (f i j)) H
theorem NO:Q9 X .Add (RL λi j=>i+j):=by
 intro a s g H x y v u Q I e b h;obtain⟨i,j,d,c,q⟩:=h;subst d;subst c;obtain⟨t,rfl⟩:=e;obtain⟨f,rfl⟩:=b;exact iadd_int ⟨.int _,H,I.tok _,⟨_,O⟩,q⟩
end
section
variable {X:Cx}{pos:Pos}
def NX (c:TT)(tb:TS):TS:=λD a H=>∃ W:Nat->St->Hp->Prop,(∃ m,W m a H)/\∀ m a H,W m a H ->
 c a H λb e=>if b=true then ∃ N:St->Hp->Prop,(∀ d g,N d g->∃ f,f<m/\W f d g)/\tb { D with nx:=N,ct:=N,bk:=D.nx } a e else D.nx a e
theorem r9 (C:PassesOwn (SD X.prog X.w) X.A X.env X.xe)(t:WT X c tc)(r:cA X body tb):WS X (.While c body [] pos) (NX tc tb):=by
 have t:=t.go;have r:=r.go;refine⟨?_⟩;intro a s J H D I h;obtain⟨W,⟨G,Q⟩,mI⟩:=h;refine wpAny_While (codeAny_whileLoop (λn T=>∃ g B,aK X a g B T/\W n g B) ?_ G ⟨J,H,I,Q⟩);rintro n M ⟨e,z,L,F⟩;refine Vx C (cu (t a M e z _ L (mI n e z F)) λb s2 o=>?_);obtain⟨x,E,k⟩:=o;cases b with
 |true=>
  obtain⟨N,y,k⟩:=k;rw[SO rfl];refine Vx C (cu (r a s2 e x _ E k) λf s3 j=>?_);cases f with
  |next=>
   obtain⟨d,i,q,l⟩:=j;obtain⟨u,m,p⟩:=y d i l;exact⟨u,m,d,i,q,p⟩
  |cont=>
   obtain⟨d,i,q,l⟩:=j;obtain⟨u,m,p⟩:=y d i l;exact⟨u,m,d,i,q,p⟩
  |brk=>exact j
  |ret v=>exact j
 |false=>
  rw[Sx Tg];exact Ye ⟨e,x,E,k⟩
end
structure It where
 go:Nat->Hp->Prop
 yld:Nat->Hp->V->Hp->Prop
 stop:Nat->Hp->Prop
def ql (X:Cx)(a:List (Sd×Obj))(H:Hp)(b:Sd):Prop:=
 H b=none/\b≠X.env.locals/\b∉X.fs/\(b∈X.ex\/X.s₀.heap.objs.size<=b)/\(∀ x c,X.env.cells.lookup x=Y c->c≠b)/\∀ p∈X.pn++a,p.1≠b
theorem aK.fpOk (I:aK X pins σ H s)(a:s.heap.objs.size<=b)(d:H' b=none):ql X pins H' b:=by
 refine⟨d,SM (R6 I.lt a),I.nofs a,.inr (Sv I.sz a),λx c e z=>?_,λp f z=>?_⟩
 ·obtain⟨v,q⟩:=I.cell x c e;exact absurd (R6 q.lt (by rw[z];exact a)) (Th _)
 ·exact absurd (R6 (RX (I.pin p f).1) (by rw[z];exact a)) (Th _)
structure yc (P:SA)(w:Te)(K:KE)(tg:U2)(J:It)(fp:List Sd)(it:Sd)(tn:Nat->Uc->Prop):Prop where
 mem:it∈fp
 obj:∀ i h,tn i h->∀ b∈fp,∃ o,h.get? b=Y o/\∀ v,o.data≠.cell v
 keep:∀ i h h',tn i h->(∀ b∈fp,∀ o,h.get? b=Y o->h'.get? b=Y o)->tn i h'
 item:∀ (X:Cx),X.prog=P->X.w=w->X.K=K->X.calm=true->∀ (i:Nat) (pins:List (Sd×Obj)) (s:RZ) (σ:St) (H:Hp) (E:RV->RZ->Prop),aK X pins σ H s->(∀ b∈fp,ql X pins H b)->tn i s.heap->J.go i H ->
  Sb (SD P w) X.A (U_ (.ref it)) (λr s1=>∃ u,r=Y u /\
   Sb (SD P w) X.A (W5 tg (.ref it) u) (λ_ s2=>∃ x H',aK X pins σ H' s2/\bJ x u/\J.yld i H x H'/\tn (i+1) s2.heap/\∀ b∈fp,H' b=none) E s1) E s
 done:∀ (X:Cx),X.prog=P->X.w=w->X.K=K->X.calm=true->∀ (i:Nat) (pins:List (Sd×Obj)) (s:RZ) (σ:St) (H:Hp) (E:RV->RZ->Prop),aK X pins σ H s->(∀ b∈fp,ql X pins H b)->tn i s.heap->J.stop i H ->
  Sb (SD P w) X.A (U_ (.ref it)) (λr s1=>r=none/\aK X pins σ H s1) E s
 self:∀ (A:Tf) (i:Nat) (s:RZ) (Q:RV->RZ->Prop) (E:RV->RZ->Prop),tn i s.heap->Q (.ref it) s->Sb (SD P w) A (Z8 (.ref it)) Q E s
abbrev TI:=St->Hp->(It->Hp->Prop)->Prop
def Ri (X:Cx)(a:List (Sd×Obj))(i:St)(h:U2)(R:It->Hp->Prop)(c:RV)(s2:RZ):Prop:=
 ∃ (g:Sd) (e:List Sd) (f:Nat->Uc->Prop) (J:It) (d:Hp),c=.ref g/\aK X a i d s2/\yc X.prog X.w X.K h J e g f/\f 0 s2.heap/\(∀ b∈e,ql X a d b)/\R J d
def PI (X:Cx)(d b:U2)(e:TI):Prop:=
 ∀ (a:List (Sd×Obj)) (s:RZ) (c:St) (H:Hp) (R:It->Hp->Prop),aK X a c H s->e c H R ->
  Sb (SD X.prog X.w) X.A (V1 b X.env) (λv f=>Sb (SD X.prog X.w) X.A (Z8 v) (Ri X a c d R) X.xe f) X.xe s
structure WI (X:Cx)(tg e:U2)(t:TI):Prop where
 go:PI X tg e t
theorem EH (d:s.heap.get? it=Y o) (e:o.cls=.type n) (c:o.data=.fields vs)
  (b:["enumerate","zip","dict_itemiterator","dict_reverseitemiterator","odict_iterator","itertools.zip_longest","itertools.pairwise"].contains n=false)(a:Q () s):Sb M A (W5 tg (.ref it) u) Q E s:=by
 unfold W5;cases tg<;>first
  |exact RT a
  | (cases u <;> first
    |exact RT a
    | (refine HD (wpAny_load d ?_)
       rw[e,c];show Sb M A (if(["enumerate","zip","dict_itemiterator","dict_reverseitemiterator","odict_iterator","itertools.zip_longest","itertools.pairwise"].contains n&&vs[0]?==Y (UD _))=true then _ else _) Q E s;rw[Sx (by intro h;rw[b,Xo] at h;cases h)];exact RT a))
def PU (K:KE)(a:Sd):It:=
 ⟨λi H=>∃ b x,bI K H a b/\b[i]?=Y x,λi H x c=>c=H/\∀ b,bI K H a b->b[i]?=Y x,λi H=>∃ b,bI K H a b/\b.length<=i⟩
def P4 (K:KE)(a:Sd):It:=
 ⟨λi H=>∃ b x,eM K H a b/\b[i]?=Y x,λi H x c=>c=H/\∀ b,eM K H a b->b[i]?=Y x,λi H=>∃ b,eM K H a b/\b.length<=i⟩
def He (lo:Int)(n:Nat):It:=⟨λi _=>i<n,λi H x a=>a=H/\x=.int (lo+i),λi _=>n<=i⟩
theorem Gc {K:KE}(a it:Sd):yc P w K tg (PU K a) [it] it (λi h=>h.IsListIter it a i) where
 mem:=zyB
 obj:=λi h st b g=>by
  have e:b=it:=by simpa using g
  subst e;obtain⟨o,e,c,d⟩:=st;exact⟨o,e,λv z=>by rw[d] at z;cases z⟩
 keep:=λi h l st k=>st.at λo e=>k it zyB o e
 item:=by
  intro X B hw A L i f s J H E I m st G;subst B hw A;obtain⟨xs,x,hq,n⟩:=G;obtain⟨F,C,p,T⟩:=I.list hq;obtain⟨u,hu,ru⟩:=C.get n;obtain⟨y,t,N,r,q,D⟩:=m it zyB;refine Zp st p.isList (x:=u) (by simpa using hu) λl j M=>?_
  have I1:aK X f J H { s with heap:=l }:=I.turned (t':=s.toks) (λb o g e=>(M.2 b g).trans e) y t r q D;obtain⟨o,e,c,d⟩:=id j;exact⟨u,O,EH (s:={ s with heap:=l }) e c d Z ⟨x,H,I1,ru,⟨O,λys hy=>by rw[I.list_inj hy hq];exact n⟩,j,λb g=>(m b g).1⟩⟩
 done:=by
  intro X B hw A L i f s J H E I m st G;subst B hw A;obtain⟨xs,hq,n⟩:=G;obtain⟨F,C,p,T⟩:=I.list hq;obtain⟨y,t,N,r,q,D⟩:=m it zyB;have hl:=C.length;exact wpAny_pyNext_list_end (I.ok.hd L) st p.isList (by simp;lia) λl Q=>⟨O,I.turned (t':=s.toks) (λb o g e=>Q b o g e) y t r q D⟩
 self:=λ_ _ _ _ _ st h=>wpAny_pyIter_listiter st h
theorem DV {K:KE}(a it:Sd):yc P w K tg (P4 K a) [it] it (λi h=>h.IsTupleIter it a i) where
 mem:=zyB
 obj:=λi h st b g=>by
  have e:b=it:=by simpa using g
  subst e;obtain⟨o,e,c,d⟩:=st;exact⟨o,e,λv z=>by rw[d] at z;cases z⟩
 keep:=λi h m st k=>st.at λo e=>k it zyB o e
 item:=by
  intro X C hw B L i f s J H E I n st G;subst C hw B;obtain⟨xs,x,hq,q⟩:=G;obtain⟨j,D,p,T⟩:=I.tuple hq;obtain⟨u,hu,ru⟩:=D.get q;obtain⟨A,y,N,t,r,F⟩:=n it zyB;refine wpAny_pyNext_tuple_item st (show s.heap.IsTuple a j.toArray from p) (x:=u) (by simpa using hu) λm l M=>?_
  have I1:aK X f J H { s with heap:=m }:=I.turned (t':=s.toks) (λb o g e=>(M.2 b g).trans e) A y t r F;obtain⟨o,e,c,d⟩:=id l;exact⟨u,O,EH (s:={ s with heap:=m }) e c d Z ⟨x,H,I1,ru,⟨O,λys hy=>by rw[I.tuple_inj hy hq];exact q⟩,l,λb g=>(n b g).1⟩⟩
 done:=by
  intro X C hw B L i f s J H E I n st G;subst C hw B;obtain⟨xs,hq,q⟩:=G;obtain⟨j,D,p,T⟩:=I.tuple hq;obtain⟨A,y,N,t,r,F⟩:=n it zyB;have hl:=D.length;exact wpAny_pyNext_tuple_end (I.ok.hd L) st (show s.heap.IsTuple a j.toArray from p) (by simp;lia) λm Q=>⟨O,I.turned (t':=s.toks) (λb o g e=>Q b o g e) A y t r F⟩
 self:=λ_ _ _ _ _ st h=>wpAny_pyIter_tupleiter st h
theorem Ef {K:KE}(it:Sd)(lo:Int)(n:Nat):yc P w K tg (He lo n) [it] it (λi h=>IsRangeIter h it (lo+(i:Nat)*1) ((n:Int)-(i:Nat)) 1) where
 mem:=zyB
 obj:=λi h st b c=>by
  have e:b=it:=by simpa using c
  subst e;exact⟨_,st,λv z=>by
   have F:Data.fields _=Data.cell v:=z;cases F⟩
 keep:=λi h f st k=>k it zyB _ st
 item:=by
  intro X r hw q u i a s A H E I g st y;subst r hw q;obtain⟨p,m,C,l,j,x⟩:=g it zyB;have W:=Walks.range (prog:=X.prog) (w:=X.w) (I.ok.hd u) it lo 1 n;refine W.item i s _ _ y st λv f B G d L=>?_
  obtain⟨t,rfl⟩:=G;have J:aK X a A H { s with heap:=f,toks:=B }:=I.turned (λb o c e=>L b o (by simpa using c) e) p m l j x;refine⟨_,O,EH (s:={ s with heap:=f,toks:=B }) (n:="range_iterator") d rfl rfl Z ⟨.int (lo+i),H,J,⟨t,?_⟩,⟨O,O⟩,d,λb c=>(g b c).1⟩⟩;rw[Int.mul_one]
 done:=by
  intro X r hw q u i a s A H E I g st y;subst r hw q;obtain⟨p,m,C,l,j,x⟩:=g it zyB;exact wpAny_pyNext_range_end (I.ok.hd u) st (by have:n<=i:=y;lia) λf D=>⟨O,I.turned (t':=s.toks) (λb o c e=>D b o c e) p m l j x⟩
 self:=λ_ _ _ _ _ st h=>wpAny_pyIter_rangeiter st h
section
variable {X:Cx}{tg:U2}
theorem Hr {lo hi:Int} (I:aK X pins σ H s) (i:-(2 ^ 62) <= lo) (k:lo < 2 ^ 62) (f:-(2 ^ 62) <= hi) (h:hi < 2 ^ 62)
  (q:R (He lo (hi-lo).toNat) H):Sb (SD X.prog X.w) X.A (Z8 (.ref s.heap.objs.size)) (Ri X pins σ tg R) E { s with heap:=s.heap.push { cls:=.type "range",data:=.fields #[.int lo t,.int hi u,.int 1 v] },toks:=c }:=by
 refine wpAny_pyIter_range (IsRange.new ..) (small_one i k f h) ?_;have a:aK X pins σ H { s with heap:=s.heap.push { cls:=.type "range",data:=.fields #[.int lo t,.int hi u,.int 1 v] },toks:=c }:=I.kept λb o e=>RS _ e
 refine⟨(s.heap.push { cls:=.type "range",data:=.fields #[.int lo t,.int hi u,.int 1 v] }).objs.size,[(s.heap.push { cls:=.type "range",data:=.fields #[.int lo t,.int hi u,.int 1 v] }).objs.size],_,_,H,O,
  a.kept (t':=c) λb o e=>RS _ e,Ef _ lo (hi-lo).toNat,?_,λb j=>?_,q⟩
 ·have g:lo+((0:Nat):Int)*1=lo:=zyB
  have d:(((hi-lo).toNat:Nat):Int)-((0:Nat):Int)=Builtin.Range.rangeSize lo hi 1:=by rw[aay];split<;>lia
  show IsRangeIter _ _ (lo+((0:Nat):Int)*1) ((((hi-lo).toNat:Nat):Int)-((0:Nat):Int)) 1;rw[g,d];exact RW _ O
 ·have e:b=(s.heap.push { cls:=.type "range",data:=.fields #[.int lo t,.int hi u,.int 1 v] }).objs.size:=by simpa using j
  subst e;exact a.fpOk (R0 _) (a.hok.fresh (R0 _))
def O_ (a:TA):TI:=λc H R=>a c H λvs b=>∃ j:Int,vs=[.int j]/\-(2^62)<=j/\j<2^62/\R (He 0 j.toNat) b
theorem bj (o:Gl X "range")(i:X.mg "range"=none)(c:WA X [a] ta)(u:Ss [a] X.env=[(false,V1 a X.env)]:=by rfl):WI X tg (.Call (.Name "range" p) [a] [] pos) (O_ ta):=by
 have c:=c.go;refine⟨?_⟩;intro b s l H R I h;refine Call_ (iG I o i boot_range (Ts (cu (c pos b s l H _ I h) λv y d=>?_) u rfl));obtain⟨vs,x,m,k,f⟩:=d;obtain⟨j,e,f,n,q⟩:=f;subst e;cases k with
 |cons r g=>
  cases g;obtain⟨t,rfl⟩:=r;exact call_range_1 (Hr m zyA zyA f n (by simpa using q))
def Qx (h:TI)(g:TG)(tb:TS):TS:=λD a H=>h a H λJ j=>∃ W:Nat->Nat->St->Hp->Prop,(∃ m,W 0 m a j)/\∀ i m a H,W i m a H ->
 (J.stop i H/\D.nx a H)\/(J.go i H/\∃ N:St->Hp->Prop,(∀ b c,N b c->∃ e,e<m/\W (i+1) e b c)/\∀ x c,J.yld i H x c->g x a c λd f=>tb { D with nx:=N,ct:=N,bk:=D.nx } d f)
def lP (a:List Sd)(h:Uc):List (Sd×Obj):=a.filterMap λb=>(h.get? b).map λo=>(b,o)
theorem gZ (a:b∈fp)(e:h.get? b=Y o):(b,o)∈lP fp h:=VV.mpr ⟨b,a,by rw[e];rfl⟩
theorem rB (d:p∈lP fp h):p.1∈fp/\h.get? p.1=Y p.2:=by
 obtain⟨b,c,e⟩:=VV.mp d;cases q:h.get? b with
 |none=>rw[q] at e;cases e
 |some o=>
  rw[q] at e;have a:(b,o)=p:=RU e;subst a;exact⟨c,q⟩
theorem aK.pinned (I:aK X pins σ H s)(j:∀ b∈fp,ql X pins H b)(i:∀ b∈fp,∃ o,s.heap.get? b=Y o/\∀ v,o.data≠.cell v):aK X (pins++lP fp s.heap) σ H s:=
 I.pins_of λp g=>(S8.mp g).elim (λz=>I.pin p (Sj _ z)) λz=>by
  obtain⟨c,e⟩:=rB z;obtain⟨f,h,k,_⟩:=j p.1 c;obtain⟨o,a,d⟩:=i p.1 c;rw[e] at a;cases a;exact⟨e,f,h,k,d⟩
theorem aK.unpinned (I:aK X (pins++pl) σ H s):aK X pins σ H s:=I.pins_of λp a=>I.pin p (Sj _ (UC _ a))
theorem de (F:PassesOwn (SD X.prog X.w) X.A X.env X.xe) (hc:X.calm=true) (hi:WI X tg iter wi) (hg:WG X tg g) (j:cA X body tb)
  (hs:∀ x,Ur iter X.env x=pure x:=by intro _;rfl):WS X (.For tg iter body [] pos) (Qx wi g tb):=by
 have hi:=hi.go;have hg:=hg.go;have j:=j.go;refine⟨?_⟩;intro a s σ H D I h;refine wpAny_For (cu (hi a s σ H _ I h) λv s1 h1=>cu h1 λitv s2 h2=>?_) hs;obtain⟨it,C,tn,J,H2,e,I2,T,st2,f2,W,⟨m0,w0⟩,mI⟩:=h2;subst e;have p:∀ {y:Hp},(∀ b∈C,y b=none)->∀ b∈C,ql X a y b:=λhn b j=>⟨hn b j,(f2 b j).2⟩
 refine codeAny_forLoop_any (λn s'=>∃ i k y,aK X a k y s'/\tn i s'.heap/\(∀ b∈C,y b=none)/\W i n k y) ?_ m0 ⟨0,σ,H2,I2,st2,λb j=>(f2 b j).1,w0⟩;rintro n s3 ⟨i,t,Q,I3,G,L,w3⟩;rcases mI i n t Q w3 with ⟨M,qn⟩|⟨go,N,hN,step⟩
 ·refine Vx F (cu (T.done X rfl rfl rfl hc i a s3 t Q X.xe I3 (p L) G M) λr s4 c=>?_);obtain⟨hr,l⟩:=c;subst hr;exact Ye ⟨t,Q,l,qn⟩
 ·refine Vx F (cu (T.item X rfl rfl rfl hc i a s3 t Q X.xe I3 (p L) G go) λr s4 zz1=>?_);obtain⟨u,hr,h4⟩:=zz1;subst hr;refine Vx F (cu h4 λ_ s5 zz2=>?_);obtain⟨x,H5,I5,r5,y5,B,fr5⟩:=zz2;have I5':=I5.pinned (p fr5) (T.obj _ _ B);refine Vx F (cu (hg _ s5 t H5 x u _ I5' r5 (step x H5 y5)) λ_ s6 zz3=>?_);obtain⟨σ6,H6,I6,q6⟩:=zz3;refine Vx F (cu (j _ s6 σ6 H6 _ I6 q6) λf s7 z=>?_);have again:∀ {c:St}{q:Hp},aK X (a++lP C s5.heap) c q s7->N c q->∃ m,m<n/\∃ i k y,aK X a k y s7/\tn i s7.heap/\(∀ b∈C,y b=none)/\W i m k y:=λ{c q} l E=>by
   obtain⟨m',hm,w7⟩:=hN c q E;refine⟨m',hm,i+1,c,q,l.unpinned,T.keep _ _ _ B λb j o e=>(l.pin (b,o) (Sj _ (Sj _ (gZ j e)))).1,λb j=>?_,w7⟩;obtain⟨o,e,d⟩:=T.obj _ _ B b j;exact(l.pin (b,o) (Sj _ (Sj _ (gZ j e)))).2.1
  cases f with
  |next=>obtain⟨c,q,l,E⟩:=z;exact again l E
  |cont=>obtain⟨c,q,l,E⟩:=z;exact again l E
  |brk=>obtain⟨c,q,l,z⟩:=z;exact⟨c,q,l.unpinned,z⟩
  |ret v=>obtain⟨x7,c,q,l,r7,z⟩:=z;exact⟨x7,c,q,l.unpinned,r7,z⟩
end
theorem Hy {K:KE}{a:Sd}{xs:List V}{g:TG}{tb:TS}{D:Cp}{b:St}{H:Hp} (c:Nat->St->Hp->Prop) (o:c 0 b H) (l:∀ i b H,i <= xs.length->c i b H->bI K H a xs)
  (t:∀ i x b H,xs[i]?=Y x->c i b H->g x b H λd j=>tb { D with nx:=c (i+1),ct:=c (i+1),bk:=D.nx } d j)(r:∀ b H,c xs.length b H->D.nx b H):
  ∃ W:Nat->Nat->St->Hp->Prop,(∃ m,W 0 m b H)/\∀ i m b H,W i m b H ->
   ((PU K a).stop i H/\D.nx b H)\/((PU K a).go i H/\∃ N:St->Hp->Prop,(∀ f H',N f H'->∃ k,k<m/\W (i+1) k f H')/\∀ x H',(PU K a).yld i H x H'->g x b H' λd j=>tb { D with nx:=N,ct:=N,bk:=D.nx } d j):=by
 refine⟨λi m b H=>m=xs.length-i/\i<=xs.length/\c i b H,⟨xs.length,zyB,Tn _,o⟩,?_⟩;rintro i m b H ⟨rfl,s,p⟩;have q:=l i b H s p
 by_cases h:i<xs.length
 ·refine .inr ⟨⟨xs,xs[i],q,by simp[h]⟩,c (i+1),λf H' n=>⟨xs.length-(i+1),zyA,O,h,n⟩,λx H' y=>?_⟩;obtain⟨e,y⟩:=y;subst e;exact t i x b _ (y xs q) p
 ·have e:i=xs.length:=zyA
  subst e;exact .inl ⟨⟨xs,q,R0 _⟩,r b H p⟩
theorem Lm {K:KE}{a:Sd}{xs:List V}{g:TG}{tb:TS}{D:Cp}{b:St}{H:Hp} (c:Nat->St->Hp->Prop) (o:c 0 b H) (l:∀ i b H,i <= xs.length->c i b H->eM K H a xs)
  (t:∀ i x b H,xs[i]?=Y x->c i b H->g x b H λd j=>tb { D with nx:=c (i+1),ct:=c (i+1),bk:=D.nx } d j)(r:∀ b H,c xs.length b H->D.nx b H):
  ∃ W:Nat->Nat->St->Hp->Prop,(∃ m,W 0 m b H)/\∀ i m b H,W i m b H ->
   ((P4 K a).stop i H/\D.nx b H)\/((P4 K a).go i H/\∃ N:St->Hp->Prop,(∀ f H',N f H'->∃ k,k<m/\W (i+1) k f H')/\∀ x H',(P4 K a).yld i H x H'->g x b H' λd j=>tb { D with nx:=N,ct:=N,bk:=D.nx } d j):=by
 refine⟨λi m b H=>m=xs.length-i/\i<=xs.length/\c i b H,⟨xs.length,zyB,Tn _,o⟩,?_⟩;rintro i m b H ⟨rfl,s,p⟩;have q:=l i b H s p
 by_cases h:i<xs.length
 ·refine .inr ⟨⟨xs,xs[i],q,by simp[h]⟩,c (i+1),λf H' n=>⟨xs.length-(i+1),zyA,O,h,n⟩,λx H' y=>?_⟩;obtain⟨e,y⟩:=y;subst e;exact t i x b _ (y xs q) p
 ·have e:i=xs.length:=zyA
  subst e;exact .inl ⟨⟨xs,q,R0 _⟩,r b H p⟩
theorem eV {lo:Int}{n:Nat}{g:TG}{tb:TS}{D:Cp}{a:St}{H:Hp} (f:Nat->St->Hp->Prop) (l:f 0 a H)
  (q:∀ i a H,i<n->f i a H->g (.int (lo+i)) a H λb h=>tb { D with nx:=f (i+1),ct:=f (i+1),bk:=D.nx } b h)(o:∀ a H,f n a H->D.nx a H):
  ∃ W:Nat->Nat->St->Hp->Prop,(∃ m,W 0 m a H)/\∀ i m a H,W i m a H ->
   ((He lo n).stop i H/\D.nx a H)\/((He lo n).go i H/\∃ N:St->Hp->Prop,(∀ d H',N d H'->∃ j,j<m/\W (i+1) j d H')/\∀ x H',(He lo n).yld i H x H'->g x a H' λb h=>tb { D with nx:=N,ct:=N,bk:=D.nx } b h):=by
 refine⟨λi m a H=>m=n-i/\i<=n/\f i a H,⟨n,zyB,Tn _,l⟩,?_⟩;rintro i m a H ⟨rfl,r,p⟩
 by_cases c:i<n
 ·refine .inr ⟨c,f (i+1),λd H' k=>⟨n-(i+1),zyA,O,c,k⟩,λx H' y=>?_⟩;obtain⟨e,y⟩:=y;subst e y;exact q i a _ c p
 ·have e:i=n:=zyA
  subst e;exact .inl ⟨R0 _,o a H p⟩
abbrev R2:=V->V->Hp->VK->Prop
def pF (X:Cx)(f:RV->RV->Sem RV)(r:R2):Prop:=
 ∀ (a:List (Sd×Obj)) (s:RZ) (b:St) (H:Hp) (x y:V) (v u:RV) (Q:VK),aK X a b H s->bJ x v->bJ y u->r x y H Q ->
  Sb (SD X.prog X.w) X.A (f v u) (EP X a b Q) X.xe s
def QR (X:Cx)(f:RV->Sem RV)(r:V->Hp->VK->Prop):Prop:=
 ∀ (a:List (Sd×Obj)) (s:RZ) (b:St) (H:Hp) (x:V) (v:RV) (Q:VK),aK X a b H s->bJ x v->r x H Q ->
  Sb (SD X.prog X.w) X.A (f v) (EP X a b Q) X.xe s
def dP (X:Cx)(f:RV)(r:List V->Hp->VK->Prop):Prop:=
 ∀ (a:List (Sd×Obj)) (s:RZ) (d:St) (H:Hp) (c:List V) (b:List RV) (Q:VK),aK X a d H s->aU c b->r c H Q ->
  Sb (SD X.prog X.w) X.A (call f b) (EP X a d Q) X.xe s
def P0 (r:R2)(b tb:TE):TE:=λa H Q=>b a H λx c=>tb a c λy d=>r x y d Q
def Rz (r:V->Hp->VK->Prop)(a:TE):TE:=λc H Q=>a c H λx b=>r x b Q
inductive rI (C:Int->Int->Prop)(g:Int->Int->V)(x y:V)(H:Hp)(Q:VK):Prop
 |mk (i j:Int) (_:x=.int i) (_:y=.int j) (_:C i j) (_:Q (g i j) H)
inductive Kh (g:Int->Int->V)(x y:V)(H:Hp)(Q:VK):Prop
 |mk (i j:Int) (_:x=.int i) (_:y=.int j) (_:Q (g i j) H)
def rU (g:Int->V):V->Hp->VK->Prop:=λx H Q=>∃ i,x=.int i/\Q (g i) H
section
variable {X:Cx}{a b c:U2}{ta tb tc:TE}{pos:Pos}
theorem NF (n:PE X a ta) (p:PE X b tb) {c:List (Sd × Obj)}{s:RZ}{e:St}{H:Hp}{R:V->V->Hp->Prop} (I:aK X c e H s)
  (h:ta e H λx k=>tb e k λy d=>R x y d){Q:RV->RZ->Prop}{f:RV->RV->Sem RV}
  (C:∀ v u s2 x y d,aK X c e d s2->bJ x v->bJ y u->R x y d->Sb (SD X.prog X.w) X.A (f v u) Q X.xe s2):
  Sb (SD X.prog X.w) X.A (V1 a X.env) (λv g=>Sb (SD X.prog X.w) X.A (V1 b X.env) (λu i=>Sb (SD X.prog X.w) X.A (f v u) Q X.xe i) X.xe g) X.xe s:=by
 refine cu (n c s e H _ I h) λv t l=>?_;obtain⟨x,k,r,o,q⟩:=l
 refine cu (p c t e k _ r q) λu s2 j=>?_;obtain⟨y,d,z,m,B⟩:=j
 exact C v u s2 x y d z o m B
theorem au {f:Operator}{r:R2}(l:pF X (XU f) r)(d:WE X a ta)(e:WE X b tb):WE X (.BinOp a f b pos) (P0 r ta tb):=by
 have d:=d.go;have e:=e.go;refine⟨?_⟩;intro c s j H Q I h;exact wpAny_BinOp (NF d e I h λv u s2 x y g k i m q=>l c s2 j g x y v u Q k i m q)
theorem ww (l:QR X (unaryOp op) r)(c:WE X a ta):WE X (.UnaryOp op a pos) (Rz r ta):=by
 have c:=c.go;refine⟨?_⟩;intro b s e H Q I h;refine UnaryOp_ (cu (c b s e H _ I h) λv k d=>?_);obtain⟨x,f,j,g,i⟩:=d;exact l b k e f x v Q j g i
theorem Qc {f:RV->RV->Sem RV}{C:Int->Int->Prop}{g:Int->Int->Int}
  (rule:∀ (i j:Int) (t u:Tok) (s:RZ) (Q:RV->RZ->Prop) (E:RV->RZ->Prop),C i j->Q (.int (g i j) s.toks) { s with toks:=s.toks+1 }->Sb (SD X.prog X.w) X.A (f (.int i t) (.int j u)) Q E s):
  pF X f (rI C λi j=>.int (g i j)):=by
 intro a s k H x y v u Q I c e h;obtain⟨i,j,rfl,rfl,d,q⟩:=h;obtain⟨t,rfl⟩:=c;obtain⟨b,rfl⟩:=e;exact rule i j t b s _ _ d ⟨.int (g i j),H,I.tok _,⟨_,O⟩,q⟩
theorem Pw {f:RV->RV->Sem RV}{g:Int->Int->Int}
  (rule:∀ (i j:Int) (t u:Tok) (s:RZ) (Q:RV->RZ->Prop) (E:RV->RZ->Prop),Q (.int (g i j) s.toks) { s with toks:=s.toks+1 }->Sb (SD X.prog X.w) X.A (f (.int i t) (.int j u)) Q E s):
  pF X f (Kh λi j=>.int (g i j)):=by
 intro a s e H x y v u Q I c d h;obtain⟨i,j,rfl,rfl,q⟩:=h;obtain⟨t,rfl⟩:=c;obtain⟨b,rfl⟩:=d;exact rule i j t b s _ _ ⟨.int (g i j),H,I.tok _,⟨_,O⟩,q⟩
theorem FZ {f:RV->RV->Sem RV}{g:Int->Int->Bool}
  (rule:∀ (i j:Int) (t u:Tok) (s:RZ) (Q:RV->RZ->Prop) (E:RV->RZ->Prop),Q (.bool (g i j)) s->Sb (SD X.prog X.w) X.A (f (.int i t) (.int j u)) Q E s):
  pF X f (Kh λi j=>.bl (g i j)):=by
 intro a s e H x y v u Q I c d h;obtain⟨i,j,rfl,rfl,q⟩:=h;obtain⟨t,rfl⟩:=c;obtain⟨b,rfl⟩:=d;exact rule i j t b s _ _ ⟨.bl (g i j),H,I,O,q⟩
def QO (i j:Int):Prop:=0<=j/\j<=1000000/\i.natAbs<2^64
theorem di:pF X (XU .Add) (Kh λi j=>.int (i+j)):=Pw λ_ _ _ _ _ _ _ q=>add_int q
theorem cC:pF X (XU .Sub) (Kh λi j=>.int (i-j)):=Pw λ_ _ _ _ _ _ _ q=>sub_int q
theorem mR:pF X (XU .Mod) (rI (λ_ j=>0<j) λi j=>.int (i%j)):=Qc λi j _ _ _ _ _ a q=>by
 have b:(0:Int)<j:=a;exact mod_int' zyA (by rw[Int.fmod_eq_emod_of_nonneg i zyA];exact q)
theorem HJ:pF X (XU .Pow) (rI QO λi j=>.int (i^j.toNat)):=Qc λ_ _ _ _ _ _ _ a q=>pow_int_small a.1 a.2.1 a.2.2 q
theorem RQ {f:RV->Sem RV}{g:Int->Int}
  (rule:∀ (i:Int) (t:Tok) (s:RZ) (Q:RV->RZ->Prop) (E:RV->RZ->Prop),Q (.int (g i) s.toks) { s with toks:=s.toks+1 }->Sb (SD X.prog X.w) X.A (f (.int i t)) Q E s):
  QR X f (rU λi=>.int (g i)):=by
 intro a s c H x v Q I b h;obtain⟨i,rfl,q⟩:=h;obtain⟨t,rfl⟩:=b;exact rule i t s _ _ ⟨.int (g i),H,I.tok _,⟨_,O⟩,q⟩
theorem vV:QR X (unaryOp .USub) (rU λi=>.int (-i)):=RQ λ_ _ _ _ _ q=>neg_int q
end
section
variable {X:Cx}{a b c:U2}{ta tb tc:TE}{pos:Pos}
theorem Nj (I:aK X pins σ H s)(q:Q (.bl k) H)(e:k=k'):EP X pins σ Q (.bool k') s:=by
 subst e;exact⟨.bl k,H,I,O,q⟩
theorem y9:pF X (UF .Lt) (Kh λi j=>.bl (decide (i<j))):=FZ λ_ _ _ _ _ _ _ q=>lt_int q
theorem tE:pF X (UF .LtE) (Kh λi j=>.bl (decide (i<=j))):=FZ λ_ _ _ _ _ _ _ q=>le_int q
theorem BK:pF X (UF .Gt) (Kh λi j=>.bl (decide (j<i))):=FZ λ_ _ _ _ _ _ _ q=>gt_int q
theorem Mm:pF X (UF .GtE) (Kh λi j=>.bl (decide (j<=i))):=FZ λ_ _ _ _ _ _ _ q=>ge_int q
theorem bn (b:U2)(h:op≠.In:=by decide)(c:op≠.NotIn:=by decide):Y' op b=false:=by
 have d:(op==CmpOp.In)=false:=by cases op<;>first|rfl|exact absurd rfl h
 have a:(op==CmpOp.NotIn)=false:=by cases op<;>first|rfl|exact absurd rfl c
 cases b<;>simp[Y',d,a]
theorem dA (l:pF X (UF op) r)(d:WE X a ta)(e:WE X b tb)(i:Y' op b=false):WE X (.Compare a [op] [b] pos) (P0 r ta tb):=by
 have d:=d.go;have e:=e.go;refine⟨?_⟩;intro c s j H Q I h;exact wpAny_Compare1 (NF d e I h λv u s2 x y f k g m q=>l c s2 j f x y v u Q k g m q) i
def Mi (t:TE):TT:=λa H Q=>t a H λx b=>Rj x b Q
theorem aX (G:pF X (UF op) r)(f:WE X a ta)(g:WE X b tb)(n:Y' op b=false):WT X (.Compare a [op] [b] pos) (Mi (P0 r ta tb)):=by
 have f:=f.go;have g:=g.go;refine⟨?_⟩;intro d s i H Q I h;refine wpAny_isTrue_Compare1 (cu (f d s i H _ I h) λv C ⟨x,m,B,t,A⟩=>cu (g d C i m _ B A) λu s2 ⟨y,l,D,j,E⟩=>
  cu (G d s2 i l x y v u _ D t j E) λc J ⟨z,F,q,o,k,e,p⟩=>?_) n
 subst e;cases o;exact UL ⟨F,q,p⟩
def Jm (r r':R2)(ta tb tc:TE):TE:=λa H Q=>ta a H λx d=>tb a d λy e=>r x y e λz b=>∃ k,z=.bl k /\
 (if k=true then tc a b λc f=>r' y c f Q else Q (.bl false) b)
theorem y_ (ho:pF X (UF op) r) (j:pF X (UF op') r') (i:WE X a ta) (m:WE X b tb) (n:WE X c tc)
  (M:lastMarks [op,op'] [b,c]=false:=by with_unfolding_all rfl):WE X (.Compare a [op,op'] [b,c] pos) (Jm r r' ta tb tc):=by
 have i:=i.go;have m:=m.go;have n:=n.go;refine⟨?_⟩;intro f s g H Q I h;refine Compare_chain (cu (i f s g H _ I h) λv s1 ⟨x,G,I1,T,q1⟩=>chain_link (cu (m f s1 g G _ I1 q1) λu s2 ⟨y,A,I2,o,q2⟩=>
  cu (ho f s2 g A x y v u _ I2 T o q2) λd C ⟨z,t,q,N,k,e,p⟩=>?_)) M
 subst e;cases N;refine UL ?_;cases k with
 |false=>exact ite_ff ⟨.bl false,t,q,O,p⟩
 |true=>refine ite_tt (chain_last (cu (n f C g t _ q p) λF J l=>?_));obtain⟨L,H4,B,D,E⟩:=l;exact j f J g H4 y L u F Q B o D E
theorem Gq (ho:pF X (UF op) r) (l:pF X (UF op') r') (i:WE X a ta) (n:WE X b tb) (o:WE X c tc)
  (hm:lastMarks [op,op'] [b,c]=false:=by with_unfolding_all rfl):WT X (.Compare a [op,op'] [b,c] pos) (Mi (Jm r r' ta tb tc)):=by
 have i:=i.go;have n:=n.go;have o:=o.go;refine⟨?_⟩;intro f s g H Q I h;refine isTrue_chain (cu (i f s g H _ I h) λv s1 ⟨x,M,I1,r1,q1⟩=>test_link (cu (n f s1 g M _ I1 q1) λu s2 ⟨y,C,I2,p,q2⟩=>
  cu (ho f s2 g C x y v u _ I2 r1 p q2) λd F ⟨z,A,t,r3,k,e,q⟩=>?_)) hm
 subst e;cases r3;refine UL ?_;cases k with
 |false=>
  obtain⟨B,j,m⟩:=q;cases j;exact ite_ff ⟨A,t,m⟩
 |true=>
  refine ite_tt (test_last (cu (o f F g A _ t q) λL N m=>?_));obtain⟨T,H4,D,G,J⟩:=m;refine cu (l f N g H4 y T u L _ D p G J) λd' s5 j=>?_;obtain⟨z2,H5,E,r5,k2,B,q5⟩:=j;subst B;cases r5;exact UL ⟨H5,E,q5⟩
theorem rW:(Sk:Nat)<2^63:=by rw[Uo];decide
theorem mh (r:aU [x] us):∃ u,us=[u]/\bJ x u:=by
 cases r with
 |cons b a=>cases a;exact⟨_,O,b⟩
theorem mK (r:aU [x,y] us):∃ u a,us=[u,a]/\bJ x u/\bJ y a:=by
 cases r with
 |cons c b=>
  cases b with
  |cons e d=>cases d;exact⟨_,_,O,c,e⟩
theorem rp:dP X (.builtin "abs") (λxs H Q=>∃ i,xs=[.int i]/\Q (.int (if i<0 then -i else i)) H):=by
 intro a s c H xs b Q I r h;obtain⟨i,rfl,q⟩:=h;obtain⟨u,rfl,t,rfl⟩:=mh r;exact call_abs_int λu d=>⟨.int (if i<0 then -i else i),H,I.tok _,⟨_,O⟩,q⟩
theorem zi (c:X.calm=true):dP X (.builtin "max") (λxs H Q=>∃ i j,xs=[.int i,.int j]/\Q (.int (if j>i then j else i)) H):=by
 intro b s g H xs d Q I r h;obtain⟨i,j,rfl,q⟩:=h;obtain⟨u,f,rfl,⟨t,rfl⟩,⟨e,rfl⟩⟩:=mK r;refine max_two_ints (I.ok.hd c) λl m k=>⟨_,H,I.kept k,?_,q⟩
 by_cases a:j>i
 ·rw[SO a,SO a];exact⟨_,O⟩
 ·rw[Sx a,Sx a];exact⟨_,O⟩
theorem k9 (c:X.calm=true):dP X (.builtin "min") (λxs H Q=>∃ i j,xs=[.int i,.int j]/\Q (.int (if j<i then j else i)) H):=by
 intro b s g H xs d Q I r h;obtain⟨i,j,rfl,q⟩:=h;obtain⟨u,f,rfl,⟨t,rfl⟩,⟨e,rfl⟩⟩:=mK r;refine min_two_ints (I.ok.hd c) λl m k=>⟨_,H,I.kept k,?_,q⟩
 by_cases a:j<i
 ·rw[SO a,SO a];exact⟨_,O⟩
 ·rw[Sx a,Sx a];exact⟨_,O⟩
end
structure DN (h:Uc)(x dx C:Sd)(mA:Str->Option RV):Prop where
 obj:h.get? x=Y (U' C dx)
 ns:h.Ns1 dx mA
 ne:dx≠x
theorem Gj {h:Uc}{c:Sd}{g:Str->Option RV}(n:h.Ns1 c g):∃ f,h.get? c=Y f/\∀ name,YB name f=Y (g name):=by
 obtain⟨o,d,r,p,j,m,_,k⟩:=n;refine⟨o,p,λname=>?_⟩;have e:=k name;unfold nsFind findBy at e;rw[<- Array.find?_toList] at e;unfold YB;rw[j];dsimp only
 split
 ·rename_i y q
  rw[q] at e;exact VZ Y e
 ·rename_i q
  rw[q] at e;have a:d.toList.any (·.refKey)=false:=by
   rw[List.any_eq_false];intro y l;obtain⟨z,t,b⟩:=m y (Array.mem_toList_iff.mp l);simp[DictEntry.refKey,b]
  have i:¬ d.toList.any (·.refKey)=true:=by rw[a];exact Tg
  rw[Sx i];exact VZ Y e
theorem DN.look (I:DN h x dx C mA):∃ a,abo h x (U' C dx) C (Y a)/\∀ name,YB name a=Y (mA name):=
 let ⟨a,ho,hl⟩:=Gj I.ns
 ⟨a,⟨I.obj,O,O,ho⟩,hl⟩
section
variable {prog:SA}{w:Te}{A:Tf}{E:RV->RZ->Prop}{s:RZ}{K:KE}{x dx C f:Sd}{mA:Str->Option RV}{name:Str}{v:RV}
theorem KL (X:K.In s.heap) (I:DN s.heap x dx C mA) (d:Wr K C name=true) (hh:Xi K C=true)
  (c:SG K (.ref C) name=Y none)(e:mA name=Y v)(a:abb v=true)(h:Q v { s with toks:=s.toks+1 }):
  Sb (SD prog w) A (getAttr (.ref x) name expr) Q E s:=by
 obtain⟨f,J,b⟩:=I.look;exact PySem.W.get_value X J (X9 d).1 (PySem.W.findObj_own hh c rfl (by rw[b,e])) a h
theorem JA (X:K.In s.heap) (I:DN s.heap x dx C mA) (a:Wr K C name=true)
  (g:SG K (.ref C) name=Y (Y (.ref f)))(e:UP K (.ref f)=true)(c:mA name=none)(h:Q (.ref f,[.ref x]) s):
  Sb (SD prog w) A (getMethod (.ref x) name pl) Q E s:=by
 obtain⟨d,J,b⟩:=I.look;exact PySem.W.method_fn X J (X9 a).1 (X9 a).2 g (UW.mp e) (by show(YB name d).map (·.isSome)=Y false;rw[b,c];rfl) h
theorem K8 (X:K.In s.heap) (I:DN s.heap x dx C mA)
  (o:SG K (.ref C) "__setattr__"=Y (Y (.builtin "object.__setattr__")))(m:YR K C=true)(p:ZE K C name=Y none)(hh:Xi K C=true)
  (hw:aa6 mA ns)(hsz:ns.length<=Sk)
  (h:∀ h',DN h' x dx C (λy=>if y=name then Y v else mA y)->S_ dx s.heap h'->Q () { s with heap:=h',toks:=s.toks+2 }):
  Sb (SD prog w) A (setAttr (.ref x) name v) Q E s:=by
 obtain⟨u,J,q⟩:=I.look;refine PySem.W.set_plain X J o (PySem.W.osa_open (s:={ s with toks:=s.toks+1 }) (r:=none) X J m p λb=>?_);obtain⟨t,n,e⟩:=PySem.W.any_some hh;have j:s.heap.get? x=Y ⟨.ref C,Y dx,.plain,#[]⟩:=I.obj;refine HD (RT (HD (HD (wpAny_loadPart j (HD (PySem.W.Looks.here (s:={ s with toks:=s.toks+1 }) (PySem.W.looks_clsIn X n) ?_))))));rw[e];refine RT (a:=Y dx) (HD (RT (HD ?_)));refine wpAny_nsSet1 (s:={ s with toks:=s.toks+1 }) I.ns λh' d c=>?_
 obtain⟨z,k,l,g,i,f⟩:=d.count (PySem.Within.cons name v hw);refine HD (wpAny_lookBehind g (by rw[i];exact pastItsLine_dict (Sv f (by rw[TL];lia))) ?_);exact RT (h _ ⟨(c.2 _ (U9 I.ne)).trans I.obj,d,I.ne⟩ c)
theorem vh (X:K.In s.heap) (a:X8 K C=true)
  (hi:SG K (.ref C) "__init__"=Y (Y (.ref f)))(b:YC K (.ref f)=Y (.type "function"))
  (h:Vc (SD prog w) (A.under (.builtin "type.__call__" ⟨.ref C::vs,kw⟩)) (.call (.ref f) ⟨.ref (s.heap.objs.size+1)::vs,kw⟩) (PySem.W.InitBack (s.heap.objs.size+1) R)
   { s with heap:=(s.heap.push Uq).push (U' C s.heap.objs.size) }) :
  Vc (SD prog w) A (.call (.ref C) ⟨vs,kw⟩) R s:=by
 obtain⟨c,g,d,t,os⟩:=s;exact PySem.W.make_core (PySem.W.makes_of X a) (PySem.W.looks_findIn X hi) (λself=>PySem.W.bind_fn X self b) (.inl rfl) h
end
def eU (f:Str)(v:V):List (Str×V)->List (Str×V)
 |[]=>[(f,v)]
 |(g,x)::r=>if g=f then(g,v)::r else(g,x)::eU f v r
theorem tU (f g:Str)(v:V):∀ fs:List (Str×V),(eU f v fs).lookup g=if g=f then Y v else fs.lookup g
 |[]=>by
  show Xg g [(f,v)]=_
  by_cases h:g=f
  ·have a:(g==f)=true:=UW.mpr h;simp only[Xg,a,SO h]
  ·have a:(g==f)=false:=UK.mpr h;simp only[Xg,a,Sx h]
 |(k,x)::r=>by
  have c:=tU f g v r;rw[show eU f v ((k,x)::r)=(if k=f then(k,v)::r else(k,x)::eU f v r) from rfl]
  by_cases b:k=f
  ·rw[SO b]
   by_cases h:g=k
   ·have a:(g==k)=true:=UW.mpr h;simp only[Xg,a,SO (h.trans b)]
   ·have a:(g==k)=false:=UK.mpr h;simp only[Xg,a,Sx (λe:g=f=>h (e.trans b.symm))]
  ·rw[Sx b]
   by_cases h:g=k
   ·have a:(g==k)=true:=UW.mpr h;simp only[Xg,a,Sx (λe:g=f=>b (h.symm.trans e))]
   ·have a:(g==k)=false:=UK.mpr h;simp only[Xg,a];exact c
theorem rL (f:Str)(v:V):∀ fs:List (Str×V),f∈(eU f v fs).map (·.1)/\∀ g,g∈fs.map (·.1)->g∈(eU f v fs).map (·.1)
 |[]=>⟨by simp[eU],λg h=>by simp at h⟩
 |(k,x)::r=>by
  obtain⟨c,b⟩:=rL f v r;rw[show eU f v ((k,x)::r)=(if k=f then(k,v)::r else(k,x)::eU f v r) from rfl]
  by_cases a:k=f
  ·rw[SO a];subst a;exact⟨zyB,λg h=>by simpa using h⟩
  ·rw[Sx a];refine⟨?_,λg h=>?_⟩
   ·rw[Sy];exact R_ _ c
   ·rw[Sy] at h ⊢;rcases R'.mp h with e|e
    ·exact R'.mpr (.inl e)
    ·exact R_ _ (b g e)
theorem tS (f:Str)(v:V):∀ fs:List (Str×V),(eU f v fs).length<=fs.length+1
 |[]=>by simp[eU]
 |(k,x)::r=>by
  have b:=tS f v r;rw[show eU f v ((k,x)::r)=(if k=f then(k,v)::r else(k,x)::eU f v r) from rfl]
  by_cases a:k=f
  ·rw[SO a,TL,TL];lia
  ·rw[Sx a,TL,TL];lia
theorem mw.some_of (r:mw (Y v) o):∃ u,o=Y u/\bJ v u:=by
 cases o with
 |none=>exact(show False from r).elim
 |some u=>exact⟨u,O,r⟩
theorem mw.none_of (r:mw none o):o=none:=by
 cases o with
 |none=>rfl
 |some u=>exact(show False from r).elim
theorem Gm (r:bJ v u):abb u=true:=by
 cases v with
 |non=>cases(show u=Tv from r);rfl
 |bl b=>cases(show u=XV b from r);rfl
 |int i=>obtain⟨t,e⟩:=(show ∃ t,u=VO i t from r);cases e;rfl
 |str x=>obtain⟨t,e⟩:=(show ∃ t,u=YU x t from r);cases e;rfl
 |byt b=>obtain⟨t,e⟩:=(show ∃ t,u=Value.bytes b t from r);cases e;rfl
 |flt b=>obtain⟨t,e⟩:=(show ∃ t,u=abi b t from r);cases e;rfl
 |ref a=>cases(show u=SC a from r);rfl
 |ty n=>cases(show u=T9 n from r);rfl
section
variable {P:SA}{w:Te}{H H':Hp}{h h':Uc}{a C dx:Sd}{fs fs':List (Str×V)}
theorem uH (c:qA P w H h)(e:H a=Y (.ins C dx fs)):∃ b,DN h a dx C b/\(∀ f,mw (fs.lookup f) (b f))/\aa6 b (fs.map (·.1))/\fs.length<=1000/\H dx=Y (.own a):=by
 obtain⟨d,z,ne,g,b,n,r,q⟩:=(show cq P w H h a (.ins C dx fs) from c a _ e)
 exact⟨b,⟨g,n,ne⟩,r,q,z,d⟩
end
structure Mz (K:KE)(C:Sd):Prop where
 pg:Wr K C Str.empty=true
 hd:Xi K C=true
 po:YR K C=true
 sa:SG K (.ref C) "__setattr__"=Y (Y (.builtin "object.__setattr__"))
theorem Mz.get {K:KE}(c:Mz K C)(f:Str):Wr K C f=true:=c.pg
def xB (K:KE)(C:Sd)(f:Str):Prop:=SG K (.ref C) f=Y none
theorem xB.taker {K:KE}(n:xB K C f):ZE K C f=Y none:=by
 unfold ZE;rw[show SG K (.ref C) f=Y none from n];rfl
structure JZ (K:KE)(C:Sd)(m:Str)(f:Sd):Prop where
 at_:SG K (.ref C) m=Y (Y (.ref f))
 fn:UP K (.ref f)=true
 kp:Sq K (.ref f)=true
section
variable {X:Cx}{pins:List (Sd×Obj)}{σ:St}{H:Hp}{s:RZ}{a C dx:Sd}{fs:List (Str×V)}{f:Str}{v:V}{A:Tf}{E:RV->RZ->Prop}
theorem DS (I:aK X pins σ H s) (e:H a=Y (.ins C dx fs)) (c:Mz X.K C) (n:xB X.K C f) (l:fs.lookup f=Y v)
  (h:∀ u g,aK X pins σ H g->bJ v u->Q u g):Sb (SD X.prog X.w) A (getAttr (.ref a) f b) Q E s:=by
 obtain⟨j,d,r,_,_,_⟩:=uH I.hok e;obtain⟨u,k,i⟩:=mw.some_of (v:=v) (o:=j f) (by rw[<- l];exact r f);exact KL I.kIn d (c.get f) c.hd n k (Gm i) (h u _ (I.tok _) i)
theorem qi (I:aK X pins σ H s) (e:H a=Y (.ins C dx fs)) (c:Mz X.K C) (k:JZ X.K C m g) (l:fs.lookup m=none)
  (h:Q (.ref g,[.ref a]) s):Sb (SD X.prog X.w) A (getMethod (.ref a) m pl) Q E s:=by
 obtain⟨f,b,r,_,_,_⟩:=uH I.hok e;have d:f m=none:=mw.none_of (by rw[<- l];exact r m);exact JA I.kIn b (c.get m) k.at_ k.fn d h
theorem D6 (I:aK X pins σ H s) (e:H a=Y (.ins C dx fs)) (c:Mz X.K C) (n:xB X.K C f) (J:fs.length < 1000) (G:bJ y u)
  (h:∀ l,aK X pins σ (upd H a (.ins C dx (eU f y fs))) l->Q () l):Sb (SD X.prog X.w) A (setAttr (.ref a) f u) Q E s:=by
 obtain⟨k,d,r,j,_,m⟩:=uH I.hok e;have t:(fs.map (·.1)).length<=Sk:=by rw[R5,Uo];lia
 refine K8 I.kIn d c.sa c.po n.taker c.hd j t λD i p=>h _ ?_
 have v:∃ o,D.get? dx=Y o:=let ⟨o,_,_,e',_⟩:=i.ns;⟨o,e'⟩
 refine I.write (x:=a) (e:=dx) (by rw[e];exact True.intro) (.inr m) (λb q B z=>(p.2 b B).trans z) v ?_;refine⟨by rw[ar d.ne];exact m,?_,d.ne,i.obj,_,i.ns,λg=>?_,λg F=>?_⟩
 ·have:=tS f y fs;lia
 ·show mw ((eU f y fs).lookup g) (if g=f then Y u else k g);rw[tU]
  by_cases q:g=f
  ·rw[SO q,SO q];exact G
  ·rw[Sx q,Sx q];exact r g
 ·by_cases q:g=f
  ·rw[q];exact(rL f y fs).1
  ·refine(rL f y fs).2 g (j g λz=>F ?_);show(if g=f then Y u else k g)=none;rw[Sx q];exact z
theorem aK.made (I:aK X pins σ H s):aK X pins σ (upd (upd H s.heap.objs.size (.own (s.heap.objs.size + 1))) (s.heap.objs.size + 1) (.ins C s.heap.objs.size []))
  { s with heap:=(s.heap.push Uq).push (U' C s.heap.objs.size) }:=by
 have c:(s.heap.push Uq).get? s.heap.objs.size=Y Uq:=RW s.heap rfl;have d:((s.heap.push Uq).push (U' C s.heap.objs.size)).get? (s.heap.objs.size+1)=Y (U' C s.heap.objs.size):=by
  have:=RW (s.heap.push Uq) (o:=U' C s.heap.objs.size) O
  rwa [SR] at this
 have f:(s.heap.push Uq).Ns s.heap.objs.size (λ_=>none):=⟨Uq,#[],_,c,O,(λe g=>absurd g zyB),λ_=>rfl⟩
 have h:=I.laid (a:=s.heap.objs.size) (o:=.own (s.heap.objs.size+1)) (h':=s.heap.push Uq) (t':=s.toks) (λb u q=>RS _ q) (R0 _) ⟨_,c⟩;refine h.laid (a:=s.heap.objs.size+1) (o:=.ins C s.heap.objs.size []) (t':=s.toks) (λb u q=>RS _ q) (Nat.le_of_eq (SR _ _)) ?_;have ne:s.heap.objs.size≠s.heap.objs.size+1:=Si (Um _);refine⟨by rw[ar ne,ag],Tn _,ne,d,λ_=>none,(Heap.Ns1.of_empty f).at λo q=>RS _ q,λ_=>True.intro,λy i=>absurd rfl i⟩
theorem Lu (b:XT e f env (V1 e env)=V1 e env)
  (h:Sb (SD prog w) A (V1 e env) (λo a=>Sb (SD prog w) A (getAttr o f true) Q E a) E s):Sb (SD prog w) A (V1 (.Attribute e f pos) env) Q E s:=
 Attribute_any_ h (by rw[arm_eval_Attribute,b])
end
section
variable {X:Cx}{pins:List (Sd×Obj)}{σ:St}{H:Hp}{s:RZ}{A:Tf}{E:RV->RZ->Prop}{Q:RV->RZ->Prop}{c:RV}{b:Bool}
inductive qg (K:KE)(H:Hp):V->RV->Prop where
 |non:qg K H .non (.type "NoneType")
 |bl (x:Bool):qg K H (.bl x) (.type "bool")
 |int (i:Int):qg K H (.int i) (.type "int")
 |str (x:Str):qg K H (.str x) (.type "str")
 |flt (x:UInt64):qg K H (.flt x) (.type "float")
 |lst {a:Sd}{xs:List V} (e:H a=Y (.lst xs)):qg K H (.ref a) (.type "list")
 |frz {a:Sd}{o:Obj}{xs:List V} (e:H a=Y (.frz o (.lst xs))):qg K H (.ref a) (.type "list")
 |tup {a:Sd}{xs:List V} (e:H a=Y (.tup xs)):qg K H (.ref a) (.type "tuple")
 |dK {a:Sd}{kvs:List (iB×V)} (e:H a=Y (.dK kvs)):qg K H (.ref a) (.type "dict")
 |dT {a:Sd}{kvs:List (List iB×V)} (e:H a=Y (.dT kvs)):qg K H (.ref a) (.type "dict")
 | ins {a C dx:Sd}{fs:List (Str × V)} (e:H a=Y (.ins C dx fs)) (cl:Mz K C) (ha:SG K (.ref C) "__class__"=Y (Y (.builtin "object.__class__")))
   (hn:Xj K (.builtin "object.__class__") "__get__"=Y (Y (.builtin "getset_descriptor.__get__")))(htk:X' K (.builtin "object.__class__")=Y true)
   (hm:W2 K C (.type "object")=Y true):qg K H (.ref a) (.ref C)
theorem HE (I:aK X pins σ H s)(c:bJ x u)(ty:qg X.K H x t):∃ g,PySem.W.KitX X.K u t g/\g s.heap/\u≠.builtin "__main__.__loader__#opaque":=by
 cases ty with
 |non=>cases(show u=Tv from c);exact⟨_,PySem.W.kitx_none,True.intro,λz=>nomatch z⟩
 |bl y=>cases(show u=XV y from c);exact⟨_,PySem.W.kitx_bool,True.intro,λz=>nomatch z⟩
 |int i=>obtain⟨t,q⟩:=(show ∃ t,u=VO i t from c);cases q;exact⟨_,PySem.W.kitx_int,True.intro,λz=>nomatch z⟩
 |str y=>obtain⟨t,q⟩:=(show ∃ t,u=YU y t from c);cases q;exact⟨_,PySem.W.kitx_str,True.intro,λz=>nomatch z⟩
 |flt y=>obtain⟨t,q⟩:=(show ∃ t,u=abi y t from c);cases q;exact⟨_,PySem.W.kitx_float,True.intro,λz=>nomatch z⟩
 |@lst a f b=>
  cases(show u=SC a from c);obtain⟨_,_,n,_,d⟩:=(show cq X.prog X.w H s.heap a (.lst f) from I.hok a _ b)
  exact⟨_,aaQ,⟨_,d,O⟩,λz=>nomatch z⟩
 |@frz a j f b=>
  cases(show u=SC a from c);obtain⟨_,_,_,n,_,d⟩:=(show cq X.prog X.w H s.heap a (.frz j (.lst f)) from I.hok a _ b)
  exact⟨_,aaQ,⟨_,d,O⟩,λz=>nomatch z⟩
 |@tup a f b=>
  cases(show u=SC a from c);obtain⟨_,_,_,p⟩:=(show cq X.prog X.w H s.heap a (.tup f) from I.hok a _ b)
  obtain⟨o,d,h,_⟩:=p;exact⟨_,PySem.W.kitx_tuple,⟨o,d,h⟩,λz=>nomatch z⟩
 |@dK a e b=>
  cases(show u=SC a from c);obtain⟨_,_,vs,_,p⟩:=(show cq X.prog X.w H s.heap a (.dK e) from I.hok a _ b)
  obtain⟨o,v,B,d,h,_⟩:=p;exact⟨_,aaP,⟨o,d,h.1⟩,λz=>nomatch z⟩
 |@dT a e b=>
  cases(show u=SC a from c);obtain⟨_,_,f,_,o,v,B,d,h,_⟩:=(show cq X.prog X.w H s.heap a (.dT e) from I.hok a _ b)
  exact⟨_,aaP,⟨o,d,h.1⟩,λz=>nomatch z⟩
 |@ins a C D fs b l m r j A=>
  cases(show u=SC a from c);obtain⟨F,k,_⟩:=uH I.hok b;obtain⟨E,J,_⟩:=k.look;exact⟨_,(PySem.W.kitx_own (l.get _) l.hd m r j A),J,λz=>nomatch z⟩
theorem sN (I:aK X pins σ H s) (d:bJ x u) (ty:qg X.K H x t) (e:Vk X.K t c=Y b) (h:∀ f,Q (.bool b) { s with toks:=f }) :
  Sb (SD X.prog X.w) A (call (.builtin "isinstance") [u,c]) Q E s:=by
 obtain⟨g,a,b,c⟩:=HE I d ty;exact PySem.W.kia_one a I.kIn b e c h
end
structure Room (k:Nat)(A:Tf):Prop where
 hd:A.handled=none
 dp:A.depth+3*k+5<recursionLimit
 un:A.units+16*k+200<cLine
theorem Room.mono (r:Room k A)(h:j<=k):Room j A:=⟨r.hd,by have:=r.dp;lia,by have:=r.un;lia⟩
theorem Room.deeper (r:Room (k+1) A)(env:Env):Room k (A.deeper env):=
 ⟨r.hd,by have:=r.dp;show A.depth+1+3*k+5<_;lia,by have:=r.un;show A.units+3+16*k+200<_;lia⟩
theorem DD {A:Tf}{C:Sd}{us:List RV}{a:List (Str×RV)}:(A.under (.builtin "type.__call__" ⟨.ref C::us,a⟩)).depth=A.depth+1:=by
 first|rfl|simp[aaX,Code.weight,Code.isCreation,Code.isGuard,Code.isCaller,Code.frames,aaZ,guardIds]
theorem Dj {A:Tf}{C:Sd}{us:List RV}{a:List (Str×RV)}:(A.under (.builtin "type.__call__" ⟨.ref C::us,a⟩)).units=A.units+1:=by
 first|rfl|simp[aaX,Code.cUnits,Code.frames,aaZ]
theorem Room.make (r:Room (k+1) A)(C:Sd)(us:List RV)(a:List (Str×RV)):Room k (A.under (.builtin "type.__call__" ⟨.ref C::us,a⟩)):=
 ⟨r.hd,by have:=r.dp;rw[DD];lia,by have:=r.un;rw[Dj];lia⟩
theorem Room.depth (r:Room k A):A.depth<recursionLimit:=by have:=r.dp;lia
theorem Room.units (r:Room k A):A.units+64<cLine:=by have:=r.un;lia
def yf:TA:=λ_ H Q=>Q [] H
def o8 (c:TE)(b:TA):TA:=λa H Q=>c a H λx e=>b a e λd f=>Q (x::d) f
section
variable {X:Cx}{e:U2}{es:List U2}{te:TE}{t:TA}{pos:Pos}
theorem Jf:PA X [] yf:=λ_ _ _ _ H Q I h=>Xb ⟨[],H,I,.nil,h⟩
theorem Et (g:PE X e te)(j:PA X es t)(v:Ss (e::es) X.env=(false,V1 e X.env)::Ss es X.env:=by rfl):PA X (e::es) (o8 te t):=by
 intro pos a s d H Q I h;rw[v];show Sb _ _ (spliced ((false,V1 e X.env)::VY pos (Ss es X.env))) _ _ s;refine VT (cu (g a s d H _ I h) λu o c=>?_);obtain⟨x,k,n,l,m⟩:=c;refine cu (j pos a o d k _ n m) λy s2 b=>?_;obtain⟨p,i,q,f,r⟩:=b;exact⟨x::p,i,q,.cons l f,r⟩
def Q8 (t:TA):TE:=λc H Q=>t c H λa b=>a.length<=Sk/\∀ p,b p=none->Q (.ref p) (upd b p (.tup a))
def QN (t:TA):TE:=λc H Q=>t c H λa b=>a.length<=Sk/\∀ p,b p=none->Q (.ref p) (upd b p (.lst a))
theorem aW {x1}(h:WA X es t):WE X (.Tuple es x1 pos) (Q8 t):=by
 have h:=h.go;refine⟨?_⟩;intro a s j H Q I hq;refine wpAny_Tuple_spliced (cu (h pos a s j H _ I hq) λi c d=>?_);obtain⟨k,f,g,r,z,q⟩:=d;refine⟨by rw[<- r.length];exact z,?_⟩;have l:f c.heap.objs.size=none:=g.hok.fresh (R0 _);refine⟨.ref c.heap.objs.size,upd f c.heap.objs.size (.tup k),g.laid (t':=c.toks) (λb u e=>RS _ e) (R0 _) ?_,O,q _ l⟩;exact⟨z,i,r,⟨_,RW _ O,O,_,O⟩⟩
theorem bV (h:WA X es t):WE X (.List es pos) (QN t):=by
 have h:=h.go;refine⟨?_⟩;intro a s j H Q I hq;refine wpAny_List_spliced (cu (h pos a s j H _ I hq) λi c d=>?_);obtain⟨k,f,g,r,z,q⟩:=d;refine⟨by rw[<- r.length];exact z,?_⟩;have l:f c.heap.objs.size=none:=g.hok.fresh (R0 _);refine⟨.ref c.heap.objs.size,upd f c.heap.objs.size (.lst k),g.laid (t':=c.toks) (λb u e=>RS _ e) (R0 _) ?_,O,q _ l⟩;exact⟨z,i,0,r,RW _ O⟩
end
abbrev Sp:=List V->Hp->VK->XK->Prop
abbrev qr:=List Env->Hp->RZ->XK->RV->RZ->Prop
structure Ec (P:SA)(w:Te)(K:KE)(mg:Str->Option RV)(base:Uc)(A:Tf)(outer:List Env)(s:RZ)(H:Hp):Prop where
 frames:A.frames=Y outer
 mod:Mod K mg base
 bs:∀ b o,base.get? b=Y o->s.heap.get? b=Y o/\H b=none
 bsz:base.objs.size<=s.heap.objs.size
 funs:s.heap.FunFrames base outer
 frf:∀ b∈Da outer,H b=none
 hok:qA P w H s.heap
 bare:Z_ s.gens
def CE (a:List Env)(P:SA)(w:Te)(H:Hp)(s:RZ)(Q:VK)(u:RV)(b:RZ):Prop:=
 ∃ v c,b.os=s.os/\Z_ b.gens/\Un (Da a) [] H c s.heap b.heap/\qA P w c b.heap/\bJ v u/\Q v c
def CR (CX:qr)(a:List Env)(P:SA)(w:Te)(H:Hp)(s:RZ)(Q:VK)(E:XK)(r:Result)(b:RZ):Prop:=
 match r with
 |.ok (.ret u)=>CE a P w H s Q u b
 |.ok _=>False
 |.error e=>CX a H s E e b
structure jm (P:SA)(w:Te)(K:KE)(mg:Str->Option RV)(base:Uc)(CX:qr)(k:Nat)(f:Sd)(fd:Uw)(ps:List Str)(sp:Sp):Prop where
 len:∀ vs H Q E,sp vs H Q E->vs.length=ps.length
 run:∀ (A:Tf) (outer:List Env) (s:RZ) (H:Hp) (args:Args) (us:List RV) (vs:List V) (Q:VK) (E:XK),Room k A->Ec P w K mg base A outer s H->aab s fd args (ps.zip us)->aU vs us->sp vs H Q E ->
  Vc (SD P w) A (.call (.ref f) args) (CR CX outer P w H s Q E) s
theorem jm.mono {K:KE}{j k:Nat} (F:jm P w K mg base CX j f fd ps sp) (h:j <= k) :
  jm P w K mg base CX k f fd ps sp:=⟨F.len,λA a s H b c vs Q E d=>F.run A a s H b c vs Q E (d.mono h)⟩
theorem Ec.make {K:KE} (e:Ec P w K mg base A outer s H) (C:Sd) (us:List RV) (a:List (Str × RV)) :
  Ec P w K mg base (A.under (.builtin "type.__call__" ⟨.ref C::us,a⟩)) outer s H:=⟨by first|exact e.frames|(simpa [aaX,Code.envs,aaZ,pushEnvs] using e.frames),e.mod,e.bs,e.bsz,e.funs,e.frf,e.hok,e.bare⟩
section
variable {X:Cx}{pins:List (Sd×Obj)}{σ:St}{H:Hp}{s s':RZ}
theorem aK.env0 (I:aK X pins σ H s):Ec X.prog X.w X.K X.mg X.base X.A X.stack s H:=
 ⟨I.ok.frames,I.ok.mod,I.bs,Sv I.ok.bsz I.sz,I.stack,I.stkFree,I.hok,I.bare⟩
theorem aK.after (I:aK X pins σ H s)(h:CE X.stack X.prog X.w H s Q u s'):EP X pins σ Q u s':=by
 obtain⟨v,i,os,a,un,e,r,q⟩:=h;obtain⟨f,g,d,t,c⟩:=s';obtain rfl:c=s.os:=os;exact⟨v,i,I.call (h':=f) (g':=g) (d':=d) (t':=t) (ch:=[]) un e a (λb z=>absurd z zyB),r,q⟩
end
def BP (sp:Sp)(dvs:List V)(E:XK)(t:TA):TE:=λb H Q=>t b H λvs a=>sp (vs++dvs) a Q E
def o9 (K:KE)(c:Uw)(b:List Str)(ds:List RV):Prop:=
 ∀ (s:RZ) (a:List RV),K.In s.heap->(a++ds).length=b.length->aab s c ⟨a,[]⟩ (b.zip (a++ds))
theorem o9.all {K:KE}(h:∀ us:List RV,us.length=ps.length->T_ fd ⟨us,[]⟩=pure (ps.zip us)):o9 K fd ps []:=λs us _ a=>by
 rw[X0] at a ⊢;exact .of_eq (h us a)
def tj (CX:qr)(X:Cx)(E:XK):Prop:=∀ (a:List (Sd×Obj)) (c:St) (H:Hp) (s:RZ) (e:RV) (b:RZ),aK X a c H s->CX X.stack H s E e b->X.xe e b
section
variable {X:Cx}{CX:qr}{k:Nat}{f C:Sd}{fd:Uw}{ps:List Str}{sp:Sp}{dvs:List V}{ds:List RV}{E:XK}{x m:Str}{p pos apos:Pos}{e o:U2}{es:List U2}{ta:TE}{t:TA}
theorem zP (F:jm X.prog X.w X.K X.mg X.base CX k f fd ps sp) (l:Room k X.A) (d:o9 X.K fd ps ds) (j:aU dvs ds) (b:tj CX X E)
  (I:aK X pins σ H s)(r:aU vs us)(h:sp (vs++dvs) H Q E):Sb (SD X.prog X.w) X.A (call (.ref f) us) (EP X pins σ Q) X.xe s:=by
 have a:aU (vs++dvs) (us++ds):=r.append j;have c:(us++ds).length=ps.length:=by rw[<- a.length];exact F.len _ _ _ _ h
 refine XW (Vg (F.run X.A X.stack s H ⟨us,[]⟩ (us++ds) (vs++dvs) Q E l I.env0 (d s us I.kIn c) a h) λr i hq=>?_);cases r with
 |error e=>exact b pins σ H s e i I hq
 |ok g=>
  cases g with
  |ret u=>exact I.after hq
  |next=>exact UG hq
  |brk=>exact UG hq
  |cont=>exact UG hq
theorem LL (F:jm X.prog X.w X.K X.mg X.base CX k f fd ps sp) (l:Room k X.A) (v:Gl X x) (m:X.mg x=Y (.ref f)) (y:Sq X.K (.ref f)=true) (o:o9 X.K fd ps ds) (n:aU dvs ds) (i:tj CX X E)
  (j:PA X (e::es) t)(b:(x==("__debug__":Str))=false:=by decide)(he:Ss (e::es) X.env=(false,V1 e X.env)::Ss es X.env:=by rfl)(d:(VY pos (Ss es X.env)).any (·.1)=false:=by rfl):
  PE X (.Call (.Name x p) (e::es) [] pos) (BP sp dvs E t):=by
 intro a s u H Q I h;refine TV (jk I v m ?_ b);refine W1 (h₀:=X.base) I.ok.mod.kin y (cu (j pos a s u H _ I h) λz C c=>?_) he d;obtain⟨vs,B,g,r,q⟩:=c;refine⟨g.kIn,?_⟩;exact zP F l o n i g r q
structure Mk (K:KE)(C f:Sd):Prop where
 makes:X8 K C=true
 init:SG K (.ref C) "__init__"=Y (Y (.ref f))
 fn:UP K (.ref f)=true
 kp:Sq K (.ref C)=true
theorem IE (M:Mk X.K C f) (F:jm X.prog X.w X.K X.mg X.base CX k f fd ps sp) (l:Room (k + 1) X.A) (q:o9 X.K fd ps ds) (n:aU dvs ds)
  (g:tj CX X E)(I:aK X pins σ H s)(r:aU vs us)
  (h:∀ x b,H x=none->H b=none->b≠x->sp (.ref x::(vs++dvs)) (upd (upd H b (.own x)) x (.ins C b [])) (λv j=>v=.non/\Q (.ref x) j) E):
  Sb (SD X.prog X.w) X.A (call (.ref C) us) (EP X pins σ Q) X.xe s:=by
 have hq:=h (s.heap.objs.size+1) s.heap.objs.size (I.hok.fresh (X5 _)) (I.hok.fresh (R0 _)) (Si (Um _));have c:=aK.made (C:=C) I;have d:aU (V.ref (s.heap.objs.size+1)::(vs++dvs)) (SC (s.heap.objs.size+1)::(us++ds)):=.cons rfl (r.append n);have i:(SC (s.heap.objs.size+1)::us++ds).length=ps.length:=by
  have e:=d.length;rw[F.len _ _ _ _ hq] at e;exact e.symm
 refine XW (vh (f:=f) I.kIn M.makes M.init (UW.mp M.fn) (Vg (F.run _ X.stack _ _ ⟨SC (s.heap.objs.size+1)::us,[]⟩ (SC (s.heap.objs.size+1)::(us++ds)) _ _ E (l.make C us [])
  (c.env0.make C us []) (q _ (SC (s.heap.objs.size+1)::us) c.kIn i) d hq) λr B a=>?_))
 cases r with
 |error e=>exact g pins σ _ _ e B c a
 |ok z=>
  cases z with
  |ret u=>
   obtain⟨v,t,p,y,m,o⟩:=c.after a;subst m;exact⟨y,⟨V.ref (s.heap.objs.size+1),t,p,O,o⟩⟩
  |next=>exact UG a
  |brk=>exact UG a
  |cont=>exact UG a
end
def PK (X:Cx)(b:List XC)(t:TA):Prop:=
 ∀ (d:Pos) (a:List (Sd×Obj)) (s:RZ) (c:St) (H:Hp) (Q:List V->Hp->Prop),aK X a c H s->t c H Q->Sb (SD X.prog X.w) X.A (evalAll ((UV d (TQ b X.env)).map (·.2))) (AP X a c Q) X.xe s
structure WK (X:Cx)(e:List XC)(t:TA):Prop where
 go:PK X e t
section
variable {X:Cx}{CX:qr}{k:Nat}{f C:Sd}{fd:Uw}{ps ks:List Str}{sp:Sp}{E:XK}{x m:Str}{p pos apos kpos:Pos}{e o:U2}{es:List U2}{kws:List XC}{te ta:TE}{t tk:TA}{nm:Option Str}
theorem dQ:WK X [] yf:=by
 exact⟨λ_ _ _ _ H Q I h=>wpAny_evalAll_nil ⟨[],H,I,.nil,h⟩⟩
theorem bZ (b:WE X e te)(d:WK X kws t):WK X (⟨nm,e,kpos⟩::kws) (o8 te t):=by
 have b:=b.go;have d:=d.go;refine⟨?_⟩;intro pos a s g H Q I h;show Sb _ _ (evalAll ((do let v <- V1 e X.env;ZL pos;pure v)::(UV pos (TQ kws X.env)).map (·.2))) _ _ s;refine wpAny_evalAll_cons (HD (cu (b a s g H _ I h) λu o f=>?_));obtain⟨x,k,n,l,m⟩:=f;refine HD (Vi (RT ?_));refine cu (d pos a o g k _ n m) λy s2 c=>?_;obtain⟨p,j,q,i,r⟩:=c;exact⟨x::p,j,q,.cons l i,r⟩
structure kI (K:KE)(fd:Uw)(ps ks:List Str)(g:List RV->List RV->List RV)(gV:List V->List V->List V):Prop where
 to:∀ (s:RZ) (us ws:List RV),K.In s.heap->(g us ws).length=ps.length->aab s fd ⟨us,ks.zip ws⟩ (ps.zip (g us ws))
 rel:∀ {vs:List V}{us:List RV}{zs:List V}{ws:List RV},aU vs us->aU zs ws->aU (gV vs zs) (g us ws)
def HC (sp:Sp)(c:List V->List V->List V)(E:XK)(t tk:TA):TE:=λa H Q=>t a H λvs b=>tk a b λe d=>sp (c vs e) d Q E
variable {g:List RV->List RV->List RV}{gV:List V->List V->List V}
theorem EN (F:jm X.prog X.w X.K X.mg X.base CX k f fd ps sp) (m:Room k X.A) (b:kI X.K fd ps ks g gV) (c:tj CX X E)
  (I:aK X pins σ H s)(r:aU vs us)(l:aU zs ws)(h:sp (gV vs zs) H Q E):Sb (SD X.prog X.w) X.A (call (.ref f) us (ks.zip ws)) (EP X pins σ Q) X.xe s:=by
 have a:=b.rel r l;have d:(g us ws).length=ps.length:=by rw[<- a.length];exact F.len _ _ _ _ h
 refine XW (Vg (F.run X.A X.stack s H ⟨us,ks.zip ws⟩ (g us ws) (gV vs zs) Q E m I.env0 (b.to s us ws I.kIn d) a h) λr j hq=>?_);cases r with
 |error e=>exact c pins σ H s e j I hq
 |ok i=>
  cases i with
  |ret u=>exact I.after hq
  |next=>exact UG hq
  |brk=>exact UG hq
  |cont=>exact UG hq
theorem Jo (F:jm X.prog X.w X.K X.mg X.base CX k f fd ps sp) (y:Room k X.A) (M:Gl X x) (B:X.mg x=Y (.ref f)) (N:Sq X.K (.ref f)=true) (C:kI X.K fd ps ks g gV) (u:tj CX X E)
  (v:PA X (e::es) t)(c:PK X kws tk)(b:(UV pos (TQ kws X.env)).all (·.1.isSome)=true:=by rfl)(m:(UV pos (TQ kws X.env)).filterMap (·.1)=ks:=by rfl)
  (i:(x==("__debug__":Str))=false:=by decide)(he:Ss (e::es) X.env=(false,V1 e X.env)::Ss es X.env:=by rfl)
  (l:((VY pos (Ss (e::es) X.env)).any (·.1)||(UV pos (TQ kws X.env)).any (·.1.isNone))=false:=by rfl):
  PE X (.Call (.Name x p) (e::es) kws pos) (HC sp gV E t tk):=by
 intro a s n H Q I h;refine TV (jk I M B ?_ i);refine X7 (h₀:=X.base) I.ok.mod.kin N b (cu (v pos a s n H _ I h) λus J j=>?_) l he;obtain⟨vs,z,D,r,q⟩:=j;refine cu (c pos a J n z _ D q) λws s2 d=>?_;obtain⟨zs,T,o,G,L⟩:=d;refine⟨o.kIn,?_⟩
 rw[m];exact EN F y C u o r G L
end
structure ao (N P:List Str)(sc:Xy):Prop where
 kind:sc.kind=.function
 co:sc.isCoroutine=false
 gen:sc.isGenerator=false
 nd:N.Nodup
 pre:N.take P.length=P
 par:∀ x∈P,sc.names.lookup x=Y .local\/sc.names.lookup x=Y .cell
 nofree:∀ y∈sc.names,y.2≠.free
theorem ze {kindOf:Str->Option Wg}{x:Str}:∀ {a:List (Str×RV)}{m:Str->Option RV},(∀ v,(x,v)∉a)->bindL kindOf a m x=m x
 |[],_,_=>rfl
 |(n,v)::r,m,h=>by
  unfold bindL;rw[ze λw hw=>h w (R_ _ hw)]
  split
  ·have:x≠n:=by rintro rfl;exact h v Sz
   simp[this]
  ·rfl
theorem zk {kindOf:Str->Option Wg}{x:Str}:∀ {a:List (Str×RV)}{m:Str->Option RV},(∀ v,(x,v)∉a)->bindC kindOf a m x=m x
 |[],_,_=>rfl
 |(n,v)::r,m,h=>by
  unfold bindC;rw[zk λw hw=>h w (R_ _ hw)]
  split
  ·rfl
  ·have:x≠n:=by rintro rfl;exact h v Sz
   simp[this]
theorem zr {kindOf:Str->Option Wg}{x:Str}{v:RV}:∀ {P:List Str}{vs:List RV}{i:Nat}{m:Str->Option RV},P.Nodup->P[i]?=Y x->vs[i]?=Y v->kindOf x=Y .local ->
  bindL kindOf (P.zip vs) m x=Y v
 |[],_,_,_,_,h,_,_=>by simp at h
 |_::_,[],_,_,_,_,h,_=>by simp at h
 |p::P,w::vs,0,m,c,b,a,d=>by
  simp at b a;subst b;subst a;show bindL kindOf ((p,w)::P.zip vs) m p=_;unfold bindL;rw[ze λv e=>(Ui.mp c).1 (Vw e).1,SO d];simp
 |p::P,w::vs,i+1,m,c,b,a,d=>by
  show bindL kindOf ((p,w)::P.zip vs) m x=_;unfold bindL;exact zr (i:=i) (Ui.mp c).2 (by simpa using b) (by simpa using a) d
theorem zo {kindOf:Str->Option Wg}{x:Str}{v:RV}:∀ {P:List Str}{vs:List RV}{i:Nat}{m:Str->Option RV},P.Nodup->P[i]?=Y x->vs[i]?=Y v->kindOf x ≠ Y .local ->
  bindC kindOf (P.zip vs) m x=Y v
 |[],_,_,_,_,h,_,_=>by simp at h
 |_::_,[],_,_,_,_,h,_=>by simp at h
 |p::P,w::vs,0,m,c,b,a,d=>by
  simp at b a;subst b;subst a;show bindC kindOf ((p,w)::P.zip vs) m p=_;unfold bindC;rw[zk λv e=>(Ui.mp c).1 (Vw e).1,Sx d];simp
 |p::P,w::vs,i+1,m,c,b,a,d=>by
  show bindC kindOf ((p,w)::P.zip vs) m x=_;unfold bindC;exact zo (i:=i) (Ui.mp c).2 (by simpa using b) (by simpa using a) d
def lj (N:List Str)(vs:List V):St:=vs.map Y++Sl (N.length-vs.length) none
def wM (CX:qr)(P:SA)(w:Te)(K:KE)(mg:Str->Option RV)(base:Uc)(N:List Str)(c:Str)(a:Xy)(f:Sd)(cd:RV)(A:Tf)(b:List Env)(s:RZ)(H:Hp)(E:XK):Cx where
 prog:=P
 w:=w
 K:=K
 mg:=mg
 base:=base
 A:=A.deeper (YW c a s.heap.objs.size f cd)
 N:=N
 s₀:=s
 H₀:=H
 env:=YW c a s.heap.objs.size f cd
 outer:=b
 stack:=YW c a s.heap.objs.size f cd::b
 ex:=[]
 calm:=true
 fn:=λ_=>true
 pn:=[]
 xe:=λe h=>Sb (SD P w) (A.deeper (YW c a s.heap.objs.size f cd)) (leaving (YW c a s.heap.objs.size f cd) e) (λ_ d=>CX b H s E e d) (λg d=>CX b H s E g d) h
theorem C5 {a:Xy}{n:Nat}{x:Str}(h:a.names.lookup x=Y .cell):∃ c,(W3 n a.names []).lookup x=Y c:=by
 have q:=VS a.names n [] (.inl h);exact UT.mp q
theorem Go {CX:qr}{P:SA}{w:Te}{K:KE}{mg:Str->Option RV}{base:Uc}{N t:List Str}{j:Str}{d:Xy}{f:Sd}{cd:RV}{A:Tf}{g:List Env}{s s1:RZ}{H:Hp}{E:XK}{us:List RV}{vs:List V}
  (S:ao N t d)(M:A.handled=none)(m:Ec P w K mg base A g s H)(hl:vs.length=t.length)(r:aU vs us)
  (x:InCallC s s.heap.objs.size (bindL (YW j d s.heap.objs.size f cd).kindOf (t.zip us) λ_=>none) (W3 (s.heap.objs.size+1) d.names []) (bindC (YW j d s.heap.objs.size f cd).kindOf (t.zip us) λ_=>none) s1):
  aK (wM CX P w K mg base N j d f cd A g s H E) [] (lj N vs) H s1:=by
 have Q:t.length<=N.length:=by have:=VZ aag S.pre;rw[SX] at this;lia
 obtain⟨F,tk,rfl,J⟩:=x.done;have o:∀ b:Sd,b∉(wM CX P w K mg base N j d f cd A g s H E).ex:=λb z=>absurd (show b∈([]:List Sd) from z) zyB
 refine⟨⟨m.mod,S.kind,O,O,R0 _,λy z c F l=>?_,λy B=>?_,λy c _ h=>?_,λ_=>M,Around.frames_deeper m.frames,.inr ⟨O,O⟩,λb z=>absurd z (o b),m.bs,m.bsz,λb _ _=>o b,λb z=>absurd z (o b),m.funs,m.frf⟩,
  O,m.bare,Un.kept J,⟨_,x.toInCall.ns,λi y v F l h3=>?_⟩,λy c h=>⟨_,x.cell y c h⟩,m.hok.fresh (R0 _),λy c h=>?_,λp D=>absurd (show p∈([]:List (Sd×Obj)) from D) zyB,m.hok.kept J,?_⟩
 ·exact name_of_addr x.apart (UJ F) (UJ l)
 ·have B:d.names.lookup y=Y .cell\/d.names.lookup y=Y .free:=B;rcases B with B|B
  ·exact C5 B
  ·exact absurd rfl (S.nofree _ (UJ B))
 ·exact TH (x.above y c (UJ h))
 ·have G:i<vs.length:=by
   unfold lj at l
   by_cases G:i<vs.length
   ·exact G
   ·rw[UE (by simpa using G)] at l;rw[WY] at l
    split at l<;>cases l
  have L:vs[i]?=Y v:=by
   unfold lj at l;rw[UM (by simpa using G),Sc] at l;cases e:vs[i]? with
   |none=>rw[e] at l;cases l
   |some a=>rw[e] at l;cases l;rfl
  obtain⟨u,I,T⟩:=r.get L;have D:t[i]?=Y y:=by
   rw[<- S.pre,List.getElem?_take_of_lt zyA];exact F
  have C:t.Nodup:=by rw[<- S.pre];exact S.nd.sublist (YO _ _)
  refine⟨u,T,?_⟩;rcases S.par y (Se D) with k|k
  ·exact .inl ⟨k,zr C D I k⟩
  ·obtain⟨c,e⟩:=C5 (n:=s.heap.objs.size+1) k;refine .inr ⟨.inl k,c,e,?_⟩;have q:=x.cell y c e;rw[zo C D I (by show d.names.lookup y≠_;rw[k];decide)] at q;exact q
 ·exact m.hok.fresh (TH (x.above y c (UJ h)))
 ·unfold lj;show _=N.length;rw[SB,R5,Zw];lia
theorem zc {CX:qr}{P:SA}{w:Te}{K:KE}{mg:Str->Option RV}{base:Uc}{k:Nat}{f:Sd}{name d:Str}{h:Arguments}{body:List T6}{a:Xy}{dV kV B pm g ct oc:RV}{an od:Option Sd}
  {L:Array (Option RV)}{N C:List Str}{sp:Sp}(lk:K.lookup f=Y ⟨oc,od,.func (Sn name d h body a dV kV B pm an g ct),L⟩)(F:SF K g d=true)(S:ao N C a)
  (len:∀ vs H Q E,sp vs H Q E->vs.length=C.length)
  (bb:∀ (A:Tf) (c:List Env) (s:RZ) (H:Hp) (vs:List V) (Q:VK) (E:XK),Room k (A.deeper (YW d a s.heap.objs.size f g))->sp vs H Q E ->
   ∃ t,Ht (wM CX P w K mg base N d a f g A c s H E) body t/\t { nx:=λ_ H'=>Q .non H',rt:=Q } (lj N vs) H) :
  jm P w K mg base CX (k+1) f (Sn name d h body a dV kV B pm an g ct) C sp:=by
 refine⟨len,λA c s H args us vs Q E D z hb r p=>?_⟩;have hl:=len _ _ _ _ p;have KX:K.In s.heap:=z.mod.kin.keeps λb o e=>(z.bs b o e).1
 have M:s.heap.NoLimit:=z.mod.nolimit.keeps λb o e=>(z.bs b o e).1
 have j:∀ y∈C.zip us,a.names.lookup y.1=Y .local\/(a.names.lookup y.1=Y .cell/\((W3 (s.heap.objs.size+1) a.names []).lookup y.1).isSome=true):=λ⟨n,v⟩ hy=>by
  rcases S.par n (Vw hy).1 with q|q
  ·exact .inl q
  ·exact .inr ⟨q,VS _ _ _ (.inl q)⟩
 refine codeAny_call_function D.depth (KX _ _ lk) O S.co S.gen rfl (PySem.W.codeRec_of KX F) (hb _ _ _ _ ?_);refine wpAny_newFunctionEnv_cells S.kind j λenv he s1 x=>?_
 subst he;refine⟨M.keeps x.toInCall.keep,codeAny_func ?_⟩;obtain⟨t,ht,hq⟩:=bb A c s H vs Q E (D.deeper _) p;have I:aK (wM CX P w K mg base N d a f g A c s H E) [] (lj N vs) H s1:=Go S D.hd z hl r x;refine TU (ht [] s1 (lj N vs) H _ I hq) (λfl T l=>?_) λe T l=>l
 have m:∀ {i:St}{H':Hp}{v:V}{u:RV},aK (wM CX P w K mg base N d a f g A c s H E) [] i H' T->bJ v u->Q v H'->CE c P w H s Q u T:=
  λ{i H' v u} J G q=>⟨v,H',J.os,J.bare,J.base,J.hok,G,q⟩
 cases fl with
 |ret u=>
  obtain⟨v,i,H',J,G,q⟩:=l;exact m J G q
 |next=>
  obtain⟨i,H',J,q⟩:=l;exact m (v:=V.non) (u:=Tv) J rfl q
 |brk=>
  obtain⟨_,_,_,q⟩:=l;exact UG q
 |cont=>
  obtain⟨_,_,_,q⟩:=l;exact UG q
section
variable {X:Cx}{x:Str}{p pos:Pos}{e:U2}{es:List U2}{t:TA}{id T:String}{r:List V->Hp->VK->Prop}
def Rm (r:List V->Hp->VK->Prop)(t:TA):TE:=λb H Q=>t b H λvs a=>r vs a Q
theorem ay (v:dP X (.builtin id) r) (y:Gl X x) (l:X.mg x=none) (o:Tq x=Y (.builtin id)) (b:WA X (e :: es) t) (i:x ≠ "__name__":=by decide) (c:(x == ("__debug__":Str))=false:=by decide)
  (he:Ss (e::es) X.env=(false,V1 e X.env)::Ss es X.env:=by rfl)(f:(VY pos (Ss es X.env)).any (·.1)=false:=by rfl):WE X (.Call (.Name x p) (e::es) [] pos) (Rm r t):=by
 have b:=b.go;refine⟨?_⟩;intro a s g H Q I h;refine TV (iG I y l o ?_ i c);refine Xv (cu (b pos a s g H _ I h) λj u d=>?_) he f;obtain⟨vs,k,q,m,n⟩:=d;exact v a u g k vs j Q q m n
theorem bQ (v:dP X (.type T) r) (y:Gl X x) (l:X.mg x=none) (o:Tq x=Y (.type T)) (b:WA X (e :: es) t) (i:x ≠ "__name__":=by decide) (c:(x == ("__debug__":Str))=false:=by decide)
  (he:Ss (e::es) X.env=(false,V1 e X.env)::Ss es X.env:=by rfl)(f:(VY pos (Ss es X.env)).any (·.1)=false:=by rfl):WE X (.Call (.Name x p) (e::es) [] pos) (Rm r t):=by
 have b:=b.go;refine⟨?_⟩;intro a s g H Q I h;refine TV (iG I y l o ?_ i c);refine Ts (cu (b pos a s g H _ I h) λj u d=>?_) he f;obtain⟨vs,k,q,m,n⟩:=d;exact v a u g k vs j Q q m n
end
end L2
namespace HT
open PySem PyProof.Rows
section
variable {prog:SA}{w:Te}{A:Tf}{E:RV->RZ->Prop}{s:RZ}
def sIx (n d:Nat):Option Int->Nat
 |none=>d
 |some v=>if v<0 then(v+(n:Int)).toNat else min v.toNat n
theorem sIx_none (n d:Nat):sIx n d none=d:=O
theorem sIx_nat (n d k:Nat):sIx n d (Y (k:Int))=min k n:=by
 show(if(k:Int)<0 then((k:Int)+(n:Int)).toNat else min (k:Int).toNat n)=min k n;rw[Sx zyA,SQ]
end
end HT
namespace L2
open PySem PySem.Spec PyProof.Rows
abbrev TO:=St->Hp->(Option Int->Hp->Prop)->Prop
def PO (X:Cx)(e:Option U2)(t:TO):Prop:=
 ∀ (a:List (Sd×Obj)) (s:RZ) (b:St) (H:Hp) (Q:Option Int->Hp->Prop),aK X a b H s->t b H Q ->
  Sb (SD X.prog X.w) X.A (evalPart e X.env) (λu d=>∃ o c,aK X a b c d/\IsPart u o/\Q o c) X.xe s
structure WO (X:Cx)(e:Option U2)(t:TO):Prop where
 go:PO X e t
def Kk:TO:=λ_ H Q=>Q none H
def OJ (t:TE):TO:=λb H Q=>t b H λx a=>∃ i,x=.int i/\Q (Y i) a
theorem xJ:∀ {us:List RV},aU (ns.map V.int) us->Vu us ns:=by
 induction ns with
 |nil=>intro us r;rw[VD] at r;cases r;exact .nil
 |cons n ns c=>
  intro us r;rw[Sy] at r;cases r with
  |cons b a=>
   obtain⟨t,e⟩:=b;subst e;exact .cons n t (c a)
section
variable {X:Cx}{e:U2}{te:TE}{lo hi:Option U2}{tl th:TO}{pos p2:Pos}
theorem v7:WO X none Kk:=by
 refine⟨?_⟩;intro a s b H Q I h;rw[evalPart_none];exact RT ⟨none,H,I,.none,h⟩
theorem wQ (h:WE X e te):WO X (Y e) (OJ te):=by
 have h:=h.go;refine⟨?_⟩;intro a s g H Q I hw;rw[evalPart_some];refine cu (h a s g H _ I hw) λu k b=>?_;obtain⟨x,c,j,d,f⟩:=b
 obtain⟨i,rfl,q⟩:=f;obtain⟨t,rfl⟩:=d;exact⟨Y i,c,j,.int i t,q⟩
def Rc (X:Cx)(r:V->Option Int->Option Int->Hp->VK->Prop):Prop:=
 ∀ (a:List (Sd×Obj)) (s:RZ) (b:St) (H:Hp) (x:V) (v c d:RV) (lo hi:Option Int) (e:Sd) (Q:VK),aK X a b H s->bJ x v->s.heap.IsSliceOf e c d .none->IsPart c lo->IsPart d hi->r x lo hi H Q ->
  ∃ T id,ZR (.type T) "__getitem__"=pure (Y (.builtin id))/\s.TypeIs v T/\Sb (SD X.prog X.w) X.A (abl v (.ref e)) (EP X a b Q) X.xe s
def Rv (r:V->Option Int->Option Int->Hp->VK->Prop)(te:TE)(tl th:TO):TE:=λa H Q=>te a H λx b=>tl a b λl c=>th a c λu d=>r x l u d Q
theorem tu (z:Rc X r)(he:WE X e te)(i:WO X lo tl)(n:WO X hi th):WE X (.Subscript e (.Slice lo hi none p2) pos) (Rv r te tl th):=by
 have he:=he.go;have i:=i.go;have n:=n.go;refine⟨?_⟩;intro a s d H Q I h;refine aaT (cu (he a s d H _ I h) λv M m=>?_);obtain⟨x,C,L,G,J⟩:=m;refine wpAny_Slice (cu (i a M d C _ L J) λf s2 j=>?_);obtain⟨l,t,N,B,q2⟩:=j;refine cu (n a s2 d t _ N q2) λg c k=>?_;obtain⟨u,o,F,pu,E⟩:=k;rw[evalPart_none];refine RT ?_;have y:aK X a d o { c with heap:=c.heap.push { cls:=.type "slice",data:=.fields #[f,g,.none] } }:=F.kept (t':=c.toks) λb ob q=>RS _ q
 obtain⟨T,id,D,p,hg⟩:=z a { c with heap:=c.heap.push { cls:=.type "slice",data:=.fields #[f,g,.none] } } d o x v f g l u c.heap.objs.size Q y G (Heap.IsSliceOf.new ..) B pu E;show Sb (SD X.prog X.w) X.A (aaC e (.Slice lo hi none p2) v (.ref c.heap.objs.size)) (EP X a d Q) X.xe { c with heap:=c.heap.push { cls:=.type "slice",data:=.fields #[f,g,.none] } };exact tail_any (ops:=[.ref c.heap.objs.size,v]) p D hg (by with_unfolding_all rfl)
def C7 (xs:List V)(lo hi:Option Int):List V:=(xs.drop (HT.sIx xs.length 0 lo)).take (HT.sIx xs.length xs.length hi-HT.sIx xs.length 0 lo)
theorem CL (xs:List V)(lo hi:Option Int):(C7 xs lo hi).length<=xs.length:=by
 unfold C7;rw[SX,XE];lia
end
def G4 (n:Nat)(i:Int):Option Nat:=if 0<=i then(if i<n then Y i.toNat else none) else if -(n:Int)<=i then Y (i+n).toNat else none
def Es {α:Type}(xs:List α)(i:Int):Option α:=(G4 xs.length i).bind λj=>xs[j]?
theorem Fb {i:Int}(h:G4 n i=Y j):seqIndex? i n=Y j/\j<n/\-(n:Int)<=i/\i<n:=by
 unfold G4 at h
 by_cases b:0<=i
 ·rw[SO b] at h
  by_cases a:i<n
  ·rw[SO a] at h;have e:i.toNat=j:=RU h;exact⟨by rw[seqIndex_of b a,e],zyA,zyA,a⟩
  ·rw[Sx a] at h;cases h
 ·rw[Sx b] at h
  by_cases a:-(n:Int)<=i
  ·rw[SO a] at h;have e:(i+n).toNat=j:=RU h;exact⟨by rw[seqIndex_neg zyA a,e],zyA,a,zyA⟩
  ·rw[Sx a] at h;cases h
theorem Ai {i:Int}(h:Es xs i=Y v):∃ j,seqIndex? i xs.length=Y j/\xs[j]?=Y v/\j<xs.length/\-(xs.length:Int)<=i/\i<xs.length:=by
 unfold Es at h;cases e:G4 xs.length i with
 |none=>rw[e] at h;cases h
 |some j=>
  rw[e] at h;obtain⟨b,d,c,a⟩:=Fb e;exact⟨j,b,h,d,c,a⟩
theorem qV {j:Nat}(h:xs[j]?=Y v):Es xs (j:Int)=Y v:=by
 have a:j<xs.length:=(R9.mp h).1;have e:G4 xs.length (j:Int)=Y j:=by
  unfold G4;rw[SO zyA,SO zyA];simp
 unfold Es;rw[e];exact h
theorem u8 (xs:List α)(v:α):Es (xs++[v]) (-1)=Y v:=by
 have a:(xs++[v]).length=xs.length+1:=zyB
 have e:G4 (xs++[v]).length (-1)=Y xs.length:=by
  unfold G4;rw[a,Sx Z,SO zyA]
  congr 1
  lia
 unfold Es;rw[e];show(xs++[v])[xs.length]?=Y v;simp
def E5 (b:U2):Prop:=∀ o i,subscripted b false o i=operate [o,i] (abl o i)
def HH (X:Cx)(r:R2):Prop:=
 ∀ (c a:U2) (b:List (Sd×Obj)) (s:RZ) (d:St) (H:Hp) (x y:V) (v u:RV) (Q:VK),aK X b d H s->bJ x v->bJ y u->r x y H Q ->
  subscripted a false v u=operate [v,u] (abl v u)->Sb (SD X.prog X.w) X.A (aaC c a v u) (EP X b d Q) X.xe s
def Rq (X:Cx)(id:String)(r:V->List V->Hp->VK->Prop):Prop:=
 ∀ (a:List (Sd×Obj)) (s:RZ) (d:St) (H:Hp) (x:V) (c:List V) (v:RV) (b:List RV) (Q:VK),aK X a d H s->bJ x v->aU c b->r x c H Q ->
  Sb (SD X.prog X.w) X.A (call (.builtin id) (v::b)) (EP X a d Q) X.xe s
section
variable {X:Cx}{a b:U2}{ta tb:TE}{pos:Pos}
theorem HH.or (h:HH X r)(h':HH X r'):HH X (λx y H Q=>r x y H Q\/r' x y H Q):=by
 intro a b c s d H x y v u Q I e g q f;rcases q with q|q
 ·exact h a b c s d H x y v u Q I e g q f
 ·exact h' a b c s d H x y v u Q I e g q f
theorem DO (g:HH X r)(d:WE X a ta)(e:WE X b tb)(l:E5 b):WE X (.Subscript a b pos) (P0 r ta tb):=by
 have d:=d.go;have e:=e.go;refine⟨?_⟩;intro c s j H Q I h;exact aaT (NF d e I h λv u s2 x y f k i m q=>g a b c s2 j f x y v u Q k i m q (l _ _))
inductive Pe (K:KE)(x y:V)(H:Hp)(Q:VK):Prop
 |mk (p:Sd) (xs:List V) (i:Int) (v:V) (_:x=.ref p) (_:y=.int i) (_:bI K H p xs) (_:Es xs i=Y v) (_:Q v H)
inductive Pr (K:KE)(x y:V)(H:Hp)(Q:VK):Prop
 |mk (p:Sd) (xs:List V) (i:Int) (v:V) (_:x=.ref p) (_:y=.int i) (_:eM K H p xs) (_:Es xs i=Y v) (_:Q v H)
def OV:R2:=λx y H Q=>∃ z i c,x=.str z/\y=.int i/\z.length<=Sk/\Es z.cps.toList i=Y c/\Q (.str ⟨#[c]⟩) H
theorem Kl:HH X (Pe X.K):=by
 intro l g a s o H x y v u Q I E L h A;obtain⟨p,xs,i,z,rfl,rfl,hq,C,q⟩:=h;cases E;obtain⟨t,rfl⟩:=L;obtain⟨k,r,d,T⟩:=I.list hq;obtain⟨j,c,J,N,D,F⟩:=Ai C;obtain⟨w,m,f⟩:=r.get J;have B:=r.length;have M:=rW;have b:EP X a o Q w s:=⟨z,H,I,f,q⟩
 by_cases n:0<=i
 ·have e:i.toNat=j:=by
   rw[seqIndex_of n F] at c;exact RU c
  exact item_listR d.isList n zyA (by rw[e];simpa using m) b A
 ·have e:(i+(k.toArray.size:Int)).toNat=j:=by
   rw[seqIndex_neg zyA D] at c;rw[Su,<- B];exact RU c
  exact Zo (x:=w) d.isList.typeIs slot_list_getitem.lookup
   (wpAny_getItem_list_neg (Q:=λr G=>r=w/\EP X a o Q r G) d.isList zyA (by rw[Su]<;>lia) zyA (by rw[e];simpa using m) ⟨O,b⟩) A
theorem ML:HH X (Pr X.K):=by
 intro e d a s g H x y v u Q I n E h C;obtain⟨p,N,i,z,rfl,rfl,hq,l,q⟩:=h;cases n;obtain⟨t,rfl⟩:=E;obtain⟨A,r,f,L⟩:=I.tuple hq;obtain⟨j,o,D,G,J,M⟩:=Ai l;obtain⟨w,m,c⟩:=r.get D;have k:=r.length;have F:=rW;have b:EP X a g Q w s:=⟨z,H,I,c,q⟩
 exact Zo (x:=w) f.typeIs slot_tuple_getitem.lookup
  (getItem_tuple (j:=j) (Q:=λr B=>r=w/\EP X a g Q r B) f zyA zyA (by rw[Su,<- k];exact o) (by simpa using m) ⟨O,b⟩) C
theorem Ni:HH X OV:=by
 intro b a d s F H x y v u Q I n A h p;obtain⟨z,i,c,rfl,rfl,E,l,q⟩:=h;obtain⟨t,rfl⟩:=n;obtain⟨D,rfl⟩:=A;obtain⟨j,e,r,C,m,o⟩:=Ai l;have f:z.cps.toList.length=z.length:=by simp[Str.length]
 rw[f] at e m o;have B:=rW;exact tail_any (typeIs_str s z t) slot_str_getitem.lookup (getItem_str (c:=c) (by
  have k:decide (i < -(2^63:Int))=false:=Td zyA;have g:decide (i>=2^63)=false:=Td zyA;rw[k,g,aaj]) (by rw[e];simpa using r) ⟨.str ⟨#[c]⟩,H,I.tok _,⟨_,O⟩,q⟩) p
def Ku (K:KE):R2:=λx y H Q=>Pe K x y H Q\/Pr K x y H Q\/OV x y H Q
theorem MK:HH X (Ku X.K):=Kl.or (ML.or Ni)
theorem DI (a:List RV)(n j:Nat)(u:RV):T1 (·.setIfInBounds j u) { cls:=.type "list",data:=.seq a.toArray n }={ cls:=.type "list",data:=.seq (a.set j u).toArray n }:=by
 simp[T1]
theorem aK.lst {b:List (Sd × Obj)}{c:St}{H:Hp}{s:RZ}{p:Sd}{xs:List V} (I:aK X b c H s) (h:H p=Y (.lst xs)) :
  ∃ (a:List RV) (n:Nat),aU xs a/\s.heap.get? p=Y { cls:=.type "list",data:=.seq a.toArray n }/\xs.length<=Sk:=by
 obtain⟨z,a,n,r,e⟩:=I.hok p _ h;exact⟨a,n,r,e,z⟩
theorem aK.lstUpd {a:List (Sd × Obj)}{g:St}{H:Hp}{s:RZ}{p:Sd}{xs ys:List V}{c its':List RV}{n d:Nat}{f:Obj->Obj} (I:aK X a g H s) (h:H p=Y (.lst xs))
  (k:s.heap.get? p=Y { cls:=.type "list",data:=.seq c.toArray n })(i:f { cls:=.type "list",data:=.seq c.toArray n }={ cls:=.type "list",data:=.seq its'.toArray d })(r:aU ys its')(hz:ys.length<=Sk)(t:Nat):
  aK X a g (upd H p (.lst ys)) { s with heap:=s.heap.update p f,toks:=t }:=by
 have e:(s.heap.update p f).get? p=Y { cls:=.type "list",data:=.seq its'.toArray d }:=by
  rw[SK f k (by rw[i]<;>rfl),i]
 refine I.write (x:=p) (e:=p) (by rw[h];trivial) (.inl rfl) (λb u j q=>(Ud _ _ (U9 j)).trans q) ⟨_,e⟩ ?_;exact⟨hz,its',d,r,e⟩
def OM:V->V->V->Hp->(Hp->Prop)->Prop:=λo i v H Q=>∃ p a k j,o=.ref p/\i=.int k/\H p=Y (.lst a)/\G4 a.length k=Y j/\Q (upd H p (.lst (a.set j v)))
theorem CU:Pz X OM:=by
 intro a s C H o i v ov J u Q I z F D h;obtain⟨p,E,k,j,rfl,rfl,y,A,q⟩:=h;cases z;obtain⟨t,rfl⟩:=F;obtain⟨b,n,r,f,B⟩:=I.lst y;obtain⟨c,L,g,l⟩:=Fb A;have d:=r.length;have G:=rW;have x:aK X a C (upd H p (.lst (E.set j v))) { s with heap:=s.heap.update p (T1 (·.setIfInBounds j u)) }:=
  I.lstUpd y f (DI b n j u) (r.set D j) (by rw[Zx];exact B) s.toks
 by_cases m:0<=k
 ·have e:k.toNat=j:=by
   rw[seqIndex_of m l] at c;exact RU c
  exact PySem.W.ki_setAt f m zyA (by rw[Su,<- d];exact l) (by rw[e];exact⟨_,x,q⟩)
 ·have e:(k+(b.toArray.size:Int)).toNat=j:=by
   rw[seqIndex_neg zyA g] at c;rw[Su,<- d];exact RU c
  exact PySem.W.ki_setBack f zyA (by rw[Su,<- d];exact g) zyA (by rw[e];exact⟨_,x,q⟩)
theorem AZ (lo hi:Option Int)(n:Nat):(Xm lo hi none n).1=((HT.sIx n 0 lo:Nat):Int)/\(Xm lo hi none n).2.1=((HT.sIx n n hi:Nat):Int)/\(Xm lo hi none n).2.2=1:=by
 refine⟨?_,?_,O⟩
 ·cases lo with
  |none=>simp[Xm,HT.sIx]
  |some i=>
   simp only[Xm,HT.sIx,aba,show(1:Int)>0 by decide,VF]
   by_cases h:i<0
   ·simp only[h,VF]<;>lia
   ·simp only[h,UX]<;>lia
 ·cases hi with
  |none=>simp[Xm,HT.sIx]
  |some i=>
   simp only[Xm,HT.sIx,aba,show(1:Int)>0 by decide,VF]
   by_cases h:i<0
   ·simp only[h,VF]<;>lia
   ·simp only[h,UX]<;>lia
theorem yS (a:List RV)(lo hi:Option Int):slicePick a.toArray lo hi none=((a.drop (HT.sIx a.length 0 lo)).take (HT.sIx a.length a.length hi-HT.sIx a.length 0 lo)).toArray:=by
 obtain⟨b,d,c⟩:=AZ lo hi a.toArray.size;unfold slicePick;rw[b,d,c];simp only[sliceRange_one,pick_run,Su]<;>rfl
def OZ (K:KE):V->Option Int->Option Int->Hp->VK->Prop:=λx lo c H Q=>∃ a b,x=.ref a/\bI K H a b/\∀ p,H p=none->Q (.ref p) (upd H p (.lst (C7 b lo c)))
theorem KJ:Rc X (OZ X.K):=by
 intro f s z H x v t y lo e A Q I k n j p h;obtain⟨a,c,rfl,i,q⟩:=h;cases k;obtain⟨m,r,g,l⟩:=I.list i;have d:=r.length;refine⟨"list",_,slot_list_getitem.lookup,g.isList.typeIs,?_⟩;refine wpAny_getItem_list_slice g.isList n j p .none zyB ?_ (by rw[Su]<;>lia);rw[yS,<- d];refine⟨.ref s.heap.objs.size,_,I.laid (t':=s.toks) (o:=.lst (C7 c lo e)) (λb u q=>RS _ q) (R0 _) ?_,O,q _ (I.hok.fresh (R0 _))⟩;exact⟨Sv (CL c lo e) l,_,0,(r.drop (HT.sIx c.length 0 lo)).take (HT.sIx c.length c.length e-HT.sIx c.length 0 lo),RW _ O⟩
theorem Bc:dP X (.builtin "len") (λxs H Q=>∃ p ys,xs=[.ref p]/\(bI X.K H p ys\/eM X.K H p ys)/\Q (.int ys.length) H):=by
 intro e s k H xs j Q I r h;obtain⟨p,ys,rfl,hq,q⟩:=h;obtain⟨u,rfl,f⟩:=mh r;cases f;have i:=rW;rcases hq with hq|hq
 ·obtain⟨d,b,c,g⟩:=I.list hq;have a:=b.length;exact Calls.call_len_list c.isList (by simp only[Su]<;>lia) ⟨.int ys.length,H,I.tok _,⟨s.toks+1,by rw[Su,a]⟩,q⟩
 ·obtain⟨d,b,c,g⟩:=I.tuple hq;have a:=b.length;exact len_tuple c (by simp only[Su]<;>lia) ⟨.int ys.length,H,I.tok _,⟨s.toks+1,by rw[Su,a]⟩,q⟩
theorem AE:dP X (.type "list") (λxs H Q=>∃ p ys,xs=[.ref p]/\(bI X.K H p ys\/eM X.K H p ys)/\∀ l,H l=none->Q (.ref l) (upd H l (.lst ys))):=by
 intro i s B H xs C Q I r h;obtain ⟨p,ys,rfl,hq,q⟩:=h;obtain ⟨u,rfl,A⟩:=mh r;cases A;have g:∀ (a:List RV),aU ys a->ys.length <= Sk->∀ (c:Uc) (d:Nat),(∀ b z,s.heap.get? b=Y z->c.get? b=Y z) ->
   c.get? s.heap.objs.size=Y { cls:=.type "list",dict:=none,data:=.seq a.toArray d,slots:=#[] }->EP X i B Q (.ref s.heap.objs.size) { s with heap:=c }:=λa f j c d m e=>
  ⟨.ref s.heap.objs.size,_,I.laid (t':=s.toks) m (R0 _) (show cq X.prog X.w _ c _ (.lst ys) from⟨j,a,d,f,e⟩),O,q _ (I.hok.fresh (R0 _))⟩
 rcases hq with hq|hq
 ·obtain⟨a,f,t,j⟩:=I.list hq;have k:=f.length;obtain⟨o,y,x,n,v⟩:=t.isList;exact call_list_seq p (.inl rfl) y x v (λc d m e=>g a f j c d m e) (by simp only[Su]<;>lia)
 ·obtain⟨a,f,t,j⟩:=I.tuple hq;have k:=f.length;obtain⟨o,y,x,n,v⟩:=t;exact call_list_seq p (.inr rfl) y x v (λc d m e=>g a f j c d m e) (by simp only[Su]<;>lia)
theorem yl:dP X (.type "tuple") (λxs H Q=>∃ p ys,xs=[.ref p]/\((bI X.K H p ys/\∀ l,H l=none->Q (.ref l) (upd H l (.tup ys)))\/(eM X.K H p ys/\Q (.ref p) H))):=by
 intro a s j H xs x Q I r h;obtain⟨p,ys,rfl,h⟩:=h;obtain⟨u,rfl,n⟩:=mh r;cases n;rcases h with ⟨hq,q⟩|⟨hq,q⟩
 ·obtain⟨c,f,g,i⟩:=I.list hq;have m:=f.length;refine call_tuple_list g.isList (λd v=>?_) (by simp only[Su]<;>lia);have k:aK X a j H { s with heap:=d }:=I.kept (t':=s.toks) v;have t:aK X a j (upd H d.objs.size (.tup ys)) { s with heap:=d.push { cls:=.type "tuple",data:=.seq c.toArray } }:=
   k.laid (t':=s.toks) (λb o e=>RS _ e) (R0 _) (show cq X.prog X.w _ _ _ (.tup ys) from⟨i,c,f,IsTup.new _ _⟩)
  exact⟨.ref d.objs.size,_,t,O,q _ (k.hok.fresh (R0 _))⟩
 ·obtain⟨c,f,g,i⟩:=I.tuple hq;exact call_tuple_same g ⟨.ref p,H,I,O,q⟩
def Rl (K:KE)(T:String)(x:V)(H:Hp):Prop:=match x with
 |.str _=>T="str"
 |.int _=>T="int"
 | .ref p=>(T="list"/\∃ b,bI K H p b)\/(T="tuple"/\∃ o,K.lookup p=Y o/\o.cls=.type "tuple"/\o.dict=none) \/
   (T="dict"/\((∃ a,H p=Y (.dK a))\/∃ a,H p=Y (.dT a)))\/(T="set"/\∃ S n,H p=Y (.set S n))
 |_=>False
theorem JI (I:aK X pins σ H s) (r:bJ x v) (ty:Rl X.K T x H) :
  s.TypeIs v T/\∀ a,v=.ref a->∃ ob,s.heap.get? a=Y ob/\ob.dict=none:=by
 cases x with
 |str z=>
  obtain⟨t,rfl⟩:=r;cases(show T="str" from ty);exact⟨typeIs_str s z t,λ_ e=>nomatch e⟩
 |int i=>
  obtain⟨t,rfl⟩:=r;cases(show T="int" from ty);exact⟨ZQ s i t,λ_ e=>nomatch e⟩
 |ref p=>
  cases r;rcases ty with ⟨rfl,l,hq⟩|⟨rfl,o,b,j,h⟩|⟨rfl,b⟩|⟨rfl,S,n,b⟩
  ·obtain⟨k,_,g,_⟩:=I.list hq;refine⟨g.isList.typeIs,λa e=>?_⟩;cases e;obtain⟨o,n,e,c,h,_⟩:=g;exact⟨o,e,h⟩
  ·refine⟨⟨o,I.kIn p o b,j⟩,λa e=>?_⟩;cases e;exact⟨o,I.kIn _ o b,h⟩
  ·have z:∃ o,s.heap.get? p=Y o/\o.ExactDict:=by
    rcases b with ⟨g,b⟩|⟨g,b⟩
    ·obtain⟨_,_,_,_,o,_,_,e,d,_⟩:=I.hok p _ b;exact⟨o,e,d⟩
    ·obtain⟨_,_,_,_,o,_,_,e,d,_⟩:=I.hok p _ b;exact⟨o,e,d⟩
   obtain⟨o,e,d⟩:=z;refine⟨⟨o,e,d.1⟩,λa f=>?_⟩;cases f;exact⟨o,e,d.2.1⟩
  ·obtain⟨o,_,_,_,e,d,_⟩:=I.hok p _ b;refine⟨⟨o,e,d.1⟩,λa f=>?_⟩;cases f;exact⟨o,e,d.2.1⟩
 |_=>exact UG ty
def RO (K:KE)(T:String)(r:V->List V->Hp->VK->Prop)(to:TE)(t:TA):TE:=λb H Q=>to b H λx a=>Rl K T x a/\t b a λc d=>r x c d Q
variable {o e:U2}{es:List U2}{to:TE}{t:TA}{name:Str}{apos cpos:Pos}{T id:String}{r:V->List V->Hp->VK->Prop}
theorem Di (F:PlainAttrs T) (f:Slot T name id) (j:typeOf (.builtin id)=pure (.type "method_descriptor")) (C:Rq X id r) (m:WE X o to) (g:WA X (e :: es) t)
  (b:XT o name X.env (V1 o X.env)=V1 o X.env:=by rfl)
  (d:((VY cpos (Ss (e::es) X.env)).all (λx=>!x.1)&&(UV cpos (TQ [] X.env)).all (λx=>x.1.isSome)
   &&decide ((e::es).length+([]:List XC).length+(if([]:List XC).isEmpty then 0 else 1)<30))=true:=by rfl)
  (c:(apos.endLine==cpos.line)=true:=by rfl)(L:Ss (e::es) X.env=(false,V1 e X.env)::Ss es X.env:=by rfl)(hplain:(VY cpos (Ss es X.env)).any (·.1)=false:=by rfl):
  WE X (.Call (.Attribute o name apos) (e::es) [] cpos) (RO X.K T r to t):=by
 have m:=m.go;have g:=g.go;refine⟨?_⟩;intro a s l H Q I h;refine wpAny_Call_method_late b d c rfl (cu (m a s l H _ I h) λv E k=>?_);obtain⟨x,A,q,p,ty,D⟩:=k;obtain⟨B,M⟩:=JI q p ty;refine⟨T,id,F,f,j,B,M,?_⟩;have n:=g cpos a E l A _ q D;rw[L] at n ⊢;refine W9 (by show(false||(VY cpos (Ss es X.env)).any (·.1))=false;rw[hplain]<;>rfl) (ZV ?_);refine cu n λz s2 i=>?_;obtain⟨vs,y,G,u,J⟩:=i;exact C a s2 l y x vs v z Q G p u J
end
def Rx (X:Cx)(id:String)(r:V->List V->Hp->VK->Prop):Prop:=
 ∀ (a:List (Sd×Obj)) (s:RZ) (d:St) (H:Hp) (x:V) (c:List V) (v:RV) (b:List RV) (Q:VK),aK X a d H s->bJ x v->aU c b->r x c H Q ->
  Sb (SD X.prog X.w) X.A (call (.builtin id) (v::b)) (EP X a d Q) X.xe s
theorem aU.one:∀ {x:V}{us:List RV},aU [x] us->∃ u,us=[u]/\bJ x u
 |_,_,h=>by cases h with|cons r q=>cases q;exact⟨_,O,r⟩
theorem aU.rep (h:aU xs us):∀ k:Nat,aU (Sl k xs).flatten (Sl k us).flatten
 |0=>.nil
 |k+1=>by
  rw[UI,UI,Wf,Wf];exact aU.append h (aU.rep h k)
theorem y4 (a:List RV):∀ (k:Nat) (acc:List RV),
  abt (λb d=>b++d) acc.toArray (Sl k a.toArray)=(acc++(Sl k a).flatten).toArray
 |0,acc=>zyB
 |k+1,acc=>by
  have e:acc.toArray++a.toArray=(acc++a).toArray:=zyB
  have c:(acc++a)++(Sl k a).flatten=acc++(Sl (k+1) a).flatten:=by
   rw[UI,Wf,U5]
  rw[<- c,<- y4 a k (acc++a),<- e,UI,Zu]
section
variable {X:Cx}{pins:List (Sd×Obj)}{σ:St}{H:Hp}{s:RZ}{l b:Sd}{xs ys zs:List V}
theorem aK.lset {a its':List RV}{n:Nat}{f:Array RV->Array RV}{t':Nat} (I:aK X pins σ H s) (b:H l=Y (.lst xs))
  (e:s.heap.get? l=Y { cls:=.type "list",data:=.seq a.toArray n })(h:f a.toArray=its'.toArray)(d:aU ys its')(hz:ys.length<=Sk):
  aK X pins σ (upd H l (.lst ys)) { s with heap:=s.heap.update l (T1 f),toks:=t' }:=by
 have q:=PySem.IsL.update e f;rw[h] at q;refine I.write (x:=l) (e:=l) (by rw[b];exact trivial) (.inl rfl) (λi u c g=>(Ud s.heap (T1 f) (U9 c)).trans g) ⟨_,q⟩ ?_;exact⟨hz,its',_,d,q⟩
theorem aK.lnew (I:aK X pins σ H s) (b:aU ys a) (hz:ys.length <= Sk) :
  aK X pins σ (upd H s.heap.objs.size (.lst ys)) { s with heap:=s.heap.push { cls:=.type "list",data:=.seq a.toArray },toks:=t' }:=
 I.laid (λ_ _ q=>RS _ q) (R0 _) ⟨hz,a,0,b,RW _ O⟩
theorem aK.fresh (I:aK X pins σ H s):H s.heap.objs.size=none:=I.hok.fresh (R0 _)
theorem aK.lstM (I:aK X pins σ H s)(b:H l=Y (.lst xs)):xs.length<=Sk/\∃ (a:List RV) (n:Nat),aU xs a/\xs.length=a.length/\s.heap.get? l=Y { cls:=.type "list",data:=.seq a.toArray n }:=by
 obtain⟨z,a,n,r,e⟩:=I.hok l _ b;exact⟨z,a,n,r,r.length,e⟩
theorem I9 (h:n<=Sk):WF n=false:=by
 unfold WF;exact Td zyA
end
section
variable {X:Cx}
def Ky:V->List V->Hp->VK->Prop:=λx vs H Q=>∃ l a y,x=.ref l/\vs=[y]/\H l=Y (.lst a)/\a.length<Sk/\Q .non (upd H l (.lst (a++[y])))
theorem rF:Rx X "list.append" Ky:=by
 intro c s m H x vs v j Q I d g h;obtain⟨l,o,y,rfl,rfl,b,k,q⟩:=h;cases d;obtain⟨u,rfl,f⟩:=g.one;obtain⟨z,a,n,r,i,e⟩:=I.lstM b;refine ZN VJ ⟨_,e,O⟩ F.entry_list_append (F.args_list_append_2 _ _) (PySem.list_append l a.toArray n u (by rw[Su];lia)) ⟨e,?_⟩;refine⟨.non,_,I.lset (its':=a++[u]) b e zyB (r.append (.cons f .nil)) ?_,O,q⟩;rw[SB,List.length_singleton];lia
def QC:R2:=λx y H Q=>∃ l b a c,x=.ref l/\y=.ref b/\H l=Y (.lst a)/\H b=Y (.lst c)/\a.length+c.length<=Sk/\∀ p,H p=none->Q (.ref p) (upd H p (.lst (a++c)))
theorem xE:pF X (XU .Add) QC:=by
 intro d s E H x y v u Q I k p h;obtain⟨l,b,F,C,rfl,rfl,i,m,D,q⟩:=h;cases k;cases p;obtain⟨z,c,n,r,t,e⟩:=I.lstM i;obtain⟨A,a,B,f,o,g⟩:=I.lstM m;refine PySem.P.add_list e g ?_ (by rw[Su,Su];lia);have j:c.toArray++a.toArray=(c++a).toArray:=zyB
 rw[j];exact⟨.ref _,_,I.lnew (t':=s.toks) (r.append f) (by rw[SB];lia),O,q _ I.fresh⟩
def Nb:R2:=λx y H Q=>∃ l k a,x=.ref l/\y=.int k/\H l=Y (.lst a)/\-(2^63)<=k/\k<2^63/\a.length*k.toNat<=Sk /\
 ∀ p,H p=none->Q (.ref p) (upd H p (.lst (Sl k.toNat a).flatten))
theorem KG (xs:List α)(k:Nat):(Sl k xs).flatten.length=k*xs.length:=by
 induction k with
 |zero=>simp
 |succ k a=>rw[UI,Wf,SB,a,Xu,VE]
theorem H_:pF X (XU .Mult) Nb:=by
 intro p s σ H x y v u Q I E M h;obtain⟨l,k,xs,rfl,rfl,C,G,L,A,q⟩:=h;cases E;obtain⟨t,rfl⟩:=M;obtain⟨z,b,n,r,B,e⟩:=I.lstM C;have i:b.toArray.size*k.toNat<=Sk:=by rw[Su,<- B];exact A
 have d:¬ b.toArray.size*k.toNat>(2^63-1)/8:=by
  have:(Sk:Nat)<=(2^63-1)/8:=Z
  lia
 have g:¬ (!Builtin.List.listFitsIndex k)=true:=by
  rw[fitsIndex_both G L];exact Tg
 have c:¬ WF (b.toArray.size*k.toNat)=true:=by
  rw[I9 i];exact Tg
 have f:abt (λo j=>o++j) #[] (Sl (if b.toArray.isEmpty=true then 0 else k.toNat) b.toArray)=(Sl k.toNat b).flatten.toArray:=by
  have D:∀ m:Nat,abt (λo j=>o++j) #[] (Sl m b.toArray)=(Sl m b).flatten.toArray:=λm=>by
   have:=y4 b m [];rw[List.nil_append] at this;exact this
  rw[D];cases b with
  |nil=>simp
  |cons a N=>rw[Sx zyB]
 refine YG (T:="list") (U:="int") Z ⟨_,e,O⟩ (λJ=>ZQ J k t) noFill_list_mul aal WQ repeat_list aae.lookup
  (ZN WQ (ZQ s k t) aad (ZW _ _) (int___rmul___int_list k t l b.toArray n)
   ⟨e,O,⟨_,e,O⟩,ZN F.slot_list_mul ⟨_,e,O⟩ F.entry_list_mul (F.args_list_mul_2 _ _) (AutoListH.list___mul___list_int_3 l b.toArray n k t g d c) ⟨e,?_⟩⟩)
 rw[f];exact⟨.ref _,_,I.lnew (t':=s.toks) (r.rep k.toNat) (by rw[KG,aa3];exact A),O,q _ I.fresh⟩
end
end L2
namespace Att
open PySem PySem.W PySem.Calls PyProof.Rows
theorem uc:∀ (ns:List Int) (vs:List RV),WellAll P h vs (ns.map WData.int)->Vu vs ns:=by
 intro ns
 induction ns with
 |nil=>
  intro vs w;rw[VD] at w;cases w;exact .nil
 |cons n ns c=>
  intro vs w;rw[Sy] at w;cases w with
  |cons a b=>
   cases a;exact .cons _ _ (c _ b)
theorem GQ {l:OpenLaw}{n:Nat} (s:l.most=Y n) {P:Params}{h:Uc}{b:List WData}{e:List RV}
  (c:l.row.toRowW.claim.pre b=true)(m:WellAll P h e b):
  ∃ a vs ns,e=[SC a]/\b=[WData.list (ns.map WData.int)]/\h.get? a=Y { cls:=.type "list",data:=.seq vs.toArray }/\Vu vs ns/\ns.length<=n:=by
 have k:WShape.hasAll [] b [.list .int]=true:=(pre_splitW c).1;have o:l.pre.holds [] { args:=b }=true:=(pre_splitW c).2;obtain⟨d,r,rfl,v,y⟩:=hasAllW_cons k;obtain rfl:=hasAllW_nil y;obtain⟨A,rfl,t⟩:=hasW_list v;obtain⟨ns,rfl⟩:=items_int t;have g:ns.length<=n:=by
  unfold OpenLaw.pre at o;have i:(WTm.not (.lt (.lit (.int (n:Int))) (.len (.arg 0)))).holds [] { args:=[.list (ns.map .int)] }=true:=by
   have i:=(holds_andW o).1;rw[s] at i;exact i
  have j:=condW_of i (w_not (w_lt w_lit (w_len_list (w_arg rfl))));rw[R5] at j;refine Nat.le_of_not_lt λq=>?_
  have u:(n:Int)<((ns.length:Nat):Int):=zyA
  first
   |(rw[R8 u] at j;exact absurd j Z)
   |(simp at j;lia)
 cases m with
 |cons p x=>
  cases x;cases p with
  |list z f=>exact⟨_,_,ns,O,O,z,uc ns _ f,g⟩
theorem FN (l:OpenLaw)(a:List WData):l.row.toRowW.claim.post a (.bool true) a=true:=
 postW_of (r:=l.row.toRowW) (X:=(true==true))
  (show WShape.has [] (.bool true) .bool=true by first|rfl|decide|simp[WShape.has,WShape.arms,WShape.armsAll])
  (show(WTm.eq .res (.lit (.bool true))).value [] { args:=a,res:=Y (.bool true),after:=a }=Y (.bool (true==true)) from w_eq_bool (w_res rfl) w_lit) O
theorem attach_call {l:OpenLaw}{n:Nat}{q:SA}{c:List Str}{z:(Str->Option RV)->Uc->Prop}{A:Te->Uc->Prop}{d:DefRec}
  (D:l.most=Y n)(t:d.params.defaults=[])
  (call:∀ (w:Te) (e b:RZ) (mg u:Str->Option RV) (fa:Sd) (o:Obj) (s cd g:RV) (a:Sd) (vs:List RV) (ns:List Int),
   Ground q c [] z w e mg u b.heap->A w b.heap ->
   b.heap.get? fa=Y o->o.data=.func (docDef d.name d.params d.body d.scope s cd g)->b.heap.CodeRec cd d.name->mg d.name=Y (.ref fa) ->
   b.heap.get? a=Y { cls:=.type "list",data:=.seq vs.toArray }->Vu vs ns->ns.length<=n->b.gens=#[] ->
   Vc (SD l.prog w) abk (.call (.ref fa) ⟨[.ref a],[]⟩) (λr m=>r=.ok (.ret (.bool true))/\OldK b.heap m.heap/\m.os=b.os/\Z_ m.gens) b) :
  WalkO q c z A l.row.toRowW d [] (λf vs=>abu f vs):=by
 intro w e b mg u G zzW fa o s cd g E kV T L p B hmg Q y C as i x M v H;obtain rfl:E=.none:=Dflts.none B t;obtain rfl:kV=.none:=Dflts.noKw B;obtain⟨a,vs,ns,rfl,rfl,j,h,k⟩:=GQ D i v;refine enter_call (Vg (call w e b mg u fa o s cd g a vs ns G zzW T (fd_plain L) p hmg j h k Q) λr m hq=>?_);obtain⟨rfl,I,F,J⟩:=hq;exact⟨.inl ⟨.bool true,.bool true,[],O,λ_=>rfl,.bool true,FN l _,λ_=>⟨YL,λ_ N=>(nomatch N)⟩⟩,I,F,J⟩
end Att
namespace L2
open PySem PySem.Spec PyProof.Rows
theorem lG:∀ {vs:List RV}{ns:List Int},Vu vs ns->aU (ns.map V.int) vs
 |_,_,.nil=>.nil
 |_,_,.cons n t h=>.cons ⟨t,O⟩ (lG h)
end L2
namespace L2
open PySem PySem.Spec PyProof.Rows
def df (s:T6)(j:Nat):T6:=match s with
 |.ClassDef _ _ _ body _ _ _ _ _ _ _=>body.getD j (.Pass ⟨0,0,0,0⟩)
 |_=>.Pass ⟨0,0,0,0⟩
def aO (s:T6):Arguments:=match s with
 |.FunctionDef _ a _ _ _ _ _ _ _ _=>a
 |_=>{ posonlyargs:=[],args:=[],vararg:=none,kwonlyargs:=[],kw_defaults:=[],kwarg:=none,defaults:=[] }
def aJ (s:T6):List T6:=match s with
 |.FunctionDef _ _ b _ _ _ _ _ _ _=>b
 |_=>[]
def af (s:T6):Xy:=match s with
 |.FunctionDef _ _ _ _ _ _ a _ _ _=>a
 |_=>{ kind:=.function,names:=[],isGenerator:=false,isCoroutine:=false }
abbrev yd:qr:=λ_ _ _ _ _ _=>False
abbrev E0:XK:=λ_ _ _=>False
structure Os (K:KE)(x qual:Str)(st:T6)(f:Sd)(fd:Uw):Prop where
 ex:∃ (oc:RV) (od:Option Sd) (kV doc pm:RV) (an:Option Sd) (cdv ct:RV) (osl:Array (Option RV)),
  fd=Sn x qual (aO st) (aJ st) (af st) .none kV doc pm an cdv ct/\K.lookup f=Y ⟨oc,od,.func fd,osl⟩/\SF K cdv qual=true
 kp:Sq K (.ref f)=true
section
variable {P:SA}{w:Te}{K:KE}{mg:Str->Option RV}{base:Uc}
theorem MB {x a:Str}{st:T6}{f:Sd}{j:RV}{m g:Option Sd}{e:Array (Option RV)}{kV d i b h:RV} (l:K.lookup f=Y ⟨j,m,.func (Sn x a (aO st) (aJ st) (af st) .none kV d i g b h),e⟩)
  (c:SF K b a=true)(k:Sq K (.ref f)=true):Os K x a st f (Sn x a (aO st) (aJ st) (af st) .none kV d i g b h):=⟨⟨j,m,kV,d,i,g,b,h,e,O,l,c⟩,k⟩
end
theorem bR (h:n<=1000):n<Sk:=Yo h Z
section
variable {X:Cx}
theorem pv (i:Nat) (b:X.N[i]?=Y x:=by rfl) (c:Oj X.env.scope x:=by first | exact aa5 rfl | exact Z6 (aa5 rfl) | exact Z6 (Z6 rfl)) (d:(x == ("__debug__":Str))=false:=by decide)
  (a:(x==("__classdict__":Str))=false:=by decide):PE X (.Name x pos) (rX i):=NQ b c d a
end
theorem bN {A B:Prop}(h:B):if false=true then A else B:=by
 rw[Sx Tg];exact h
theorem aY {A B:Prop}(h:A):if true=true then A else B:=by
 rw[SO rfl];exact h
theorem fm {c A B:Prop}[Decidable c](a:c->A)(b:¬ c->B):if c then A else B:=by
 by_cases h:c
 ·rw[SO h];exact a h
 ·rw[Sx h];exact b h
theorem OW {c A B:Prop}[Decidable c](a:c)(h:B):if(!decide c)=true then A else B:=by
 rw[R8 a];exact bN h
def ah (H H':Hp):Prop:=∀ b o,H b=Y o->H' b=Y o
theorem ah.refl (H:Hp):ah H H:=λ_ _ h=>h
theorem ah.trans (a:ah H H1)(b:ah H1 H2):ah H H2:=λc o h=>b c o (a c o h)
theorem ah.free (e:ah H H')(h:H' l=Option.none):H l=Option.none:=by
 cases q:H l with
 |none=>rfl
 |some o=>
  rw[e l o q] at h;cases h
theorem ah.seq {K:KE}(e:ah H H')(h:bI K H a xs):bI K H' a xs:=by
 rcases h with (h|⟨o,h⟩)|h
 ·exact .inl (.inl (e _ _ h))
 ·exact .inl (.inr ⟨o,e _ _ h⟩)
 ·exact .inr h
end L2
set_option Elab.async false
set_option linter.all false
set_option maxRecDepth 100000
set_option maxHeartbeats 4000000
namespace TR
def FO (t b n d:Int):Prop:=0<d/\Uh n d=1/\n*b=t*d
def Sm (k:Nat)(x:Int):Prop:=x.natAbs<2^k
theorem Cf {a b:Int}(c:0<=a)(d:0<b):Uh b (a%b)=Uh a b:=by
 obtain⟨x,rfl⟩:=WR c;obtain⟨y,rfl⟩:=WR (Yk d);show Nat.gcd y ((x:Int)%(y:Int)).natAbs=Nat.gcd x y;rw[show((x:Int)%(y:Int)).natAbs=x%y from rfl,Nat.gcd_comm,<- Nat.gcd_rec,Nat.gcd_comm]
theorem DU {k m n:Int}(h:k∣m*n)(c:Uh k m=1):k∣n:=by
 have a:k.natAbs∣m.natAbs*n.natAbs:=by rw[<- Yw];exact Zr.mpr h
 exact Zr.mp (Nat.Coprime.dvd_of_dvd_mul_left (show Nat.Coprime k.natAbs m.natAbs from c) a)
theorem Ei {t b g m:Int}(v:b≠0)(k:g=(Uh t b:Int))(q:m=if b<0 then -g else g):FO t b (t.fdiv m) (b.fdiv m):=by
 have i:0<g:=by
  rw[k];have:0<Uh t b:=VU _ v;lia
 have r:g∣t:=by rw[k];exact Int.gcd_dvd_left ..
 have z:g∣b:=by rw[k];exact Int.gcd_dvd_right ..
 obtain⟨x,c⟩:=r;obtain⟨y,a⟩:=z;have d:Uh x y=1:=by
  have u:Uh t b=Uh x y*g.natAbs:=by
   rw[c,a,Int.gcd_mul_left,aa3]
  have A:g.natAbs=Uh t b:=by rw[k];rfl
  have s:0<g.natAbs:=zyA
  rw[<- A] at u;exact Nat.eq_of_mul_eq_mul_right s zyA
 by_cases n:b<0
 ·have f:m=-g:=by rw[q,SO n]
  have j:y<0:=by
   rw[a] at n;rcases Int.lt_or_le y 0 with h|h
   ·exact h
   ·have:=U3 (Yk i) h;lia
  have o:t.fdiv m=-x:=by
   have e:t=m*(-x):=by rw[f,Int.neg_mul_neg];exact c
   rw[e];exact Vt _ zyA
  have l:b.fdiv m=-y:=by
   have e:b=m*(-y):=by rw[f,Int.neg_mul_neg];exact a
   rw[e];exact Vt _ zyA
  rw[o,l];refine⟨zyA,by rw[Int.gcd_neg,Int.neg_gcd];exact d,?_⟩;rw[Int.neg_mul,abf,c,a,YK,WU]
 ·have f:m=g:=by rw[q,Sx n]
  have j:0<y:=by
   have p:0<b:=zyA
   rw[a] at p;rcases Int.lt_or_le 0 y with h|h
   ·exact h
   ·have:=U3 (Yk i) (show 0<=-y by lia);rw[abf] at this;lia
  have o:t.fdiv m=x:=by
   rw[c,f];exact Vt _ zyA
  have l:b.fdiv m=y:=by
   rw[a,f];exact Vt _ zyA
  rw[o,l];refine⟨j,d,?_⟩;rw[c,a,YK,WU]
theorem l7 {t b n d a d':Int}(m:b≠0)(h:FO t b n d)(h':FO t b a d'):n=a/\d=d':=by
 obtain⟨j,q,f⟩:=h;obtain⟨k1,k2,l⟩:=h';have e:n*d'=a*d:=by
  have g:b*(n*d')=b*(a*d):=by
   have i:b*(n*d')=(n*b)*d':=by rw[VC n b,WU]
   have k:b*(a*d)=(a*b)*d:=by rw[VC a b,WU]
   rw[i,k,f,l,WU,WU,VC d d']
  exact Yv m g
 have p:d∣d':=by
  have:d∣n*d':=⟨a,by rw[e,VC]⟩
  exact DU this (by rw[aa0];exact q)
 have c:d'∣d:=by
  have:d'∣a*d:=⟨n,by rw[<- e,VC]⟩
  exact DU this (by rw[aa0];exact k2)
 have s:=Int.le_of_dvd k1 p;have r:=Int.le_of_dvd j c;have o:d=d':=zyA
 subst o;exact⟨Int.eq_of_mul_eq_mul_right zyA e,O⟩
theorem xP {t b n d:Int}(g:b≠0)(h:FO t b n d):n.natAbs<=t.natAbs/\d.natAbs<=b.natAbs:=by
 obtain⟨l,k,c⟩:=h;have j:d∣b:=by
  have:d∣n*b:=⟨t,by rw[c,VC]⟩
  exact DU this (by rw[aa0];exact k)
 obtain⟨y,a⟩:=j;have e:t=n*y:=by
  have:d*(n*y)=d*t:=by
   rw[YK,<- a,c,VC]
  exact(Yv zyA this).symm
 have i:y≠0:=by rintro rfl;simp at a;exact g a
 have f:0<y.natAbs:=zyA
 constructor
 ·rw[e,Yw];exact Y3 _ f
 ·rw[a,Yw];exact Y3 _ f
theorem EA (t:Int):FO t 1 t 1:=⟨Z,zyB,zyA⟩
theorem JC (b:Int):FO 0 b 0 1:=⟨Z,zyB,zyA⟩
theorem Sm.mono {x:Int}(h:Sm k x)(l:k<=j):Sm j x:=R6 h (Vq Z l)
theorem Sm.mul {x y:Int}(h:Sm k x)(h':Sm j y):Sm (k+j) (x*y):=by
 unfold Sm at *;rw[Yw,Nat.pow_add];exact Nat.mul_lt_mul'' h h'
theorem Sm.add {x y:Int}(h:Sm k x)(h':Sm k y):Sm (k+1) (x+y):=by
 unfold Sm at *;have:=Int.natAbs_add_le x y;rw[aa4];lia
theorem Sm.sub {x y:Int}(h:Sm k x)(h':Sm k y):Sm (k+1) (x-y):=by
 unfold Sm at *;rw[aa4];lia
theorem Sm.neg {x:Int}(h:Sm k x):Sm k (-x):=by
 unfold Sm at *;rw[Int.natAbs_neg];exact h
theorem Sm.le {x y:Int}(h:Sm k x)(l:y.natAbs<=x.natAbs):Sm k y:=Yo l h
theorem ET (a b:Int):Uh (if a<0 then -a else a) (if b<0 then -b else b)=Uh a b:=by
 split<;>split<;>simp
theorem J6 {t b:Int}(a:b≠0):((Uh t b:Int)).natAbs<=b.natAbs:=by
 have:Uh t b∣b.natAbs:=Nat.gcd_dvd_right ..;exact Nat.le_of_dvd zyA this
open PySem PySem.Spec PyProof.Rows L2
theorem MN:Tq "int"=Y (.type "int"):=zyC
theorem Lo:Tq "bool"=Y (.type "bool"):=zyC
theorem cF:Tq "tuple"=Y (.type "tuple"):=zyC
theorem je:Tq "list"=Y (.type "list"):=zyC
theorem Jq:Tq "str"=Y (.type "str"):=zyC
theorem Ez:Tq "dict"=Y (.type "dict"):=zyC
theorem Od:Tq "set"=Y (.type "set"):=zyC
theorem Ab:Tq "abs"=Y (.builtin "abs"):=zyC
theorem fj:Tq "len"=Y (.builtin "len"):=zyC
theorem vX:Tq "max"=Y (.builtin "max"):=zyC
theorem wK:Tq "min"=Y (.builtin "min"):=zyC
theorem JR:Tq "sum"=Y (.builtin "sum"):=zyC
theorem kG:Tq "all"=Y (.builtin "all"):=zyC
theorem sO:Tq "sorted"=Y (.builtin "sorted"):=zyC
theorem a_:Tq "isinstance"=Y (.builtin "isinstance"):=zyC
mutual
inductive ax (K:KE)(H:Hp):Tr->V->Prop
 |non:ax K H .none .non
 |bl (b:Bool):ax K H (.bool b) (.bl b)
 |int (i:Int):ax K H (.int i) (.int i)
 |str (x:Str):ax K H (.str x) (.str x)
 |lst {a:Sd}{xs:List V}{ds:List Tr}:Rd H a (.lst xs)->aB K H ds xs->ax K H (.list ds) (.ref a)
 |tup {a:Sd}{xs:List V}{ds:List Tr}:H a=Y (.tup xs)->aB K H ds xs->ax K H (.tuple ds) (.ref a)
 |dct {a:Sd}:H a=Y (.dK [])->ax K H (.dict []) (.ref a)
inductive aB (K:KE)(H:Hp):List Tr->List V->Prop
 |nil:aB K H [] []
 |cons {d:Tr}{v:V}{ds:List Tr}{vs:List V}:ax K H d v->aB K H ds vs->aB K H (d::ds) (v::vs)
end
section
variable {X:Cx}{pins:List (Sd×Obj)}{σ:L2.St}{H H':Hp}{s:RZ}
mutual
theorem mZ (I:aK X pins σ H s):∀ {d:Tr}{v:V}{u:RV},ax X.K H d v->bJ v u->∃ a,Reads s.heap u d a
 |_,_,_,.non,r=>by cases r;exact⟨_,.none⟩
 |_,_,_,.bl b,r=>by cases r;exact⟨_,.bool b⟩
 |_,_,_,.int i,r=>by obtain⟨t,rfl⟩:=r;exact⟨_,.int i t⟩
 |_,_,_,.str x,r=>by obtain⟨t,rfl⟩:=r;exact⟨_,.str x t⟩
 |_,_,_,.lst h q,r=>by
  cases r;obtain⟨g,f,⟨o,n,e,c,_,d⟩,_⟩:=I.list (.inl h);obtain⟨a,z⟩:=ni I q f;exact⟨_,.list e c d (by simpa using z)⟩
 |_,_,_,.tup h q,r=>by
  cases r;obtain⟨g,f,⟨o,e,c,n,d⟩,_⟩:=I.tuple (.inl (.inl h));obtain⟨a,z⟩:=ni I q f;exact⟨_,.tuple e c d (by simpa using z)⟩
 |_,_,_,.dct h,r=>by
  cases r;obtain⟨_,_,vs,C,o,j,D,B,p,A,_,k,_⟩:=(show cq X.prog X.w H s.heap _ (.dK []) from I.hok _ _ h)
  cases C;have m:j.toList=[]:=by
   cases z:j.toList with
   |nil=>rfl
   |cons y l=>rw[z] at k;cases k
  exact⟨_,.dict (kvs:=[]) B p.1 A (by rw[m];exact .nil) (by rw[m];exact .nil)⟩
theorem ni (I:aK X pins σ H s):∀ {ds:List Tr}{vs:List V}{us:List RV},aB X.K H ds vs->aU vs us->∃ a,ReadsAll s.heap us ds a
 |_,_,_,.nil,r=>by
  cases r;exact⟨_,.nil⟩
 |_,_,_,.cons h q,r=>by
  cases r with
  |cons r b=>
   obtain⟨a,z⟩:=mZ I h r;obtain⟨bs,y⟩:=ni I q b;exact⟨_,.cons z y⟩
end
end
theorem lB {K:KE}(e:ah H H')(h:eM K H a xs):eM K H' a xs:=by
 rcases h with (h|⟨o,h⟩)|h
 ·exact .inl (.inl (e _ _ h))
 ·exact .inl (.inr ⟨o,e _ _ h⟩)
 ·exact .inr h
theorem Rd.same (e:ah H H')(h:Rd H a u):Rd H' a u:=by
 rcases h with h|⟨o,h⟩
 ·exact .inl (e _ _ h)
 ·exact .inr ⟨o,e _ _ h⟩
theorem ax.all {K:KE}(b:∀ a xs,Rd H a (.lst xs)->Rd H' a (.lst xs))(e:∀ a xs,H a=Y (.tup xs)->H' a=Y (.tup xs))(c:∀ a,H a=Y (.dK [])->H' a=Y (.dK []))(h:ax K H d v):ax K H' d v:=
 ax.rec (motive_1:=λd v _=>ax K H' d v) (motive_2:=λds vs _=>aB K H' ds vs) .non .bl .int .str (λh _ q=>.lst (b _ _ h) q) (λh _ q=>.tup (e _ _ h) q) (λh=>.dct (c _ h)) .nil (λ_ _ h q=>.cons h q) h
theorem aB.all {K:KE}(b:∀ a xs,Rd H a (.lst xs)->Rd H' a (.lst xs))(d:∀ a xs,H a=Y (.tup xs)->H' a=Y (.tup xs))(c:∀ a,H a=Y (.dK [])->H' a=Y (.dK []))(h:aB K H ds vs):aB K H' ds vs:=
 aB.rec (motive_1:=λ_ _ _=>True) (motive_2:=λds vs _=>aB K H' ds vs) trivial (λ_=>trivial) (λ_=>trivial) (λ_=>trivial) (λ_ _ _=>trivial) (λ_ _ _=>trivial) (λ_=>trivial) .nil (λh _ _ q=>.cons (h.all b d c) q) h
theorem ax.same {K:KE}(e:ah H H')(h:ax K H d v):ax K H' d v:=h.all (λ_ _=>Rd.same e) (λ_ _=>e _ _) (λ_=>e _ _)
theorem aB.same {K:KE}(e:ah H H')(h:aB K H ds vs):aB K H' ds vs:=h.all (λ_ _=>Rd.same e) (λ_ _=>e _ _) (λ_=>e _ _)
theorem ah.new (h:H p=none):ah H (upd H p o):=λb u e=>by rw[ar (aS e h)];exact e
def Mv (T:List Sd)(H H':Hp):Prop:=∀ b o,H b=Y o->b∉T->H' b=Y o
theorem Mv.of (h:ah H H'):Mv T H H':=λb o e _=>h b o e
theorem Mv.refl:Mv T H H:=λ_ _ e _=>e
theorem Mv.trans (a:Mv T H H1)(b:Mv T H1 H2):Mv T H H2:=λc o e n=>b c o (a c o e n) n
mutual
def yi:Tr->Bool
 |.tuple a=>ke a
 |.none=>true
 |.bool _=>true
 |.int _=>true
 |.str _=>true
 |_=>false
def ke:List Tr->Bool
 |[]=>true
 |x::a=>yi x&&ke a
end
def cD (H:Hp)(T:List Sd):Prop:=∀ b∈T,∃ a,H b=Y (.lst a)
theorem cD.not (h:cD H T)(e:H b=Y o)(n:∀ xs,o≠.lst xs):b∉T:=λm=>by
 obtain⟨xs,q⟩:=h b m;rw[e] at q;exact n xs (RU q)
theorem aB.allT {K:KE}(c:∀ a xs,H a=Y (.tup xs)->H' a=Y (.tup xs))(h:aB K H ds vs):ke ds=true->aB K H' ds vs:=
 aB.rec (motive_1:=λd v _=>yi d=true->ax K H' d v) (motive_2:=λds vs _=>ke ds=true->aB K H' ds vs) (λ_=>.non) (λb _=>.bl b) (λi _=>.int i) (λx _=>.str x) (λ_ _ _ t=>by simp[yi] at t) (λh _ q t=>.tup (c _ _ h) (q (by simpa [yi] using t))) (λ_ t=>by simp[yi] at t) (λ_=>.nil) (λ_ _ h q t=>by
  simp only[ke,Tu] at t;exact .cons (h t.1) (q t.2)) h
theorem ax.allT {K:KE}(b:∀ a xs,H a=Y (.tup xs)->H' a=Y (.tup xs))(h:ax K H d v)(t:yi d=true):ax K H' d v:=by
 cases aB.allT b (.cons h .nil) (by rw[ke,t];rfl) with
 |cons h _=>exact h
theorem ax.mv {K:KE}(e:Mv T H H')(l:cD H T)(t:yi d=true)(h:ax K H d v):ax K H' d v:=h.allT (λ_ _ h=>e _ _ h (l.not h λ_ z=>nomatch z)) t
theorem aB.mv {K:KE}(e:Mv T H H')(l:cD H T)(t:ke ds=true)(h:aB K H ds vs):aB K H' ds vs:=h.allT (λ_ _ h=>e _ _ h (l.not h λ_ z=>nomatch z)) t
section
variable {X:Cx}
def Pp (K:KE):R2:=λx y H Q=>∃ d e,ax K H d x/\ax K H e y/\Yq d=true/\Yq e=true/\Q (.bl (Xh d e)) H
def PY (K:KE):R2:=λx y H Q=>∃ d e,ax K H d x/\ax K H e y/\Yq d=true/\Yq e=true/\Q (.bl (!Xh d e)) H
theorem N6 (k:X.A.units+64<cLine):pF X (UF .Eq) (Pp X.K):=by
 intro a s o H x y v u Q I f m h;obtain⟨d,e,g,c,l,j,q⟩:=h;obtain⟨n,i⟩:=mZ I g f;obtain⟨bs,b⟩:=mZ I c m;exact eq_dataH i b l j k ⟨.bl _,H,I,O,q⟩
theorem My (k:X.A.units+64<cLine):pF X (UF .NotEq) (PY X.K):=by
 intro a s o H x y v u Q I f m h;obtain⟨d,e,g,c,l,j,q⟩:=h;obtain⟨n,i⟩:=mZ I g f;obtain⟨bs,b⟩:=mZ I c m;exact ne_dataH i b l j k ⟨.bl _,H,I,O,q⟩
def Im (K:KE):R2:=λx y H Q=>∃ a b ns,x=.ref a/\y=.ref b/\bI K H a (ns.map V.int)/\H b=Y (.lst [])/\Q (.bl (!decide (ns=[]))) H
theorem Jg (l:X.A.units+64<cLine):pF X (UF .NotEq) (Im X.K):=by
 intro d s o H x y v u Q I i m h;obtain⟨a,b,ns,rfl,rfl,f,k,q⟩:=h;cases i;cases m;obtain⟨p,j,g,_⟩:=I.list f;obtain⟨n,e,c,_⟩:=I.list (bI.of (K:=X.K) k);cases e;exact PySem.W.ke_ne_ints g.isList c.isList (xJ j) .nil l ⟨.bl _,H,I,O,q⟩
theorem fq:pF X (UF .Eq) (Kh λi j=>.bl (decide (i=j))):=FZ λ_ _ _ _ _ _ _ q=>eq_int (by rw[V3];exact q)
theorem sV:pF X (UF .NotEq) (Kh λi j=>.bl (!decide (i=j))):=FZ λ_ _ _ _ _ _ _ q=>ne_int (by rw[bne,V3];exact q)
theorem Sm.bits {x:Int}(h:Sm k x):aac x<=k:=by
 unfold aac
 split
 ·exact Tn _
 ·rename_i a
  have b:x.natAbs≠0:=by
   intro z;apply a;have:x=0:=zyA
   subst this;rfl
  have:x.natAbs.log2<k:=(Nat.log2_lt b).mpr h;lia
def mB (i j:Int):Prop:=(Sm 8000 i/\Sm 8000 j)\/Sm 64 i
theorem aM:pF X (XU .Mult) (rI mB λi j=>.int (i*j)):=Qc λi j _ _ _ _ _ c q=>mul_int q (by
 rcases c with ⟨a,b⟩|a
 ·exact aa8 (Sv a.bits Z) (Sv b.bits Z)
 ·exact aa9 a.bits)
def OP (_ j:Int):Prop:=j≠0/\Sm 8000 j
theorem dR:pF X (XU .FloorDiv) (rI OP λi j=>.int (i.fdiv j)):=Qc λi j _ _ _ _ _ b q=>floordiv_int b.1 q (.inl (PyProof.noPylong_of_log2 (by
 by_cases a:j.natAbs=0
 ·rw[a];decide
 ·exact R6 ((Nat.log2_lt a).mpr b.2) Z)))
def kh (a b:String):Option Bool:=if((T9 a==T9 b)=true) then Y true else if PySem.W.kitMeta b=true then(fastBuiltinMro a).map (·.contains (.type b)) else none
theorem Ch (K:KE)(a b:String):Vk K (.type a) (.type b)=kh a b:=O
abbrev Ty (K:KE)(H:Hp)(x:V)(T:String):Prop:=qg K H x (.type T)
def OO (K:KE):List V->Hp->VK->Prop:=λa H Q=>∃ x T S b,a=[x,.ty S]/\Ty K H x T/\kh T S=Y b/\Q (.bl b) H
theorem Hl:dP X (.builtin "isinstance") (OO X.K):=by
 intro a s i H j g Q I r h;obtain⟨x,T,S,b,rfl,ty,e,q⟩:=h;obtain⟨u,v,rfl,c,d⟩:=mK r;cases(show v=T9 S from d);exact sN I c ty (by rw[Ch];exact e) λf=>⟨.bl b,H,I.tok f,O,q⟩
def xQ (a:String):List String->Option Bool
 |[]=>Y false
 |b::r=>match kh a b with
  |some true=>Y true
  |some false=>xQ a r
  |none=>none
end
def RK:Tr->String
 |.none=>"NoneType"
 |.bool _=>"bool"
 |.int _=>"int"
 |.str _=>"str"
 |.list _=>"list"
 |.tuple _=>"tuple"
 |.dict _=>"dict"
theorem ax.ty {K:KE}(h:ax K H d x):Ty K H x (RK d):=by
 cases h with
 |non=>exact .non
 |bl b=>exact .bl b
 |int i=>exact .int i
 |str x=>exact .str x
 |lst h _=>
  rcases h with h|⟨o,h⟩
  ·exact .lst h
  ·exact .frz h
 |tup h _=>exact .tup h
 |dct h=>exact .dK h
def GU (CX:qr):Prop:=∀ a H s e b,CX a H s E0 e b->False
theorem qP (h:GU CX):tj CX X E0:=λ_ _ _ _ _ _ _ z=>(h _ _ _ _ _ z).elim
structure NH (P:SA)(w:Te)(K:KE)(mg:Str->Option RV)(base:Uc)(CX:qr)(k:Nat)(x:Str)(ps:List Str)(dvs:List V)(sp:Sp):Prop where
 ex:∃ (f:Sd) (fd:Uw) (ds:List RV),jm P w K mg base CX k f fd ps sp/\mg x=Y (.ref f)/\Sq K (.ref f)=true/\o9 K fd ps ds/\aU dvs ds
section
variable {X:Cx}{CX:qr}{k:Nat}{x:Str}{ps:List Str}{sp:Sp}{dvs:List V}{p pos:Pos}{e:U2}{es:List U2}{t:TA}
theorem KF (g:GU CX) (C:NH X.prog X.w X.K X.mg X.base CX k x ps dvs sp) (m:Room k X.A) (h:Gl X x) (a:WA X (e :: es) t) (b:(x == ("__debug__":Str))=false:=by decide)
  (he:Ss (e::es) X.env=(false,V1 e X.env)::Ss es X.env:=by rfl)(c:(VY pos (Ss es X.env)).any (·.1)=false:=by rfl):WE X (.Call (.Name x p) (e::es) [] pos) (BP sp dvs E0 t):=by
 have a:=a.go;refine⟨?_⟩;obtain⟨f,n,ds,F,j,l,d,i⟩:=C.ex;exact LL F m h j l d i (qP g) a b he c
end
structure dg (K:KE)(mg:Str->Option RV)(x:Str)(st:T6)(ps:List Str)(dvs:List V):Prop where
 ex:∃ (f:Sd) (fd:Uw) (oc:RV) (od:Option Sd) (dV kV doc pm:RV) (an:Option Sd) (cdv ct:RV) (osl:Array (Option RV)) (ds:List RV),
  fd=Sn x x (aO st) (aJ st) (af st) dV kV doc pm an cdv ct/\K.lookup f=Y ⟨oc,od,.func fd,osl⟩/\SF K cdv x=true /\
  mg x=Y (.ref f)/\Sq K (.ref f)=true/\o9 K fd ps ds/\aU dvs ds
section
variable {P:SA}{w:Te}{K:KE}{mg:Str->Option RV}{base:Uc}{CX:qr}
theorem dg.cal {x:Str}{st:T6}{N c:List Str}{dvs:List V}{k:Nat}{sp:Sp} (F:dg K mg x st c dvs) (S:ao N c (af st)) (len:∀ vs H Q E,sp vs H Q E->vs.length=c.length:=by intro _ _ _ _ h;cases h;subst_vars;rfl)
  (bb:∀ (f:Sd) (b:RV) (A:Tf) (a:List Env) (s:RZ) (H:Hp) (vs:List V) (Q:VK) (E:XK),Room k (A.deeper (YW x (af st) s.heap.objs.size f b))->sp vs H Q E ->
   ∃ t,Ht (wM CX P w K mg base N x (af st) f b A a s H E).nox (aJ st) t/\t { nx:=λ_ H'=>Q .non H',rt:=Q } (lj N vs) H):NH P w K mg base CX (k+1) x c dvs sp:=by
 obtain⟨f,r,z,y,u,kV,n,C,B,b,v,o,ds,rfl,i,d,j,p,l,m⟩:=F.ex;refine⟨f,_,ds,zc i d S len λA a s H vs Q E g e=>?_,j,p,l,m⟩;obtain⟨t,h,q⟩:=bb f b A a s H vs Q E g e;exact⟨t,h.nox,q⟩
theorem IK {x:Str}{st:T6}{e:List Str}{f:Sd}{o:RV}{n i:Option Sd}{d:Array (Option RV)}{kV b j a g:RV} (l:K.lookup f=Y ⟨o,n,.func (Sn x x (aO st) (aJ st) (af st) .none kV b j i a g),d⟩)
  (c:SF K a x=true)(k:Sq K (.ref f)=true)(m:mg x=Y (.ref f))
  (h:∀ us:List RV,us.length=e.length->T_ (Sn x x (aO st) (aJ st) (af st) .none kV b j i a g) ⟨us,[]⟩=pure (e.zip us)):dg K mg x st e []:=
 ⟨f,_,o,n,.none,kV,b,j,i,a,g,d,[],O,l,c,m,k,.all h,.nil⟩
theorem Fm {x:Str}{st:T6}{e:List Str}{f T:Sd}{r:RV}{q i:Option Sd}{d:Array (Option RV)}{kV b j a g:RV}{o:Obj}{items:Array RV}{n:Nat}{ds:List RV}{dvs:List V}
  (l:K.lookup f=Y ⟨r,q,.func (Sn x x (aO st) (aJ st) (af st) (.ref T) kV b j i a g),d⟩)
  (c:SF K a x=true)(k:Sq K (.ref f)=true)(m:mg x=Y (.ref f))(z:K.lookup T=Y o)(v:o.data=.seq items n)(y:aU dvs ds)
  (h:∀ us:List RV,(us++ds).length=e.length->∃ p:Option (Array RV)->Sem (List (Str×RV)),T_ (Sn x x (aO st) (aJ st) (af st) (.ref T) kV b j i a g) ⟨us,[]⟩=aaA (.ref T)>>=p/\p (Y items)=pure (e.zip (us++ds))):dg K mg x st e dvs:=
 ⟨f,_,r,q,.ref T,kV,b,j,i,a,g,d,ds,O,l,c,m,k,λs us X t=>by
  obtain⟨p,u,A⟩:=h us t;exact BindsTo.of_defaults rfl (X T o z) v u A,y⟩
end
end TR
namespace TR
open PySem PySem.Spec PyProof.Rows L2
abbrev jV (n d:Int):Tr:=.tuple [.int n,.int d]
theorem bt {K:KE}{n d:Int}(h:ax K H (jV n d) v):∃ a,v=.ref a/\H a=Y (.tup [.int n,.int d]):=by
 cases h with
 |tup h q=>
  cases q with
  |cons e f=>
   cases e;cases f with
   |cons b c=>
    cases b;cases c;exact⟨_,O,h⟩
theorem fb {K:KE}{n d:Int}(h:H a=Y (.tup [.int n,.int d])):ax K H (jV n d) (.ref a):=.tup h (.cons (.int _) (.cons (.int _) .nil))
theorem Oe (n d m e:Int):Xh (jV n d) (jV m e)=(decide (n=m)&&decide (d=e)):=by
 simp only[Xh,PyData.eqvAll,XN,V3]
theorem CH {n d m e:Int}(h:n=m/\d=e):Xh (jV n d) (jV m e)=true:=by
 rw[Oe,R8 h.1,R8 h.2];rfl
def Sh (K:KE)(H:Hp)(t b:Int)(Q:VK):Prop:=∀ v n d a,ah H a->ax K a (jV n d) v->FO t b n d->Q v a
structure Ok (k:Nat)(n d:Int):Prop where
 pos:0<d
 co:Uh n d=1
 sn:Sm k n
 sd:Sm k d
theorem FO.ok {t b n d:Int}(h:FO t b n d)(a:b≠0)(st:Sm k t)(c:Sm k b):Ok k n d:=
 ⟨h.1,h.2.1,st.le (xP a h).1,c.le (xP a h).2⟩
theorem Ok.mono {n d:Int}(h:Ok j n d)(l:j<=k):Ok k n d:=⟨h.pos,h.co,h.sn.mono l,h.sd.mono l⟩
theorem Ok.ne {n d:Int}(h:Ok k n d):d≠0:=by have:=h.pos;lia
def shB:Tr->Bool
 |.tuple [.int n,.int d]=>decide (1<=d)&&decide (Uh n d=1)
 |_=>false
theorem Ok.shB {n d:Int}(h:Ok k n d):TR.shB (jV n d)=true:=by
 have:=h.pos;show(decide (1<=d)&&decide (Uh n d=1))=true;rw[R8 (show 1<=d by lia),R8 h.co];rfl
theorem Ow:[a].length<=Sk:=by show 1<=Sk;decide
theorem kY:[a,b].length<=Sk:=by show 2<=Sk;decide
theorem Gd:[a,b,c].length<=Sk:=by show 3<=Sk;decide
section
variable {K:KE}{H:Hp}{Q:VK}{a:Sd}{x y z:V}
theorem cJ (h:H a=Y (.tup [x,y]))(q:Q x H):Ku K (.ref a) (.int 0) H Q:=.inr (.inl ⟨a,_,0,x,O,O,eM.of h,O,q⟩)
theorem bX (h:H a=Y (.tup [x,y]))(q:Q y H):Ku K (.ref a) (.int 1) H Q:=.inr (.inl ⟨a,_,1,y,O,O,eM.of h,O,q⟩)
theorem MX (h:H a=Y (.lst [x,y]))(q:Q x H):Ku K (.ref a) (.int 0) H Q:=.inl ⟨a,_,0,x,O,O,bI.of h,O,q⟩
theorem Dh (h:H a=Y (.lst [x,y]))(q:Q y H):Ku K (.ref a) (.int 1) H Q:=.inl ⟨a,_,1,y,O,O,bI.of h,O,q⟩
end
def DL:V->Bool
 |.int _=>true
 |_=>false
theorem Og {K:KE}(h:Ty K H x T):∃ b,kh T "int"=Y b/\if b=true then ∃ c,kh T "bool"=Y c/\DL x=!c else DL x=false:=by
 cases h with
 |non=>exact⟨false,zyC,bN rfl⟩
 |bl b=>exact⟨true,zyC,aY ⟨true,zyC,O⟩⟩
 |int i=>exact⟨true,zyC,aY ⟨false,zyC,O⟩⟩
 |str x=>exact⟨false,zyC,bN rfl⟩
 |flt x=>exact⟨false,zyC,bN rfl⟩
 |lst e=>exact⟨false,zyC,bN rfl⟩
 |frz e=>exact⟨false,zyC,bN rfl⟩
 |tup e=>exact⟨false,zyC,bN rfl⟩
 |dK e=>exact⟨false,zyC,bN rfl⟩
 |dT e=>exact⟨false,zyC,bN rfl⟩
theorem aB.length {K:KE}:∀ {ds:List Tr}{xs:List V},aB K H ds xs->ds.length=xs.length
 |[],_,h=>by cases h;rfl
 |_::_,_,h=>by
  cases h with
  |cons _ q=>rw[TL,TL,aB.length q]
theorem Lk (h:ds.length≠2):shB (.tuple ds)=false:=by
 match ds,h with
 |[],_=>rfl
 |[a],_=>cases a<;>rfl
 |[a,b],h=>exact absurd rfl h
 |a::b::c::r,_=>cases a<;>(try rfl)<;>cases b<;>rfl
theorem Py {K:KE}(g:ax K H d x)(h:DL x=false):shB (.tuple [d,e])=false:=by
 cases g with
 |int i=>exact absurd h (by simp[DL])
 |_=>rfl
theorem O4 {K:KE}(g:ax K H e x)(h:DL x=false):shB (.tuple [d,e])=false:=by
 cases g with
 |int i=>exact absurd h (by simp[DL])
 |_=>cases d<;>rfl
theorem EX {K:KE}(g:ax K H d x)(h:DL x=true):∃ n,d=.int n/\x=.int n:=by
 cases g with
 |int i=>exact⟨i,O,O⟩
 |_=>exact absurd h (by simp[DL])
def cr (H:Hp)(t r:Sd):Prop:=∃ (a:List Int) (k:Int),H t=Y (.lst [.ref r,.int k])/\H r=Y (.lst (a.map V.int))/\a≠[]/\a.length<=63
theorem cr.lists (h:cr H t r):cD H [t,r]:=λb m=>by
 obtain⟨c,k,a,d,_⟩:=h;rcases R'.mp m with rfl|m
 ·exact⟨_,a⟩
 ·cases RY.mp m;exact⟨_,d⟩
theorem cr.same (h:cr H t r)(e:ah H H'):cr H' t r:=by
 obtain⟨c,k,b,f,d,a⟩:=h;exact⟨c,k,e _ _ b,e _ _ f,d,a⟩
theorem cr.ne (h:cr H t r):t≠r:=by
 obtain⟨c,k,a,d,b,e⟩:=h;refine LX a d λz=>?_
 cases c with
 |nil=>exact b rfl
 |cons x c=>
  injection z with z
  injection z with z _
  cases z
theorem uN [Decidable p](h:p):V.bl (decide p)=V.bl true:=by rw[R8 h]
theorem Mv.upd (m:p∈[t,r]):Mv [t,r] H (upd H p o):=λb u e n=>by
 rw[ar (show b≠p from λz=>n (z▸m))];exact e
theorem Os.okX {P:SA}{w:Te}{K:KE}{mg:Str->Option RV}{base:Uc}{CX:qr}{x b:Str}{st:T6}{f:Sd}{i:Uw}{N d:List Str}{k:Nat}{sp:Sp} (F:Os K x b st f i) (S:ao N d (af st)) (len:∀ vs H Q E,sp vs H Q E->vs.length=d.length:=by intro _ _ _ _ h;cases h;subst_vars;rfl)
  (bb:∀ (c:RV) (A:Tf) (a:List Env) (s:RZ) (H:Hp) (vs:List V) (Q:VK) (E:XK),Room k (A.deeper (YW b (af st) s.heap.objs.size f c))->sp vs H Q E ->
   ∃ t,Ht (wM CX P w K mg base N b (af st) f c A a s H E).nox (aJ st) t/\t { nx:=λ_ H'=>Q .non H',rt:=Q } (lj N vs) H):jm P w K mg base CX (k+1) f i d sp:=by
 obtain⟨r,p,kV,m,v,u,c,o,n,rfl,l,e⟩:=F.ex;refine zc l e S len λA a s H vs Q E j g=>?_
 obtain⟨t,h,q⟩:=bb c A a s H vs Q E j g;exact⟨t,h.nox,q⟩
theorem av:GU yd:=λ_ _ _ _ _ h=>h
def bU (X:Cx)(N:List Str)(a:Xy)(e:List (Str×Sd))(C:Sd)(b:RZ)(c:Hp)(d:List Sd)(f:List (Sd×Obj)):Cx:=
 { X with N:=N,s₀:=b,H₀:=c,env:=Ys a e C X.env,outer:=X.stack,stack:=X.stack,ex:=d,fn:=λx=>a.names.lookup x==Y .cell,pn:=X.pn++f,xe:=λ_ _=>False }
def DC (k:Nat)(js:List Nat)(a:L2.St):L2.St:=Sl k none++js.map λj=>(a[j]?).join
def yH (cells:List (Str×Sd)):List (Str×Wg)->List (Str×Sd)->List (Str×Sd)
 |[],a=>a
 |(n,k)::r,a=>if(k==.free)=true then yH cells r ((n,(cells.lookup n).getD 0)::a) else yH cells r a
theorem wZ (h:∀ y∈scope.names,y.2=.free->∃ c,env.cells.lookup y.1=Y c):closureFor scope env=pure (yH env.cells scope.names []):=by
 have f:∀ (names:List (Str × Wg)) (a:List (Str × Sd)),(∀ y ∈ names,y.2=.free->∃ c,env.cells.lookup y.1=Y c) ->
   (forIn names a λ(x:Str×Wg) (r:List (Str×Sd))=>(match x with
    |(b,d)=>if(d==.free)=true then(do let c <- cellOf env b;pure (V7 ((b,c)::r))) else pure (V7 r):Sem (ForInStep (List (Str×Sd)))))=(pure (yH env.cells names a):Sem (List (Str×Sd))):=by
  intro names
  induction names with
  |nil=>intro a _;rfl
  |cons y r g=>
   intro a i;obtain⟨n,k⟩:=y;have d:=λz l=>i z (R_ _ l)
   rw[Vv];unfold yH
   by_cases b:(k==T8)=true
   ·obtain⟨c,j⟩:=i (n,k) Sz (by simpa using b);simp only[b,VF];have e:cellOf env n=pure c:=by unfold cellOf;rw[j]
    rw[e,j];exact g _ d
   ·simp only[b];exact g _ d
 unfold closureFor;have:=f scope.names [] h
 first
  |exact this
  |(simp only[bind_pure];exact this)
  |(rw[bind_pure];exact this)
  |(show(forIn scope.names [] _>>=λr=>pure r)=_;rw[bind_pure];exact this)
theorem jz:∀ {names:List (Str×Wg)}{acc:List (Str×Sd)}{x:Str}{c:Sd},(∀ y∈names,y.2=.free->∃ c,cells.lookup y.1=Y c)->(yH cells names acc).lookup x=Y c->acc.lookup x=Y c\/((x,T8)∈names/\cells.lookup x=Y c)
 |[],_,_,_,_,e=>.inl e
 |(n,k)::r,acc,x,c,i,e=>by
  unfold yH at e;have h:=λz j=>i z (R_ _ j)
  by_cases f:(k==T8)=true
  ·rw[SO f] at e;have b:k=.free:=by simpa using f
   rcases jz h e with e|⟨m,e⟩
   ·rw[TM] at e;cases hx:x==n with
    |true=>
     rw[hx] at e;have d:x=n:=by simpa using hx
     obtain⟨g,a⟩:=i (n,k) Sz b;have a:cells.lookup n=Y g:=a;rw[a] at e;have e:g=c:=by simpa using e
     subst e d b;exact .inr ⟨Sz,a⟩
    |false=>
     rw[hx] at e;exact .inl e
   ·exact .inr ⟨R_ _ m,e⟩
  ·rw[Sx f] at e;rcases jz h e with e|⟨m,e⟩
   ·exact .inl e
   ·exact .inr ⟨R_ _ m,e⟩
theorem n9:∀ {names:List (Str×Wg)}{acc:List (Str×Sd)}{x:Str},(∃ c,acc.lookup x=Y c)\/(x,T8)∈names->∃ c,(yH cells names acc).lookup x=Y c
 |[],_,_,h=>by
  rcases h with h|h
  ·exact h
  ·cases h
 |(n,k)::r,acc,x,h=>by
  unfold yH
  by_cases a:(k==T8)=true
  ·rw[SO a];refine n9 ?_;rcases h with ⟨c,e⟩|h
   ·refine .inl ?_;rw[TM];cases x==n with
    |true=>exact⟨_,O⟩
    |false=>exact⟨c,e⟩
   ·rcases R'.mp h with e|h
    ·injection e with d b
     subst d;exact .inl ⟨_,by rw[TM];simp;rfl⟩
    ·exact .inr h
  ·rw[Sx a];refine n9 ?_;rcases h with h|h
   ·exact .inl h
   ·rcases R'.mp h with e|h
    ·injection e with d b
     subst b;exact absurd rfl a
    ·exact .inr h
theorem rY:∀ {names:List (Str×Wg)}{n:Nat}{acc:List (Str×Sd)}{x:Str}{c:Sd},(W3 n names acc).lookup x=Y c->acc.lookup x=Y c\/((x,T7)∈names/\n<=c)
 |[],_,_,_,_,e=>.inl e
 |(y,k)::r,n,acc,x,c,e=>by
  unfold W3 at e
  by_cases b:(k==T7)=true
  ·rw[SO b] at e;rcases rY e with e|⟨m,l⟩
   ·rw[TM] at e;cases hx:x==y with
    |true=>
     rw[hx] at e;have e:n=c:=by simpa using e
     have a:x=y:=by simpa using hx
     have d:k=.cell:=by simpa using b
     subst e a d;exact .inr ⟨Sz,R0 _⟩
    |false=>
     rw[hx] at e;exact .inl e
   ·exact .inr ⟨R_ _ m,Wj l⟩
  ·rw[Sx b] at e;rcases rY e with e|⟨m,l⟩
   ·exact .inl e
   ·exact .inr ⟨R_ _ m,l⟩
structure CF (X:Cx)(scope:Xy):Prop where
 kind:scope.kind=.function
 once:∀ y∈scope.names,scope.names.lookup y.1=Y y.2
 one:∀ y∈scope.names,∀ z∈scope.names,y.2=.cell->z.2=.cell->y.1=z.1
 kinds:∀ y∈scope.names,y.2=.local\/y.2=.globalImplicit\/y.2=.cell\/y.2=.free
 free:∀ y∈scope.names,y.2=.free->∃ c,X.env.cells.lookup y.1=Y c
abbrev bD (X:Cx)(a:Xy)(C:Sd):List (Str×Sd):=W3 (C+1) a.names (yH X.env.cells a.names [])
section
variable {X:Cx}{scope:Xy}{C:Sd}(S:CF X scope)
include S
theorem jx (e:(bD X scope C).lookup x=Y c):(X.env.cells.lookup x=Y c/\scope.names.lookup x=Y .free)\/(C+1<=c/\scope.names.lookup x=Y .cell):=by
 rcases rY e with e|⟨m,l⟩
 ·rcases jz S.free e with e|⟨m,e⟩
  ·cases e
  ·exact .inl ⟨e,S.once _ m⟩
 ·exact .inr ⟨l,S.once _ m⟩
theorem NA (e:(bD X scope C).lookup x=Y c)(d:(bD X scope C).lookup y=Y c)(hi:∀ x y c,X.env.cells.lookup x=Y c->X.env.cells.lookup y=Y c->x=y)(f:∀ x c,X.env.cells.lookup x=Y c->c<C):x=y:=by
 rcases jx S e with ⟨a,_⟩|⟨a,k⟩
 ·rcases jx S d with ⟨b,_⟩|⟨b,_⟩
  ·exact hi x y c a b
  ·exact absurd (f x c a) (Ue.mpr (Wj b))
 ·rcases jx S d with ⟨b,_⟩|⟨b,g⟩
  ·exact absurd (f y c b) (Ue.mpr (Wj a))
  ·exact S.one (x,.cell) (UJ k) (y,.cell) (UJ g) O O
theorem JU (h:(Ys scope (bD X scope C) C X.env).kindOf x=Y .cell\/(Ys scope (bD X scope C) C X.env).kindOf x=Y .free):∃ c,(bD X scope C).lookup x=Y c:=by
 have f:∀ (a:List (Str × Wg)),((a.map fun (n,k)=>if (k == T8 && X.env.scope.kind == .function && X.env.kindOf n == Y .cell) then (n,T7) else (n,k)).lookup x=Y .cell \/
   (a.map λ(n,k)=>if(k==T8&&X.env.scope.kind==.function&&X.env.kindOf n==Y .cell) then(n,T7) else(n,k)).lookup x=Y .free)->(x,T8)∈a\/(x,T7)∈a:=by
  intro a
  induction a with
  |nil=>intro h;simp at h
  |cons y r i=>
   intro h;obtain⟨n,k⟩:=y
   by_cases b:(x==n)=true
   ·have d:x=n:=by simpa using b
    subst d
    by_cases g:(k==T8&&X.env.scope.kind==.function&&X.env.kindOf x==Y .cell)=true
    ·have:k=.free:=by
      rw[Tu,Tu] at g
      simpa using g.1.1
     subst this;exact .inl Sz
    ·simp only[Sy,g,TM,b] at h;rcases h with h|h
     ·have:k=.cell:=by simpa using h
      subst this;exact .inr Sz
     ·have:k=.free:=by simpa using h
      subst this;exact .inl Sz
   ·have g:(x==n)=false:=by simpa using b
    have e:∀ (d:Wg),((((n,k) :: r).map fun (n,k)=>if (k == T8 && X.env.scope.kind == .function && X.env.kindOf n == Y .cell) then (n,T7) else (n,k)).lookup x=Y d) ->
      ((r.map λ(n,k)=>if(k==T8&&X.env.scope.kind==.function&&X.env.kindOf n==Y .cell) then(n,T7) else(n,k)).lookup x=Y d):=λd h=>by
     rw[Sy,TM] at h;have:(x==((λ(y:Str×Wg)=>match y with|(n,k)=>if(k==T8&&X.env.scope.kind==aau&&X.env.kindOf n==Y T7) then(n,T7) else(n,k)) (n,k)).1)=false:=by
      show(x==(if(k==T8&&X.env.scope.kind==aau&&X.env.kindOf n==Y T7)=true then(n,T7) else(n,k)).1)=false
      split<;>exact g
     rw[this] at h;exact h
    rcases h with h|h
    ·rcases i (.inl (e _ h)) with z|z
     ·exact .inl (R_ _ z)
     ·exact .inr (R_ _ z)
    ·rcases i (.inr (e _ h)) with z|z
     ·exact .inl (R_ _ z)
     ·exact .inr (R_ _ z)
 rcases f scope.names h with z|z
 ·obtain⟨c,e⟩:=n9 (cells:=X.env.cells) (acc:=[]) (.inr z);exact UT.mp (VS _ _ _ (.inr (by rw[e];rfl)))
 ·exact UT.mp (VS _ _ _ (.inl (S.once _ z)))
end
theorem HL
  (p:∀ h',(∃ m,h'.Ns s.heap.objs.size m)->(∀ x c,(W3 (s.heap.objs.size+1) scope.names cl).lookup x=Y c->cl.lookup x=Y c\/h'.IsCell c none)->(∀ b o,s.heap.get? b=Y o->h'.get? b=Y o) ->
   Q (newEnv scope s.heap.objs.size globals (W3 (s.heap.objs.size+1) scope.names cl) qual none .none (Y env) Xl) { s with heap:=h' }) :
  Sb M A (YF scope globals cl [] qual none .none (Y env)) Q E s:=by
 have g:∀ (names:List (Str×Wg)) (h:Uc) (a:List (Str×Sd)) (x:Str) (c:Sd),(W3 h.objs.size names a).lookup x=Y c->a.lookup x=Y c\/(pushCells h names).IsCell c none:=by
  intro names
  induction names with
  |nil=>intro h a x c e;exact .inl e
  |cons y r j=>
   intro h a x c e;obtain⟨n,k⟩:=y;unfold W3 at e;unfold pushCells
   by_cases l:(k==T7)=true
   ·rw[SO l] at e ⊢;have q:h.objs.size+1=(h.push { cls:=.type "cell",data:=.cell none }).objs.size:=(SR ..).symm;rw[q] at e;rcases j _ _ _ _ e with e|e
    ·rw[TM] at e;cases hx:x==n with
     |true=>
      rw[hx] at e;have e:h.objs.size=c:=by simpa using e
      subst e;exact .inr ⟨_,ZJ r _ _ _ (RW _ O),O⟩
     |false=>
      rw[hx] at e;exact .inl e
    ·exact .inr e
   ·rw[Sx l] at e ⊢;exact j _ _ _ _ e
 simp only[YF,aar,VF];refine HD (wpAny_alloc ?_);refine HD (wpAny_layCells _ (λi d f=>by cases hkc:d==T7<;>simp[hkc]) _ _ _ _ ?_);rw[show({ s with heap:=s.heap.push { cls:=.type "dict",data:=.dict #[] } }:RZ).heap.objs.size=s.heap.objs.size+1 from SR ..];simp only[VQ];refine HD (RT (RT ?_));refine p _ ⟨_,(Heap.Ns.new s.heap (.type "dict")).keeps (ZJ _ _)⟩ (λx c e=>?_) λb o e=>ZJ _ _ b o (RS _ e)
 have:=g scope.names (s.heap.push { cls:=.type "dict",data:=.dict #[] }) cl x c;rw[SR] at this;exact this e
section
variable {X:Cx}{pins:List (Sd×Obj)}{σ:L2.St}{H H2:Hp}{s s2:RZ}
def vw (X:Cx)(a:Xy)(N:List Str)(σ b:L2.St):Prop:=
 ∀ (i:Nat) (x:Str) (v:V),N[i]?=Y x->b[i]?=Y (Y v)->∃ j:Nat,X.N[j]?=Y x/\σ[j]?=Y (Y v)/\(X.env.kindOf x=Y .cell\/X.env.kindOf x=Y .free)/\a.names.lookup x=Y .free /\
  ((Ys a [] 0 X.env).kindOf x=Y .cell\/(Ys a [] 0 X.env).kindOf x=Y .free)
theorem zV (I:aK X pins σ H s)(a:b≠X.env.locals)(c:b∉X.fs):b∉Da X.stack:=λz=>(R'.mp (I.stkSub b z)).elim a c
theorem Jx (I:aK X pins σ H2 s2) (S:CF X scope)
  (n:vw X scope N σ σ0)(A:σ0.length=N.length)(E:∀ b∈fp,ql X pins H2 b)(fo:∀ b∈fp,∃ o,s2.heap.get? b=Y o)(s:s2.heap.objs.size<=C)(T:s2.heap.objs.size<=D)(L:D≠C)
  (d:∀ b o,s2.heap.get? b=Y o->F.get? b=Y o)(J:∃ m,F.Ns C m)(heD:F.get? D=Y oD)(Q:∀ v,oD.data≠.cell v)(own:∀ x c,(bD X scope C).lookup x=Y c->C+1<=c->F.IsCell c none):
  aK (bU X N scope (bD X scope C) C s2 H2 fp pins) [(D,oD)] σ0 H2 { s2 with heap:=F,toks:=tk }:=by
 have g:∀ b,b<s2.heap.objs.size->b≠C/\b≠D:=λb a=>⟨λz=>absurd (z▸a) (Ue.mpr s),λz=>absurd (z▸a) (Ue.mpr T)⟩
 have f:∀ x c,X.env.cells.lookup x=Y c->c<s2.heap.objs.size:=λx c e=>by
  obtain⟨v,q⟩:=I.cell x c e;exact q.lt
 have big:∀ c:Sd,C+1<=c->s2.heap.objs.size<=c:=λc h=>Sv s (Wj h)
 have B:∀ b∈Da X.stack,b<s2.heap.objs.size:=λb a=>by
  obtain⟨_,o,G,_⟩:=I.stack.mem a;exact RX G
 refine⟨⟨I.ok.mod,S.kind,I.ok.glob,I.ok.blt,s,?_,?_,?_,I.ok.hd,I.ok.frames,.inl rfl,?_,?_,?_,?_,?_,I.stack,I.stkFree⟩,O,I.bare,Un.kept d,?_,?_,?_,?_,?_,I.hok.kept d,A⟩
 ·intro x y c M H;exact NA S M H I.ok.inj λx c e=>R6 (f x c e) s
 ·intro x t;exact JU S t
 ·intro x c t e;rcases jx S e with ⟨_,k⟩|⟨l,_⟩
  ·have t:(scope.names.lookup x==Y T7)=true:=t;rw[k] at t;cases t
  ·exact big c l
 ·intro b a;obtain⟨o,G⟩:=fo b a;refine⟨(g b (RX G)).1,λx c e=>?_⟩;rcases jx S e with ⟨e,_⟩|⟨l,_⟩
  ·exact(E b a).2.2.2.2.1 x c e
  ·exact λz=>absurd (RX G) (Ue.mpr (z▸big c l))
 ·exact λb o e=>I.bs b o e
 ·exact Sv I.ok.bsz I.sz
 ·intro b o e a;rcases(E b a).2.2.2.1 with z|z
  ·exact I.ok.noex b o e z
  ·exact absurd (R6 (RX e) (Sv I.ok.bsz z)) (Th _)
 ·intro b a;exact zV I (E b a).2.1 (E b a).2.2.1
 ·obtain⟨m1,hm1⟩:=J;refine⟨m1,hm1,λi x v M H _=>?_⟩;obtain⟨j,j1,j2,j3,jf,j4⟩:=n i x v M H;obtain⟨m,hn,hl⟩:=I.loc;have t:Oj X.env.scope x:=by
   rcases j3 with z|z
   ·exact .inr (.inl z)
   ·exact .inr (.inr z)
  obtain⟨u,r,l⟩:=hl j x v j1 j2 t;refine⟨u,r,.inr ⟨j4,?_⟩⟩;obtain⟨c,hc⟩:=JU S (C:=C) j4;rcases l with ⟨k,_⟩|⟨_,c',e',z'⟩
  ·exfalso;rcases j3 with z|z<;>(rw[z] at k;cases k)
  ·rcases jx S hc with ⟨e,_⟩|⟨_,k⟩
   ·rw[e'] at e;cases e;exact⟨_,hc,z'.keeps d⟩
   ·rw[jf] at k;cases k
 ·intro x c e;rcases jx S e with ⟨e,_⟩|⟨l,_⟩
  ·obtain⟨v,q⟩:=I.cell x c e;exact⟨v,q.keeps d⟩
  ·exact⟨_,own x c e l⟩
 ·exact I.hok.fresh s
 ·intro x c e;rcases jx S e with ⟨e,_⟩|⟨l,_⟩
  ·exact I.freeC x c e
  ·exact I.hok.fresh (big c l)
 ·intro p t;rcases S8.mp t with t|t
  ·obtain⟨q1,q2,q3,q4,q5⟩:=I.pin p t;exact⟨d _ _ q1,q2,(g _ (RX q1)).1,zV I q3 q4,q5⟩
  ·cases RY.mp t;exact⟨heD,I.hok.fresh T,L,λz=>absurd (B D z) (Ue.mpr T),Q⟩
theorem Ie (I:aK X pins σ H2 s2)
  (p:∀ b∈fp,ql X pins H2 b)(i:s2.heap.objs.size<=D)(J:aK (bU X N scope (bD X scope C) C s2 H2 fp pins) ((D,{ cls:=.type "list",data:=.seq its.toArray n })::pl) σ0 H' s')(r:aU ys its)(hz:ys.length<=Sk):
  aK X pins σ (upd H' D (.lst ys)) s':=by
 have h:=J.pin (D,{ cls:=.type "list",data:=.seq its.toArray n }) (Sj _ Sz);have g:H' D=none:=h.2.1;have a:Un (Da X.stack) fp H2 H' s2.heap s'.heap:=J.base;have d:H2 D=none:=I.hok.fresh i;have u:Un (Da X.stack) fp H2 (upd H' D (.lst ys)) s2.heap s'.heap:=by
  refine⟨a.keep,a.slot,λb o e l k=>?_,a.there,λb j e=>?_,λb o w e=>?_,λb m e=>?_⟩
  ·rw[ar (show b≠D from λz=>absurd (RX e) (Ue.mpr (by rw[z];exact i)))];exact a.free b o e l k
  ·rw[ar (aS e d)];exact a.tups b j e
  ·rw[ar (aS e d)];exact a.frzs b o w e
  ·rw[ar (aS e d)];exact a.tbls b m e
 refine I.call' (ch:=fp) J.os u (λb o e=>?_) J.bare λb f=>?_
 ·by_cases f:b=D
  ·subst f;rw[ag] at e;cases e;exact⟨hz,its,n,r,h.1⟩
  ·rw[ar f] at e;exact(J.hok b o e).stay (λ_ _ _ q=>q) (λc q=>by rw[ar (aS q g)];exact q) λc j q=>by rw[ar (aS q g)];exact q
 ·obtain⟨_,t,_,x,v,s⟩:=p b f;exact⟨x,t,v,s⟩
def QK (X:Cx)(a:List U2)(t:TT):Prop:=
 ∀ (pins:List (Sd×Obj)) (s:RZ) (σ:L2.St) (H:Hp) (Q:Bool->Hp->Prop),aK X pins σ H s->t σ H Q ->
  Sb (SD X.prog X.w) X.A (forIn a true λc r=>if r=true then do let ok <- isTrue c X.env (V1 c X.env);pure (V7 ok) else pure (V7 r)) (TP X pins σ Q) X.xe s
structure Mj (X:Cx)(e:List U2)(t:TT):Prop where
 go:QK X e t
def OT:TT:=λ_ H Q=>Q true H
theorem aF:Mj X [] OT:=by
 exact⟨λ_ _ _ H _ I h=>wpAny_tests_nil ⟨H,I,h⟩⟩
theorem Jp (h:WT X c t):Mj X [c] t:=by
 have h:=h.go;exact⟨λpins s σ H Q I hq=>wpAny_tests_one (h pins s σ H Q I hq)⟩
def ix (J:It)(g:TG)(n:TT)(j:TE)(e:L2.St)(Fin:List V->Hp->Prop)(k:Hp):Prop:=∃ W:Nat->Nat->List V->Hp->Prop,(∃ m,W 0 m [] k)/\∀ i m a H2,W i m a H2 ->
 (J.stop i H2/\a.length<=Sk/\Fin a H2) \/
 (J.go i H2/\a.length<Sk/\∀ x h,J.yld i H2 x h->g x e h λc o=>n c o λb f=>if b=true then j c f λy l=>∃ d,d<m/\W (i+1) d (a++[y]) l else ∃ d,d<m/\W (i+1) d a f)
end
def uO (a:Xy):Bool:=a.kind==.function&&a.names.all (λy=>a.names.lookup y.1==Y y.2)&&a.names.all (λy=>a.names.all λz=>!(y.2==.cell&&z.2==.cell)||y.1==z.1) &&
 a.names.all λy=>y.2==.local||y.2==.globalImplicit||y.2==.cell||y.2==.free
theorem Bn (h:uO scope=true)(d:(scope.names.all λy=>!(y.2==.free)||(X.env.cells.lookup y.1).isSome)=true):CF X scope:=by
 unfold uO at h;simp only[Tu,Ul] at h;obtain⟨⟨⟨i,k⟩,j⟩,f⟩:=h;refine⟨by simpa using i,λy c=>by simpa using k y c,λy c z g a b=>?_,λy c=>?_,λy c e=>?_⟩
 ·have:=j y c z g;rw[a,b] at this
  simpa using this
 ·have:=f y c;simp only[Bool.or_eq_true,UW] at this;rcases this with ((q|q)|q)|q
  ·exact .inl q
  ·exact .inr (.inl q)
  ·exact .inr (.inr (.inl q))
  ·exact .inr (.inr (.inr q))
 ·rw[Ul] at d;have:=d y c;rw[e] at this;exact UT.mp (by simpa using this)
def rf (X:Cx)(a:Xy)(cs:List Str)(js:List Nat):Bool:=(cs.zip js).all λp=>(X.N[p.2]?==Y p.1)&&(X.env.kindOf p.1==Y .cell||X.env.kindOf p.1==Y .free)&&(a.names.lookup p.1==Y .free) &&
 ((Ys a [] 0 X.env).kindOf p.1==Y .cell||(Ys a [] 0 X.env).kindOf p.1==Y .free)
theorem Dx (h:rf X scope cs js=true) (f:cs.length=js.length) (l:ts.length=k) (b:L2.St) (_:b.length=X.N.length) :
  vw X scope (ts++cs) b (DC k js b)/\(DC k js b).length=(ts++cs).length:=by
 subst l;refine⟨λi x v e a=>?_,by unfold DC;simp[f]⟩;unfold DC at a;have d:ts.length<=i:=by
  rcases aa2 i ts.length with z|z
  ·rw[UM (by simpa using z),WY,SO z] at a;cases a
  ·exact z
 rw[UE d] at e;rw[UE (by simpa using d),Zw,Sc] at a;cases hj:js[i-ts.length]? with
 |none=>rw[hj] at a;cases a
 |some j=>
  rw[hj] at a;have a:(b[j]?).join=Y v:=RU a;have g:b[j]?=Y (Y v):=by
   cases q:b[j]? with
   |none=>rw[q] at a;cases a
   |some o=>rw[q] at a;exact VZ Y a
  have m:(x,j)∈cs.zip js:=by
   have:(cs.zip js)[i-ts.length]?=Y (x,j):=by rw[S5];exact⟨e,hj⟩
   exact Se this
  unfold rf at h;rw[Ul] at h;have c:=h _ m;simp only[Tu,Bool.or_eq_true,UW] at c;exact⟨j,c.1.1.1,g,c.1.1.2,c.1.2,c.2⟩
def nY (b:Bool)(h:Uc)(j q:Sd)(k:Nat)(a:Array RV):Prop:=match b with
 |true=>h.IsListIter j q k/\h.IsList q a
 |false=>h.IsTupleIter j q k/\h.IsTuple q a
theorem nY.keep (x:nY b h j q k its)(e:∀ o,h.get? j=Y o->g.get? j=Y o)(d:∀ o,h.get? q=Y o->g.get? q=Y o):nY b g j q k its:=by
 cases b with
 |true=>
  obtain⟨⟨o,a,r⟩,⟨u,c,t⟩⟩:=x;exact⟨⟨o,e o a,r⟩,⟨u,d u c,t⟩⟩
 |false=>
  obtain⟨⟨o,a,r⟩,⟨u,c,t⟩⟩:=x;exact⟨⟨o,e o a,r⟩,⟨u,d u c,t⟩⟩
theorem nY.ext (x:nY b h j q k its)(e:Xd c h g)(f:j≠c)(d:q≠c):nY b g j q k its:=
 x.keep (λo a=>e j o f a) λo a=>e q o d a
theorem nY.there (x:nY b h j q k its):∃ o vs,h.get? j=Y o/\o.data=.fields vs:=by
 cases b with
 |true=>
  obtain⟨⟨o,a,_,d⟩,_⟩:=x;exact⟨o,_,a,d⟩
 |false=>
  obtain⟨⟨o,a,_,d⟩,_⟩:=x;exact⟨o,_,a,d⟩
theorem nY.src (x:nY b h j q k its):∃ o n,h.get? q=Y o/\o.data=.seq its n:=by
 cases b with
 |true=>
  obtain⟨_,⟨o,a,_,n,d⟩⟩:=x;exact⟨o,n,a,d⟩
 |false=>
  obtain⟨_,⟨o,a,_,n,d⟩⟩:=x;exact⟨o,n,a,d⟩
theorem nY.ne (x:nY b h j q k its):q≠j:=λz=>by
 obtain⟨o,vs,a,d⟩:=x.there;obtain⟨u,n,c,t⟩:=x.src;rw[z,a] at c;cases c;rw[d] at t;cases t
section
variable {prog:SA}{w:Te}{A:Tf}{E:RV->RZ->Prop}{s:RZ}
theorem LR (d:s.heap.IsTupleIter j q k) (i:s.heap.IsTuple q its) (h:its[k]?=Y v)
  (c:∀ g,g.IsTupleIter j q (k+1)->S_ j s.heap g->Q v { s with heap:=g }):Sb (SD prog w) A (Sw (.ref j)) Q E s:=by
 obtain⟨o,b,e,a⟩:=id d;obtain⟨n,f,_,m,l⟩:=i;unfold Sw;refine HD (SI (name:=TJ "__next__") d.typeIs Vb (SZ Vb d.typeIs XX ?_ (XQ _)));show Sb _ _ (field (.ref j) 0>>=_) _ _ s;refine HD (S' b a (x:=.ref q) O ?_);show Sb _ _ (if(SC q==Tv)=true then _ else _) _ _ s;rw[Sx (show ¬ (SC q==Tv)=true from Tg)];show Sb _ _ (field (.ref j) 1>>=_) _ _ s;refine HD (S' b a (x:=.int k 0) O ?_);show Sb _ _ (aaA (.ref q)>>=_) _ _ s;refine HD (Tl f l ?_);simp only[SQ,h];refine HD (UN b a zyB (RT ⟨v,O,RT (c _ ?_ (SH ..))⟩));refine⟨_,SK _ b (UO (Tz a _)),(Wl ..).trans e,?_⟩;rw[Tz a];simp[UD]
theorem LC (hh:A.handled=none) (f:s.heap.IsTupleIter j q k) (l:s.heap.IsTuple q its) (i:its[k]?=none)
  (c:∀ g e,Xd j s.heap g->(∃ o,g.get? e=Y o/\o.cls=.type "StopIteration")->E (.ref e) { s with heap:=g }):Sb (SD prog w) A (Sw (.ref j)) Q E s:=by
 obtain⟨u,b,p,d⟩:=id f;obtain⟨t,h,_,r,n⟩:=l;unfold Sw;refine HD (SI (name:=TJ "__next__") f.typeIs Vb (SZ Vb f.typeIs XX ?_ (XQ _)));show Sb _ _ (field (.ref j) 0>>=_) _ _ s;refine HD (S' b d (x:=.ref q) O ?_);show Sb _ _ (if(SC q==Tv)=true then _ else _) _ _ s;rw[Sx (show ¬ (SC q==Tv)=true from Tg)];show Sb _ _ (field (.ref j) 1>>=_) _ _ s;refine HD (S' b d (x:=.int k 0) O ?_);show Sb _ _ (aaA (.ref q)>>=_) _ _ s;refine HD (Tl h n ?_);simp only[SQ,i];refine HD (Vy (HD (UN b d zyB ?_)));show Sb _ _ (abm (.type "StopIteration") ([]:List RV)>>=_) _ _ _;refine HD ?_;simp only[abm,newTuple];refine HD (Tj ?_ (by size_fits));refine HD (m:=Vn _ _) (Za (a:=Tv) (by first|rfl|(unfold Vn;rfl)) ?_);refine Tj ?_ (by size_fits);unfold raiseNew;refine HD (Y_ ?_)
 first|rw[hh]|rw[show A.in1.handled=none from hh]
 refine HD (RT (aai (c _ _ (((SH ..).extBut.push _).push _) ⟨_,RW _ O,O⟩)))
theorem nY.next (x:nY b s.heap j q k its) (f:its[k]?=Y v)
  (d:∀ g,nY b g j q (k+1) its->S_ j s.heap g->Q v { s with heap:=g }):Sb (SD prog w) A (Sw (.ref j)) Q E s:=by
 have e:=x.ne;cases b with
 |true=>exact wpAny_nextOf_list_item x.1 x.2 f λg a c=>d g ⟨a,x.2.extBut c.extBut e⟩ c
 |false=>exact LR x.1 x.2 f λg a c=>d g ⟨a,x.2.extBut c.extBut e⟩ c
theorem nY.stops (hh:A.handled=none) (x:nY b s.heap j q k its) (c:its[k]?=none)
  (a:∀ g e,Xd j s.heap g->(∃ o,g.get? e=Y o/\o.cls=.type "StopIteration")->E (.ref e) { s with heap:=g }):Sb (SD prog w) A (Sw (.ref j)) Q E s:=by
 cases b with
 |true=>exact wpAny_nextOf_list_end hh x.1 x.2 c a
 |false=>exact LC hh x.1 x.2 c a
structure MI (b1 b2:Bool)(h:Uc)(z ti to j1 j2 q1 q2:Sd)(f0:RV)(k:Nat)(xs ys:Array RV):Prop where
 zp:XZ h z ti to f0
 pi:V8 h ti (.ref j1) (.ref j2)
 po:∃ a b,V8 h to a b
 s1:nY b1 h j1 q1 k xs
 s2:nY b2 h j2 q2 k ys
structure Mt (z ti to j1 j2 q1 q2:Sd):Prop where
 a1:ti≠z
 a2:to≠z
 a3:j1≠z
 a4:j2≠z
 a5:ti≠to
 a6:ti≠j1
 a7:ti≠j2
 a8:to≠j1
 a9:to≠j2
 b1:j1≠j2
 c1:q1≠z
 c2:q1≠to
 c4:q1≠j2
 d1:q2≠z
 d2:q2≠to
 d3:q2≠j1
theorem Mr (D:Mt z ti to j1 j2 q1 q2) (J:MI b1 b2 s.heap z ti to j1 j2 q1 q2 .none k xs ys) (hx:xs[k]?=Y x) (hy:ys[k]?=Y y)
  (B:∀ g,MI b1 b2 g z ti to j1 j2 q1 q2 (UD s.heap.objs.size) (k+1) xs ys->V8 g s.heap.objs.size x y->(∀ c o,c≠z->c≠to->c≠j1->c≠j2->s.heap.get? c=Y o->g.get? c=Y o)->Q (Y (.ref s.heap.objs.size)) { s with heap:=g }):
  Sb (SD prog w) A (U_ (.ref z)) Q E s:=by
 obtain⟨d,hi,⟨pa,I,ho⟩,G,u⟩:=J;have ht:s.TypeIs (.ref z) "zip":=⟨_,d,O⟩
 unfold U_;refine HD (UA (SI (name:=TJ "__next__") ht T4 (SZ T4 ht VI ?_ (Vs _))));show Sb _ _ (field (.ref z) 2>>=_) _ _ s;refine HD (S' d rfl (x:=.bool false) O ?_);show Sb _ _ (field (.ref z) 3>>=_) _ _ s;refine HD (S' d rfl (x:=.ref ti) O ?_);refine HD (Tl hi rfl ?_);show Sb _ _ (Sr (.ref z)>>=_) _ _ s;refine HD ?_;unfold Sr;refine HD (S' d rfl (x:=.none) O (RT ?_));simp only[VF];refine HD (Vy (HD (S' d rfl (x:=.ref to) O ?_)));refine HD (SU d zyB λg1 C j=>?_);have C:XZ g1 z ti to .ellipsis:=C;refine HD ?_;simp only[XF,X4,Vv,VQ];refine HD (HD (VH ?_));show Sb _ _ (Sw (.ref j1)>>=_) _ _ { s with heap:=g1 };refine HD ((G.ext j.extBut D.a3 D.c1).next hx λg2 i2 f=>RT ?_);have o2:V8 g2 to pa I:=f.extBut _ _ D.a8 (j.extBut _ _ D.a2 ho);refine HD (Tl o2 rfl (HD (XM o2 λg3 o3 h=>?_)));have o3:V8 g3 to x I:=o3;refine HD (Wd (RT ?_));refine HD (HD (VH ?_));show Sb _ _ (Sw (.ref j2)>>=_) _ _ { s with heap:=g3 };refine HD ((((u.ext j.extBut D.a4 D.d1).ext f.extBut D.b1.symm D.d3).ext h.extBut D.a9.symm D.d2).next hy λg4 i4 i=>RT ?_);have o4:V8 g4 to x I:=i.extBut _ _ D.a9 o3;refine HD (Tl o4 rfl (HD (XM o4 λa t l=>?_)));have t:V8 a to x y:=t;refine HD (Wd (RT (RT ?_)));refine HD (Tl t rfl (HD (Xp ?_)));have sz:a.objs.size=s.heap.objs.size:=by rw[l.1,i.1,h.1,f.1,j.1]
 have z5:XZ a z ti to .ellipsis:=l.extBut _ _ D.a2.symm (i.extBut _ _ D.a4.symm (h.extBut _ _ D.a2.symm (f.extBut _ _ D.a3.symm C)));have k5:∀ c o,c≠z->c≠to->c≠j1->c≠j2->s.heap.get? c=Y o->a.get? c=Y o:=λc o q p v H e=>
  l.extBut _ _ p (i.extBut _ _ H (h.extBut _ _ p (f.extBut _ _ v (j.extBut _ _ q e))))
 have i5:nY b1 a j1 q1 (k+1) xs:=((i2.ext h.extBut D.a8.symm D.c2).ext i.extBut D.b1 D.c4).ext l.extBut D.a8.symm D.c2;have i6:nY b2 a j2 q2 (k+1) ys:=i4.ext l.extBut D.a9.symm D.d2;have M:z<a.objs.size:=RX z5;show Sb _ _ (Ug (.ref z) (.ref a.objs.size)>>=_) _ _ _;refine HD ?_;unfold Ug;have z6:XZ (a.push { cls:=.type "tuple",data:=.seq #[x,y] }) z ti to .ellipsis:=RS _ z5;refine HD (SU z6 zyB λg7 F L=>?_);have F:XZ g7 z ti to (UD a.objs.size):=F;refine SU F zyB λm r T=>?_
 have r:XZ m z ti to (UD a.objs.size):=r;have b:∀ c o,c≠z->a.get? c=Y o->m.get? c=Y o:=λc o n e=>T.extBut _ _ n (L.extBut _ _ n (RS _ e))
 have N:V8 m a.objs.size x y:=T.extBut _ _ (SM M) (L.extBut _ _ (SM M) (RW _ O));rw[sz] at r N;refine RT ⟨_,O,RT ?_⟩;show Q (Y (.ref a.objs.size)) _;rw[sz];exact B m ⟨r,b _ _ D.a1 (k5 _ _ D.a1 D.a5 D.a6 D.a7 hi),⟨x,y,b _ _ D.a2 t⟩,i5.keep (λo e=>b _ o D.a3 e) (λo e=>b _ o D.c1 e),i6.keep (λo e=>b _ o D.a4 e) (λo e=>b _ o D.d1 e)⟩ N
  λc o q p v H e=>b c o q (k5 c o q p v H e)
theorem O0 (hh:A.handled=none) (D:Mt z ti to j1 j2 q1 q2) (C:MI b1 b2 s.heap z ti to j1 j2 q1 q2 .none k xs ys) (hv:xs[k]?=none\/ys[k]?=none)
  (v:∀ g,(∀ c o,c≠z->c≠to->c≠j1->c≠j2->s.heap.get? c=Y o->g.get? c=Y o)->Q none { s with heap:=g }):Sb (SD prog w) A (U_ (.ref z)) Q E s:=by
 obtain⟨l,hi,⟨pa,pb,ho⟩,n,r⟩:=C;have M:s.TypeIs (.ref z) "zip":=⟨_,l,O⟩
 have a:∀ (g:Uc) (e:Sd),(∀ c o,c ≠ z->c ≠ to->c ≠ j1->c ≠ j2->s.heap.get? c=Y o->g.get? c=Y o)->(∃ o,g.get? e=Y o/\o.cls=.type "StopIteration") ->
   Sb (SD prog w) A (do if <- ZO (.ref e) (.type "StopIteration") then pure none else throw (.ref e)) Q E { s with heap:=g }:=λg e kk ⟨o,h1,h2⟩=>
  HD (U0 (T:="StopIteration") (b:=true) ⟨o,h1,h2⟩ Wo (RT (v g kk)))
 unfold U_;refine HD (UA (SI (name:=TJ "__next__") M T4 (SZ T4 M VI ?_ (Vs _))));show Sb _ _ (field (.ref z) 2>>=_) _ _ s;refine HD (S' l rfl (x:=.bool false) O ?_);show Sb _ _ (field (.ref z) 3>>=_) _ _ s;refine HD (S' l rfl (x:=.ref ti) O ?_);refine HD (Tl hi rfl ?_);show Sb _ _ (Sr (.ref z)>>=_) _ _ s;refine HD ?_;unfold Sr;refine HD (S' l rfl (x:=.none) O (RT ?_));simp only[VF];refine HD (Vy (HD (S' l rfl (x:=.ref to) O ?_)));refine HD (SU l zyB λL p j=>?_);have p:XZ L z ti to .ellipsis:=p;refine HD ?_;simp only[XF,X4,Vv,VQ];refine HD (HD (VH ?_));show Sb _ _ (Sw (.ref j1)>>=_) _ _ { s with heap:=L };cases hx:xs[k]? with
 |none=>
  refine HD ((n.ext j.extBut D.a3 D.c1).stops hh hx λq e h y=>?_);obtain⟨B,d,f⟩:=y;have G:XZ q z ti to .ellipsis:=h _ _ D.a3.symm p;have ne:e≠z:=λc=>by subst c;rw[G] at d;cases d;simp at f
  exact SU G zyB λF _ i=>a F e (λc o m _ t _ u=>i.extBut _ _ m (h _ _ t (j.extBut _ _ m u))) ⟨B,i.extBut _ _ ne d,f⟩
 |some x=>
  have hy:ys[k]?=none:=hv.resolve_left (by rw[hx];exact λc=>nomatch c);refine HD ((n.ext j.extBut D.a3 D.c1).next hx λq i2 h=>RT ?_);have J:V8 q to pa pb:=h.extBut _ _ D.a8 (j.extBut _ _ D.a2 ho);refine HD (Tl J rfl (HD (XM J λF o3 i=>?_)));refine HD (Wd (RT ?_));refine HD (HD (VH ?_));show Sb _ _ (Sw (.ref j2)>>=_) _ _ { s with heap:=F };refine HD ((((r.ext j.extBut D.a4 D.d1).ext h.extBut D.b1.symm D.d3).ext i.extBut D.a9.symm D.d2).stops hh hy λg4 e H y=>?_);obtain⟨B,d,f⟩:=y;have G:XZ g4 z ti to .ellipsis:=H _ _ D.a4.symm (i.extBut _ _ D.a2.symm (h.extBut _ _ D.a3.symm p));have ne:e≠z:=λc=>by subst c;rw[G] at d;cases d;simp at f
  exact SU G zyB λg5 _ I=>a g5 e (λc o m N t n4 u=>I.extBut _ _ m (H _ _ n4 (i.extBut _ _ N (h.extBut _ _ t (j.extBut _ _ m u))))) ⟨B,I.extBut _ _ ne d,f⟩
end
def bY (K:KE)(H:Hp)(a:Sd)(xs:List V):Bool->Prop
 |true=>bI K H a xs
 |false=>eM K H a xs
def Bu (h:Uc)(j q:Sd)(k:Nat):Bool->Prop
 |true=>h.IsListIter j q k
 |false=>h.IsTupleIter j q k
theorem Bu.keep:∀ {b:Bool},Bu h j q k b->(∀ o,h.get? j=Y o->g.get? j=Y o)->Bu g j q k b
 |true,⟨o,e,r⟩,f=>⟨o,f o e,r⟩
 |false,⟨o,e,r⟩,f=>⟨o,f o e,r⟩
theorem Bu.fields:∀ {b:Bool},Bu h j q k b->∃ o vs,h.get? j=Y o/\o.data=.fields vs
 |true,⟨o,e,_,d⟩=>⟨o,_,e,d⟩
 |false,⟨o,e,_,d⟩=>⟨o,_,e,d⟩
section
variable {X:Cx}{pins:List (Sd×Obj)}{σ:L2.St}{H:Hp}{s:RZ}
theorem ib (I:aK X pins σ H s):∀ {b:Bool},bY X.K H q xs b->Bu s.heap j q k b->∃ a:List RV,aU xs a/\nY b s.heap j q k a.toArray
 |true,h,i=>by
  obtain⟨a,c,p,_⟩:=I.list h;exact⟨a,c,i,p.isList⟩
 |false,h,i=>by
  obtain⟨a,c,p,_⟩:=I.tuple h;exact⟨a,c,i,p⟩
theorem Fn (x:nY b h j q k its):Bu h j q k b:=by
 cases b with
 |true=>exact x.1
 |false=>exact x.1
theorem qB (I:aK X pins σ H s):∀ {b:Bool},bY X.K H q xs b->bY X.K H q ys b->xs=ys
 |true,h,a=>I.list_inj h a
 |false,h,a=>I.tuple_inj h a
theorem rH (I:aK X pins σ H s):∀ {b:Bool},bY X.K H q xs b->∃ o a n,s.heap.get? q=Y o/\o.data=.seq a n
 |true,h=>by
  obtain⟨a,c,⟨o,n,e,_,_,d⟩,_⟩:=I.list h;exact⟨o,_,n,e,d⟩
 |false,h=>by
  obtain⟨a,c,⟨o,e,_,n,d⟩,_⟩:=I.tuple h;exact⟨o,_,n,e,d⟩
theorem eh (I:aK X pins σ H s) (d:H T=none) (g:X.s₀.heap.objs.size <= T) (j:T ≠ X.env.locals) (k:∀ x c,X.env.cells.lookup x=Y c->c ≠ T) (f:∀ p ∈ X.pn ++ pins,p.1 ≠ T)
  (ok:cq X.prog X.w (upd H T o) s.heap T o):aK X pins σ (upd H T o) s:=by
 have J:=I.step (h':=s.heap) (g':=s.gens) (t':=s.toks) (d':=s.drawn) (H':=upd H T o) (ch:=[T]) (λb a=>?_) (λb o _ _ _ e _=>e) (λb o _ _ _ e _=>⟨o.slots,e⟩) (λb o a _ n=>by rw[ar (show b≠T from λz=>a (by simp[z]))];exact n)
  (λb o _ e=>⟨o,e⟩) (λb i e=>by rw[ar (aS e d)];exact e) (λb u w e=>by rw[ar (aS e d)];exact e) (λb l e=>⟨#[],by rw[ar (aS e d),e];simp⟩) (λm h=>h) (λb u e=>?_) I.bare
 ·exact J
 ·cases RY.mp a;exact⟨.inr g,j,k,f⟩
 ·by_cases a:b=T
  ·subst a;rw[ag] at e;cases e;exact ok
  ·rw[ar a] at e;exact(I.hok b u e).stay (λ_ _ _ q=>q) (λc q=>by rw[ar (aS q d)];exact q) λc i q=>by rw[ar (aS q d)];exact q
end
def Ol (K:KE)(b1 b2:Bool)(c d:Sd):It:=
 ⟨λi H=>∃ b a x y,bY K H c b b1/\bY K H d a b2/\b[i]?=Y x/\a[i]?=Y y,
  λi H v e=>∃ x y T,(∀ b,bY K H c b b1->b[i]?=Y x)/\(∀ a,bY K H d a b2->a[i]?=Y y)/\H T=none/\v=.ref T/\e=upd H T (.tup [x,y]),
  λi H=>∃ b a,bY K H c b b1/\bY K H d a b2/\(b.length<=i\/a.length<=i)⟩
def QP (z ti to j1 j2 c d:Sd)(b1 b2:Bool)(k:Nat)(h:Uc):Prop:=XZ h z ti to .none/\V8 h ti (.ref j1) (.ref j2)/\(∃ a b,V8 h to a b)/\Bu h j1 c k b1/\Bu h j2 d k b2
theorem IQ {K:KE}{tk:Nat} (D:ti ≠ z/\to ≠ z/\j1 ≠ z/\j2 ≠ z/\ti ≠ to/\ti ≠ j1/\ti ≠ j2/\to ≠ j1/\to ≠ j2/\j1 ≠ j2) :
  yc P w K (.Tuple elts tk pos) (Ol K b1 b2 q1 q2) [z,ti,to,j1,j2] z (QP z ti to j1 j2 q1 q2 b1 b2) where
 mem:=zyB
 obj:=λi h st b f=>by
  obtain⟨h1,h2,⟨a,c,h3⟩,h4,h5⟩:=st;simp only[R',Sg,TK] at f;rcases f with rfl|rfl|rfl|rfl|rfl
  ·exact⟨_,h1,λv e=>nomatch e⟩
  ·exact⟨_,h2,λv e=>nomatch e⟩
  ·exact⟨_,h3,λv e=>nomatch e⟩
  ·obtain⟨o,vs,e,d⟩:=h4.fields;exact⟨o,e,λv u=>by rw[d] at u;cases u⟩
  ·obtain⟨o,vs,e,d⟩:=h5.fields;exact⟨o,e,λv u=>by rw[d] at u;cases u⟩
 keep:=λi h h' st k=>by
  obtain⟨h1,h2,⟨a,c,h3⟩,h4,h5⟩:=st;exact⟨k z zyB _ h1,k ti zyB _ h2,⟨a,c,k to zyB _ h3⟩,h4.keep λo e=>k j1 zyB o e,h5.keep λo e=>k j2 zyB o e⟩
 item:=by
  intro X hP hw hK hc i L s σ H E I B st hg;subst hP hw hK;obtain⟨xs,ys,x,y,l,p,hx,hy⟩:=hg;obtain⟨hz,hi,⟨a,c,ho⟩,t1,t2⟩:=st;obtain⟨us,r1,s1⟩:=ib I l t1;obtain⟨vs,r2,s2⟩:=ib I p t2;obtain⟨u,eu,ru⟩:=r1.get hx;obtain⟨v,ev,rv⟩:=r2.get hy;obtain⟨d1,d2,d3,d4,d5,d6,d7,d8,d9,d10⟩:=D;have tr:∀ {q:Sd}{J:List V}{b:Bool},bY X.K H q J b->∀ T∈[z,ti,to,j1,j2],(∃ o ws,s.heap.get? T=Y o/\o.data=.fields ws)->q≠T:=λ{q J b} hq T _ ⟨o,ws,e,d⟩ n=>by
   obtain⟨M,r,nn,A,d'⟩:=rH I hq;rw[n,e] at A;cases A;rw[d] at d';cases d'
  have zf:∃ o ws,s.heap.get? z=Y o/\o.data=.fields ws:=⟨_,_,hz,O⟩
  have C:∀ {q:Sd}{J:List V}{b:Bool},bY X.K H q J b->q≠to:=λ{q J b} hq n=>by
   have G:H to=none:=(B to zyB).1;have ft:=(B to zyB).2;cases b with
   |true=>
    obtain⟨r,_,⟨M,nn,A,cc,_,d'⟩,_⟩:=I.list hq;rw[n,ho] at A;cases A;simp at cc
   |false=>
    rcases hq with (hq|⟨M,hq⟩)|⟨M,r,nn,kk,_⟩
    ·rw[n,G] at hq;cases hq
    ·rw[n,G] at hq;cases hq
    ·have bb:=I.mod.kin q M kk;rw[n] at bb;rcases ft.2.2.1 with e|e
     ·exact I.ok.noex to M bb e
     ·exact absurd (R6 (RX bb) (Sv I.ok.bsz e)) (Th _)
  have AP:Mt z ti to j1 j2 q1 q2:=⟨d1,d2,d3,d4,d5,d6,d7,d8,d9,d10,tr l z zyB zf,C l,tr l j2 zyB t2.fields,tr p z zyB zf,C p,tr p j1 zyB t1.fields⟩
  refine Mr AP ⟨hz,hi,⟨a,c,ho⟩,s1,s2⟩ (x:=u) (y:=v) (by simpa using eu) (by simpa using ev) λg N hp kk=>⟨_,O,?_⟩
  refine YH N.zp λg' z' sb=>?_
  have tz:s.heap.objs.size≠z:=SM (RX hz);have fp0:∀ b∈[z,ti,to,j1,j2],b≠s.heap.objs.size:=λb f n=>by
   simp only[R',Sg,TK] at f;rcases f with rfl|rfl|rfl|rfl|rfl
   ·exact tz n.symm
   ·exact Th _ (n▸RX hi)
   ·exact Th _ (n▸RX ho)
   ·obtain⟨o,_,e,_⟩:=t1.fields;exact Th _ (n▸RX e)
   ·obtain⟨o,_,e,_⟩:=t2.fields;exact Th _ (n▸RX e)
  have k2:∀ b o,b∉[z,ti,to,j1,j2]->s.heap.get? b=Y o->g'.get? b=Y o:=λb o f e=>
   sb.extBut b o (λn=>f (by simp[n])) (kk b o (λn=>f (by simp[n])) (λn=>f (by simp[n])) (λn=>f (by simp[n])) (λn=>f (by simp[n])) e)
  have Q:∀ b u',H b=Y u'->b∉[z,ti,to,j1,j2]:=λb u' e f=>by rw[(B b f).1] at e;cases e
  have I1:aK X L σ H { s with heap:=g' }:=by
   refine I.step (g':=s.gens) (d':=s.drawn) (t':=s.toks) (ch:=[z,ti,to,j1,j2]) (λb f=>?_) (λb o _ _ f e _=>k2 b o f e) (λb o _ _ f e _=>⟨o.slots,k2 b o f e⟩) (λ_ _ _ _ n=>n) (λb o f e=>⟨o,k2 b o f e⟩) (λ_ _ e=>e) (λ_ _ _ e=>e)
    (λb ps e=>⟨#[],by rw[e];simp⟩) (λm hm=>?_) (λb u' e=>?_) I.bare
   ·obtain⟨_,g1,_,g3,g4,g5⟩:=B b f;exact⟨g3,g1,g4,g5⟩
   ·obtain⟨o,es,ep,ho',r'⟩:=hm;exact⟨o,es,ep,k2 _ o (λn=>(B _ n).2.1 O) ho',r'⟩
   ·refine(I.hok b u' e).stay (λc' v' t q=>k2 c' v' ?_ q) (λ_ q=>q) λ_ _ q=>q
    rcases t with rfl|t
    ·exact Q _ _ e
    ·exact Q _ _ t
  have hT:g'.get? s.heap.objs.size=Y { cls:=.type "tuple",data:=.seq #[u,v] }:=sb.extBut _ _ tz hp;have fT:H s.heap.objs.size=none:=I.hok.fresh (R0 _);have F:=I.fpOk (b:=s.heap.objs.size) (H':=H) (R0 _) fT;have I2:aK X L σ (upd H s.heap.objs.size (.tup [x,y])) { s with heap:=g' }:=eh I1 fT I.sz F.2.1 F.2.2.2.2.1 F.2.2.2.2.2 ⟨(Z:2<=Sk),[u,v],.cons ru (.cons rv .nil),⟨_,hT,O,_,O⟩⟩;have cl:∀ {j q:Sd}{b:Bool}{r:Array RV},nY b g j q (i+1) r->j≠z->Bu g' j q (i+1) b:=λ{j q b r} x n=>(Fn x).keep λo e=>sb.extBut _ _ n e
  exact⟨.ref s.heap.objs.size,_,I2,O,⟨x,y,s.heap.objs.size,λxs' h'=>by rw[qB I h' l];exact hx,λys' h'=>by rw[qB I h' p];exact hy,fT,O,O⟩,
   ⟨z',sb.extBut _ _ d1 N.pi,(let ⟨a',T,A⟩:=N.po;⟨a',T,sb.extBut _ _ d2 A⟩),cl N.s1 d3,cl N.s2 d4⟩,λb f=>by rw[ar (fp0 b f)];exact(B b f).1⟩
 done:=by
  intro X hP hw hK hc i L s σ H E I B st hg;subst hP hw hK;obtain⟨xs,ys,l,p,hl⟩:=hg;obtain⟨hz,hi,⟨a,c,ho⟩,t1,t2⟩:=st;obtain⟨us,r1,s1⟩:=ib I l t1;obtain⟨vs,r2,s2⟩:=ib I p t2;have l1:=r1.length;have l2:=r2.length;obtain⟨d1,d2,d3,d4,d5,d6,d7,d8,d9,d10⟩:=D;have tr:∀ {q:Sd}{J:List V}{b:Bool},bY X.K H q J b->∀ T∈[z,ti,to,j1,j2],(∃ o ws,s.heap.get? T=Y o/\o.data=.fields ws)->q≠T:=λ{q J b} hq T _ ⟨o,ws,e,d⟩ n=>by
   obtain⟨M,r,nn,A,d'⟩:=rH I hq;rw[n,e] at A;cases A;rw[d] at d';cases d'
  have zf:∃ o ws,s.heap.get? z=Y o/\o.data=.fields ws:=⟨_,_,hz,O⟩
  have C:∀ {q:Sd}{J:List V}{b:Bool},bY X.K H q J b->q≠to:=λ{q J b} hq n=>by
   have G:H to=none:=(B to zyB).1;have ft:=(B to zyB).2;cases b with
   |true=>
    obtain⟨r,_,⟨M,nn,A,cc,_,d'⟩,_⟩:=I.list hq;rw[n,ho] at A;cases A;simp at cc
   |false=>
    rcases hq with (hq|⟨M,hq⟩)|⟨M,r,nn,kk,_⟩
    ·rw[n,G] at hq;cases hq
    ·rw[n,G] at hq;cases hq
    ·have bb:=I.mod.kin q M kk;rw[n] at bb;rcases ft.2.2.1 with e|e
     ·exact I.ok.noex to M bb e
     ·exact absurd (R6 (RX bb) (Sv I.ok.bsz e)) (Th _)
  have AP:Mt z ti to j1 j2 q1 q2:=⟨d1,d2,d3,d4,d5,d6,d7,d8,d9,d10,tr l z zyB zf,C l,tr l j2 zyB t2.fields,tr p z zyB zf,C p,tr p j1 zyB t1.fields⟩
  have Q:∀ b u',H b=Y u'->b∉[z,ti,to,j1,j2]:=λb u' e f=>by rw[(B b f).1] at e;cases e
  refine O0 (I.ok.hd hc) AP ⟨hz,hi,⟨a,c,ho⟩,s1,s2⟩ (by simp;lia) λg kk=>⟨O,?_⟩
  have k2:∀ b o,b∉[z,ti,to,j1,j2]->s.heap.get? b=Y o->g.get? b=Y o:=λb o f e=>
   kk b o (λn=>f (by simp[n])) (λn=>f (by simp[n])) (λn=>f (by simp[n])) (λn=>f (by simp[n])) e
  refine I.step (g':=s.gens) (d':=s.drawn) (t':=s.toks) (ch:=[z,ti,to,j1,j2]) (λb f=>?_) (λb o _ _ f e _=>k2 b o f e) (λb o _ _ f e _=>⟨o.slots,k2 b o f e⟩) (λ_ _ _ _ n=>n) (λb o f e=>⟨o,k2 b o f e⟩) (λ_ _ e=>e) (λ_ _ _ e=>e)
   (λb ps e=>⟨#[],by rw[e];simp⟩) (λm hm=>?_) (λb u' e=>?_) I.bare
  ·obtain⟨_,g1,_,g3,g4,g5⟩:=B b f;exact⟨g3,g1,g4,g5⟩
  ·obtain⟨o,es,ep,ho',r'⟩:=hm;exact⟨o,es,ep,k2 _ o (λn=>(B _ n).2.1 O) ho',r'⟩
  ·refine(I.hok b u' e).stay (λc' v' t q=>k2 c' v' ?_ q) (λ_ q=>q) λ_ _ q=>q
   rcases t with rfl|t
   ·exact Q _ _ e
   ·exact Q _ _ t
 self:=λ_ _ _ _ _ st h=>Wu st.1 h
theorem Dn:Tq "zip"=Y (.type "zip"):=zyC
theorem j7 (h:@Ne Nat a b):@Ne Sd a b:=h
def A2 (q:Sd):Bool->Obj
 |true=>{ cls:=.type "list_iterator",data:=.fields #[.ref q,.int 0 0] }
 |false=>{ cls:=.type "tuple_iterator",data:=.fields #[.ref q,.int 0 0] }
def D5 (h:Uc)(q:Sd)(a:Array RV):Bool->Prop
 |true=>h.IsList q a
 |false=>h.IsTuple q a
abbrev zA (h:Uc)(a:Sd)(b1:Bool):Uc:=h.push (A2 a b1)
abbrev zB (h:Uc)(a b:Sd)(b1 b2:Bool):Uc:=(zA h a b1).push (A2 b b2)
abbrev zC (h:Uc)(a b:Sd)(b1 b2:Bool):Uc:=(zB h a b b1 b2).push { cls:=.type "tuple",data:=.seq #[.ref h.objs.size,.ref (zA h a b1).objs.size] }
abbrev zD (h:Uc)(a b:Sd)(b1 b2:Bool):Uc:=(zC h a b b1 b2).push { cls:=.type "tuple",data:=.seq #[.none,.none] }
abbrev zE (h:Uc)(a b:Sd)(b1 b2:Bool):Uc:=(zD h a b b1 b2).push { cls:=.type "zip",data:=.fields #[.none,.bool false,.bool false,.ref (zB h a b b1 b2).objs.size,.ref (zC h a b b1 b2).objs.size] }
theorem P9 (a c:Sd) (xs ys:Array RV) (b1 b2:Bool):Meets (Va.«zip.__new__» ⟨[.type "zip",.ref a,.ref c],[]⟩)
  (λ_ R s=>D5 s.heap a xs b1/\D5 s.heap c ys b2/\R (.ok (.ret (.ref (zD s.heap a c b1 b2).objs.size))) { s with heap:=zE s.heap a c b1 b2 }):=
 .of_wp λj w A R s h=>by
  obtain⟨b,g,d,e,os⟩:=s;obtain⟨f,i,h⟩:=h;have k:=sub_zip;cases b1<;>cases b2
  ·have k1:Yj (Vm ⟨b,g,d,e,os⟩) a xs:=f;have k2:Yj (Vm ⟨b.push { cls:=.type "tuple_iterator",data:=.fields #[.ref a,.int 0 0] },g,d,e,os⟩) c ys:=aaH i _
   wp_walk using Vh k1,Vh k2
   exact⟨_,O,h⟩
  ·have k1:Yj (Vm ⟨b,g,d,e,os⟩) a xs:=f;have k2:XY (Vm ⟨b.push { cls:=.type "tuple_iterator",data:=.fields #[.ref a,.int 0 0] },g,d,e,os⟩) c ys:=Wq i _
   wp_walk using Vh k1,Us k2
   exact⟨_,O,h⟩
  ·have k1:XY (Vm ⟨b,g,d,e,os⟩) a xs:=f;have k2:Yj (Vm ⟨b.push { cls:=.type "list_iterator",data:=.fields #[.ref a,.int 0 0] },g,d,e,os⟩) c ys:=aaH i _
   wp_walk using Us k1,Vh k2
   exact⟨_,O,h⟩
  ·have k1:XY (Vm ⟨b,g,d,e,os⟩) a xs:=f;have k2:XY (Vm ⟨b.push { cls:=.type "list_iterator",data:=.fields #[.ref a,.int 0 0] },g,d,e,os⟩) c ys:=Wq i _
   wp_walk using Us k1,Us k2
   exact⟨_,O,h⟩
section
variable {prog:SA}{w:Te}{A:Tf}{E:RV->RZ->Prop}{s:RZ}
theorem L8 (r:D5 s.heap q1 xs b1) (t:D5 s.heap q2 ys b2)
  (e:∀ g,XZ g (s.heap.objs.size+4) (s.heap.objs.size+2) (s.heap.objs.size+3) .none->V8 g (s.heap.objs.size+2) (.ref s.heap.objs.size) (.ref (s.heap.objs.size+1)) ->
   V8 g (s.heap.objs.size+3) .none .none->g.get? s.heap.objs.size=Y (A2 q1 b1)->g.get? (s.heap.objs.size+1)=Y (A2 q2 b2)->(∀ c o,s.heap.get? c=Y o->g.get? c=Y o)->Q (.ref (s.heap.objs.size+4)) { s with heap:=g }) :
  Sb (SD prog w) A (call (.type "zip") [.ref q1,.ref q2]) Q E s:=by
 refine callType_new F.called_zip Z (F.typeCall_zip_2 _ _) (F.newCall_zip_2 _ _) (λf=>F.args_object_init_3 f _ _) F.entry_zip_new (P9 q1 q2 xs ys b1 b2) ⟨r,t,?_⟩;have h:(zA s.heap q1 b1).objs.size=s.heap.objs.size+1:=SR ..;have a:(zB s.heap q1 q2 b1 b2).objs.size=s.heap.objs.size+2:=by rw[SR,h]
 have d:(zC s.heap q1 q2 b1 b2).objs.size=s.heap.objs.size+3:=by rw[SR,a]
 have k:(zD s.heap q1 q2 b1 b2).objs.size=s.heap.objs.size+4:=by rw[SR,d]
 have n:∀ b q,(A2 q b).isFreed=false:=λb q=>by cases b<;>rfl
 have i:(zE s.heap q1 q2 b1 b2).get? (zD s.heap q1 q2 b1 b2).objs.size=Y _:=RW _ O;have m:(zE s.heap q1 q2 b1 b2).get? (zC s.heap q1 q2 b1 b2).objs.size=Y _:=RS _ (RW _ O);have j:(zE s.heap q1 q2 b1 b2).get? (zB s.heap q1 q2 b1 b2).objs.size=Y _:=RS _ (RS _ (RW _ O));have l:(zE s.heap q1 q2 b1 b2).get? (zA s.heap q1 b1).objs.size=Y (A2 q2 b2):=RS _ (RS _ (RS _ (RW _ (n _ _))));have p:(zE s.heap q1 q2 b1 b2).get? s.heap.objs.size=Y (A2 q1 b1):=RS _ (RS _ (RS _ (RS _ (RW _ (n _ _)))));show _/\_;rw[a,d,k] at i;rw[h,a] at j;rw[d] at m;rw[h] at l;rw[k];exact⟨⟨_,i,O⟩,e _ i j m p l λc o x=>RS _ (RS _ (RS _ (RS _ (RS _ x))))⟩
end
section
variable {X:Cx}{tg:U2}
theorem kc (I:aK X pins σ H s):∀ {b:Bool},bY X.K H q xs b->∃ a:List RV,aU xs a/\D5 s.heap q a.toArray b
 |true,h=>by
  obtain⟨a,c,p,_⟩:=I.list h;exact⟨a,c,p.isList⟩
 |false,h=>by
  obtain⟨a,c,p,_⟩:=I.tuple h;exact⟨a,c,p⟩
def PN (K:KE)(f:TA):TI:=λi H R=>f i H λvs a=>∃ b c d e,vs=[.ref b,.ref c]/\(∃ g,bY K a b g d)/\(∃ h,bY K a c h e)/\R (Ol K d e b c) a
theorem MC (hg:Gl X "zip") (E:X.mg "zip"=none) (y:PA X [a,b] ta) (hs:Ss [a,b] X.env=[(false,V1 a X.env),(false,V1 b X.env)]:=by rfl) (d:Ss [b] X.env=[(false,V1 b X.env)]:=by rfl) :
  PI X (.Tuple elts tk tpos) (.Call (.Name "zip" p) [a,b] [] pos) (PN X.K ta):=by
 intro f s L H R I h;refine Call_ (iG I hg E Dn (Ts (cu (y pos f s L H _ I h) λus c k=>?_) (by rw[hs,d]) (by rw[d];rfl)));obtain⟨vs,C,i,G,J⟩:=k;obtain⟨qa,qb,b1,b2,rfl,⟨xs,o⟩,⟨ys,M⟩,q⟩:=J;obtain⟨u,v,rfl,N,Q⟩:=mK G;cases N;cases Q;obtain⟨its,_,A⟩:=kc i o;obtain⟨F,_,r⟩:=kc i M;refine L8 A r λg l B x D t T=>?_
 refine Wu l ?_;have n:∀ {j q:Sd}{b:Bool},g.get? j=Y (A2 q b)->Bu g j q 0 b:=λ{j q b} e=>by cases b<;>exact⟨_,e,O,O⟩
 refine⟨c.heap.objs.size+4,[c.heap.objs.size+4,c.heap.objs.size+2,c.heap.objs.size+3,c.heap.objs.size,c.heap.objs.size+1],_,_,C,O,i.kept (t':=c.toks) T,
  IQ (z:=c.heap.objs.size+4) (ti:=c.heap.objs.size+2) (to:=c.heap.objs.size+3) (j1:=c.heap.objs.size) (j2:=c.heap.objs.size+1) ⟨j7 zyA,j7 zyA,j7 zyA,j7 zyA,j7 zyA,j7 zyA,j7 zyA,j7 zyA,j7 zyA,j7 zyA⟩,⟨l,B,⟨_,_,x⟩,n D,n t⟩,λb m=>?_,q⟩
 have le:c.heap.objs.size<=b:=by
  simp only[R',Sg,TK] at m;rcases m with e|e|e|e|e<;>(rw[e];lia)
 exact i.fpOk le (i.hok.fresh le)
def yK (K:KE)(a:Sd):Bool->It
 |true=>PU K a
 |false=>P4 K a
inductive RH (K:KE)(x:V)(H:Hp)(R:It->Hp->Prop):Prop
 |mk (a:Sd) (b:Bool) (_:x=.ref a) (_:∃ xs,bY K H a xs b) (_:R (yK K a b) H)
def MH (K:KE)(a:TE):TI:=λc H R=>a c H λx b=>RH K x b R
theorem M3 (n:PE X l tl):PI X tg l (MH X.K tl):=by
 intro d s t H R I h;refine cu (n d s t H _ I h) λv f j=>?_;obtain⟨x,i,g,p,r⟩:=j
 obtain⟨a,b,e,⟨A,hq⟩,q⟩:=r;subst e;cases p;obtain⟨y,z,k⟩:=kc g hq;have m:∀ c∈[f.heap.objs.size],ql X d i c:=λc u=>by
  cases RY.mp u;exact g.fpOk (R0 _) (g.hok.fresh (R0 _))
 cases b with
 |true=>exact Us k ⟨f.heap.objs.size,[f.heap.objs.size],_,_,i,O,g.kept (t':=f.toks) λb o e=>RS _ e,Gc a _,⟨_,RW _ O,O,O⟩,m,q⟩
 |false=>exact Vh k ⟨f.heap.objs.size,[f.heap.objs.size],_,_,i,O,g.kept (t':=f.toks) λb o e=>RS _ e,DV a _,⟨_,RW _ O,O,O⟩,m,q⟩
end
theorem zx (K:KE)(a:String):∀ bs:List String,Vj K (.type a) (bs.map T9)=xQ a bs
 |[]=>rfl
 |b::r=>by
  show(match Vk K (.type a) (.type b) with|some true=>Y true|some false=>Vj K (.type a) (r.map T9)|none=>none)=_;rw[Ch,zx K a r];rfl
section
variable {X:Cx}
def L6 (K:KE):List V->Hp->VK->Prop:=λd H Q=>∃ x T p c a b,d=[x,.ref p]/\Ty K H x T/\H p=Y (.tup [.ty c,.ty a])/\xQ T [c,a]=Y b/\Q (.bl b) H
theorem Kw (I:aK X pins σ H s) (e:bJ x u) (ty:qg X.K H x t) (i:s.heap.get? tp=Y ⟨.type "tuple",dd,.seq its.toArray nn,sl⟩) (d:Vj X.K t its=Y b) (h:∀ f,Q (.bool b) { s with toks:=f }) :
  Sb (SD X.prog X.w) A (call (.builtin "isinstance") [u,.ref tp]) Q E s:=by
 obtain⟨g,a,b,c⟩:=HE I e ty;exact PySem.W.kia_tup a I.kIn b i d c h
theorem FQ:dP X (.builtin "isinstance") (L6 X.K):=by
 intro d s D H G C Q I r h;obtain⟨x,T,p,c,f,b,rfl,ty,o,e,q⟩:=h;obtain⟨u,v,rfl,l,t⟩:=mK r;cases(show v=SC p from t);obtain⟨_,y,i,⟨E,F,B,J⟩,m,g,n,a⟩:=I.hok p _ o;obtain⟨u1,k,rfl,j,z⟩:=mK i;cases(show u1=T9 c from j);cases(show k=T9 f from z);simp only at g a;subst g a;exact Kw I l ty m ((zx X.K T [c,f]).trans e) λA=>⟨.bl b,H,I.tok A,O,q⟩
end
theorem Gf (bs:List Bool):(UH bs.length).all (λi=>(bs[i]?).getD true)=bs.all id:=by
 rw[Bool.eq_iff_iff,Ul,Ul];constructor
 ·intro h b c;obtain⟨i,a,rfl⟩:=TY c;have:=h i (U4.mpr a)
  simpa [a] using this
 ·intro h i a;have a:=U4.mp a
  simpa [a] using h bs[i] (UY a)
section
variable {X:Cx}
theorem IF (C:X.calm=true):dP X (.builtin "all") (λxs H Q=>∃ (p:Sd) (bs:List Bool),xs=[.ref p]/\bI X.K H p (bs.map V.bl)/\Q (.bl (bs.all id)) H):=by
 intro a s t H xs G Q I r h;obtain⟨p,bs,rfl,B,q⟩:=h;obtain⟨u,rfl,z⟩:=mh r;cases z;obtain⟨c,l,d,J⟩:=I.list B;have g:=l.length;rw[R5] at g;have lt:p<s.heap.objs.size:=by
  obtain⟨o,e,_⟩:=d.isList;exact RX e
 refine call_all_walk (Us d.isList ?_);refine⟨s.heap.objs.size,_,_,_,_,_,λi=>(bs[i]?).getD true,O,Walks.list (A:=X.A.in1) (show X.A.in1.handled=none from I.ok.hd C) _ p (Si lt) c.toArray,⟨⟨_,RW _ O,O,O⟩,d.isList.push _⟩,λi v M L F k hq=>?_,λy E D=>?_⟩
 ·have j:i<bs.length:=by
   have:=(Array.getElem?_eq_some_iff.mp k).1;rw[Su] at this;lia
  obtain⟨w,n,f⟩:=l.get (i:=i) (x:=.bl bs[i]) (by simp[j]);have:c[i]?=Y v:=by simpa using k
  rw[n] at this;have m:v=XV bs[i]:=(RU this).symm.trans f;rw[m];refine UL ?_;have e:(bs[i]?).getD true=bs[i]:=by simp[j]
  exact e▸hq
 ·have f:aK X a t H { s with heap:=y,toks:=E }:=I.kept λb o e=>D b o (by simp;exact Si (RX e)) (RS _ e)
  refine⟨.bl _,H,f,?_,q⟩;show XV _=XV _;rw[<- Gf,Su,<- g]
end
section
variable {X:Cx}{pos:Pos}
def PX (K:KE)(n:Nat)(t:N5):TG:=λv c H Q=>∃ a b,v=.ref a/\(bI K H a b\/eM K H a b)/\b.length=n/\t b c H Q
theorem NU (x:X.calm=true) (h:QG X es t)
  (q:(Ve es X.env).length=n:=by rfl)(g:(Ve es X.env).findIdx? (·.1)=none:=by rfl):PG X (.Tuple es k pos) (PX X.K n t):=by
 intro c s i H v u Q I r hw;obtain⟨a,y,z,hq,p,hw⟩:=hw;subst z;cases r;rcases hq with hq|hq
 ·obtain⟨f,d,A,B⟩:=I.list hq;rw[assign_Tuple];refine HD (Vi ?_);unfold unpack;have C:(Ve es X.env).length=f.toArray.size:=by rw[q,<- p,d.length,Su]
  rw[C,g];refine HD (TC (PySem.W.kun_itemsOf (I.ok.hd x) A.isList λm j=>?_));have l:aK X c i H { s with heap:=m }:=I.kept (t':=s.toks) λb o e=>j b o (Si (RX e)) e
  exact h c _ i H y _ Q l (by simpa using d) hw
 ·obtain⟨f,d,A,B⟩:=I.tuple hq;refine assign_Tuple_tuple (I.ok.hd x) A (by simp[q,<- p,d.length]) g λm j=>?_
  have l:aK X c i H { s with heap:=m }:=I.kept (t':=s.toks) λb o e=>j b o (Si (RX e)) e
  exact h c _ i H y _ Q l (by simpa using d) hw
end
abbrev rD (q:Rat):Tr:=jV q.num (q.den:Int)
theorem iQ (q:Rat):q=(q.num:Rat)/((q.den:Int):Rat):=by rw[<- Rat.divInt_eq_div,Rat.num_divInt_den]
theorem EO {t b:Int}(c:b≠0):FO t b ((t:Rat)/(b:Rat)).num (((t:Rat)/(b:Rat)).den:Int):=by
 have hq:=iQ ((t:Rat)/(b:Rat));have j:0<((t:Rat)/(b:Rat)).den:=((t:Rat)/(b:Rat)).den_pos;have i:=((t:Rat)/(b:Rat)).reduced;generalize g:(t:Rat)/(b:Rat)=q at *;refine⟨zyA,i,?_⟩;have h:(b:Rat)≠0:=by
  intro z;exact c (by exact_mod_cast z)
 have d:((q.den:Int):Rat)≠0:=by
  intro z;have:q.den=0:=by exact_mod_cast z
  lia
 have:(q.num:Rat)*(b:Rat)=(t:Rat)*((q.den:Int):Rat):=by
  generalize (q.num:Rat)=x at *;generalize ((q.den:Int):Rat)=y at *;generalize (b:Rat)=f at *;generalize (t:Rat)=a at *;have e:a/f=x/y:=g.trans hq;grind
 exact_mod_cast this
theorem LJ {t b n d:Int}(a:b≠0)(h:FO t b n d):n=((t:Rat)/(b:Rat)).num/\d=(((t:Rat)/(b:Rat)).den:Int):=l7 a h (EO a)
abbrev Bq (k:Nat)(q:Rat):Prop:=Ok k q.num (q.den:Int)
theorem eK {t b:Int}(a:b≠0)(d:Sm k t)(c:Sm k b):Bq k ((t:Rat)/(b:Rat)):=(EO a).ok a d c
theorem jE (q:Rat):((q.den:Int):Rat)≠0:=by
 intro z;have:q.den=0:=by exact_mod_cast z
 have:=q.den_pos;lia
theorem EJ (p q:Rat):p+q=((p.num*(q.den:Int)+q.num*(p.den:Int):Int):Rat)/(((p.den:Int)*(q.den:Int):Int):Rat):=by
 have b:=jE p;have c:=jE q;have d:=iQ p;have a:=iQ q;rw[Uj,SE,SE,SE];grind
theorem EC (p q:Rat):p*q=((p.num*q.num:Int):Rat)/(((p.den:Int)*(q.den:Int):Int):Rat):=by
 have b:=jE p;have c:=jE q;have d:=iQ p;have a:=iQ q;rw[SE,SE];grind
theorem zF (p q:Rat):(p.den:Int)*(q.den:Int)≠0:=by
 have:=p.den_pos;have:=q.den_pos;exact Tx zyA zyA
theorem Bq.add {p q:Rat}(a:Bq j p)(hq:Bq k q):Bq (j+k+1) (p+q):=by
 rw[Bq,EJ];refine eK (zF p q) (Sm.add (a.sn.mul hq.sd) ((hq.sn.mul a.sd).mono zyA)) ((a.sd.mul hq.sd).mono zyA)
theorem Bq.mul {p q:Rat}(a:Bq j p)(hq:Bq k q):Bq (j+k) (p*q):=by
 rw[Bq,EC];exact eK (zF p q) (a.sn.mul hq.sn) (a.sd.mul hq.sd)
theorem QB:Bq 1 0:=⟨Z,Z,by unfold Sm;decide,by unfold Sm;decide⟩
def h_ (K:KE)(H:Hp)(q:Rat)(Q:VK):Prop:=∀ v a,ah H a->ax K a (rD q) v->Q v a
theorem h_.sh {K:KE}{t b:Int}(c:b≠0)(h:h_ K H ((t:Rat)/(b:Rat)) Q):Sh K H t b Q:=λv n d f s g e=>by
 obtain⟨i,a⟩:=LJ c e;subst i a;exact h v f s g
theorem h_.add {K:KE}{p q:Rat}(h:h_ K H (p+q) Q):Sh K H (p.num*(q.den:Int)+q.num*(p.den:Int)) ((p.den:Int)*(q.den:Int)) Q:=by
 rw[EJ] at h;exact h_.sh (zF p q) h
theorem h_.mul {K:KE}{p q:Rat}(h:h_ K H (p*q) Q):Sh K H (p.num*q.num) ((p.den:Int)*(q.den:Int)) Q:=by
 rw[EC] at h;exact h_.sh (zF p q) h
theorem cO {i:Int}(a:Gl X x)(b:∃ t,X.mg x=Y (.int i t))(c:(x==("__debug__":Str))=false:=by decide):WE X (.Name x pos) (tC (.int i)):=by
 refine⟨?_⟩;obtain⟨t,e⟩:=b;exact KZ a e ⟨t,O⟩ c
theorem aB.get {K:KE}:∀ {ds:List Tr}{xs:List V}{i:Nat}{x:V},aB K H ds xs->xs[i]?=Y x->∃ d,ds[i]?=Y d/\ax K H d x
 |_,_,_,_,.nil,e=>by simp at e
 |_,_,0,_,.cons h _,e=>by simp at e;subst e;exact⟨_,O,h⟩
 |_,_,i+1,x,.cons _ q,e=>by
  obtain⟨d,b,a⟩:=aB.get (i:=i) (x:=x) q (by simpa using e);exact⟨d,by simpa using b,a⟩
theorem aB.snoc {K:KE}{H:Hp}{d:Tr}{x:V}:∀ {ds:List Tr}{xs:List V},aB K H ds xs->ax K H d x->aB K H (ds++[d]) (xs++[x])
 |[],_,h,k=>by cases h;exact .cons k .nil
 |_::_,_,h,k=>by
  cases h with
  |cons a q=>exact .cons a (aB.snoc q k)
theorem bY.same {K:KE}(e:ah H H'):∀ {b:Bool},bY K H a xs b->bY K H' a xs b
 |true,h=>e.seq h
 |false,h=>lB e h
theorem dw (h:n<=1000):n<=Sk:=TH (bR h)
theorem cw {α:Type}{l:List α}{i:Nat}{x:α}(h:l[i]?=Y x):l.take (i+1)=l.take i++[x]:=by
 rw[List.take_succ,h];rfl
section
variable {K:KE}{g:TG}{tt:TT}{te:TE}{σ0:L2.St}{Fin:List V->Hp->Prop}{H1:Hp}
def mf (g:TG)(tt:TT)(te:TE)(σ0:L2.St)(x:V)(H:Hp)(a:V->Hp->Prop):Prop:=∀ R:VK,(∀ y e,a y e->R y e)->∀ S:Hp->Prop,g x σ0 H λc f=>tt c f λb d=>if b=true then te c d R else S d
theorem mC {a:Sd}{b:Bool}{xs:List V}{ds:List Tr}{f:Tr->Tr} (c:bY K H1 a xs b) (k:aB K H1 ds xs) (G:ds.length <= 1000)
  (he:∀ (i:Nat) (d:Tr) (x:V) (H:Hp),ds[i]?=Y d->ah H1 H->ax K H d x->mf g tt te σ0 x H λy H'=>ah H H'/\ax K H' (f d) y)
  (D:∀ ys H,ah H1 H->aB K H (ds.map f) ys->Fin ys H):ix (yK K a b) g tt te σ0 Fin H1:=by
 have u:=k.length;refine⟨λi m ys H=>m=xs.length-i/\i<=xs.length/\ah H1 H/\aB K H ((ds.take i).map f) ys,⟨xs.length,zyA,Tn _,ah.refl _,.nil⟩,?_⟩;rintro i m ys H ⟨rfl,I,s,h⟩;have r:=h.length;rw[R5,SX] at r
 by_cases j:i<xs.length
 ·have C:(yK K a b).go i H:=by
   have q:=bY.same s c;cases b with
   |true=>exact⟨xs,xs[i],q,by simp[j]⟩
   |false=>exact⟨xs,xs[i],q,by simp[j]⟩
  refine .inr ⟨C,bR zyA,λx F n=>?_⟩;have B:F=H/\xs[i]?=Y x:=by
   have q:=bY.same s c;cases b with
   |true=>exact⟨n.1,n.2 xs q⟩
   |false=>exact⟨n.1,n.2 xs q⟩
  obtain⟨rfl,A⟩:=B;obtain⟨d,l,p⟩:=k.get A;refine he i d x _ l s (ax.same s p) _ (λy H' o=>?_) λt=>∃ v,v<xs.length-i/\(v=xs.length-(i+1)/\i+1<=xs.length/\ah H1 t/\aB K t ((ds.take (i+1)).map f) ys);obtain⟨z,E⟩:=o;refine⟨xs.length-(i+1),zyA,O,j,s.trans z,?_⟩
  rw[cw l,T5];exact(aB.same z h).snoc E
 ·have e:i=xs.length:=zyA
  subst e;have l:(yK K a b).stop xs.length H:=by
   have q:=bY.same s c;cases b with
   |true=>exact⟨xs,q,R0 _⟩
   |false=>exact⟨xs,q,R0 _⟩
  rw[SY zyA] at h;exact .inl ⟨l,dw zyA,D ys H s h⟩
theorem p8 {lo:Int} (b:Nat->List V->Hp->Prop) (f:b 0 [] H1) (r:n <= 1000) (l:∀ i ys H,i <= n->b i ys H->ys.length <= i)
  (he:∀ i ys H,i<n->b i ys H->mf g tt te σ0 (.int (lo+i)) H λy H'=>b (i+1) (ys++[y]) H')(h:∀ ys H,b n ys H->Fin ys H):ix (He lo n) g tt te σ0 Fin H1:=by
 refine⟨λi m ys H=>m=n-i/\i<=n/\b i ys H,⟨n,zyA,Tn _,f⟩,?_⟩;rintro i m ys H ⟨rfl,k,p⟩;have q:=l i ys H k p
 by_cases a:i<n
 ·refine .inr ⟨a,bR zyA,λx s o=>?_⟩;obtain⟨rfl,rfl⟩:=o;exact he i ys _ a p _ (λy H' d=>⟨n-(i+1),zyA,O,a,d⟩) λj=>∃ c,c<n-i/\(c=n-(i+1)/\i+1<=n/\b (i+1) ys j)
 ·have e:i=n:=zyA
  subst e;exact .inl ⟨R0 _,dw zyA,h ys H p⟩
theorem gJ:∀ {bs:List Bool}{ys:List V},aB K H (bs.map WD) ys->ys=bs.map V.bl
 |[],_,h=>by cases h;rfl
 |b::bs,_,h=>by
  cases h with
  |cons h q=>
   cases h;rw[gJ q];rfl
end
def BD (b:Bool)(ds:List Tr):Tr:=if b=true then .list ds else .tuple ds
structure R3 where
 a:Int
 b:Int
 c:Int
def R3.ds (r:R3):List Tr:=[.int r.a,.int r.b,.int r.c]
def R3.vs (r:R3):List V:=[.int r.a,.int r.b,.int r.c]
def cB (k:Bool)(r:R3):Tr:=BD k r.ds
structure R3.In (r:R3)(m:Int):Prop where
 a1:-m<=r.a
 a2:r.a<=m
 b1:-m<=r.b
 b2:r.b<=m
 c1:-m<=r.c
 c2:r.c<=m
structure S9 where
 k:Bool
 k1:Bool
 k2:Bool
 k3:Bool
 x:R3
 y:R3
 z:R3
def S9.rows (s:S9):List Tr:=[cB s.k1 s.x,cB s.k2 s.y,cB s.k3 s.z]
def S9.d (s:S9):Tr:=BD s.k s.rows
structure S9.In (s:S9):Prop where
 x:s.x.In 4000
 y:s.y.In 4000
 z:s.z.In 4000
theorem aL {K:KE}(h:ax K H (BD b ds) v):∃ a xs,v=.ref a/\bY K H a xs b/\aB K H ds xs:=by
 cases b with
 |true=>
  cases h with
  |lst h q=>exact⟨_,_,O,.inl h,q⟩
 |false=>
  cases h with
  |tup h q=>exact⟨_,_,O,eM.of h,q⟩
theorem g_ {K:KE}{H:Hp}{r:R3}{xs:List V}(h:aB K H r.ds xs):xs=r.vs:=by
 cases h with
 |cons b h=>
  cases b;cases h with
  |cons a h=>
   cases a;cases h with
   |cons c h=>
    cases c;cases h;rfl
theorem lM {K:KE}(h:ax K H (cB b r) v):∃ a,v=.ref a/\bY K H a r.vs b:=by
 obtain⟨a,d,rfl,hq,c⟩:=aL h;cases g_ c;exact⟨a,O,hq⟩
theorem rK {K:KE}(h:aB K H [d1,d2,d3] xs):∃ x y z,xs=[x,y,z]/\ax K H d1 x/\ax K H d2 y/\ax K H d3 z:=by
 cases h with
 |cons b h=>
  cases h with
  |cons a h=>
   cases h with
   |cons c h=>
    cases h;exact⟨_,_,_,O,b,a,c⟩
theorem pE {K:KE}{i:Nat}(h:bY K H a xs b)(e:xs[i]?=Y v)(q:Q v H):Ku K (.ref a) (.int (i:Int)) H Q:=by
 cases b with
 |true=>exact .inl ⟨a,xs,_,v,O,O,h,qV e,q⟩
 |false=>exact .inr (.inl ⟨a,xs,_,v,O,O,h,qV e,q⟩)
theorem rJ {K:KE}(h:bY K H a xs b):bI K H a xs\/eM K H a xs:=by
 cases b with
 |true=>exact .inl h
 |false=>exact .inr h
theorem IA {K:KE}(h:ax K H (BD b ds) v):∃ T,Ty K H v T/\xQ T ["list","tuple"]=Y true:=by
 cases b with
 |true=>exact⟨"list",h.ty,zyC⟩
 |false=>exact⟨"tuple",h.ty,zyC⟩
def PF (p q r:Rat):Tr:=.tuple [rD p,rD q,rD r]
theorem No {x:Int}(a:-4000<=x)(b:x<=4000):Sm 13 x:=by unfold Sm;lia
def S9.det (s:S9):Int:=s.x.a*(s.y.b*s.z.c-s.y.c*s.z.b)-s.x.b*(s.y.a*s.z.c-s.y.c*s.z.a)+s.x.c*(s.y.a*s.z.b-s.y.b*s.z.a)
def cut (T:List Sd)(H:Hp):Hp:=λb=>if b∈T then none else H b
theorem nR:ah (cut T H) H:=λb o e=>by
 unfold cut at e
 split at e
 ·cases e
 ·exact e
theorem fS (h:b∉T):cut T H b=H b:=Sx h
theorem Mv.cut (h:Mv T H H'):ah (cut T H) (cut T H'):=λb o e=>by
 unfold TR.cut at e ⊢
 split at e
 ·cases e
 ·rename_i n
  rw[Sx n];exact h b o e n
theorem ah.cut (h:ah H H'):ah (TR.cut T H) (TR.cut T H'):=(Mv.of h).cut
theorem cr.not (h:cr H t r)(a:H p=none):p∉[t,r]:=λm=>by
 obtain⟨b,e⟩:=h.lists p m;rw[a] at e;cases e
theorem ax.uncut {K:KE}(h:ax K (cut T H) d v):ax K H d v:=ax.same nR h
theorem ax.cutT {K:KE}(l:cD H T)(t:yi d=true)(h:ax K H d v):ax K (cut T H) d v:=h.allT (λ_ _ h=>by rw[fS (l.not h λ_ z=>nomatch z)];exact h) t
theorem aB.cutT {K:KE}(l:cD H T)(t:ke ds=true)(h:aB K H ds vs):aB K (cut T H) ds vs:=h.allT (λ_ _ h=>by rw[fS (l.not h λ_ z=>nomatch z)];exact h) t
theorem il {K:KE}(b:cr H t r)(a:H D=none)(h:aB K (cut [t,r] H) ds ys):ax K (cut [t,r] (upd H D (.lst ys))) (.list ds) (.ref D):=by
 refine .lst (.inl ?_) (aB.same (ah.cut (ah.new a)) h);rw[fS (b.not a)];exact ag
theorem ax.listN {K:KE}(a:H D=none)(h:aB K H ds ys):ax K (upd H D (.lst ys)) (.list ds) (.ref D):=.lst (.inl ag) (aB.same (ah.new a) h)
theorem ax.tupN {K:KE}(a:H D=none)(h:aB K H ds ys):ax K (upd H D (.tup ys)) (.tuple ds) (.ref D):=.tup ag (aB.same (ah.new a) h)
abbrev N8 (J:It)(g:TG)(tb:TS)(D:Cp)(b:L2.St)(H:Hp):Prop:=∃ W:Nat->Nat->L2.St->Hp->Prop,(∃ m,W 0 m b H)/\∀ i m b H,W i m b H ->
 (J.stop i H/\D.nx b H)\/(J.go i H/\∃ N:L2.St->Hp->Prop,(∀ a c,N a c->∃ e,e<m/\W (i+1) e a c)/\∀ x c,J.yld i H x c->g x b c λd f=>tb { D with nx:=N,ct:=N,bk:=D.nx } d f)
theorem lU {K:KE} (d:Nat->L2.St->Hp->Prop) (h:d 0 c H) (f:∀ i c H,i <= xs.length->d i c H->bY K H a xs b)
  (j:∀ i x c H,xs[i]?=Y x->d i c H->g x c H λe l=>tb { D with nx:=d (i+1),ct:=d (i+1),bk:=D.nx } e l)(k:∀ c H,d xs.length c H->D.nx c H):N8 (yK K a b) g tb D c H:=by
 cases b with
 |true=>exact Hy d h f j k
 |false=>exact Lm d h f j k
theorem KU {K:KE} (b:Nat->L2.St->Hp->Prop) (q:b 0 a H) (l:xs.length=ys.length) (k:∀ i a H,i <= xs.length->b i a H->bY K H a1 xs b1/\bY K H a2 ys b2)
  (A:∀ i x y T a H,xs[i]?=Y x->ys[i]?=Y y->b i a H->H T=none->g (.ref T) a (upd H T (.tup [x,y])) λf n=>tb { D with nx:=b (i+1),ct:=b (i+1),bk:=D.nx } f n)(r:∀ a H,b xs.length a H->D.nx a H):N8 (Ol K b1 b2 a1 a2) g tb D a H:=by
 refine⟨λi m a H=>m=xs.length-i/\i<=xs.length/\b i a H,⟨xs.length,zyB,Tn _,q⟩,?_⟩;rintro i m a H ⟨rfl,t,p⟩;obtain⟨h,j⟩:=k i a H t p
 by_cases c:i<xs.length
 ·have d:i<ys.length:=zyA
  refine .inr ⟨⟨xs,ys,xs[i],ys[i],h,j,by simp[c],by simp[d]⟩,b (i+1),λs u o=>⟨xs.length-(i+1),zyA,O,c,o⟩,λv u y=>?_⟩;obtain⟨x,y,T,k1,k2,z,rfl,rfl⟩:=y;exact A i x y T a _ (k1 xs h) (k2 ys j) p z
 ·have e:i=xs.length:=zyA
  subst e;exact .inl ⟨⟨xs,ys,h,j,.inl (R0 _)⟩,r a H p⟩
section
variable {K:KE}{g:TG}{tt:TT}{te:TE}{σ0:L2.St}{Fin:List V->Hp->Prop}{H1:Hp}
theorem im {lo:Int} (l:ds.length=n) (c:n <= 1000)
  (he:∀ (i:Nat) (d:Tr) (H:Hp),ds[i]?=Y d->ah H1 H->mf g tt te σ0 (.int (lo+i)) H λy H'=>ah H H'/\ax K H' d y)(f:∀ ys H,ah H1 H->aB K H ds ys->Fin ys H):ix (He lo n) g tt te σ0 Fin H1:=by
 refine p8 (λi ys H=>ah H1 H/\aB K H (ds.take i) ys) ⟨ah.refl _,.nil⟩ c (λi ys H h p=>?_) (λi ys H h p=>?_) (λys H p=>?_)
 ·rw[<- p.2.length,SX];lia
 ·obtain⟨s,q⟩:=p;have e:ds[i]?=Y ds[i]:=by simp[show i<ds.length by lia]
  intro R k S;refine he i ds[i] H e s R (λy H' a=>?_) S;obtain⟨b,j⟩:=a;refine k _ _ ⟨s.trans b,?_⟩;rw[cw e];exact(aB.same b q).snoc j
 ·obtain⟨s,q⟩:=p;rw[SY zyA] at q;exact f ys H s q
theorem eO {lo:Int}{t r:Sd}{n:Nat}{Pd:Tr->Prop} (x:cr H1 t r) (o:n <= 1000)
  (he:∀ (i:Nat) (H:Hp),i<n->cr H t r->Mv [t,r] H1 H->mf g tt te σ0 (.int (lo+i)) H λy H'=>cr H' t r/\Mv [t,r] H H'/\∃ d,Pd d/\ax K (cut [t,r] H') d y)
  (c:∀ ds ys H,ds.length=n->(∀ d∈ds,Pd d)->cr H t r->Mv [t,r] H1 H->aB K (cut [t,r] H) ds ys->Fin ys H):ix (He lo n) g tt te σ0 Fin H1:=by
 refine p8 (λi ys H=>cr H t r/\Mv [t,r] H1 H/\∃ ds:List Tr,ds.length=i/\(∀ d∈ds,Pd d)/\aB K (cut [t,r] H) ds ys) ⟨x,Mv.refl,[],O,λ_ h=>(Sg h).elim,.nil⟩ o (λi ys H l p=>?_) (λi ys H l p=>?_) (λys H p=>?_)
 ·obtain⟨_,_,ds,e,_,q⟩:=p;rw[<- q.length];lia
 ·obtain⟨a,mv,ds,e,j,q⟩:=p;intro R v S;refine he i H l a mv R (λy H' f=>?_) S;obtain⟨k,b,d,c,u⟩:=f;refine v _ _ ⟨k,mv.trans b,ds++[d],by rw[SB,e];rfl,λs m=>?_,(aB.same b.cut q).snoc u⟩;rcases S8.mp m with m|m
  ·exact j s m
  ·cases RY.mp m;exact c
 ·obtain⟨a,mv,ds,e,j,q⟩:=p;exact c ds ys H e j a mv q
end
structure Q3 where
 a:Rat
 b:Rat
 c:Rat
def Q3.ds (q:Q3):List Tr:=[rD q.a,rD q.b,rD q.c]
def Q3.col (q:Q3):Tr:=.tuple q.ds
structure Q3.Bd (k:Nat)(q:Q3):Prop where
 a:Bq k q.a
 b:Bq k q.b
 c:Bq k q.c
theorem Q3.Bd.mono {j k:Nat}{q:Q3}(h:q.Bd j)(l:j<=k):q.Bd k:=⟨h.a.mono l,h.b.mono l,h.c.mono l⟩
def sF (p q:Q3):Rat:=0+p.a*q.a+p.b*q.b+p.c*q.c
theorem DT (d:p.Bd j)(hq:q.Bd k):Bq (3*(j+k)+4) (sF p q):=
 Ok.mono (Bq.add (Bq.add (Bq.add QB (Bq.mul d.a hq.a)) (Bq.mul d.b hq.b)) (Bq.mul d.c hq.c)) zyA
structure M9 where
 x:Q3
 y:Q3
 z:Q3
def M9.d (m:M9):Tr:=.list [.list m.x.ds,.list m.y.ds,.list m.z.ds]
def M9.led (m:M9)(c:Q3):Q3:=⟨sF m.x c,sF m.y c,sF m.z c⟩
structure M9.Bd (k:Nat)(m:M9):Prop where
 x:m.x.Bd k
 y:m.y.Bd k
 z:m.z.Bd k
theorem ND {j k:Nat}{m:M9}{c:Q3}(a:m.Bd j)(b:c.Bd k):(m.led c).Bd (3*(j+k)+4):=⟨DT a.x b,DT a.y b,DT a.z b⟩
theorem Q3.ext {p q:Q3}(e:p.a=q.a)(f:p.b=q.b)(d:p.c=q.c):p=q:=by
 cases p;cases q;simp_all
def R3.q (r:R3):Q3:=⟨(r.a:Rat)/((1000:Int):Rat),(r.b:Rat)/((1000:Int):Rat),(r.c:Rat)/((1000:Int):Rat)⟩
def S9.m (s:S9):M9:=⟨s.x.q,s.y.q,s.z.q⟩
theorem EG {r:R3}(h:r.In 4000):r.q.Bd 13:=
 have u:Sm 13 (1000:Int):=by unfold Sm;decide
 ⟨eK Z (No h.a1 h.a2) u,eK Z (No h.b1 h.b2) u,eK Z (No h.c1 h.c2) u⟩
theorem P7 {s:S9}(h:s.In):s.m.Bd 13:=⟨EG h.x,EG h.y,EG h.z⟩
def R3.cross (r s:R3):R3:=⟨r.b*s.c-r.c*s.b,r.c*s.a-r.a*s.c,r.a*s.b-r.b*s.a⟩
def R3.dot (r s:R3):Int:=r.a*s.a+r.b*s.b+r.c*s.c
def S9.ca (s:S9):R3:=⟨s.x.a,s.y.a,s.z.a⟩
def S9.cb (s:S9):R3:=⟨s.x.b,s.y.b,s.z.b⟩
def S9.cc (s:S9):R3:=⟨s.x.c,s.y.c,s.z.c⟩
def R3.by (r:R3)(s:S9):Q3:=⟨(r.dot s.ca:Rat)/((1000*1000:Int):Rat),(r.dot s.cb:Rat)/((1000*1000:Int):Rat),(r.dot s.cc:Rat)/((1000*1000:Int):Rat)⟩
section
variable {K:KE}{g:TG}{tt:TT}{te:TE}{σ0:L2.St}{Fin:List V->Hp->Prop}{H1:Hp}
theorem bT (c:bY K H1 a xs b) (k:aB K H1 ds xs) (B:es.length=ds.length) (I:ds.length <= 1000)
  (he:∀ (i:Nat) (d e:Tr) (x:V) (H:Hp),ds[i]?=Y d->es[i]?=Y e->ah H1 H->ax K H d x->mf g tt te σ0 x H λy H'=>ah H H'/\ax K H' e y)
  (E:∀ ys H,ah H1 H->aB K H es ys->Fin ys H):ix (yK K a b) g tt te σ0 Fin H1:=by
 have u:=k.length;refine⟨λi m ys H=>m=xs.length-i/\i<=xs.length/\ah H1 H/\aB K H (es.take i) ys,⟨xs.length,zyA,Tn _,ah.refl _,.nil⟩,?_⟩;rintro i m ys H ⟨rfl,J,s,f⟩;have r:=f.length;rw[SX] at r
 by_cases h:i<xs.length
 ·have D:(yK K a b).go i H:=by
   have q:=bY.same s c;cases b with
   |true=>exact⟨xs,xs[i],q,by simp[h]⟩
   |false=>exact⟨xs,xs[i],q,by simp[h]⟩
  refine .inr ⟨D,bR zyA,λx G l=>?_⟩;have C:G=H/\xs[i]?=Y x:=by
   have q:=bY.same s c;cases b with
   |true=>exact⟨l.1,l.2 xs q⟩
   |false=>exact⟨l.1,l.2 xs q⟩
  obtain⟨rfl,A⟩:=C;obtain⟨d,p,o⟩:=k.get A;have j:es[i]?=Y es[i]:=by simp[show i<es.length by lia]
  refine he i d es[i] x _ p j s (ax.same s o) _ (λy H' n=>?_) λt=>∃ v,v<xs.length-i/\(v=xs.length-(i+1)/\i+1<=xs.length/\ah H1 t/\aB K t (es.take (i+1)) ys);obtain⟨z,F⟩:=n;refine⟨xs.length-(i+1),zyA,O,h,s.trans z,?_⟩
  rw[cw j];exact(aB.same z f).snoc F
 ·have e:i=xs.length:=zyA
  subst e;have j:(yK K a b).stop xs.length H:=by
   have q:=bY.same s c;cases b with
   |true=>exact⟨xs,q,R0 _⟩
   |false=>exact⟨xs,q,R0 _⟩
  rw[SY zyA] at f;exact .inl ⟨j,dw zyA,E ys H s f⟩
theorem jq (q:bY K H1 a1 xs b1) (C:bY K H1 a2 ys b2) (c:aB K H1 ds xs) (k:aB K H1 es ys) (L:ds.length=es.length) (M:fs.length=ds.length) (hl:ds.length <= 1000)
  (he:∀ (i:Nat) (d e f:Tr) (x y:V) (T:Sd) (H:Hp),ds[i]?=Y d->es[i]?=Y e->fs[i]?=Y f->ah H1 H->ax K H d x->ax K H e y->H T=Y (.tup [x,y])->mf g tt te σ0 (.ref T) H λz H'=>ah H H'/\ax K H' f z)
  (Q:∀ b H,ah H1 H->aB K H fs b->Fin b H):ix (Ol K b1 b2 a1 a2) g tt te σ0 Fin H1:=by
 have F:=c.length;have o:=k.length;refine⟨λi m b H=>m=xs.length-i/\i<=xs.length/\ah H1 H/\aB K H (fs.take i) b,⟨xs.length,zyA,Tn _,ah.refl _,.nil⟩,?_⟩;rintro i m b H ⟨rfl,hi,s,a⟩;have B:=a.length;rw[SX] at B
 by_cases h:i<xs.length
 ·have j:i<ys.length:=zyA
  refine .inr ⟨⟨xs,ys,xs[i],ys[i],bY.same s q,bY.same s C,by simp[h],by simp[j]⟩,bR zyA,λv H3 y3=>?_⟩;obtain⟨x,y,T,k1,k2,kT,rfl,rfl⟩:=y3;have J:=k1 xs (bY.same s q);have hy:=k2 ys (bY.same s C);obtain⟨d,A,t⟩:=c.get J;obtain⟨e,p,u⟩:=k.get hy;have l:fs[i]?=Y fs[i]:=by simp[show i<fs.length by lia]
  have E:ah H (upd H T (.tup [x,y])):=ah.new kT;have n:=s.trans E;refine he i d e fs[i] x y T _ A p l n (ax.same n t) (ax.same n u) ag _ (λz H' r=>?_) λD=>∃ G,G<xs.length-i/\(G=xs.length-(i+1)/\i+1<=xs.length/\ah H1 D/\aB K D (fs.take (i+1)) b);obtain⟨I,N⟩:=r;refine⟨xs.length-(i+1),zyA,O,h,n.trans I,?_⟩
  rw[cw l];exact(aB.same I (aB.same E a)).snoc N
 ·have e:i=xs.length:=zyA
  subst e;rw[SY zyA] at a;exact .inl ⟨⟨xs,ys,bY.same s q,bY.same s C,.inl (R0 _)⟩,dw zyA,Q b H s a⟩
end
theorem qD (h:[a,b,c][i]?=Y x):(i=0/\x=a)\/(i=1/\x=b)\/(i=2/\x=c):=by
 match i,h with
 |0,h=>exact .inl ⟨O,(RU h).symm⟩
 |1,h=>exact .inr (.inl ⟨O,(RU h).symm⟩)
 |2,h=>exact .inr (.inr ⟨O,(RU h).symm⟩)
 |n+3,h=>simp at h
section
variable {X:Cx}{K:KE}{pos:Pos}{tg:U2}
def PC (K:KE):List V->Hp->VK->Prop:=λb H Q=>∃ p a,b=[.ref p]/\(bI K H p a\/eM K H p a)/\Q (.int a.length) H
def LA (K:KE):List V->Hp->VK->Prop:=λb H Q=>∃ p a,b=[.ref p]/\(bI K H p a\/eM K H p a)/\∀ l,H l=none->Q (.ref l) (upd H l (.lst a))
def Nx (K:KE):List V->Hp->VK->Prop:=λb H Q=>∃ p a,b=[.ref p]/\((bI K H p a/\∀ l,H l=none->Q (.ref l) (upd H l (.tup a)))\/(eM K H p a/\Q (.ref p) H))
def Qv (K:KE):List V->Hp->VK->Prop:=λa H Q=>∃ (p:Sd) (bs:List Bool),a=[.ref p]/\bI K H p (bs.map V.bl)/\Q (.bl (bs.all id)) H
theorem ju (e:X.K=K):dP X (.builtin "len") (PC K):=by subst e;exact Bc
theorem vT (e:X.K=K):dP X (.type "list") (LA K):=by subst e;exact AE
theorem gN (e:X.K=K):dP X (.type "tuple") (Nx K):=by subst e;exact yl
theorem o_ (e:X.K=K)(a:X.calm=true):dP X (.builtin "all") (Qv K):=by subst e;exact IF a
theorem qG (e:X.K=K):dP X (.builtin "isinstance") (OO K):=by subst e;exact Hl
theorem DH (e:X.K=K):dP X (.builtin "isinstance") (L6 K):=by subst e;exact FQ
theorem BH (e:X.K=K)(a:X.A.units+64<cLine):pF X (UF .Eq) (Pp K):=by subst e;exact N6 a
theorem Is (e:X.K=K)(a:X.A.units+64<cLine):pF X (UF .NotEq) (PY K):=by subst e;exact My a
theorem LB (e:X.K=K)(a:X.A.units+64<cLine):pF X (UF .NotEq) (Im K):=by subst e;exact Jg a
theorem Qz (e:X.K=K):HH X (Ku K):=by subst e;exact MK
theorem Nc (e:X.K=K):Rc X (OZ K):=by subst e;exact KJ
theorem bE (e:X.K=K)(a:WE X l tl):WI X tg l (MH K tl):=by
 have a:=a.go;refine⟨?_⟩;subst e;exact M3 a
theorem jF (e:X.K=K) (f:Gl X "zip") (h:X.mg "zip"=none) (d:WA X [a,b] ta) (g:Ss [a,b] X.env=[(false,V1 a X.env),(false,V1 b X.env)]:=by rfl) (c:Ss [b] X.env=[(false,V1 b X.env)]:=by rfl) :
  WI X (.Tuple elts tk tpos) (.Call (.Name "zip" p) [a,b] [] pos) (PN K ta):=by
 have d:=d.go;refine⟨?_⟩;subst e;exact MC f h d g c
theorem cQ (e:X.K=K)(c:X.calm=true)(h:OU X es t)(b:(Ve es X.env).length=n:=by rfl)(a:(Ve es X.env).findIdx? (·.1)=none:=by rfl):WG X (.Tuple es k pos) (O2 K n t):=by
 have h:=h.go;refine⟨?_⟩;subst e;exact MZ c h b a
theorem Dl (e:X.K=K)(c:X.calm=true)(h:OU X es t)(b:(Ve es X.env).length=n:=by rfl)(a:(Ve es X.env).findIdx? (·.1)=none:=by rfl):WG X (.Tuple es k pos) (PX K n t):=by
 have h:=h.go;refine⟨?_⟩;subst e;exact NU c h b a
end
def S9.one:S9:=⟨false,false,false,false,⟨1000,0,0⟩,⟨0,1000,0⟩,⟨0,0,1000⟩⟩
theorem Fc (p q:Rat):p-q=((p.num*(q.den:Int)-q.num*(p.den:Int):Int):Rat)/(((p.den:Int)*(q.den:Int):Int):Rat):=by
 have b:=jE p;have c:=jE q;have d:=iQ p;have a:=iQ q;rw[Tt,SE,SE,SE];grind
theorem Bq.sub {p q:Rat}(a:Bq j p)(hq:Bq k q):Bq (j+k+1) (p-q):=by
 rw[Bq,Fc];refine eK (zF p q) (Sm.sub (a.sn.mul hq.sd) ((hq.sn.mul a.sd).mono zyA)) ((a.sd.mul hq.sd).mono zyA)
theorem h_.sub {K:KE}{p q:Rat}(h:h_ K H (p-q) Q):Sh K H (p.num*(q.den:Int)-q.num*(p.den:Int)) ((p.den:Int)*(q.den:Int)) Q:=by
 rw[Fc] at h;exact h_.sh (zF p q) h
def S9.c0 (s:S9):R3:=s.y.cross s.z
def S9.c1 (s:S9):R3:=s.z.cross s.x
def S9.c2 (s:S9):R3:=s.x.cross s.y
def S9.f (s:S9)(n:Int):Rat:=((1000*n:Int):Rat)/((s.det:Int):Rat)
def S9.back (s:S9):M9:=⟨⟨s.f s.c0.a,s.f s.c1.a,s.f s.c2.a⟩,⟨s.f s.c0.b,s.f s.c1.b,s.f s.c2.b⟩,⟨s.f s.c0.c,s.f s.c1.c,s.f s.c2.c⟩⟩
abbrev WX:=L2.St->Sd->Hp->Prop
abbrev Rk:List RV:=[.type "ValueError",.type "Exception",.type "BaseException",.type "object"]
abbrev O6:String:="ValueError.__new__"
def cR (K:KE)(x:Str)(C:Sd):Prop:=Sa K R1 x=Y (Y (.ref C))
def Ct:List Str:=["BadNumber","BadShare","BadCurve","BadSquare","NoBack","BadGrid","BadColour","BadIntent","BadProfile","BadInk","BadText"]
def nQ (K:KE)(x:Str):Option Sd:=match Sa K R1 x with
 |some (Y (.ref C))=>Y C
 |_=>none
theorem Jw {K:KE}(h:nQ K x=Y C):cR K x C:=by
 unfold nQ at h
 split at h
 ·rename_i D e
  cases h;exact e
 ·cases h
theorem jL {K:KE}(h:cR K x C):nQ K x=Y C:=by
 unfold nQ;rw[show Sa K R1 x=Y (Y (.ref C)) from h]
def RJ (K:KE)(C:Sd):Bool:=
 PySem.W.excIn K C Rk O6&&ZD K C&&YC K (.ref C)==Y (.type "type")&&W2 K C (.type "object")==Y true&&W2 K C (.type "BaseException")==Y true &&
  SG K (.ref C) "__getattribute__"==Y (Y (.builtin "BaseException.__getattribute__"))&&SG K (.ref C) "__getattr__"==Y none&&SG K (.ref C) "__class__"==Y (Y (.builtin "object.__class__")) &&
  Xj K (.builtin "object.__class__") "__get__"==Y (Y (.builtin "getset_descriptor.__get__"))&&X' K (.builtin "object.__class__")==Y true&&Wm K (.ref C) (.ref C)==Y true
structure Ex (K:KE)(C:Sd):Prop where
 exc:PySem.W.excIn K C Rk O6=true
 cls:ZD K C=true
 typ:YC K (.ref C)=Y (.type "type")
 slf:Wm K (.ref C) (.ref C)=Y true
 obj:W2 K C (.type "object")=Y true
 bex:W2 K C (.type "BaseException")=Y true
 ga:SG K (.ref C) "__getattribute__"=Y (Y (.builtin "BaseException.__getattribute__"))
 gn:SG K (.ref C) "__getattr__"=Y none
 gc:SG K (.ref C) "__class__"=Y (Y (.builtin "object.__class__"))
 get:Xj K (.builtin "object.__class__") "__get__"=Y (Y (.builtin "getset_descriptor.__get__"))
 tks:X' K (.builtin "object.__class__")=Y true
def Rh (K:KE):Bool:=(nQ K "TintError").any λT=>ZD K T&&YC K (.ref T)==Y (.type "type")&&Wm K (.ref T) (.type "BaseException")==Y true &&
 (UH 11).all λi=>(nQ K (Ct.getD i "")).any λC=>RJ K C&&Wm K (.ref C) (.ref T)==Y true&&Wm K (.ref C) (.type "ValueError")==Y true &&
  (UH 11).all λj=>(nQ K (Ct.getD j "")).any λD=>Wm K (.ref C) (.ref D)==Y (i==j)
theorem jr (h:o.any p=true):∃ a,o=Y a/\p a=true:=by
 cases o with
 |none=>cases h
 |some a=>exact⟨a,O,h⟩
section
variable {K:KE}(R:Rh K=true)
include R
end
section
variable {X:Cx}{K:KE}
def QX (K:KE)(x:Str):TE:=λ_ H Q=>∀ D,cR K x D->Q (.ref D) H
theorem ot (d:X.K=K)(e:Gl X x)(c:∃ D,cR K x D)(f:(x==("__debug__":Str))=false:=by decide):WE X (.Name x pos) (QX K x):=by
 refine⟨?_⟩;subst d;intro b s g H Q I h;obtain⟨D,a⟩:=c;exact jk I e (SJ I.ok.mod.kin I.ok.mod.glob a) ⟨.ref D,H,I,O,h D a⟩ f
end
def Jk (l m:Int):Tr->Bool
 |.int i=>decide (l<=i)&&decide (i<=m)
 |_=>false
theorem aB.at {K:KE}{i:Nat}(h:aB K H ds xs)(e:ds[i]?=Y d)(b:xs[i]?=Y x):ax K H d x:=by
 obtain⟨f,a,c⟩:=h.get b;rw[e] at a;cases a;exact c
section
variable {K:KE}{t r p:Sd}{H0 H:Hp}{xs ys:List V}{ds es:List Tr}
theorem NL {k:Int}{n:Nat}(d:k=n)(b:n<=1000)(h:H p=Y (.lst [v]))(q:∀ l,H l=none->Q (.ref l) (upd H l (.lst (Sl n v)))):Nb (.ref p) (.int k) H Q:=by
 subst d;refine⟨p,_,_,O,O,h,zyA,zyA,?_,λl a=>?_⟩
 ·show 1*((n:Int)).toNat<=Sk;have:(1000:Nat)<=Sk:=Z
  lia
 ·have e:(Sl ((n:Int)).toNat [v]).flatten=Sl n v:=by
   rw[SQ];clear b q
   induction n with
   |zero=>rfl
   |succ n c=>rw[UI,Wf,c];rfl
  rw[e];exact q l a
theorem K6 {k:Int}{n:Nat}(c:k=n)(a:n<=1000)(h:H p=Y (.lst [v]))(q:∀ l,H l=none->Q (.ref l) (upd H l (.lst (Sl n v)))):tC (.int k) σ H λy b=>Nb (.ref p) y b Q:=NL c a h q
end
theorem Ld (z:Rat):shB (rD z)=true:=(show Ok (z.num.natAbs+z.den) z.num z.den from⟨by have:=z.den_pos;lia,z.reduced,by unfold Sm;exact R6 (Wz) (Vq Z (VN _ _)),by unfold Sm;exact R6 (Wz) (Vq Z (Nat.le_add_left _ _))⟩).shB
def iO (K:KE)(x:Str)(fs:List Str):Bool:=(nQ K x).any λC=>Wr K C Str.empty&&Xi K C&&YR K C&&SG K (.ref C) "__setattr__"==Y (Y (.builtin "object.__setattr__")) &&
 X8 K C&&Sq K (.ref C)&&fs.all λf=>SG K (.ref C) f==Y none
structure OL (K:KE)(x:Str)(fs:List Str)(C:Sd):Prop where
 at_:cR K x C
 cls:Mz K C
 makes:X8 K C=true
 kp:Sq K (.ref C)=true
 no:∀ f∈fs,xB K C f
theorem lY {K:KE}(h:iO K x fs=true):∃ C,OL K x fs C:=by
 unfold iO at h;obtain⟨C,e,q⟩:=jr h;simp only[Tu,UW,Ul] at q;obtain⟨⟨⟨⟨⟨⟨a,b⟩,c⟩,d⟩,m⟩,k⟩,n⟩:=q;exact⟨C,Jw e,⟨a,b,c,d⟩,m,k,λf g=>UW.mp (by simpa using n f g)⟩
theorem bK {K:KE}(h:cR K x C)(g:cR K x D):C=D:=RU ((jL h).symm.trans (jL g))
section
variable {X:Cx}{K:KE}{o e value:U2}{f x:Str}{fs0:List Str}{pos pos':Pos}{ta tv:TE}
inductive Rn (K:KE)(x f:Str)(v:V)(H:Hp)(Q:VK):Prop
 |mk (a C dx:Sd) (fs:List (Str×V)) (w:V) (_:v=.ref a) (_:cR K x C) (_:H a=Y (.ins C dx fs)) (_:fs.lookup f=Y w) (_:Q w H)
def Jn (K:KE)(x:Str)(ta:TE)(f:Str):TE:=λb H Q=>ta b H λv a=>Rn K x f v a Q
theorem aR (n:X.K=K)(t:iO K x fs0=true)(A:f∈fs0)(he:WE X e ta)(m:XT e f X.env (V1 e X.env)=V1 e X.env:=by rfl):WE X (.Attribute e f pos) (Jn K x ta f):=by
 have he:=he.go;refine⟨?_⟩;subst n;obtain⟨D,c⟩:=lY t;intro b s o H Q I h;refine Lu m (cu (he b s o H _ I h) λu E d=>?_);obtain⟨v,i,p,y,a,C,B,fs,w,k,g,j,l,q⟩:=d;subst k;cases bK g c.at_;obtain rfl:u=SC a:=y;exact DS p j c.cls (c.no f A) l λF s2 z r=>⟨w,i,z,r,q⟩
def OH (K:KE)(x:Str)(ta tv:TE)(f:Str):TS:=λD b H=>tv b H λy e=>ta b e λv d=>∃ a C c fs,v=.ref a/\cR K x C/\d a=Y (.ins C c fs)/\fs.length<1000 /\
 D.nx b (upd d a (.ins C c (eU f y fs)))
theorem eQ (t:X.K=K) (B:iO K x fs0=true) (N:f ∈ fs0) (c:WE X o ta) (j:WE X value tv) (L:YX value (Y (.Attribute o f pos')) pos.line X.env=pure false:=by rfl) :
  WS X (.Assign [.Attribute o f pos'] value pos) (OH K x ta tv f):=by
 have c:=c.go;have j:=j.go;refine⟨?_⟩;subst t;obtain⟨E,e⟩:=lY B;intro b s i H D I h;refine plainObj_wpAny_Assign_Attribute (cu (j b s i H _ I h) λu A g=>?_) L;obtain⟨y,m,z,M,q⟩:=g;refine cu (c b A i m _ z q) λov s2 d=>?_;obtain⟨v,T,G,F,a,C,Q,fs,p,k,n,l,J⟩:=d;subst p;cases bK k e.at_;obtain rfl:ov=SC a:=F;exact D6 G n e.cls (e.no f N) l M λs3 r=>⟨i,_,r,J⟩
end
abbrev L_ (X:Cx)(o:U2)(m:Str)(b:List U2)(pl:Sem Bool)(a pos:Pos):Prop:=
 V1 (.Call (.Attribute o m a) b [] pos) X.env=(do let ov <- V1 o X.env;ZL a.atName;let (f,first) <- holding [ov] (getMethod ov m pl);callWith pos f first (VY pos (Ss b X.env)) (UV pos (TQ [] X.env)))
structure IZ (P:SA)(w:Te)(K:KE)(mg:Str->Option RV)(base:Uc)(CX:qr)(k:Nat)(x m:Str)(ps:List Str)(dvs:List V)(sp:Sp):Prop where
 ex:∃ (C f:Sd) (fd:Uw) (ds:List RV) (fs:List Str),jm P w K mg base CX k f fd ps sp/\OL K x fs C/\JZ K C m f/\mg x=Y (.ref C)/\o9 K fd ps ds/\aU dvs ds
def zt (K:KE)(x m:Str)(sp:Sp)(dvs:List V)(E:XK)(d:TE)(t:TA):TE:=λc H Q=>d c H λv b=>∃ a C e fs,v=.ref a/\cR K x C/\b a=Y (.ins C e fs)/\fs.lookup m=none /\
 t c b λvs f=>sp (v::(vs++dvs)) f Q E
def PZ (K:KE)(x:Str)(sp:Sp)(dvs:List V)(E:XK)(t:TA):TE:=λd H Q=>t d H λvs c=>∀ C a b,cR K x C->c a=none->c b=none->b≠a ->
 sp (.ref a::(vs++dvs)) (upd (upd c b (.own a)) a (.ins C b [])) (λv e=>v=.non/\Q (.ref a) e) E
section
variable {X:Cx}{CX:qr}{K:KE}{k:Nat}{x m:Str}{ps:List Str}{sp:Sp}{dvs:List V}{p pos apos:Pos}{o e:U2}{es:List U2}{ta:TE}{t:TA}{W:WX}
theorem qH (hK:X.K=K) (hX:GU CX) (C:IZ X.prog X.w X.K X.mg X.base CX k x m ps dvs sp) (J:Room k X.A) (he:WE X o ta) (c:WA X (e :: es) t)
  (j:Ss (e::es) X.env=(false,V1 e X.env)::Ss es X.env:=by rfl)(i:(VY pos (Ss es X.env)).any (·.1)=false:=by rfl)
  (ht:L_ X o m (e::es) pl apos pos:=by rfl):WE X (.Call (.Attribute o m apos) (e::es) [] pos) (zt K x m sp dvs E0 ta t):=by
 have he:=he.go;have c:=c.go;refine⟨?_⟩;subst hK;obtain⟨D,f,fd,ds,M,F,n,p,_,hb,hd⟩:=C.ex;intro b s y H Q I h;refine Xx (pl:=pl) (cu (he b s y H _ I h) λu s1 g=>?_) ht;obtain⟨v,L,z,rv,a,E,dx,fs,T,G,N,l,q⟩:=g;subst T;cases bK G n.at_;obtain rfl:u=SC a:=rv;refine qi z N n.cls p l ?_;refine W1 (first:=[.ref a]) (h₀:=X.base) I.ok.mod.kin p.kp (cu (c pos b s1 y L _ z q) λus s2 d=>?_) j i;obtain⟨vs,H2,B,r,q2⟩:=d;refine⟨B.kIn,?_⟩;exact zP (us:=.ref a::us) (vs:=.ref a::vs) F J hb hd (qP hX) B (.cons rfl r) q2
theorem fw (B:X.K=K) (t:GU CX) (C:IZ X.prog X.w X.K X.mg X.base CX k x m ps dvs sp) (j:Room k X.A) (he:WE X o ta)
  (L:L_ X o m [] pl apos pos:=by rfl):WE X (.Call (.Attribute o m apos) [] [] pos) (zt K x m sp dvs E0 ta yf):=by
 have he:=he.go;refine⟨?_⟩;subst B;obtain⟨D,f,M,ds,n,F,e,g,_,z,y⟩:=C.ex;intro b s G H Q I h;refine Xx (pl:=pl) (cu (he b s G H _ I h) λu s1 c=>?_) L;obtain⟨v,T,d,J,a,E,N,fs,r,i,p,l,q⟩:=c;subst r;cases bK i e.at_;obtain rfl:u=SC a:=J;refine qi d p e.cls g l ?_;exact PySem.W.callWith_K0 (first:=[.ref a]) d.kIn g.kp (zP (us:=[.ref a]) (vs:=[.ref a]) F j z y (qP t) d (.cons rfl .nil) q)
theorem qS (G:X.K=K) (y:GU CX) (C:IZ X.prog X.w X.K X.mg X.base CX k x "__init__" ps dvs sp) (u:Room (k + 1) X.A) (L:Gl X x) (d:WA X (e :: es) t) (g:(x == ("__debug__":Str))=false:=by decide)
  (he:Ss (e::es) X.env=(false,V1 e X.env)::Ss es X.env:=by rfl)(j:(VY pos (Ss es X.env)).any (·.1)=false:=by rfl):WE X (.Call (.Name x p) (e::es) [] pos) (PZ K x sp dvs E0 t):=by
 have d:=d.go;refine⟨?_⟩;subst G;obtain⟨D,f,N,ds,v,F,c,l,hmg,E,B⟩:=C.ex;intro b s J H Q I h;refine TV (jk I L hmg ?_ g);refine W1 (h₀:=X.base) I.ok.mod.kin c.kp (cu (d pos b s J H _ I h) λT s1 i=>?_) he j;obtain⟨vs,H1,m,r,q⟩:=i;refine⟨m.kIn,?_⟩;exact IE ⟨c.makes,l.at_,l.fn,c.kp⟩ F u E B (qP y) m r λa n z M o=>q D a n c.at_ z M o
end
structure kA (K:KE)(mg:Str->Option RV)(x m qual:Str)(st:T6)(ps:List Str)(dvs:List V):Prop where
 ex:∃ (C f:Sd) (fd:Uw) (oc:RV) (od:Option Sd) (dV kV doc pm:RV) (an:Option Sd) (cdv ct:RV) (osl:Array (Option RV)) (ds:List RV) (fs:List Str),
  fd=Sn m qual (aO st) (aJ st) (af st) dV kV doc pm an cdv ct/\K.lookup f=Y ⟨oc,od,.func fd,osl⟩/\SF K cdv qual=true /\
  OL K x fs C/\JZ K C m f/\mg x=Y (.ref C)/\o9 K fd ps ds/\aU dvs ds
section
variable {P:SA}{w:Te}{K:KE}{mg:Str->Option RV}{base:Uc}{CX:qr}{x m qual:Str}{st:T6}{N ps:List Str}{dvs:List V}{k:Nat}{sp:Sp}
theorem kA.cal (F:kA K mg x m qual st ps dvs) (S:ao N ps (af st)) (len:∀ vs H Q E,sp vs H Q E->vs.length=ps.length:=by intro _ _ _ _ h;cases h;subst_vars;rfl)
  (bb:∀ (f:Sd) (b:RV) (A:Tf) (a:List Env) (s:RZ) (H:Hp) (vs:List V) (Q:VK) (E:XK),Room k (A.deeper (YW qual (af st) s.heap.objs.size f b))->sp vs H Q E ->
   ∃ t,Ht (wM CX P w K mg base N qual (af st) f b A a s H E).nox (aJ st) t/\t { nx:=λ_ H'=>Q .non H',rt:=Q } (lj N vs) H):IZ P w K mg base CX (k+1) x m ps dvs sp:=by
 obtain⟨C,f,r,z,y,u,kV,o,D,B,b,v,p,ds,fs,rfl,g,c,i,j,hmg,l,n⟩:=F.ex;refine⟨C,f,_,ds,fs,zc g c S len λA a s H vs Q E e d=>?_,i,j,hmg,l,n⟩;obtain⟨t,h,q⟩:=bb f b A a s H vs Q E e d;exact⟨t,h.nox,q⟩
theorem K1 {fs:List Str}{C f:Sd}{p:RV}{o k:Option Sd}{i:Array (Option RV)}{kV e n d j:RV} (l:K.lookup f=Y ⟨p,o,.func (Sn m qual (aO st) (aJ st) (af st) .none kV e n k d j),i⟩)
  (c:SF K d qual=true)(t:Sq K (.ref f)=true)(r:UP K (.ref f)=true)(a:Sa K R1 x=Y (Y (.ref C)))(b:SG K (.ref C) m=Y (Y (.ref f)))(s:iO K x fs=true)(g:mg x=Y (.ref C))
  (h:∀ us:List RV,us.length=ps.length->T_ (Sn m qual (aO st) (aJ st) (af st) .none kV e n k d j) ⟨us,[]⟩=pure (ps.zip us)):kA K mg x m qual st ps []:=by
 obtain⟨D,q⟩:=lY s;cases bK q.at_ a;exact⟨_,f,_,p,o,.none,kV,e,n,k,d,j,i,[],fs,O,l,c,q,⟨b,r,t⟩,g,.all h,.nil⟩
end
abbrev Pt:=Int×Int
def tJ (p:Pt):Tr:=.tuple [.int p.1,.int p.2]
def KQ (a:List Pt):Tr:=.list (a.map tJ)
structure Pt.In (p:Pt):Prop where
 a1:0<=p.1
 a2:p.1<=1000
 b1:0<=p.2
 b2:p.2<=1000
structure vN (ps:List Pt):Prop where
 two:2<=ps.length
 few:ps.length<=12
 zero:∀ p,ps[0]?=Y p->p.1=0
 inn:∀ p∈ps,p.In
 up:∀ (i:Nat) (p q:Pt),ps[i]?=Y p->ps[i+1]?=Y q->p.1<q.1/\p.2<=q.2
def CY (p q:Pt)(a:Rat):Rat:=(p.2:Rat)+((q.2:Rat)-(p.2:Rat))*(a-(p.1:Rat))/((q.1:Rat)-(p.1:Rat))
structure FK (ps:List Pt)(a:Rat)(k:Nat)(p q:Pt):Prop where
 lo:ps[k]?=Y p
 hi:ps[k+1]?=Y q
 gt:k=0\/(p.1:Rat)<a
 le:a<=(q.1:Rat)
def Bt (b:List Pt)(a v:Rat):Prop:=∃ k p q,FK b a k p q/\v=CY p q a
theorem vN.mono (h:vN ps):∀ (d i:Nat) (p q:Pt),ps[i]?=Y p->ps[i+d]?=Y q->p.1<=q.1/\p.2<=q.2/\(0<d->p.1<q.1)
 |0,i,p,q,j,f=>by
  rw[SV,j] at f;cases f;exact⟨aaf _,aaf _,λz=>absurd z Z⟩
 |d+1,i,p,q,j,f=>by
  have g:i+d<ps.length:=by have:=(R9.mp f).1;lia
  have k:ps[i+d]?=Y ps[i+d]:=Sf g;obtain⟨a,b,_⟩:=vN.mono h d i p _ j k;obtain⟨c,e⟩:=h.up (i+d) _ q k (by rw[Y2];exact f);exact⟨zyA,zyA,λ_=>zyA⟩
theorem FV (h:vN ps){a:Rat}(x:FK ps a k p q)(y:FK ps a j r s):p=r/\q=s:=by
 have b:∀ {k j:Nat}{p q r s:Pt},FK ps a k p q->FK ps a j r s->¬ k<j:=λ{k j p q r s} x y lt=>by
  obtain⟨d,rfl⟩:∃ d,j=k+1+d:=⟨j-(k+1),zyA⟩
  obtain⟨m,_⟩:=h.mono d (k+1) q r x.hi y.lo;rcases y.gt with z|z
  ·lia
  ·have e:(q.1:Rat)<=(r.1:Rat):=by exact_mod_cast m
   have:=x.le;grind
 have e:k=j:=by
  have:=b x y;have:=b y x;lia
 subst e;have f:=x.lo.symm.trans y.lo;have c:=x.hi.symm.trans y.hi;exact⟨RU f,RU c⟩
theorem jw (h:vN ps){a v w:Rat}(x:Bt ps a v)(y:Bt ps a w):v=w:=by
 obtain⟨k,p,q,s,rfl⟩:=x;obtain⟨j,r,t,u,rfl⟩:=y;obtain⟨rfl,rfl⟩:=FV h s u;rfl
section
variable {K:KE}{g:TG}{tt:TT}{te:TE}{σ0:L2.St}{Fin:List V->Hp->Prop}{H1:Hp}
theorem yW (q:bY K H1 a1 xs b1) (C:bY K H1 a2 ys b2) (h:aB K H1 ds xs) (j:aB K H1 es ys) (L:es.length <= ds.length) (M:fs.length=es.length) (hl:ds.length <= 1000)
  (he:∀ (i:Nat) (d e f:Tr) (x y:V) (T:Sd) (H:Hp),ds[i]?=Y d->es[i]?=Y e->fs[i]?=Y f->ah H1 H->ax K H d x->ax K H e y->H T=Y (.tup [x,y])->mf g tt te σ0 (.ref T) H λz H'=>ah H H'/\ax K H' f z)
  (Q:∀ c H,ah H1 H->aB K H fs c->Fin c H):ix (Ol K b1 b2 a1 a2) g tt te σ0 Fin H1:=by
 have F:=h.length;have n:=j.length;refine⟨λi m c H=>m=ys.length-i/\i<=ys.length/\ah H1 H/\aB K H (fs.take i) c,⟨ys.length,zyA,Tn _,ah.refl _,.nil⟩,?_⟩;rintro i m c H ⟨rfl,hi,s,a⟩;have B:=a.length;rw[SX] at B
 by_cases b:i<ys.length
 ·have p:i<xs.length:=zyA
  refine .inr ⟨⟨xs,ys,xs[i],ys[i],bY.same s q,bY.same s C,by simp[p],by simp[b]⟩,bR zyA,λv H3 y3=>?_⟩;obtain⟨x,y,T,k1,k2,kT,rfl,rfl⟩:=y3;have J:=k1 xs (bY.same s q);have hy:=k2 ys (bY.same s C);obtain⟨d,A,t⟩:=h.get J;obtain⟨e,o,u⟩:=j.get hy;have k:fs[i]?=Y fs[i]:=by simp[show i<fs.length by lia]
  have E:ah H (upd H T (.tup [x,y])):=ah.new kT;have l:=s.trans E;refine he i d e fs[i] x y T _ A o k l (ax.same l t) (ax.same l u) ag _ (λz H' r=>?_) λD=>∃ G,G<ys.length-i/\(G=ys.length-(i+1)/\i+1<=ys.length/\ah H1 D/\aB K D (fs.take (i+1)) c);obtain⟨I,N⟩:=r;refine⟨ys.length-(i+1),zyA,O,b,l.trans I,?_⟩
  rw[cw k];exact(aB.same I (aB.same E a)).snoc N
 ·have e:i=ys.length:=zyA
  subst e;rw[SY zyA] at a;exact .inl ⟨⟨xs,ys,bY.same s q,bY.same s C,.inr (R0 _)⟩,dw zyA,Q c H s a⟩
end
theorem CI (xs:List V)(h:1<=xs.length):C7 xs (Y 1) none=xs.drop 1:=by
 unfold C7;have a:HT.sIx xs.length 0 (Y 1)=1:=by
  simp[HT.sIx]
  try lia
 have b:HT.sIx xs.length xs.length none=xs.length:=by simp[HT.sIx]
 rw[a,b];exact SY (by rw[XE];exact R0 _)
theorem aB.drop {K:KE}:∀ (n:Nat) {ds:List Tr}{xs:List V},aB K H ds xs->aB K H (ds.drop n) (xs.drop n)
 |0,_,_,h=>h
 |_+1,_,_,.nil=>.nil
 |n+1,_,_,.cons _ t=>aB.drop n t
theorem qJ {K:KE}{H:Hp}{a:List Pt}{xs:List V}{k:Nat}{p:Pt}(h:aB K H (a.map tJ) xs)(e:a[k]?=Y p):∃ v,xs[k]?=Y v/\ax K H (tJ p) v:=by
 have c:=h.length;rw[R5] at c;have d:k<xs.length:=by have:=(R9.mp e).1;lia
 have b:xs[k]?=Y xs[k]:=Sf d;refine⟨_,b,h.at ?_ b⟩;rw[Sc,e];rfl
def my (K:KE)(H:Hp)(c:List Pt)(v:V):Prop:=∃ (a C b l:Sd),v=.ref a/\cR K "Curve" C/\H a=Y (.ins C b [("points",.ref l)])/\ax K H (KQ c) (.ref l)
theorem my.same {K:KE}(s:ah H H')(h:my K H ps v):my K H' ps v:=by
 obtain⟨a,C,b,l,e,c,f,d⟩:=h;exact⟨a,C,b,l,e,c,s _ _ f,ax.same s d⟩
theorem u8 (h:xs.getLast?=Y v):Es xs (-1)=Y v:=by
 rw[TD] at h;have a:0<xs.length:=by
  cases xs with
  |nil=>simp at h
  |cons _ _=>simp
 unfold Es;have e:G4 xs.length (-1)=Y (xs.length-1):=by
  unfold G4;simp;lia
 rw[e];exact h
theorem BF {K:KE}{H:Hp}{a:List Pt}{xs:List V}{z:Pt}(h:aB K H (a.map tJ) xs)(e:a.getLast?=Y z):∃ v,xs.getLast?=Y v/\ax K H (tJ z) v:=by
 rw[TD] at e;obtain⟨v,c,b⟩:=qJ h e;refine⟨v,?_,b⟩;rw[TD,<- h.length,R5];exact c
theorem Il {a:Rat}(h:p.1<q.1):CY p q a=((p.2*(q.1-p.1)*(a.den:Int)+(a.num-p.1*(a.den:Int))*(q.2-p.2):Int):Rat)/(((q.1-p.1)*(a.den:Int):Int):Rat):=by
 have g:((q.1:Rat)-(p.1:Rat))≠0:=λz=>by
  have e:((q.1-p.1:Int):Rat)=((0:Int):Rat):=by rw[Tt];exact z
  have e:q.1-p.1=0:=by exact_mod_cast e
  lia
 have j:=jE a;have b:=iQ a;unfold CY;rw[Uj,SE,SE,SE,SE,Tt,Tt,Tt,SE];generalize ((a.den:Int):Rat)=d at *;generalize (a.num:Rat)=n at *;generalize (p.1:Rat)=i at *;generalize (p.2:Rat)=k at *;generalize (q.1:Rat)=c at *;generalize (q.2:Rat)=f at *;subst b;grind
theorem sJ (h:vN ps){a c:Rat}(f:Bq k a)(x:Bt ps a c):Bq (k+40) c:=by
 obtain⟨j,p,q,s,rfl⟩:=x;have l:=(h.up j p q s.lo s.hi).1;have b:=h.inn p (Se s.lo);have g:=h.inn q (Se s.hi);have e:∀ {i:Int},0<=i->i<=1000->Sm 10 i:=λn u=>by unfold Sm;lia
 have d:∀ {i j:Int},0<=i->i<=1000->0<=j->j<=1000->Sm 11 (i-j):=λn u v y=>by unfold Sm;lia
 have m:Sm 11 (q.1-p.1):=d g.a1 g.a2 b.a1 b.a2;have t:Sm 11 (q.2-p.2):=d g.b1 g.b2 b.b1 b.b2;rw[Il l];refine eK (Tx zyA (by exact_mod_cast a.den_nz)) ?_ ((m.mul f.sd).mono zyA);have r:=((e b.b1 b.b2).mul m).mul f.sd;have o:=((f.sn.mono (show k<=10+k by lia)).sub ((e b.a1 b.a2).mul f.sd)).mul t;exact((r.mono (show 10+11+k<=k+30 by lia)).add (o.mono (show 10+k+1+11<=k+30 by lia))).mono zyA
def jY {α:Type}(n m:Nat)(ds us a:List α):List α:=cond (abg us.length n&&abg a.length m) (us++(a++ds)) []
theorem CN (c:aU dvs ds)(a:aU vs us)(b:aU zs ws):aU (jY n m dvs vs zs) (jY n m ds us ws):=by
 unfold jY;rw[a.length,b.length];cases abg us.length n&&abg ws.length m
 ·exact .nil
 ·exact a.append (b.append c)
theorem B_ (h:(jY n m ds us ws).length=k+1):us.length=n/\ws.length=m/\jY n m ds us ws=us++(ws++ds):=by
 unfold jY at h ⊢;cases z:abg us.length n&&abg ws.length m with
 |false=>rw[z] at h;cases h
 |true=>
  rw[Tu] at z;exact⟨ZA z.1,ZA z.2,O⟩
theorem Mo {K:KE}{n m:Nat} (h:∀ us d:List RV,us.length=n->d.length=m->T_ fd ⟨us,ks.zip d⟩=pure ((p :: ps).zip (us ++ d))) :
  kI K fd (p::ps) ks (jY n m []) (jY n m []):=
 ⟨λs us d _ e=>by
  obtain⟨a,b,c⟩:=B_ e;rw[c,X0];exact .of_eq (h us d a b),λa b=>CN .nil a b⟩
structure Du (P:SA)(w:Te)(K:KE)(mg:Str->Option RV)(base:Uc)(CX:qr)(k:Nat)(x:Str)(ps ks:List Str)(n m:Nat)(dvs:List V)(sp:Sp):Prop where
 ex:∃ (f:Sd) (fd:Uw) (ds:List RV),jm P w K mg base CX k f fd ps sp/\mg x=Y (.ref f)/\Sq K (.ref f)=true/\kI K fd ps ks (jY n m ds) (jY n m dvs)
section
variable {X:Cx}{CX:qr}{W:WX}{k n m:Nat}{x:Str}{ps ks:List Str}{sp:Sp}{dvs:List V}{p pos:Pos}{e:U2}{es:List U2}{t tk:TA}{kws:List XC}
theorem iA (j:GU CX) (C:Du X.prog X.w X.K X.mg X.base CX k x ps ks n m dvs sp) (i:Room k X.A) (q:Gl X x) (c:WA X (e :: es) t) (a:WK X kws tk)
  (b:(UV pos (TQ kws X.env)).all (·.1.isSome)=true:=by rfl)(h:(UV pos (TQ kws X.env)).filterMap (·.1)=ks:=by rfl)(d:(x==("__debug__":Str))=false:=by decide)
  (he:Ss (e::es) X.env=(false,V1 e X.env)::Ss es X.env:=by rfl)
  (g:((VY pos (Ss (e::es) X.env)).any (·.1)||(UV pos (TQ kws X.env)).any (·.1.isNone))=false:=by rfl):
  WE X (.Call (.Name x p) (e::es) kws pos) (HC sp (jY n m dvs) E0 t tk):=by
 have c:=c.go;have a:=a.go;refine⟨?_⟩;obtain⟨f,s,ds,F,l,r,o⟩:=C.ex;exact Jo F i q l r o (qP j) c a b h d he g
end
structure rO (K:KE)(mg:Str->Option RV)(x:Str)(st:T6)(ps ks:List Str)(n m:Nat)(dvs:List V):Prop where
 ex:∃ (f:Sd) (fd:Uw) (oc:RV) (od:Option Sd) (dV kV doc pm:RV) (an:Option Sd) (cdv ct:RV) (osl:Array (Option RV)) (ds:List RV),
  fd=Sn x x (aO st) (aJ st) (af st) dV kV doc pm an cdv ct/\K.lookup f=Y ⟨oc,od,.func fd,osl⟩/\SF K cdv x=true /\
  mg x=Y (.ref f)/\Sq K (.ref f)=true/\kI K fd ps ks (jY n m ds) (jY n m dvs)
section
variable {P:SA}{w:Te}{K:KE}{mg:Str->Option RV}{base:Uc}{CX:qr}{x:Str}{st:T6}{N ps ks:List Str}{n m:Nat}{dvs:List V}{k:Nat}{sp:Sp}
theorem rO.cal (F:rO K mg x st ps ks n m dvs) (S:ao N ps (af st)) (len:∀ vs H Q E,sp vs H Q E->vs.length=ps.length:=by intro _ _ _ _ h;cases h;subst_vars;rfl)
  (bb:∀ (f:Sd) (b:RV) (A:Tf) (a:List Env) (s:RZ) (H:Hp) (vs:List V) (Q:VK) (E:XK),Room k (A.deeper (YW x (af st) s.heap.objs.size f b))->sp vs H Q E ->
   ∃ t,Ht (wM CX P w K mg base N x (af st) f b A a s H E).nox (aJ st) t/\t { nx:=λ_ H'=>Q .non H',rt:=Q } (lj N vs) H):Du P w K mg base CX (k+1) x ps ks n m dvs sp:=by
 obtain⟨f,r,z,y,u,kV,l,C,B,b,v,o,ds,rfl,g,c,i,p,j⟩:=F.ex;refine⟨f,_,ds,zc g c S len λA a s H vs Q E e d=>?_,i,p,j⟩;obtain⟨t,h,q⟩:=bb f b A a s H vs Q E e d;exact⟨t,h.nox,q⟩
theorem qL {p:Str}{ps:List Str}{f:Sd}{q:RV}{o i:Option Sd}{d:Array (Option RV)}{kV b j a e:RV} (l:K.lookup f=Y ⟨q,o,.func (Sn x x (aO st) (aJ st) (af st) .none kV b j i a e),d⟩)
  (c:SF K a x=true)(r:Sq K (.ref f)=true)(g:mg x=Y (.ref f))
  (h:∀ us k:List RV,us.length=n->k.length=m->T_ (Sn x x (aO st) (aJ st) (af st) .none kV b j i a e) ⟨us,ks.zip k⟩=pure ((p::ps).zip (us++k))):rO K mg x st (p::ps) ks n m []:=
 ⟨f,_,q,o,.none,kV,b,j,i,a,e,d,[],O,l,c,g,r,Mo h⟩
end
structure tV (P:SA)(w:Te)(K:KE)(mg:Str->Option RV)(base:Uc)(CX:qr)(k:Nat)(x m:Str)(ps ks:List Str)(n j:Nat)(dvs:List V)(sp:Sp):Prop where
 ex:∃ (C f:Sd) (fd:Uw) (ds:List RV) (fs:List Str),jm P w K mg base CX k f fd ps sp/\OL K x fs C/\JZ K C m f/\mg x=Y (.ref C)/\kI K fd ps ks (jY n j ds) (jY n j dvs)
def P6 (K:KE)(x:Str)(sp:Sp)(d:List V->List V->List V)(E:XK)(h:TA):TE:=λe H Q=>h e H λg c=>∀ C a b,cR K x C->c a=none->c b=none->b≠a ->
 sp (d [.ref a] g) (upd (upd c b (.own a)) a (.ins C b [])) (λv f=>v=.non/\Q (.ref a) f) E
section
variable {X:Cx}{CX:qr}{K:KE}{W:WX}{k n j:Nat}{x:Str}{ps ks:List Str}{sp:Sp}{dvs:List V}{p pos:Pos}{tk:TA}{kws:List XC}
theorem Ho (M:Mk X.K C f) (F:jm X.prog X.w X.K X.mg X.base CX k f fd ps sp) (o:Room (k + 1) X.A)
  (j:kI X.K fd ps ks g gV)(l:∀ J:Hp,∀ s1:RZ,aK X pins σ J s1->∀ e d,CX X.stack J s1 E e d->X.xe e d)(I:aK X pins σ H s)(x:aU zs ws)
  (h:∀ a c,H a=none->H c=none->c≠a->sp (gV [.ref a] zs) (upd (upd H c (.own a)) a (.ins C c [])) (λv n=>v=.non/\Q (.ref a) n) E):
  Sb (SD X.prog X.w) X.A (call (.ref C) [] (ks.zip ws)) (EP X pins σ Q) X.xe s:=by
 have hq:=h (s.heap.objs.size+1) s.heap.objs.size (I.hok.fresh (X5 _)) (I.hok.fresh (R0 _)) (Si (Um _));have J:=aK.made (C:=C) I;have i:=j.rel (show aU [V.ref (s.heap.objs.size+1)] [SC (s.heap.objs.size+1)] from .cons rfl .nil) x;have m:(g [SC (s.heap.objs.size+1)] ws).length=ps.length:=i.length.symm.trans (F.len _ _ _ _ hq);refine XW (vh (f:=f) I.kIn M.makes M.init (UW.mp M.fn) (Vg (F.run _ X.stack _ _ ⟨[SC (s.heap.objs.size+1)],ks.zip ws⟩ (g [SC (s.heap.objs.size+1)] ws) _ _ E (o.make C [] (ks.zip ws))
  (J.env0.make C [] (ks.zip ws)) (j.to _ [SC (s.heap.objs.size+1)] ws J.kIn m) i hq) λz d b=>?_))
 match z,b with
 |.error v,b=>exact l _ _ J v d b
 |.ok (.ret u),b=>
  obtain⟨v,t,r,y,p,q⟩:=J.after b;subst p;exact⟨y,⟨V.ref (s.heap.objs.size+1),t,r,O,q⟩⟩
theorem wP (L:X.K=K) (B:GU CX) (C:tV X.prog X.w X.K X.mg X.base CX k x "__init__" ps ks n j dvs sp) (v:Room (k + 1) X.A) (hg:Gl X x) (b:WK X kws tk)
  (d:(UV pos (TQ kws X.env)).all (·.1.isSome)=true:=by rfl)(o:(UV pos (TQ kws X.env)).filterMap (·.1)=ks:=by rfl)(i:(x==("__debug__":Str))=false:=by decide)
  (m:((VY pos (Ss [] X.env)).any (·.1)||(UV pos (TQ kws X.env)).any (·.1.isNone))=false:=by rfl):
  WE X (.Call (.Name x p) [] kws pos) (P6 K x sp (jY n j dvs) E0 tk):=by
 have b:=b.go;refine⟨?_⟩;subst L;obtain⟨D,f,fd,ds,y,F,g,q,hmg,G⟩:=C.ex;intro c s M H Q I h;refine TV (jk I hg hmg ?_ i);refine PySem.W.callWith_KW0 (h₀:=X.base) I.ok.mod.kin g.kp d (cu (b pos c s M H _ I h) λws s2 l=>?_) m;obtain⟨zs,H2,r,T,q2⟩:=l;refine⟨r.kIn,?_⟩;rw[o];exact Ho ⟨g.makes,q.at_,q.fn,g.kp⟩ F v G (λJ s1 N e s' z=>(qP B) _ _ _ _ _ _ N z) r T λa t E h2 u=>q2 D a t g.at_ E h2 u
end
structure jS (K:KE)(mg:Str->Option RV)(x m qual:Str)(st:T6)(ps ks:List Str)(n j:Nat)(dvs:List V):Prop where
 ex:∃ (C f:Sd) (fd:Uw) (oc:RV) (od:Option Sd) (dV kV doc pm:RV) (an:Option Sd) (cdv ct:RV) (osl:Array (Option RV)) (ds:List RV) (fs:List Str),
  fd=Sn m qual (aO st) (aJ st) (af st) dV kV doc pm an cdv ct/\K.lookup f=Y ⟨oc,od,.func fd,osl⟩/\SF K cdv qual=true /\
  OL K x fs C/\JZ K C m f/\mg x=Y (.ref C)/\kI K fd ps ks (jY n j ds) (jY n j dvs)
section
variable {P:SA}{w:Te}{K:KE}{mg:Str->Option RV}{base:Uc}{CX:qr}{x m qual:Str}{st:T6}{N ps ks:List Str}{n j:Nat}{dvs:List V}{k:Nat}{sp:Sp}
theorem jS.cal (F:jS K mg x m qual st ps ks n j dvs) (S:ao N ps (af st)) (len:∀ vs H Q E,sp vs H Q E->vs.length=ps.length:=by intro _ _ _ _ h;cases h;subst_vars;rfl)
  (bb:∀ (f:Sd) (b:RV) (A:Tf) (a:List Env) (s:RZ) (H:Hp) (vs:List V) (Q:VK) (E:XK),Room k (A.deeper (YW qual (af st) s.heap.objs.size f b))->sp vs H Q E ->
   ∃ t,Ht (wM CX P w K mg base N qual (af st) f b A a s H E).nox (aJ st) t/\t { nx:=λ_ H'=>Q .non H',rt:=Q } (lj N vs) H):tV P w K mg base CX (k+1) x m ps ks n j dvs sp:=by
 obtain⟨C,f,u,B,z,v,kV,p,G,D,b,y,r,ds,fs,rfl,g,c,i,l,hmg,o⟩:=F.ex;refine⟨C,f,_,ds,fs,zc g c S len λA a s H vs Q E e d=>?_,i,l,hmg,o⟩;obtain⟨t,h,q⟩:=bb f b A a s H vs Q E e d;exact⟨t,h.nox,q⟩
theorem qM {p:Str}{ps fs:List Str}{C f:Sd}{t:RV}{s o:Option Sd}{i:Array (Option RV)}{kV e q d k:RV} (l:K.lookup f=Y ⟨t,s,.func (Sn m qual (aO st) (aJ st) (af st) .none kV e q o d k),i⟩)
  (c:SF K d qual=true)(z:Sq K (.ref f)=true)(v:UP K (.ref f)=true)(a:Sa K R1 x=Y (Y (.ref C)))(b:SG K (.ref C) m=Y (Y (.ref f)))(y:iO K x fs=true)(g:mg x=Y (.ref C))
  (h:∀ us r:List RV,us.length=n->r.length=j->T_ (Sn m qual (aO st) (aJ st) (af st) .none kV e q o d k) ⟨us,ks.zip r⟩=pure ((p::ps).zip (us++r))):jS K mg x m qual st (p::ps) ks n j []:=by
 obtain⟨D,u⟩:=lY y;cases bK u.at_ a;exact⟨_,f,_,t,s,.none,kV,e,q,o,d,k,i,[],fs,O,l,c,u,⟨b,v,z⟩,g,Mo h⟩
end
structure Rb (P:SA)(w:Te)(K:KE)(mg:Str->Option RV)(base:Uc)(CX:qr)(k:Nat)(v:V)(sp:Sp):Prop where
 ex:∃ (f:Sd) (fd:Uw) (ps:List Str),v=.ref f/\jm P w K mg base CX k f fd ps sp/\Sq K (.ref f)=true/\o9 K fd ps []
theorem NH.fnV {K:KE}{j k:Nat}(C:NH P w K mg base CX j x ps [] sp)(h:mg x=Y (.ref f))(l:j<=k):Rb P w K mg base CX k (.ref f) sp:=by
 obtain⟨g,b,ds,F,a,c,d,e⟩:=C.ex;rw[h] at a;cases a;cases e;exact⟨f,b,ps,O,F.mono l,c,d⟩
def PL (P:SA)(w:Te)(K:KE)(mg:Str->Option RV)(base:Uc)(CX:qr)(k i:Nat)(t:TA):TE:=λa H Q=>∃ v,a[i]?=Y (Y v)/\∃ b,Rb P w K mg base CX k v b/\t a H λvs c=>b vs c Q E0
theorem BO {K:KE}{k i:Nat} (hP:X.prog=P) (hw:X.w=w) (L:X.K=K) (hmg:X.mg=mg) (l:X.base=base) (D:GU CX) (y:Room k X.A)
  (j:WE X (.Name x p) (rX i))(b:WA X (e::es) t)
  (he:Ss (e::es) X.env=(false,V1 e X.env)::Ss es X.env:=by rfl)(g:(VY pos (Ss es X.env)).any (·.1)=false:=by rfl):WE X (.Call (.Name x p) (e::es) [] pos) (PL P w K mg base CX k i t):=by
 have j:=j.go;have b:=b.go;refine⟨?_⟩;subst hP hw L hmg l;intro a s m H Q I h;obtain⟨v,G,sp,F,h⟩:=h;obtain⟨f,fd,ps,rfl,F,B,J⟩:=F.ex;refine TV (cu (j a s m H (λE M=>E=V.ref f/\M=H) I ⟨_,G,O,O⟩) λu T d=>?_);obtain⟨v1,C,N,rv,z,o⟩:=d;subst z o;cases rv;refine W1 (h₀:=X.base) I.ok.mod.kin B (cu (b pos a T m C _ N h) λus s2 c=>?_) he g;obtain⟨vs,H2,n,r,q⟩:=c;refine⟨n.kIn,?_⟩;exact zP (dvs:=[]) F y J .nil (qP D) n r (by rw[X0];exact q)
structure wn (K:KE)(w:Te)(mg:Str->Option RV)(D:Sd)(kvs:List (Str×Str)):Prop where
 ex:∃ (es:Array Uv) (n:Nat),K.lookup D=Y ⟨.type "dict",none,.dict es n,#[]⟩/\ZB w.params es.toList/\Yp (λ(e:Uv) (p:Str×Str)=>∃ t f,e.key=.str p.1 t/\e.val=.ref f/\mg p.2=Y (.ref f)) es.toList kvs
 lo:(D==Ua)=false
theorem vO {mg:Str->Option RV}:∀ {l:List Uv}{c:List (Str × Sd)}{kvs:List (Str × Str)},Yp (fun (e:Uv) (p:Str × Sd)=>∃ t,e.key=.str p.1 t/\e.val=.ref p.2) l c ->
  Yp (λ(p:Str×Sd) (q:Str×Str)=>p.1=q.1/\mg q.2=Y (.ref p.2)) c kvs->Yp (λ(e:Uv) (p:Str×Str)=>∃ t f,e.key=.str p.1 t/\e.val=.ref f/\mg p.2=Y (.ref f)) l kvs
 |[],_,_,a,b=>by cases a;cases b;exact .nil
 |_::_,_,_,a,b=>by
  cases a with
  |cons h r=>
   cases b with
   |cons q s=>
    obtain⟨t,g,d⟩:=h;exact .cons ⟨t,_,by rw[g,q.1],d,q.2⟩ (vO r s)
theorem CT {mg:Str->Option RV}{x:Str}:∀ {l:List Uv}{kvs:List (Str × Str)},Yp (fun (e:Uv) (p:Str × Str)=>∃ t f,e.key=.str p.1 t/\e.val=.ref f/\mg p.2=Y (.ref f)) l kvs ->
  (match kvs.lookup x with|some n=>∃ f e,l.find? (λd=>Vf x d.key)=Y e/\e.val=.ref f/\mg n=Y (.ref f)|none=>l.find? (λd=>Vf x d.key)=none)
 |[],_,h=>by cases h;rfl
 |e::l,_,h=>by
  cases h with|@cons _ p _ kvs h r=>?_
  obtain⟨a,b⟩:=p;obtain⟨t,f,g,i,c⟩:=h;rw[TM,U8,g];have q:Vf x (.str a t)=(x==a):=by
   show decide _=_;rw[V3];exact Zd.mpr ⟨Eq.symm,Eq.symm⟩
  rw[q];cases z:x==a with
  |true=>exact⟨f,e,O,i,c⟩
  |false=>exact CT r
section
variable {X:Cx}{K:KE}{w:Te}{mg:Str->Option RV}{kvs:List (Str×Str)}
def QM (K:KE)(w:Te)(mg:Str->Option RV)(kvs:List (Str×Str)):TE:=λ_ H Q=>∀ D,wn K w mg D kvs->Q (.ref D) H
theorem uD (d:Gl X x)(b:∃ D,X.mg x=Y (.ref D)/\wn K w mg D kvs)(e:(x==("__debug__":Str))=false:=by decide):WE X (.Name x pos) (QM K w mg kvs):=by
 refine⟨?_⟩;intro a s g H Q I h;obtain⟨D,f,c⟩:=b;exact jk I d f ⟨.ref D,H,I,O,h D c⟩ e
def NC (K:KE)(w:Te)(mg:Str->Option RV)(kvs:List (Str×Str)):R2:=λx y H Q=>∃ a D,x=.str a/\y=.ref D/\wn K w mg D kvs/\Q (.bl (kvs.lookup a).isSome) H
theorem Fd {h:Uc}{prog:SA}{D:Sd} (X:K.In h) (T:wn K w mg D kvs):∃ es:Array Uv,h.MapOf (strKind prog w) D (fun k=>findBy Vf es k)/\∀ x,match kvs.lookup x with
  |some n=>∃ f,findBy Vf es x=Y (.ref f)/\mg n=Y (.ref f)
  |none=>findBy Vf es x=none:=by
 obtain⟨es,n,l,g,d⟩:=T.ex;refine⟨es,PySem.W.mapOf_K X l g,λx=>?_⟩;have q:=CT (x:=x) d;obtain⟨es⟩:=es;unfold findBy;cases z:kvs.lookup x with
 |none=>
  rw[z] at q;simp only[aap];rw[q];rfl
 |some n=>
  rw[z] at q;obtain⟨f,e,b,c,a⟩:=q;refine⟨f,?_,a⟩;simp only[aap];rw[b];show Y e.val=_;rw[c]
theorem BW (i:X.K=K)(hw:X.w=w):pF X (UF .In) (NC K w mg kvs):=by
 subst i hw;intro b s l H x y v u Q I d j h;obtain⟨a,D,rfl,rfl,T,q⟩:=h;obtain⟨t,rfl⟩:=d;cases j;obtain⟨c,g,k⟩:=Fd (prog:=X.prog) I.kIn T;refine wpAny_in_of (strKind_is X.prog X.w a t) T.lo g ?_;have e:(findBy Vf c a).isSome=(kvs.lookup a).isSome:=by
  have z:=k a;cases y:kvs.lookup a with
  |none=>rw[y] at z;rw[z];rfl
  |some n=>rw[y] at z;obtain⟨f,z,_⟩:=z;rw[z];rfl
 exact Nj (I.tok _) q e.symm
def M_ (K:KE)(w:Te)(mg:Str->Option RV)(kvs:List (Str×Str)):R2:=λx y H Q=>∃ a n D,x=.ref D/\y=.str a/\wn K w mg D kvs/\kvs.lookup a=Y n/\∀ f,mg n=Y (.ref f)->Q (.ref f) H
theorem Hw (k:X.K=K)(hw:X.w=w):HH X (M_ K w mg kvs):=by
 subst k hw;intro c b d s r H x y v u Q I j m h l;obtain⟨a,n,D,rfl,rfl,T,i,q⟩:=h;obtain⟨t,rfl⟩:=m;cases j;obtain⟨p,e,o⟩:=Fd (prog:=X.prog) I.kIn T;have z:=o a;rw[i] at z;obtain⟨f,z,g⟩:=z;exact tail_any e.typeIs slot_dict_getitem.lookup (wpAny_getItem_of (strKind_is X.prog X.w a t) e z ⟨.ref f,H,I.tok _,O,q f g⟩) l
end
def An:List String:=["NoneType","bool","int","str","list","tuple","dict"]
def Gw (K:KE)(x:Str):Bool:=(nQ K x).any λC=>SG K (.ref C) "__class__"==Y (Y (.builtin "object.__class__"))&&Xj K (.builtin "object.__class__") "__get__"==Y (Y (.builtin "getset_descriptor.__get__")) &&
 X' K (.builtin "object.__class__")==Y true&&W2 K C (.type "object")==Y true&&An.all λT=>Vk K (.type T) (.ref C)==Y false
def Qo (K:KE)(x:Str):List V->Hp->VK->Prop:=λb H Q=>∃ v C,b=[v,.ref C]/\cR K x C/\((∃ a c fs,v=.ref a/\H a=Y (.ins C c fs)/\Q (.bl true) H)\/∃ T,Ty K H v T/\T∈An/\Q (.bl false) H)
theorem E6 {K:KE}(n:X.K=K)(p:iO K x fs0=true)(hi:Gw K x=true):dP X (.builtin "isinstance") (Qo K x):=by
 subst n;intro g s B H F A Q I r h;obtain⟨v,C,rfl,f,h⟩:=h;obtain⟨u,w,rfl,i,b⟩:=mK r;cases(show w=SC C from b);obtain⟨D,d⟩:=lY p;cases bK f d.at_;obtain⟨E,e,q⟩:=jr hi;rw[jL f] at e;cases e;simp only[Tu,UW,Ul] at q;obtain⟨⟨⟨⟨m,t⟩,l⟩,k⟩,o⟩:=q;rcases h with ⟨a,z,fs,rfl,j,h⟩|⟨T,ty,y,h⟩
 ·exact sN I i (.ins j d.cls m t l k) (by unfold Vk;rw[SO (XI _)]) λc=>⟨.bl true,H,I.tok c,O,h⟩
 ·exact sN I i ty (o T y) λc=>⟨.bl false,H,I.tok c,O,h⟩
theorem jo {K:KE}(h:iO K x fs=true):∃ C,cR K x C:=by
 obtain⟨C,a⟩:=lY h;exact⟨C,a.at_⟩
section
variable {prog:SA}{w:Te}{A:Tf}{E:RV->RZ->Prop}{s:RZ}
theorem Pk (c:s.heap.get? a=Y o)(h:Q (Y o) s):Sb (SD prog w) A (loadIfAlive a) Q E s:=λb p _=>by
 show Sem.wp _ b (Sem.loadIfAlive a Sem.pure) _ _ p s;rw[Sem.wp_loadIfAlive,c];exact h
abbrev Br (h:Uc)(z ti to:Sd)(a b:RV):Prop:=h.get? z=Y { cls:=.type "zip",dict:=none,data:=.fields #[a,b,.bool false,.ref ti,.ref to],slots:=#[] }
structure Kg (b1 b2:Bool)(h:Uc)(z ti to j1 j2 q1 q2:Sd)(k:Nat)(xs ys:Array RV):Prop where
 zp:∃ (a:Sd) (c:Bool),Br h z ti to (UD a) (.bool c)/\a≠z/\a≠j1/\a≠j2/\∃ o,h.get? a=Y o
 pi:V8 h ti (.ref j1) (.ref j2)
 s1:nY b1 h j1 q1 k xs
 s2:nY b2 h j2 q2 k ys
theorem PQ {z ti to a:Sd}{c:Bool}{Q:Bool->RZ->Prop} (hz:Br s.heap z ti to (UD a) (.bool c)) (f:∃ o,s.heap.get? a=Y o)
  (b:∀ g,(∃ d,Br g z ti to (UD a) (.bool d))->Xd z s.heap g->g.objs.size=s.heap.objs.size->Q false { s with heap:=g }):Sb (SD prog w) A (Sr (.ref z)) Q E s:=by
 obtain⟨o,f⟩:=f;unfold Sr;refine HD (S' hz rfl (x:=UD a) O ?_);show Sb _ _ (loadIfAlive (VL (a:Int))>>=_) _ _ s;rw[SQ];refine HD (Pk f ?_);simp only[Option.isNone_some,Tc,UX];refine HD (S' hz rfl (x:=.bool c) O ?_);cases c with
 |true=>
  rw[Sx Z];refine RT (b s.heap ⟨true,hz⟩ (λ_ _ _ e=>e) O)
 |false=>
  rw[SO Z];refine HD (SU hz zyB λg i h=>RT (b g ⟨true,i⟩ h.extBut h.1))
theorem JH (D:Mt z ti to j1 j2 q1 q2) (C:Kg b1 b2 s.heap z ti to j1 j2 q1 q2 k xs ys) (M:xs[k]?=Y x) (hy:ys[k]?=Y y)
  (t:∀ g,Kg b1 b2 g z ti to j1 j2 q1 q2 (k+1) xs ys->V8 g s.heap.objs.size x y->(∀ c o,c≠z->c≠j1->c≠j2->s.heap.get? c=Y o->g.get? c=Y o)->g.objs.size=s.heap.objs.size+1->Q (Y (.ref s.heap.objs.size)) { s with heap:=g }):
  Sb (SD prog w) A (U_ (.ref z)) Q E s:=by
 obtain⟨⟨a,c,l,G,f,h,I,H⟩,J,B,m⟩:=C;have L:s.TypeIs (.ref z) "zip":=⟨_,l,O⟩
 unfold U_;refine HD (UA (SI (name:=TJ "__next__") L T4 (SZ T4 L VI ?_ (Vs _))));show Sb _ _ (field (.ref z) 2>>=_) _ _ s;refine HD (S' l rfl (x:=.bool false) O ?_);show Sb _ _ (field (.ref z) 3>>=_) _ _ s;refine HD (S' l rfl (x:=.ref ti) O ?_);refine HD (Tl J rfl ?_);show Sb _ _ (Sr (.ref z)>>=_) _ _ s;refine HD (PQ l ⟨I,H⟩ λg1 b r v=>?_);obtain⟨d,b⟩:=b;simp only[Tc,UX];rw[<- Yi];simp only[Vv,VQ];refine HD (HD (HD (TC ?_)));show Sb _ _ (Sw (.ref j1)>>=_) _ _ { s with heap:=g1 };refine HD ((B.ext r D.a3 D.c1).next M λN T i=>RT ?_);refine RT (HD (HD (TC ?_)));show Sb _ _ (Sw (.ref j2)>>=_) _ _ { s with heap:=N };refine HD (((m.ext r D.a4 D.d1).ext i.extBut D.b1.symm D.d3).next hy λF i3 j=>RT ?_);refine RT (RT ?_);refine HD (Xp (hsz:=by show 2<=Sk;decide) ?_);have sz:F.objs.size=s.heap.objs.size:=by rw[j.1,i.1,v]
 have p:∀ c o,c≠z->c≠j1->c≠j2->s.heap.get? c=Y o->F.get? c=Y o:=λc o u n q e=>j.extBut _ _ q (i.extBut _ _ n (r _ _ u e))
 have z3:Br F z ti to (UD a) (.bool d):=j.extBut _ _ D.a4.symm (i.extBut _ _ D.a3.symm b);refine RT ⟨_,O,RT ?_⟩;rw[sz];refine t _ ⟨⟨a,d,RS _ z3,G,f,h,I,RS _ (p _ _ G f h H)⟩,RS _ (p _ _ D.a1 D.a6 D.a7 J),(T.ext j.extBut D.b1 D.c4).keep (λo e=>RS _ e) (λo e=>RS _ e),i3.keep (λo e=>RS _ e) (λo e=>RS _ e)⟩ ?_
  (λc o u n q e=>RS _ (p c o u n q e)) (by rw[SR,sz])
 rw[<- sz];exact RW _ O
theorem M7 (hh:A.handled=none) (D:Mt z ti to j1 j2 q1 q2) (i:Kg b1 b2 s.heap z ti to j1 j2 q1 q2 k xs ys) (H:xs[k]?=none)
  (f:∀ g,(∀ c o,c≠z->c≠j1->c≠j2->s.heap.get? c=Y o->g.get? c=Y o)->Q none { s with heap:=g }):Sb (SD prog w) A (U_ (.ref z)) Q E s:=by
 obtain⟨⟨a,c,d,N,y,L,F,r⟩,G,h,n⟩:=i;have l:s.TypeIs (.ref z) "zip":=⟨_,d,O⟩
 unfold U_;refine HD (UA (SI (name:=TJ "__next__") l T4 (SZ T4 l VI ?_ (Vs _))));show Sb _ _ (field (.ref z) 2>>=_) _ _ s;refine HD (S' d rfl (x:=.bool false) O ?_);show Sb _ _ (field (.ref z) 3>>=_) _ _ s;refine HD (S' d rfl (x:=.ref ti) O ?_);refine HD (Tl G rfl ?_);show Sb _ _ (Sr (.ref z)>>=_) _ _ s;refine HD (PQ d ⟨F,r⟩ λJ I j B=>?_);simp only[Tc,UX];rw[<- Yi];simp only[Vv,VQ];refine HD (HD (HD (TC ?_)));show Sb _ _ (Sw (.ref j1)>>=_) _ _ { s with heap:=J };refine HD ((h.ext j D.a3 D.c1).stops hh H λm e q v=>?_);obtain⟨o,C,M⟩:=v;exact HD (U0 (T:="StopIteration") (b:=true) ⟨o,C,M⟩ Wo (RT (f m λc o t p n3 u=>q _ _ p (j _ _ t u))))
end
namespace ZF
theorem noLen:ZR (.type "zip") "__len__"=pure none:=by
 rw[Yd,Wb]
 kernel_rfl
theorem noHint:ZR (.type "zip") "__length_hint__"=pure none:=by
 rw[Yd,Wb]
 kernel_rfl
end ZF
section
variable {prog:SA}{w:Te}{A:Tf}{E:RV->RZ->Prop}{s:RZ}{R:Result->RZ->Prop}
abbrev uy (a:Array RV)(n:Nat):Obj:={ cls:=.type "list",dict:=none,data:=.seq a n,slots:=#[] }
theorem rn (h:Sb (SD prog w) A.in1 (U_ (.ref I)) (fun o s1=>match o with
   |none=>R (.ok (.ret res)) s1
   |some v=>∃ a n,s1.heap.get? S=Y (uy a n)/\a.size<1000/\∀ g b,g.get? S=Y (uy (a.push v) b)->S_ S s1.heap g->Vc (SD prog w) A (.builtin "list.extend.loop" ⟨[.ref S,.ref I,res],[]⟩) R { s1 with heap:=g })
   (λe d=>R (.error e) d) s):Vc (SD prog w) A (.builtin "list.extend.loop" ⟨[.ref S,.ref I,res],[]⟩) R s:=by
 refine UR PySem.F.entry_extend_loop ?_;rw[UB VB _];show Sb _ _ (U_ (.ref I)>>=_) _ _ s;refine HD (TU h (λo s1 q=>?_) λ_ _ q=>q);cases o with
 |none=>exact RT q
 |some v=>
  obtain⟨a,n,b,c,q⟩:=q;show Sb _ _ (YY S (·.push v)>>=_) _ _ _;have f:a.size<=Sk:=Sv (TH c) Z;refine HD (VA b rfl (hz:=f) (_hz':=by show(a.push v).size<=Sk+1;rw[Array.size_push];lia) (RT ⟨W6 VB _,q _ _ (SK _ b rfl) (SH ..)⟩))
theorem F_ (hz:XZ s.heap z ti to f0) (m:s.heap.get? S=Y (uy #[] c)) (q:S ≠ z)
  (h:∀ g d,g.get? S=Y (uy #[] d)->S_ S s.heap g->Vc (SD prog w) A (.builtin "list.extend.loop" ⟨[.ref S,.ref z,.none],[]⟩) R { s with heap:=g }):
  Sb (SD prog w) A.in1 (TN (.ref S) (.ref z) .none) (λj i=>match j with|.done f=>R (.ok f) i|.again d=>d.quiet=true/\Vc (SD prog w) A d R i) (λe i=>R (.error e) i) s:=by
 have ty:s.TypeIs (.ref z) "zip":=⟨_,hz,O⟩
 unfold TN;refine HD (ZM ty ?_);have t:Vr (.ref S) (.ref z)=false:=by simp[Vr,q]
 have p:(T9 "zip"==T9 "list")=false:=Z
 have r:(T9 "zip"==T9 "tuple")=false:=Z
 simp only[t,p,r,aaj,Tc,UX];refine HD (Wu hz (HD (TC ?_)));unfold V5;refine HD (We ty ZF.noLen ?_);show Sb _ _ (specialOf (SC z) (TJ "__length_hint__")>>=_) _ _ s;refine HD (We ty ZF.noHint (RT ?_));show Sb _ _ (rule "list.extend.makes-room">>=λ_=>Zh (.ref S)>>=λ_=>again (.builtin "list.extend.loop" ⟨[.ref S,.ref z,.none],[]⟩)) _ _ s;refine HD (Vy (HD ?_));show Sb _ _ (YY S (·.push .none)>>=λ_=>YY S (·.pop)) _ _ s;refine HD (VA m rfl ?_);have a:=SK (T1 (·.push Tv)) m rfl;refine VA (hz:=by seq_fits) a rfl ?_;have k:=SK (T1 (·.pop)) a rfl;refine RT ⟨W6 VB _,h _ _ k ?_⟩;have l:=SH s.heap S (T1 (·.push Tv));have n:=SH (s.heap.update S (T1 (·.push Tv))) S (T1 (·.pop));exact⟨n.1.trans l.1,λb o=>(n.2 b o).trans (l.2 b o)⟩
theorem HR (hz:XZ s.heap z ti to f0) (i:s.heap.get? S=Y (uy #[] 0)) (m:S ≠ z)
  (h:∀ g a,g.get? S=Y (uy #[] a)->S_ S s.heap g->Vc (SD prog w) A (.builtin "list.extend.loop" ⟨[.ref S,.ref z,.none],[]⟩) R { s with heap:=g }):
  Sb (SD prog w) A.in1 (Va.«list.__init__» ⟨[.ref S,.ref z],[]⟩) (λj c=>match j with|.done f=>R (.ok f) c|.again a=>a.quiet=true/\Vc (SD prog w) A a R c) (λe c=>R (.error e) c) s:=by
 show Sb _ _ (Zg (.ref S)>>=λk=>Builtin.List.listUpdate (.ref S) (λ_=>#[])>>=λ_=>letGo k.toList.reverse>>=λ_=>TN (.ref S) (.ref z) .none) _ _ s;refine HD ?_;unfold Zg;refine HD (Tl i rfl (RT ?_));show Sb _ _ (YY S (λ_=>#[])>>=λ_=>letGo ([]:List RV)>>=λ_=>TN (.ref S) (.ref z) .none) _ _ s;refine HD (VA i rfl (HD (Wd ?_)));have l:=SK (T1 (λ_=>(#[]:Array RV))) i rfl;have d:=SH s.heap S (T1 (λ_=>(#[]:Array RV)));refine F_ (s:={ s with heap:=s.heap.update S (T1 (λ_=>(#[]:Array RV))) }) (d.extBut _ _ m.symm hz) l m λg a k1 k2=>h g a k1 ⟨k2.1.trans d.1,λb n=>(k2.2 b n).trans (d.2 b n)⟩
theorem zR (hz:XZ s.heap z ti to f0)
  (h:∀ g f,g.get? s.heap.objs.size=Y (uy #[] f)->(∀ b o,s.heap.get? b=Y o->g.get? b=Y o)->g.objs.size=s.heap.objs.size+1 ->
   Vc (SD prog w) A.in1 (.builtin "list.extend.loop" ⟨[.ref s.heap.objs.size,.ref z,.none],[]⟩) (λr i=>match r with|.ok (.ret u)=>u=.none/\Q (.ref s.heap.objs.size) i|.ok _=>False|.error e=>E e i) { s with heap:=g }) :
  Sb (SD prog w) A (call (.type "list") [.ref z]) Q E s:=by
 have k:s.heap.objs.size≠z:=SM (RX hz);refine callType_codes (Q₁:=λc a=>c=.ref s.heap.objs.size/\a={ s with heap:=s.heap.push (uy #[] 0) }) PySem.F.called_list (PySem.F.typeCall_list_1 _) PySem.F.entry_list_init (code_list_new _ ⟨O,O⟩) λc a d=>?_
 obtain⟨rfl,rfl⟩:=d;have j:(s.heap.push (uy #[] 0)).get? s.heap.objs.size=Y (uy #[] 0):=RW _ O;refine⟨⟨_,j,O⟩,PySem.F.args_list_init_2 _ _,HR (s:={ s with heap:=s.heap.push (uy #[] 0) }) (RS _ hz) j k λg f k1 k2=>?_⟩;refine Vg (h g f k1 (λb o e=>k2.extBut b o (Si (RX e)) (RS _ e)) (by rw[k2.1,SR])) λr i q=>?_
 match r,q with
 |.error e,q=>exact q
 |.ok (.ret u),q=>exact q
 |.ok .next,q=>exact q.elim
 |.ok .brk,q=>exact q.elim
 |.ok .cont,q=>exact q.elim
theorem MI.keepAll (d:MI b1 b2 h z ti to j1 j2 q1 q2 f0 k xs ys)(e:∀ b o,h.get? b=Y o->g.get? b=Y o):MI b1 b2 g z ti to j1 j2 q1 q2 f0 k xs ys:=
 ⟨e _ _ d.zp,e _ _ d.pi,(let ⟨a,b,c⟩:=d.po;⟨a,b,e _ _ c⟩),d.s1.keep (λo c=>e _ o c) (λo c=>e _ o c),d.s2.keep (λo c=>e _ o c) (λo c=>e _ o c)⟩
theorem Kg.ext (b:Kg b1 b2 h z ti to j1 j2 q1 q2 k xs ys)(e:S_ S h g)(n:S≠z/\S≠ti/\S≠j1/\S≠j2/\S≠q1/\S≠q2)(j:∃ o,g.get? S=Y o):Kg b1 b2 g z ti to j1 j2 q1 q2 k xs ys:=by
 obtain⟨⟨a,c,q,y,f,p,o,u⟩,x,v,t⟩:=b;obtain⟨m,d,i,s,r,l⟩:=n;refine⟨⟨a,c,e.extBut _ _ m.symm q,y,f,p,?_⟩,e.extBut _ _ d.symm x,v.ext e.extBut i.symm r.symm,t.ext e.extBut s.symm l.symm⟩
 by_cases z:a=S
 ·rw[z];exact j
 ·exact⟨o,e.extBut _ _ z u⟩
theorem HU (hh:A.handled=none) (D:Mt z ti to j1 j2 q1 q2) (d:MI b1 b2 s.heap z ti to j1 j2 q1 q2 .none 0 #[x0,x1,x2] #[y0,y1,y2])
  (fin:∀ g c t0 t1 t2,s.heap.objs.size<t0->t0<t1->t1<t2->g.get? s.heap.objs.size=Y (uy #[.ref t0,.ref t1,.ref t2] c)->V8 g t0 x0 y0->V8 g t1 x1 y1->V8 g t2 x2 y2 ->
   (∀ b o,b≠z->b≠to->b≠j1->b≠j2->s.heap.get? b=Y o->g.get? b=Y o)->Q (.ref s.heap.objs.size) { s with heap:=g }):Sb (SD prog w) A (call (.type "list") [.ref z]) Q E s:=by
 have lz:z<s.heap.objs.size:=RX d.zp;have lti:ti<s.heap.objs.size:=RX d.pi;have lto:to<s.heap.objs.size:=by obtain⟨a,b,c⟩:=d.po;exact RX c
 have I:j1<s.heap.objs.size:=by obtain⟨o,vs,c,_⟩:=d.s1.there;exact RX c
 have F:j2<s.heap.objs.size:=by obtain⟨o,vs,c,_⟩:=d.s2.there;exact RX c
 have lq1:q1<s.heap.objs.size:=by obtain⟨o,vs,c,_⟩:=d.s1.src;exact RX c
 have lq2:q2<s.heap.objs.size:=by obtain⟨o,vs,c,_⟩:=d.s2.src;exact RX c
 have B:∀ {b:Sd},b<s.heap.objs.size->s.heap.objs.size≠b:=λh=>SM h
 have m:∀ {t:Sd},s.heap.objs.size<=t->t≠z/\t≠to/\t≠j1/\t≠j2:=λ{t} h=>⟨SM (R6 lz h),SM (R6 lto h),SM (R6 I h),SM (R6 F h)⟩
 have S6:s.heap.objs.size≠z/\s.heap.objs.size≠ti/\s.heap.objs.size≠j1/\s.heap.objs.size≠j2/\s.heap.objs.size≠q1/\s.heap.objs.size≠q2:=⟨B lz,B lti,B I,B F,B lq1,B lq2⟩
 refine zR d.zp λp c0 hS0 C sz0=>rn ?_
 have Z0:=d.keepAll C;obtain⟨s1,s2,s3,s4⟩:=m (R0 s.heap.objs.size);refine Mr (s:={ s with heap:=p }) D Z0 (x:=x0) (y:=y0) O O λg1 Z1 p1 up1=>⟨#[],c0,up1 _ _ s1 s2 s3 s4 hS0,Z,λj n2 L u=>rn ?_⟩
 have v:s.heap.objs.size<p.objs.size:=zyA
 obtain⟨r1,r2,T,r4⟩:=m (TH v);have H1:Kg b1 b2 j z ti to j1 j2 q1 q2 1 #[x0,x1,x2] #[y0,y1,y2]:=Kg.ext ⟨⟨p.objs.size,false,Z1.zp,r1,T,r4,_,p1⟩,Z1.pi,Z1.s1,Z1.s2⟩ u S6 ⟨_,L⟩;have H:V8 j p.objs.size x0 y0:=u.extBut _ _ (SM v) p1;refine JH (s:={ s with heap:=j }) D H1 (x:=x1) (y:=y1) O O λg3 H3 p3 r sz3=>⟨_,n2,r _ _ s1 s3 s4 L,(by show 1<1000;decide),λq n4 J n=>rn ?_⟩
 have l2:p.objs.size<j.objs.size:=RX H;have k:s.heap.objs.size<j.objs.size:=V' v l2;obtain⟨u1,u2,u3,u4⟩:=m (TH k);have H4:Kg b1 b2 q z ti to j1 j2 q1 q2 2 #[x0,x1,x2] #[y0,y1,y2]:=H3.ext n S6 ⟨_,J⟩;have w1:V8 q p.objs.size x0 y0:=n.extBut _ _ (SM v) (r _ _ r1 T r4 H);have w2:V8 q j.objs.size x1 y1:=n.extBut _ _ (SM k) p3;refine JH (s:={ s with heap:=q }) D H4 (x:=x2) (y:=y2) O O λg5 H5 p5 l sz5=>⟨_,n4,l _ _ s1 s3 s4 J,(by show 2<1000;decide),λN n6 G i=>rn ?_⟩
 have l3:j.objs.size<q.objs.size:=RX w2;have M:s.heap.objs.size<q.objs.size:=V' k l3;obtain⟨v1,v2,v3,v4⟩:=m (TH M);have H6:Kg b1 b2 N z ti to j1 j2 q1 q2 3 #[x0,x1,x2] #[y0,y1,y2]:=H5.ext i S6 ⟨_,G⟩;have a1:V8 N p.objs.size x0 y0:=i.extBut _ _ (SM v) (l _ _ r1 T r4 w1);have a2:V8 N j.objs.size x1 y1:=i.extBut _ _ (SM k) (l _ _ u1 u3 u4 w2);have a3:V8 N q.objs.size x2 y2:=i.extBut _ _ (SM M) p5;refine M7 (s:={ s with heap:=N }) (show A.in1.in1.handled=none from hh) D H6 rfl λg7 f=>⟨O,?_⟩
 refine fin g7 n6 p.objs.size j.objs.size q.objs.size v l2 l3 (f _ _ s1 s3 s4 G) (f _ _ r1 T r4 a1) (f _ _ u1 u3 u4 a2) (f _ _ v1 v3 v4 a3) λb o m1 m2 m3 m4 e=>?_
 have nb:b≠s.heap.objs.size:=Si (RX e);exact f _ _ m1 m3 m4 (i.extBut _ _ nb (l _ _ m1 m3 m4 (n.extBut _ _ nb (r _ _ m1 m3 m4 (u.extBut _ _ nb (up1 _ _ m1 m2 m3 m4 (C _ _ e)))))))
end
abbrev fJ (h:Uc)(T:Sd)(a b c:RV):Prop:=h.get? T=Y { cls:=.type "tuple",data:=.seq #[a,b,c] }
structure NM (b1 b2 b3:Bool)(h:Uc)(z ti to j1 j2 j3 q1 q2 q3:Sd)(f0:RV)(k:Nat)(xs ys zs:Array RV):Prop where
 zp:XZ h z ti to f0
 pi:fJ h ti (.ref j1) (.ref j2) (.ref j3)
 po:∃ a b c,fJ h to a b c
 s1:nY b1 h j1 q1 k xs
 s2:nY b2 h j2 q2 k ys
 s3:nY b3 h j3 q3 k zs
structure LM (z ti to j1 j2 j3 q1 q2 q3:Sd):Prop where
 a1:ti≠z
 a2:to≠z
 a3:j1≠z
 a4:j2≠z
 a5:j3≠z
 t1:ti≠to
 t2:ti≠j1
 t3:ti≠j2
 t4:ti≠j3
 u1:to≠j1
 u2:to≠j2
 u3:to≠j3
 v1:j1≠j2
 v2:j1≠j3
 v3:j2≠j3
 p1:q1≠z/\q1≠to/\q1≠j2/\q1≠j3
 p2:q2≠z/\q2≠to/\q2≠j1/\q2≠j3
 p3:q3≠z/\q3≠to/\q3≠j1/\q3≠j2
section
variable {prog:SA}{w:Te}{A:Tf}{E:RV->RZ->Prop}{s:RZ}
theorem De (d:fJ s.heap T a b c)
  (h:∀ g,g.get? T=Y { cls:=.type "tuple",data:=.seq ((#[a,b,c]:Array RV).setIfInBounds k x) }->S_ T s.heap g->Q () { s with heap:=g }):Sb (SD prog w) A (YY T (·.setIfInBounds k x)) Q E s:=by
 refine VA d rfl (h _ ?_ (SH ..));rw[SK _ d rfl];simp[T1]
theorem MO (D:LM z ti to j1 j2 j3 q1 q2 q3) (zyQ:NM b1 b2 b3 s.heap z ti to j1 j2 j3 q1 q2 q3 .none k xs ys zs)
  (hx:xs[k]?=Y x)(hy:ys[k]?=Y y)(hv:zs[k]?=Y v)
  (L:∀ g,NM b1 b2 b3 g z ti to j1 j2 j3 q1 q2 q3 (UD s.heap.objs.size) (k+1) xs ys zs->fJ g s.heap.objs.size x y v->(∀ c o,c≠z->c≠to->c≠j1->c≠j2->c≠j3->s.heap.get? c=Y o->g.get? c=Y o)->Q (Y (.ref s.heap.objs.size)) { s with heap:=g }):
  Sb (SD prog w) A (U_ (.ref z)) Q E s:=by
 obtain⟨p,hi,⟨pa,pb,u,ho⟩,T,H,I⟩:=zyQ;have ht:s.TypeIs (.ref z) "zip":=⟨_,p,O⟩
 unfold U_;refine HD (UA (SI (name:=TJ "__next__") ht T4 (SZ T4 ht VI ?_ (Vs _))));show Sb _ _ (field (.ref z) 2>>=_) _ _ s;refine HD (S' p rfl (x:=.bool false) O ?_);show Sb _ _ (field (.ref z) 3>>=_) _ _ s;refine HD (S' p rfl (x:=.ref ti) O ?_);refine HD (Tl hi rfl ?_);show Sb _ _ (Sr (.ref z)>>=_) _ _ s;refine HD ?_;unfold Sr;refine HD (S' p rfl (x:=.none) O (RT ?_));simp only[VF];refine HD (Vy (HD (S' p rfl (x:=.ref to) O ?_)));refine HD (SU p zyB λg1 M m=>?_);have M:XZ g1 z ti to .ellipsis:=M;refine HD ?_;simp only[XF,X4,Vv,VQ];refine HD (HD (VH ?_));show Sb _ _ (Sw (.ref j1)>>=_) _ _ { s with heap:=g1 };refine HD ((T.ext m.extBut D.a3 D.p1.1).next hx λg2 i2 h=>RT ?_);have o2:fJ g2 to pa pb u:=h.extBut _ _ D.u1 (m.extBut _ _ D.a2 ho);refine HD (Tl o2 rfl (HD (De o2 λg3 o3 j=>?_)));have o3:fJ g3 to x pb u:=o3;refine HD (Wd (RT ?_));refine HD (HD (VH ?_));show Sb _ _ (Sw (.ref j2)>>=_) _ _ { s with heap:=g3 };refine HD ((((H.ext m.extBut D.a4 D.p2.1).ext h.extBut D.v1.symm D.p2.2.2.1).ext j.extBut D.u2.symm D.p2.2.1).next hy λg4 i4 l=>RT ?_);have o4:fJ g4 to x pb u:=l.extBut _ _ D.u2 o3;refine HD (Tl o4 rfl (HD (De o4 λg5 o5 q=>?_)));have o5:fJ g5 to x y u:=o5;refine HD (Wd (RT ?_));refine HD (HD (VH ?_));show Sb _ _ (Sw (.ref j3)>>=_) _ _ { s with heap:=g5 };refine HD ((((((I.ext m.extBut D.a5 D.p3.1).ext h.extBut D.v2.symm D.p3.2.2.1).ext j.extBut D.u3.symm D.p3.2.1).ext l.extBut D.v3.symm D.p3.2.2.2).ext q.extBut D.u3.symm D.p3.2.1).next hv λg6 i6 r=>RT ?_);have o6:fJ g6 to x y u:=r.extBut _ _ D.u3 o5;refine HD (Tl o6 rfl (HD (De o6 λa G i=>?_)));have G:fJ a to x y v:=G;refine HD (Wd (RT (RT ?_)));refine HD (Tl G rfl (HD (Xp ?_)));have sz:a.objs.size=s.heap.objs.size:=by rw[i.1,r.1,q.1,l.1,j.1,h.1,m.1]
 have z7:XZ a z ti to .ellipsis:=i.extBut _ _ D.a2.symm (r.extBut _ _ D.a5.symm (q.extBut _ _ D.a2.symm (l.extBut _ _ D.a4.symm (j.extBut _ _ D.a2.symm (h.extBut _ _ D.a3.symm M)))));have k7:∀ c o,c≠z->c≠to->c≠j1->c≠j2->c≠j3->s.heap.get? c=Y o->a.get? c=Y o:=λc o F t J n4 N e=>
  i.extBut _ _ t (r.extBut _ _ N (q.extBut _ _ t (l.extBut _ _ n4 (j.extBut _ _ t (h.extBut _ _ J (m.extBut _ _ F e))))))
 have w1:nY b1 a j1 q1 (k+1) xs:=((((i2.ext j.extBut D.u1.symm D.p1.2.1).ext l.extBut D.v1 D.p1.2.2.1).ext q.extBut D.u1.symm D.p1.2.1).ext r.extBut D.v2 D.p1.2.2.2).ext i.extBut D.u1.symm D.p1.2.1;have w2:nY b2 a j2 q2 (k+1) ys:=((i4.ext q.extBut D.u2.symm D.p2.2.1).ext r.extBut D.v3 D.p2.2.2.2).ext i.extBut D.u2.symm D.p2.2.1;have w3:nY b3 a j3 q3 (k+1) zs:=i6.ext i.extBut D.u3.symm D.p3.2.1;have lz:z<a.objs.size:=RX z7;show Sb _ _ (Ug (.ref z) (.ref a.objs.size)>>=_) _ _ _;refine HD ?_;unfold Ug;have z8:XZ (a.push { cls:=.type "tuple",data:=.seq #[x,y,v] }) z ti to .ellipsis:=RS _ z7;refine HD (SU z8 zyB λg9 z9 e9=>?_);have z9:XZ g9 z ti to (UD a.objs.size):=z9;refine SU z9 zyB λb f B=>?_
 have f:XZ b z ti to (UD a.objs.size):=f;have d:∀ c o,c≠z->a.get? c=Y o->b.get? c=Y o:=λc o n e=>B.extBut _ _ n (e9.extBut _ _ n (RS _ e))
 have C:fJ b a.objs.size x y v:=B.extBut _ _ (SM lz) (e9.extBut _ _ (SM lz) (RW _ O));rw[sz] at f C;refine RT ⟨_,O,RT ?_⟩;show Q (Y (.ref a.objs.size)) _;rw[sz];exact L b ⟨f,d _ _ D.a1 (k7 _ _ D.a1 D.t1 D.t2 D.t3 D.t4 hi),⟨x,y,v,d _ _ D.a2 G⟩,w1.keep (λo e=>d _ o D.a3 e) (λo e=>d _ o D.p1.1 e),w2.keep (λo e=>d _ o D.a4 e) (λo e=>d _ o D.p2.1 e),w3.keep (λo e=>d _ o D.a5 e) (λo e=>d _ o D.p3.1 e)⟩ C
  λc o F t J n4 N e=>d c o F (k7 c o F t J n4 N e)
theorem Nr (hh:A.handled=none) (D:LM z ti to j1 j2 j3 q1 q2 q3) (j:NM b1 b2 b3 s.heap z ti to j1 j2 j3 q1 q2 q3 .none k xs ys zs) (J:xs[k]?=none)
  (f:∀ g,(∀ c o,c≠z->c≠to->c≠j1->c≠j2->c≠j3->s.heap.get? c=Y o->g.get? c=Y o)->Q none { s with heap:=g }):Sb (SD prog w) A (U_ (.ref z)) Q E s:=by
 obtain⟨a,I,⟨pa,N,M,ho⟩,i,B,C⟩:=j;have v:s.TypeIs (.ref z) "zip":=⟨_,a,O⟩
 unfold U_;refine HD (UA (SI (name:=TJ "__next__") v T4 (SZ T4 v VI ?_ (Vs _))));show Sb _ _ (field (.ref z) 2>>=_) _ _ s;refine HD (S' a rfl (x:=.bool false) O ?_);show Sb _ _ (field (.ref z) 3>>=_) _ _ s;refine HD (S' a rfl (x:=.ref ti) O ?_);refine HD (Tl I rfl ?_);show Sb _ _ (Sr (.ref z)>>=_) _ _ s;refine HD ?_;unfold Sr;refine HD (S' a rfl (x:=.none) O (RT ?_));simp only[VF];refine HD (Vy (HD (S' a rfl (x:=.ref to) O ?_)));refine HD (SU a zyB λt h p=>?_);have h:XZ t z ti to .ellipsis:=h;refine HD ?_;simp only[XF,X4,Vv,VQ];refine HD (HD (VH ?_));show Sb _ _ (Sw (.ref j1)>>=_) _ _ { s with heap:=t };refine HD ((i.ext p.extBut D.a3 D.p1.1).stops hh J λy e m G=>?_);obtain⟨H,d,r⟩:=G;have l:XZ y z ti to .ellipsis:=m _ _ D.a3.symm h;have ne:e≠z:=λc=>by subst c;rw[l] at d;cases d;simp at r
 refine SU l zyB λL _ n=>?_
 exact HD (U0 (T:="StopIteration") (b:=true) ⟨H,n.extBut _ _ ne d,r⟩ Wo (RT (f L λc o q _ F _ _ u=>n.extBut _ _ q (m _ _ F (p.extBut _ _ q u)))))
end
def NN (K:KE)(b1 b2 e:Bool)(f g d:Sd):It:=
 ⟨λi H=>∃ a b c x y z,bY K H f a b1/\bY K H g b b2/\bY K H d c e/\a[i]?=Y x/\b[i]?=Y y/\c[i]?=Y z,
  λi H v h=>∃ x y z T,(∀ a,bY K H f a b1->a[i]?=Y x)/\(∀ b,bY K H g b b2->b[i]?=Y y)/\(∀ c,bY K H d c e->c[i]?=Y z)/\H T=none/\v=.ref T/\h=upd H T (.tup [x,y,z]),
  λi H=>∃ a b c,bY K H f a b1/\bY K H g b b2/\bY K H d c e/\a.length<=i⟩
def P5 (z ti to j1 j2 j3 f g d:Sd)(b1 b2 e:Bool)(k:Nat)(h:Uc):Prop:=XZ h z ti to .none/\fJ h ti (.ref j1) (.ref j2) (.ref j3)/\(∃ a b c,fJ h to a b c)/\Bu h j1 f k b1/\Bu h j2 g k b2/\Bu h j3 d k e
structure Rp (z ti to j1 j2 j3:Sd):Prop where
 a1:ti≠z
 a2:to≠z
 a3:j1≠z
 a4:j2≠z
 a5:j3≠z
 t1:ti≠to
 t2:ti≠j1
 t3:ti≠j2
 t4:ti≠j3
 u1:to≠j1
 u2:to≠j2
 u3:to≠j3
 v1:j1≠j2
 v2:j1≠j3
 v3:j2≠j3
section
variable {X:Cx}{pins:List (Sd×Obj)}{σ:L2.St}{H:Hp}{s:RZ}
theorem eC (I:aK X pins σ H s)(hq:bY X.K H q zs b)(h:∃ o f,s.heap.get? b'=Y o/\o.data=.fields f):q≠b':=λn=>by
 obtain⟨o,f,e,d⟩:=h;obtain⟨j,g,i,a,c⟩:=rH I hq;rw[n,e] at a;cases a;rw[d] at c;cases c
theorem rM (I:aK X pins σ H s)(hq:bY X.K H q zs b)(i:s.heap.get? to=Y { cls:=.type "tuple",data:=.seq vs })(f:ql X pins H to):q≠to:=λn=>by
 cases b with
 |true=>
  obtain⟨d,_,⟨a,h,c,cc,_,g⟩,_⟩:=I.list hq;rw[n,i] at c;cases c;simp at cc
 |false=>
  rcases hq with (hq|⟨a,hq⟩)|⟨a,d,h,g,_⟩
  ·rw[n,f.1] at hq;cases hq
  ·rw[n,f.1] at hq;cases hq
  ·have c:=I.mod.kin q a g;rw[n] at c;rcases f.2.2.2.1 with e|e
   ·exact I.ok.noex to a c e
   ·exact absurd (R6 (RX c) (Sv I.ok.bsz e)) (Th _)
theorem vS {f:List Sd}{g:Uc}(I:aK X pins σ H s)(i:∀ b∈f,ql X pins H b)(k2:∀ b o,b∉f->s.heap.get? b=Y o->g.get? b=Y o):aK X pins σ H { s with heap:=g }:=by
 have d:∀ b h,H b=Y h->b∉f:=λb h e a=>by rw[(i b a).1] at e;cases e
 refine I.step (g':=s.gens) (d':=s.drawn) (t':=s.toks) (ch:=f) (λb a=>?_) (λb o _ _ a e _=>k2 b o a e) (λb o _ _ a e _=>⟨o.slots,k2 b o a e⟩) (λ_ _ _ _ n=>n) (λb o a e=>⟨o,k2 b o a e⟩) (λ_ _ e=>e) (λ_ _ _ e=>e)
  (λb r e=>⟨#[],by rw[e];simp⟩) (λm l=>?_) (λb h e=>?_) I.bare
 ·obtain⟨_,j,_,p,k,c⟩:=i b a;exact⟨p,j,k,c⟩
 ·obtain⟨o,j,p,c,k⟩:=l;exact⟨o,j,p,k2 _ o (λn=>(i _ n).2.1 O) c,k⟩
 ·refine(I.hok b h e).stay (λj k c q=>k2 j k ?_ q) (λ_ q=>q) λ_ _ q=>q
  rcases c with rfl|c
  ·exact d _ _ e
  ·exact d _ _ c
end
theorem OS (h:x∉[a,b,c,d,e,f]):x≠a/\x≠b/\x≠c/\x≠d/\x≠e/\x≠f:=by
 simp only[R',Sg,TK,not_or] at h;exact h
theorem Gu {P:SA}{w:Te}{K:KE}{elts:List U2}{tk:Nat}{pos:Pos}{z ti to j1 j2 j3 q1 q2 q3:Sd}{b1 b2 b3:Bool} (D:Rp z ti to j1 j2 j3) :
  yc P w K (.Tuple elts tk pos) (NN K b1 b2 b3 q1 q2 q3) [z,ti,to,j1,j2,j3] z (P5 z ti to j1 j2 j3 q1 q2 q3 b1 b2 b3) where
 mem:=zyB
 obj:=λi h st b r=>by
  obtain⟨h1,h2,⟨a,c,d,h3⟩,h4,h5,h6⟩:=st;have p:∀ {j q:Sd}{b:Bool},Bu h j q i b->∃ o,h.get? j=Y o/\∀ v,o.data≠.cell v:=λt=>by
   obtain⟨o,vs,e,d⟩:=t.fields;exact⟨o,e,λv u=>by rw[d] at u;cases u⟩
  simp only[R',Sg,TK] at r;rcases r with rfl|rfl|rfl|rfl|rfl|rfl
  ·exact⟨_,h1,λv e=>nomatch e⟩
  ·exact⟨_,h2,λv e=>nomatch e⟩
  ·exact⟨_,h3,λv e=>nomatch e⟩
  ·exact p h4
  ·exact p h5
  ·exact p h6
 keep:=λi h T st k=>by
  obtain⟨h1,h2,⟨a,c,d,h3⟩,h4,h5,h6⟩:=st;exact⟨k z zyB _ h1,k ti zyB _ h2,⟨a,c,d,k to zyB _ h3⟩,h4.keep λo e=>k j1 zyB o e,h5.keep λo e=>k j2 zyB o e,h6.keep λo e=>k j3 zyB o e⟩
 item:=by
  intro X hP hw hK hc i B s σ H E I hf st hg;subst hP hw hK;obtain⟨xs,ys,zs,x,y,v,l,m,f,hx,hy,hv⟩:=hg;obtain⟨M,hi,⟨a,c,d,C⟩,J,G,L⟩:=st;obtain⟨us,r1,s1⟩:=ib I l J;obtain⟨vs,r2,s2⟩:=ib I m G;obtain⟨ws,r3,s3⟩:=ib I f L;obtain⟨u,eu,ru⟩:=r1.get hx;obtain⟨u2,eu2,ru2⟩:=r2.get hy;obtain⟨u3,eu3,ru3⟩:=r3.get hv;have N:∃ o ws,s.heap.get? z=Y o/\o.data=.fields ws:=⟨_,_,M,O⟩
  have Q:=hf to zyB;have AP:LM z ti to j1 j2 j3 q1 q2 q3:=⟨D.a1,D.a2,D.a3,D.a4,D.a5,D.t1,D.t2,D.t3,D.t4,D.u1,D.u2,D.u3,D.v1,D.v2,D.v3,
   ⟨eC I l N,rM I l C Q,eC I l G.fields,eC I l L.fields⟩,⟨eC I m N,rM I m C Q,eC I m J.fields,eC I m L.fields⟩,⟨eC I f N,rM I f C Q,eC I f J.fields,eC I f G.fields⟩⟩
  refine MO AP ⟨M,hi,⟨a,c,d,C⟩,s1,s2,s3⟩ (x:=u) (y:=u2) (v:=u3) (by simpa using eu) (by simpa using eu2) (by simpa using eu3) λg A hp kk=>⟨_,O,?_⟩
  refine YH A.zp λg' z' sb=>?_
  have tz:s.heap.objs.size≠z:=SM (RX M);have lt:∀ b∈[z,ti,to,j1,j2,j3],b<s.heap.objs.size:=λb r=>by
   have p:∀ {j q:Sd}{b:Bool},Bu s.heap j q i b->j<s.heap.objs.size:=λt=>by
    obtain⟨o,vs,e,d⟩:=t.fields;exact RX e
   simp only[R',Sg,TK] at r;rcases r with rfl|rfl|rfl|rfl|rfl|rfl
   ·exact RX M
   ·exact RX hi
   ·exact RX C
   ·exact p J
   ·exact p G
   ·exact p L
  have fp0:∀ b∈[z,ti,to,j1,j2,j3],b≠s.heap.objs.size:=λb r=>Si (lt b r)
  have k2:∀ b o,b∉[z,ti,to,j1,j2,j3]->s.heap.get? b=Y o->g'.get? b=Y o:=λb o r e=>by
   obtain⟨n1,n2,n3,n4,n5,n6⟩:=OS r;exact sb.extBut b o n1 (kk b o n1 n3 n4 n5 n6 e)
  have I1:aK X B σ H { s with heap:=g' }:=vS I hf k2;have hT:g'.get? s.heap.objs.size=Y { cls:=.type "tuple",data:=.seq #[u,u2,u3] }:=sb.extBut _ _ tz hp;have fT:H s.heap.objs.size=none:=I.hok.fresh (R0 _);have F:=I.fpOk (b:=s.heap.objs.size) (H':=H) (R0 _) fT;have I2:aK X B σ (upd H s.heap.objs.size (.tup [x,y,v])) { s with heap:=g' }:=eh I1 fT I.sz F.2.1 F.2.2.2.2.1 F.2.2.2.2.2 ⟨(Z:3<=Sk),[u,u2,u3],.cons ru (.cons ru2 (.cons ru3 .nil)),⟨_,hT,O,_,O⟩⟩;have cl:∀ {j q:Sd}{b:Bool}{its:Array RV},nY b g j q (i+1) its->j≠z->Bu g' j q (i+1) b:=λ{j q b its} x n=>(Fn x).keep λo e=>sb.extBut _ _ n e
  exact⟨.ref s.heap.objs.size,_,I2,O,⟨x,y,v,s.heap.objs.size,λxs' T=>by rw[qB I T l];exact hx,λys' T=>by rw[qB I T m];exact hy,λzs' T=>by rw[qB I T f];exact hv,fT,O,O⟩,
   ⟨z',sb.extBut _ _ D.a1 A.pi,(let ⟨a',b',c',e'⟩:=A.po;⟨a',b',c',sb.extBut _ _ D.a2 e'⟩),cl A.s1 D.a3,cl A.s2 D.a4,cl A.s3 D.a5⟩,λb r=>by rw[ar (fp0 b r)];exact(hf b r).1⟩
 done:=by
  intro X hP hw hK hc i B s σ H E I hf st hg;subst hP hw hK;obtain⟨xs,ys,zs,l,m,f,hl⟩:=hg;obtain⟨M,hi,⟨a,c,d,C⟩,J,G,L⟩:=st;obtain⟨us,r1,s1⟩:=ib I l J;obtain⟨vs,r2,s2⟩:=ib I m G;obtain⟨ws,r3,s3⟩:=ib I f L;have l1:=r1.length;have N:∃ o ws,s.heap.get? z=Y o/\o.data=.fields ws:=⟨_,_,M,O⟩
  have Q:=hf to zyB;have AP:LM z ti to j1 j2 j3 q1 q2 q3:=⟨D.a1,D.a2,D.a3,D.a4,D.a5,D.t1,D.t2,D.t3,D.t4,D.u1,D.u2,D.u3,D.v1,D.v2,D.v3,
   ⟨eC I l N,rM I l C Q,eC I l G.fields,eC I l L.fields⟩,⟨eC I m N,rM I m C Q,eC I m J.fields,eC I m L.fields⟩,⟨eC I f N,rM I f C Q,eC I f J.fields,eC I f G.fields⟩⟩
  refine Nr (I.ok.hd hc) AP ⟨M,hi,⟨a,c,d,C⟩,s1,s2,s3⟩ (by simp;lia) λg kk=>⟨O,vS I hf λb o r e=>?_⟩
  obtain⟨n1,n2,n3,n4,n5,n6⟩:=OS r;exact kk b o n1 n3 n4 n5 n6 e
 self:=λ_ _ _ _ _ st h=>Wu st.1 h
abbrev yA (h:Uc)(a:Sd):Uc:=h.push (A2 a false)
abbrev yB (h:Uc)(a b:Sd):Uc:=(yA h a).push (A2 b true)
abbrev yC (h:Uc)(a c b:Sd):Uc:=(yB h a c).push (A2 b true)
abbrev yD (h:Uc)(a b c:Sd):Uc:=(yC h a b c).push { cls:=.type "tuple",data:=.seq #[.ref h.objs.size,.ref (yA h a).objs.size,.ref (yB h a b).objs.size] }
abbrev yE (h:Uc)(a c b:Sd):Uc:=(yD h a c b).push { cls:=.type "tuple",data:=.seq #[.none,.none,.none] }
abbrev yF (h:Uc)(a c b:Sd):Uc:=(yE h a c b).push { cls:=.type "zip",data:=.fields #[.none,.bool false,.bool false,.ref (yC h a c b).objs.size,.ref (yD h a c b).objs.size] }
theorem NS (a b c:Sd) (xs ys j:Array RV):Meets (Va.«zip.__new__» ⟨[.type "zip",.ref a,.ref b,.ref c],[]⟩)
  (λ_ R s=>s.heap.IsTuple a xs/\s.heap.IsList b ys/\s.heap.IsList c j/\R (.ok (.ret (.ref (yE s.heap a b c).objs.size))) { s with heap:=yF s.heap a b c }):=
 .of_wp λi w A R s h=>by
  obtain⟨e,g,d,f,os⟩:=s;obtain⟨m,o,l,h⟩:=h;have k:=sub_zip;have k1:Yj (Vm ⟨e,g,d,f,os⟩) a xs:=m;have k2:XY (Vm ⟨e.push { cls:=.type "tuple_iterator",data:=.fields #[.ref a,.int 0 0] },g,d,f,os⟩) b ys:=Wq o _;have n:XY (Vm ⟨(e.push { cls:=.type "tuple_iterator",data:=.fields #[.ref a,.int 0 0] }).push { cls:=.type "list_iterator",data:=.fields #[.ref b,.int 0 0] },g,d,f,os⟩) c j:=Wq (Wq l _) _
  wp_walk using Vh k1,Us k2,Us n
  exact⟨_,O,h⟩
namespace ZF
theorem tc3 (a b c:RV):checkTypeCall "zip" ⟨[a,b,c],[]⟩=pure ():=by kernel_rfl
theorem nc3 (a b c:RV):checkBuiltinCall "zip.__new__" ⟨[.type "zip",a,b,c],[]⟩=pure ():=by kernel_rfl
theorem oi4 (a b c d:RV):abj "object.__init__" ⟨[a,b,c,d],[]⟩:=by
 unfold abj;rw[signature?_of (id:="object.__init__") (n:="__tini__".toList) (o:="tcejbo".toList) (by kernel_rfl) PySem.F.owner_object]
 kernel_rfl
end ZF
section
variable {prog:SA}{w:Te}{A:Tf}{E:RV->RZ->Prop}{s:RZ}
theorem MP (r:s.heap.IsTuple q1 xs) (t:s.heap.IsList q2 ys) (p:s.heap.IsList q3 zs)
  (d:∀ g,XZ g (s.heap.objs.size+5) (s.heap.objs.size+3) (s.heap.objs.size+4) .none->fJ g (s.heap.objs.size+3) (.ref s.heap.objs.size) (.ref (s.heap.objs.size+1)) (.ref (s.heap.objs.size+2)) ->
   fJ g (s.heap.objs.size+4) .none .none .none->g.get? s.heap.objs.size=Y (A2 q1 false)->g.get? (s.heap.objs.size+1)=Y (A2 q2 true)->g.get? (s.heap.objs.size+2)=Y (A2 q3 true)->(∀ c o,s.heap.get? c=Y o->g.get? c=Y o)->Q (.ref (s.heap.objs.size+5)) { s with heap:=g }) :
  Sb (SD prog w) A (call (.type "zip") [.ref q1,.ref q2,.ref q3]) Q E s:=by
 refine callType_new F.called_zip Z (ZF.tc3 _ _ _) (ZF.nc3 _ _ _) (λe=>ZF.oi4 e _ _ _) F.entry_zip_new (NS q1 q2 q3 xs ys zs) ⟨r,t,p,?_⟩;have f:(yA s.heap q1).objs.size=s.heap.objs.size+1:=SR ..;have a:(yB s.heap q1 q2).objs.size=s.heap.objs.size+2:=by rw[SR,f]
 have b:(yC s.heap q1 q2 q3).objs.size=s.heap.objs.size+3:=by rw[SR,a]
 have h:(yD s.heap q1 q2 q3).objs.size=s.heap.objs.size+4:=by rw[SR,b]
 have l:(yE s.heap q1 q2 q3).objs.size=s.heap.objs.size+5:=by rw[SR,h]
 have i:(yF s.heap q1 q2 q3).get? (yE s.heap q1 q2 q3).objs.size=Y _:=RW _ O;have k:(yF s.heap q1 q2 q3).get? (yD s.heap q1 q2 q3).objs.size=Y _:=RS _ (RW _ O);have n:(yF s.heap q1 q2 q3).get? (yC s.heap q1 q2 q3).objs.size=Y _:=RS _ (RS _ (RW _ O));have j:(yF s.heap q1 q2 q3).get? (yB s.heap q1 q2).objs.size=Y (A2 q3 true):=RS _ (RS _ (RS _ (RW _ O)));have m:(yF s.heap q1 q2 q3).get? (yA s.heap q1).objs.size=Y (A2 q2 true):=RS _ (RS _ (RS _ (RS _ (RW _ O))));have q:(yF s.heap q1 q2 q3).get? s.heap.objs.size=Y (A2 q1 false):=RS _ (RS _ (RS _ (RS _ (RS _ (RW _ O)))));show _/\_;rw[b,h,l] at i;rw[f,a,b] at n;rw[h] at k;rw[a] at j;rw[f] at m;rw[l];exact⟨⟨_,i,O⟩,d _ i n k q m j λc o x=>RS _ (RS _ (RS _ (RS _ (RS _ (RS _ x)))))⟩
end
section
variable {X:Cx}{K:KE}
theorem JJ (r:aU [x,y,z] us):∃ u v w,us=[u,v,w]/\bJ x u/\bJ y v/\bJ z w:=by
 cases r with
 |cons a r=>
  obtain⟨u,v,rfl,b,c⟩:=mK r;exact⟨_,u,v,O,a,b,c⟩
def OK (K:KE)(e:TA):TI:=λh H R=>e h H λvs a=>∃ c d b,vs=[.ref c,.ref d,.ref b]/\(∃ f,eM K a c f)/\(∃ g,bI K a d g)/\(∃ i,bI K a b i)/\R (NN K false true true c d b) a
theorem KB (T:X.K=K) {tk:Nat} (hg:Gl X "zip") (J:X.mg "zip"=none) (l:WA X [a,b,c] ta) (hs:Ss [a,b,c] X.env=(false,V1 a X.env) :: Ss [b,c] X.env:=by rfl) (k:(VY pos (Ss [b,c] X.env)).any (·.1)=false:=by rfl) :
  WI X (.Tuple elts tk tpos) (.Call (.Name "zip" p) [a,b,c] [] pos) (OK K ta):=by
 have l:=l.go;refine⟨?_⟩;subst T;intro i s σ H R I h;refine Call_ (iG I hg J Dn (Ts (cu (l pos i s σ H _ I h) λus d n=>?_) hs k));obtain⟨vs,E,f,N,Q⟩:=n;obtain⟨qa,qb,qc,rfl,⟨xs,x⟩,⟨ys,hy⟩,⟨zs,G⟩,q⟩:=Q;obtain⟨u,v,w,rfl,ru,rv,m⟩:=JJ N;cases ru;cases rv;cases m;obtain⟨its,_,C⟩:=kc (b:=false) f x;obtain⟨M,_,y⟩:=kc (b:=true) f hy;obtain⟨kts,_,sc⟩:=kc (b:=true) f G;refine MP C y sc λg t B L F A D kk=>?_
 refine Wu t ?_;have o:∀ {j q:Sd}{b:Bool},g.get? j=Y (A2 q b)->Bu g j q 0 b:=λ{j q b} e=>by cases b<;>exact⟨_,e,O,O⟩
 refine⟨d.heap.objs.size+5,[d.heap.objs.size+5,d.heap.objs.size+3,d.heap.objs.size+4,d.heap.objs.size,d.heap.objs.size+1,d.heap.objs.size+2],_,_,E,O,f.kept (t':=d.toks) kk,
  Gu (z:=d.heap.objs.size+5) (ti:=d.heap.objs.size+3) (to:=d.heap.objs.size+4) (j1:=d.heap.objs.size) (j2:=d.heap.objs.size+1) (j3:=d.heap.objs.size+2)
   ⟨j7 zyA,j7 zyA,j7 zyA,j7 zyA,j7 zyA,j7 zyA,j7 zyA,j7 zyA,j7 zyA,j7 zyA,j7 zyA,j7 zyA,j7 zyA,j7 zyA,j7 zyA⟩,⟨t,B,⟨_,_,_,L⟩,o F,o A,o D⟩,λb r=>?_,q⟩
 have le:d.heap.objs.size<=b:=by
  simp only[R',Sg,TK] at r;rcases r with e|e|e|e|e|e<;>(rw[e];lia)
 exact f.fpOk le (f.hok.fresh le)
theorem I_ {a1 a2 a3:Sd}{I J p r F M t u o:V}{g:TG}{tt:TT}{te:TE}{n:L2.St}{Fin:List V->Hp->Prop}{f:Hp}{es:List Tr} (A:eM K f a1 [I,J,p]) (Q:bI K f a2 [r,F,M]) (q:bI K f a3 [t,u,o]) (hes:es.length=3)
  (he:∀ (i:Nat) (e:Tr) (x y z:V) (T:Sd) (H:Hp),es[i]?=Y e->[I,J,p][i]?=Y x->[r,F,M][i]?=Y y->[t,u,o][i]?=Y z->ah f H->H T=Y (.tup [x,y,z])->mf g tt te n (.ref T) H λv H'=>ah H H'/\ax K H' e v)
  (hd:∀ vs H,ah f H->aB K H es vs->Fin vs H):ix (NN K false true true a1 a2 a3) g tt te n Fin f:=by
 have j:∀ {H H':Hp}{a:Sd}{xs:List V},ah H H'->bI K H a xs->bI K H' a xs:=λe h=>bY.same (b:=true) e h
 refine⟨λi m vs H=>m=3-i/\i<=3/\ah f H/\aB K H (es.take i) vs,⟨3,O,Tn _,ah.refl _,.nil⟩,?_⟩;rintro i m vs H ⟨rfl,hi,s,d⟩;have N:=d.length;rw[SX] at N
 by_cases l:i<3
 ·have g3:∀ (a b c:V),∃ x,[a,b,c][i]?=Y x:=λa b c=>⟨_,Sf (show i<[a,b,c].length from l)⟩
  obtain⟨x,C⟩:=g3 I J p;obtain⟨y,B⟩:=g3 r F M;obtain⟨z,L⟩:=g3 t u o;refine .inr ⟨⟨_,_,_,x,y,z,lB s A,j s Q,j s q,C,B,L⟩,bR zyA,λv H3 D=>?_⟩;obtain⟨x',y',z',T,k1,k2,D,kT,rfl,rfl⟩:=D;cases RU (C.symm.trans (k1 _ (lB s A)));cases RU (B.symm.trans (k2 _ (j s Q)));cases RU (L.symm.trans (D _ (j s q)));have k:es[i]?=Y (es[i]'zyA):=Sf zyA;have G:ah H (upd H T (.tup [x,y,z])):=ah.new kT;refine he i _ x y z T _ k C B L (s.trans G) ag _ (λv H' E=>?_) λH5=>∃ m',m'<3-i/\(m'=3-(i+1)/\i+1<=3/\ah f H5/\aB K H5 (es.take (i+1)) vs);obtain⟨s',hv⟩:=E;refine⟨3-(i+1),zyA,O,l,(s.trans G).trans s',?_⟩
  rw[cw k];exact(aB.same s' (aB.same G d)).snoc hv
 ·have e:i=3:=zyA
  subst e;rw[SY zyA] at d;exact .inl ⟨⟨_,_,_,lB s A,j s Q,j s q,R0 _⟩,dw zyA,hd vs H s d⟩
def RI (K:KE)(m:TA):TE:=λn H Q=>m n H λvs a=>∃ h l c1 c2 i j e f g k,vs=[.ref h,.ref l]/\bY K a h [i,j,e] c1/\bY K a l [f,g,k] c2 /\
 ∀ L b d c,a b=none->a d=none->a c=none->a L=none->b≠d->b≠c->d≠c->b≠L->d≠L->c≠L->Q (.ref L) (upd (upd (upd (upd a b (.tup [i,f])) d (.tup [j,g])) c (.tup [e,k])) L (.lst [.ref b,.ref d,.ref c]))
theorem tY (hK:X.K=K) (hc:X.calm=true) (hg:Gl X "list") (hm:X.mg "list"=none) (hg2:Gl X "zip") (hm2:X.mg "zip"=none) (ha:WA X [a,b] ta)
  (hs:Ss [a,b] X.env=(false,V1 a X.env)::Ss [b] X.env:=by rfl)(hs2:(VY pos2 (Ss [b] X.env)).any (·.1)=false:=by rfl)
  (A:Ss [Expr.Call (.Name "zip" M) [a,b] [] pos2] X.env=[(false,V1 (.Call (.Name "zip" M) [a,b] [] pos2) X.env)]:=by rfl):
  WE X (.Call (.Name "list" p) [.Call (.Name "zip" M) [a,b] [] pos2] [] pos) (RI K ta):=by
 have ha:=ha.go;refine⟨?_⟩;subst hK;intro n s σ H Q I h;refine TV (iG I hg hm je ?_);refine Ts ?_ A rfl;rw[A];show Sb _ _ (spliced ((false,V1 (.Call (.Name "zip" M) [a,b] [] pos2) X.env)::[])) _ _ s;refine VT ?_;refine Call_ (iG I hg2 hm2 Dn (Ts (cu (ha pos2 n s σ H _ I h) λus d zz0=>?_) hs hs2));obtain⟨vs,H1,f,r1,q1⟩:=zz0;obtain⟨qa,qb,d1,d2,x0,x1,x2,y0,y1,y2,rfl,hx,hy,q⟩:=q1;obtain⟨u,v,rfl,ru,rv⟩:=mK r1;cases ru;cases rv;obtain⟨i,ra,sa⟩:=kc f hx;obtain⟨jts,rb,sb⟩:=kc f hy;obtain⟨i0,i1,i2,rfl,a0,a1,a2⟩:=JJ ra;obtain⟨k0,k1,k2,rfl,c0,c1,c2⟩:=JJ rb;refine L8 sa sb λg z5 z3 z4 z1 z2 kk=>Xb ?_
 have io:∀ {b:Bool}{j q:Sd}{i:Array RV},g.get? j=Y (A2 q b)->D5 d.heap q i b->nY b g j q 0 i:=λ{b j q i} e h=>by
  cases b<;>(obtain⟨o,c,r⟩:=h;exact⟨⟨_,e,O,O⟩,⟨o,kk _ _ c,r⟩⟩)
 have lt:∀ {b:Bool}{q:Sd}{i:Array RV},D5 d.heap q i b->q<d.heap.objs.size:=λ{b q i} h=>by
  cases b<;>(obtain⟨o,c,r⟩:=h;exact RX c)
 have la:=lt sa;have lb:=lt sb;have D:Mt (d.heap.objs.size+4) (d.heap.objs.size+2) (d.heap.objs.size+3) d.heap.objs.size (d.heap.objs.size+1) qa qb:=
  ⟨j7 zyA,j7 zyA,j7 zyA,j7 zyA,j7 zyA,j7 zyA,j7 zyA,j7 zyA,j7 zyA,j7 zyA,j7 (Si (R6 la zyA)),j7 (Si (R6 la zyA)),j7 (Si (R6 la zyA)),
   j7 (Si (R6 lb zyA)),j7 (Si (R6 lb zyA)),j7 (Si lb)⟩
 have lg:d.heap.objs.size+4<g.objs.size:=RX z5;refine HU (s:={ d with heap:=g }) (I.ok.hd hc) D ⟨z5,z3,⟨_,_,z4⟩,io z1 sa,io z2 sb⟩ λg' c t z y E G T hL p0 p1 M up=>?_
 have E:g.objs.size<t:=E;have up':∀ b o,d.heap.get? b=Y o->g'.get? b=Y o:=λb o e=>by
  have l:=RX e;exact up b o (j7 (Si (R6 l zyA))) (j7 (Si (R6 l zyA))) (j7 (Si l)) (j7 (Si (R6 l zyA))) (kk b o e)
 have k:d.heap.objs.size<=t:=zyA
 have m:d.heap.objs.size<=z:=Sv k (TH G);have x:d.heap.objs.size<=y:=Sv m (TH T);have OI:d.heap.objs.size<=g.objs.size:=zyA
 have L:t≠z:=Si G;have F:z≠y:=Si T;have J:t≠y:=Si (V' G T);have N:t≠g.objs.size:=SM E;have B:z≠g.objs.size:=SM (V' E G);have C:y≠g.objs.size:=SM (V' (V' E G) T);have f0:=f.hok.fresh k;have f1:=f.hok.fresh m;have f2:=f.hok.fresh x;have fL:=f.hok.fresh OI;have F0:=f.fpOk k f0;have F1:=f.fpOk m f1;have F2:=f.fpOk x f2;have FL:=f.fpOk OI fL;have J0:aK X n σ H1 { d with heap:=g' }:=f.kept (t':=d.toks) up';have J1:=eh (o:=.tup [x0,y0]) J0 f0 (Sv f.sz k) F0.2.1 F0.2.2.2.2.1 F0.2.2.2.2.2 ⟨(Z:2<=Sk),[i0,k0],.cons a0 (.cons c0 .nil),⟨_,p0,O,_,O⟩⟩;have J2:=eh (o:=.tup [x1,y1]) J1 (by rw[ar L.symm];exact f1) (Sv f.sz m) F1.2.1 F1.2.2.2.2.1 F1.2.2.2.2.2 ⟨(Z:2<=Sk),[i1,k1],.cons a1 (.cons c1 .nil),⟨_,p1,O,_,O⟩⟩;have J3:=eh (o:=.tup [x2,y2]) J2 (by rw[ar F.symm,ar J.symm];exact f2) (Sv f.sz x) F2.2.1 F2.2.2.2.2.1 F2.2.2.2.2.2 ⟨(Z:2<=Sk),[i2,k2],.cons a2 (.cons c2 .nil),⟨_,M,O,_,O⟩⟩;have J4:=eh (o:=.lst [.ref t,.ref z,.ref y]) J3 (by rw[ar C.symm,ar B.symm,ar N.symm];exact fL) (Sv f.sz OI) FL.2.1 FL.2.2.2.2.1 FL.2.2.2.2.2 ⟨(Z:3<=Sk),[.ref t,.ref z,.ref y],c,.cons rfl (.cons rfl (.cons rfl .nil)),hL⟩;exact⟨.ref g.objs.size,_,J4,O,q g.objs.size t z y f0 f1 f2 fL L J F N B C⟩
end
namespace ZF
theorem noFillT:fillsNumberSlot (.type "tuple") "mul"=pure false:=PySem.fillsNumberSlot_seq (id:="tuple.__mul__") (r:=Y (.builtin "tuple.__rmul__")) W_.lookup zyC Y7.lookup zyC
theorem repT:seqRepeat? (.type "tuple")=pure (Y (.builtin "tuple.__mul__")):=by
 unfold seqRepeat?;rw[abc (T:="tuple") (name:="__mul__") (id:="tuple.__mul__") W_.lookup zyC];rw[abc (T:="tuple") (name:="__rmul__") (id:="tuple.__rmul__") Y7.lookup zyC];rfl
theorem rmulT (a:Int) (t:Tok) (l:Sd) (items:Array RV) (n:Nat) (c:Option Sd) (e:Array (Option RV)) :
  Meets (Va.«int.__rmul__» ⟨[.int a t,.ref l],[]⟩) (λ_ R s=>s.heap.get? l=Y ⟨.type "tuple",c,.seq items n,e⟩/\R (.ok (.ret Value.notImplemented)) s):=.of_wp λb w A R s h=>by
 obtain⟨i,g,d,j,os⟩:=s;obtain⟨f,h⟩:=h
 wp_walk
 exact⟨_,O,h⟩
theorem mulT3 (t:Tok) (l:Sd) (x:RV) (n:Nat) (c:Option Sd) (e:Array (Option RV)) :
  Meets (Va.«tuple.__mul__» ⟨[.ref l,.int 3 t],[]⟩) (λ_ R s=>s.heap.get? l=Y ⟨.type "tuple",c,.seq #[x] n,e⟩/\R (.ok (.ret (.ref s.heap.objs.size))) { s with heap:=s.heap.push { cls:=.type "tuple",data:=.seq #[x,x,x] } }):=.of_wp λa w A R s h=>by
 obtain⟨j,g,d,k,os⟩:=s;obtain⟨b,h⟩:=h;have f:=PySem.AutoSeq1.idx_int;have i:=PySem.AutoSeq1.sub_tuple_tuple
 wp_walk using wpAny_loadPart' b
 exact⟨_,O,h⟩
end ZF
section
variable {X:Cx}
def Pj:R2:=λx y H Q=>∃ a z,x=.ref a/\y=.int 3/\H a=Y (.tup [z])/\∀ p,H p=none->Q (.ref p) (upd H p (.tup [z,z,z]))
theorem K3:pF X (XU .Mult) Pj:=by
 intro g s G H x y v u Q I l B h;obtain⟨a,z,rfl,rfl,k,q⟩:=h;cases l;obtain⟨t,rfl⟩:=B;obtain⟨p,r,m,_⟩:=I.tuple (eM.of (K:=X.K) k);obtain⟨v,rfl,f⟩:=mh r;obtain⟨o,e,c,n,d⟩:=m;obtain⟨E,i,D,j⟩:=o;simp only at c d;subst c d;refine YG (T:="tuple") (U:="int") Z ⟨_,e,O⟩ (λA=>ZQ A 3 t) ZF.noFillT aal WQ ZF.repT aae.lookup
  (ZN WQ (ZQ s 3 t) aad (ZW _ _) (ZF.rmulT 3 t a #[v] n i j)
   ⟨e,O,⟨_,e,O⟩,ZN W_ ⟨_,e,O⟩ PySem.F.entry_tuple_mul (PySem.F.args_tuple_mul_2 _ _) (ZF.mulT3 t a v n i j) ⟨e,?_⟩⟩)
 have C:H s.heap.objs.size=none:=I.hok.fresh (R0 _);refine⟨.ref s.heap.objs.size,upd H s.heap.objs.size (.tup [z,z,z]),I.laid (t':=s.toks) (λb u e=>RS _ e) (R0 _) ?_,O,q _ C⟩;exact⟨(Z:3<=Sk),[v,v,v],.cons f (.cons f (.cons f .nil)),⟨_,RW _ O,O,_,O⟩⟩
end
structure En where
 w:R3
 b:R3
structure En.In (e:En):Prop where
 a0:0<=e.b.a
 a1:e.b.a<e.w.a
 a2:e.w.a<=1000
 b0:0<=e.b.b
 b1:e.b.b<e.w.b
 b2:e.w.b<=1000
 c0:0<=e.b.c
 c1:e.b.c<e.w.c
 c2:e.w.c<=1000
def T3 (K:KE)(H:Hp)(r:R3)(v:V):Prop:=∃ p,v=.ref p/\eM K H p r.vs
theorem T3.same {K:KE}(s:ah H H')(h:T3 K H r v):T3 K H' r v:=by
 obtain⟨p,e,q⟩:=h;exact⟨p,e,lB s q⟩
theorem T3.of {K:KE}(h:ax K H (cB false r) v):T3 K H r v:=by
 obtain⟨a,e,q⟩:=lM h;exact⟨a,e,q⟩
def qx (K:KE)(H:Hp)(e:En)(v:V):Prop:=∃ (a C c:Sd) (x y:V),v=.ref a/\cR K "Ends" C/\H a=Y (.ins C c [("white",x),("black",y)])/\T3 K H e.w x/\T3 K H e.b y
theorem qx.same {K:KE}(s:ah H H')(h:qx K H e v):qx K H' e v:=by
 obtain⟨a,C,b,x,y,e,c,f,d,g⟩:=h;exact⟨a,C,b,x,y,e,c,s _ _ f,d.same s,g.same s⟩
def Af (K:KE)(H:Hp)(e:En)(L:Sd):Prop:=∃ d g f,H L=Y (.lst [.ref d,.ref g,.ref f])/\H d=Y (.tup [.int e.b.a,.int e.w.a])/\H g=Y (.tup [.int e.b.b,.int e.w.b])/\H f=Y (.tup [.int e.b.c,.int e.w.c])
theorem Af.same {K:KE}(s:ah H H')(h:Af K H e L):Af K H' e L:=by
 obtain⟨a,f,b,g,c,i,d⟩:=h;exact⟨a,f,b,s _ _ g,s _ _ c,s _ _ i,s _ _ d⟩
def C_ (i:Str)(b1 b b2 a:Int)(q:Rat):Rat:=
 if i="same" then q else if i="white" then q*((a:Rat)/(b:Rat)) else if i="squeezed" then(b2:Rat)+(q+((-b1:Int):Rat))*(((a-b2:Int):Rat)/((b-b1:Int):Rat)) else
  if q<(b2:Rat) then(b2:Rat) else if(a:Rat)<q then(a:Rat) else q
theorem IW (b1 a b2 b:Int)(q:Rat):C_ "same" b1 a b2 b q=q:=SO rfl
theorem Fz (b1 a b2 b:Int)(q:Rat):C_ "white" b1 a b2 b q=q*((b:Rat)/(a:Rat)):=by
 unfold C_;rw[Sx Z,SO rfl]
theorem Aq (b1 a b2 b:Int)(q:Rat):C_ "squeezed" b1 a b2 b q=(b2:Rat)+(q+((-b1:Int):Rat))*(((b-b2:Int):Rat)/((a-b1:Int):Rat)):=by
 unfold C_;rw[Sx Z,Sx Z,SO rfl]
theorem BZ (b1 b b2 a:Int)(q:Rat):C_ "clipped" b1 b b2 a q=if q<(b2:Rat) then(b2:Rat) else if(a:Rat)<q then(a:Rat) else q:=by
 unfold C_;rw[Sx Z,Sx Z,Sx Z]
def iE:List (Str×Str):=[("same","led_same"),("white","led_by_white"),("squeezed","led_squeezed"),("clipped","led_clipped")]
theorem nU (h:iE.lookup i=Y n):(i="same"/\n="led_same")\/(i="white"/\n="led_by_white")\/(i="squeezed"/\n="led_squeezed")\/(i="clipped"/\n="led_clipped"):=by
 by_cases d:i="same"
 ·subst d;exact .inl ⟨O,(RU h).symm⟩
 by_cases a:i="white"
 ·subst a;exact .inr (.inl ⟨O,(RU h).symm⟩)
 by_cases b:i="squeezed"
 ·subst b;exact .inr (.inr (.inl ⟨O,(RU h).symm⟩))
 by_cases c:i="clipped"
 ·subst c;exact .inr (.inr (.inr ⟨O,(RU h).symm⟩))
 unfold iE at h;rw[TM,Yb d,TM,Yb a,TM,Yb b,TM,Yb c] at h;cases h
def HV (K:KE)(i:Str):Sp:=λvs H Q _=>∃ (x y z:V) (q:Rat) (b a c d:Int),vs=[x,y,z]/\ax K H (rD q) x/\Bq 600 q/\ax K H (jV b a) y/\ax K H (jV c d) z/\(0<=b/\b<a/\a<=1000)/\(0<=c/\c<d/\d<=1000)/\h_ K H (C_ i b a c d q) Q
def NG (i:Str)(h t:En)(c:Q3):Q3:=⟨C_ i h.b.a h.w.a t.b.a t.w.a c.a,C_ i h.b.b h.w.b t.b.b t.w.b c.b,C_ i h.b.c h.w.c t.b.c t.w.c c.c⟩
theorem xC (n:Int):rD (n:Rat)=jV n 1:=by
 show jV (n:Rat).num ((n:Rat).den:Int)=_;rw[Wa,Uz];rfl
theorem wL (n:Int):((n:Int):Rat)/((1:Int):Rat)=(n:Rat):=by
 have:((1:Int):Rat)=1:=O;rw[this];grind
theorem kQ {n:Int}(h:Sm k n)(a:0<k):Bq k (n:Rat):=by
 have e:=wL n;rw[<- e];refine eK Z h ?_;unfold Sm;have:=Nat.one_lt_two_pow (n:=k) zyA
 simpa using this
theorem qT {n:Int}(a:-1000<=n)(h:n<=1000):Sm 10 n:=by unfold Sm;lia
theorem KO {q a b:Rat}(h:Bq k q)(c:Bq k a)(d:Bq k b):Bq k (if q<a then a else if b<q then b else q):=by
 split
 ·exact c
 ·split
  ·exact d
  ·exact h
theorem JV {b1 e b2 b:Int}{q:Rat}(hq:Bq k q)(o:0<=b1/\b1<e/\e<=1000)(t:0<=b2/\b2<b/\b<=1000):Bq (k+40) (C_ i b1 e b2 b q):=by
 obtain⟨v,x,p⟩:=o;obtain⟨c1,c2,s⟩:=t;have m:∀ {j:Nat}{r:Rat},Bq j r->j<=k+40->Bq (k+40) r:=λh l=>Ok.mono h l
 have a:∀ {n:Int},-1000<=n->n<=1000->Bq 10 (n:Rat):=λf h=>kQ (qT f h) Z
 have c:∀ {n d:Int},-1000<=n->n<=1000->0<d->d<=1000->Bq 10 ((n:Rat)/(d:Rat)):=λf h u g=>eK zyA (qT f h) (qT zyA g)
 unfold C_
 split
 ·exact m hq zyA
 ·split
  ·exact m (hq.mul (c zyA s zyA p)) zyA
  ·split
   ·exact m (Bq.add (a (n:=b2) zyA zyA) ((Bq.add hq (a (n:=-b1) zyA zyA)).mul (c (n:=b-b2) (d:=e-b1) zyA zyA zyA zyA))) zyA
   ·exact KO (m hq zyA) (m (a (n:=b2) zyA zyA) zyA) (m (a (n:=b) zyA zyA) zyA)
theorem Mu (f:c.Bd k)(d:h.In)(e:t.In):(NG i h t c).Bd (k+40):=
 ⟨JV f.a ⟨d.a0,d.a1,d.a2⟩ ⟨e.a0,e.a1,e.a2⟩,JV f.b ⟨d.b0,d.b1,d.b2⟩ ⟨e.b0,e.b1,e.b2⟩,JV f.c ⟨d.c0,d.c1,d.c2⟩ ⟨e.c0,e.c1,e.c2⟩⟩
theorem R3.at {r:R3}{i:Nat}{d:Tr}(h:r.ds[i]?=Y d):∃ n,d=.int n/\((i=0/\n=r.a)\/(i=1/\n=r.b)\/(i=2/\n=r.c)):=by
 rcases qD h with ⟨rfl,rfl⟩|⟨rfl,rfl⟩|⟨rfl,rfl⟩
 ·exact⟨_,O,.inl ⟨O,O⟩⟩
 ·exact⟨_,O,.inr (.inl ⟨O,O⟩)⟩
 ·exact⟨_,O,.inr (.inr ⟨O,O⟩)⟩
def QY (b w:Int)(q:Rat):Bool:=decide (b*(q.den:Int)<=q.num)&&decide (q.num<=w*(q.den:Int))
def En.has (e:En)(c:Q3):Bool:=QY e.b.a e.w.a c.a&&(QY e.b.b e.w.b c.b&&(QY e.b.c e.w.c c.c&&true))
section
variable {K:KE}{g:TG}{tt:TT}{te:TE}{σ0:L2.St}{Fin:List V->Hp->Prop}{H1:Hp}
theorem Er {t r D:Sd}{xs:List V}{Pn:Nat->Int->Prop} (L:cr H1 t r) (G:H1 D=Y (.lst xs)) (J:D ∉ [t,r]) (N:xs.length <= 1000)
  (he:∀ i x H,xs[i]?=Y x->cr H t r->Mv [t,r] H1 H->mf g tt te σ0 x H λy H'=>cr H' t r/\Mv [t,r] H H'/\∃ n,Pn i n/\y=.int n)
  (F:∀ (ns:List Int) H,ns.length=xs.length->(∀ i n,ns[i]?=Y n->Pn i n)->cr H t r->Mv [t,r] H1 H->Fin (ns.map V.int) H):ix (yK K D true) g tt te σ0 Fin H1:=by
 refine⟨λi m q H=>m=xs.length-i/\i<=xs.length/\cr H t r/\Mv [t,r] H1 H/\∃ ns:List Int,q=ns.map V.int/\ns.length=i/\∀ j n,ns[j]?=Y n->Pn j n,⟨xs.length,zyA,Tn _,L,Mv.refl,[],O,O,λj n h=>by simp at h⟩,?_⟩;rintro i m q H ⟨rfl,Q,c,mv,ns,rfl,p,u⟩;have hq:bI K H D xs:=bI.of (mv _ _ G J)
 by_cases d:i<xs.length
 ·have C:(yK K D true).go i H:=⟨xs,xs[i],hq,by simp[d]⟩
  refine .inr ⟨C,bR (by rw[R5];lia),λx M v=>?_⟩;obtain⟨rfl,B⟩:M=H/\xs[i]?=Y x:=⟨v.1,v.2 xs hq⟩
  refine he i x _ B c mv _ (λy H' ⟨l,o,n,I,E⟩=>⟨xs.length-(i+1),zyA,O,d,l,mv.trans o,ns++[n],?_,?_,λj k a=>?_⟩) λs=>∃ A,A<xs.length-i/\(A=xs.length-(i+1)/\i+1<=xs.length/\cr s t r/\Mv [t,r] H1 s/\∃ b:List Int,ns.map V.int=b.map V.int/\b.length=i+1/\∀ j n,b[j]?=Y n->Pn j n)
  ·rw[E,T5];rfl
  ·rw[SB,p];rfl
  ·by_cases f:j<ns.length
   ·rw[UM f] at a;exact u j k a
   ·rw[UE zyA] at a;have:j-ns.length=0:=by
     cases z:j-ns.length with
     |zero=>rfl
     |succ k=>rw[z] at a;cases a
    rw[this] at a;cases a;rw[show j=i by lia];exact I
 ·have e:i=xs.length:=zyA
  subst e;exact .inl ⟨⟨xs,hq,R0 _⟩,dw (by rw[R5];lia),F ns H p u c mv⟩
end
theorem Na {n:Int}(h:n≠0):(n:Rat)≠0:=λz=>h (Rat.intCast_eq_zero_iff.mp z)
def R3.col (r:R3):Q3:=⟨(r.a:Rat),(r.b:Rat),(r.c:Rat)⟩
section
variable {K:KE}{g:TG}{tt:TT}{te:TE}{σ0:L2.St}{Fin:List V->Hp->Prop}{H1:Hp}
theorem tO {lo:Int} (b:Nat->List V->Hp->Prop) (k:b 0 [] H1) (u:n <= 1000) (q:∀ i ys H,i <= n->b i ys H->ys.length <= i)
  (he:∀ i ys H,i<n->b i ys H->∀ (R:V->Hp->Prop) (S:Hp->Prop),(∀ y H',b (i+1) (ys++[y]) H'->R y H')->(∀ H',b (i+1) ys H'->S H')->g (.int (lo+i)) σ0 H λd t=>tt d t λc f=>if c=true then te d f R else S f)
  (l:∀ ys H,b n ys H->Fin ys H):ix (He lo n) g tt te σ0 Fin H1:=by
 refine⟨λi m ys H=>m=n-i/\i<=n/\b i ys H,⟨n,zyA,Tn _,k⟩,?_⟩;rintro i m ys H ⟨rfl,o,p⟩;have s:=q i ys H o p
 by_cases a:i<n
 ·refine .inr ⟨a,bR zyA,λx v r=>?_⟩;obtain⟨j,h⟩:=r;subst j h;exact he i ys _ a p _ _ (λy H' z=>⟨n-(i+1),zyA,O,a,z⟩) (λH' z=>⟨n-(i+1),zyA,O,a,z⟩)
 ·have e:i=n:=zyA
  subst e;exact .inl ⟨R0 _,dw zyA,l ys H p⟩
end
section
variable {K:KE}{g:TG}{tt:TT}{te:TE}{σ0:L2.St}{Fin:List V->Hp->Prop}{H1:Hp}
theorem kZ (f:Nat->List V->Hp->Prop) (r:f 0 [] H1) (B:xs.length <= 1000) (j:∀ i ys H,i <= xs.length->f i ys H->bY K H a xs b/\ys.length <= i)
  (he:∀ i x ys H,xs[i]?=Y x->f i ys H->∀ (R:V->Hp->Prop) (S:Hp->Prop),(∀ y H',f (i+1) (ys++[y]) H'->R y H')->(∀ H',f (i+1) ys H'->S H')->g x σ0 H λh v=>tt h v λc l=>if c=true then te h l R else S l)
  (s:∀ ys H,f xs.length ys H->Fin ys H):ix (yK K a b) g tt te σ0 Fin H1:=by
 refine⟨λi m ys H=>m=xs.length-i/\i<=xs.length/\f i ys H,⟨xs.length,zyA,Tn _,r⟩,?_⟩;rintro i m ys H ⟨rfl,t,p⟩;obtain⟨hq,u⟩:=j i ys H t p
 by_cases d:i<xs.length
 ·have q:(yK K a b).go i H:=by cases b<;>exact⟨xs,xs[i],hq,by simp[d]⟩
  refine .inr ⟨q,bR zyA,λx A k=>?_⟩;have o:A=H/\xs[i]?=Y x:=by cases b<;>exact⟨k.1,k.2 xs hq⟩
  obtain⟨rfl,n⟩:=o;exact he i x ys _ n p _ _ (λy H' z=>⟨xs.length-(i+1),zyA,O,d,z⟩) (λH' z=>⟨xs.length-(i+1),zyA,O,d,z⟩)
 ·have e:i=xs.length:=zyA
  subst e;have k:(yK K a b).stop xs.length H:=by cases b<;>exact⟨xs,hq,R0 _⟩
  exact .inl ⟨k,dw zyA,s ys H p⟩
end
theorem N_ {K:KE}{i:Int}{j:Nat}(h:H a=Y (.lst xs))(e:xs[j]?=Y v)(hi:i=(j:Int))(q:Q v H):Ku K (.ref a) (.int i) H Q:=
 .inl ⟨a,xs,_,v,O,O,bI.of h,by rw[hi];exact qV e,q⟩
def KT (K:KE)(a:Sd)(xs:List V):Prop:=∃ (o:Obj) (b:Array RV) (n:Nat),K.lookup a=Y o/\o.cls=.type "tuple"/\o.data=.seq b n/\b.size<=Sk/\aU xs b.toList
theorem KT.sq {K:KE}(h:KT K a xs):eM K H a xs:=.inr h
theorem IG {s:RZ}{K:KE}{f:Uw}{b:Args}{a:List (Str × RV)}{D:Sd}{o:Obj}{part:Option RV}{d:Obj->Sem (List (Str × RV))} (X:K.In s.heap) (e:K.lookup D=Y o)
  (g:T_ f b=Sem.load D part d)(h:d o=pure a):aab s f b a:=λM A E Q hq=>by
 refine(PySem.W.Looks.of_peek X ?_).here hq;rw[g];have c:d o=Sem.pure a:=h;simp only[PySem.W.peek,e,c]
def RA (n l m:Int):Tr->Bool
 |.tuple ds=>decide ((ds.length:Int)=n)&&(ds.map (Jk l m)).all id
 |_=>false
end TR
namespace TR
open PySem PySem.Spec PyProof.Rows
def Up (xs:List Nat):Prop:=xs.Pairwise (·<·)
theorem BN (h:Up xs)(hi:i<j)(a:j<xs.length):xs[i]<xs[j]:=
 Wn.mp h i j zyA a hi
theorem Ji (h:Up xs.toList):∀ (f lo hi:Nat),hi <= xs.size->hi <= lo + f->lo <= hi ->
  (∀ i (w:i<xs.size),i<lo->xs[i]<j)->(∀ i (w:i<xs.size),hi<=i->j<=xs[i]) ->
  (∀ i (w:i<xs.size),i<Xk xs j f lo hi->xs[i]<j)/\(∀ i (w:i<xs.size),Xk xs j f lo hi<=i->j<=xs[i])/\Xk xs j f lo hi<=xs.size:=by
 intro f
 induction f with
 |zero=>
  intro lo hi c p o a b;have:lo=hi:=zyA
  subst this;exact⟨a,b,c⟩
 |succ f k=>
  intro lo hi c p o a b;unfold Xk
  split
  ·rename_i m
   have g:(lo+hi)/2<xs.size:=zyA
   have n:xs.getD ((lo+hi)/2) j=xs[(lo+hi)/2]:=by simp[aaE,g]
   dsimp only;rw[n]
   split
   ·rename_i l
    refine k _ _ c zyA zyA (λi w d=>?_) b
    by_cases e:i=(lo+hi)/2
    ·subst e;exact l
    ·have:=BN h (i:=i) (j:=(lo+hi)/2) zyA (by simpa using g);simp only[TZ] at this;lia
   ·rename_i l
    refine k _ _ zyA zyA zyA a (λi w d=>?_)
    by_cases e:i=(lo+hi)/2
    ·subst e;lia
    ·have:=BN h (i:=(lo+hi)/2) (j:=i) zyA (by simpa using w);simp only[TZ] at this;lia
  ·have:lo=hi:=zyA
   subst this;exact⟨a,b,c⟩
theorem ve (h:Up xs.toList) :
  (∀ i (w:i<xs.size),i<To xs j->xs[i]<j)/\(∀ i (w:i<xs.size),To xs j<=i->j<=xs[i])/\To xs j<=xs.size:=by
 unfold To;exact Ji h _ _ _ (R0 _) zyA zyA (λi w a=>zyA) (λi w a=>zyA)
theorem JO (h:Up xs.toList)(b:(xs[To xs j]?==Y j)=false):j∉xs.toList:=by
 intro g;obtain⟨i,c,e⟩:=TY g;have a:i<xs.size:=by simpa using c
 simp only[TZ] at e;obtain⟨d,k,m⟩:=ve (j:=j) h;have n:¬ i<To xs j:=λq=>by have:=d i a q;lia
 by_cases f:To xs j=i
 ·rw[f] at b;simp[a,e] at b
 ·have l:To xs j<xs.size:=zyA
  have:=k _ l (R0 _);have:=BN h (i:=To xs j) (j:=i) zyA (by simpa using a);simp only[TZ] at this;lia
theorem BC (xs:Array α)(p:Nat)(x:α):(YS xs p x).toList=xs.toList.take p++x::xs.toList.drop p:=by
 unfold YS;simp;exact SY zyB
theorem zl (h:Up xs.toList)(m:j∉xs.toList):Up (YS xs (To xs j) j).toList:=by
 rw[BC];obtain⟨n,l,o⟩:=ve (j:=j) h;unfold Up at *;rw[Z2,Uy];refine⟨h.sublist (YO _ _),⟨λa f=>?_,h.sublist (aaI _ _)⟩,λa f b g=>?_⟩
 ·obtain⟨i,d,e⟩:=TY f;rw[aaK] at e;have c:To xs j+i<xs.size:=by simp only[XE,T2] at d;lia
  have:=l _ c zyA;simp only[TZ] at e;have k:a≠j:=λq=>m (q▸(aaI _ _).subset f)
  lia
 ·have k:a<j:=by
   obtain⟨i,d,e⟩:=TY f;rw[YN] at e;simp only[SX,T2] at d;have:=n i zyA zyA;simp only[TZ] at e;lia
  rcases R'.mp g with rfl|g
  ·exact k
  ·obtain⟨i,d,e⟩:=TY g;rw[aaK] at e;have c:To xs j+i<xs.size:=by simp only[XE,T2] at d;lia
   have:=l _ c zyA;simp only[TZ] at e;lia
theorem zh {t:VX}{j:Nat}(h:Up t.place.toList)(a:∀ i,t.slot j≠.live i):j∉t.place.toList:=by
 refine JO h ?_;cases e:(t.place[To t.place j]?==Y j) with
 |false=>rfl
 |true=>
  refine absurd ?_ (a (To t.place j));unfold SetTable.slot;dsimp only;rw[SO e]
theorem Ej {t:VX}{l:Nat->Int}{hh:Int} (h:Up t.place.toList):∀ (f:Nat) (p:abq),(∀ d,p.dummy=Y d->d ∉ t.place.toList) ->
  ∀ j d,aaS t l hh f p=Y (.empty j d)->d.getD j∉t.place.toList:=by
 intro f
 induction f with
 |zero=>intro p _ j d e;cases e
 |succ f g=>
  intro p k j d e;unfold aaS at e
  split at e
  ·rename_i c
   cases e;have:=zh h (j:=p.j) (λi=>by rw[c];exact λq=>by cases q);cases a:p.dummy with
   |none=>exact this
   |some d=>exact k d a
  ·rename_i c
   have:=zh h (j:=p.j) (λi=>by rw[c];exact λq=>by cases q);refine g _ (λd a=>?_) j d e;have b:Y p.j=Y d:=by
    rw[<- a];unfold abd;dsimp only;split<;>rfl
   cases b;exact this
  ·split at e
   ·cases e
   ·refine g _ (λd a=>k d ?_) j d e;rw[<- a];unfold abd;dsimp only;split<;>rfl
theorem zu {t:VX}{hh:Int}{a:Nat}{b:Bool}(h:Up t.place.toList)(e:t.freeSlot hh=Y (a,b)):a∉t.place.toList:=by
 unfold SetTable.freeSlot at e
 split at e
 ·rename_i j d q
  cases e;exact Ej h _ _ (λd c=>by cases c) _ _ q
 ·cases e
def Tb (led:Bool)(t:VX):Prop:=Up t.place.toList/\t.led=led
theorem Jv (n:Nat):Up (Array.range n).toList:=by
 rw[Array.toList_range];exact Zl
theorem lV (n:Nat)(h:Tb led t):Tb led (t.standIn n):=⟨Jv n,h.2⟩
theorem Nq {led:Bool}{t:VX}{es:Array (Int×RV)}{hh:Int}{x:RV}(h:Tb led t):Tb led (layNew t es hh x).2.1:=by
 unfold layNew
 split
 ·rename_i a b e
  dsimp only;unfold SetTable.orStandIn
  split
  ·exact⟨zl h.1 (zu h.1 e),h.2⟩
  ·exact lV _ ⟨zl h.1 (zu h.1 e),h.2⟩
 ·exact lV _ h
theorem Ks {f:Nat->Option Nat}:∀ {l:List Nat},Up l->Up ((l.filterMap λj=>(f j).map (j,·)).map (·.1)):=by
 intro l
 induction l with
 |nil=>intro _;exact YL
 |cons a l k=>
  intro h;have d:=Uy.mp h;have:=k d.2;rw[Wx];cases e:f a with
  |none=>exact this
  |some b=>
   refine Uy.mpr ⟨λx g=>?_,this⟩;obtain⟨y,m,rfl⟩:=Ta.mp g;obtain⟨j,i,q⟩:=VV.mp m;cases e':f j with
   |none=>rw[e'] at q;cases q
   |some c=>rw[e'] at q;cases q;exact d.1 j i
theorem HN {led:Bool}{t:VX}{es:Array (Int×RV)}{n:Nat}(h:Tb led t):Tb led (aaz t es n).2.1:=by
 unfold aaz
 split
 ·rename_i c b e
  dsimp only
  split
  ·unfold SetTable.relaid SetTable.laid at e;cases q:SetTable.layClean (SetTable.sizeAbove n-1) (es.map (·.1)) with
   |none=>rw[q] at e;cases e
   |some a=>
    rw[q] at e;cases e;refine⟨?_,h.2⟩;simp only;exact Ks Zl
  ·exact lV _ h
 ·exact lV _ h
section
variable {pr:SA}{wo:Te}{Ar:Tf}{Ex:RV->RZ->Prop}{st:RZ}
def kj (pr:SA)(wo:Te)(led:Bool)(H:Uc)(a:Sd)(ks:List Int):Prop:=
 ∃ d b f c,H.get? a=Y d/\d.ExactSet/\d.data=.set b f c/\ElemsOf (VG pr wo) b.toList /\
  (∀ k,k∈ks↔∃ e∈b.toList,(VG pr wo).is k e.2=true)/\b.size<scanBound/\c.fits b.size=true/\b.size=ks.length/\ks.Nodup/\Tb led c
theorem tK {led:Bool}{H:Uc}{a:Sd}{ob:Obj}{xs ys:Array (Int × RV)}{ep:Nat}{tb tc:VX}{ks:List Int}
  (j:H.get? a=Y ob)(c:ob.ExactSet)(m:ob.data=.set xs ep tb)(l:ElemsOf (VG pr wo) ys.toList)(g:∀ k,k∈ks↔∃ e∈ys.toList,(VG pr wo).is k e.2=true)
  (f:ys.size<scanBound)(h:tc.fits ys.size=true)(d:ys.size=ks.length)(i:ks.Nodup)(b:Tb led tc):
  (H.update a (aaN ys tc)).get? a=Y { ob with data:=.set ys (ep+1) tc }/\kj pr wo led (H.update a (aaN ys tc)) a ks:=by
 have e:=putSet_of ys tc m;have q:=SK (aaN ys tc) j (by rw[e];rfl);rw[e] at q;exact⟨q,_,ys,ep+1,tc,q,c,O,l,g,f,h,d,i,b⟩
theorem wg {z:Bool->Sem Unit} (g:∀ (b:Bool) (u:RZ) (y:Unit->RZ->Prop),y () u->Sb (SD pr wo) Ar (z b) y Ex u)
  {led:Bool}{a:Sd}{ob:Obj}{xs ys:Array (Int×RV)}{ep:Nat}{tb tc:VX}{ks:List Int}
  (A:st.heap.get? a=Y ob)(p:ob.ExactSet)(C:ob.data=.set xs ep tb)(B:ElemsOf (VG pr wo) ys.toList)(s:∀ k,k∈ks↔∃ e∈ys.toList,(VG pr wo).is k e.2=true)
  (f:ys.size<scanBound)(F:tc.fits ys.size=true)(q:ys.size=ks.length)(x:ks.Nodup)(d:Tb led tc){G:Bool}{R:Option Bool->RZ->Prop}
  (t:∀ H',S_ a st.heap H'->kj pr wo led H' a ks->R (Y true) { st with heap:=H' }):
  Sb (SD pr wo) Ar (do
    storeSet a ys tc
    if (!G && tc.tooFull)=true then do
      z (aaz tc ys (VR ys.size)).2.2
      storeSet a (aaz tc ys (VR ys.size)).1 (aaz tc ys (VR ys.size)).2.1
      pure (Y true)
     else pure (Y true)) R Ex st:=by
 obtain⟨v,H⟩:=tK A p C B s f F q x d;have r:=SH st.heap a (aaN ys tc);refine HD (wpAny_storeSet_of A C ?_ (fits_of_scanBound f))
 split
 ·have c:=relayAll_perm tc ys (VR ys.size);have o:=relayAll_fits tc ys (VR ys.size);have h:=HN (es:=ys) (n:=VR ys.size) d;generalize aaz tc ys (VR ys.size)=l at c o h ⊢;obtain⟨D,I,J⟩:=l;dsimp only at c o h ⊢;have j:D.size=ys.size:=by have:=c.length_eq;simpa using this
  refine HD (g _ _ _ ?_);refine HD (wpAny_storeSet_of v rfl ?_ (fits_of_scanBound (by rw[j];exact f)));obtain⟨_,E⟩:=tK (ob:={ ob with data:=.set ys (ep+1) tc }) (ks:=ks) v p rfl (B.perm c)
   (λk=>(s k).trans ⟨λ⟨e,m,i⟩=>⟨e,c.mem_iff.mpr m,i⟩,λ⟨e,m,i⟩=>⟨e,c.mem_iff.mp m,i⟩⟩) (by rw[j];exact f) o (j.trans q) x h
  exact RT (t _ (r.trans (SH _ a _)) E)
 ·exact RT (t _ r H)
theorem Fy {k:Int} (hu:kj pr wo led st.heap a ks) (d:ks.length + 1 < scanBound)
  (h:∀ H',S_ a st.heap H'->kj pr wo led H' a (if k∈ks then ks else ks++[k])->Q (!decide (k∈ks)) { st with heap:=H' }):
  Sb (SD pr wo) Ar (setAddHashed a (.int k tk) ((VG pr wo).hash k)) Q Ex st:=by
 obtain⟨ob,c,ep,A,o,E,p,C,t,J,F,r,g9,m⟩:=hu;have g:(VG pr wo).is k (.int k tk)=true:=intKind_is _ _ _ _;have f:(VO k tk).scannable=true:=O;have rm:c.size+1<scanBound:=by rw[r];exact d
 unfold setAddHashed setAddHashedIn;refine TC (HD (Tw o p F ?_));dsimp only;rw[byScan_of (knd:=VG pr wo) f J C];simp only[↓reduceIte];unfold setAddByScan;refine HD (HD (Vy ?_));refine HD (wpAny_setScan_of (knd:=VG pr wo) g o p F C ?_);cases hf:List.findIdx? (λe=>(VG pr wo).is k e.2) c.toList with
 |some j=>
  dsimp only;obtain⟨l,n,_⟩:=List.findIdx?_eq_some_iff_getElem.mp hf;have i:k∈ks:=(t k).mpr ⟨_,UY l,n⟩;have:=h st.heap (Xe a st.heap) (by rw[SO i];exact⟨ob,c,ep,A,o,E,p,C,t,J,F,r,g9,m⟩);rw[R8 i] at this;exact RT (RT this)
 |none=>
  dsimp only;have i:k∉ks:=λq=>by
   obtain⟨e,he,hp⟩:=(t k).mp q;have:=List.findIdx?_eq_none_iff.mp hf e he;rw[hp] at this;cases this
  rw[Sx i,Td i] at h;have l:=layNew_perm A c ((VG pr wo).hash k) (.int k tk);have D:=layNew_fits A c ((VG pr wo).hash k) (.int k tk);have s:=Nq (es:=c) (hh:=(VG pr wo).hash k) (x:=.int k tk) m;generalize layNew A c ((VG pr wo).hash k) (.int k tk)=G at l D s ⊢;obtain⟨v,tc,dm,gv⟩:=G;dsimp only at l D s ⊢;rw[aaF] at l;have N:v.size=c.size+1:=by have:=l.length_eq;simpa using this
  have I:ElemsOf (VG pr wo) v.toList:=(C.push g f).perm l;have T:∀ B,B∈ks++[k]↔∃ e∈v.toList,(VG pr wo).is B e.2=true:=λB=>by
   have:=mem_push_iff (knd:=VG pr wo) (S:=λz=>decide (z∈ks)) g (λz=>by rw[U6];exact t z) l B;rw[<- this];simp
  have L:(ks++[k]).Nodup:=aaM.mpr ⟨g9,zyB,λx hx y hy=>by
   rw[RY] at hy;subst hy;exact λq=>i (q▸hx)⟩
  refine HD ?_;have done:∀ (b:Bool) (u:RZ) (H:Unit->RZ->Prop),H () u->Sb (SD pr wo) Ar (match b with|true=>rule "set.scan.the-table-gave-way"|false=>pure ()) H Ex u:=
   λb u H q=>by cases b<;>first|exact RT q|exact Vy q
  refine done _ _ _ ?_;have goal:∀ M:VX,M.fits v.size=true->Tb led M->∀ H',S_ a st.heap H'->kj pr wo led H' a (ks++[k])->Q true { st with heap:=H' }:=λ_ _ _ H' n s2=>h H' n s2
  split
  ·refine HD ?_;rw[hashByValue_scannable 8 f];refine RT ?_;refine wg done (ks:=ks++[k]) o E p I T zyA (tc:=if plainKind (.int k tk)=true then tc else { tc with plain:=false }) (D) (by simp[N,r]) L s λH' n s2=>?_
   exact RT (h H' n s2)
  ·refine HD (RT ?_);simp only[↓reduceIte];refine wg done (ks:=ks++[k]) o E p I T zyA D (by simp[N,r]) L s λH' n s2=>?_
   exact RT (h H' n s2)
end
theorem wS (h:xs[i]?=Y x):(x::xs.eraseIdx i).Perm xs:=by
 induction xs generalizing i with
 |nil=>cases h
 |cons a xs b=>
  cases i with
  |zero=>cases h;exact Yx _
  |succ i=>
   simp only[List.getElem?_cons_succ] at h;exact(List.Perm.swap a x _).trans ((b h).cons a)
theorem Lj (c:Nat->Nat):∀ (f k:Nat) (left:List α) (out:Array α),f=left.length ->
  (aa7 c f k left out).toList.Perm (out.toList++left):=by
 intro f
 induction f with
 |zero=>intro k left out e;cases left with
  |nil=>simp[aa7]
  |cons a l=>cases e
 |succ f g=>
  intro k left out e;unfold aa7;have b:c k%left.length<left.length:=Nat.mod_lt _ zyA;have d:left[c k%left.length]?=Y left[c k%left.length]:=Sf b;rw[d];dsimp only;refine(g _ _ _ (by rw[Yh b];lia)).trans ?_;rw[aaF,U5];exact List.Perm.append_left _ (wS d)
theorem yX (a:Nat->Nat)(xs:Array α):(Yc a xs).toList.Perm xs.toList:=by
 unfold Yc;have:=Lj a xs.size 0 xs.toList #[] zyB
 simpa using this
def mX (pl:Array Nat)(i:Nat):Nat:=if i=0 then 0 else pl.getD (i-1) 0+1
theorem wV (h:Up pl.toList)(hi:i<=pl.size):To pl (mX pl i)=i:=by
 obtain⟨f,g,m⟩:=ve (j:=mX pl i) h;have lo:∀ (k:Nat) (w:k<pl.size),k<i->pl[k]<mX pl i:=λk w q=>by
  cases i with
  |zero=>lia
  |succ i=>
   have a:i<pl.size:=zyA
   have b:mX pl (i+1)=pl[i]+1:=by simp[mX,aaE,a]
   rw[b]
   by_cases e:k=i
   ·subst e;lia
   ·have u:=BN h (i:=k) (j:=i) zyA (by simpa using a);simp only[TZ] at u;lia
 have d:∀ (k:Nat) (w:k<pl.size),i<=k->mX pl i<=pl[k]:=λk w q=>by
  cases i with
  |zero=>simp[mX]
  |succ i=>
   have a:i<pl.size:=zyA
   have b:mX pl (i+1)=pl[i]+1:=by simp[mX,aaE,a]
   rw[b];have u:=BN h (i:=i) (j:=k) zyA (by simpa using w);simp only[TZ] at u;lia
 have o:¬ To pl (mX pl i)<i:=λq=>by
  have w:To pl (mX pl i)<pl.size:=zyA
  have l:=lo _ w q;have c:=g _ w (R0 _);lia
 have n:¬ i<To pl (mX pl i):=λq=>by
  have w:i<pl.size:=zyA
  have l:=d _ w (R0 _);have c:=f _ w q;lia
 lia
theorem eA:Slot "set_iterator" "__next__" "set_iterator.__next__":=
 .of (owner:="set_iterator") (n:="__next__") (by rw[Yd,Wb];kernel_rfl) zyC zyC zyC
  (by first|exact .inl zyC|exact .inr zyC) (by rw[isSubtype_type];kernel_rfl)
theorem mD:entryFor table "set_iterator.__next__"=Y Va.«set_iterator.__next__»:=entryFor_of_fast (by kernel_rfl)
theorem oZ (a:RV):abj "set_iterator.__next__" ⟨[a],[]⟩:=by unfold abj;kernel_rfl
theorem pH:Slot "set_iterator" "__iter__" "set_iterator.__iter__":=
 .of (owner:="set_iterator") (n:="__iter__") (by rw[Yd,Wb];kernel_rfl) zyC zyC zyC
  (by first|exact .inl zyC|exact .inr zyC) (by rw[isSubtype_type];kernel_rfl)
theorem wG:entryFor table "set_iterator.__iter__"=Y Va.«dict_keyiterator.__iter__»:=
 entryFor_alias (id':="dict_keyiterator.__iter__") (by kernel_rfl) O zyC (by kernel_rfl)
theorem yR (a:RV):abj "set_iterator.__iter__" ⟨[a],[]⟩:=by unfold abj;kernel_rfl
theorem uk:entryFor table "set.__iter__"=Y Va.«frozenset.__iter__»:=
 entryFor_alias (id':="frozenset.__iter__") (by kernel_rfl) O zyC (by kernel_rfl)
theorem Dg (a:n ≠ 0)
  (h:∀ i d,i<n->Q i { s with drawn:=d }):Sb M A (choose src n) Q E s:=λ_ _ _=>by
 show Sem.wp _ _ (Sem.choose src n Sem.pure) _ _ _ _;rw[Sem.wp_choose];exact⟨a,h _ _ (Nat.mod_lt _ zyA)⟩
theorem Hs:∀ (n:Nat) (xs:List α) (s:RZ) (Q:List α->RZ->Prop),xs.length=n ->
  (∀ ys d,ys.Perm xs->Q ys { s with drawn:=d })->Sb M A (drawOrder n xs) Q E s:=by
 intro n
 induction n with
 |zero=>
  intro xs s Q b h;cases xs with
  |nil=>exact RT (h [] s.drawn (Yx _))
  |cons a l=>cases b
 |succ n g=>
  intro xs s Q b h;cases xs with
  |nil=>cases b
  |cons a l=>
   unfold drawOrder;refine HD (Dg zyB λi d c=>?_);have e:(a::l)[i]?=Y (a::l)[i]:=Sf c;rw[e];dsimp only;refine HD (g _ _ _ (by rw[Yh c];simp at b ⊢;lia) λys j f=>?_);exact RT (h _ _ ((f.cons _).trans (wS e)))
section
variable {pr:SA}{wo:Te}{Ar:Tf}{Ex:RV->RZ->Prop}{st:RZ}
def zZ (wo:Te):Bool:=wo.params.followText "set-order"
theorem lW (h:Q (zZ wo) st):Sb (SD pr wo) Ar setsByText Q Ex st:=by
 unfold setsByText;exact HD (Ws (RT h))
def MV (wo:Te)(H:Uc)(S T:Sd)(es:Array (Int×RV))(ep:Nat)(tb:VX)(vs:List RV)(i:Nat)(b:RV):Prop:=
 (zZ wo=true/\(∃ c t,b=.int c t)/\vs=(Yc (wo.params.setOrder S ep) es).toList.map (·.2)) \/
 (zZ wo=false/\(!tb.plain&&decide (es.size>1))=true/\b=.ref T/\∃ (o:Obj) (n:Nat) (a:List Nat),H.get? T=Y o/\o.data=.seq (a.map λj:Nat=>UD j).toArray n/\a.Perm (UH es.size)/\vs=a.map λj=>(es[j]?.map (·.2)).getD .none) \/
 (zZ wo=false/\(!tb.plain&&decide (es.size>1))=false/\tb.led=true/\Up tb.place.toList/\tb.place.size=es.size/\b=.int (mX tb.place i) 0/\vs=es.toList.map (·.2))
def Ln (wo:Te)(H:Uc)(I S T:Sd)(ob:Obj)(es:Array (Int×RV))(ep:Nat)(tb:VX)(vs:List RV)(i:Nat):Prop:=
 H.get? S=Y ob/\∃ a o,H.get? I=Y o/\o.cls=.type "set_iterator"/\o.data=.fields #[a,.int i 0,.ref S,.int es.size 0,.int ep 0]/\MV wo H S T es ep tb vs i a
theorem A3 (h:MV wo H S T es ep tb vs i fi):vs.length=es.size:=by
 rcases h with ⟨_,_,rfl⟩|⟨_,_,_,_,_,b,_,_,a,rfl⟩|⟨_,_,_,_,_,_,rfl⟩
 ·have:=(yX (wo.params.setOrder S ep) es).length_eq;simp at this ⊢;exact this
 ·have:=a.length_eq
  simpa using this
 ·simp
theorem HP (h:MV wo H S T es ep tb vs i fi):vs.Perm (es.toList.map (·.2)):=by
 rcases h with ⟨_,_,rfl⟩|⟨_,_,_,_,_,c,_,_,b,rfl⟩|⟨_,_,_,_,_,_,rfl⟩
 ·exact(yX (wo.params.setOrder S ep) es).map _
 ·refine(b.map _).trans (List.Perm.of_eq ?_);apply List.ext_getElem
  ·simp
  ·intro j a d;simp at a ⊢;simp[a]
 ·exact Yx _
theorem xH {H:Uc}{I S T:Sd}{ob:Obj}{es:Array (Int×RV)}{ep:Nat}{tb:VX}{vs:List RV}{i:Nat}(h:Ln wo st.heap I S T ob es ep tb vs i):st.TypeIs (.ref I) "set_iterator":=by
 obtain⟨_,_,o,a,b,_⟩:=h;exact⟨o,a,b⟩
end
section
variable {pr:SA}{wo:Te}{Ar:Tf}{Ex:RV->RZ->Prop}{st:RZ}
theorem wB (h:MV wo H S T es ep tb vs i fi)
  (k:∀ o,H.get? T=Y o->H'.get? T=Y o):MV wo H' S T es ep tb vs i fi:=by
 rcases h with h|⟨f,e,d,o,n,b,c,a⟩|h
 ·exact .inl h
 ·exact .inr (.inl ⟨f,e,d,o,n,b,k _ c,a⟩)
 ·exact .inr (.inr h)
theorem IN
  (h:Ln wo st.heap I S T ob es ep tb vs i)(a:ob.data=.set es ep tb)(z:tb.fits es.size=true)(D:S≠I)(L:T≠I)(c:vs[i]?=Y x)
  (hQ:∀ H',Ln wo H' I S T ob es ep tb vs (i+1)->S_ I st.heap H'->Q (Y x) { st with heap:=H' }):
  Sb (SD pr wo) Ar (U_ (.ref I)) Q Ex st:=by
 have hT:=xH (st:=st) (H:=st.heap) h;obtain⟨l,fi,o,m,M,g,hw⟩:=h;unfold U_;refine HD (UA (SI (name:=TJ "__next__") hT eA
  (SZ eA hT mD ?_ (oZ _))))
 show Sb _ _ (fieldsOf (.ref I) >>= _) _ _ st;refine HD (Wp m g ?_);show Sb _ _ (ZP S >>= _) _ _ st;refine HD ?_;unfold ZP;refine HD (Tw l a z ?_);refine RT ?_;dsimp only;rw [Sx zyB];have b:∀ (s:Uc) (C:Obj) (A:RV),s.get? I=Y C->C.cls=.type "set_iterator"->C.data=.fields #[A,.int i 0,.ref S,.int es.size 0,.int ep 0]->S_ I st.heap s ->
   MV wo st.heap S T es ep tb vs (i+1) A ->
   Sb (SD pr wo) Ar.in1 (do aaB (.ref I) 1 (UD ((i:Int)+1));ret x) (λr N=>∃ v,r=.done (.ret v)/\Sb (SD pr wo) Ar (pure (Y v)) Q Ex N) (λe N=>Sb (SD pr wo) Ar (do if(<- ZO e (.type "StopIteration")) then pure none else throw e) Q Ex N) { st with heap:=s }:=by
  intro s C A g1 g2 g3 g4 g5;refine HD (UN g1 g3 zyB (RT ⟨x,O,RT ?_⟩));have E:S_ I st.heap (s.update I (aaq (·.setIfInBounds 1 (UD ((i:Int)+1))))):=g4.trans (SH ..);refine hQ _ ⟨?_,A,_,SK _ g1 (UO (Tz g3 _)),(Wl ..).trans g2,by rw[Tz g3];simp[UD],?_⟩ E
  ·rw[E.2 S D];exact l
  ·exact wB g5 λp e=>by rw[E.2 T L];exact e
 have u:=A3 hw;have d:i<es.size:=by rw[<- u];exact(R9.mp c).1
 rcases hw with ⟨f,⟨sl,t,rfl⟩,e⟩|⟨f,B,rfl,oT,nT,pl,n,y,k,e⟩|⟨f,B,n,y,k,rfl,e⟩
 ·show Sb _ _ (aah S sl.toNat (VL (i:Int)) (VL (ep:Int))>>=_) _ _ st;refine HD ?_;unfold aah;refine HD (Tw l a z ?_);dsimp only;refine HD (lW ?_);rw[SO f];simp only[SQ,YV,Tc,UX];refine HD ?_;unfold setWalk;refine HD (Tw l a z ?_);dsimp only;refine HD (lW ?_);rw[SO f];refine HD (Ws (RT (RT ?_)));have p:(Yc (wo.params.setOrder S ep) es)[i]?.map (λe=>e.2)=Y x:=by
   rw[e] at c;rw[<- c];simp
  obtain⟨q,F,G⟩:=So.mp p;show Sb _ _ (match (Yc (wo.params.setOrder S ep) es)[i]?.map (λe=>(e.2,sl.toNat)) with|some (x,next)=>_|none=>_) _ _ _;rw[F];dsimp only [Option.map];rw[G];refine HD (UN m g zyB ?_);exact b _ _ (UD (sl.toNat:Int)) (SK _ m (UO (Tz g _))) ((Wl ..).trans M) (by rw[Tz g];simp) (SH ..) (.inl ⟨f,⟨_,_,O⟩,e⟩)
 ·show Sb _ _ (aaA (.ref T)>>=_) _ _ st;refine HD (Tl n y ?_);have hp:∃ j:Nat,pl[i]?=Y j/\j<es.size:=by
   have:i<pl.length:=by rw[k.length_eq];simpa using d
   exact⟨pl[i],Sf this,by simpa using (k.mem_iff.mp (UY this))⟩
  obtain⟨j,j1,j2⟩:=hp;have G:(pl.map λj:Nat=>UD j).toArray[i]?=Y (.int j 0):=by simp[j1,UD]
  show Sb _ _ (match (pl.map λj:Nat=>UD j).toArray[VL (i:Int)]? with|some (.int F _)=>_|some _=>_|none=>_) _ _ _;rw[SQ,G];dsimp only;refine HD ?_;unfold setNextDrawn;refine HD (Tw l a z ?_);dsimp only;have p:es[j]?=Y es[j]:=by simp[j2]
  have J:x=es[j].2:=by
   rw[e] at c;simp[j1,p] at c;exact c.symm
  simp only[SQ,YV,Tc,UX,p];refine RT ?_;rw[<- J];exact b _ _ _ m M g (Xe _ _) (.inr (.inl ⟨f,B,O,oT,nT,pl,n,y,k,e⟩))
 ·show Sb _ _ (aah S (VL (mX tb.place i:Int)) (VL (i:Int)) (VL (ep:Int))>>=_) _ _ st;refine HD ?_;unfold aah;refine HD (Tw l a z ?_);dsimp only;refine HD (lW ?_);rw[Sx (by rw[f];simp)];show Sb _ _ (if(!tb.plain&&decide (es.size>1))=true then _ else _) _ _ _;rw[Sx (by rw[B];simp)];refine HD ?_;show Sb _ _ (if(!tb.led&&!es.isEmpty)=true then _ else(pure ():Sem Unit)) _ _ _;rw[Sx (by rw[n];simp)];refine RT ?_;have bs:=wV (pl:=tb.place) y (i:=i) (by rw[k];lia);have G:es[i]?=Y es[i]:=by simp[d]
  have p:i<tb.place.size:=by rw[k];exact d
  have J:tb.place[i]?=Y tb.place[i]:=by simp[p]
  have F:x=es[i].2:=by
   rw[e] at c;simp[d] at c;exact c.symm
  have p4:mX tb.place (i+1)=tb.place[i]+1:=by simp[mX,aaE,p]
  simp only[SQ,bs,G,J];refine RT ?_;rw[<- F];refine HD (UN m g zyB ?_);exact b _ _ (UD ((tb.place[i]+1:Nat):Int)) (SK _ m (UO (Tz g _))) ((Wl ..).trans M) (by rw[Tz g];simp) (SH ..)
   (.inr (.inr ⟨f,B,n,y,k,by rw[p4];rfl,e⟩))
end
section
variable {pr:SA}{wo:Te}{Ar:Tf}{Ex:RV->RZ->Prop}{st:RZ}
theorem Le (hh:Ar.handled=none)
  (h:Ln wo st.heap I S T ob es ep tb vs i)(f:ob.data=.set es ep tb)(q:tb.fits es.size=true)(hx:i=vs.length)
  (M:∀ H',Xd I st.heap H'->Q none { st with heap:=H' }):
  Sb (SD pr wo) Ar (U_ (.ref I)) Q Ex st:=by
 have F:=xH (st:=st) (H:=st.heap) h;obtain⟨n,fi,o,l,hc,g,hw⟩:=h;unfold U_;refine HD (UA (SI (name:=TJ "__next__") F eA
  (SZ eA F mD ?_ (oZ _))))
 show Sb _ _ (fieldsOf (.ref I) >>= _) _ _ st;refine HD (Wp l g ?_);show Sb _ _ (ZP S >>= _) _ _ st;refine HD ?_;unfold ZP;refine HD (Tw n f q ?_);refine RT ?_;dsimp only;rw [Sx zyB];have G:=A3 hw;have d:∀ (p:Uc) (B:Obj) (u:Array RV),p.get? I=Y B->B.data=.fields u->u.size=5->S_ I st.heap p ->
   Sb (SD pr wo) Ar.in1 (do aaB (.ref I) 2 .none;let c <- abm (T9 "StopIteration") [];(raiseNew c:Sem Fin)) (λr C=>∃ v,r=.done (.ret v)/\Sb (SD pr wo) Ar (pure (Y v)) Q Ex C) (λe C=>Sb (SD pr wo) Ar (do if(<- ZO e (.type "StopIteration")) then pure none else throw e) Q Ex C) { st with heap:=p }:=by
  intro p B u N g3 g4 L;refine HD (UN N g3 zyA ?_);refine HD ?_;simp only[abm,newTuple];refine HD (Tj ?_ (by size_fits));refine HD (m:=Vn _ _) (Za (a:=Tv) (by first|rfl|(simp only[Vn];rfl)) ?_);refine Tj ?_ (by size_fits);simp only[raiseNew];refine HD (Y_ ?_);rw[show Ar.in1.handled=none from hh];refine HD (RT (aai ?_));refine HD (U0 (T:="StopIteration") (b:=true) ⟨_,RW _ O,O⟩ Wo ?_);exact RT (M _ (((L.trans (SH ..)).extBut.push _).push _))
 rcases hw with ⟨k,⟨J,t,rfl⟩,e⟩|⟨k,E,rfl,oT,nT,pl,s,A,D,e⟩|⟨k,E,s,A,D,rfl,e⟩
 ·show Sb _ _ (aah S J.toNat (VL (i:Int)) (VL (ep:Int))>>=_) _ _ st;refine HD ?_;unfold aah;refine HD (Tw n f q ?_);dsimp only;refine HD (lW ?_);rw[SO k];simp only[SQ,YV,Tc,UX];refine HD ?_;unfold setWalk;refine HD (Tw n f q ?_);dsimp only;refine HD (lW ?_);rw[SO k];refine HD (Ws (RT (RT ?_)));have y:(Yc (wo.params.setOrder S ep) es)[i]?=none:=by
   have:vs.length=(Yc (wo.params.setOrder S ep) es).size:=by rw[e];simp
   rw[Array.getElem?_eq_none_iff];lia
  show Sb _ _ (match (Yc (wo.params.setOrder S ep) es)[i]?.map (λe=>(e.2,J.toNat)) with|some (x,next)=>_|none=>_) _ _ _;rw[y];dsimp only [Option.map];exact d st.heap o _ l g rfl (Xe _ _)
 ·show Sb _ _ (aaA (.ref T)>>=_) _ _ st;refine HD (Tl s A ?_);have z:(pl.map λj:Nat=>UD j).toArray[i]?=none:=by
   have:vs.length=pl.length:=by rw[e];simp
   simp;lia
  show Sb _ _ (match (pl.map λj:Nat=>UD j).toArray[VL (i:Int)]? with|some (.int y _)=>_|some _=>_|none=>_) _ _ _;rw[SQ,z];dsimp only;refine HD (UN l g zyB ?_);exact d _ _ _ (SK _ l (UO (Tz g _))) (Tz g _) zyB (SH ..)
 ·show Sb _ _ (aah S (VL (mX tb.place i:Int)) (VL (i:Int)) (VL (ep:Int))>>=_) _ _ st;refine HD ?_;unfold aah;refine HD (Tw n f q ?_);dsimp only;refine HD (lW ?_);rw[Sx (by rw[k];simp)];show Sb _ _ (if(!tb.plain&&decide (es.size>1))=true then _ else _) _ _ _;rw[Sx (by rw[E];simp)];refine HD ?_;show Sb _ _ (if(!tb.led&&!es.isEmpty)=true then _ else(pure ():Sem Unit)) _ _ _;rw[Sx (by rw[s];simp)];refine RT ?_;have bs:=wV (pl:=tb.place) A (i:=i) (by rw[D];lia);have y:es[i]?=none:=by simp;lia
  simp only[SQ,bs,y];refine RT ?_;exact d st.heap o _ l g rfl (Xe _ _)
theorem Hj
  (h:Ln wo st.heap I S T ob es ep tb vs i)(b:Q (.ref I) st):Sb (SD pr wo) Ar (Z8 (.ref I)) Q Ex st:=by
 have a:=xH (st:=st) (H:=st.heap) h;refine Xn a pH (SZ pH a wG ?_ (yR _));show Sb _ _ (ret (.ref I)) _ _ st;exact RT ⟨_,O,"set_iterator",_,a,eA.lookup,b⟩
theorem Bx (h:Ln wo H I S T ob es ep tb vs i)
  (k:∀ b∈[I,S,T],∀ o,H.get? b=Y o->H'.get? b=Y o):Ln wo H' I S T ob es ep tb vs i:=by
 obtain⟨a,c,o,f,g,d,hw⟩:=h;exact⟨k S zyB _ a,c,o,k I zyB _ f,g,d,wB hw λj e=>k T zyB _ e⟩
theorem FF (hh:Ar.handled=none)
  (c:ob.data=.set es ep tb)(p:tb.fits es.size=true)(g:S≠I)(l:T≠I):
  Walks pr wo Ar I [I,S,T] [I] vs.length (λi v=>vs[i]?=Y v) (λi H=>Ln wo H I S T ob es ep tb vs i) where
 sub:=λb a=>by simp at a;simp[a]
 frame:=λ_ _ _ st r=>Bx st r
 item:=λi s Q E q st f=>by
  have n:vs[i]?=Y vs[i]:=by simp[q]
  refine IN st c p g l n λk d j=>?_
  exact f _ k s.toks n d λb o a e=>j.extBut b o (λh=>a (by simp[h])) e
 done:=λs Q E st f=>Le hh st c p rfl λk m=>f k s.toks λb o a e=>m b o (λh=>a (by simp[h])) e
 self:=λ_ _ _ _ st f=>Hj st f
end
section
variable {pr:SA}{wo:Te}{Ar:Tf}{Ex:RV->RZ->Prop}{st:RZ}
theorem IJ {H:Uc}{S:Sd}{ob:Obj}(b:st.heap.get? S=Y ob)(a:ob.ExactSet):st.TypeIs (.ref S) "set":=⟨ob,b,a.1⟩
theorem HW {S:Sd}{ob:Obj}{es:Array (Int × RV)}{ep:Nat}{tb:VX}{Q:RV->RZ->Prop} (f:st.heap.get? S=Y ob) (z:ob.ExactSet)
  (i:ob.data=.set es ep tb)(k:tb.fits es.size=true)(y:Tb (!zZ wo) tb)(hsz:es.size<scanBound)
  (E:∀ (I T:Sd) (H':Uc) (d:Drawn) (vs:List RV),Ln wo H' I S T ob es ep tb vs 0->T≠I->S≠I->st.heap.objs.size<=I->(∀ b o,st.heap.get? b=Y o->H'.get? b=Y o) ->
   (∀ b∈[I,S,T],b<H'.objs.size)->st.heap.objs.size<=H'.objs.size->(T=S\/st.heap.objs.size<=T)->Q (.ref I) { st with heap:=H',drawn:=d }) :
  Sb (SD pr wo) Ar (Z8 (.ref S)) Q Ex st:=by
 have s:=IJ (st:=st) (H:=st.heap) f z;refine Xn s F.slot_set_iter (SZ F.slot_set_iter s uk ?_ (F.args_set_iter_1 _));unfold Va.«frozenset.__iter__»;have a:S<st.heap.objs.size:=RX f;have n:tb.place.size=es.size:=by
  unfold SetTable.fits at k;simp at k;exact k.1
 show Sb _ _ (YI S >>= _) _ _ st;refine HD ?_;unfold YI ZP;refine HD (HD (Tw f i k (RT (RT ?_))));dsimp only;have h:∀ (m:RV) (c:RZ) (T:Sd) (vs:List RV),c.heap.get? S=Y ob->(∀ b o,st.heap.get? b=Y o->c.heap.get? b=Y o)->MV wo c.heap S T es ep tb vs 0 m->T < c.heap.objs.size->st.heap.objs.size <= c.heap.objs.size ->
   (T=S\/st.heap.objs.size<=T)->(∃ (g:Uc) (d:Drawn),c={ st with heap:=g,drawn:=d }) ->
   Sb (SD pr wo) Ar.in1 (do let __do_lift <- setEpoch S;let __do_lift <- newFields "set_iterator" [m,UD 0,.ref S,UD es.size,UD __do_lift];ret __do_lift)
    (λr x=>∃ v,r=.done (.ret v)/\∃ p r,x.TypeIs v p/\ZR (.type p) "__next__"=pure (Y r)/\Q v x) Ex c:=by
  intro m c T vs q G A l j D ⟨g,d,C⟩;subst C;unfold setEpoch;refine HD (HD (Tw q i k (RT ?_)));dsimp only;refine HD (Tj (RT ⟨_,O,"set_iterator",_,⟨_,RW _ O,O⟩,eA.lookup,?_⟩));have l:T<g.objs.size:=l;have j:st.heap.objs.size<=g.objs.size:=j;refine E g.objs.size T _ d vs ⟨RS _ q,m,_,RW _ O,O,O,wB A λo e=>RS _ e⟩ (Si l) (Si (R6 a j)) j
   (λb o e=>RS _ (G b o e)) (λb t=>?_) (by rw[SR];exact Nat.le_succ_of_le j) D
  rw[SR];simp only[R',Sg,TK] at t;rcases t with rfl|rfl|rfl
  ·exact Um _
  ·exact Wk (R6 a j)
  ·exact Wk l
 refine HD ?_;unfold setDrawn;refine HD (Tw f i k ?_);dsimp only;refine HD (lW (RT ?_));show Sb _ _ (if(!zZ wo&&(!tb.plain&&decide (es.size>1)))=true then _ else _) _ _ _;cases b1:zZ wo with
 |true=>
  simp only[Bool.not_true,Xo,Tc,UX];refine HD (RT ?_);exact h (UD 0) st S _ f (λ_ _ e=>e) (.inl ⟨b1,⟨_,_,O⟩,O⟩) a (R0 _) (.inl rfl) ⟨_,_,O⟩
 |false=>
  cases b2:(!tb.plain&&decide (es.size>1)) with
  |false=>
   simp only[Bool.and_false,Tc,UX];refine HD (RT ?_);refine h (UD 0) st S _ f (λ_ _ e=>e) (.inr (.inr ⟨b1,b2,?_,y.1,n,O,O⟩)) a (R0 _) (.inl rfl) ⟨_,_,O⟩;rw[y.2,b1];rfl
  |true=>
   simp only[Bool.not_false,XN,VF];refine HD (Hs es.size (UH es.size) _ _ aaL λB d u=>?_);refine HD (Xp ?_ (by rw[R5,u.length_eq,aaL];unfold scanBound at hsz;rw[Uo];lia));refine h (.ref st.heap.objs.size) _ st.heap.objs.size _ (RS _ f) (λ_ _ e=>RS _ e) (.inr (.inl ⟨b1,b2,O,_,0,B,RW _ O,O,u,O⟩))
    (by rw[SR];exact Um _) (by rw[SR];exact X5 _) (.inr (R0 _)) ⟨_,_,O⟩
end
section
variable {pr:SA}{wo:Te}{Ar:Tf}{Ex:RV->RZ->Prop}{st:RZ}
theorem Ip (b:st.TypeIs (.ref S) "set")(h:Q false st):Sb (SD pr wo) Ar (V5 (.ref S)) Q Ex st:=by
 unfold V5;refine HD (We b F.slot_set_len.lookup ?_);show Sb _ _ (ZO (.ref S) (.type "set")>>=_) _ _ _;refine HD (U0 b sub_set_self ?_);refine wpAny_ite_split (λa=>absurd a Z) (λ_=>?_);refine wpAny_ite_split (λ_=>?_) (λa=>absurd zyC a);refine HD (ZM b ?_);exact RT h
theorem DW (h:ItemsOf (λi v=>vs[i]?=Y v) acc vs.length):acc.toList=vs:=by
 apply aaJ;intro i;cases e:acc.toList[i]? with
 |none=>
  rw[Yy] at e;have:=h.1
  symm
  rw[Yy];simp at e;lia
 |some v=>exact(h.2 i v (by simpa using e)).symm
theorem Cj (hh:Ar.handled=none) (hS:st.heap.get? S=Y ob) (C:ob.ExactSet)
  (m:ob.data=.set es ep tb)(hf:tb.fits es.size=true)(ht:Tb (!zZ wo) tb)(hsz:es.size<scanBound)
  (hQ:∀ (g:Uc) (d:Drawn) (B:Nat) (vs:List RV),(∀ b o,st.heap.get? b=Y o->g.get? b=Y o)->st.heap.objs.size<g.objs.size->st.toks<=B->vs.Perm (es.toList.map (·.2))->Q vs { st with heap:=g,drawn:=d,toks:=B }):
  Sb (SD pr wo) Ar (collect (.ref S)) Q Ex st:=by
 have J:S<st.heap.objs.size:=RX hS;unfold collect;refine HD (Z9 (UR F.entry_proto_collect ?_));rw[UB F.plain_proto_collect _];show Sb _ Ar.in1 (newList []>>=λl=>again (.builtin "list.__iadd__" ⟨[l,.ref S],[]⟩)) _ _ st;refine HD (Tj ?_);refine RT ⟨W6 YJ _,UR F.entry_list_iadd ?_⟩;rw[UB YJ _];show Sb _ Ar.in1 (TN (.ref st.heap.objs.size) (.ref S) (.ref st.heap.objs.size)) _ _ _;unfold TN;have h:(st.heap.push { cls:=.type "list",data:=.seq ([]:List RV).toArray }).get? S=Y ob:=RS _ hS;have j:(st.heap.push { cls:=.type "list",data:=.seq ([]:List RV).toArray }).get? st.heap.objs.size=Y { cls:=.type "list",data:=.seq ([]:List RV).toArray }:=RW _ O;have a:(st.heap.push { cls:=.type "list",data:=.seq ([]:List RV).toArray }).objs.size=st.heap.objs.size+1:=SR _ _;have up1:∀ b o,st.heap.get? b=Y o->(st.heap.push { cls:=.type "list",data:=.seq ([]:List RV).toArray }).get? b=Y o:=λb o e=>RS _ e
 generalize st.heap.push { cls:=.type "list",data:=.seq ([]:List RV).toArray }=g1 at h j a up1 ⊢;refine HD (ZM (T:="set") ⟨ob,h,C.1⟩ ?_);have i:st.heap.objs.size≠S:=SM J;have h1:Vr (.ref st.heap.objs.size) (.ref S)=false:=by simp[Vr,i]
 have h2:(T9 "set"==T9 "list")=false:=Z
 have h3:(T9 "set"==T9 "tuple")=false:=Z
 simp only[h1,h2,h3,aaj,Tc,UX];refine HD (HW (st:={ st with heap:=g1 }) h C m hf ht hsz λI T M d vs A L D hI s lt2 kY E=>?_);refine HD (TC (Ip ⟨ob,A.1,C.1⟩ ?_));have t:vs.length=es.size:=by obtain⟨_,_,_,_,_,_,hw⟩:=A;exact A3 hw
 have r:vs.Perm (es.toList.map (·.2)):=by obtain⟨_,_,_,_,_,_,hw⟩:=A;exact HP hw
 show Sb _ Ar.in1 (rule "list.extend.makes-room">>=λ_=>Zh (.ref st.heap.objs.size)>>=λ_=>
  again (.builtin "list.extend.loop" ⟨[.ref st.heap.objs.size,.ref I,.ref st.heap.objs.size],[]⟩)) _ _ _
 refine HD (Vy ?_);have u:st.heap.objs.size+1<=I:=by rw[<- a];exact hI
 have G:st.heap.objs.size≠I:=Si u;have H:st.heap.objs.size≠T:=by
  rcases E with rfl|q
  ·exact i
  ·have q:g1.objs.size<=T:=q;rw[a] at q;exact Si q
 have x:st.heap.objs.size∉[I,S,T]:=by simp[G,i,H]
 have v:=s _ _ j;refine HD ?_;show Sb _ Ar.in1 (YY st.heap.objs.size (·.push .none)>>=λ_=>YY st.heap.objs.size (·.pop)) _ _ _;refine HD (VA v rfl ?_);have c:=SK (T1 (·.push Tv)) v rfl;refine VA c rfl ?_;have f:=SK (T1 (·.pop)) c rfl;have n:∀ b o,b≠st.heap.objs.size->M.get? b=Y o->((M.update st.heap.objs.size (T1 (·.push Tv))).update st.heap.objs.size (T1 (·.pop))).get? b=Y o:=
  λb o z e=>(Ud _ _ (U9 z)).trans ((Ud _ _ (U9 z)).trans e)
 have W:=(FF (pr:=pr) (wo:=wo) (Ar:=Ar.in1) (I:=I) (S:=S) (T:=T) (ep:=ep) (tb:=tb) (vs:=vs) (by simp[hh]) m hf D L).toS;refine RT ⟨W6 VB _,codeAny_extend_loopS W (by rw[t,Uo];unfold scanBound at hsz;lia) _ x _ vs.length 0 _ _ _ O (Tn _)
  (Bx A λb z o e=>n b o (λq=>x (q▸z)) e) f (ItemsOf.nil _) λs' acc' c' p k y=>?_⟩
 show Sb _ Ar (load st.heap.objs.size>>=_) _ _ s';refine HD (wpAny_load k ?_);refine RT ?_;rw[DW y];obtain⟨g3,gn,N,B,os⟩:=s';have e1:gn=st.gens:=p.gens;have e2:N=d:=p.drawn;have e3:os=st.os:=p.os;subst e1;subst e2;subst e3;refine hQ g3 N B vs (λb o e=>?_) (RX k) p.toks r;have lb:=RX e;have nb:b≠st.heap.objs.size:=Si lb;have nI:b≠I:=Si (R6 lb (Wj u));exact p.heap b o (by simp[nb,nI]) (n b o nb (s b o (up1 b o e)))
end
theorem K5:∀ {ks ns:List Int},ks.Nodup->(∀ k∈ks,k∈ns)->ns.length=ks.length->ns.Perm ks:=by
 intro ks
 induction ks with
 |nil=>intro ns _ _ c;cases ns with
  |nil=>exact Yx _
  |cons a l=>cases c
 |cons k ks i=>
  intro ns h g c;have j:=g k zyB;have f:=List.perm_cons_erase j;have b:=Ui.mp h;refine f.trans ((i b.2 (λx d=>?_) ?_).cons k)
  ·have:=g x (R_ _ d);exact(List.mem_erase_of_ne (λe:x=k=>b.1 (e▸d))).mpr this
  ·have:=f.length_eq;simp at this c;lia
theorem Kr:∀ {vs:List RV},(∀ v∈vs,∃ k t,v=.int k t)->∃ ns,Vu vs ns/\ns.length=vs.length/\∀ k t,VO k t∈vs->k∈ns:=by
 intro vs
 induction vs with
 |nil=>intro _;exact⟨[],.nil,O,λ_ _ h=>by cases h⟩
 |cons v vs b=>
  intro h;obtain⟨k,t,rfl⟩:=h v zyB;obtain⟨ns,d,a,c⟩:=b λw hw=>h w (R_ _ hw)
  refine⟨k::ns,.cons k t d,by simp[a],λi g f=>?_⟩;rcases R'.mp f with e|e
  ·cases e;simp
  ·exact R_ _ (c _ _ e)
theorem mi (b:h.get? a=Y (WL "list" vs.toArray n)):∃ m,(aaV h a vs out).get? a=Y (WL "list" out m):=by
 have e:=RX b;unfold aaV;have d:=get?_update_seq b (λ_=>#[]);have c:(((h.update a (T1 λ_=>#[])).push (WL "tuple" vs.toArray 0)).push (WL "list" #[] 0)).get? a=_:=RS _ (RS _ d);exact⟨_,get?_update_seq c (λ_=>out)⟩
theorem k8 (c:a≠b)(e:h.get? b=Y o):(aaV h a vs out).get? b=Y o:=by
 unfold aaV;rw[Ud _ _ c];exact RS _ (RS _ ((Ud _ _ c).trans e))
section
variable {pr:SA}{wo:Te}{Ar:Tf}{Ex:RV->RZ->Prop}{st:RZ}
theorem DQ (hh:Ar.handled=none) (J:kj pr wo (!zZ wo) st.heap S ks) (N:ks.length < 64)
  (h:∀ (L:Sd) (g:Uc) (d:Drawn) (i:Nat) (c:Array RV) (ns:List Int) (n:Nat),st.heap.objs.size<=L->g.get? L=Y (WL "list" c n)->Vu c.toList ns->ns.Perm ks->ns.Pairwise (·<=·) ->
   (∀ b o,st.heap.get? b=Y o->g.get? b=Y o)->st.toks<=i->Q (.ref L) { st with heap:=g,drawn:=d,toks:=i }) :
  Sb (SD pr wo) Ar (call (.builtin "sorted") [.ref S]) Q Ex st:=by
 obtain⟨ob,xs,ep,tb,T,y,g3,g4,C,A,H,z,M,j⟩:=J;refine Yu kind_sorted plain_sorted entry_sorted (args_sorted1 _) ?_;unfold Va.«sorted»;refine HD (m:=checkCount "sorted" 1 1 _) (RT ?_);refine HD (Cj (by simp[hh]) T y g3 H j A λg d i vs x le lt f=>?_);refine HD (aaD ?_ (by rw[f.length_eq,Uo];simp;lia));have r:∀ v∈vs,∃ k t,v=VO k t:=λv r=>by
  obtain⟨e,l,rfl⟩:=Ta.mp (f.mem_iff.mp r);obtain⟨⟨k,q,_⟩,_⟩:=g4 e l;obtain⟨t,p⟩:=YT q;exact⟨k,t,p⟩
 obtain⟨ns,G,i2,D⟩:=Kr r;have hl:vs.length=ks.length:=by rw[f.length_eq];simp[z]
 have s:ns.Perm ks:=K5 M (λk hk=>by
  obtain⟨e,l,q⟩:=(C k).mp hk;obtain⟨t,p⟩:=YT q;exact D k t (p▸f.mem_iff.mpr (Ta.mpr ⟨e,l,O⟩))) zyA
 have a:(g.push (WL "list" vs.toArray 0)).get? g.objs.size=Y (WL "list" vs.toArray 0):=RW _ O;refine HD (TC (SZ slot_list_sort ⟨_,a,O⟩ entry_list_sort (list_sort_tree a G zyA λout u B F I=>⟨_,O,?_⟩) (args_list_sort _)));obtain⟨m,E⟩:=mi (out:=out) a;refine RT ⟨_,O,h g.objs.size _ d i out u m (TH le) E B (F.trans s) I (λb o e=>?_) lt⟩;exact k8 (SM (RX (x b o e))) (RS _ (x b o e))
end
def met (ns:List Int):List Int:=ns.foldl (λa k=>if k∈a then a else a++[k]) []
theorem HG (ns:List Int)(k:Int):met (ns++[k])=if k∈met ns then met ns else met ns++[k]:=by
 unfold met;rw[YM];rfl
theorem Aw (ns:List Int):(met ns).length<=ns.length:=by
 have c:∀ (ns b:List Int),(ns.foldl (λb k=>if k∈b then b else b++[k]) b).length<=b.length+ns.length:=by
  intro ns
  induction ns with
  |nil=>intro b;exact R0 _
  |cons a ns d=>
   intro b;refine Sv (d _) ?_;dsimp only
   split<;>simp<;>lia
 have:=c ns []
 simpa [met] using this
theorem K_ (ns:List Int)(x:Int):x∈met ns↔x∈ns:=by
 have c:∀ (ns b:List Int),x∈ns.foldl (λb k=>if k∈b then b else b++[k]) b↔x∈b\/x∈ns:=by
  intro ns
  induction ns with
  |nil=>intro b;simp
  |cons a ns d=>
   intro b;rw[Zu,d]
   split
   ·rename_i h
    constructor
    ·rintro(q|q)
     ·exact .inl q
     ·exact .inr (R_ _ q)
    ·rintro(q|q)
     ·exact .inl q
     ·rcases R'.mp q with rfl|q
      ·exact .inl h
      ·exact .inr q
   ·simp only[S8,R',Sg,TK,or_assoc]
 rw[met,c];simp
section
variable {pr:SA}{wo:Te}{Ar:Tf}{Ex:RV->RZ->Prop}{st:RZ}
theorem vD (h:kj pr wo led H a ks)(k:∀ o,H.get? a=Y o->H'.get? a=Y o):kj pr wo led H' a ks:=by
 obtain⟨f,b,c,d,e,r⟩:=h;exact⟨f,b,c,d,k _ e,r⟩
theorem II (hh:Ar.handled=none) (F:l ≠ I) (c:S ≠ I) (G:S ≠ l) (hi:Vu its.toList ns) (T:ns.length + 1 < scanBound)
  (M:∀ g a,kj pr wo led g S (met ns)->(∀ b o,b≠S->b≠I->st.heap.get? b=Y o->g.get? b=Y o)->st.toks<=a->R (.ok (.ret .none)) { st with heap:=g,toks:=a }):
  ∀ (k i:Nat) (g:Uc) (a:Nat),ns.length-i=k->i<=ns.length->g.IsListIter I l i->g.IsList l its->kj pr wo led g S (met (ns.take i)) ->
   (∀ b o,b≠S->b≠I->st.heap.get? b=Y o->g.get? b=Y o)->st.toks<=a ->
   Vc (SD pr wo) Ar (.builtin "set.update.loop" ⟨[.ref S,.ref I],[]⟩) R { st with heap:=g,toks:=a }:=by
 have n:its.toList.length=ns.length:=IntsAre.length hi;have D:its.size=ns.length:=by simpa using n
 intro k
 induction k with
 |zero=>
  intro i g a Q C j x z B le;have d:i=ns.length:=zyA
  refine UR Y1 ?_;rw[UB WP _];show Sb _ Ar.in1 (U_ (.ref I)>>=_) _ _ _;refine HD (wpAny_pyNext_list_end (by simp[hh]) j x (by simp;lia) λp ext=>?_);rw[d,Vd] at z;exact RT (M p a (vD z λo e=>ext S o c e) (λb o y s e=>ext b o s (B b o y s e)) le)
 |succ k L=>
  intro i g a Q C j x z B le;have f:i<ns.length:=zyA
  obtain⟨v,H⟩:∃ v,its[i]?=Y v:=⟨its[i]'zyA,by simp[D,f]⟩
  obtain⟨t,rfl⟩:=IntsAre.int_at hi i v (by rw[V2];exact H);refine UR Y1 ?_;rw[UB WP _];show Sb _ Ar.in1 (U_ (.ref I)>>=_) _ _ _;refine HD (Zp j x H λp u A=>?_);show Sb _ Ar.in1 (holding [VO (ns.getD i 0) t] (setAdd S (.int (ns.getD i 0) t))>>=_) _ _ _;refine HD (TC ?_);unfold setAdd;refine TC (HD ((VG pr wo).pyHash (k:=ns.getD i 0) (intKind_is _ _ _ _) ?_));have E:kj pr wo led p S (met (ns.take i)):=vD z λo e=>by rw[A.2 S c];exact e
  have d:(met (ns.take i)).length+1<scanBound:=by
   have:=Aw (ns.take i);rw[SX] at this;lia
  refine Fy E d λJ h m=>?_
  have N:met (ns.take (i+1))=if ns.getD i 0∈met (ns.take i) then met (ns.take i) else met (ns.take i)++[ns.getD i 0]:=by
   rw[<- HG]
   congr 1
   rw[List.take_succ];simp[f,List.getD]
  rw[<- N] at m;refine RT ⟨W6 WP _,L (i+1) J (a+1) zyA f ?_ ?_ m (λb o y s e=>?_) (Nat.le_succ_of_le le)⟩
  ·obtain⟨o,q,r⟩:=u;exact⟨o,by rw[h.2 I (U9 c)];exact q,r⟩
  ·obtain⟨o,q,r⟩:=x;exact⟨o,by rw[h.2 l (U9 G)];rw[show p.get? l=g.get? l from A.2 l F];exact q,r⟩
  ·rw[h.2 b y];show p.get? b=Y o;rw[A.2 b s];exact B b o y s e
theorem Gb (a:RV)
  (h:Q₁ (.ref st.heap.objs.size) { st with heap:=st.heap.push { cls:=.type "set",dict:=none,data:=.set #[] 0 (.fresh 0 0 (!zZ wo)) } }):
  Vc (SD pr wo) Ar (.call (.builtin "set.__new__") ⟨[.type "set",a],[]⟩) (wants Q₁ Ex) st:=by
 refine ZI ?_;show Sb _ Ar.in1 (do checkBuiltinCall "set.__new__" ⟨[.type "set",a],[]⟩;again (.builtin "set.__new__" ⟨[.type "set",a],[]⟩)) _ _ st;refine HD (Za (F.newCall_set_1 a) (RT ⟨W6 F.plain_set_new _,UR F.entry_set_new ?_⟩));rw[UB F.plain_set_new _];unfold Va.«set.__new__» Builtin.Frozenset.newClass;have b:=sub_set_self;dsimp only
 wp_walk
 refine Ws (RT ?_);dsimp only;simp only[newObj];refine HD (wpAny_alloc (RT ?_));exact RT h
theorem Cu (h:H.get? a=Y { cls:=.type "set",dict:=none,data:=.set #[] 0 (.fresh 0 0 led) }):kj pr wo led H a []:=
 ⟨_,#[],0,_,h,⟨O,O,O⟩,O,λe b=>by simp at b,λk=>zyB,Z,by cases led<;>decide,O,Yz,YL,O⟩
end
section
variable {pr:SA}{wo:Te}{Ar:Tf}{Ex:RV->RZ->Prop}{st:RZ}
theorem Ix (hh:Ar.handled=none) (M:st.heap.IsList l its) (hi:Vu its.toList ns) (hb:ns.length + 1 < scanBound)
  (h:∀ (g:Uc) (f:Nat),kj pr wo (!zZ wo) g st.heap.objs.size (met ns)->(∀ b o,st.heap.get? b=Y o->g.get? b=Y o)->st.toks<=f->Q (.ref st.heap.objs.size) { st with heap:=g,toks:=f }):
  Sb (SD pr wo) Ar (call (.type "set") [.ref l]) Q Ex st:=by
 obtain⟨c,tl,hmro⟩:=V6.mro;have H:=V6.made;have hsub:=V6.sub;refine XW (ZI ?_);show Sb _ _ (callAny (.type "set") _) _ _ _;refine RT ⟨aak _ zyC,UR F.entry_type_call ?_⟩;rw[Around.under_plain (weight_type_call_type "set" [.ref l] []) O];have h1:=V6.notType;have h2:=V6.canCreate;have hct:=F.typeCall_set_1 (.ref l)
 repeat (any_goals (first|assumption|wp_step))
 refine Vg (Gb (pr:=pr) (wo:=wo) (Ex:=Ex) (.ref l) (Q₁:=λs d=>s=.ref st.heap.objs.size/\d={ st with heap:=st.heap.push { cls:=.type "set",dict:=none,data:=.set #[] 0 (.fresh 0 0 (!zZ wo)) } }) ⟨O,O⟩) λr d A=>?_
 cases r with
 |error e=>exact A
 |ok fl=>
  cases fl with
  |ret s=>
   obtain⟨rfl,rfl⟩:=A;have C:(st.heap.push { cls:=.type "set",dict:=none,data:=.set #[] 0 (.fresh 0 0 (!zZ wo)) }).get? st.heap.objs.size=Y { cls:=.type "set",dict:=none,data:=.set #[] 0 (.fresh 0 0 (!zZ wo)) }:=RW _ O;have D:(st.heap.push { cls:=.type "set",dict:=none,data:=.set #[] 0 (.fresh 0 0 (!zZ wo)) }).objs.size=st.heap.objs.size+1:=SR _ _;have k:∀ b o,st.heap.get? b=Y o->(st.heap.push { cls:=.type "set",dict:=none,data:=.set #[] 0 (.fresh 0 0 (!zZ wo)) }).get? b=Y o:=λb o e=>RS _ e
   generalize st.heap.push { cls:=.type "set",dict:=none,data:=.set #[] 0 (.fresh 0 0 (!zZ wo)) }=i at C D k ⊢;have hT:aav { st with heap:=i } (.ref st.heap.objs.size) "set":=⟨_,C,O⟩
   have hli:=V6.init.lookup;have hbi:=V6.init.bind (.ref st.heap.objs.size)
   repeat (any_goals (first|assumption|wp_step))
   refine Vg (codeAny_call_builtin (R:=wants (fun r j=>r=.none/\∃ g f,j={ st with heap:=g,toks:=f }/\kj pr wo (!zZ wo) g st.heap.objs.size (met ns) /\
     (∀ b o,st.heap.get? b=Y o->g.get? b=Y o)/\st.toks<=f) Ex) V6.init.plain F.entry_set_init (check_set_init_1 hT ?_)) λu j a=>?_
   ·have m:i.IsList l its:=by obtain⟨o,q,r⟩:=M;exact⟨o,k _ _ q,r⟩
    have v:l<st.heap.objs.size:=by obtain⟨o,q,r⟩:=M;exact RX q
    obtain⟨ol,hol,p,nl,n⟩:=id m;obtain⟨T,G,z,y⟩:=ol;simp only at p n;subst p;subst n;have N:=F.sub_list_set;have hslf:=F.sub_list_frozenset;have hne:(T9 "list"==T9 "dict")=false:=Z
    unfold Va.«set.__init__» noKeywords Builtin.Frozenset.updateFrom;generalize L:Z8=PI
    wp_walk
    subst L;refine Us m ?_;refine HD (Z9 ?_);have up1:∀ b o,i.get? b=Y o->(i.push { cls:=.type "list_iterator",data:=.fields #[.ref l,.int 0 0] }).get? b=Y o:=λb o e=>RS _ e
    have x:l<i.objs.size:=by rw[D];exact Wk v
    have t:st.heap.objs.size<i.objs.size:=by rw[D];exact Um _
    refine II (st:={ st with heap:=i }) (l:=l) (I:=i.objs.size) (S:=st.heap.objs.size) (led:=!zZ wo) (by simp[hh]) (Si x) (Si t) (SM v) hi hb (λg f B E J=>?_)
     (ns.length-0) 0 _ st.toks rfl (Tn _) ⟨_,RW _ O,O,O⟩ (m.push _) (Cu (up1 _ _ C)) (λb o _ _ e=>up1 b o e) (R0 _)
    show Sb _ _ _ _ _ _;refine RT ?_;show Sb _ _ (ret Tv) _ _ _;refine RT ⟨O,g,f,O,B,λb o e=>?_,J⟩;have lb:=RX e;exact E b o (Si lb) (Si (V' lb t)) (k b o e)
   ·cases u with
    |error e=>exact a
    |ok m=>
     cases m with
     |ret r=>
      obtain⟨rfl,g,f,rfl,B,E,J⟩:=a
      repeat (any_goals (first|assumption|wp_step))
      exact h _ _ B E J
     |_=>exact a.elim
  |_=>exact A.elim
end
open L2
theorem y6:∀ {ns:List Int}{us:List RV},aU (ns.map V.int) us->Vu us ns:=by
 intro ns
 induction ns with
 |nil=>intro us r;cases r;exact .nil
 |cons a ns b=>
  intro us r;cases r with
  |cons h t=>obtain⟨k,rfl⟩:=h;exact .cons a k (b t)
theorem lG:∀ {ns:List Int}{us:List RV},Vu us ns->aU (ns.map V.int) us:=by
 intro ns us h
 induction h with
 |nil=>exact .nil
 |cons n t _ a=>exact .cons ⟨t,O⟩ a
theorem FE (ns:List Int):(met ns).Nodup:=by
 have d:∀ (ns b:List Int),b.Nodup->(ns.foldl (λb k=>if k∈b then b else b++[k]) b).Nodup:=by
  intro ns
  induction ns with
  |nil=>intro b h;exact h
  |cons a ns g=>
   intro b h;refine g _ ?_;dsimp only
   split
   ·exact h
   ·rename_i f
    exact aaM.mpr ⟨h,zyB,λx e y c=>by
     rw[RY] at c;subst c;exact λq=>f (q▸e)⟩
 exact d ns [] Yz
theorem Ge {ns:List Int}(c:ns.Pairwise (·<=·))(d:ns.Nodup):ns.Pairwise (·<·):=by
 induction ns with
 |nil=>exact .nil
 |cons a l f=>
  have p:=Uy.mp c;have n:=Ui.mp d;refine Uy.mpr ⟨λx b=>?_,f p.2 n.2⟩;have:=p.1 x b;have ne:a≠x:=λe=>n.1 (e▸b)
  lia
section
variable {X:Cx}{K:KE}{pins:List (Sd×Obj)}{σ:L2.St}{H:Hp}{s:RZ}
theorem F9 (I:aK X pins σ H s)(d:Drawn):aK X pins σ H { s with drawn:=d }:=⟨I.ok,I.os,I.bare,I.base,I.loc,I.cell,I.free,I.freeC,I.pin,I.hok,I.len⟩
def RF (K:KE)(c:TA):TE:=λσ H Q=>c σ H λvs b=>∃ (q:Sd) (ns:List Int),vs=[.ref q]/\bI K b q (ns.map V.int)/\ns.length<64 /\
 ∀ (L:Sd) (a:List Int),b L=none->a.Pairwise (·<·)->(∀ x:Int,x∈a↔x∈ns)->a.length<=ns.length->Q (.ref L) (upd b L (.lst (a.map V.int)))
theorem tN (hK:X.K=K) {e:U2}{M:TA}{p r pos a:Pos} (T:X.calm=true) (hg:Gl X "sorted") (hm:X.mg "sorted"=none) (y:Gl X "set") (v:X.mg "set"=none) (t:WA X [e] M)
  (hs:Ss [e] X.env=(false,V1 e X.env)::Ss [] X.env:=by rfl)(C:(VY a (Ss [] X.env)).any (·.1)=false:=by rfl)
  (i:Ss [Expr.Call (.Name "set" r) [e] [] a] X.env=[(false,V1 (.Call (.Name "set" r) [e] [] a) X.env)]:=by rfl):
  WE X (.Call (.Name "sorted" p) [.Call (.Name "set" r) [e] [] a] [] pos) (RF K M):=by
 have t:=t.go;refine⟨?_⟩;subst hK;intro pins s σ H Q I h;refine TV (iG I hg hm sO ?_);refine Xv ?_ i rfl;rw[i];show Sb _ _ (spliced ((false,V1 (.Call (.Name "set" r) [e] [] a) X.env)::[])) _ _ s;refine VT ?_;refine Call_ (iG I y v Od (Ts (cu (t a pins s σ H _ I h) λus G z=>?_) hs C));obtain⟨vs,H1,c,r1,q1⟩:=z;obtain⟨q,ns,rfl,hq,hl,k⟩:=q1;cases r1 with
 |cons ru rt=>
 cases rt;cases ru;obtain⟨its,rv,⟨o,n,po,pc,pd,l⟩,hsz⟩:=c.list hq;refine Ix (c.ok.hd T) ⟨o,po,pc,n,l⟩ (y6 rv) (by unfold scanBound;lia) λg tk N up le=>Xb ?_
 refine DQ (st:={ G with heap:=g,toks:=tk }) (c.ok.hd T) N (by have:=Aw ns;lia) λL g2 d j B f m hL E io u sr F kY=>?_
 have D:G.heap.objs.size<=L:=Sv (TH (by obtain⟨_,_,_,_,w,_⟩:=N;exact RX w)) hL;have A:=c.hok.fresh D;have J:=c.fpOk D A;have J0:aK X pins σ H1 { G with heap:=g2,toks:=j,drawn:=d }:=F9 (c.kept (t':=j) λb o e=>F b o (up b o e)) d;have ln:f.length<=ns.length:=by rw[u.length_eq];exact Aw ns
 have J1:=eh (o:=.lst (f.map V.int)) J0 A (Sv c.sz D) J.2.1 J.2.2.2.2.1 J.2.2.2.2.2 ⟨by rw[R5,Uo];lia,B.toList,m,lG io,E⟩;exact⟨.ref L,_,J1,O,k L f A (Ge sr (u.nodup_iff.mpr (FE ns))) (λx=>by rw[u.mem_iff,K_]) ln⟩
def EB (K:KE):List V->Hp->VK->Prop:=λvs H Q=>∃ (q:Sd) (ns:List Int),vs=[.ref q]/\bI K H q (ns.map V.int)/\ns.length<64 /\
 ∀ (L:Sd) (a:List Int),H L=none->a.Pairwise (·<=·)->a.Perm ns->Q (.ref L) (upd H L (.lst (a.map V.int)))
theorem CJ:dP X (.builtin "sorted") (EB X.K):=by
 intro pins s σ H vs M Q I r h;obtain⟨q,ns,rfl,hq,L,k⟩:=h;cases r with
 |cons E C=>
 cases C;cases E;obtain⟨a,t,⟨o,n,J,z,N,d⟩,D⟩:=I.list hq;have G:a.length=ns.length:=by have:=aU.length t;simpa using this.symm
 refine sorted_ints (vs:=a) (ns:=ns) ⟨o,J,z,n,d⟩ (y6 t) zyA λout c y p F=>?_
 have A:((s.heap.push (WL "list" #[] 0)).update s.heap.objs.size (T1 (·++a.toArray))).objs.size=s.heap.objs.size+1:=by rw[Heap.size_update,size_push']
 have f:(((s.heap.push (WL "list" #[] 0)).update s.heap.objs.size (T1 (·++a.toArray))).push (WL "list" a.toArray 0)).get? (s.heap.objs.size+1)=Y (WL "list" a.toArray 0):=by
  rw[<- A];exact RW _ O
 have v:∀ b o,s.heap.get? b=Y o->(sortedAll s.heap a out).get? b=Y o:=λb o e=>by
  have l:=RX e;unfold sortedAll;refine k8 (SM (Wk l)) (RS _ ?_);rw[Ud _ _ (SM l)];exact RS _ e
 obtain⟨m,B⟩:=mi (out:=out) f;have g:s.heap.objs.size<=s.heap.objs.size+1:=X5 _;have i:=I.hok.fresh g;have j:=I.fpOk g i;have x:aK X pins σ H { s with heap:=sortedAll s.heap a out }:=I.kept (t':=s.toks) v;have T:c.length=ns.length:=p.length_eq;have u:=eh (o:=.lst (c.map V.int)) x i (Sv I.sz g) j.2.1 j.2.2.2.2.1 j.2.2.2.2.2 ⟨by rw[R5,Uo];lia,out.toList,m,lG y,B⟩;exact⟨.ref (s.heap.objs.size+1),_,u,O,k _ c i F p⟩
theorem Ju (e:X.K=K):dP X (.builtin "sorted") (EB K):=by subst e;exact CJ
end
def kf (p r:Pt):Rat:=((r.2-p.2:Int):Rat)/((r.1-p.1:Int):Rat)
structure nN (ps:List Pt)(i:Nat)(c:Rat):Prop where
 pos:0<=c
 one:c=0\/∃ j p r,j<i/\ps[j]?=Y p/\ps[j+1]?=Y r/\c=kf p r
 all:∀ j p r,j<i->ps[j]?=Y p->ps[j+1]?=Y r->kf p r<=c
theorem F8 (h:vN ps)(d:ps[i]?=Y p)(c:ps[i+1]?=Y r):0<=kf p r:=by
 obtain⟨u1,e⟩:=h.up i p r d c;unfold kf;have a:(0:Rat)<=((r.2-p.2:Int):Rat):=by
  have:(0:Int)<=r.2-p.2:=zyA
  exact_mod_cast this
 have b:(0:Rat)<((r.1-p.1:Int):Rat):=by
  have:(0:Int)<r.1-p.1:=zyA
  exact_mod_cast this
 rw[Vl];exact TF a (UQ (Y9.mpr b))
theorem tD {g:TG}{q:TT}{o:TE}{d:L2.St}{Fin:List V->Hp->Prop}{c:Hp}{lo:Int}{t r:Sd}{n:Nat}{m:Int} (C:cr c t r) (v:n <= 1000)
  (he:∀ (i:Nat) (H:Hp),i<n->cr H t r->Mv [t,r] c H->mf g q o d (.int (lo+i)) H λy H'=>∃ k:Int,y=.int k/\0<=k/\k<=m/\cr H' t r/\Mv [t,r] H H')
  (z:∀ (ks:List Int) (H:Hp),ks.length=n->(∀ k∈ks,0<=k/\k<=m)->cr H t r->Mv [t,r] c H->Fin (ks.map V.int) H):ix (He lo n) g q o d Fin c:=by
 refine p8 (λi f H=>cr H t r/\Mv [t,r] c H/\∃ ks:List Int,ks.length=i/\(∀ k∈ks,0<=k/\k<=m)/\f=ks.map V.int) ⟨C,Mv.refl,[],O,λ_ h=>(Sg h).elim,O⟩ v (λi f H s p=>?_) (λi f H s p=>?_) (λf H p=>?_)
 ·obtain⟨_,_,ks,e,_,rfl⟩:=p;rw[R5,e];exact R0 _
 ·obtain⟨b,a,ks,e,l,rfl⟩:=p;intro R B S;refine he i H s b a R (λy H' A=>?_) S;obtain⟨k,rfl,k0,k1,tH,j⟩:=A;refine B _ _ ⟨tH,a.trans j,ks++[k],by simp[e],λx u=>?_,zyB⟩;rcases S8.mp u with h|h
  ·exact l x h
  ·rw[RY] at h;subst h;exact⟨k0,k1⟩
 ·obtain⟨b,a,ks,e,l,rfl⟩:=p;exact z ks H e l b a
theorem Ko (a:List Pt):ke (a.map tJ)=true:=by
 induction a with
 |nil=>rfl
 |cons p a b=>rw[Sy];simp only[ke,Tu];exact⟨O,b⟩
theorem AX {K:KE}:∀ {ns:List Int}{ys:List V},aB K H (ns.map Uf) ys->ys=ns.map V.int
 |[],_,h=>by cases h;rfl
 |_::_,_,h=>by
  cases h with
  |cons h q=>
   cases h;rw[AX q];rfl
theorem IY (xs:List V)(n:Nat)(h:1<=n):C7 xs none (Y ((n:Int)-1))=xs.take (n-1):=by
 unfold C7;have e:((n:Int)-1)=((n-1:Nat):Int):=zyA
 rw[e,HT.sIx_none,HT.sIx_nat,List.drop_zero,Nat.sub_zero];apply aaJ;intro i;rw[Ym,Ym]
 by_cases a:i<n-1
 ·by_cases b:i<xs.length
  ·rw[SO zyA,SO a]
  ·rw[Sx zyA,SO a,List.getElem?_eq_none zyA]
 ·rw[Sx zyA,Sx a]
structure Pl (last:Int)(ns:List Int):Prop where
 up:ns.Pairwise (·<·)
 z:ns[0]?=Y 0
 l:ns.getLast?=Y last
 inn:∀ x∈ns,0<=x/\x<=last
 two:2<=ns.length
 few:ns.length<=12
theorem wU {R:Int->Int->Prop}{ns:List Int}(h:ns.Pairwise R){i j:Nat}{a b:Int}(c:i<j)(g:ns[i]?=Y a)(d:ns[j]?=Y b):R a b:=by
 obtain⟨f,rfl⟩:=R9.mp g;obtain⟨e,rfl⟩:=R9.mp d;exact Wn.mp h i j f e c
theorem B3 {ns:List Int}{a:Int}(h:ns.getLast?=Y a):ns[ns.length-1]?=Y a:=by
 rw[TD] at h;exact h
theorem Px {c:Int}{ns:List Int}(v:1<=c)(k:ns.Pairwise (·<·))(o:0∈ns)(t:c∈ns)(g:∀ x∈ns,0<=x/\x<=c)(l:ns.length<=12):Pl c ns:=by
 obtain⟨i,s,r⟩:=TY o;obtain⟨j,q,m⟩:=TY t;have f:ns[i]?=Y 0:=by rw[Sf s,r]
 have d:ns[j]?=Y c:=by rw[Sf q,m]
 have u:i=0:=by
  by_cases h:i=0
  ·exact h
  ·have n:ns[0]?=Y ns[0]:=Sf zyA;have a:=wU k zyA n f;have b:=(g ns[0] (UY _)).1;lia
 have p:j=ns.length-1:=by
  by_cases h:j=ns.length-1
  ·exact h
  ·have n:ns[ns.length-1]?=Y ns[ns.length-1]:=Sf zyA;have a:=wU k zyA d n;have b:=(g ns[ns.length-1] (UY _)).2;lia
 have ne:i≠j:=λe=>by subst e;rw[f] at d;injection d;lia
 subst u;refine⟨k,f,by rw[TD,<- p];exact d,g,zyA,l⟩
theorem M8 {c:Int}{ns:List Int}{m:Nat}(h:Pl c ns)(k:1<m)(g:m<=ns.length):Pl c (ns.take (m-1)++[c])/\(ns.take (m-1)++[c]).length=m:=by
 have len:(ns.take (m-1)++[c]).length=m:=by rw[SB,SX];simp;lia
 refine⟨⟨?_,?_,zyB,?_,zyA,by have:=h.few;lia⟩,len⟩
 ·refine Z2.mpr ⟨h.up.sublist (YO _ _),List.pairwise_singleton _ _,λa e b d=>?_⟩;rw[RY] at d;subst d;obtain⟨i,f,rfl⟩:=TY e;rw[SX] at f;rw[YN];exact wU h.up (i:=i) (j:=ns.length-1) zyA (Sf zyA) (B3 h.l)
 ·rw[UM (by rw[SX];lia),Ym,SO zyA];exact h.z
 ·intro x d;rcases S8.mp d with q|q
  ·exact h.inn x (List.mem_of_mem_take q)
  ·rw[RY] at q;subst q;exact h.inn _ (Vp h.l)
theorem MF {a:Int}(h:1<=a):Pl a [0,a]:=⟨by simp;lia,O,O,λx b=>by simp at b;lia,zyB,zyB⟩
theorem DY {c:Int}{ns vs:List Int}(h:Pl c ns)(v:c<=1000)(t:vs.Pairwise (·<=·))(g:∀ x∈vs,0<=x/\x<=1000)(u:vs.length=ns.length):vN (ns.zip vs)/\∃ z,(ns.zip vs).getLast?=Y z/\z.1=c:=by
 have len:(ns.zip vs).length=ns.length:=by rw[X2];lia
 have j:=h.two;have s:=h.few;refine⟨⟨zyA,zyA,λp d=>?_,λp d=>?_,λi p q k f=>?_⟩,?_⟩
 ·have:=(S5.mp d).1;rw[h.z] at this;injection this with e
  exact e.symm
 ·obtain⟨a,b⟩:=Vw (a:=p.1) (b:=p.2) d;have:=h.inn _ a;have:=g _ b;exact⟨zyA,zyA,zyA,zyA⟩
 ·obtain⟨m,n⟩:=S5.mp k;obtain⟨r,o⟩:=S5.mp f;exact⟨wU h.up (Um i) m r,wU t (Um i) n o⟩
 ·have e:=B3 h.l;have m:ns.length-1<vs.length:=zyA
  refine⟨(c,vs[ns.length-1]),?_,O⟩;rw[TD,len];exact S5.mpr ⟨e,Sf m⟩
theorem LW {a:Rat}:(p.2:Rat)+((q.2:Rat)-(p.2:Rat))/((q.1:Rat)-(p.1:Rat))*(a-(p.1:Rat))=CY p q a:=by
 unfold CY;rw[Vl,Vl];grind
theorem rP (p q:Pt)(a:Rat):CY p q a=(p.2:Rat)+kf p q*(a-(p.1:Rat)):=by
 rw[<- LW];unfold kf;rw[Tt,Tt]
theorem Iv (c:p.1<q.1)(d:p.2<=q.2):0<=kf p q:=by
 unfold kf;have a:(0:Rat)<=((q.2-p.2:Int):Rat):=by
  have:(0:Int)<=q.2-p.2:=zyA
  exact_mod_cast this
 have b:(0:Rat)<((q.1-p.1:Int):Rat):=by
  have:(0:Int)<q.1-p.1:=zyA
  exact_mod_cast this
 rw[Vl];exact TF a (UQ (Y9.mpr b))
theorem vG (d:p.1<q.1)(e:p.2<=q.2){a b:Rat}(h:a<=b):CY p q a<=CY p q b:=by
 have c:=Iv d e;rw[rP,rP];generalize kf p q=m at c;have:=TF c (show 0<=b-a by grind);grind
theorem A4 (p q:Pt):CY p q (p.1:Rat)=(p.2:Rat):=by
 rw[rP];grind
theorem Av (b:p.1<q.1):CY p q (q.1:Rat)=(q.2:Rat):=by
 have a:((q.1-p.1:Int):Rat)≠0:=by
  have:(q.1-p.1:Int)≠0:=zyA
  exact_mod_cast this
 rw[rP];unfold kf;rw[Tt] at a;rw[Tt,Tt,Vl];grind
theorem HZ (h:vN ps){a b c d:Rat}(o:a<=b)(x:Bt ps a c)(y:Bt ps b d):c<=d:=by
 obtain⟨k,p,q,i,rfl⟩:=x;obtain⟨j,r,s,f,rfl⟩:=y;obtain⟨u1,v⟩:=h.up k p q i.lo i.hi;obtain⟨z,A⟩:=h.up j r s f.lo f.hi;rcases Nat.lt_trichotomy k j with t|t|t
 ·have g:(r.1:Rat)<b:=by
   rcases f.gt with e|e
   ·lia
   ·exact e
  have m:=h.mono (j-(k+1)) (k+1) q r i.hi (by rw[show k+1+(j-(k+1))=j by lia];exact f.lo);have n:CY p q a<=(q.2:Rat):=by rw[<- Av u1];exact vG u1 v i.le
  have l:(r.2:Rat)<=CY r s b:=by rw[<- A4 r s];exact vG z A (UQ g)
  have u:(q.2:Rat)<=(r.2:Rat):=by exact_mod_cast m.2.1
  exact SN n (SN u l)
 ·subst t;have n:=i.lo;rw[f.lo] at n;cases n;have l:=i.hi;rw[f.hi] at l;cases l;exact vG u1 v o
 ·exfalso;have g:(p.1:Rat)<a:=by
   rcases i.gt with e|e
   ·lia
   ·exact e
  have m:=h.mono (k-(j+1)) (j+1) s p f.hi (by rw[show j+1+(k-(j+1))=k by lia];exact i.lo);have u:(s.1:Rat)<=(p.1:Rat):=by exact_mod_cast m.1
  have:=f.le;grind
theorem vd:∀ {ns:List Int}{us:List RV},aU (ns.map V.int) us->∃ b:List (Int×Tok),us=b.map (λp=>VO p.1 p.2)/\b.map (·.1)=ns:=by
 intro ns
 induction ns with
 |nil=>intro us r;cases r;exact⟨[],O,O⟩
 |cons a ns c=>
  intro us r;cases r with
  |cons h t=>
   obtain⟨k,rfl⟩:=h;obtain⟨b,rfl,rfl⟩:=c t;exact⟨(a,k)::b,O,O⟩
theorem Cn (f:Nat->Int):∀ n,argBest (λi j=>decide (f i>f j)) n<=n/\∀ i,i<=n->f i<=f (argBest (λi j=>decide (f i>f j)) n)
 |0=>⟨R0 _,λi a=>by cases Nat.le_zero.mp a;exact aaf _⟩
 |n+1=>by
  obtain⟨d,b⟩:=Cn f n;simp only[argBest]
  by_cases c:f (n+1)>f (argBest (λi j=>decide (f i>f j)) n)
  ·rw[SO (R8 c)];refine⟨R0 _,λi a=>?_⟩;rcases aa2 n i with h|h
   ·have:i=n+1:=zyA
    subst this;exact aaf _
   ·have:=b i h;lia
  ·rw[Sx (λz=>c (Ti z))];refine⟨zyA,λi a=>?_⟩;rcases aa2 n i with h|h
   ·have:i=n+1:=zyA
    subst this;lia
   ·exact b i h
theorem sR {a:List (Int×Tok)}{i:Nat}{p:Int×Tok}(h:a[i]?=Y p):numAt a.toArray i=p.1:=by
 unfold numAt;rw[Zv,h];rfl
theorem B' (a:List (Int×Tok)):(a.map λp=>VO p.1 p.2).toArray=intItems a.toArray:=by
 unfold intItems;simp
theorem M4 {a:List (Int×Tok)}{x:Int}(h:x∈a.map (·.1)):∃ i,i<=a.toArray.size-1/\numAt a.toArray i=x:=by
 obtain⟨p,c,rfl⟩:=Ta.mp h;obtain⟨i,b,rfl⟩:=TY c;exact⟨i,by simp;lia,sR (by simp[b])⟩
theorem N3 {a:List (Int×Tok)}{i:Nat}{v:RV}(h:(intItems a.toArray)[i]?=Y v):∃ t,v=.int (numAt a.toArray i) t/\numAt a.toArray i∈a.map (·.1):=by
 obtain⟨t,rfl⟩:=intItems_at h;refine⟨t,O,?_⟩;simp only[intItems,Array.getElem?_map,So] at h;obtain⟨p,b,e⟩:=h;rw[Zv] at b;rw[sR b];exact Ta.mpr ⟨p,Se b,O⟩
section
variable {X:Cx}{K:KE}
def Me (K:KE):List V->Hp->VK->Prop:=λa H Q=>∃ (p:Sd) (ns:List Int),a=[.ref p]/\bI K H p (ns.map V.int)/\ns≠[]/\∀ m,m∈ns->(∀ x∈ns,x<=m)->Q (.int m) H
theorem FG (B:X.calm=true):dP X (.builtin "max") (Me X.K):=by
 intro a s l H L G Q I r h;obtain⟨p,ns,rfl,A,b,q⟩:=h;obtain⟨u,rfl,y⟩:=mh r;cases y;obtain⟨E,C,g,J⟩:=I.list A;obtain⟨e,rfl,rfl⟩:=vd C;have d:=g.isList;rw[B'] at d;have c:0<e.toArray.size:=by
  rw[Su];exact X1.mpr (λz=>b (by rw[z];rfl))
 refine max_intList (I.ok.hd B) d c λv o F m D=>?_
 obtain⟨t,rfl,j⟩:=N3 m;have n:aK X a l H { s with heap:=o,toks:=F }:=I.kept D;refine⟨.int _,H,n,⟨t,O⟩,q _ j λx f=>?_⟩;obtain⟨i,k,rfl⟩:=M4 f;exact(Cn (numAt e.toArray) _).2 i k
theorem DE (e:X.K=K)(a:X.calm=true):dP X (.builtin "max") (Me K):=by subst e;exact FG a
def Rr:Qm:=λx y H Q=>∃ i j,x=.int i/\y=.int j/\mB i j/\Q (.int (i*j)) H
theorem JX:Q9 X .Mult Rr:=by
 intro b s m H x y v u Q I f c h;obtain⟨i,j,e,d,g,q⟩:=h;subst e;subst d;obtain⟨t,rfl⟩:=f;obtain⟨l,rfl⟩:=c;refine imul_int ⟨.int _,H,I.tok _,⟨_,O⟩,q⟩ ?_;rcases g with ⟨a,k⟩|a
 ·exact aa8 (Sv a.bits Z) (Sv k.bits Z)
 ·exact aa9 a.bits
end
theorem BE {K:KE}:∀ {ns:List Int}{xs:List V},aB K H (ns.map Uf) xs->xs=ns.map V.int
 |[],xs,h=>by cases h;rfl
 |n::ns,xs,h=>by
  cases h with
  |cons b a=>
   cases b;rw[BE a];rfl
def Ce (rs:List Rat):Rat:=rs.foldl (·+·) 0
theorem yV (rs:List Rat)(q:Rat):Ce (rs++[q])=Ce rs+q:=by unfold Ce;rw[YM];rfl
theorem AH {rs:List Rat}{i:Nat}{d:Tr}(h:(rs.map rD)[i]?=Y d):∃ q,rs[i]?=Y q/\d=rD q:=by
 rw[Sc,So] at h;obtain⟨q,e,rfl⟩:=h;exact⟨q,e,O⟩
theorem E8 {b:Nat}{rs:List Rat}(h:∀ r∈rs,Bq b r):∀ n,n<=rs.length->Bq (n*(b+1)+1) (Ce (rs.take n))
 |0,_=>by
  show Bq _ (0:Rat);exact⟨Z,Z,by unfold Sm;simp,by unfold Sm;simp⟩
 |n+1,c=>by
  have a:rs[n]?=Y rs[n]:=by simp[show n<rs.length by lia]
  rw[cw a,yV];have:=(E8 h n zyA).add (h _ (UY (show n<rs.length by lia)));exact this.mono (by rw[Xu];lia)
def dB (rs:List Rat):Int:=rs.foldl (λn r=>n*(r.den:Int)) 1
theorem vv (rs:List Rat)(q:Rat):dB (rs++[q])=dB rs*(q.den:Int):=by unfold dB;rw[YM];rfl
theorem ll {b:Nat}{rs:List Rat}(h:∀ r∈rs,Bq b r):∀ n,n<=rs.length->0<dB (rs.take n)/\Sm (n*b+1) (dB (rs.take n))
 |0,_=>by
  show 0<(1:Int)/\Sm _ (1:Int);exact⟨Z,by unfold Sm;simp⟩
 |n+1,e=>by
  have a:rs[n]?=Y rs[n]:=by simp[show n<rs.length by lia]
  rw[cw a,vv];obtain⟨c,d⟩:=ll h n zyA;have k:=h _ (UY (show n<rs.length by lia));refine⟨Int.mul_pos c k.pos,(d.mul k.sd).mono (by rw[Xu];lia)⟩
theorem nZ {r:Rat}(h:r∈rs):(r.den:Int)∣dB rs:=by
 have d:∀ (rs:List Rat) (n:Int),n∣rs.foldl (λn r=>n*(r.den:Int)) n:=by
  intro rs
  induction rs with
  |nil=>intro n;exact Int.dvd_refl _
  |cons a rs c=>intro n;exact Int.dvd_trans ⟨_,O⟩ (c _)
 have b:∀ (rs:List Rat) (n:Int),r∈rs->(r.den:Int)∣rs.foldl (λn r=>n*(r.den:Int)) n:=by
  intro rs
  induction rs with
  |nil=>intro n h;cases h
  |cons a rs c=>
   intro n h;rcases R'.mp h with rfl|h
   ·exact Int.dvd_trans (Int.dvd_mul_left _ _) (d _ _)
   ·exact c _ h
 exact b _ _ h
def ov (B:Int)(r:Rat):Int:=r.num*(B/(r.den:Int))
theorem yT {B:Int}{r:Rat}(h:(r.den:Int)∣B):((ov B r:Int):Rat)=r*(B:Rat):=by
 obtain⟨k,rfl⟩:=h;have a:(r.den:Int)≠0:=by have:=r.den_nz;lia
 unfold ov;rw[Int.mul_ediv_cancel_left _ a,SE,SE];have b:=jE r;have c:=iQ r;grind
theorem PP {B:Int}{p q:Rat}(b:0<B)(c:(p.den:Int)∣B)(hq:(q.den:Int)∣B):ov B p<=ov B q↔p<=q:=by
 have a:(0:Rat)<(B:Rat):=by exact_mod_cast b
 rw[<- Tk,yT c,yT hq];constructor
 ·intro h;exact TX h a
 ·intro h;exact S0 h (UQ a)
theorem Nt {B:Int}{r:Rat}(a:0<B)(h:(r.den:Int)∣B):((ov B r:Int):Rat)/(B:Rat)=r:=by
 have:(B:Rat)≠0:=by
  intro z;have:B=0:=by exact_mod_cast z
  lia
 rw[yT h];grind
theorem Pq {b:Nat}{rs:List Rat}{r:Rat}(h:∀ r∈rs,Bq b r)(d:r∈rs):Sm (rs.length*b+b+1) (ov (dB rs) r):=by
 obtain⟨c,a⟩:=ll h rs.length (R0 _);rw[Vd] at c a;have k:=h r d;refine(k.sn.mul (j:=rs.length*b+1) ?_).mono zyA;have g:0<(r.den:Int):=k.pos;have e:dB rs/(r.den:Int)<=dB rs:=Int.ediv_le_self _ zyA;have f:0<=dB rs/(r.den:Int):=Zq zyA zyA;unfold Sm at a ⊢;lia
def slopes (a:List Pt):List Rat:=(a.zip (a.drop 1)).map λz=>kf z.1 z.2
theorem vQ (a:ps[i]?=Y p)(b:ps[i+1]?=Y r):(slopes ps)[i]?=Y (kf p r):=by
 unfold slopes;rw[Sc,(S5 (z:=(p,r))).mpr ⟨a,by rw[WV,VE];exact b⟩];rfl
theorem vI {c:Rat}(h:c∈slopes ps):∃ i p r,ps[i]?=Y p/\ps[i+1]?=Y r/\c=kf p r:=by
 obtain⟨z,e,rfl⟩:=Ta.mp h;obtain⟨i,d⟩:=ZY e;obtain⟨b,a⟩:=S5.mp d;rw[WV,VE] at a;exact⟨i,_,_,b,a,O⟩
theorem JN (h:vN ps){c:Rat}(g:c∈slopes ps)(d:∀ r∈slopes ps,r<=c):nN ps (ps.length-1) c:=by
 obtain⟨i,p,r,b,a,rfl⟩:=vI g;have l:=(R9.mp a).1;exact⟨F8 h b a,.inr ⟨i,p,r,zyA,b,a,O⟩,λj m k _ e f=>d _ (Se (vQ e f))⟩
theorem Kt (q:Rat):((-q.num:Int):Rat)/((q.den:Int):Rat)=-q:=by
 have b:=jE q;have a:=iQ q;rw[ZG];grind
theorem Bq.neg {q:Rat}(h:Bq k q):Bq k (-q):=by
 have a:(q.den:Int)≠0:=by have:=q.den_nz;lia
 have:=eK (t:=-q.num) (b:=(q.den:Int)) a h.sn.neg h.sd;rw[Kt] at this;exact this
def sw (p:Pt):Pt:=(p.2,p.1)
theorem G8 (h:vN ps){a c:Rat}(r:ps[0]?=Y y)(hz:ps.getLast?=Y z)(n:0<=a)(x:Bt ps a c):(y.2:Rat)<=c/\c<=(z.2:Rat):=by
 obtain⟨j,p,q,st,rfl⟩:=x;have b:ps[ps.length-1]?=Y z:=by rw[<- TD];exact hz
 obtain⟨u1,i⟩:=h.up j p q st.lo st.hi;have t:=(R9.mp st.hi).1;have m:=(h.mono j 0 y p r (by rw[SL];exact st.lo)).2.1;have o:=(h.mono (ps.length-1-(j+1)) (j+1) q z st.hi (by rw[show j+1+(ps.length-1-(j+1))=ps.length-1 by lia];exact b)).2.1;have s:(p.1:Rat)<=a:=by
  rcases st.gt with e|e
  ·subst e;have d:=st.lo;have l:=h.zero p d;rw[l];exact n
  ·exact UQ e
 have d:CY p q a<=(q.2:Rat):=by rw[<- Av u1];exact vG u1 i st.le
 have k:(p.2:Rat)<=CY p q a:=by
  have:=vG u1 i s;rw[A4] at this;exact this
 have g:(y.2:Rat)<=(p.2:Rat):=by exact_mod_cast m
 have f:(q.2:Rat)<=(z.2:Rat):=by exact_mod_cast o
 exact⟨SN g k,SN d f⟩
def MW (K:KE)(y x:Str):Bool:=(nQ K y).any λD=>(nQ K x).any λC=>Vk K (.ref D) (.ref C)==Y false
theorem lS (c:WE X e t)(d:WE X e u):WE X e (λb H Q=>t b H Q\/u b H Q):=by
 have c:=c.go;have d:=d.go;exact⟨λa s b H Q I h=>h.elim (c a s b H Q I) (d a s b H Q I)⟩
theorem om {H:Hp}{a b C c:Sd}{fs:List (Str×V)}{o:HO}(e:H a=Y (.ins C c fs))(d:H b=Y o)(f:o≠.ins C c fs):b≠a:=λz=>by
 rw[z,e] at d;exact f (RU d).symm
theorem Ay {K:KE}{H:Hp}{a C f:Sd}{fs:List (Str×V)}{o:HO}(e:H a=Y (.ins C f fs)):∀ {c:List Pt}{xs:List V},aB K H (c.map tJ) xs->aB K (upd H a o) (c.map tJ) xs
 |[],_,.nil=>.nil
 |p::c,_,.cons h t=>by
  refine .cons ?_ (Ay e t);obtain⟨g,rfl,b⟩:=bt (n:=p.1) (d:=p.2) h;exact fb (by rw[ar (om e b (λz=>nomatch z))];exact b)
theorem my.put {K:KE}{H:Hp}{a C g:Sd}{fs:List (Str×V)}{o:HO}(c:H a=Y (.ins C g fs))(p:∀ l:Sd,fs≠[(("points":Str),V.ref l)]){e:List Pt}{v:V}(h:my K H e v):my K (upd H a o) e v:=by
 obtain⟨b,m,d,l,rfl,i,f,j⟩:=h;have n:b≠a:=om c f (λz=>by cases z;exact p l rfl);refine⟨b,m,d,l,O,i,by rw[ar n];exact f,?_⟩;cases j with
 |lst h q=>
  rcases h with h|h
  ·exact .lst (.inl (by rw[ar (om c h (λz=>nomatch z))];exact h)) (Ay c q)
  ·obtain⟨k,h⟩:=h;exact .lst (.inr ⟨k,by rw[ar (om c h (λz=>nomatch z))];exact h⟩) (Ay c q)
theorem nX (h:a∉T):cut T (upd H a o)=upd (cut T H) a o:=by
 funext b
 by_cases e:b=a
 ·subst e;rw[fS h,ag,ag]
 ·rw[ar e];unfold cut
  split
  ·rfl
  ·rw[ar e]
theorem tW (a:List (Int×Tok)):∀ n,n<=a.length->preSum (numAt a.toArray) n=((a.take n).map (·.1)).sum
 |0,_=>rfl
 |n+1,h=>by
  have e:a[n]?=Y a[n]:=Sf zyA;rw[cw e,T5,List.sum_append];show preSum (numAt a.toArray) n+numAt a.toArray n=_;rw[tW a n zyA,sR e];simp
section
variable {X:Cx}{K:KE}
def Mf (K:KE):List V->Hp->VK->Prop:=λa H Q=>∃ (p:Sd) (ns:List Int),a=[.ref p]/\bI K H p (ns.map V.int)/\Q (.int ns.sum) H
theorem FS (l:X.calm=true):dP X (.builtin "sum") (Mf X.K):=by
 intro a s f H y v Q I r h;obtain⟨p,ns,rfl,k,q⟩:=h;obtain⟨u,rfl,j⟩:=mh r;cases j;obtain⟨o,m,e,x⟩:=I.list k;obtain⟨c,rfl,rfl⟩:=vd m;have b:=e.isList;rw[B'] at b;refine sum_intListG (I.ok.hd l) b λi t d n=>?_
 have g:aK X a f H { s with heap:=i,toks:=t }:=I.kept n;refine⟨.int _,H,g,⟨d,O⟩,?_⟩;rw[Su,tW c _ (R0 _),Vd];exact q
theorem Hu (e:X.K=K)(a:X.calm=true):dP X (.builtin "sum") (Mf K):=by subst e;exact FS a
end
abbrev ME (X:Cx)(o:U2)(m:Str)(b:List U2)(c:List XC)(pl:Sem Bool)(a pos:Pos):Prop:=
 V1 (.Call (.Attribute o m a) b c pos) X.env=(do let ov <- V1 o X.env;ZL a.atName;let (f,first) <- holding [ov] (getMethod ov m pl);callWith pos f first (VY pos (Ss b X.env)) (UV pos (TQ c X.env)))
def P8 (K:KE)(x m:Str)(sp:Sp)(h:List V->List V->List V)(E:XK)(d:TE)(t i:TA):TE:=λb H Q=>d b H λv c=>∃ a C e fs,v=.ref a/\cR K x C/\c a=Y (.ins C e fs)/\fs.lookup m=none /\
 t b c λvs f=>i b f λg j=>sp (h (v::vs) g) j Q E
section
variable {X:Cx}{CX:qr}{K:KE}{k n j:Nat}{x m:Str}{ps ks:List Str}{sp:Sp}{dvs:List V}{pos apos:Pos}{o e:U2}{es:List U2}{kws:List XC}{ta:TE}{t tk:TA}
theorem vB (hK:X.K=K) (hX:GU CX) (C:tV X.prog X.w X.K X.mg X.base CX k x m ps ks n j dvs sp) (hr:Room k X.A) (he:WE X o ta) (g:WA X (e :: es) t) (c:WK X kws tk)
  (d:(UV pos (TQ kws X.env)).all (·.1.isSome)=true:=by rfl)(G:(UV pos (TQ kws X.env)).filterMap (·.1)=ks:=by rfl)
  (J:Ss (e::es) X.env=(false,V1 e X.env)::Ss es X.env:=by rfl)
  (z:((VY pos (Ss (e::es) X.env)).any (·.1)||(UV pos (TQ kws X.env)).any (·.1.isNone))=false:=by rfl)
  (ht:ME X o m (e::es) kws pl apos pos:=by rfl):WE X (.Call (.Attribute o m apos) (e::es) kws pos) (P8 K x m sp (jY n j dvs) E0 ta t tk):=by
 have he:=he.go;have g:=g.go;have c:=c.go;refine⟨?_⟩;subst hK;obtain⟨D,f,fd,ds,fs0,F,L,M,_,hb⟩:=C.ex;intro b s B H Q I h;refine Xx (pl:=pl) (cu (he b s B H _ I h) λu s1 p=>?_) ht;obtain⟨v,H1,T,rv,a,E,dx,fs,ev,ec,ea,l,q⟩:=p;subst ev;cases bK ec L.at_;obtain rfl:u=SC a:=rv;refine qi T ea L.cls M l ?_;refine X7 (first:=[.ref a]) (h₀:=X.base) I.ok.mod.kin M.kp d (cu (g pos b s1 B H1 _ T q) λus s2 i=>?_) z J;obtain⟨vs,H2,I2,r,q2⟩:=i;refine cu (c pos b s2 B H2 _ I2 q2) λws s3 y=>?_;obtain⟨zs,H3,N,rz,q3⟩:=y;refine⟨N.kIn,?_⟩
 rw[G];exact EN (us:=.ref a::us) (vs:=.ref a::vs) F hr hb (qP hX) N (.cons rfl r) rz q3
end
theorem MS {K:KE}{n m:Nat} (e:K.lookup D=Y o)
  (h:∀ us d:List RV,us.length=n->d.length=m->∃ (part:Option RV) (f:Obj->Sem (List (Str×RV))),T_ fd ⟨us,ks.zip d⟩=Sem.load D part f/\f o=pure ((p::ps).zip (us++(d++[.str z t])))):
  kI K fd (p::ps) ks (jY n m [.str z t]) (jY n m [.str z]):=
 ⟨λs us d X g=>by
  obtain⟨a,b,c⟩:=B_ g;rw[c];obtain⟨part,f,j,i⟩:=h us d a b;exact IG X e j i,λa b=>CN (show aU [V.str z] [YU z t] from .cons ⟨t,O⟩ .nil) a b⟩
theorem FC {K:KE}{mg:Str->Option RV}{x m d p:Str}{st:T6}{y ks fs:List Str}{n j:Nat}{C f D:Sd}{o:Obj}{B:RV}{A s:Option Sd}{q:Array (Option RV)}{k u i r:RV}{z:Str}{t:Tok}
  (l:K.lookup f=Y ⟨B,A,.func (Sn m d (aO st) (aJ st) (af st) .none (.ref D) k u s i r),q⟩)
  (c:SF K i d=true)(I:Sq K (.ref f)=true)(G:UP K (.ref f)=true)(a:Sa K R1 x=Y (Y (.ref C)))(b:SG K (.ref C) m=Y (Y (.ref f)))(H:iO K x fs=true)(g:mg x=Y (.ref C))
  (e:K.lookup D=Y o)
  (h:∀ us v:List RV,us.length=n->v.length=j->∃ (part:Option RV) (F:Obj->Sem (List (Str×RV))),T_ (Sn m d (aO st) (aJ st) (af st) .none (.ref D) k u s i r) ⟨us,ks.zip v⟩=Sem.load D part F/\F o=pure ((p::y).zip (us++(v++[.str z t])))):
  jS K mg x m d st (p::y) ks n j [.str z]:=by
 obtain⟨J,E⟩:=lY H;cases bK E.at_ a;exact⟨_,f,_,B,A,.none,.ref D,k,u,s,i,r,q,[.str z t],fs,O,l,c,E,⟨b,G,I⟩,g,MS e h⟩
def sQ (e:U2)(a:List WN)(b:Xy)(pos:Pos)(acc:RV)(env:Env)(d:Nat):Sem Unit:=match a[d+1]? with
 |some c=>do
  let x <- V1 c.iter env
  ZL c.iter.pos
  let x <- if c.is_async != 0 then foldedIterable c.iter x else Ur c.iter env x
  let _ <- runOwn (.compStart (.ListComp e a b pos) (d+1) (<- holding [x] (if c.is_async != 0 then asyncIter x else Z8 x)) acc env) env
 |none=>do let _ <- call (.builtin "list.append") [acc,<- V1 e env]
theorem CM (h:gens[d]?=Y ⟨target,iter,ifs,0⟩) :
  compTurn (.ListComp elt gens scope pos) d it acc env=(do
   ZL iter.pos
   match <- U_ it with
   |none=>pure (.done .next)
   |some v=>
    W5 target it v
    assign target env v
    let mut ok:=true
    for c in ifs do
     if ok then ok <- isTrue c env (V1 c env)
    if ok then
     sQ elt gens scope pos acc env d
    again (.compLoop (.ListComp elt gens scope pos) d it acc env)):=by
 unfold compTurn sQ;dsimp only;rw[h];cases hg:gens[d+1]? with
 |none=>rfl
 |some e=>
  dsimp only;have b:((0:Nat) != 0)=false:=O
  by_cases a:(e.is_async != 0)=true
  ·simp only[a,b,bind_assoc,VF,Tc,UX];rfl
  ·have a:(e.is_async != 0)=false:=by simpa using a
   simp only[a,b,bind_assoc,VF,Tc,UX];rfl
theorem tL (q:gens[d]?=Y ⟨target,iter,ifs,0⟩) (I:Nat->RZ->Prop)
  (mI:∀ n s,I n s->Sb (SD prog w) A (U_ it) (λr b=>match r with
   |none=>R (.ok .next) b
   | some v=>Sb (SD prog w) A (W5 target it v) (fun _ a=>Sb (SD prog w) A (assign target env v) (fun _ j=>
     Sb (SD prog w) A (forIn ifs true λc r=>if r=true then do let ok <- isTrue c env (V1 c env);pure (V7 ok) else pure (V7 r)) (λok e=>
      if ok=true then Sb (SD prog w) A (sQ elt gens scope pos acc env d) (λ_ i=>∃ m,m<n/\I m i) (λ_ _=>False) e
      else ∃ m,m<n/\I m e) (λ_ _=>False) j) (λ_ _=>False) a) (λ_ _=>False) b) (λ_ _=>False) s)
  (n:Nat)(h:I n s):Vc (SD prog w) A (.compLoop (.ListComp elt gens scope pos) d it acc env) R s:=by
 refine codeAny_loop rfl I (λn s p=>?_) n h;show Sb _ A ((compTurn (.ListComp elt gens scope pos) d it acc env).onRaise (λx=>do noteFrame x env;theTreesLotGoes x)) _ _ s;refine wpAny_noted ?_;rw[CM q];refine HD (Vi (HD (TU (mI n s p) (λr b f=>?_) λ_ _ z=>z.elim)));cases r with
 |none=>exact RT f
 |some v=>
  refine HD (TU f (λ_ a k=>?_) λ_ _ z=>z.elim);refine HD (TU k (λ_ j o=>HD (TU o (λok e g=>?_) λ_ _ z=>z.elim)) λ_ _ z=>z.elim);cases ok with
  |false=>exact RT ⟨O,g⟩
  |true=>exact HD (TU g (λ_ i l=>RT ⟨O,l⟩) λ_ _ z=>z.elim)
theorem zU (g:gens[d]?=Y ⟨target,iter,ifs,0⟩)
  (f:Vc (SD prog w) A (.compLoop (.ListComp elt gens scope pos) d it acc env) R s)
  (h:Sb (SD prog w) A (Z8 it) (λa b=>Vc (SD prog w) A (.compLoop (.ListComp elt gens scope pos) d a acc env) R b)
   (notedBy (SD prog w) A env λx b=>R (.error x) b) s) :
  Vc (SD prog w) A (.compStart (.ListComp elt gens scope pos) d it acc env) R s:=by
 refine ZI ?_;show Sb _ _ ((compStart (.ListComp elt gens scope pos) d it acc env).onRaise (λx=>do noteFrame x env;ZL theWindowsPlace)) _ _ s;refine wpAny_notedAt ?_;have c:(clausesOf (.ListComp elt gens scope pos))[d]?=Y ⟨target,iter,ifs,0⟩:=g;unfold compStart;rw[c];show Sb _ _ (ask>>=_) _ _ s;refine HD (Ws (wpAny_ite ?_))
 split
 ·first
   |exact HD (RT (RT (abe rfl f)))
   |exact RT (abe rfl f)
 ·first
   |exact HD (Vy (HD (Vi (HD (TU h (λa b e=>RT (abe rfl e)) λ_ _ x=>x)))))
   |(refine HD (Vy ?_);show Sb _ _ (ZL iter.pos>>=_) _ _ s;exact HD (Vi (HD (TU h (λa b e=>RT (abe rfl e)) λ_ _ x=>x))))
abbrev TB:=L2.St->Hp->List V->(L2.St->Hp->List V->Prop)->Prop
def Ih (a:List RV)(n:Nat):Obj:={ cls:=.type "list",data:=.seq a.toArray n }
def QU (X:Cx)(a:List (Sd×Obj))(D:Sd):Prop:=
 D≠X.env.locals/\(D∈X.ex\/X.s₀.heap.objs.size<=D)/\(∀ x c,X.env.cells.lookup x=Y c->c≠D)/\∀ p∈X.pn++a,p.1≠D
def PB (X:Cx)(i:U2)(g:List WN)(c:Xy)(pos:Pos)(d:Nat)(t:TB):Prop:=
 ∀ (D:Sd) (a:List (Sd×Obj)) (s:RZ) (k:L2.St) (H:Hp) (j:List V) (h:List RV) (n:Nat) (Q:L2.St->Hp->List V->Prop),aK X ((D,Ih h n)::a) k H s->QU X a D->aU j h->t k H j Q ->
  Sb (SD X.prog X.w) X.A (sQ i g c pos (.ref D) X.env d) (λ_ o=>∃ f l e b m,aK X ((D,Ih b m)::a) f l o/\aU e b/\Q f l e) (λ_ _=>False) s
structure WB (X:Cx)(elt:U2)(gens:List WN)(scope:Xy)(pos:Pos)(d:Nat)(t:TB):Prop where
 go:PB X elt gens scope pos d t
section
variable {X:Cx}{elt:U2}{gens:List WN}{scope:Xy}{pos:Pos}{d:Nat}
def EY (d:TE):TB:=λb H a Q=>a.length<Sk/\d b H λy c=>Q b c (a++[y])
theorem E_ (A:X.xe=λ_ _=>False)(J:gens[d+1]?=none)(he:PE X elt te):PB X elt gens scope pos d (EY te):=by
 intro D c s k H L a n Q I j u h;obtain⟨G,h⟩:=h;unfold sQ;rw[J];dsimp only;have i:=he _ s k H _ I h;rw[A] at i;refine HD (cu i λy q M=>?_);obtain⟨T,m,r,F,B⟩:=M;have f:=r.pin (D,Ih a n) (Sj _ Sz);have hsz:a.toArray.size<=Sk:=by
  have:=u.length;rw[Su,<- this];exact TH G
 refine HD (append_at (hsz:=hsz) f.1 λh9 t l=>RT ?_);have C:aK X c k m q:=r.pins_of λp g=>r.pin p (Sj _ (R_ _ g))
 have x:aK X c k m { q with heap:=h9 }:=C.turned (it:=D) (t':=q.toks) (λb o N e=>t.extBut b o N e) f.2.1 j.1 j.2.1 j.2.2.1 j.2.2.2;refine⟨k,m,L++[T],a++[y],n+1,x.pins_of λp g=>?_,u.append (.cons F .nil),B⟩;rcases R'.mp g with rfl|g
 ·have E:({ cls:=.type "list",data:=.seq (a.toArray.push y) (n+1) }:Obj)=Ih (a++[y]) (n+1):=by unfold Ih;rw[List.push_toArray]
  exact⟨by rw[<- E];exact l,f.2.1,f.2.2.1,f.2.2.2.1,λv z=>nomatch z⟩
 ·exact x.pin p (Sj _ g)
def OE (o:TI)(g:TG)(q:TT)(tb:TB):TB:=λl H r Q=>o l H λJ p=>∃ W:Nat->Nat->L2.St->Hp->List V->Prop,(∃ m,W 0 m l p r)/\∀ i m c e a,W i m c e a ->
 (J.stop i e/\Q c e a) \/
 (J.go i e/\∀ x n,J.yld i e x n->g x c n λd t=>q d t λb k=>if b=true then tb d k a λj s h=>∃ f,f<m/\W (i+1) f j s h else ∃ f,f<m/\W (i+1) f d k a)
theorem Cq (hx:X.xe=fun _ _=>False) (hc:X.calm=true) (hd:gens[d + 1]?=Y ⟨tg,iter,ifs,0⟩) (hi:WI X tg iter wi) (hg:WG X tg g) (ht:Mj X ifs tt) (B:WB X elt gens scope pos (d + 1) tb)
  (hs:∀ x,Ur iter X.env x=pure x:=by intro _;rfl):WB X elt gens scope pos d (OE wi g tt tb):=by
 have hi:=hi.go;have hg:=hg.go;have ht:=ht.go;have B:=B.go;refine ⟨?_⟩;intro D q s σ H ys its n Q I hD rv h;unfold sQ;rw [hd];dsimp only;have hi':=hi _ s σ H _ I h;rw [hx] at hi';refine HD (cu hi' fun v s1 h1=>?_);refine HD (Vi ?_);show Sb _ _ (Ur iter X.env v >>= fun x=>holding [x] (Z8 x) >>= fun it=>runOwn (.compStart (.ListComp elt gens scope pos) (d + 1) it (.ref D) X.env) X.env >>= fun _=>pure ()) _ _ s1;rw [hs];refine HD (RT (HD (TC (cu h1 fun itv s2 h2=>?_))));obtain ⟨it,fp,tn,J,H2,rfl,I2,T,st2,f2,W,⟨m0,w0⟩,mI⟩:=h2;refine HD (wpAny_runOwn ?_);have F:Vc (SD X.prog X.w) X.A (.compLoop (.ListComp elt gens scope pos) (d + 1) (.ref it) (.ref D) X.env) (fun r E=>match r with
   |.ok _=>Sb (SD X.prog X.w) X.A (pure ()) (λ_ E=>∃ j y m f M,aK X ((D,Ih f M)::q) j y E/\aU m f/\Q j y m) (λ_ _=>False) E
   |.error e=>cameBackBy (SD X.prog X.w) X.A X.env (λ_ _=>False) e E) s2:=by
  refine tL hd (λk E=>∃ i j y m f M,aK X ((D,Ih f M)::q) j y E/\tn i E.heap/\(∀ b∈fp,y b=none)/\aU m f/\W i k j y m) ?_ m0
   ⟨0,σ,H2,ys,its,n,I2,st2,λb B=>(f2 b B).1,rv,w0⟩
  rintro k E ⟨i,j,y,m,f,M,I',tn',fr',rv',w'⟩;have fpOk:∀ {y:Hp}{o:Obj},(∀ b∈fp,y b=none)->∀ b∈fp,ql X ((D,o)::q) y b:=λ{y o} hn b B=>by
   obtain⟨_,g1,g2,g3,g4,g5⟩:=f2 b B;refine⟨hn b B,g1,g2,g3,g4,λp l=>?_⟩;rcases S8.mp l with l|l
   ·exact g5 p (UC _ l)
   ·rcases R'.mp l with rfl|l
    ·exact g5 (D,Ih its n) (Sj _ Sz)
    ·exact g5 p (Sj _ (R_ _ l))
  rcases mI i k j y m w' with ⟨stop,fin⟩|⟨go,step⟩
  ·refine TU (T.done X rfl rfl rfl hc i _ E j y (λ_ _=>False) I' (fpOk fr') tn' stop) (λr s1 hr=>?_) λ_ _ z=>z
   obtain⟨rfl,t⟩:=hr;exact RT ⟨j,y,m,f,M,t,rv',fin⟩
  ·refine TU (T.item X rfl rfl rfl hc i _ E j y (λ_ _=>False) I' (fpOk fr') tn' go) (λr s4 hr=>?_) λ_ _ z=>z
   obtain⟨u,rfl,h4⟩:=hr;refine TU h4 (λ_ s5 h5=>?_) λ_ _ z=>z
   obtain⟨x,H5,I5,r5,y5,N,fr5⟩:=h5;have I5':=I5.pinned (fpOk fr5) (T.obj _ _ N);have hg':=hg _ s5 j H5 x u _ I5' r5 (step x H5 y5);rw[hx] at hg';refine cu hg' λ_ s6 h6=>?_
   obtain⟨L,H6,I6,q6⟩:=h6;have ht':=ht _ s6 L H6 _ I6 q6;rw[hx] at ht';refine cu ht' λok s7 h7=>?_
   obtain⟨H7,I7,q7⟩:=h7;have G:∀ {s8:RZ}{C:L2.St}{H8:Hp}{t:List RV}{n8:Nat},aK X ((D,Ih t n8)::(q++lP fp s5.heap)) C H8 s8->aK X ((D,Ih t n8)::q) C H8 s8/\tn (i+1) s8.heap/\∀ b∈fp,H8 b=none:=λ{s8 C H8 t n8} I8=>by
    refine⟨I8.pins_of λp l=>I8.pin p (Sj _ ?_),T.keep _ _ _ N λb B o e=>(I8.pin (b,o) (Sj _ (R_ _ (Sj _ (gZ B e))))).1,λb B=>?_⟩
    ·rcases R'.mp l with rfl|l
     ·exact Sz
     ·exact R_ _ (UC _ l)
    ·obtain⟨o,e,_⟩:=T.obj _ _ N b B;exact(I8.pin (b,o) (Sj _ (R_ _ (Sj _ (gZ B e))))).2.1
   cases ok with
   |false=>
    obtain⟨m',hm,w8⟩:=q7;obtain⟨a,b,c⟩:=G I7;exact⟨m',hm,i+1,L,H7,m,f,M,a,b,c,rv',w8⟩
   |true=>
    have D7:QU X (q++lP fp s5.heap) D:=⟨hD.1,hD.2.1,hD.2.2.1,λp l=>by
     rcases S8.mp l with l|l
     ·exact hD.2.2.2 p (UC _ l)
     ·rcases S8.mp l with l|l
      ·exact hD.2.2.2 p (Sj _ l)
      ·exact λz=>(f2 _ (rB l).1).2.2.2.2.2 (D,Ih its n) (Sj _ Sz) z.symm⟩
    refine TU (B D _ s7 L H7 m f M _ I7 D7 rv' q7) (λ_ s8 h8=>?_) λ_ _ z=>z
    obtain⟨C,H8,ys8,t,n8,I8,rv8,m',hm,w8⟩:=h8;obtain⟨a,b,c⟩:=G I8;exact⟨m',hm,i+1,C,H8,ys8,t,n8,a,b,c,rv8,w8⟩
 exact zU hd F (T.self _ 0 _ _ _ st2 F)
end
def El (J:It)(g:TG)(o:TT)(tb:TB)(h:L2.St)(Fin:List V->Hp->Prop)(l:Hp):Prop:=∃ W:Nat->Nat->List V->Hp->Prop,(∃ m,W 0 m [] l)/\∀ i m d a,W i m d a ->
 (J.stop i a/\d.length<=Sk/\Fin d a) \/
 (J.go i a/\∀ x k,J.yld i a x k->g x h k λc p=>o c p λb j=>if b=true then tb c j d λ_ n f=>∃ e,e<m/\W (i+1) e f n else ∃ e,e<m/\W (i+1) e d j)
section
variable {X:Cx}{pins:List (Sd×Obj)}{σ:L2.St}{H H2:Hp}{s s2:RZ}
theorem tI {N:List Str}{a:Xy}{elt tg M:U2}{ifs:List U2}{fh:List WN}{pos:Pos}{it:Sd}{f:List Sd}{tn:Nat->Uc->Prop}{J:It}{g:TG}{tt:TT}{tb:TB}{s:L2.St}{Fin:List V->Hp->Prop}
  {E:RV->RZ->Prop}{RR:RV->Sd->Result->RZ->Prop}(hc:X.calm=true)(I:aK X pins σ H2 s2)(S:CF X a)
  (L:vw X a N σ s)(hlen:s.length=N.length)(f2:∀ b∈f,ql X pins H2 b)(T:yc X.prog X.w X.K tg J f it tn)(st2:tn 0 s2.heap)
  (hg:∀ C,PG (bU X N a (bD X a C) C s2 H2 f pins) tg g)(ht:∀ C,QK (bU X N a (bD X a C) C s2 H2 f pins) ifs tt)(he:∀ C,PB (bU X N a (bD X a C) C s2 H2 f pins) elt (⟨tg,M,ifs,0⟩::fh) a pos 0 tb)(hw:El J g tt tb s Fin H2)
  (hRR:∀ (D C:Sd) (s':RZ) (H':Hp) (ys:List V),aK X pins σ (upd H' D (.lst ys)) s'->H' D=none->Fin ys H'->(∃ m,s'.heap.Ns C m)->H' C=none->D≠C->s2.heap.objs.size<=C->RR (.ref D) C (.ok .next) s'):
  Sb (SD X.prog X.w) X.A (newList []) (λacc s₃=>Sb (SD X.prog X.w) X.A (YF a X.env.globals (yH X.env.cells a.names []) [] X.env.qual none .none (Y X.env)) (λcenv s₄=>
   Vc (SD X.prog X.w) X.A (.compStart (.ListComp elt (⟨tg,M,ifs,0⟩::fh) a pos) 0 (.ref it) acc { cenv with scope:=relabel a X.env }) (RR acc cenv.locals) s₄) E s₃) E s2:=by
 obtain⟨W,⟨m0,w0⟩,mI⟩:=hw;refine Tj (HL λh1 Q H kk1=>?_);dsimp only at Q H kk1 ⊢;generalize hG:s2.heap.push { cls:=.type "list",dict:=none,data:=.seq ([]:List RV).toArray }=G at Q H kk1 ⊢;have hC:G.objs.size=s2.heap.objs.size+1:=by rw[<- hG,SR]
 have hDC:s2.heap.objs.size≠G.objs.size:=by rw[hC];exact Si (Um _)
 have below:∀ b,b<s2.heap.objs.size->b≠G.objs.size:=λb t=>by rw[hC];exact Si (Wk t)
 have old:∀ b o,s2.heap.get? b=Y o->h1.get? b=Y o:=λb o e=>kk1 b o (hG▸RS _ e)
 have hacc:h1.get? s2.heap.objs.size=Y { cls:=.type "list",data:=.seq ([]:List RV).toArray 0 }:=kk1 _ _ (hG▸RW _ O);have F:∀ x c,X.env.cells.lookup x=Y c->c<s2.heap.objs.size:=λx c e=>by
  obtain⟨v,q⟩:=I.cell x c e;exact q.lt
 have big:∀ c:Sd,G.objs.size+1<=c->s2.heap.objs.size+2<=c:=λc h=>by rw[hC] at h;exact h
 have fo:∀ b∈f,∃ o,s2.heap.get? b=Y o:=λb t=>let ⟨o,e,_⟩:=T.obj 0 _ st2 b t;⟨o,e⟩
 have B:∀ b∈f,b<s2.heap.objs.size:=λb t=>let ⟨o,e⟩:=fo b t;RX e
 have st1:tn 0 h1:=T.keep 0 _ _ st2 λb _ o e=>old b o e
 have hCle:s2.heap.objs.size<=G.objs.size:=by rw[hC];exact X5 _
 have I0:∀ tk,aK (bU X N a (bD X a G.objs.size) G.objs.size s2 H2 f pins) [(s2.heap.objs.size,{ cls:=.type "list",data:=.seq ([]:List RV).toArray 0 })] s H2 { s2 with heap:=h1,toks:=tk }:=λtk=>
  Jx I S L hlen f2 fo hCle (R0 _) hDC old Q hacc (λv z=>nomatch z) λx c e l=>(H x c e).resolve_left λz=>by
   rcases jz S.free z with z|⟨_,z⟩
   ·cases z
   ·exact absurd (F x c z) (Ue.mpr (Sv (VN _ 2) (big c l)))
 have fpOk:∀ {H':Hp}{o:Obj},(∀ b∈f,H' b=none)->∀ b∈f,ql (bU X N a (bD X a G.objs.size) G.objs.size s2 H2 f pins) [(s2.heap.objs.size,o)] H' b:=λ{H' o} hn b t=>by
  obtain⟨_,g1,g2,g3,g4,g5⟩:=f2 b t;refine⟨hn b t,below b (B b t),zV I g1 g2,.inl t,λx c e=>?_,λp hp=>?_⟩;rcases jx S e with ⟨e,_⟩|⟨l,_⟩
  ·exact g4 x c e
  ·exact λz=>absurd (B b t) (Ue.mpr (z▸Sv (VN _ 2) (big c l)))
  rcases S8.mp hp with hp|hp
  ·exact g5 p hp
  ·cases RY.mp hp;exact λz=>absurd (z▸B b t) (Th _)
 have loop:∀ s3:RZ,s3.heap=h1->s3.gens=s2.gens->s3.os=s2.os->aK (bU X N a (bD X a G.objs.size) G.objs.size s2 H2 f pins) [(s2.heap.objs.size,{ cls:=.type "list",data:=.seq ([]:List RV).toArray 0 })] s H2 s3 ->
   Vc (SD X.prog X.w) X.A (.compLoop (.ListComp elt (⟨tg,M,ifs,0⟩::fh) a pos) 0 (.ref it) (.ref s2.heap.objs.size) (Ys a (bD X a G.objs.size) G.objs.size X.env)) (RR (.ref s2.heap.objs.size) G.objs.size) s3:=by
  intro s3 e3 _ _ I3;refine tL (d:=0) O (λk s'=>∃ i ys its n H',aK (bU X N a (bD X a G.objs.size) G.objs.size s2 H2 f pins) [(s2.heap.objs.size,{ cls:=.type "list",data:=.seq (its:List RV).toArray n })] s H' s'/\tn i s'.heap/\(∀ b∈f,H' b=none)/\aU ys its/\W i k ys H') ?_ m0
   ⟨0,[],[],0,H2,I3,by rw[e3];exact st1,λb t=>(f2 b t).1,.nil,w0⟩
  rintro k s' ⟨i,ys,its,n,H',I',tn',fr',rv,w'⟩;rcases mI i k ys H' w' with ⟨stop,hz,fin⟩|⟨go,step⟩
  ·refine TU (T.done (bU X N a (bD X a G.objs.size) G.objs.size s2 H2 f pins) O O O hc i _ s' s H' (λ_ _=>False) I' (fpOk fr') tn' stop) (λr s1 hr=>?_) λ_ _ z=>z
   obtain⟨rfl,I1⟩:=hr;obtain⟨m,hn,_⟩:=id I1.loc;exact hRR _ _ s1 H' ys (Ie I f2 (R0 _) I1 rv hz) (I1.pin _ (Sj _ Sz)).2.1 fin ⟨m,hn⟩ I1.free hDC hCle
  ·refine TU (T.item (bU X N a (bD X a G.objs.size) G.objs.size s2 H2 f pins) O O O hc i _ s' s H' (λ_ _=>False) I' (fpOk fr') tn' go) (λr s4 hr=>?_) λ_ _ z=>z
   obtain⟨u,rfl,h4⟩:=hr;refine TU h4 (λ_ s5 h5=>?_) λ_ _ z=>z
   obtain⟨x,H5,I5,r5,y5,tn5,fr5⟩:=h5;have I5':=I5.pinned (fpOk fr5) (T.obj _ _ tn5);refine cu (hg G.objs.size _ s5 s H5 x u _ I5' r5 (step x H5 y5)) λ_ s6 h6=>?_
   obtain⟨σ6,H6,I6,q6⟩:=h6;refine cu (ht G.objs.size _ s6 σ6 H6 _ I6 q6) λok s7 h7=>?_
   obtain ⟨H7,I7,q7⟩:=h7;have weak:∀ {s8:RZ}{σ8:L2.St}{H8:Hp}{its':List RV}{n':Nat},aK (bU X N a (bD X a G.objs.size) G.objs.size s2 H2 f pins) ([(s2.heap.objs.size,{ cls:=.type "list",data:=.seq its'.toArray n' })] ++ lP f s5.heap) σ8 H8 s8 ->
     aK (bU X N a (bD X a G.objs.size) G.objs.size s2 H2 f pins) [(s2.heap.objs.size,{ cls:=.type "list",data:=.seq its'.toArray n' })] s H8 s8/\tn (i+1) s8.heap/\∀ b∈f,H8 b=none:=λ{s8 σ8 H8 its' n'} I8=>by
    have st8:tn (i+1) s8.heap:=T.keep _ _ _ tn5 λb t o e=>(I8.pin (b,o) (Sj _ (Sj _ (gZ t e)))).1
    have fr8:∀ b∈f,H8 b=none:=λb t=>by
     obtain⟨o,e,d⟩:=T.obj _ _ tn5 b t;exact(I8.pin (b,o) (Sj _ (Sj _ (gZ t e)))).2.1
    refine⟨?_,st8,fr8⟩;obtain⟨m8,hn8,_⟩:=id I8.loc;have J:=I8.unpinned;exact⟨J.ok,J.os,J.bare,J.base,⟨m8,hn8,λj y v e1 e2 _=>by
     obtain⟨m00,_,hm00⟩:=(I0 0).loc;obtain⟨u',r',l'⟩:=hm00 j y v e1 e2 (by
      obtain⟨_,_,_,_,_,z⟩:=L j y v e1 e2;exact .inr z)
     obtain⟨j',j1,j2,j3,jf,j4⟩:=L j y v e1 e2;rcases l' with ⟨k',_⟩|⟨k',c,ec,z⟩
     ·exfalso;have k'':(Ys a [] 0 X.env).kindOf y=Y .local:=k';rcases j4 with q|q<;>(rw[q] at k'';cases k'')
     ·have eo:X.env.cells.lookup y=Y c:=by
       rcases jx S ec with ⟨e,_⟩|⟨_,k2⟩
       ·exact e
       ·rw[jf] at k2;cases k2
      refine⟨u',r',.inr ⟨k',c,ec,?_⟩⟩;obtain⟨oc,hoc,hd⟩:=z;have hlt:c<s2.heap.objs.size:=by
       obtain⟨v',q⟩:=I.cell y c eo;exact q.lt
      have hoc2:s2.heap.get? c=Y oc:=by
       obtain⟨v',o',q',d'⟩:=I.cell y c eo;have e':=old c o' q';have hoc':h1.get? c=Y oc:=hoc;rw[e'] at hoc';cases hoc';exact q'
      have nfp:c∉f:=λz=>(f2 c z).2.2.2.2.1 y c eo rfl
      by_cases hfs:c∈Da X.stack
      ·obtain⟨sl,q⟩:=J.base.slot c oc hoc2 (I.freeC y c eo) hfs nfp;exact⟨_,q,hd⟩
      ·exact⟨oc,J.base.keep c oc hoc2 (I.freeC y c eo) hfs nfp,hd⟩⟩,J.cell,J.free,J.freeC,J.pin,J.hok,hlen⟩
   cases ok with
   |false=>
    obtain⟨m',hm,w8⟩:=q7;obtain⟨I8,st8,fr8⟩:=weak I7;exact⟨m',hm,i+1,ys,its,n,H7,I8,st8,fr8,rv,w8⟩
   |true=>
    have D7:QU (bU X N a (bD X a G.objs.size) G.objs.size s2 H2 f pins) (lP f s5.heap) s2.heap.objs.size:=by
     refine⟨hDC,.inr (R0 _),λx c e z=>?_,λp hp z=>?_⟩
     ·rcases jx S e with ⟨e,_⟩|⟨l,_⟩
      ·exact absurd (z▸F x c e) (Th _)
      ·exact absurd (Sv (VN _ 1) (big c l)) (by rw[z];exact Nat.not_succ_le_self _)
     ·rcases S8.mp hp with hp|hp
      ·exact absurd (z▸RX (I.pin p hp).1) (Th _)
      ·exact absurd (z▸B _ (rB hp).1) (Th _)
    refine TU (he G.objs.size _ (lP f s5.heap) s7 σ6 H7 ys its n _ I7 D7 rv q7) (λ_ s8 h8=>?_) λ_ _ z=>z
    obtain⟨σ8,H8,ys8,its8,n8,I8,rv8,m',hm,w8⟩:=h8;obtain⟨L1,L2',L3⟩:=weak I8;exact⟨m',hm,i+1,ys8,its8,n8,H8,L1,L2',L3,rv8,w8⟩
 exact codeAny_compStart_list (loop _ O O O (I0 _)) (T.self _ 0 _ _ _ st1 (loop _ O O O (I0 _)))
end
section
variable {X:Cx}{pos:Pos}
def Nu (d:TI)(g:TG)(f:TT)(tb:TB)(h:L2.St->L2.St):TE:=λa H Q=>d a H λJ e=>El J g f tb (h a) (λc b=>∀ D,b D=none->Q (.ref D) (upd b D (.lst c))) e
theorem Gz {N:List Str}{fh:List WN}{a:Xy}{B F d:U2}{r:List U2}{wi:TI}{g:TG}{tt:TT}{tb:TB}{L:L2.St->L2.St} (hc:X.calm=true) (hi:WI X F d wi) (S:CF X a) (u:∀ n,n.length=X.N.length->vw X a N n (L n)/\(L n).length=N.length)
  (hg:∀ C j k f i,WG (bU X N a (bD X a C) C j k f i) F g)(M:∀ C j k f i,Mj (bU X N a (bD X a C) C j k f i) r tt)(he:∀ C j k f i,WB (bU X N a (bD X a C) C j k f i) B (⟨F,d,r,0⟩::fh) a pos 0 tb)
  (hs:∀ x,Ur d X.env x=pure x:=by intro _;rfl):WE X (.ListComp B (⟨F,d,r,0⟩::fh) a pos) (Nu wi g tt tb L):=by
 have hi:=hi.go;have hg:=λC j k f i=>(hg C j k f i).go
 have M:=λC j k f i=>(M C j k f i).go
 have he:=λC j k f i=>(he C j k f i).go
 refine⟨?_⟩;intro A s n H Q I h;rw[eval_ListComp];refine WM (use:=none) O hs (wZ S.free) S.kind (λy hy e=>by rw[S.once y hy,e]) ?_;refine cu (hi A s n H _ I h) λv s1 h1=>cu h1 λitv s2 h2=>?_
 obtain⟨it,f,tn,J,H2,rfl,t,T,st2,f2,hw⟩:=h2;have E:=u n t.len;refine tI hc t S E.1 E.2 f2 T st2 (λC=>hg C _ _ _ _) (λC=>M C _ _ _ _) (λC=>he C _ _ _ _) hw ?_;intro D C s' H' ys I' hD fin hm hC G l;obtain⟨m,hn⟩:=hm;refine⟨m,hn,λh' hs'=>⟨.ref D,_,?_,O,fin D hD⟩⟩;exact I'.turned (it:=C) (t':=s'.toks) (λb o hb e=>hs'.extBut b o hb e) (by rw[ar (U9 G)];exact hC) (λz=>absurd (z▸t.lt) (Ue.mpr l)) (.inr (Sv t.sz l))
  (λx c e z=>by
   obtain⟨v',q⟩:=t.cell x c e;exact absurd (z▸q.lt) (Ue.mpr l))
  (λp hp z=>absurd (z▸RX (t.pin p hp).1) (Ue.mpr l))
end
section
variable {X:Cx}{pins:List (Sd×Obj)}{σ:L2.St}{H H2:Hp}{s s2:RZ}
theorem vy {N:List Str}{a:Xy}{o t k:U2}{e:List U2}{pos:Pos}{it:Sd}{f:List Sd}{v:Nat->Uc->Prop}{J:It}{g:TG}{z:TT}{q:TE}{d:L2.St}{Fin:List V->Hp->Prop}
  {E:RV->RZ->Prop}{B:RV->Sd->Result->RZ->Prop}(hc:X.calm=true)(I:aK X pins σ H2 s2)(S:CF X a)
  (j:vw X a N σ d)(n:d.length=N.length)(G:∀ b∈f,ql X pins H2 b)(T:yc X.prog X.w X.K t J f it v)(r:v 0 s2.heap)
  (hg:∀ C,PG (bU X N a (bD X a C) C s2 H2 f pins) t g)(ht:∀ C,QK (bU X N a (bD X a C) C s2 H2 f pins) e z)(he:∀ C,PE (bU X N a (bD X a C) C s2 H2 f pins) o q)(hw:ix J g z q d Fin H2)
  (s:∀ (D C:Sd) (u:RZ) (H':Hp) (ys:List V),aK X pins σ (upd H' D (.lst ys)) u->H' D=none->Fin ys H'->(∃ m,u.heap.Ns C m)->H' C=none->D≠C->s2.heap.objs.size<=C->B (.ref D) C (.ok .next) u):
  Sb (SD X.prog X.w) X.A (newList []) (λacc l=>Sb (SD X.prog X.w) X.A (YF a X.env.globals (yH X.env.cells a.names []) [] X.env.qual none .none (Y X.env)) (λc p=>
   Vc (SD X.prog X.w) X.A (.compStart (.ListComp o [⟨t,k,e,0⟩] a pos) 0 (.ref it) acc { c with scope:=relabel a X.env }) (B acc c.locals) p) E l) E s2:=by
 obtain⟨W,Q,mI⟩:=hw;refine tI (fh:=[]) (tb:=EY q) hc I S j n G T r hg ht (λC=>E_ rfl rfl (he C)) ⟨W,Q,λi m ys H w=>?_⟩ s;rcases mI i m ys H w with h|⟨M,L,F⟩
 ·exact .inl h
 ·refine .inr ⟨M,λx H3 y=>?_⟩;have:=F x H3 y
  simpa only [EY,L,true_and] using this
end
section
variable {X:Cx}{pos:Pos}
def Hk (d:TI)(g:TG)(f:TT)(h:TE)(i:L2.St->L2.St):TE:=λa H Q=>d a H λJ e=>ix J g f h (i a) (λc b=>∀ D,b D=none->Q (.ref D) (upd b D (.lst c))) e
theorem JK (hc:X.calm=true) (hi:WI X tg iter wi) (S:CF X scope) (r:∀ k,k.length=X.N.length->vw X scope N k (mk k)/\(mk k).length=N.length)
  (F:∀ C f i a d,WG (bU X N scope (bD X scope C) C f i a d) tg g)(G:∀ C f i a d,Mj (bU X N scope (bD X scope C) C f i a d) ifs tt)(he:∀ C f i a d,WE (bU X N scope (bD X scope C) C f i a d) elt te)
  (hs:∀ x,Ur iter X.env x=pure x:=by intro _;rfl):WE X (.ListComp elt [⟨tg,iter,ifs,0⟩] scope pos) (Hk wi g tt te mk):=by
 have hi:=hi.go;have F:=λC f i a d=>(F C f i a d).go
 have G:=λC f i a d=>(G C f i a d).go
 have he:=λC f i a d=>(he C f i a d).go
 refine⟨?_⟩;intro t s k H Q I h;rw[eval_ListComp];refine WM (use:=none) O hs (wZ S.free) S.kind (λy hy e=>by rw[S.once y hy,e]) ?_;refine cu (hi t s k H _ I h) λv s1 h1=>cu h1 λL s2 h2=>?_
 obtain⟨it,a,tn,J,H2,rfl,l,T,E,f2,hw⟩:=h2;have n:=r k l.len;refine vy hc l S n.1 n.2 f2 T E (λC=>F C _ _ _ _) (λC=>G C _ _ _ _) (λC=>he C _ _ _ _) hw ?_;intro D C s' H' ys I' hD A hm hC u j;obtain⟨m,M⟩:=hm;refine⟨m,M,λh' B=>⟨.ref D,_,?_,O,A D hD⟩⟩;exact I'.turned (it:=C) (t':=s'.toks) (λb o hb e=>B.extBut b o hb e) (by rw[ar (U9 u)];exact hC) (λz=>absurd (z▸l.lt) (Ue.mpr j)) (.inr (Sv l.sz j))
  (λx c e z=>by
   obtain⟨v',q⟩:=l.cell x c e;exact absurd (z▸q.lt) (Ue.mpr j))
  (λp hp z=>absurd (z▸RX (l.pin p hp).1) (Ue.mpr j))
end
section
variable {X:Cx}{pos:Pos}
def Iz (i:Nat)(d:TI)(g:TG)(f:TT)(h:TE)(j:L2.St->L2.St):TS:=λE a H=>d a H λJ e=>ix J g f h (j a) (λc b=>∀ D,b D=none->E.nx (a.set i (Y (.ref D))) (upd b D (.lst c))) e
theorem CK (hc:X.calm=true) (hN:X.N.Nodup) (hi':X.N[i]?=Y y) (M:X.env.scope.names.lookup y=Y .local)
  (hi:WI X tg iter wi)(S:CF X scope)(B:∀ r,r.length=X.N.length->vw X scope N r (mk r)/\(mk r).length=N.length)
  (hg:∀ C k l d j,WG (bU X N scope (bD X scope C) C k l d j) tg g)(ht:∀ C k l d j,Mj (bU X N scope (bD X scope C) C k l d j) ifs tt)(he:∀ C k l d j,WE (bU X N scope (bD X scope C) C k l d j) elt te)
  (hsw:YX (.ListComp elt [⟨tg,iter,ifs,0⟩] scope pos) (Y (.Name y py)) spos.line X.env=pure true:=by rfl)
  (hs:∀ x,Ur iter X.env x=pure x:=by intro _;rfl):WS X (.Assign [.Name y py] (.ListComp elt [⟨tg,iter,ifs,0⟩] scope pos) spos) (Iz i wi g tt te mk):=by
 have hi:=hi.go;have hg:=λC k l d j=>(hg C k l d j).go
 have ht:=λC k l d j=>(ht C k l d j).go
 have he:=λC k l d j=>(he C k l d j).go
 refine⟨?_⟩;intro n s r H E I h;rw[exec_Assign_Name_used _ _ _ _ hsw];refine HD (Vi (HD ?_));show Sb _ X.A (do let _ <- comprehension (.ListComp elt [⟨tg,iter,ifs,0⟩] scope pos) scope X.env _ (newList []) false (V1 iter X.env) (Y (assign (.Name y py) X.env))) _ _ s;refine HD (TU (WM (use:=Y (assign (.Name y py) X.env)) (Q:=λ_ L=>SP X n E .next L) O hs (wZ S.free) S.kind (λy M e=>by rw[S.once y M,e]) ?_) (λ_ L hq=>RT (RT hq)) λ_ _ e=>e);refine cu (hi n s r H _ I h) λv s1 h1=>cu h1 λitv s2 h2=>?_
 obtain⟨it,d,tn,J,H2,rfl,t,T,st2,f2,hw⟩:=h2;have G:=B r t.len;refine vy hc t S G.1 G.2 f2 T st2 (λC=>hg C _ _ _ _) (λC=>ht C _ _ _ _) (λC=>he C _ _ _ _) hw ?_;intro D C L H' ys I' hD fin hm hC hDC f;obtain⟨m,hn⟩:=hm;have F:X.env.locals≠C:=λz=>absurd (z▸t.lt) (Ue.mpr f)
 have upC:(upd H' D (.lst ys)) C=none:=by rw[ar (U9 hDC)];exact hC
 show Sb _ X.A (assign (.Name y py) X.env (.ref D)) _ _ L;refine wpAny_assign_Name (zq I' hN hi' (.inl M) (v:=.ref D) (u:=.ref D) O (λs3 I3 zz0=>?_) (.inr M));obtain⟨a,sb,ha⟩:=zz0;have aC:C≠a:=by
  rcases ha with e|e
  ·rw[e];exact U9 F
  ·intro z;obtain⟨v',q⟩:=t.cell y a e;exact absurd (z▸q.lt) (Ue.mpr f)
 refine⟨m,hn.sameBut sb aC,λh' hs'=>⟨_,_,?_,fin D hD⟩⟩;exact I3.turned (it:=C) (t':=s3.toks) (λb o hb e=>hs'.extBut b o hb e) upC (U9 F) (.inr (Sv t.sz f))
  (λx c e z=>by
   obtain⟨v',q⟩:=t.cell x c e;exact absurd (z▸q.lt) (Ue.mpr f))
  (λp hp z=>absurd (z▸RX (t.pin p hp).1) (Ue.mpr f))
end
end TR
namespace L2
open PySem PySem.Spec PyProof.Rows
section
variable {κ:Type}[DecidableEq κ]
def oO (kvs:List (κ×V))(k:κ):Option V:=(kvs.find? λa=>decide (a.1=k)).map (·.2)
def qy (kvs:List (κ×V))(k:κ)(v:V):List (κ×V):=
 if(kvs.any λa=>decide (a.1=k))=true then kvs.map (λa=>if a.1=k then(a.1,v) else a) else kvs++[(k,v)]
theorem q_ {p:κ×V}{r:List (κ×V)}{k:κ}(e:p.1=k):oO (p::r) k=Y p.2:=by simp[oO,U8,e]
theorem nE {p:κ×V}{r:List (κ×V)}{k:κ}(e:¬ p.1=k):oO (p::r) k=oO r k:=by simp[oO,U8,e]
theorem wT (k:κ):∀ kvs:List (κ×V),(kvs.any λa=>decide (a.1=k))=(oO kvs k).isSome
 |[]=>rfl
 |p::r=>by
  rw[aao]
  by_cases e:p.1=k
  ·simp only[q_ e,R8 e,Bool.true_or,aar]
  ·rw[nE e,Td e,Bool.false_or];exact wT k r
theorem tT (kvs:List (κ×V))(k:κ)(v:V):(qy kvs k v).length<=kvs.length+1:=by
 unfold qy
 split
 ·rw[R5];lia
 ·rw[SB,TL,WZ];lia
theorem Iq {kvs:List (κ×V)}{k:κ}(v:V)(h:oO kvs k=none):qy kvs k v=kvs++[(k,v)]:=by
 unfold qy;rw[wT,h];exact Sx Z
theorem mw.isSome_eq (r:mw o u):o.isSome=u.isSome:=by
 cases o with
 |none=>cases u with
  |none=>rfl
  |some _=>exact(show False from r).elim
 |some _=>cases u with
  |none=>exact(show False from r).elim
  |some _=>rfl
theorem mw.getD (r:mw o u)(a:bJ d d'):bJ (o.getD d) (u.getD d'):=by
 cases o with
 |none=>cases u with
  |none=>exact a
  |some _=>exact(show False from r).elim
 |some _=>cases u with
  |none=>exact(show False from r).elim
  |some _=>exact r
theorem KV.val {kvs:List (κ×V)}{vs:List (κ×RV)}(r:KV kvs vs)(k:κ):mw (oO kvs k) (aaW vs k):=by
 unfold KV at r
 induction r with
 |nil=>exact True.intro
 |@cons p q i c h t g=>
  obtain⟨d,f⟩:=h
  by_cases e:p.1=k
  ·have a:q.1=k:=d.symm.trans e;have b:aaW (q::c) k=Y q.2:=by simp[aaW,U8,a]
   rw[q_ e,b];exact f
  ·have a:¬ q.1=k:=λz=>e (d.trans z)
   have b:aaW (q::c) k=aaW c k:=by simp[aaW,U8,a]
   rw[nE e,b];exact g
theorem KV.any (r:KV kvs vs)(k:κ):(kvs.any λa=>decide (a.1=k))=vs.any λa=>decide (a.1=k):=by
 unfold KV at r
 induction r with
 |nil=>rfl
 |cons h t b=>rw[aao,aao,b,h.1]
theorem KV.repl (r:KV kvs vs) (k:κ) (f:bJ y u) :
  KV (kvs.map λa=>if a.1=k then(a.1,y) else a) (vs.map λa=>if a.1=k then(a.1,u) else a):=by
 unfold KV at r ⊢
 induction r with
 |nil=>exact .nil
 |@cons p q i g h t d=>
  rw[Sy,Sy];refine .cons ?_ d;obtain⟨b,c⟩:=h
  by_cases e:p.1=k
  ·rw[SO e,SO (b.symm.trans e)];exact⟨b,f⟩
  ·rw[Sx e,Sx (λz=>e (b.trans z))];exact⟨b,c⟩
theorem KV.put (r:KV kvs vs)(k:κ)(a:bJ y u):KV (qy kvs k y) (stored vs k u):=by
 unfold qy stored;rw[r.any k]
 by_cases e:(vs.any λb=>decide (b.1=k))=true
 ·rw[SO e,SO e];exact r.repl k a
 ·rw[Sx e,Sx e];exact Paired.snoc r ⟨O,a⟩
theorem KV.length (r:KV kvs vs):kvs.length=vs.length:=aas r
end
theorem Fl (r:bJ (kV k) u):(ck P w).is k u=true:=by
 cases k with
 |inl i=>obtain⟨t,e⟩:=(show ∃ t,u=VO i t from r);subst e;exact By P w i t
 |inr x=>obtain⟨t,e⟩:=(show ∃ t,u=YU x t from r);subst e;exact Bz P w x t
theorem yY:∀ {ks:List iB}{us:List RV},aU (ks.map kV) us->ItemsAre (ck P w) ks us
 |[],_,r=>by rw[VD] at r;cases r;exact .nil
 |k::ks,_,r=>by
  rw[Sy] at r;cases r with
  |cons h t=>exact .cons (Fl h) (yY t)
abbrev KT (H:Hp):List (List iB×V)->List (List iB×Sd×RV)->Prop:=Yp λp q=>p.1=q.1/\H q.2.1=Y (.tup (p.1.map kV))/\bJ p.2 q.2.2
theorem KT.val {H:Hp}{kvs:List (List iB×V)}{xs:List (List iB×Sd×RV)}(r:KT H kvs xs)(k:List iB):mw (oO kvs k) ((atKey xs k).map (·.2)):=by
 induction r with
 |nil=>exact True.intro
 |@cons p q i c h t f=>
  obtain⟨d,_,g⟩:=h
  by_cases e:p.1=k
  ·have a:q.1=k:=d.symm.trans e;have b:atKey (q::c) k=Y q.2:=by simp[atKey,U8,a]
   rw[q_ e,b];exact g
  ·have a:¬ q.1=k:=λz=>e (d.trans z)
   have b:atKey (q::c) k=atKey c k:=by simp[atKey,U8,a]
   rw[nE e,b];exact f
theorem KT.repl (r:KT H kvs xs) (k:List iB) (g:bJ y u) :
  KT H (kvs.map λb=>if b.1=k then(b.1,y) else b) (xs.map (putAt k u)):=by
 induction r with
 |nil=>exact .nil
 |@cons p q j i h t d=>
  rw[Sy,Sy];refine .cons ?_ d;obtain⟨a,c,f⟩:=h;unfold putAt
  by_cases e:p.1=k
  ·rw[SO e,SO (a.symm.trans e)];exact⟨a,c,g⟩
  ·rw[Sx e,Sx (λz=>e (a.trans z))];exact⟨a,c,f⟩
theorem KT.put (r:KT H kvs xs) (k:List iB) (c:H b=Y (.tup (k.map kV))) (a:bJ y u) :
  KT H (qy kvs k y) (storedH xs k b u):=by
 have e:(kvs.any λd=>decide (d.1=k))=(atKey xs k).isSome:=by
  rw[wT,(r.val k).isSome_eq,Option.isSome_map]
 unfold qy storedH;rw[e]
 by_cases q:(atKey xs k).isSome=true
 ·rw[SO q,SO q];exact r.repl k a
 ·rw[Sx q,Sx q];exact Paired.snoc r ⟨O,c,a⟩
theorem KT.keeps (r:KT H kvs xs)(a:∀ b ys,H b=Y (.tup ys)->H' b=Y (.tup ys)):KT H' kvs xs:=
 Paired.mapP r λ_ _ z=>⟨z.1,a _ _ z.2.1,z.2.2⟩
section
variable {P:SA}{w:Te}{H:Hp}{h:Uc}{a:Sd}
theorem Mn (ok:qA P w H h)(e:Rd H a u):cq P w H h a u:=e.ok ok
theorem Ca (ok:qA P w H h)(e:Rd H a (.dK kvs)):kvs.length<=Sk/\(a==Ua)=false/\∃ vs,KV kvs vs/\h.DictOf (ck P w) a vs:=
 show cq P w H h a (.dK kvs) from Mn ok e
theorem Po (ok:qA P w H h)(e:H a=Y (.dK kvs)):kvs.length<=Sk/\(a==Ua)=false/\∃ vs,KV kvs vs/\h.DictOf (ck P w) a vs:=Ca ok (.inl e)
theorem xO (ok:qA P w H h)(e:H a=Y (.tup (ks.map kV))):(VP (ck P w)).is h ks a:=by
 obtain⟨_,b,r,o,c,f,n,d⟩:=(show cq P w H h a (.tup (ks.map kV)) from ok a _ e)
 exact⟨o,b.toArray,n,c,f,d,by simpa using yY r⟩
theorem qO (ok:qA P w H h) (e:Rd H a (.dT kvs)):kvs.length <= Sk/\(a == Ua)=false /\
  ∃ xs,KT H kvs xs/\h.DictOfH (VP (ck P w)) a xs:=by
 obtain⟨z,y,xs,r,o,c,k,g,n,d,f,j⟩:=(show cq P w H h a (.dT kvs) from Mn ok e)
 refine⟨z,y,xs,r,o,c,k,g,n,d,f,λx b=>?_,j⟩;have all:∀ {l:List (List iB×V)}{m:List (List iB×Sd×RV)},KT H l m->∀ x∈m,(VP (ck P w)).is h x.1 x.2.1:=by
  intro l m q
  induction q with
  |nil=>intro x b;exact nomatch b
  |@cons p q s u hq t i=>
   intro x b;rcases R'.mp b with e|b
   ·subst e;exact xO ok (by rw[<- hq.1];exact hq.2.1)
   ·exact i x b
 exact all r x b
theorem P2 (ok:qA P w H h) (e:H a=Y (.dT kvs)):kvs.length <= Sk/\(a == Ua)=false /\
  ∃ xs,KT H kvs xs/\h.DictOfH (VP (ck P w)) a xs:=qO ok (.inl e)
end
def ud (H:Hp)(a:Sd)(y:V)(r:Option V):Prop:=
 (∃ c k,Rd H a (.dK c)/\y=kV k/\r=oO c k)\/∃ c k b,Rd H a (.dT c)/\y=.ref b/\H b=Y (.tup (k.map kV))/\r=oO c k
def FD (H:Hp)(a:Sd)(y v:V)(H':Hp):Prop:=
 (∃ c k,H a=Y (.dK c)/\y=kV k/\c.length<Sk/\H'=upd H a (.dK (qy c k v))) \/
 ∃ c k b,H a=Y (.dT c)/\y=.ref b/\H b=Y (.tup (k.map kV))/\c.length<Sk/\H'=upd H a (.dT (qy c k v))
theorem ud.t {H:Hp}{a b:Sd}{kvs:List (List iB×V)}{k:List iB}(e:H a=Y (.dT kvs))(c:H b=Y (.tup (k.map kV))):ud H a (.ref b) (oO kvs k):=.inr ⟨kvs,k,b,.inl e,O,c,O⟩
theorem FD.t {H:Hp}{a b:Sd}{kvs:List (List iB × V)}{k:List iB}{v:V} (e:H a=Y (.dT kvs)) (d:H b=Y (.tup (k.map kV))) (c:kvs.length < Sk) :
  FD H a (.ref b) v (upd H a (.dT (qy kvs k v))):=.inr ⟨kvs,k,b,e,O,d,c,O⟩
section
variable {X:Cx}{pins:List (Sd×Obj)}{σ:St}{H:Hp}{s:RZ}{a:Sd}{y v:V}{u r:RV}{o:Option V}{A:Tf}{E:RV->RZ->Prop}
theorem aK.big (I:aK X pins σ H s):Ua<s.heap.objs.size:=by
 have h:R1<s.heap.objs.size:=(I.mod.glob.keeps I.bk).lt;exact V' Z h
theorem GH (C:A.units + 1 < cLine) (I:aK X pins σ H s) (g:ud H a y (Y v)) (r:bJ y u) (h:∀ f q,aK X pins σ H q->bJ v f->Q f q) :
  Sb (SD X.prog X.w) A (abl (.ref a) u) Q E s:=by
 rcases g with ⟨j,k,e,m,l⟩|⟨j,k,b,e,m,t,l⟩
 ·subst m;obtain⟨z,x,vs,d,n⟩:=Ca I.hok e;obtain⟨f,hw,c⟩:=mw.some_of (v:=v) (o:=aaW vs k) (by rw[l];exact d.val k);exact wpAny_getItem_of (Fl r) n.mapOf hw (h f _ (I.tok _) c)
 ·subst m;cases(show u=SC b from r);obtain⟨z,x,D,d,n⟩:=qO I.hok e;obtain⟨f,hw,c⟩:=mw.some_of (v:=v) (o:=(atKey D k).map (·.2)) (by rw[l];exact d.val k);obtain⟨p,B,i⟩:=So.mp hw;refine wpAny_getItem_heap (Yt C) (xO I.hok t) n B ?_;rw[i];exact h f _ (I.tok _) c
theorem EL (I:aK X pins σ H s) (d:O9 (H a)) (f:S_ a s.heap h') (he:∃ q,h'.get? a=Y q) (new:cq X.prog X.w (upd H a ob) h' a ob) :
  aK X pins σ (upd H a ob) { s with heap:=h',toks:=t' }:=
 I.write (x:=a) (e:=a) d (.inl rfl) (λb q c z=>(f.2 b c).trans z) he new
theorem Nh (z:kvs.length <= Sk) (d:(a == Ua)=false) (b:KV kvs vs) (c:h'.DictOf (ck P w) a vs) :
  cq P w H' h' a (.dK kvs):=⟨z,d,vs,b,c⟩
theorem GC (hu:A.units + 1 < cLine) (I:aK X pins σ H s) (g:FD H a y v H') (J:bJ y u) (F:bJ v r) (h:∀ G,aK X pins σ H' G->Q () G) :
  Sb (SD X.prog X.w) A (setItem (.ref a) u r) Q E s:=by
 rcases g with ⟨d,k,e,n,l,t⟩|⟨d,k,b,e,n,C,l,t⟩
 ·subst n t;obtain⟨z,o,vs,f,p⟩:=Po I.hok e;have m:vs.length<=Sk:=by rw[<- f.length];exact z
  have j:(qy d k v).length<=Sk:=by have:=tT d k v;lia
  refine wpAny_setItem_pairs (hsz:=m) (Fl J) p λD i x=>h _ ?_
  have B:∃ q,D.get? a=Y q:=let ⟨q,_,_,hq,_⟩:=i;⟨q,hq⟩
  exact EL I (by rw[e];exact True.intro) x B (Nh j o (f.put k F) i)
 ·subst n t;cases(show u=SC b from J);obtain⟨z,o,xs,f,p⟩:=P2 I.hok e;have m:xs.length<=Sk:=by rw[<- aas f];exact z
  have j:(qy d k v).length<=Sk:=by have:=tT d k v;lia
  refine wpAny_setItem_heap (hsz:=m) (Yt hu) (xO I.hok C) p λD i x=>h _ ?_
  obtain⟨q,L,ep,hq,h2,M,N,_,T⟩:=i;refine EL I (by rw[e];exact True.intro) x ⟨q,hq⟩ ⟨j,o,_,(f.put k C F).keeps λc ys B=>?_,q,L,ep,hq,h2,M,N,T⟩;rw[ar (LX B e (λz=>nomatch z))];exact B
end
def OF (i:U2):Prop:=∀ ov a,subscripted i false ov a=operate [ov,a] (abl ov a)
theorem Km {prog:SA}{w:Te}{A:Tf}{E:RV->RZ->Prop}{s:RZ}{env:Env}{b a:U2}{pos:Pos}{T id:String}{Q:RV->RZ->Prop}
  (m:ZR (.type T) "__getitem__"=pure (Y (.builtin id)))(n:OF a)
  (h:Sb (SD prog w) A (V1 b env) (λo e=>Sb (SD prog w) A (V1 a env) (λi c=>c.TypeIs o T/\Sb (SD prog w) A (abl o i) Q E c) E e) E s):
  Sb (SD prog w) A (V1 (.Subscript b a pos) env) Q E s:=by
 refine aaT (TU h (λo e j=>TU j (λi c d=>?_) λ_ _ x=>x) λ_ _ x=>x);obtain⟨l,d⟩:=d;unfold aaC;refine HD ?_;rw[getitemInPython_of_ne l.not_modules];refine HD (We l m ?_);have g:Sb (SD prog w) A (subscripted a false o i) (λr f=>Sb (SD prog w) A (letTemporaryGo b o r>>=λ_=>pure r) Q E f) E c:=by
  rw[n o i];exact wpAny_operating (TU d (λr f k=>HD (wpAny_letTemporaryGo (RT k))) λ_ _ x=>x)
 first
  |exact RT (HD g)
  |exact HD (RT (HD g))
  |exact HD g
theorem BB (I:aK X pins σ H s)(g:ud H a y o):s.TypeIs (.ref a) "dict":=by
 rcases g with ⟨d,k,e,_,_⟩|⟨d,k,b,e,_,_,_⟩
 ·obtain⟨_,_,vs,_,c⟩:=Ca I.hok e;exact c.typeIs
 ·obtain⟨_,_,f,_,c⟩:=qO I.hok e;exact c.typeIs
def O1 (d ty:TE):TE:=λb H Q=>d b H λx e=>ty b e λy c=>∃ a v,x=.ref a/\ud c a y (Y v)/\Q v c
def OG (d ty e:TE):TS:=λD b H=>e b H λv f=>d b f λx g=>ty b g λy h=>∃ a c,x=.ref a/\FD h a y v c/\D.nx b c
section
variable {X:Cx}{o i e value:U2}{pos pos' tpos:Pos}{td ty tv:TE}
theorem u9 (B:X.A.units+1<cLine)(f:WE X o td)(hi:WE X i ty)(D:OF i):WE X (.Subscript o i pos) (O1 td ty):=by
 have f:=f.go;have hi:=hi.go;refine⟨?_⟩;intro b s j H Q I h;refine Km PySem.F.slot_dict_getitem.lookup D (cu (f b s j H _ I h) λu z e=>?_);obtain⟨x,m,t,n,r⟩:=e;refine cu (hi b z j m _ t r) λG s2 c=>?_;obtain⟨y,l,k,E,a,v,p,g,C⟩:=c;subst p;obtain rfl:u=SC a:=n;exact⟨BB k g,GH B k g E λL J q d=>⟨v,l,q,d,C⟩⟩
theorem C0 (F:X.A.units + 1 < cLine) (k:WE X o td) (hi:WE X i ty) (j:WE X value tv) (N:YX value (Y (.Subscript o i pos')) pos.line X.env=pure false) :
  WS X (.Assign [.Subscript o i pos'] value pos) (OG td ty tv):=by
 have k:=k.go;have hi:=hi.go;have j:=j.go;refine⟨?_⟩;intro b s c H D I h;refine wpAny_Assign_Subscript (cu (j b s c H _ I h) λr E f=>?_) N;obtain⟨v,n,C,G,B⟩:=f;refine cu (k b E c n _ C B) λu s2 d=>?_;obtain⟨x,l,J,p,L⟩:=d;refine cu (hi b s2 c l _ J L) λT s3 e=>?_;obtain⟨y,H3,z,Q,a,M,q,g,t⟩:=e;subst q;obtain rfl:u=SC a:=p;exact GC F z g Q G λs4 m=>⟨c,M,m,t⟩
end
theorem JB (h:Uc)(a:Ua<h.objs.size):cq P w H (h.push { cls:=.type "dict",data:=.dict #[] }) h.objs.size (.dT []):=
 ⟨Tn _,UK.mpr (U9 (Si a)),[],.nil,_,#[],0,RW _ O,⟨O,O,O⟩,O,O,Yz⟩
def MR:TE:=λ_ H Q=>∀ p,H p=none->Q (.ref p) (upd H p (.dT []))
section
variable {X:Cx}{pos:Pos}
theorem zd:WE X (.Dict [] [] pos) MR:=by
 exact⟨λb s c H Q I h=>
 wpAny_Dict_empty ⟨.ref s.heap.objs.size,_,I.laid (a:=s.heap.objs.size) (o:=.dT []) (t':=s.toks) (λ_ _ q=>RS _ q) (R0 _) (JB s.heap I.big),O,h _ (I.hok.fresh (R0 _))⟩⟩
end
structure M2 (X:Cx)(o:U2)(m:Str)(apos:Pos)(e f:U2)(cpos:Pos):Prop where
 base:XT o m X.env (V1 o X.env)=V1 o X.env
 few:((VY cpos (Ss [e,f] X.env)).all (λx=>!x.1)&&(UV cpos (TQ [] X.env)).all (λx=>x.1.isSome)
  &&decide (([e,f]:List U2).length+([]:List XC).length+(if([]:List XC).isEmpty then 0 else 1)<30))=true
 line:(apos.endLine==cpos.line)=true
 trees:VY cpos (Ss [e,f] X.env)=[(false,V1 e X.env),(false,V1 f X.env)]
def ax (H:Hp)(a:Sd):Prop:=(∃ b,Rd H a (.dK b))\/∃ b,Rd H a (.dT b)
theorem Ng (I:aK X pins σ H s) (d:ax H a) :
  s.TypeIs (.ref a) "dict"/\(∀ b,SC a=.ref b->∃ ob,s.heap.get? b=Y ob/\ob.dict=none)/\(a==Ua)=false:=by
 rcases d with ⟨i,e⟩|⟨i,e⟩
 ·obtain⟨_,g,vs,_,c⟩:=Ca I.hok e;refine⟨c.typeIs,λb q=>?_,g⟩;cases q;obtain⟨ob,_,_,f,h,_⟩:=c;exact⟨ob,f,h.2.1⟩
 ·obtain⟨_,g,j,_,c⟩:=qO I.hok e;refine⟨c.typeIs,λb q=>?_,g⟩;cases q;obtain⟨ob,_,_,f,h,_⟩:=c;exact⟨ob,f,h.2.1⟩
section
variable {X:Cx}{pins:List (Sd×Obj)}{σ:St}{H:Hp}{s:RZ}{a:Sd}{y d:V}{u r:RV}{o:Option V}{A:Tf}{E:RV->RZ->Prop}
theorem MM (x:A.units + 1 < cLine) (I:aK X pins σ H s) (g:ud H a y o) (t:bJ y u) (n:bJ d r) (h:∀ p q,aK X pins σ H q->bJ (o.getD d) p->Q p q) :
  Sb (SD X.prog X.w) A (call (.builtin "dict.get") [.ref a,u,r]) Q E s:=by
 rcases g with ⟨i,k,e,j,l⟩|⟨i,k,b,e,j,v,l⟩
 ·subst j;obtain⟨z,m,vs,c,f⟩:=Ca I.hok e;refine ZH Xw f.typeIs Zm (Y4 _ _ _) (meets_dict_get_default (ck X.prog X.w) a (Fl t) m r) ⟨_,f.mapOf,h _ _ (I.tok _) ?_⟩;rw[l];exact(c.val k).getD n
 ·subst j;cases(show u=SC b from t);obtain⟨z,m,B,c,f⟩:=qO I.hok e;refine ZH Xw f.typeIs Zm (Y4 _ _ _) (meetsH_dict_get_default (VP (ck X.prog X.w)) a b m r) ⟨Yt x,k,B,xO I.hok v,f,h _ _ (I.tok _) ?_⟩;rw[l];exact(c.val k).getD n
end
def Nz (e ty g:TE):TE:=λb H Q=>e b H λx c=>∃ a,x=.ref a/\ax c a/\ty b c λy f=>g b f λz d=>∃ o,ud d a y o/\Q (o.getD z) d
section
variable {X:Cx}{o e f:U2}{apos cpos:Pos}{td ty tx:TE}
theorem GN (M:X.A.units+1<cLine)(k:WE X o td)(he:WE X e ty)(l:WE X f tx)(m:M2 X o "get" apos e f cpos):WE X (.Call (.Attribute o "get" apos) [e,f] [] cpos) (Nz td ty tx):=by
 have k:=k.go;have he:=he.go;have l:=l.go;refine⟨?_⟩;intro b s j H Q I h;refine wpAny_Call_method m.base m.few m.line Y5 Xw PySem.F.type_dict_get (cu (k b s j H _ I h) λu J i=>?_);obtain⟨x,r,n,t,a,v,d,E⟩:=i;subst v;obtain rfl:u=SC a:=t;obtain⟨L,D,_⟩:=Ng n d;refine⟨L,D,?_⟩;rw[m.trees];refine W9 rfl (ZV (VT (cu (he b J j r _ n E) λiv s2 ⟨y,p,N,ry,T⟩=>
  VT (cu (l b s2 j p _ N T) λfv s3 ⟨z,H3,C,G,ov,g,B⟩=>Xb ?_))))
 exact MM M C g ry G λw' s4 q c=>⟨_,H3,q,c,B⟩
end
end L2
namespace PySem
section
variable {prog:SA}{w:Te}{K:Type}[DecidableEq K]{knd:HeapKind prog w K}{A:Tf}{E:RV->RZ->Prop}{s:RZ}
theorem ue (knd:HeapKind prog w K) (d:Sd) (c:(d == Ua)=false) :
  MeetsIn prog w (Va.«dict.__len__» ⟨[.ref d],[]⟩) (λ_ R s=>∃ xs,s.heap.DictOfH knd d xs/\R (.ok (.ret (.int xs.length s.toks))) { s with toks:=s.toks+1 }):=
 .of_wp λA R s ⟨xs,e,h⟩=>by
  obtain⟨o,i,l,f,k,a,b,j,g⟩:=e;show Sb _ _ (dictSize d>>=_) _ _ s;unfold dictSize;refine HD (HD (Ub f a (RT ?_)));show Sb _ _ (Builtin.Dict.pendingCount d>>=_) _ _ s;refine HD (wpAny_pendingCount_other c ?_);refine wpAny_ret_mkInt ?_;rw[SV,ZK b];exact h
theorem Ft {d:Sd}{xs:List (K × Sd × RV)}{Q:RV->RZ->Prop} (f:(d == Ua)=false) (b:s.heap.DictOfH knd d xs) (c:(xs.length:Int) < 2 ^ 63)
  (h:Q (.int xs.length (s.toks+1)) { s with toks:=s.toks+1+1 }):Sb (SD prog w) A (Va.«len» ⟨[.ref d],[]⟩) (λa e=>∃ r,a=.done (.ret r)/\Q r e) E s:=by
 unfold Va.«len»;refine HD (m:=oneArg "len" _) (RT ?_);refine HD (m:=callSpecial? (.ref d) (TJ "__len__")) (SI (name:=TJ "__len__") b.typeIs F.slot_dict_len
  (ZH F.slot_dict_len b.typeIs F.entry_dict_len (F.args_dict_len_1 _) (ue knd d f) ⟨xs,b,?_⟩))
 show Sb _ _ _ _ _ { s with toks:=s.toks+1 };refine HD (TC (RT ?_));refine HD (Wd ?_);show Sb _ _ (if((xs.length:Nat):Int)<0 then _ else _) _ _ _;rw[Sx zyA];show Sb _ _ (if((xs.length:Nat):Int)>=2^63 then _ else _) _ _ _;rw[Sx zyA];exact HD (wpAny_mkInt (RT ⟨_,O,h⟩))
theorem GD (c:(d == Ua)=false) (b:s.heap.DictOfH knd d xs) (a:(xs.length:Int) < 2 ^ 63)
  (h:Q (.int xs.length (s.toks+1)) { s with toks:=s.toks+1+1 }):Sb (SD prog w) A (call (.builtin "len") [.ref d]) Q E s:=
 Yu kind_len plain_len entry_len (args_len1 _) (Ft c b a h)
theorem t5:∀ (l:List Uv) (h:Int),(l.map (·.hash)).Nodup->(l.filter (·.hash==h)).length<=1
 |[],_,_=>Tn _
 |e::r,h,b=>by
  rw[Sy,Ui] at b;rw[List.filter_cons]
  by_cases q:(e.hash==h)=true
  ·rw[SO q];have f:e.hash=h:=by simpa using q
   have z:r.filter (·.hash==h)=[]:=List.filter_eq_nil_iff.mpr λa d y=>b.1 (by
    have c:a.hash=h:=by simpa using y
    rw[f,<- c];exact Ta.mpr ⟨a,d,O⟩)
   rw[z];exact R0 _
  ·rw[Sx q];exact t5 r h b.2
theorem Eg {id:String}{d:Sd}{o:Obj}{es:Array Uv}{ep:Nat}{Q:Array Uv->RZ->Prop} (n:s.heap.get? d=Y o) (k:o.data=.dict es ep)
  (m:∀ e∈es.toList,∃ a,e.key=.ref a/\s.TypeIs (.ref a) "tuple")(j:(es.toList.map (·.hash)).Nodup)(h:Q es s):Sb (SD prog w) A (XO id d) Q E s:=by
 unfold XO;refine HD (Ub n k ?_);refine HD ?_;rw[<- Yi];refine wpAny_forIn_list _ (λfh _ f=>f=s/\∀ e∈fh,e∈es.toList) _ ?_ ?_ _ _ ⟨O,λe q=>q⟩
 ·rintro e fh b f ⟨rfl,g⟩;obtain⟨a,i,l⟩:=m e (g e Sz);have p:¬ (es.filter (·.hash==e.hash)).size>1:=by
   have z:=t5 es.toList e.hash j;have t:(es.filter (·.hash==e.hash)).size=(es.toList.filter (·.hash==e.hash)).length:=by
    rw[<- T2,Array.toList_filter]
   lia
  have q:Sb (SD prog w) A (ZU e.key) (λr c=>r=false/\c=f) E f:=by
   rw[i];unfold ZU;exact HD (We l F.slot_tuple_eq.lookup (RT ⟨Z,O⟩))
  refine HD (TU q (λr c hq=>?_) λ_ _ z=>z);obtain⟨rfl,rfl⟩:=hq;rw[SO Z,Sx p];exact RT ⟨O,λe q=>g e (R_ _ q)⟩
 ·rintro b f ⟨rfl,_⟩;exact RT h
theorem Ic (t:d ≠ o) (m:(o == Ua)=false) (H:s.heap.DictOfH knd d []) (ho:s.heap.DictOfH knd o xs)
  (I:∀ x∈xs,s.TypeIs (.ref x.2.1) "tuple")(hh:(xs.map λx=>knd.hash x.1).Nodup)(hsz:xs.length<=Sk)(h:xs≠[])
  (M:∀ h',h'.DictOfH knd d xs->S_ d s.heap h'->Q () { s with heap:=h' }):Sb (SD prog w) A (Zf nm d o) Q E s:=by
 obtain⟨od,D,n,f,p,c,l,L,N⟩:=id H;obtain⟨oo,a,T,i,G,g,b,F,v⟩:=id ho;have J:D=#[]:=by
  have z:=ZK l;exact Array.eq_empty_of_size_eq_zero z
 subst J;have k:a.size=xs.length:=ZK b;unfold Zf;rw[Sx (by simpa using t)];unfold V4;rw[Sx (by rw[m];exact Tg)];refine HD (RT ?_);refine HD (Ub i g ?_);dsimp only;cases xs with
 |nil=>exact absurd rfl h
 |cons x r=>
  have j:(decide (a.size<=8)&&a.all λe=>(keyPart e.key).isSome)=false:=by
   have z:(a.all λe=>(keyPart e.key).isSome)=false:=by
    rw[<- Array.all_toList,b,Sy,XR];rfl
   rw[z,Bool.and_false]
  rw[j,SO Z];refine HD (Ub f c ?_);rw[SO Z];refine HD (Eg i g (λe q=>?_) ?_ ?_)
  ·rw[b] at q;obtain⟨y,C,rfl⟩:=Ta.mp q;exact⟨_,O,I y C⟩
  ·rw[b,V9];exact hh
  ·have u:¬ a.isEmpty=true:=λz=>by
    rw[Array.isEmpty_iff.mp z] at k;cases k
   rw[SO (by simpa using u)];have B:a.size<=Sk+1:=zyA
   refine HD (wpAny_updateDictKeysTo f c (RT (M _ ⟨_,_,n+1,SK _ f (Obj.isFreed_of_dict (Z4 c _)),p.mapDictKeys _,
    Z4 c _,b,λy C=>knd.keeps (F y C) f c (SH ..),v⟩ (SH ..))) B)
theorem KN (k:(o == Ua)=false) (p:s.heap.DictOfH knd o xs) (hsz:xs.length <= Sk) (g:xs ≠ [])
  (y:∀ x∈xs,s.TypeIs (.ref x.2.1) "tuple")(hh:(xs.map λx=>knd.hash x.1).Nodup)(f:∀ x∈xs,knd.is (s.heap.push { cls:=.type "dict",data:=.dict #[] }) x.1 x.2.1)
  (h:∀ h',h'.DictOfH knd s.heap.objs.size xs->S_ s.heap.objs.size (s.heap.push { cls:=.type "dict",data:=.dict #[] }) h'->Q (.ref s.heap.objs.size) { s with heap:=h' }):
  Sb (SD prog w) A (call (.type "dict") [.ref o]) Q E s:=by
 refine callType_codes (Q₁:=λi d=>i=.ref s.heap.objs.size/\d={ s with heap:=s.heap.push { cls:=.type "dict",data:=.dict #[] } }) F.kt_called_dict (F.kt_typeCall_dict_1 _) F.entry_dict_init (kt_code_dict_new _ ⟨O,O⟩) ?_;rintro i d ⟨rfl,rfl⟩;have a:(s.heap.push { cls:=.type "dict",data:=.dict #[] }).DictOfH knd s.heap.objs.size []:=Heap.DictOfH.new s.heap;have n:s.heap.objs.size≠o:=by
  obtain⟨_,_,_,C,_⟩:=p;exact λe=>absurd (RX C) (by rw[e];exact Th _)
 have b:(s.heap.push { cls:=.type "dict",data:=.dict #[] }).DictOfH knd o xs:=by
  obtain⟨j,r,B,v,D,t,u,G,z⟩:=p;exact⟨j,r,B,RS _ v,D,t,u,f,z⟩
 refine⟨a.typeIs,F.args_dict_init_2 _ _,?_⟩;unfold Va.«dict.__init__»;refine HD ?_;unfold Builtin.Dict.selfAndRest;refine HD (XA a.typeIs ?_);show Sb _ _ (pure (s.heap.objs.size,[SC o])) _ _ _;refine RT ?_;show Sb _ _ (Y0 "dict.__init__" s.heap.objs.size (.ref o) [] .none) _ _ _;unfold Y0;refine HD (ZM b.typeIs ?_);rw[Sx Z];refine HD ?_;unfold Builtin.Dict.merge;refine HD ?_;unfold Builtin.Dict.readDirectly;refine HD (U0 b.typeIs isSubtype_dict_dict ?_);simp only[Bool.not_true,Tc,UX];refine HD (We b.typeIs Zb.lookup (RT ?_));simp only[XI,VF];refine HD (RT ?_);refine Ic n k a b (λx q=>?_) hh hsz g λh' m l=>?_
 ·obtain⟨j,e,c⟩:=y x q;exact⟨j,RS _ e,c⟩
 show Sb _ _ (Builtin.Dict.addKeywords s.heap.objs.size []>>=_) _ _ _;exact HD (RT (RT ⟨O,h h' m l⟩))
end
end PySem
namespace TR
open PySem PySem.Spec PyProof.Rows L2
section
variable {X:Cx}
theorem FH:dP X (.builtin "len") (λxs H Q=>∃ p kvs,xs=[.ref p]/\Rd H p (.dT kvs)/\Q (.int kvs.length) H):=by
 intro b s k H xs j Q I r h;obtain⟨p,kvs,rfl,e,q⟩:=h;obtain⟨u,rfl,d⟩:=mh r;cases d;obtain⟨z,f,vs,a,g⟩:=qO I.hok e;have i:=rW;have c:kvs.length=vs.length:=a.length;exact GD f g zyA ⟨.int kvs.length,H,I.tok _,⟨_,by rw[c]⟩,q⟩
end
def Hc (kvs:List (List iB×V)):Prop:=∀ (P:SA) (w:Te),(kvs.map λa=>(VP (ck P w)).hash a.1).Nodup
section
variable {X:Cx}
theorem K9 (r:L2.KT H kvs xs) :
  (kvs.map λa=>(VP (ck P w)).hash a.1)=xs.map λx=>(VP (ck P w)).hash x.1:=by
 induction r with
 |nil=>rfl
 |cons h t b=>rw[Sy,Sy,b,h.1]
theorem KH (r:L2.KT H kvs xs):∀ x∈xs,H x.2.1=Y (.tup (x.1.map kV)):=by
 induction r with
 |nil=>intro x a;exact nomatch a
 |@cons p q d c h t b=>
  intro x a;rcases R'.mp a with rfl|a
  ·rw[<- h.1];exact h.2.1
  ·exact b x a
theorem Dm:dP X (.type "dict") (λxs H Q=>∃ p kvs,xs=[.ref p]/\Rd H p (.dT kvs)/\kvs≠[]/\Hc kvs/\∀ a,H a=none->Q (.ref a) (upd H a (.dT kvs))):=by
 intro l s σ H xs us Q I r h;obtain⟨p,kvs,rfl,e,i,E,q⟩:=h;obtain⟨u,rfl,B⟩:=mh r;cases B;obtain⟨z,C,vs,d,G⟩:=qO I.hok e;have k:kvs.length=vs.length:=d.length;have T:=KH d;have g:∀ x∈vs,(VP (ck X.prog X.w)).is s.heap x.1 x.2.1:=λx f=>xO I.hok (T x f)
 refine KN C G zyA (λA=>?_) (λx f=>(g x f).typeIs) (by rw[<- K9 d];exact E _ _) (λx f=>?_) λF D N=>?_
 ·rw[A] at k;exact i (List.length_eq_zero_iff.mp k)
 ·obtain⟨o,j,n,v,y,m,t⟩:=g x f;exact⟨o,j,n,RS _ v,y,m,t⟩
 ·have J:∀ b u,s.heap.get? b=Y u->F.get? b=Y u:=λb u e=>(N.2 b (Si (RX e))).trans (RS _ e)
  obtain⟨t,v,L,M,m,g3,g4,g5,y⟩:=D;have j:=I.hok.fresh (R0 s.heap.objs.size);refine⟨.ref s.heap.objs.size,_,I.laid (a:=s.heap.objs.size) (o:=.dT kvs) (t':=s.toks) J (R0 _) ⟨z,UK.mpr (U9 (Si I.big)),vs,?_,t,v,L,M,m,g3,g4,y⟩,O,q _ j⟩;exact Paired.mapP d λa b c=>⟨c.1,by rw[ar (aS c.2.1 j)];exact c.2.1,c.2.2⟩
end
def c5 (t:Nat×Nat×Nat):List iB:=[.inl (t.1:Int),.inl (t.2.1:Int),.inl (t.2.2:Int)]
def aI (k:Nat):List (Nat×Nat×Nat):=(UH k).flatMap λa=>(UH k).flatMap λb=>(UH k).map λc=>(a,b,c)
def vE (t:Nat×Nat×Nat):Int:=reduceHash (Builtin.Tuple.tupleHashOf [hashInt (t.1:Int),hashInt (t.2.1:Int),hashInt (t.2.2:Int)])
theorem HY (P:SA)(w:Te)(t:Nat×Nat×Nat):(VP (ck P w)).hash (c5 t)=vE t:=by
 show tupleKeyHash (ck P w) (c5 t)=vE t;unfold tupleKeyHash c5 vE;simp only[Sy,VD];rfl
set_option maxRecDepth 1000000 in
theorem K2:((aI 7).map vE).Nodup:=zyC
theorem Mh:∀ {l:List α},(l.map f).Nodup->∀ {a b:α},a∈l->b∈l->f a=f b->a=b
 |[],_,_,_,h,_,_=>nomatch h
 |x::r,g,a,b,d,c,e=>by
  rw[Sy,Ui] at g;rcases R'.mp d with j|d
  ·rcases R'.mp c with i|c
   ·rw[j,i]
   ·exact absurd (Ta.mpr ⟨b,c,by rw[<- e,j]⟩) g.1
  ·rcases R'.mp c with i|c
   ·exact absurd (Ta.mpr ⟨a,d,by rw[e,i]⟩) g.1
   ·exact Mh g.2 d c e
theorem bA:t∈aI k↔t.1<k/\t.2.1<k/\t.2.2<k:=by
 obtain⟨a,b,c⟩:=t;unfold aI;simp only[VM,Ta,U4,Prod.mk.injEq];constructor
 ·rintro⟨x,d,y,f,z,e,rfl,rfl,rfl⟩;exact⟨d,f,e⟩
 ·rintro⟨d,f,e⟩;exact⟨a,d,b,f,c,e,O,O,O⟩
theorem GK (b:t∈aI 7)(a:u∈aI 7)(e:vE t=vE u):t=u:=Mh K2 b a e
theorem Jr {h:List iB->Int}{g:Nat×Nat×Nat->Int}(a:∀ t,h (c5 t)=g t):∀ {kvs:List (List iB×V)}{ts:List (Nat×Nat×Nat)},kvs.map (·.1)=ts.map c5->(kvs.map λc=>h c.1)=ts.map g
 |[],[],_=>rfl
 |[],_::_,e=>nomatch e
 |_::_,[],e=>nomatch e
 |p::r,t::q,e=>by
  rw[Sy,Sy] at e;injection e with d b
  rw[Sy,Sy,Jr a b,d,a]
theorem C4 {g:Nat×Nat×Nat->Int}{l:List (Nat×Nat×Nat)}(d:∀ {t u},t∈l->u∈l->g t=g u->t=u):∀ {ts:List (Nat×Nat×Nat)},ts.Nodup->(∀ t∈ts,t∈l)->(ts.map g).Nodup
 |[],_,_=>Yz
 |t::r,b,c=>by
  rw[Ui] at b;rw[Sy,Ui];refine⟨λz=>?_,C4 d b.2 λu a=>c u (R_ _ a)⟩;obtain⟨u,a,e⟩:=Ta.mp z;have:=d (c u (R_ _ a)) (c t Sz) e;exact b.1 (this▸a)
theorem KD {h:List iB->Int}{g:Nat × Nat × Nat->Int}{l:List (Nat × Nat × Nat)} (c:∀ t,h (c5 t)=g t) (e:∀ {t u},t ∈ l->u ∈ l->g t=g u->t=u) {kvs:List (List iB × V)}{ts:List (Nat × Nat × Nat)}
  (f:kvs.map (·.1)=ts.map c5)(a:ts.Nodup)(b:∀ t∈ts,t∈l):(kvs.map λd=>h d.1).Nodup:=by
 rw[Jr c f];exact C4 e a b
theorem Bv {kvs:List (List iB×V)}{ts:List (Nat×Nat×Nat)}(c:kvs.map (·.1)=ts.map c5)(a:ts.Nodup)(b:∀ t∈ts,t∈aI 7):Hc kvs:=
 λP w=>KD (h:=(VP (ck P w)).hash) (g:=vE) (l:=aI 7) (HY P w) GK c a b
end TR
namespace PySem
def Heap.RawD (h:Uc)(d:Sd)(es:Array Uv)(ep:Nat):Prop:=∃ o,h.get? d=Y o/\o.ExactDict/\o.data=.dict es ep
section
variable {prog:SA}{w:Te}{A:Tf}{E:RV->RZ->Prop}{s:RZ}{d v:Sd}{es:Array Uv}{ep:Nat}
theorem Heap.RawD.typeIs (a:s.heap.RawD d es ep):s.TypeIs (.ref d) "dict":=by obtain⟨o,b,c,_⟩:=a;exact⟨o,b,c.1⟩
theorem Heap.RawD.of {K:Type}[DecidableEq K]{knd:HeapKind prog w K}{xs:List (K×Sd×RV)}(f:s.heap.DictOfH knd d xs):∃ es ep,s.heap.RawD d es ep/\es.toList=xs.map (entryOfKey knd):=by
 obtain⟨o,es,ep,c,b,e,a,_⟩:=f;exact⟨es,ep,⟨o,c,b,e⟩,a⟩
theorem Gi (d:Sd) (a:(d == Ua)=false) :
  MeetsIn prog w (Va.«dict.items» ⟨[.ref d],[]⟩) (λ_ R s=>(∃ es ep,s.heap.RawD d es ep) /\
   R (.ok (.ret (.ref s.heap.objs.size))) { s with heap:=s.heap.push { cls:=.type "dict_items",data:=.fields #[.ref d] } }):=
 .of_wp λA R s ⟨⟨es,ep,b⟩,h⟩=>by
  unfold Va.«dict.items» Builtin.Dict.noArgs;refine HD (HD (XA b.typeIs (RT ?_)));unfold V4;rw[Sx (by rw[a];exact Tg)];exact HD (RT (HD (Tj (RT ⟨_,O,h⟩))))
theorem JF (f:s.heap.IsItemsView v d) (h:s.heap.RawD d es ep)
  (j:Q (.ref s.heap.objs.size) { s with heap:=s.heap.push { cls:=.type "dict_itemiterator",data:=.fields #[.none,.bool false,.ref d,.int 0 0,.int es.size 0,.int ep 0,.none,.none] } }):
  Sb (SD prog w) A (Z8 (.ref v)) Q E s:=by
 obtain⟨ov,c,i,e⟩:=id f;obtain⟨o,g,k,a⟩:=id h;refine Xn f.typeIs Zj (SZ Zj f.typeIs F.entry_dict_items_iter ?_ (F.args_dict_items_iter_1 _));unfold Va.«dict_items.__iter__» abn aaY;refine HD (RT (HD (HD (S' c e (x:=.ref d) O (RT ?_)))));refine HD (HD (Ub g a (HD (Wc g a ?_))));have b:Ut "dict_itemiterator"=true:=Z
 simp only[b,VF];refine Tj (RT ⟨_,O,"dict_itemiterator",_,⟨_,RW _ O,O⟩,Uk.lookup,?_⟩)
  (by simp only[sizeOk,Wv,Su,SB,TL,WZ,Uo];lia)
 simpa [UD,Wv] using j
end
section
variable {prog:SA}{w:Te}{A:Tf}{E:RV->RZ->Prop}{s:RZ}{d it:Sd}{es:Array Uv}{i ep:Nat}{ok ov:RV}
theorem LU (hh:A.handled=none) (c:Xf s.heap it d i es.size ep ok ov) (n:s.heap.RawD d es ep) (j:es.size <= i)
  (k:∀ h',Xd it s.heap h'->Q none { s with heap:=h' }):Sb (SD prog w) A (U_ (.ref it)) Q E s:=by
 obtain⟨o,f,l,g⟩:=id n;have e:s.TypeIs (.ref it) "dict_itemiterator":=⟨_,c,O⟩
 have h:Ut "dict_itemiterator"=true:=Z
 unfold U_;refine HD (UA (SI (name:=TJ "__next__") e Uk
  (SZ Uk e Xr ?_ (Xc _))))
 refine HD (RT (HD (HD ?_)))
 first|refine HD (US e (RT ?_))|refine HD (Vo e (RT ?_))
 refine HD (Wp c rfl ?_);simp only[h,VF];show Sb _ _ (if(SC d==Tv)=true then _ else _) _ _ s;rw[Sx (show ¬ ((SC d==Tv)=true) from Tg)];refine HD (RT (HD (Ub f g ?_)));rw[Sx zyB];refine HD (RT (HD (Wc f g ?_)));rw[Sx zyB];refine RT ?_;simp only[show ¬ ((i:Int)<0) from by lia,UX,SQ,Ze j];refine HD ?_
 first|refine HD (US e (RT ?_))|refine HD (Vo e (RT ?_))
 show Sb _ _ (aaB (.ref it) 2 .none>>=_) _ _ s;refine HD (UN c rfl zyB ?_);show Sb _ _ (abm (.type "StopIteration") []>>=_) _ _ _;refine HD ?_;simp only[abm,newTuple];refine HD (Tj ?_ (by size_fits));refine HD (m:=Vn _ _) (Za (a:=Tv) (by first|rfl|(simp only[Vn];rfl)) ?_);refine Tj ?_ (by size_fits);simp only[raiseNew];refine HD (Y_ ?_);rw[show A.in1.handled=none from hh];refine HD (RT (aai ?_));refine HD (U0 (T:="StopIteration") (b:=true) ⟨_,RW _ O,O⟩ Wo ?_);exact RT (k _ (((SH ..).extBut.push _).push _))
theorem Ib (J:Xf s.heap it d i es.size ep ok ov) (hm:s.heap.RawD d es ep) (hx:es[i]?=Y e)
  (hQ:∀ h',aan h' it d (i+1) es.size ep e.key e.val s.heap.objs.size->h'.get? s.heap.objs.size=Y { cls:=.type "tuple",data:=.seq #[e.key,e.val] }->h'.objs.size=s.heap.objs.size+1 ->
   (∀ b o,b≠it->s.heap.get? b=Y o->h'.get? b=Y o)->Q (Y (.ref s.heap.objs.size)) { s with heap:=h' }):Sb (SD prog w) A (U_ (.ref it)) Q E s:=by
 obtain⟨G,g,M,tk,os⟩:=s;obtain⟨od,N,hcd,hdd⟩:=id hm;have L:aav ⟨G,g,M,tk,os⟩ (.ref it) "dict_itemiterator":=⟨_,J,O⟩
 have T:Ut "dict_itemiterator"=true:=Z
 unfold U_;refine HD (UA (SI (name:=TJ "__next__") L Uk
  (SZ Uk L Xr ?_ (Xc _))))
 refine HD (RT (HD (HD ?_)))
 first|refine HD (US L (RT ?_))|refine HD (Vo L (RT ?_))
 refine HD (Wp J rfl ?_);simp only[T,VF];show Sb _ _ (if(SC d==Tv)=true then _ else _) _ _ _;rw[Sx (show ¬ ((SC d==Tv)=true) from Tg)];refine HD (RT (HD (Ub N hdd ?_)));rw[Sx zyB];refine HD (RT (HD (Wc N hdd ?_)));rw[Sx zyB];refine RT ?_;simp only[show ¬ ((i:Int)<0) from by lia,UX,SQ,hx];refine HD ?_
 first|refine HD (US L (RT ?_))|refine HD (Vo L (RT ?_))
 refine HD (Xa L ?_);show Sb _ _ (aaB (.ref it) 3 (UD ((i:Int)+1))>>=_) _ _ ⟨G,g,M,tk,os⟩;refine HD (SU J zyB λa h c=>?_);replace c:S_ it G a:=c;replace h:Xf a it d (i+1) es.size ep ok ov:=by
  have e:((i+1:Nat):Int)=(i:Int)+1:=zyA
  unfold Xf;rw[e];simpa [UD] using h
 have t:aav ⟨a,g,M,tk,os⟩ (.ref it) "dict_itemiterator":=⟨_,h,O⟩
 refine HD (TC (HD (Xa t (HD (Xa t ?_)))));show Sb _ _ (W7 (.ref it) 6 e.key e.val) _ _ ⟨a,g,M,tk,os⟩;unfold W7;refine HD (Xp ?_);have l:a.objs.size=G.objs.size:=c.1;have hil:it<G.objs.size:=RX J;have up:∀ b o,b≠it->G.get? b=Y o->(a.push { cls:=.type "tuple",data:=.seq #[e.key,e.val] }).get? b=Y o:=λb o I q=>RS _ (c.extBut b o I q)
 have f:Xf (a.push { cls:=.type "tuple",data:=.seq #[e.key,e.val] }) it d (i+1) es.size ep ok ov:=RS _ h;have C:(a.push { cls:=.type "tuple",data:=.seq #[e.key,e.val] }).get? G.objs.size=Y { cls:=.type "tuple",data:=.seq #[e.key,e.val] }:=by rw[<- l];exact RW _ O
 have z:(a.push { cls:=.type "tuple",data:=.seq #[e.key,e.val] }).objs.size=G.objs.size+1:=by rw[SR,l]
 rw[l];generalize a.push { cls:=.type "tuple",data:=.seq #[e.key,e.val] }=F at up f C z ⊢;show Sb _ _ (Ww (.ref it)>>=_) _ _ ⟨F,g,M,tk,os⟩;clear h c t l a;refine HD ?_;unfold Ww;refine HD (S' f rfl (x:=.none) O (RT ?_));simp only[VF];refine HD (S' f rfl (x:=ok) O (HD (S' f rfl (x:=ov) O ?_)));refine HD (SU f zyB λD y j=>?_);replace j:S_ it F D:=j;replace y:Xf D it d (i+1) es.size ep e.key ov:=y;refine HD (SU y zyB λH v m=>?_);replace m:S_ it D H:=m;replace v:Xf H it d (i+1) es.size ep e.key e.val:=v;refine HD (SU v zyB λB r k=>?_);replace k:S_ it H B:=k;replace r:aan B it d (i+1) es.size ep e.key e.val G.objs.size:=r;refine HD (SU r zyB λp u n=>?_);replace n:S_ it B p:=n;replace u:aan p it d (i+1) es.size ep e.key e.val G.objs.size:=u;have all:∀ b o,b≠it->F.get? b=Y o->p.get? b=Y o:=λb o I q=>n.extBut b o I (k.extBut b o I (m.extBut b o I (j.extBut b o I q)))
 refine HD (Wd (RT (RT ⟨_,O,RT (hQ p u (all _ _ (SM hil) C) ?_ λb o I q=>all b o I (up b o I q))⟩)));show p.objs.size=G.objs.size+1;rw[n.1,k.1,m.1,j.1,z]
end
end PySem
namespace TR
open PySem PySem.Spec PyProof.Rows L2
section
variable {X:Cx}{pins:List (Sd×Obj)}{σ:L2.St}{H:Hp}{s:RZ}{d:Sd}{u u':HO}
theorem BY (I:aK X pins σ H s)(e:H d=Y u)(h:∀ xs,u≠.tup xs)(no:∀ x,u≠.own x)(g:∀ f,u≠.tbl f)(l:∀ o w,X.H₀ d≠Y (.frz o w))(new:cq X.prog X.w (upd H d u') s.heap d u'):aK X pins σ (upd H d u') s:=by
 have ne:∀ b,H b=none->b≠d:=λb z q=>by rw[q,e] at z;cases z
 have a:∀ b,H b=none->upd H d u' b=none:=λb z=>by rw[ar (ne b z)];exact z
 refine⟨I.ok,I.os,I.bare,⟨I.base.keep,I.base.slot,λb o q n j=>a b (I.base.free b o q n j),I.base.there,λb xs q=>?_,λb o w q=>?_,λb f q=>?_⟩,I.loc,I.cell,a _ I.free,λx c q=>a _ (I.freeC x c q),λp r=>?_,λb o q=>?_,I.len⟩
 ·have z:=I.base.tups b xs q;rw[ar (λk=>h xs (by rw[k,e] at z;exact RU z))];exact z
 ·have z:=I.base.frzs b o w q;rw[ar (λk=>l o w (by rw[<- k];exact q))];exact z
 ·obtain⟨more,z⟩:=I.base.tbls b f q;exact⟨more,by rw[ar (λk=>g _ (by rw[k,e] at z;exact RU z))];exact z⟩
 ·obtain⟨i,m,t⟩:=I.pin p r;exact⟨i,a _ m,t⟩
 ·by_cases i:b=d
  ·subst i;rw[ag] at q;cases q;exact new
  ·rw[ar i] at q;refine(I.hok b o q).stay (λ_ _ _ z=>z) (λc z=>?_) λc xs z=>?_
   ·rw[ar (λk=>no b (by rw[k,e] at z;exact RU z))];exact z
   ·rw[ar (λk=>h xs (by rw[k,e] at z;exact RU z))];exact z
theorem vz (I:aK X pins σ H s)(e:H d=Y (.dT kvs)):∃ o,s.heap.get? d=Y o/\aK X pins σ (upd H d (.frz o (.dT kvs))) s:=by
 have ok:=I.hok d _ e;obtain⟨_,_,_,_,o,h,g,a,_⟩:=id ok;refine⟨o,a,BY I e (λ_ z=>nomatch z) (λ_ z=>nomatch z) (λ_ z=>nomatch z) (λb w z=>?_) ⟨a,?_⟩⟩
 ·have:=I.base.frzs d b w z;rw[e] at this;cases this
 ·exact(show cq X.prog X.w H s.heap d (.dT kvs) from ok).stay (λ_ _ _ z=>z) (λc z=>by
   by_cases k:c=d
   ·rw[k,e] at z;cases z
   ·rw[ar k];exact z) λc f z=>by
   by_cases k:c=d
   ·rw[k,e] at z;cases z
   ·rw[ar k];exact z
theorem vA (I:aK X pins σ H s)(e:H d=Y (.frz o (.dT kvs)))(a:∀ o w,X.H₀ d≠Y (.frz o w)):aK X pins σ (upd H d (.dT kvs)) s:=by
 have ok:=I.hok d _ e;obtain⟨_,ok⟩:=(show s.heap.get? d=Y o/\cq X.prog X.w H s.heap d (.dT kvs) from ok)
 refine BY I e (λ_ z=>nomatch z) (λ_ z=>nomatch z) (λ_ z=>nomatch z) a (ok.stay (λ_ _ _ z=>z) (λc z=>?_) λc b z=>?_)
 ·by_cases k:c=d
  ·rw[k,e] at z;cases z
  ·rw[ar k];exact z
 ·by_cases k:c=d
  ·rw[k,e] at z;cases z
  ·rw[ar k];exact z
end
section
variable {X:Cx}
def OQ (t:TE):TE:=λc H Q=>t c H λv b=>∃ d o a,H d=Y (.dT a)/\b d=Y (.frz o (.dT a))/\Q v (upd b d (.dT a))
theorem Jt (h:WE X e t):WE X e (OQ t):=by
 have h:=h.go;refine⟨?_⟩;intro a s k H Q I q;refine cu (h a s k H _ I q) λu n f=>?_
 obtain⟨v,m,l,g,d,o,c,i,b,j⟩:=f;exact⟨v,_,vA l b λo w z=>(by
  have:=I.base.frzs d o w z;rw[i] at this;cases this),g,j⟩
end
def Qw (d:Sd)(o:Obj)(kvs:List (List iB×V)):It:=
 ⟨λi H=>H d=Y (.frz o (.dT kvs))/\i<kvs.length,
  λi H v b=>∃ (k:List iB) (x:V) (a T:Sd),kvs[i]?=Y (k,x)/\H a=Y (.tup (k.map kV))/\H T=none/\v=.ref T/\b=upd H T (.tup [.ref a,x]),
  λi H=>H d=Y (.frz o (.dT kvs))/\kvs.length<=i⟩
theorem zG:∀ {c:List α}{d:List β}{i:Nat}{a:α},Yp F c d->c[i]?=Y a->∃ b,d[i]?=Y b/\F a b
 |_,_,_,_,.nil,e=>by simp at e
 |_,_,0,_,.cons r _,e=>by simp at e;subst e;exact⟨_,O,r⟩
 |_,_,i+1,x,.cons _ t,e=>by
  obtain⟨u,f,g⟩:=zG (i:=i) (a:=x) t (by simpa using e);exact⟨u,by simpa using f,g⟩
theorem uY (c:o.data=.dict es ep) (ok:cq P w H h d (.frz o (.dT kvs))) :
  h.RawD d es ep/\es.size=kvs.length/\∀ (i:Nat) (k:List iB) (x:V),kvs[i]?=Y (k,x)->∃ (e:Uv) (a:Sd) (u:RV),es[i]?=Y e/\e.key=.ref a/\e.val=u/\H a=Y (.tup (k.map kV))/\bJ x u:=by
 obtain⟨j,_,_,y,pr,v,p,m,b,s,f,g,_⟩:=ok;rw[j] at b;cases b;rw[c] at f;cases f;refine⟨⟨_,j,s,c⟩,?_,λi k x l=>?_⟩
 ·have z:=VZ aag g;rw[R5,T2] at z;rw[z];exact pr.length.symm
 ·obtain⟨⟨t,a,u⟩,r,A,n,q⟩:=zG pr l;refine⟨entryOfKey (VP (ck P w)) (t,a,u),a,u,?_,O,O,n,q⟩;rw[<- V2,g,Sc,r];rfl
theorem Eb {K:KE}{tk:Nat}{ep:Nat} (L:o.data=.dict es ep) :
  yc P w K (.Tuple elts tk pos) (Qw d o kvs) [it] it (λi h=>∃ ok ov,Xf h it d i es.size ep ok ov) where
 mem:=zyB
 obj:=λi h st b g=>by
  obtain⟨ok,ov,e⟩:=st;cases RY.mp g;exact⟨_,e,λv z=>nomatch z⟩
 keep:=λi h N st k=>by
  obtain⟨ok,ov,e⟩:=st;exact⟨ok,ov,k it zyB _ e⟩
 item:=by
  intro X A hw t Q i f s x H E I D st B;subst A hw t;obtain⟨ok,ov,c⟩:=st;obtain⟨n,r⟩:=B;obtain⟨j,y,p⟩:=uY L (I.hok d _ n);obtain⟨e,M,u,e1,T,e3,e4,e5⟩:=p i _ _ (Sf r);refine Ib c j e1 λN l hT hz kk=>⟨_,O,?_⟩
  refine wpAny_letOwnedTupleGo_items l λm z' G=>?_
  have C:it<s.heap.objs.size:=RX c;have J:s.heap.objs.size≠it:=SM C;have k2:∀ b o,b≠it->s.heap.get? b=Y o->m.get? b=Y o:=λb o g e=>G.extBut b o g (kk b o g e)
  have a:=D it zyB;have I1:aK X f x H { s with heap:=m }:=I.turned (it:=it) (t':=s.toks) k2 a.1 a.2.1 a.2.2.2.1 a.2.2.2.2.1 a.2.2.2.2.2;have q:m.get? s.heap.objs.size=Y { cls:=.type "tuple",data:=.seq #[e.key,e.val] }:=G.extBut _ _ J hT;have fT:H s.heap.objs.size=none:=I.hok.fresh (R0 _);have F:=I.fpOk (b:=s.heap.objs.size) (H':=H) (R0 _) fT;have I2:aK X f x (upd H s.heap.objs.size (.tup [.ref M,kvs[i].2])) { s with heap:=m }:=eh I1 fT I.sz F.2.1 F.2.2.2.2.1 F.2.2.2.2.2
   ⟨(Z:2<=Sk),[e.key,e.val],.cons (by rw[T];rfl) (.cons (by rw[e3];exact e5) .nil),⟨_,q,O,_,O⟩⟩
  exact⟨.ref s.heap.objs.size,_,I2,O,⟨kvs[i].1,kvs[i].2,M,s.heap.objs.size,Sf r,e4,fT,O,O⟩,⟨_,_,z'⟩,λb g=>by
   cases RY.mp g;rw[ar (U9 J)];exact a.1⟩
 done:=by
  intro X A hw t Q i f s x H E I D st B;subst A hw t;obtain⟨ok,ov,c⟩:=st;obtain⟨n,r⟩:=B;obtain⟨j,y,_⟩:=uY L (I.hok d _ n);have a:=D it zyB;exact LU (I.ok.hd Q) c j zyA λN ex=>⟨O,I.turned (it:=it) (t':=s.toks) (λb o g e=>ex b o g e) a.1 a.2.1 a.2.2.2.1 a.2.2.2.2.1 a.2.2.2.2.2⟩
 self:=λ_ _ _ _ _ st h=>by
  obtain⟨ok,ov,c⟩:=st;exact PySem.W.kcp_self c h
section
variable {X:Cx}
def MQ (to:TE):TI:=λc H R=>to c H λx b=>∃ d a,x=.ref d/\b d=Y (.dT a)/\∀ o,R (Qw d o a) (upd b d (.frz o (.dT a)))
theorem FX {tk:Nat} (y:WE X o to)
  (f:XT o "items" X.env (V1 o X.env)=V1 o X.env:=by rfl)(j:(apos.endLine==cpos.line)=true:=by rfl):WI X (.Tuple elts tk tpos) (.Call (.Attribute o "items" apos) [] [] cpos) (MQ to):=by
 have y:=y.go;refine⟨?_⟩;intro l s σ H R I h;refine wpAny_Call_method0_late f j (cu (y l s σ H _ I h) λv a r=>?_);obtain⟨x,H1,t,D,q1⟩:=r;obtain⟨d,p,rfl,n,q⟩:=q1;obtain⟨B,h2⟩:=JI (T:="dict") t D (.inr (.inr (.inl ⟨O,.inr ⟨p,n⟩⟩)));cases D;refine⟨"dict","dict.items",Y5,Y6,PySem.F.type_dict_items,B,h2,W9 rfl (PySem.evalArgs_none ?_)⟩;obtain⟨z,M,vs,rel,dd⟩:=qO t.hok (.inl n);obtain⟨A,G,i,hes⟩:=Heap.RawD.of dd;refine ZH Y6 B PySem.F.entry_dict_items (PySem.F.args_dict_items_1 _) (Gi d M) ⟨⟨A,G,i⟩,?_⟩;obtain⟨N,g1,I2⟩:=vz t n;obtain⟨C,k,_,L⟩:=id i;rw[g1] at k;cases k;have k1:∀ b u,a.heap.get? b=Y u->(a.heap.push { cls:=.type "dict_items",data:=.fields #[.ref d] }).get? b=Y u:=λb u e=>RS _ e
 have m:=I2.kept (t':=a.toks) k1;have c:(a.heap.push { cls:=.type "dict_items",data:=.fields #[.ref d] }).RawD d A G:=by
  obtain⟨C,J,Q,a3⟩:=i;exact⟨C,k1 _ _ J,Q,a3⟩
 have E:(a.heap.push { cls:=.type "dict_items",data:=.fields #[.ref d] }).IsItemsView a.heap.objs.size d:=⟨_,RW _ O,O,O⟩
 refine JF (s:={ a with heap:=a.heap.push { cls:=.type "dict_items",data:=.fields #[.ref d] } }) E c ?_;generalize a.heap.push { cls:=.type "dict_items",data:=.fields #[.ref d] }=g at m c E ⊢;refine⟨g.objs.size,[g.objs.size],_,_,_,O,m.kept (t':=a.toks) λb u e=>RS _ e,Eb L,⟨_,_,RW _ O⟩,λb hb=>?_,q N⟩;cases RY.mp hb;exact m.fpOk (R0 _) (m.hok.fresh (R0 _))
end
end TR
namespace TR
open PySem PySem.Spec PyProof.Rows
def wm (n:Nat):List Int:=(UH n).map λ(i:Nat)=>(i:Int)
theorem Dz (h:i<n):(wm n)[i]?=Y (i:Int):=by unfold wm;simp[h]
theorem km (n:Nat):(wm n).length=n:=by unfold wm;simp
theorem IU (d:vs.length=n)(h:∀ (i:Nat) (v:RV),vs[i]?=Y v->∃ t,v=VO (i:Int) t):Vu vs (wm n):=by
 have b:∀ (vs:List RV) (k:Nat),(∀ (i:Nat) (v:RV),vs[i]?=Y v->∃ t,v=VO ((k+i:Nat):Int) t)->Vu vs ((List.range' k vs.length).map λ(i:Nat)=>(i:Int)):=by
  intro vs
  induction vs with
  |nil=>intro k _;exact .nil
  |cons v vs f=>
   intro k h;obtain⟨t,e⟩:=h 0 v rfl;subst e;rw[TL,List.range'_succ,Sy];refine .cons _ t (f (k+1) λi v a=>?_);obtain⟨c,e⟩:=h (i+1) v (by simpa using a);exact⟨c,by rw[e];congr 1;lia⟩
 have:=b vs 0 λi v a=>by simpa using h i v a
 rw[<- List.range_eq_range',d] at this;exact this
section
variable {prog:SA}{w:Te}{A:Tf}{E:RV->RZ->Prop}{s:RZ}
theorem BI {n:Nat} (hh:A.handled=none) (m:IsRange s.heap r 0 n 1 t u v) (z:n <= 1000)
  (h:∀ vs h' g,Vu vs (wm n)->(∀ b o,s.heap.get? b=Y o->h'.get? b=Y o)->s.heap.objs.size<h'.objs.size->Q vs { s with heap:=h',toks:=g }):
  Sb (SD prog w) A (collect (.ref r)) Q E s:=by
 have k:∀ R:Result->RZ->Prop,(∀ h' g c j,(∀ b o,b ≠ s.heap.objs.size->(s.heap.push (WL "list" #[] 0)).get? b=Y o->h'.get? b=Y o)->h'.get? s.heap.objs.size=Y { cls:=.type "list",dict:=none,data:=.seq c j,slots:=#[] } ->
   ItemsOf (λi v=>∃ t,v=.int (0+i*1) t) c n->R (.ok (.ret (.ref s.heap.objs.size))) { s with heap:=h',toks:=g }) ->
   Vc (SD prog w) A (.builtin "list.__iadd__" ⟨[.ref s.heap.objs.size,.ref r],[]⟩) R { s with heap:=s.heap.push (WL "list" #[] 0) }:=λR q=>by
  refine UR entry_list_iadd' ?_;rw[UB YJ _];show Sb _ _ (TN (.ref s.heap.objs.size) (.ref r) (.ref s.heap.objs.size)) _ _ { s with heap:=s.heap.push (WL "list" #[] 0) };refine wpAny_extend_range (R:=R) (s:={ s with heap:=s.heap.push (WL "list" #[] 0) }) hh (RS _ m) (small_one (a:=0) (b:=n) zyA zyA zyA zyA) (n:=n) ?_ zyA s.heap.objs.size _ 0 (RW _ O) λh' g c j l f d=>q h' g c j l f d
  rw[aay]
  split<;>lia
 unfold collect;refine HD (Z9 (UR entry_proto_collect' ?_));show Sb _ _ (do again (.builtin "list.__iadd__" ⟨[<- newList [],.ref r],[]⟩)) _ _ s;refine HD (aaD (RT ⟨aak _ zyC,k _ fun h' g c j l f d=>?_⟩));show Sb (SD prog w) A (do
   let o <- load s.heap.objs.size
   match o.data with
   |.seq y _=>pure y.toList
   |_=>unsupported "internal:collect") Q E { s with heap:=h',toks:=g }
 refine HD (wpAny_load f (RT (h _ _ _ (IU (by rw[T2];exact d.1) λi v x=>?_) (λb o e=>l b o (Si (RX e)) (RS _ e)) (RX f))));obtain⟨p,e⟩:=d.2 i v (by rw[<- V2];exact x);exact⟨p,by rw[e];congr 1;lia⟩
theorem Eh {n:Nat}
  (hh:A.handled=none)(F:Fr h₀ L s.heap m)(N:News h₀ L s.heap news)(hr:IsRange s.heap r 0 n 1 t u v)(hl:n<64)(hlen:kz.length=n)
  (I:abj "sorted" ⟨[.ref r],kw⟩)(z:∀ x,abj "list.sort" ⟨[.ref x],kw⟩)(ht:∀ x,Va.«list.sort» ⟨[.ref x],kw⟩=ksk_tree x f b)
  (mI:∀ (i:Nat) (k:Int) (t:Tok),i<n->kz[i]?=Y k->∀ (h:Uc) (a:Nat) (own:List (Sd×Obj)),Fr h₀ L h m->News h₀ L h (news++own) ->
   Sb (SD prog w) A.in1.in1 (call f [.int i t]) (KskEnd h₀ L m (news++own) k { s with heap:=h,toks:=a }) (λ_ _=>False) { s with heap:=h,toks:=a })
  (h:∀ D h' a out c vs,Vu vs (wm n)->Fr h₀ L h' m->News h₀ L h' ((D,WL "list" out c)::news)->s.heap.objs.size<=D->KskOut b kz vs out.toList->Q (.ref D) { s with heap:=h',toks:=a }):
  Sb (SD prog w) A (call (.builtin "sorted") [.ref r] kw) Q E s:=by
 refine call_function_entry_kw kind_sorted plain_sorted entry_sorted I ?_;unfold Va.«sorted»;refine HD (m:=checkCount "sorted" 1 1 _) (RT ?_);refine HD (BI (show A.in1.handled=none from hh) hr zyA λvs g a G kk B=>?_);have J:vs.length=n:=by rw[G.length,km]
 refine HD (aaD ?_ (by rw[Uo];lia));have hL:L<s.heap.objs.size:=F.ns.lt;have l:s.heap.objs.size<=g.objs.size:=TH B;have d:(g.push (WL "list" vs.toArray 0)).get? g.objs.size=Y (WL "list" vs.toArray 0):=RW _ O;have keep:∀ b o,s.heap.get? b=Y o->(g.push (WL "list" vs.toArray 0)).get? b=Y o:=λb o q=>RS _ (kk b o q)
 have j:L<g.objs.size:=(F.kept kk).ns.lt;show Sb _ _ _ _ _ { s with heap:=g.push (WL "list" vs.toArray 0),toks:=a };refine HD (TC (wpAny_call_entry_kw slot_list_sort ⟨_,d,O⟩ entry_list_sort ?body (z _)))
 case body=>
  have C:=ht g.objs.size;show Sb (SD prog w) A.in1.in1 (Va.«list.sort» ⟨[.ref g.objs.size],kw⟩) _ _ _;rw[C];refine ksk_sort (s:={ s with heap:=g.push (WL "list" vs.toArray 0),toks:=a }) (kz:=kz)
   (F.kept keep) (N.grown keep) d (SM j) (ZX (Sv F.above (TH j)))
   (λp hp=>Si (R6 (RX (N p hp).1) l)) zyA zyA (λi v k H hk h a own T M=>?_) λh' a out c T M k'=>⟨_,O,?_⟩
  ·have y:i<n:=by rw[<- J];exact(R9.mp H).1
   obtain⟨t',e⟩:=G.get i _ (Dz y);rw[e] at H;cases H;exact mI i k t' y hk h a own T M
  ·exact RT ⟨_,O,h _ h' a out c vs G T M l k'⟩
abbrev Iu (c e g:Str)(a:Arguments)(h j f:Pos)(b:Xy)(i:List (Str×Sd))(k cd d:RV):Uw:=
 Z7 "<lambda>" c a (.Subscript (.Name e h) (.Name g j) f) b i k cd d
theorem IR {i:Nat}{k:Int}
  (m:s.heap.NoLimit)(c:A.depth<recursionLimit)(ho:s.heap.get? f=Y { cls:=.type "function",data:=.func (Iu qual far kn params pf pk pp scope cl pm (.ref c') ctv) })(F:s.heap.CodeRec (.ref c') qual)
  (g:∀ u,T_ (Iu qual far kn params pf pk pp scope cl pm (.ref c') ctv) ⟨[u],[]⟩=pure [(kn,u)])
  (B:scope.isCoroutine=false)(j:scope.isGenerator=false)(L:scope.kind=.function)(C:∀ x∈scope.names,x.2≠.cell)(r:scope.names.lookup kn=Y .local)(J:scope.names.lookup far=Y .free)
  (I:(far==("__debug__":Str))=false)(G:(kn==("__debug__":Str))=false)(D:(far==("__classdict__":Str))=false)
  (z:cl.lookup far=Y cf)(d:s.heap.IsCell cf (Y (.ref l)))(M:s.heap.IsList l vs.toArray)(hi:Vu vs ns)(y:ns[i]?=Y k)(T:ns.length<=1000)
  (h:∀ h' tk t',(∀ b o,s.heap.get? b=Y o->h'.get? b=Y o)->Q (.int k t') { s with heap:=h',toks:=tk }):
  Sb (SD prog w) A (call (.ref f) [.int i t]) Q E s:=by
 refine XW (PySem.W.kla_callFunE c ho rfl B j rfl F ?_);rw[g];refine RT (wpAny_newFunctionEnv C (λx y=>?_) (λn H p=>⟨m.fresh _ p,PySem.W.kla_codeExpr ?_⟩) L)
 ·cases RY.mp y;exact r
 have a:∀ b o,s.heap.get? b=Y o->n.get? b=Y o:=λb o e=>p.extBut b o (Si (RX e)) (RS _ e)
 have N:i<ns.length:=(R9.mp y).1;refine aaT ?_;refine ZS (wpAny_loadName_free L ?_ z (d.keeps a) ?_ D) I
 ·exact J
 refine ZS (XJ L ?_ H (v:=.int i t) ?_ ?_) G
 ·exact r
 ·simp
 refine item_list_intsR (let ⟨o,e,q⟩:=M;⟨o,a _ _ e,q⟩) hi zyA zyA zyA (λt'=>?_) O;have e:ns.getD (i:Int).toNat 0=k:=by
  rw[SQ,Yg,y];rfl
 rw[e];exact h _ _ _ a
end
open L2
theorem lJ:∀ {vs:List RV}{ns:List Int},Vu vs ns->aU (ns.map V.int) vs
 |_,_,.nil=>.nil
 |_,_,.cons n t h=>.cons ⟨t,O⟩ (lJ h)
section
variable {X:Cx}
def Rf (b:TA):TE:=λc H Q=>b c H λvs a=>∃ n:Nat,vs=[.int n]/\n<=1000/\∀ p,a p=none->Q (.ref p) (upd a p (.rng 0 n))
theorem E4 (v:Gl X "range")(k:X.mg "range"=none)(d:WA X [a] ta)(x:Ss [a] X.env=[(false,V1 a X.env)]:=by rfl):WE X (.Call (.Name "range" p) [a] [] pos) (Rf ta):=by
 have d:=d.go;refine⟨?_⟩;intro c s u H Q I h;refine Call_ (iG I v k boot_range (Ts (cu (d pos c s u H _ I h) λz i f=>?_) x rfl));obtain⟨vs,A,g,l,m⟩:=f;obtain⟨n,rfl,y,q⟩:=m;cases l with
 |cons r j=>
  cases j;obtain⟨t,rfl⟩:=r;exact call_range_1 ⟨.ref i.heap.objs.size,_,g.laid (a:=i.heap.objs.size) (o:=.rng 0 n) (t':=_) (λb o e=>RS _ e) (R0 _) ⟨_,_,_,RW _ O⟩,O,q _ (g.hok.fresh (R0 _))⟩
def IH:List V->Hp->VK->Prop:=λa H Q=>∃ (p:Sd) (n:Nat),a=[.ref p]/\H p=Y (.rng 0 n)/\n<=1000/\∀ l,H l=none->Q (.ref l) (upd H l (.lst ((wm n).map V.int)))
theorem zW (y:X.calm=true):dP X (.type "list") IH:=by
 intro j s C H E B Q I r h;obtain⟨p,n,rfl,x,k,q⟩:=h;obtain⟨u,rfl,m⟩:=mh r;cases m;obtain⟨t,u,v,e⟩:=(show cq X.prog X.w H s.heap p (.rng 0 n) from I.hok _ _ x)
 refine call_list_range (n:=n) (I.ok.hd y) e (small_one (a:=0) (b:=n) zyA zyA zyA zyA) (by rw[aay];split<;>lia) zyA λD z d c A l g=>?_
 have f:Vu d.toList (wm n):=IU (by rw[T2];exact g.1) λi v f=>by
  obtain⟨t',e⟩:=g.2 i v (by rw[<- V2];exact f);exact⟨t',by rw[e];congr 1;lia⟩
 refine⟨.ref s.heap.objs.size,_,I.laid (a:=s.heap.objs.size) (o:=.lst ((wm n).map V.int)) (t':=z) A (R0 _) ⟨?_,d.toList,c,lJ f,by rw[ZT];exact l⟩,O,q _ (I.hok.fresh (R0 _))⟩;rw[R5,km];exact dw k
end
theorem pG {l c:Int}:∀ (d:List RV),aaw d->Xz pos (d++[.int l t,.int c u,cd])=((Xz pos d).or (if(l==pos.line&&c==pos.col)=true then Y cd else none))
 |[],_=>by
  show(if(l==pos.line&&c==pos.col)=true then Y cd else Xz pos [])=_;rfl
 |.int a t::.int b u::e::r,h=>by
  show(if(a==pos.line&&b==pos.col)=true then Y e else Xz pos (r++[.int l _,.int c _,cd]))=Option.or (if(a==pos.line&&b==pos.col)=true then Y e else Xz pos r) _
  by_cases q:(a==pos.line&&b==pos.col)=true
  ·rw[SO q,SO q];rfl
  ·rw[Sx q,Sx q];exact pG r h
theorem tF {l c:Int}:∀ (d:List RV),aaw d->aaw (d++[.int l t,.int c u,cd])
 |[],_=>trivial
 |.int a t::.int b u::e::r,h=>tF r h
abbrev GX (q:Str):HO:=.tbl #[.str q 0]
section
variable {X:Cx}{pins:List (Sd×Obj)}{σ:L2.St}{H:Hp}{s:RZ}
theorem HB (I:aK X pins σ H s) (k:X.env.code=.ref c) (N:∀ h,X.K.In h->YA h c P) (T:H P=Y (GX (X.env.qual ++ "<lambda>")))
  (j:∀ y∈scope.names,y.2=.free->∃ c,X.env.cells.lookup y.1=Y c)(hdef:defaultsOf params X.env=([],[]))
  (h:∀ fa a pm i H2 s2,aK X pins σ H2 s2->ah H H2->s2.heap.get? fa=Y { cls:=.type "function",data:=.func (Z7 "<lambda>" (X.env.qual++"<lambda>") params body scope (yH X.env.cells scope.names []) pm (.ref a) i) } ->
   s2.heap.CodeRec (.ref a) (X.env.qual++"<lambda>")->Q (.ref fa) s2) :
  Sb (SD X.prog X.w) X.A (V1 (.Lambda params body scope lp) X.env) Q E s:=by
 have okP:∃ m:Array RV,s.heap.get? P=Y (abp m)/\aaw m.toList/\∀ pos F,Xz pos m.toList=Y F->∃ a o vs t',F=.ref a/\H a=Y (.own P)/\s.heap.get? a=Y o/\o.data=.fields vs/\vs[1]?=Y (.str (X.env.qual++"<lambda>") t'):=by
  obtain⟨m,e,L,q,t,e0,f⟩:=(show cq X.prog X.w H s.heap P (GX (X.env.qual++"<lambda>")) from I.hok _ _ T)
  have e0':Y (YU (X.env.qual++"<lambda>") 0)=Y (.str q t):=e0;cases e0';exact⟨m,e,L,f⟩
 obtain⟨m,eP,L,fP⟩:=okP;obtain⟨bm,ob,b1,b2,b3,b4,b5,b6⟩:=I.mod.bm;have x:s.heap.Ns R1 X.mg:=I.mod.glob.keeps I.bk;have hgP:R1≠P:=λq=>by
  obtain⟨o,es,ep,e,C,_⟩:=x;rw[q,eP] at e;cases e;cases C
 have hbP:bm≠P:=λq=>by
  have e:=I.bk _ _ b3;rw[q,eP] at e;cases e;cases b4
 have hbG:bm≠R1:=λq=>by
  obtain⟨o,es,ep,e,C,_⟩:=x;have e':=I.bk _ _ b3;rw[q,e] at e';cases e';rw[C] at b6;cases b6
 have B:s.heap.BuiltinsAt X.mg P:=⟨bm,ob,b1,b2,hbG,hbP,I.bk _ _ b3,b4,b5,b6⟩
 refine PySem.W.kla_eval hdef ?_;cases hcm:Xz lp m.toList with
 |some F=>
  obtain⟨a,o,vs,t',rfl,w2,w3,w4,w5⟩:=fP lp F hcm;refine PySem.W.kla_makeFunctionHit (mg:=X.mg) (wZ j) I.ok.glob x k (N _ I.kIn) eP L hcm B λi p tk J G=>?_
  have D:∀ b u,s.heap.get? b=Y u->(p.push { cls:=.type "function",data:=.func (Z7 "<lambda>" (X.env.qual++"<lambda>") params body scope (yH X.env.cells scope.names []) ((X.mg "__name__").getD .none) (.ref a) i) }).get? b=Y u:=λb u e=>RS _ (J b u e)
  exact h p.objs.size a _ i H _ (I.kept (t':=tk) D) (ah.refl _) (RW _ O) ⟨a,o,vs,t',O,D _ _ w3,w4,w5⟩
 |none=>
  refine PySem.W.kla_makeFunction (mg:=X.mg) (wZ j) I.ok.glob x k (N _ I.kIn) eP L hcm hgP B λa i p tk hx M hlt hrec htb=>?_
  have fc:H a=none:=I.hok.fresh M;obtain⟨c2,oc,vs,t,ec,g1,g2,g3⟩:=hrec;cases ec;have J:∀ b u,b≠P->s.heap.get? b=Y u->(p.push (V_ "<lambda>" (X.env.qual++"<lambda>") params body scope (yH X.env.cells scope.names []) ((X.mg "__name__").getD .none) a i)).get? b=Y u:=λb u nb e=>RS _ (hx b u nb e)
  have gc:(p.push (V_ "<lambda>" (X.env.qual++"<lambda>") params body scope (yH X.env.cells scope.names []) ((X.mg "__name__").getD .none) a i)).get? a=Y oc:=RS _ g1;have gP:(p.push (V_ "<lambda>" (X.env.qual++"<lambda>") params body scope (yH X.env.cells scope.names []) ((X.mg "__name__").getD .none) a i)).get? P=Y (abp (m++#[UD lp.line,UD lp.col,.ref a])):=RS _ htb;have gF:(p.push (V_ "<lambda>" (X.env.qual++"<lambda>") params body scope (yH X.env.cells scope.names []) ((X.mg "__name__").getD .none) a i)).get? p.objs.size=Y (V_ "<lambda>" (X.env.qual++"<lambda>") params body scope (yH X.env.cells scope.names []) ((X.mg "__name__").getD .none) a i):=RW _ O;generalize p.push (V_ "<lambda>" (X.env.qual++"<lambda>") params body scope (yH X.env.cells scope.names []) ((X.mg "__name__").getD .none) a i)=g at J gc gP gF ⊢;have G:ah H (upd H a (.own P)):=λb o e=>by rw[ar (aS e fc)];exact e
  have ne:∀ b,H b=none->b≠P:=λb n z=>by rw[z,T] at n;cases n
  have lc:∀ b u,s.heap.get? b=Y u->b≠a:=λb u e=>Si (R6 (RX e) M)
  refine h p.objs.size a _ i (upd H a (.own P)) _ (I.un (t':=tk) ⟨λb u q n _ _=>J b u (ne b n) q,λb u q n _ _=>⟨u.slots,J b u (ne b n) q⟩,λb u q n _=>by rw[ar (lc b u q)];exact n,λb u q _=>?_,λb xs q=>G _ _ q,λb u w q=>G _ _ q,λb qs q=>⟨#[],by rw[G _ _ q];simp⟩⟩ λb u q=>?_) G gF ⟨a,oc,vs,t,O,gc,g2,g3⟩
  ·by_cases hb:b=P
   ·exact⟨_,by rw[hb];exact gP⟩
   ·exact⟨u,J b u hb q⟩
  ·by_cases hb:b=a
   ·subst hb;rw[ag] at q;cases q;exact⟨oc,gc⟩
   ·rw[ar hb] at q
    by_cases D:b=P
    ·subst D;rw[T] at q;cases q;refine⟨_,gP,?_,_,_,O,λpos F z=>?_⟩
     ·rw[aaa];exact tF _ L
     ·rw[aaa] at z;have z':=(pG (pos:=pos) (l:=(lp.line:Int)) (c:=(lp.col:Int)) (t:=0) (u:=0) (cd:=.ref a) m.toList L).symm.trans z;cases zz:Xz pos m.toList with
      |some cv'=>
       rw[zz] at z';have z2:cv'=F:=RU z';subst z2;obtain⟨c2,o2,vs2,t2,w1,w2,w3,w4,w5⟩:=fP pos cv' zz;exact⟨c2,o2,vs2,t2,w1,G _ _ w2,J c2 o2 (λz=>by rw[z,T] at w2;cases w2) w3,w4,w5⟩
      |none=>
       rw[zz] at z';have z2:(if((lp.line:Int)==pos.line&&(lp.col:Int)==pos.col)=true then Y (SC a) else none)=Y F:=z'
       split at z2
       ·cases z2;exact⟨a,oc,vs,t,O,ag,gc,g2,g3⟩
       ·cases z2
    ·refine(I.hok b u q).stay (λd v C r=>J d v ?_ r) (λd r=>G _ _ r) λd xs r=>G _ _ r
     rcases C with rfl|C
     ·exact D
     ·exact λz=>by rw[z,T] at C;cases C
end
theorem vJ [BEq α][LawfulBEq α]:∀ {l:List (α×β)},l.lookup x=Y y->(x,y)∈l
 |[],h=>nomatch h
 |(a,b)::r,h=>by
  rw[TM] at h;cases q:x==a with
  |true=>
   rw[q] at h;have e:x=a:=eq_of_beq q;cases h;rw[e];exact Sz
  |false=>
   rw[q] at h;exact R_ _ (vJ h)
def Co (a:Xy)(b c:Str):Bool:=a.kind==.function&&!a.isCoroutine&&!a.isGenerator&&a.names.all (λy=>!(y.2==.cell))&&a.names.lookup c==Y .local&&a.names.lookup b==Y .free
def Ik (K:KE)(i:Nat)(P:Sd)(q:Str)(g:TE):TE:=λf H Q=>g f H λx d=>∃ (r:Sd) (n:Nat) (l:Sd) (ns:List Int),x=.ref r/\d r=Y (.rng 0 n)/\n<64/\f[i]?=Y (Y (.ref l))/\bI K d l (ns.map V.int)/\ns.length=n/\d P=Y (GX q) /\
 ∀ (e:Hp) (D:Sd) (c:List Int),ah d e->e D=none->c.Perm (wm n)->c.Pairwise (λa b=>ns.getD b.toNat 0<=ns.getD a.toNat 0)->Q (.ref D) (upd e D (.lst (c.map V.int)))
section
variable {X:Cx}{K:KE}
theorem BA (hK:X.K=K) (hc:X.calm=true) (hr:Room k X.A) (hg:Gl X "sorted") (hm:X.mg "sorted"=none)
  (hcode:X.env.code=.ref c)(hcd:∀ h,K.In h->YA h c P)(hN:X.N[i]?=Y far)(hv:X.env.kindOf far=Y .cell)(he:WE X er tr)
  (hst:Ss [er] X.env=[(false,V1 er X.env)]:=by rfl)
  (hsc:Co scope far kn=true:=by decide +kernel)(hfr:(scope.names.all λy=>!(y.2==.free)||(X.env.cells.lookup y.1).isSome)=true:=by rfl)(hdef:defaultsOf params X.env=([],[]):=by rfl)
  (hbind:∀ qual cl pm cd ctv u,T_ (Iu qual far kn params pf pk pp scope cl pm cd ctv) ⟨[u],[]⟩=pure [(kn,u)]:=by intros;rfl)
  (hd1:(far==("__debug__":Str))=false:=by decide)(hd2:(kn==("__debug__":Str))=false:=by decide)(hd3:(far==("__classdict__":Str))=false:=by decide):
  WE X (.Call (.Name "sorted" p) [er] [⟨Y "key",.Lambda params (.Subscript (.Name far pf) (.Name kn pk) pp) scope lp,kp1⟩,⟨Y "reverse",.Constant (.bool true) cj cp,kp2⟩] pos) (Ik K i P (X.env.qual++"<lambda>") tr):=by
 have he:=he.go;refine⟨?_⟩;subst hK;unfold Co at hsc;simp only[Tu,Ul,UW] at hsc;obtain⟨⟨⟨⟨⟨k1,k2⟩,k3⟩,k4⟩,k5⟩,k6⟩:=hsc;have B:∀ y∈scope.names,y.2=.free->∃ c,X.env.cells.lookup y.1=Y c:=λy hy e=>by
  rw[Ul] at hfr;have:=hfr y hy;rw[e] at this;exact UT.mp (by simpa using this)
 intro T s σ H Q I h;refine TV (iG I hg hm sO ?_);refine callWith_kw (env:=X.env) (he:=by rw[hst];rfl) (hplain:=by rw[hst];rfl) (cu ((Et he Jf hst) pos T s σ H (λvs H1=>match vs with
  |[x]=>∃ (r:Sd) (n:Nat) (l:Sd) (ns:List Int),x=.ref r/\H1 r=Y (.rng 0 n)/\n<64/\σ[i]?=Y (Y (.ref l))/\bI X.K H1 l (ns.map V.int)/\ns.length=n/\H1 P=Y (GX (X.env.qual++"<lambda>")) /\
   ∀ (G:Hp) (D:Sd) (f:List Int),ah H1 G->G D=none->f.Perm (wm n)->f.Pairwise (λa b=>ns.getD b.toNat 0<=ns.getD a.toNat 0)->Q (.ref D) (upd G D (.lst (f.map V.int)))
  |_=>False) I h) λf g ⟨vs,H1,I1,r1,q1⟩=>?_)
 match vs,r1,q1 with
 |[x],r1,q1=>
  obtain⟨r,n,l,ns,rfl,hr1,hn,hσ,hl,hlen,hP,q⟩:=q1;obtain⟨u,rfl,ru⟩:=mh r1;cases ru;refine kws_cons (HB I1 hcode hcd hP B hdef λfa c' pm ctv G s2 f sm ho hrec=>?_);refine kws_cons (Constant_bool (kws_nil ?_));show Sb _ _ (call (.builtin "sorted") [.ref r] [(TJ "key",.ref fa),(TJ "reverse",.bool true)]) _ _ s2;obtain⟨t,u,v,hrng⟩:=(show cq X.prog X.w G s2.heap r (.rng 0 n) from f.hok _ _ (sm _ _ hr1))
  obtain⟨m,hnm,hloc⟩:=id f.loc;obtain⟨w,rw',lk⟩:=hloc i far (.ref l) hN hσ (.inr (.inl hv));cases rw';obtain⟨cf,ecf,hcell⟩:∃ cf,X.env.cells.lookup far=Y cf/\s2.heap.IsCell cf (Y (.ref l)):=by
   rcases lk with ⟨z,_⟩|⟨_,cf,e,z⟩
   ·rw[hv] at z;cases z
   ·exact⟨cf,e,z⟩
  have hcl:(yH X.env.cells scope.names []).lookup far=Y cf:=by
   have mem:(far,T8)∈scope.names:=vJ k6;obtain⟨c2,e2⟩:=n9 (cells:=X.env.cells) (names:=scope.names) (acc:=[]) (x:=far) (.inr mem);rcases jz B e2 with z|⟨_,z⟩
   ·cases z
   ·rw[ecf] at z;cases z;exact e2
  obtain⟨its,rv,pl,_⟩:=f.list (sm.seq hl);have hints:=xJ rv;obtain⟨oL,esL,epL,eL,dL,_⟩:=id hnm;have F:Fr X.base X.env.locals s2.heap m:=⟨hnm,f.bk,Sv f.ok.bsz f.ok.above⟩
  have all:∀ {h:Uc},Fr X.base X.env.locals h m->News X.base X.env.locals h (og X.base s2.heap X.env.locals)->∀ b o,b≠X.env.locals->s2.heap.get? b=Y o->h.get? b=Y o:=λ{h} J N' b o nb e=>by
   cases z:X.base.get? b with
   |some o'=>
    have:=f.bk b o' z;rw[e] at this;cases this;exact J.keep b o z
   |none=>exact(N' (b,o) (C8 nb z e)).1
  have nL:∀ b o,s2.heap.get? b=Y o->(∀ es ep,o.data≠.dict es ep)->b≠X.env.locals:=λb o e hd z=>by
   rw[z,eL] at e;cases e;exact hd _ _ dL
  have rm:=hr.dp;refine Eh (h₀:=X.base) (L:=X.env.locals) (m:=m) (news:=og X.base s2.heap X.env.locals) (b:=true) (kz:=ns) (f.ok.hd hc) F J7 hrng hn hlen (ksk_s2 _ _ _) (λx=>ksk_l2 _ _ _) (λx=>ksk_t2 _ _ _) (λj k t hj hk h tk own J N'=>?_) λD h' tk out cc vs hi J N' hD ko=>?_
  ·have M:=all J (λp hp=>N' p (UC _ hp));obtain⟨oc,C,g⟩:=hcell;obtain⟨ol,nl,el,cl,dl,xl⟩:=id pl;obtain⟨c2,o2,E,t2,ec,g1,g2,g3⟩:=id hrec;cases ec;refine IR (s:={ s2 with heap:=h,toks:=tk }) (ns:=ns) (f.ok.mod.nolimit.keeps J.keep) (by show X.A.depth<recursionLimit;lia) (M _ _ (nL _ _ ho λ_ _ z=>nomatch z) ho) ⟨_,o2,E,t2,O,M _ _ (nL _ _ g1 λ_ _ z=>by rw[g2] at z;cases z) g1,g2,g3⟩ (λu=>hbind _ _ _ _ _ u)
    (by simpa using k2) (by simpa using k3) k1 (λx hx z=>by have:=k4 x hx;rw[z] at this;cases this) k5 k6 hd1 hd2 hd3 hcl ⟨oc,M _ _ (nL _ _ C λ_ _ z=>by rw[g] at z;cases z) C,g⟩ ⟨ol,M _ _ (nL _ _ el λ_ _ z=>by rw[xl] at z;cases z) el,cl,nl,xl⟩ hints hk zyA λh'' tk' t' kk=>?_
   exact KskEnd.intro (J.kept kk) (N'.grown kk) λp hp=>hp
  ·have M:=all J (λp hp=>N' p (R_ _ hp));have gD:=(N' _ Sz).1;have fD:G D=none:=f.hok.fresh hD;obtain⟨pz,pp1,po,pw⟩:=ko;have hvl:vs.length=n:=by rw[hi.length,km]
   have C:∀ q∈pz,∃ (j:Nat) (t:Tok),j<n/\q.2=.int j t/\q.1=ns.getD j 0:=λq hq=>by
    have hq':=pp1.mem_iff.mp hq;obtain⟨j,hj⟩:=ZY hq';rw[S5] at hj;have jn:j<n:=by rw[<- hlen];exact(R9.mp hj.1).1
    obtain⟨t',e⟩:=hi.get j _ (Dz jn);rw[e] at hj;refine⟨j,t',jn,(RU hj.2).symm,?_⟩;rw[Yg,hj.1];rfl
   have hout:Vu out.toList (pz.map λq=>numOf q.2):=by
    rw[po];have go:∀ (l:List (Int×RV)),(∀ q∈l,∃ (j:Nat) (t:Tok),j<n/\q.2=.int j t/\q.1=ns.getD j 0)->Vu (l.map Prod.snd) (l.map λq=>numOf q.2):=by
     intro l
     induction l with
     |nil=>intro _;exact .nil
     |cons q l ih=>
      intro hl;obtain⟨j,t,_,e,_⟩:=hl q Sz;rw[Sy,Sy,e];exact .cons _ _ (ih λq hq=>hl q (R_ _ hq))
    exact go pz C
   have E:(pz.map λq=>numOf q.2).Perm (wm n):=by
    have h1:=(pp1.map Prod.snd).map numOf;rw[List.map_snd_zip zyA,hi.nums,V9] at h1;exact h1
   have hpw:(pz.map λq=>numOf q.2).Pairwise (λa b=>ns.getD b.toNat 0<=ns.getD a.toNat 0):=by
    rw[List.pairwise_map];refine pw.imp_of_mem λ{a b} ha hb hab=>?_
    obtain⟨ja,ta,_,ea,va⟩:=C a ha;obtain⟨jb,tb,_,eb,vb⟩:=C b hb;have hab':b.1<=a.1:=hab;rw[ea,eb];show ns.getD (jb:Int).toNat 0<=ns.getD (ja:Int).toNat 0;rw[SQ,SQ,<- va,<- vb];exact hab'
   refine⟨.ref D,_,?_,O,q G D _ sm fD E hpw⟩;have g:∀ b u,G b=Y u->b≠X.env.locals:=λb u e z=>by rw[z,f.free] at e;cases e
   have I3:aK X T σ G { s2 with heap:=h',toks:=tk }:=by
    refine f.step (g':=s2.gens) (d':=s2.drawn) (ch:=[]) (λ_ z=>nomatch z) (λb o nb _ _ e _=>M b o nb e) (λb o nb _ _ e _=>⟨o.slots,M b o nb e⟩) (λ_ _ _ _ n=>n) (λb o _ e=>?_) (λ_ _ e=>e) (λ_ _ _ e=>e) (λb ps e=>⟨#[],by rw[e];simp⟩) (λm' hm'=>?_) (λb u e=>?_) f.bare
    ·by_cases nb:b=X.env.locals
     ·obtain⟨o',_,_,e',_⟩:=J.ns;exact⟨o',by rw[nb];exact e'⟩
     ·exact⟨o,M b o nb e⟩
    ·rw[hm'.eq_nsMap,<- hnm.eq_nsMap];exact J.ns
    ·refine(f.hok b u e).stay (λd v hd r=>M d v ?_ r) (λ_ r=>r) λ_ _ r=>r
     rcases hd with rfl|hd
     ·exact g _ _ e
     ·exact g _ _ hd
   have F3:=f.fpOk (b:=D) (H':=G) hD fD;exact eh I3 fD (Sv f.sz hD) F3.2.1 F3.2.2.2.2.1 F3.2.2.2.2.2 ⟨by
    rw[R5];have:=E.length_eq;rw[km] at this;rw[this];exact dw zyA,out.toList,cc,lJ hout,by rw[ZT];exact gD⟩
end
def Lq (Tb:Sd->Option Str)(own:Bool)(a:Sd)(o:Obj)(ns:List Int):Hp:=λb=>match Tb b with
 |some q=>Y (GX q)
 |none=>if own=true/\b=a then Y (.frz o (.lst (ns.map V.int))) else none
theorem Fx {K:KE}{k:Nat} (Tb:Sd->Option Str)
  (KX:K.In s₁.heap)(E:s₁.heap.Ns R1 mg)(hb:s₁.heap.Ns Xl mb)(L:∀ x:Str,x≠"__name__"->mb x=Tq x)(A:s₁.heap.NoLimit)(hg:s₁.gens=#[])
  (Q:∃ D o,mg "__builtins__"=Y (.ref D)/\D≠Xl/\s₁.heap.get? D=Y o/\o.cls=.type "module"/\o.dict=Y Xl/\o.data=.plain)
  (B:∀ b q,Tb b=Y q->s₁.heap.get? b=Y { cls:=.none,data:=.fields #[] }/\isCodeTable s₁.heap b/\K.lookup b=none)
  (y:s₁.heap.get? a=Y { cls:=.type "list",data:=.seq vs.toArray })(hi:Vu vs ns)(hl:ns.length<=Sk)(hr:Room k abk)
  (F:∀ base:Uc,K.In base->base.Ns R1 mg->jm P w K mg base CX k fa fd [x] sp)(t:∀ (s:RZ) (u:RV),aab s fd ⟨[u],[]⟩ [(x,u)])
  (hsp:∀ H:Hp,(∀ b q,Tb b=Y q->H b=Y (GX q))->bI K H a (ns.map V.int)->sp [.ref a] H (λv _=>v=.bl true) λ_ _ _=>False)
  (hCX:∀ H e f,CX [] H s₁ (λ_ _ _=>False) e f->False):
  Vc (SD P w) abk (.call (.ref fa) ⟨[.ref a],[]⟩) (λr f=>r=.ok (.ret (.bool true))/\OldK s₁.heap f.heap/\f.os=s₁.os/\Z_ f.gens) s₁:=by
 have rv:=lG hi;have nTa:Tb a=none:=by
  cases q:Tb a with
  |none=>rfl
  |some z=>
   have:=(B a z q).1;rw[y] at this;cases this
 obtain⟨own,j⟩:∃ own:Bool,own=(K.lookup a).isNone:=⟨_,O⟩
 let H:Hp:=Lq Tb own a { cls:=.type "list",data:=.seq vs.toArray } ns
 have HT:∀ b q,Tb b=Y q->H b=Y (GX q):=λb q e=>by
  show(match Tb b with|some q=>Y (GX q)|none=>_)=_;rw[e]
 have c:∀ b u,H b=Y u->(∃ q,Tb b=Y q/\u=GX q)\/(own=true/\b=a/\u=.frz { cls:=.type "list",data:=.seq vs.toArray } (.lst (ns.map V.int))):=λb u e=>by
  have p:(match Tb b with|some q=>Y (GX q)|none=>if own=true/\b=a then Y (HO.frz { cls:=.type "list",data:=.seq vs.toArray } (.lst (ns.map V.int))) else none)=Y u:=e;cases q:Tb b with
  |some z=>
   rw[q] at p;exact .inl ⟨z,O,(RU p).symm⟩
  |none=>
   rw[q] at p;dsimp only at p
   split at p
   ·rename_i i
    exact .inr ⟨i.1,i.2,(RU p).symm⟩
   ·cases p
 have ok:qA P w H s₁.heap:=λb u e=>by
  rcases c b u e with ⟨q,hq,rfl⟩|⟨_,rfl,rfl⟩
  ·exact⟨#[],(B b q hq).1,trivial,q,0,O,λi l z=>nomatch z⟩
  ·exact⟨y,by rw[R5];exact hl,vs,_,rv,y⟩
 have hS:bI K H a (ns.map V.int):=by
  cases hk:K.lookup a with
  |some o=>
   have e:=KX a o hk;rw[y] at e;cases e;exact .inr ⟨_,vs.toArray,_,hk,O,O,O,by rw[Su,hi.length];exact hl,by simpa using rv⟩
  |none=>
   refine .inl (.inr ⟨{ cls:=.type "list",data:=.seq vs.toArray },?_⟩);show(match Tb a with|some q=>Y (GX q)|none=>if own=true/\a=a then Y (HO.frz { cls:=.type "list",data:=.seq vs.toArray } (.lst (ns.map V.int))) else none)=_;rw[nTa];dsimp only;rw[SO ⟨by rw[j,hk];rfl,O⟩]
 have un:∀ {b:Sd}{o:Obj},s₁.heap.get? b=Y o->(∀ its n,o.data≠.seq its n)->(∀ ws,o.data≠.fields ws)->H b=none:=λ{b o} e h1 N=>by
  cases q:H b with
  |none=>rfl
  |some u=>
   rcases c b u q with ⟨z,M,_⟩|⟨_,rfl,_⟩
   ·have:=(B b z M).1;rw[e] at this;cases this;exact absurd rfl (N _)
   ·rw[y] at e;cases e;exact absurd rfl (h1 _ _)
 have g:∀ {b:Sd}{m:Str->Option RV},s₁.heap.Ns b m->(CZ s₁.heap H).Ns b m:=λ{b m} ⟨o,es,ep,e,d,r⟩=>⟨o,es,ep,vZ e (un e (λ_ _ z=>by rw[d] at z;cases z) λ_ z=>by rw[d] at z;cases z),d,r⟩
 have C:K.In (CZ s₁.heap H):=λb o e=>vZ (KX b o e) (by
  cases q:H b with
  |none=>rfl
  |some u=>
   rcases c b u q with ⟨z,M,_⟩|⟨i,rfl,_⟩
   ·rw[(B b z M).2.2] at e;cases e
   ·rw[j,e] at i;cases i)
 have hM:Mod K mg (CZ s₁.heap H):=⟨C,g E,⟨mb,g hb,L⟩,let ⟨mc,h1,N⟩:=A;⟨mc,g h1,N⟩,by
  obtain⟨D,o,b1,b2,b3,b4,b5,J⟩:=Q;exact⟨D,o,b1,b2,vZ b3 (un b3 (λ_ _ z=>by rw[J] at z;cases z) λ_ z=>by rw[J] at z;cases z),b4,b5,J⟩⟩
 have e0:Ec P w K mg (CZ s₁.heap H) abk [] s₁ H:=⟨O,hM,λb o e=>Lb e,Nat.le_of_eq (FM _ _),trivial,λb hb=>absurd (show b∈([]:List Sd) from hb) zyB,ok,.of_eq hg⟩
 refine Vg ((F _ C (g E)).run abk [] s₁ H ⟨[.ref a],[]⟩ [.ref a] [.ref a] _ _ hr e0 (t s₁ (.ref a)) (.cons rfl .nil) (hsp H HT hS)) λr f h=>?_
 cases r with
 |error e=>exact(hCX H e f h).elim
 |ok fl=>
  cases fl with
  |next=>exact UG h
  |brk=>exact UG h
  |cont=>exact UG h
  |ret u=>
   obtain⟨v,H',os,I,l,i,r',q⟩:=h;have q':v=.bl true:=q;subst q';obtain rfl:u=XV true:=r';have G:∀ b o,s₁.heap.get? b=Y o->asItWas s₁.heap f.heap b o:=λb o e=>by
    cases z:H b with
    |none=>exact .inl (l.keep b o e z (by intro z;exact absurd (show b∈([]:List Sd) from z) zyB) zyB)
    |some u=>
     rcases c b u z with ⟨n,hn,rfl⟩|⟨_,rfl,rfl⟩
     ·obtain⟨more,z2⟩:=l.tbls b _ z;obtain⟨ps,T,_⟩:=(show cq P w H' f.heap b (.tbl _) from i b _ z2)
      obtain⟨e1,ct,_⟩:=B b n hn;rw[e] at e1;cases e1;exact .inr (.inl ⟨ct,O,#[],ps,O,by simpa using T⟩)
     ·have z2:=l.frzs _ _ _ z;obtain⟨T,_⟩:=(show f.heap.get? _=Y _/\_ from i _ _ z2)
      rw[y] at e;cases e;exact .inl T
   refine⟨O,⟨G,λb o e=>?_⟩,os,I⟩;rcases G b o e with x|⟨_,_,_,_,_,x⟩|⟨_,_,⟨o',_,_,x,_⟩,_⟩
   ·exact⟨_,x⟩
   ·exact⟨_,x⟩
   ·exact⟨_,x⟩
def E3 (K:KE)(x:Str)(P:Sd):Prop:=∃ (f:Sd) (b:RV) (d:Option Sd) (a:Uw) (e:Array (Option RV)) (c:Sd),Sa K R1 x=Y (Y (.ref f))/\K.lookup f=Y ⟨b,d,.func a,e⟩/\a.code=.ref c /\
 (∀ h:Uc,K.In h->YA h c P)/\a.qualname=x
def Em (K:KE)(x:Str)(H:Hp):Prop:=∃ P,E3 K x P/\H P=Y (GX (x++".<locals>."++"<lambda>"))
theorem Em.same {K:KE}(h:Em K x H)(s:ah H H'):Em K x H':=by obtain⟨P,a,b⟩:=h;exact⟨P,a,s _ _ b⟩
theorem Em.mv {K:KE}(h:Em K x H)(m:Mv T H H')(l:cD H T):Em K x H':=by obtain⟨P,a,b⟩:=h;exact⟨P,a,m _ _ b (l.not b λ_ z=>nomatch z)⟩
structure Ls (K:KE)(mg:Str->Option RV)(x:Str)(st:T6)(ps:List Str):Prop where
 dfn:dg K mg x st ps []
 at_:∃ f,Sa K R1 x=Y (Y (.ref f))/\mg x=Y (.ref f)
section
variable {P:SA}{w:Te}{K:KE}{mg:Str->Option RV}{base:Uc}{CX:qr}
theorem Ls.cal {x:Str}{st:T6}{N d:List Str}{k:Nat}{sp:Sp} (F:Ls K mg x st d) (S:ao N d (af st)) (len:∀ vs H Q E,sp vs H Q E->vs.length=d.length:=by intro _ _ _ _ h;cases h;subst_vars;rfl)
  (bb:∀ (f:Sd) (b:RV) (A:Tf) (a:List Env) (s:RZ) (H:Hp) (vs:List V) (Q:VK) (E:XK),(∀ Pt,E3 K x Pt->∃ c,b=.ref c/\∀ h:Uc,K.In h->YA h c Pt)->Room k (A.deeper (YW x (af st) s.heap.objs.size f b))->sp vs H Q E ->
   ∃ t,Ht (wM CX P w K mg base N x (af st) f b A a s H E).nox (aJ st) t/\t { nx:=λ_ H'=>Q .non H',rt:=Q } (lj N vs) H):NH P w K mg base CX (k+1) x d [] sp:=by
 obtain⟨f,L,oc,od,M,kV,C,pm,an,b,T,G,ds,rfl,l,e,n,J,z,B⟩:=F.dfn.ex;refine⟨f,_,ds,zc l e S len λA a s H vs Q E r g=>?_,n,J,z,B⟩;obtain⟨t,h,q⟩:=bb f b A a s H vs Q E (λPt ⟨f',D,v,I,y,c,u,j,o,p,_⟩=>by
  obtain⟨f2,m,i⟩:=F.at_;rw[u] at m;cases m;rw[n] at i;cases i;rw[l] at j;cases j;exact⟨c,o,p⟩) r g
 exact⟨t,h.nox,q⟩
end
def tm (xs:List Str)(K:KE):Sp:=λvs H Q _=>∃ (a:Sd) (ns:List Int),vs=[.ref a]/\bI K H a (ns.map V.int)/\ns.length<=63/\(∀ x∈xs,Em K x H)/\∀ b,Q (.bl true) b
def Ig (ts:List (Str×Sd))(b:Sd):Option Str:=(ts.find? λp=>p.2==b).map λp=>p.1++".<locals>."++"<lambda>"
def JT (vs:Array RV)(c P:Sd):Prop:=∃ d g a f e b h,vs[11]?=Y (.ref P)/\vs.getD 11 .none=.ref P/\vs.getD 18 .none=.str d g/\vs.getD 7 .none=.int a f/\vs.getD 9 .none=.bool e/\vs.getD 10 .none=.int b h/\c≠P
theorem Nn {K:KE} (a:Sa K R1 x=Y (Y (.ref f))) (l:K.lookup f=Y ⟨oc,od,.func fd,sl⟩) (e:fd.code=.ref c) (q:fd.qualname=x)
  (cc:K.lookup c=Y ⟨.type "code",odc,.fields vs,slc⟩)(h:JT vs c P):E3 K x P:=by
 obtain⟨d,p,b,o,i,g,m,n,u,j,k,r,t,s⟩:=h;exact⟨f,oc,od,fd,sl,c,a,l,e,λv X=>⟨_,vs,d,p,b,o,i,g,m,X _ _ cc,O,O,n,u,j,k,r,t,s⟩,q⟩
theorem N7 {K:KE}(cc:K.lookup c=Y ⟨.type "code",odc,.fields vs,slc⟩)(h:JT vs c P)(a:Uc)(X:K.In a):isCodeTable a P:=by
 obtain⟨_,_,_,_,_,_,_,b,_⟩:=h;exact⟨c,_,vs,X _ _ cc,O,O,b⟩
structure zL (K:KE)(tA:List Sd)(ts:List (Str×Sd)):Prop where
 nodup:(ts.map (·.2)).Nodup
 tab:∀ p∈ts,p.2∈tA/\K.lookup p.2=none/\(∀ h:Uc,K.In h->isCodeTable h p.2)/\E3 K p.1 p.2
theorem G_ (h:Ig ts b=Y q):∃ p∈ts,p.2=b/\q=p.1++".<locals>."++"<lambda>":=by
 unfold Ig at h;obtain⟨p,e,rfl⟩:=So.mp h;exact⟨p,List.mem_of_find?_eq_some e,eq_of_beq (List.find?_some (p:=λr:Str×Sd=>r.2==b) e),O⟩
theorem LN {ts:List (Str×Sd)}{p:Str×Sd}(b:(ts.map (·.2)).Nodup)(a:p∈ts):Ig ts p.2=Y (p.1++".<locals>."++"<lambda>"):=by
 unfold Ig;have e:ts.find? (λr=>r.2==p.2)=Y p:=by
  induction ts with
  |nil=>nomatch a
  |cons r ts c=>
   rw[Sy,Ui] at b;rw[U8];rcases R'.mp a with rfl|a
   ·rw[XI]
   ·have:(r.2==p.2)=false:=UK.mpr λz=>b.1 (z▸Ta.mpr ⟨p,a,O⟩)
    rw[this];exact c b.2 a
 rw[e];rfl
theorem HF {l:ZC}{k:Nat}{q:SA}{j:List Str}{Q:(Str->Option RV)->Uc->Prop}{B:Te->Uc->Prop}{d:DefRec}{K:Params->KE}{CX:Te->qr}{x:Str}{sp:List Str->KE->Sp}{L:List Sd}
  (N:l.most=Y 63)(C:d.params.defaults=[])(hr:Room k abk)
  (hY:∀ (w:Te) (h:Uc),B w h->(K w.params).In h)(J:∀ (w:Te) (h:Uc),B w h->∀ P∈L,h.get? P=Y { cls:=.none,data:=.fields #[] })
  (F:∀ (w:Te) (mg:Str->Option RV) (fa:Sd) (h:Uc),(K w.params).In h->h.Ns R1 mg->mg d.name=Y (.ref fa) ->
   ∃ (ts:List (Str×Sd)) (t:Uw),zL (K w.params) L ts/\(∀ (s:RZ) (u:RV),aab s t ⟨[u],[]⟩ [(x,u)]) /\
    ∀ base:Uc,(K w.params).In base->base.Ns R1 mg->jm l.prog w (K w.params) mg base (CX w) k fa t [x] (sp (ts.map (·.1)) (K w.params)))
  (A:∀ (xs:List Str) (K:KE) (H:Hp) (a:Sd) (ns:List Int),ns.length<=63->bI K H a (ns.map V.int)->(∀ x∈xs,Em K x H)->sp xs K [.ref a] H (λv _=>v=.bl true) λ_ _ _=>False)
  (D:∀ (w:Te) (H:Hp) (s:RZ) (e:RV) (E:RZ),CX w [] H s (λ_ _ _=>False) e E->False):
  PySem.W.WalkO q j Q B l.row.toRowW d [] (λf vs=>abu f vs):=by
 refine Att.attach_call N C λw M n mg mb fa o pm cd doc a vs ns G zzW ho hd hcd hmg r i c hg=>?_
 have KX:=hY w _ zzW;obtain⟨ts,t,I,hb,hF⟩:=F w mg fa _ KX G.T.g hmg;refine Fx (K:=K w.params) (Ig ts) KX G.T.g G.T.b G.T.builtins G.T.nolimit hg G.T.bmain (λb z e=>?_) r i (Sv c Z) hr hF hb (λH hH hS=>A _ _ H a ns c hS λy hy=>?_) λH e E=>D w H n e E
 ·obtain⟨p,m,rfl,rfl⟩:=G_ e;obtain⟨t1,t2,t3,_⟩:=I.tab p m;exact⟨J w _ zzW _ t1,t3 _ KX,t2⟩
 ·obtain⟨p,m,rfl⟩:=Ta.mp hy;exact⟨p.2,(I.tab p m).2.2.2,hH _ _ (LN I.nodup m)⟩
theorem ER {K:KE}{n:Nat}(l:K.lookup a=Y o)(h:o.cls=.type "tuple"/\o.data=.seq its n/\its.size<=Sk/\aU xs its.toList):KT K a xs:=⟨o,its,n,l,h.1,h.2.1,h.2.2.1,h.2.2.2⟩
theorem _root_.L2.Room.u1 (r:Room k A):A.units+1<cLine:=Yo zyA r.units
abbrev Kn:=Nat×Nat×Nat
def KS (t:Kn):Tr:=.tuple [.int t.1,.int t.2.1,.int t.2.2]
def tP (t:Kn):List V:=[.int t.1,.int t.2.1,.int t.2.2]
theorem Ap (t:Kn):(c5 t).map kV=tP t:=O
theorem qK {K:KE}(h:ax K H (KS t) v):∃ a,v=.ref a/\H a=Y (.tup (tP t)):=by
 cases h with
 |tup h q=>
  cases q with
  |cons c q=>
   cases c;cases q with
   |cons d q=>
    cases d;cases q with
    |cons b q=>
     cases b;cases q;exact⟨_,O,h⟩
theorem mz {K:KE}(h:H a=Y (.tup (tP t))):ax K H (KS t) (.ref a):=.tup h (.cons (.int _) (.cons (.int _) (.cons (.int _) .nil)))
theorem zw (h:c5 t=c5 u):t=u:=by
 obtain⟨a,b,c⟩:=t;obtain⟨x,y,z⟩:=u;have h:[XH (a:Int),XH (b:Int),XH (c:Int)]=([XH (x:Int),XH (y:Int),XH (z:Int)]:List iB):=h;injection h with d h
 injection h with f h
 injection h with e h
 injection d with d
 injection f with f
 injection e with e
 have g:a=x:=zyA
 have i:b=y:=zyA
 have j:c=z:=zyA
 rw[g,i,j]
def lf:List Kn->List V->List (List iB×V)
 |t::a,v::vs=>(c5 t,v)::lf a vs
 |_,_=>[]
theorem sg:∀ {ts:List Kn}{vs:List V},ts.length=vs.length->(lf ts vs).length=ts.length
 |[],[],_=>rfl
 |[],_::_,h=>by simp at h
 |_::_,[],h=>by simp at h
 |t::ts,v::vs,h=>by
  rw[lf,TL,sg (by simpa using h),TL]
theorem Ff:∀ {ts:List Kn}{vs:List V},ts.length=vs.length->(lf ts vs).map (·.1)=ts.map c5
 |[],[],_=>rfl
 |[],_::_,h=>by simp at h
 |_::_,[],h=>by simp at h
 |t::ts,v::vs,h=>by
  rw[lf,Sy,Ff (by simpa using h),Sy]
theorem IX:∀ {ts:List Kn}{vs:List V}{i:Nat}{k:List iB}{v:V},(lf ts vs)[i]?=Y (k,v)->∃ t,ts[i]?=Y t/\k=c5 t/\vs[i]?=Y v
 |[],_,_,_,_,h=>by simp[lf] at h
 |_::_,[],_,_,_,h=>by simp[lf] at h
 |t::ts,w::vs,0,k,v,h=>by
  have h:Y (c5 t,w)=Y (k,v):=h;cases h;exact⟨t,O,O,O⟩
 |t::ts,w::vs,i+1,k,v,h=>by
  obtain⟨u,a,b,c⟩:=IX (ts:=ts) (vs:=vs) (i:=i) (by simpa [lf] using h);exact⟨u,by simpa using a,b,by simpa using c⟩
theorem zY {K:KE}:∀ {ts:List Kn}{vs:List V},aB K H (ts.map f) vs->t∈ts->∃ v,oO (lf ts vs) (c5 t)=Y v/\ax K H (f t) v
 |[],_,_,m=>nomatch m
 |u::ts,vs,h,m=>by
  cases h with
  |@cons d v ds vs g c=>
   by_cases e:u=t
   ·subst e;exact⟨v,q_ (p:=(c5 u,v)) O,g⟩
   ·rcases R'.mp m with z|m
    ·exact absurd z.symm e
    ·obtain⟨w,a,b⟩:=zY c m;exact⟨w,by rw[lf,nE (p:=(c5 u,v)) (λz=>e (zw z))];exact a,b⟩
theorem Ak:∀ {ts:List Kn}{vs:List V},t∉ts->oO (lf ts vs) (c5 t)=none
 |[],_,_=>rfl
 |_::_,[],_=>rfl
 |u::ts,v::vs,m=>by
  rw[lf,nE (p:=(c5 u,v)) (λz=>m (by rw[zw z];exact Sz))];exact Ak λz=>m (R_ _ z)
theorem Hm:∀ {ts:List Kn}{vs:List V}{t:Kn}{v:V},ts.length=vs.length->lf (ts++[t]) (vs++[v])=lf ts vs++[(c5 t,v)]
 |[],[],_,_,_=>rfl
 |[],_::_,_,_,h=>by simp at h
 |_::_,[],_,_,h=>by simp at h
 |u::ts,w::vs,t,v,h=>by
  rw[Zc,Zc,lf,lf,Hm (by simpa using h),Zc]
theorem Ia (a:ts.length=vs.length)(h:t∉ts):qy (lf ts vs) (c5 t) v=lf (ts++[t]) (vs++[v]):=by
 rw[Iq v (Ak h),Hm a]
def wD (r:R3):Tr:=cB false r
structure R3.Wt (r:R3):Prop where
 a0:0<=r.a
 a1:r.a<=1000
 b0:0<=r.b
 b1:r.b<=1000
 c0:0<=r.c
 c1:r.c<=1000
def yZ (K:KE)(H:Hp)(ts:List Kn)(f:Kn->R3)(d:Sd):Prop:=∃ vs,H d=Y (.dT (lf ts vs))/\aB K H (ts.map λt=>wD (f t)) vs
def Gr (K:KE)(H:Hp)(n:Nat)(f:Kn->R3)(d:Sd):Prop:=∃ a,a.Perm (aI n)/\yZ K H a f d
def Db (n:Nat)(f:Kn->R3):Prop:=∀ t∈aI n,(f t).Wt
theorem Fa {f:Kn->R3}:∀ ts:List Kn,ke (ts.map λt=>wD (f t))=true
 |[]=>rfl
 |t::ts=>by
  rw[Sy,ke,Fa ts];rfl
theorem yZ.len {K:KE}{ts:List Kn}{f:Kn->R3}{H:Hp}{vs:List V}(h:aB K H (ts.map λt=>wD (f t)) vs):ts.length=vs.length:=by
 have:=h.length
 rwa [R5] at this
theorem yZ.same {K:KE}(h:yZ K H ts f d)(s:ah H H'):yZ K H' ts f d:=by obtain⟨vs,a,b⟩:=h;exact⟨vs,s _ _ a,aB.same s b⟩
theorem Gr.same {K:KE}{n:Nat}(h:Gr K H n f d)(s:ah H H'):Gr K H' n f d:=by obtain⟨a,p,g⟩:=h;exact⟨a,p,g.same s⟩
theorem yZ.mv {K:KE}(h:yZ K H ts f d)(m:Mv T H H')(l:cD H T):yZ K H' ts f d:=by
 obtain⟨vs,a,b⟩:=h;exact⟨vs,m _ _ a (l.not a λ_ z=>nomatch z),aB.mv m l (Fa ts) b⟩
theorem Gr.mv {K:KE}{n:Nat}(h:Gr K H n f d)(m:Mv T H H')(l:cD H T):Gr K H' n f d:=by obtain⟨a,p,g⟩:=h;exact⟨a,p,g.mv m l⟩
theorem MD {K:KE}{n:Nat}(h:Gr K H n f d)(i:t∈aI n)(c:H b=Y (.tup (tP t))):∃ v,ud H d (.ref b) (Y v)/\ax K H (wD (f t)) v:=by
 obtain⟨j,p,vs,a,q⟩:=h;obtain⟨v,e,g⟩:=zY (f:=λt=>wD (f t)) q (p.mem_iff.mpr i);refine⟨v,?_,g⟩;have:=ud.t (k:=c5 t) a (by rw[Ap];exact c)
 rwa [e] at this
theorem BX (h:n<=7):(aI n).Nodup:=(show ∀ m:Nat,m<8->(aI m).Nodup by decide +kernel) n zyA
theorem lI:(aI n).length=n^3:=by
 unfold aI;have b:∀ (m:Nat) {a:Type} (g:Nat->List a) (k:Nat),(∀ i,(g i).length=k)->((UH m).flatMap g).length=m*k:=λm a g k c=>by
  induction m with
  |zero=>simp
  |succ m d=>rw[X3,Wy,SB,d];simp[c,Xu]
 rw[b n _ (n*n) λi=>by rw[b n _ n λj=>by simp]];rw[aa4,Nat.pow_two,aa3 n (n*n)]
theorem Q6 (h:n<=7)(m:t∈aI n):t∈aI 7:=by
 rw[bA] at m ⊢;lia
theorem Lz (h:n<=7)(p:ts.Perm (aI n))(a:ts.length=vs.length):Hc (lf ts vs):=
 Bv (Ff a) (p.nodup_iff.mpr (BX h)) λt b=>Q6 h (p.mem_iff.mp b)
def i' (K:KE)(H:Hp)(n:Nat)(f:Kn->R3)(v:V):Prop:=∃ a C b d,v=.ref a/\cR K "Grid" C/\H a=Y (.ins C b [("knots",.int n),("table",.ref d)])/\Gr K H n f d
theorem i'.same {K:KE}{n:Nat}(h:i' K H n f v)(s:ah H H'):i' K H' n f v:=by obtain⟨a,C,b,d,g,c,i,e⟩:=h;exact⟨a,C,b,d,g,c,s _ _ i,e.same s⟩
theorem i'.mv {K:KE}{n:Nat}(h:i' K H n f v)(m:Mv T H H')(l:cD H T):i' K H' n f v:=by
 obtain⟨a,C,c,d,i,e,b,g⟩:=h;exact⟨a,C,c,d,i,e,m _ _ b (l.not b λ_ z=>nomatch z),g.mv m l⟩
section
variable {K:KE}{g:TG}{tt:TT}{te:TE}{σ0:L2.St}{Fin:List V->Hp->Prop}{H1:Hp}
theorem DA {d:Sd}{o:Obj}{kvs:List (List iB × V)}{bs:List Bool} (l:H1 d=Y (.frz o (.dT kvs))) (A:bs.length=kvs.length) (F:kvs.length <= 1000)
  (he:∀ (i:Nat) (k:List iB) (x:V) (c T:Sd) (b:Bool) (H:Hp),kvs[i]?=Y (k,x)->bs[i]?=Y b->ah H1 H->H c=Y (.tup (k.map kV))->H T=Y (.tup [.ref c,x])->mf g tt te σ0 (.ref T) H λy H'=>ah H H'/\y=.bl b)
  (z:∀ H,ah H1 H->Fin (bs.map V.bl) H):ix (Qw d o kvs) g tt te σ0 Fin H1:=by
 refine⟨λi m n H=>m=kvs.length-i/\i<=kvs.length/\ah H1 H/\n=(bs.take i).map V.bl,⟨kvs.length,zyA,Tn _,ah.refl _,O⟩,?_⟩;rintro i m n H ⟨rfl,G,s,rfl⟩;have f:((bs.take i).map V.bl).length<=1000:=by rw[R5,SX];lia
 by_cases a:i<kvs.length
 ·refine .inr ⟨⟨s _ _ l,a⟩,bR f,λv I D=>?_⟩;obtain⟨k,x,c,T,u,r,t,rfl,rfl⟩:=D;have j:ah H (upd H T (.tup [.ref c,x])):=ah.new t;have p:bs[i]?=Y bs[i]:=by simp[show i<bs.length by lia]
  refine he i k x c T bs[i] _ u p (s.trans j) (j _ _ r) ag _ (λy H' h=>?_) λB=>∃ q,q<kvs.length-i/\(q=kvs.length-(i+1)/\i+1<=kvs.length/\ah H1 B/\(bs.take i).map V.bl=(bs.take (i+1)).map V.bl);obtain⟨E,C⟩:=h;refine⟨kvs.length-(i+1),zyA,O,a,(s.trans j).trans E,?_⟩
  rw[cw p,T5,C];rfl
 ·have e:i=kvs.length:=zyA
  subst e;refine .inl ⟨⟨s _ _ l,R0 _⟩,dw f,?_⟩;rw[SY zyA];exact z H s
end
section
variable {K:KE}{g:TG}{tt:TT}{tb:TB}{σ0:L2.St}
theorem Gk {a:Sd}{b:Bool}{xs:List V}{Fin:List V->Hp->Prop}{o:Hp} (j:Nat->List V->Hp->Prop) (z:j 0 [] o) (k:∀ i ys H,i <= xs.length->j i ys H->bY K H a xs b)
  (he:∀ i x ys H,xs[i]?=Y x->j i ys H->∀ R:L2.St->Hp->List V->Prop,(∀ d H' h,j (i+1) h H'->R d H' h)->∀ S:Hp->Prop,g x σ0 H λd B=>tt d B λc n=>if c=true then tb d n ys R else S n)
  (r:∀ ys H,j xs.length ys H->ys.length<=1000/\Fin ys H):El (yK K a b) g tt tb σ0 Fin o:=by
 refine⟨λi m ys H=>m=xs.length-i/\i<=xs.length/\j i ys H,⟨xs.length,zyA,Tn _,z⟩,?_⟩;rintro i m ys H ⟨rfl,A,p⟩;have q:=k i ys H A p
 by_cases f:i<xs.length
 ·have y:(yK K a b).go i H:=by
   cases b with
   |true=>exact⟨xs,xs[i],q,by simp[f]⟩
   |false=>exact⟨xs,xs[i],q,by simp[f]⟩
  refine .inr ⟨y,λx C l=>?_⟩;have u:C=H/\xs[i]?=Y x:=by
   cases b with
   |true=>exact⟨l.1,l.2 xs q⟩
   |false=>exact⟨l.1,l.2 xs q⟩
  obtain⟨rfl,t⟩:=u;exact he i x ys _ t p _ (λd H' h v=>⟨xs.length-(i+1),zyA,O,f,v⟩) λn=>∃ s,s<xs.length-i/\(s=xs.length-(i+1)/\i+1<=xs.length/\j (i+1) ys n)
 ·have e:i=xs.length:=zyA
  subst e;have l:(yK K a b).stop xs.length H:=by
   cases b with
   |true=>exact⟨xs,q,R0 _⟩
   |false=>exact⟨xs,q,R0 _⟩
  exact .inl ⟨l,dw (r ys H p).1,(r ys H p).2⟩
theorem BJ {a:Sd}{b:Bool}{xs:List V}{f:L2.St}{H:Hp}{ys:List V}{Q:L2.St->Hp->List V->Prop} (s:Nat->L2.St->List V->Hp->Prop) (F:s 0 f ys H) (u:∀ i f ys H,i <= xs.length->s i f ys H->bY K H a xs b)
  (he:∀ i x f ys H,xs[i]?=Y x->s i f ys H->∀ R:L2.St->Hp->List V->Prop,(∀ d H' h,s (i+1) d h H'->R d H' h)->∀ S:L2.St->Hp->Prop,g x f H λd A=>tt d A λc o=>if c=true then tb d o ys R else S d o)
  (G:∀ f ys H,s xs.length f ys H->Q f H ys):∃ W:Nat->Nat->L2.St->Hp->List V->Prop,(∃ m,W 0 m f H ys)/\∀ i m l t j,W i m l t j ->
   ((yK K a b).stop i t/\Q l t j) \/
   ((yK K a b).go i t/\∀ x y,(yK K a b).yld i t x y->g x l y λr A=>tt r A λb o=>if b=true then tb r o j λd H' h=>∃ k,k<m/\W (i+1) k d H' h else ∃ k,k<m/\W (i+1) k r o j):=by
 refine⟨λi m f H ys=>m=xs.length-i/\i<=xs.length/\s i f ys H,⟨xs.length,zyA,Tn _,F⟩,?_⟩;rintro i m f H ys ⟨rfl,I,p⟩;have q:=u i f ys H I p
 by_cases n:i<xs.length
 ·have E:(yK K a b).go i H:=by
   cases b with
   |true=>exact⟨xs,xs[i],q,by simp[n]⟩
   |false=>exact⟨xs,xs[i],q,by simp[n]⟩
  refine .inr ⟨E,λx y v=>?_⟩;have C:y=H/\xs[i]?=Y x:=by
   cases b with
   |true=>exact⟨v.1,v.2 xs q⟩
   |false=>exact⟨v.1,v.2 xs q⟩
  obtain⟨rfl,B⟩:=C;exact he i x f ys _ B p _ (λd H' h D=>⟨xs.length-(i+1),zyA,O,n,D⟩) λz o=>∃ k,k<xs.length-i/\(k=xs.length-(i+1)/\i+1<=xs.length/\s (i+1) z ys o)
 ·have e:i=xs.length:=zyA
  subst e;have v:(yK K a b).stop xs.length H:=by
   cases b with
   |true=>exact⟨xs,q,R0 _⟩
   |false=>exact⟨xs,q,R0 _⟩
  exact .inl ⟨v,G f ys H p⟩
end
def Hq (K:KE)(a:Sd)(rows:List (List Int)):Prop:=∃ bs:List Sd,KT K a (bs.map V.ref)/\Yp (λb r=>KT K b (r.map V.int)) bs rows
def Ry (K:KE)(rows:List (List Int)):TE:=λ_ H Q=>∀ a,Hq K a rows->Q (.ref a) H
theorem EW {K:KE}(c:Gl X x)(f:∃ a,X.mg x=Y (.ref a)/\Hq K a rows)(d:(x==("__debug__":Str))=false:=by decide):WE X (.Name x pos) (Ry K rows):=by
 refine⟨?_⟩;obtain⟨a,e,z⟩:=f;intro b s g H Q I h;exact jk I c e ⟨.ref a,H,I,O,h a z⟩ d
theorem lv {K:KE}:∀ ns:List Int,aB K H (ns.map Uf) (ns.map V.int)
 |[]=>.nil
 |n::ns=>.cons (.int n) (lv ns)
theorem dY {K:KE}:∀ {ns:List Int}{ys:List V},aB K H (ns.map Uf) ys->ys=ns.map V.int
 |[],_,h=>by cases h;rfl
 |n::ns,_,h=>by
  cases h with
  |cons b a=>
   cases b;rw[dY a];rfl
def zg (a b k:Nat):List Kn:=(UH k).map λc=>(a,b,c)
def xT (n a j:Nat):List Kn:=(UH j).flatMap λb=>zg a b n
def yx (n i:Nat):List Kn:=(UH i).flatMap λa=>xT n a n
theorem Lw (n:Nat):yx n n=aI n:=O
theorem BM (a b k:Nat):zg a b (k+1)=zg a b k++[(a,b,k)]:=by unfold zg;rw[X3,T5];rfl
theorem xA (n a j:Nat):xT n a (j+1)=xT n a j++zg a j n:=by unfold xT;rw[X3,Wy];simp
theorem vc (n i:Nat):yx n (i+1)=yx n i++xT n i n:=by unfold yx;rw[X3,Wy];simp
theorem Fk (a b k:Nat):(zg a b k).length=k:=by unfold zg;simp
theorem A6 (n a:Nat):∀ j,(xT n a j).length=j*n
 |0=>by simp[xT]
 |j+1=>by rw[xA,SB,A6 n a j,Fk,Xu]
theorem EU (n:Nat):∀ i,(yx n i).length=i*(n*n)
 |0=>by simp[yx]
 |i+1=>by rw[vc,SB,EU n i,A6,Xu]
theorem ES:t∈zg a b k↔t.1=a/\t.2.1=b/\t.2.2<k:=by
 obtain⟨x,y,z⟩:=t;unfold zg;simp only[Ta,U4,Prod.mk.injEq];constructor
 ·rintro⟨c,d,rfl,rfl,rfl⟩;exact⟨O,O,d⟩
 ·rintro⟨d,f,e⟩;exact⟨z,e,d.symm,f.symm,O⟩
theorem EZ:t∈xT n a j↔t.1=a/\t.2.1<j/\t.2.2<n:=by
 unfold xT;simp only[VM,U4,ES];constructor
 ·rintro⟨b,f,c,e,d⟩;exact⟨c,zyA,d⟩
 ·rintro⟨c,e,d⟩;exact⟨t.2.1,e,c,O,d⟩
theorem Kx:t∈yx n i↔t.1<i/\t.2.1<n/\t.2.2<n:=by
 unfold yx;simp only[VM,U4,EZ];constructor
 ·rintro⟨b,e,d,c,a⟩;exact⟨zyA,c,a⟩
 ·rintro⟨d,c,a⟩;exact⟨t.1,d,O,c,a⟩
theorem Ja (h:n<=7)(hi:i<n)(b:j<n)(e:k<=n):(yx n i++xT n i j++zg i j k).length<=343:=by
 rw[SB,SB,EU,A6,Fk];have a:n*n<=49:=Z5 h h;have d:i*(n*n)<=6*49:=Z5 zyA a;have c:j*n<=6*7:=Z5 zyA h;lia
theorem A1 (h:((wm n).map V.int)[i]?=Y x):i<n/\x=.int (i:Int):=by
 rw[Sc] at h;obtain⟨z,e,rfl⟩:=So.mp h;have a:i<(wm n).length:=(R9.mp e).1;rw[km] at a;rw[Dz a] at e;cases e;exact⟨a,O⟩
theorem RP:[a,b,c,d].length<=Sk:=by show 4<=Sk;decide
structure Q3.Wi (c:Q3)(m:Rat):Prop where
 a0:0<=c.a
 a1:c.a<=m
 b0:0<=c.b
 b1:c.b<=m
 c0:0<=c.c
 c1:c.c<=m
def ij (H H':Hp):Prop:=∀ b o,H b=Y o->(∀ a,o≠.dT a)->H' b=Y o
theorem ij.put (h:H d=Y (.dT kvs)):ij H (upd H d (.dT kvs')):=λb o e n=>by
 rw[ar (λz=>by rw[z,h] at e;cases e;exact n _ O)];exact e
theorem ij.cut (h:ij H H'):ij (TR.cut T H) (TR.cut T H'):=λb o e n=>by
 unfold TR.cut at e ⊢
 split at e
 ·cases e
 ·rename_i a
  rw[Sx a];exact h b o e n
theorem Rd.sameD (e:ij H H')(h:Rd H a (.lst xs)):Rd H' a (.lst xs):=by
 rcases h with h|⟨o,h⟩
 ·exact .inl (e _ _ h λ_ z=>nomatch z)
 ·exact .inr ⟨o,e _ _ h λ_ z=>nomatch z⟩
theorem ax.sameD {K:KE}(e:ij H H')(h:ax K H d v):ax K H' d v:=h.all (λ_ _=>Rd.sameD e) (λ_ _ h=>e _ _ h λ_ z=>nomatch z) (λ_ h=>e _ _ h λ_ z=>nomatch z)
theorem aB.sameD {K:KE}(e:ij H H')(h:aB K H ds vs):aB K H' ds vs:=h.all (λ_ _=>Rd.sameD e) (λ_ _ h=>e _ _ h λ_ z=>nomatch z) (λ_ h=>e _ _ h λ_ z=>nomatch z)
theorem cr.sameD (h:cr H t r)(e:ij H H'):cr H' t r:=by
 obtain⟨c,k,b,f,d,a⟩:=h;exact⟨c,k,e _ _ b (λ_ z=>nomatch z),e _ _ f (λ_ z=>nomatch z),d,a⟩
theorem Mv.wide (m:Mv [t,r] H H'):Mv [t,r,d] H H':=λb o e n=>m b o e λz=>n (by
 simp only[R',Sg,TK] at z ⊢;rcases z with z|z
 ·exact .inl z
 ·exact .inr (.inl z))
theorem Io (i j:Int):(if j<i then j else i)=min i j:=by
 by_cases h:j<i
 ·rw[SO h];lia
 ·rw[Sx h];lia
def un:Nat->Kn
 |0=>(1,0,0)
 |1=>(0,1,0)
 |_=>(0,0,1)
def aD (s t:Kn):Kn:=(s.1+t.1,s.2.1+t.2.1,s.2.2+t.2.2)
def be (x y z:Int):Nat->Int
 |0=>x
 |1=>y
 |_=>z
abbrev Pc:=Kn×Int
def JM (p:Pc):Tr:=.tuple [KS p.1,.int p.2]
def jQ (g:Nat->Int)(a:Int)(u v w:Nat):List Pc:=[((0,0,0),a-g u),(un u,g u-g v),(aD (un u) (un v),g v-g w),(aD (aD (un u) (un v)) (un w),g w)]
def ux:List (Nat×Nat×Nat):=[(0,1,2),(0,2,1),(1,0,2),(1,2,0),(2,0,1),(2,1,0)]
theorem DK (h:o∈ux):o.1<3/\o.2.1<3/\o.2.2<3:=by
 simp only[ux,R',Sg,TK] at h;rcases h with rfl|rfl|rfl|rfl|rfl|rfl<;>decide
theorem Nm (h:l.Perm (wm 3)):∃ o∈ux,l=[(o.1:Int),(o.2.1:Int),(o.2.2:Int)]:=by
 have a:l.Perm [0,1,2]:=h;rcases ksk_perm3 a with e|e|e|e|e|e
 ·exact⟨(0,1,2),Z,e⟩
 ·exact⟨(0,2,1),Z,e⟩
 ·exact⟨(1,0,2),Z,e⟩
 ·exact⟨(1,2,0),Z,e⟩
 ·exact⟨(2,0,1),Z,e⟩
 ·exact⟨(2,1,0),Z,e⟩
theorem Fh {x y z:Int}{u:Nat}(h:u<3):Es [V.int x,V.int y,V.int z] (u:Int)=Y (.int (be x y z u)):=by
 match u,h with
 |0,_=>rfl
 |1,_=>rfl
 |2,_=>rfl
theorem nW {x y z:Int}{u:Nat}(h:u<3):[x,y,z].getD (u:Int).toNat 0=be x y z u:=by
 match u,h with
 |0,_=>rfl
 |1,_=>rfl
 |2,_=>rfl
theorem IM {K:KE}{u:Nat}(h:Hq K a [[1,0,0],[0,1,0],[0,0,1]])(e:u<3):∃ (bs:List V) (b:Sd),KT K a bs/\Es bs (u:Int)=Y (.ref b)/\KT K b (tP (un u)):=by
 obtain⟨bs,d,c⟩:=h;cases c with
 |cons k1 c=>
  cases c with
  |cons k2 c=>
   cases c with
   |cons f c=>
    cases c
    match u,e with
    |0,_=>exact⟨_,_,d,O,k1⟩
    |1,_=>exact⟨_,_,d,O,k2⟩
    |2,_=>exact⟨_,_,d,O,f⟩
theorem Do (s t:Kn):(WH (·+·) [(s.1:Int),(s.2.1:Int),(s.2.2:Int)] [(t.1:Int),(t.2.1:Int),(t.2.2:Int)]).map V.int=tP (aD s t):=by
 simp only[W',Xt,Sy,VD,tP,aD,Int.natCast_add]
theorem uI:∀ a:List Pc,ke (a.map JM)=true
 |[]=>rfl
 |p::a=>by
  rw[Sy,ke,uI a];rfl
theorem JL {K:KE}(h:ax K H (JM p) v):∃ a c,v=.ref a/\H a=Y (.tup [.ref c,.int p.2])/\H c=Y (.tup (tP p.1)):=by
 cases h with
 |tup h q=>
  cases q with
  |cons b q=>
   cases q with
   |cons d q=>
    cases d;cases q;obtain⟨c,rfl,e⟩:=qK b;exact⟨_,c,O,h,e⟩
def qz (g:Nat->Int)(a:Int)(k b:Nat):Int:=if b=1 then g k else a-g k
def dU (g:Nat->Int)(a:Int)(t:Kn):Nat->Int
 |0=>1
 |1=>1*qz g a 0 t.1
 |2=>1*qz g a 0 t.1*qz g a 1 t.2.1
 |_=>1*qz g a 0 t.1*qz g a 1 t.2.1*qz g a 2 t.2.2
def dO (g:Nat->Int)(a:Int):List Pc:=(aI 2).map λt=>(t,dU g a t 3)
theorem Hf {x y z a:Int}(e:Sm b x)(f:Sm b y)(hz:Sm b z)(hw:Sm b a)(k c:Nat):Sm (b+1) (qz (be x y z) a k c):=by
 have d:Sm b (be x y z k):=by
  match k with
  |0=>exact e
  |1=>exact f
  |_+2=>exact hz
 unfold qz
 split
 ·exact d.mono zyA
 ·exact hw.sub d
theorem BV {a:Int}(h:∀ k c,Sm (b+1) (qz g a k c))(t:Kn):∀ j,Sm (1+3*(b+1)) (dU g a t j)
 |0=>Sm.mono (k:=1) (show Sm 1 (1:Int) by unfold Sm;decide) zyA
 |1=>((show Sm 1 (1:Int) by unfold Sm;decide).mul (h _ _)).mono zyA
 |2=>(((show Sm 1 (1:Int) by unfold Sm;decide).mul (h _ _)).mul (h _ _)).mono zyA
 |_+3=>((((show Sm 1 (1:Int) by unfold Sm;decide).mul (h _ _)).mul (h _ _)).mul (h _ _)).mono zyA
def Lp (f:Kn->R3)(base:Kn)(h:R3->Int)(a:List Pc):Int:=(WH (·*·) (a.map λp=>h (f (aD base p.1))) (a.map (·.2))).sum
def u6 (f:Kn->R3)(base:Kn)(h:R3->Int)(a:List Pc):Rat:=((Lp f base h a:Int):Rat)/(((a.map (·.2)).sum:Int):Rat)
def GM (f:Kn->R3)(base:Kn)(d:List Pc):Q3:=⟨u6 f base R3.a d,u6 f base R3.b d,u6 f base R3.c d⟩
theorem QZ (h:(GM f base ps).ds[i]?=Y d):∃ g:R3->Int,d=rD (u6 f base g ps)/\i<3/\∀ r:R3,r.vs[i]?=Y (.int (g r)):=by
 rcases qD h with ⟨rfl,rfl⟩|⟨rfl,rfl⟩|⟨rfl,rfl⟩
 ·exact⟨R3.a,O,Z,λr=>rfl⟩
 ·exact⟨R3.b,O,Z,λr=>rfl⟩
 ·exact⟨R3.c,O,Z,λr=>rfl⟩
def fu (n:Nat):Int:=60/((n:Int)-1)
theorem jG (a:2<=n)(b:n<=7):0<fu n/\fu n*((n:Int)-1)=60/\fu n<=60:=(show ∀ m:Nat,m<8->2<=m->0<fu m/\fu m*((m:Int)-1)=60/\fu m<=60 by decide) n zyA a
def dZ (n:Nat)(x:Rat):Rat:=((x.num:Int):Rat)/(((x.den:Int)*fu n:Int):Rat)
def GR (s:Rat):Int:=s.num.fdiv (s.den:Int)
def d_ (n:Nat)(x:Rat):Nat:=(min (GR (dZ n x)) ((n:Int)-2)).toNat
def jU (n:Nat)(x:Rat):Rat:=dZ n x-((d_ n x:Int):Rat)
theorem B9 (a:2<=n)(b:n<=7):((fu n:Int):Rat)≠0:=by
 intro z;have:fu n=0:=by exact_mod_cast z
 have:=(jG a b).1;lia
theorem Bf (d:2<=n)(f:n<=7)(x:Rat):dZ n x=x/((fu n:Int):Rat):=by
 have g:=jE x;have d:=B9 d f;have e:=iQ x;unfold dZ;rw[SE];generalize ((x.num:Int):Rat)=a at *;generalize ((x.den:Int):Rat)=b at *;generalize ((fu n:Int):Rat)=c at *;grind
theorem As (s:Rat):GR s=s.floor:=by
 unfold GR;rw[TW _ (by have:=s.den_pos;lia),Rat.floor_def]
theorem HM (s:Rat):((GR s:Int):Rat)<=s:=by rw[As];exact Rat.floor_le s
theorem Hg (s:Rat):s<((GR s+1:Int):Rat):=by rw[As];exact Rat.lt_floor_add_one s
structure Dv (n:Nat)(x:Rat):Prop where
 n2:2<=n
 n7:n<=7
 lo:0<=x
 hi:x<=((60:Int):Rat)
section
variable {n:Nat}{x:Rat}(h:Dv n x)
include h
theorem MA:0<=dZ n x:=by
 rw[Bf h.n2 h.n7];have a:(0:Rat)<((fu n:Int):Rat):=by exact_mod_cast (jG h.n2 h.n7).1
 refine TX (c:=((fu n:Int):Rat)) ?_ a;rw[UU (B9 h.n2 h.n7),Rat.zero_mul];exact h.lo
theorem Np:dZ n x<=(((n:Int)-1:Int):Rat):=by
 rw[Bf h.n2 h.n7];have a:(0:Rat)<((fu n:Int):Rat):=by exact_mod_cast (jG h.n2 h.n7).1
 have e:((fu n:Int):Rat)*(((n:Int)-1:Int):Rat)=((60:Int):Rat):=by
  rw[<- SE,(jG h.n2 h.n7).2.1]
 refine TX (c:=((fu n:Int):Rat)) ?_ a;rw[UU (B9 h.n2 h.n7),Rat.mul_comm,e];exact h.hi
theorem NP:0<=GR (dZ n x):=by
 rw[As];exact Rat.le_floor_iff.mpr (by simpa using MA h)
theorem uV:((d_ n x:Nat):Int)=min (GR (dZ n x)) ((n:Int)-2):=by
 unfold d_;have a:=NP h;have b:=h.n2;lia
theorem f8:d_ n x+2<=n:=by
 have a:=uV h;have b:=h.n2;lia
theorem kC:0<=jU n x:=by
 unfold jU;have a:=HM (dZ n x);have b:(((d_ n x:Nat):Int):Rat)<=((GR (dZ n x):Int):Rat):=by
  rw[uV h]
  exact_mod_cast Int.min_le_left _ _
 grind
theorem kJ:jU n x<=1:=by
 unfold jU;have a:=Hg (dZ n x);have c:=Np h;rw[uV h]
 by_cases b:GR (dZ n x)<=(n:Int)-2
 ·rw[Int.min_eq_left b];rw[Uj] at a;have e:((1:Int):Rat)=1:=O;grind
 ·rw[Int.min_eq_right zyA];have e:((((n:Int)-1:Int)):Rat)=(((n:Int)-2:Int):Rat)+1:=by
   rw[show((n:Int)-1)=((n:Int)-2)+1 by lia,Uj];rfl
  grind
end
def cS (x y z:Rat):Nat->Rat
 |0=>x
 |1=>y
 |_=>z
def bM (h:Kn->Rat)(p:Nat->Rat)(u v w:Nat):Rat:=h (0,0,0)*(1-p u)+h (un u)*(p u-p v)+h (aD (un u) (un v))*(p v-p w)+h (aD (aD (un u) (un v)) (un w))*p w
def nM (h:Kn->Rat)(x y z:Rat):Rat:=h (0,0,0)*((1-x)*(1-y)*(1-z))+h (0,0,1)*((1-x)*(1-y)*z)+h (0,1,0)*((1-x)*y*(1-z))+h (0,1,1)*((1-x)*y*z) +
 h (1,0,0)*(x*(1-y)*(1-z))+h (1,0,1)*(x*(1-y)*z)+h (1,1,0)*(x*y*(1-z))+h (1,1,1)*(x*y*z)
def yL (p:Nat->Rat)(o:Nat×Nat×Nat):Prop:=o∈ux/\p o.2.1<=p o.1/\p o.2.2<=p o.2.1
def qI (x y z:Rat):Nat×Nat×Nat:=if y<=x then(if z<=y then(0,1,2) else if z<=x then(0,2,1) else(2,0,1)) else(if z<=x then(1,0,2) else if z<=y then(1,2,0) else(2,1,0))
theorem lX (x y z:Rat):yL (cS x y z) (qI x y z):=by
 unfold qI
 split
 ·rename_i c
  split
  ·rename_i b
   exact⟨Z,c,b⟩
  ·rename_i b
   split
   ·rename_i a
    exact⟨Z,a,by show y<=z;grind⟩
   ·rename_i a
    exact⟨Z,by show x<=z;grind,c⟩
 ·rename_i c
  split
  ·rename_i b
   exact⟨Z,by show x<=y;grind,b⟩
  ·rename_i b
   split
   ·rename_i a
    exact⟨Z,a,by show x<=z;grind⟩
   ·rename_i a
    exact⟨Z,by show y<=z;grind,by show x<=y;grind⟩
theorem zy {x y z:Rat}(a:yL (cS x y z) o)(b:yL (cS x y z) o'):bM h (cS x y z) o.1 o.2.1 o.2.2=bM h (cS x y z) o'.1 o'.2.1 o'.2.2:=by
 obtain⟨m,f,n⟩:=a;obtain⟨c,g,k⟩:=b;simp only[ux,R',Sg,TK] at m c;rcases m with rfl|rfl|rfl|rfl|rfl|rfl<;>rcases c with rfl|rfl|rfl|rfl|rfl|rfl <;>
  first|rfl|(simp only[cS,bM,un,aD,SV,SL] at *;generalize h (0,0,0)=l at *;generalize h (1,0,0)=j at *;generalize h (0,1,0)=s at *;generalize h (0,0,1)=d at *;generalize h (1,1,0)=i at *;generalize h (1,0,1)=p at *;generalize h (0,1,1)=r at *;generalize h (1,1,1)=q at *;first|(have e:x=y:=(by grind);subst e;first|grind|(have e:x=z:=(by grind);subst e;grind))|(have e:y=z:=(by grind);subst e;grind)|(have e:x=z:=(by grind);subst e;grind))
theorem HS {x y z B:Int}{X zzW a:Rat} (o:(B:Rat) ≠ 0) (d:(x:Rat)=X * (B:Rat)) (i:(y:Rat)=zzW * (B:Rat)) (hz:(z:Rat)=a * (B:Rat)) :
  u6 f base g (jQ (be x y z) B u v w)=bM (λt=>((g (f (aD base t)):Int):Rat)) (cS X zzW a) u v w:=by
 have c:∀ k,((be x y z k:Int):Rat)=cS X zzW a k*(B:Rat):=λk=>by
  match k with
  |0=>exact d
  |1=>exact i
  |_+2=>exact hz
 have j:=c u;have h:=c v;have hw:=c w;unfold u6 Lp jQ bM;simp only[Sy,VD,W',Xt,XS,Zy,Uj,SE,Tt];rw[j,h,hw];have e:((0:Int):Rat)=0:=O;rw[e];generalize ((g (f (aD base (0,0,0))):Int):Rat)=m;generalize ((g (f (aD base (un u))):Int):Rat)=l;generalize ((g (f (aD base (aD (un u) (un v)))):Int):Rat)=n;generalize ((g (f (aD base (aD (aD (un u) (un v)) (un w)))):Int):Rat)=s;generalize cS X zzW a u=p;generalize cS X zzW a v=q;generalize cS X zzW a w=r;generalize (B:Rat)=b at *;grind
theorem C6:aI 2=[(0,0,0),(0,0,1),(0,1,0),(0,1,1),(1,0,0),(1,0,1),(1,1,0),(1,1,1)]:=Z
theorem vi {B:Int}:((jQ g B u v w).map (·.2)).sum=B:=by
 unfold jQ;simp only[Sy,VD,XS,Zy];lia
theorem sY {x y z B:Int}:((dO (be x y z) B).map (·.2)).sum=B*B*B:=by
 unfold dO;rw[C6];have a:¬ (0:Nat)=1:=Z
 simp only[Sy,VD,XS,Zy,dU,qz,Sx a,VF,be];grind
theorem Gy {x y z B:Int}{X zzW a:Rat} (k:(B:Rat) ≠ 0) (d:(x:Rat)=X * (B:Rat)) (e:(y:Rat)=zzW * (B:Rat)) (hz:(z:Rat)=a * (B:Rat)) :
  u6 f base g (dO (be x y z) B)=nM (λt=>((g (f (aD base t)):Int):Rat)) X zzW a:=by
 have h:((Lp f base g (dO (be x y z) B):Int):Rat)=nM (λt=>((g (f (aD base t)):Int):Rat)) X zzW a*((B:Rat)*(B:Rat)*(B:Rat)):=by
  unfold Lp dO nM;rw[C6];have c:¬ (0:Nat)=1:=Z
  simp only[Sy,VD,W',Xt,XS,Zy,dU,qz,Sx c,VF,be,Uj,SE,Tt];rw[d,e,hz];have j:((0:Int):Rat)=0:=O;have i:((1:Int):Rat)=1:=O;rw[j,i];clear d e hz k;generalize ((g (f (aD base (0,0,0))):Int):Rat)=n;generalize ((g (f (aD base (0,0,1))):Int):Rat)=l;generalize ((g (f (aD base (0,1,0))):Int):Rat)=o;generalize ((g (f (aD base (0,1,1))):Int):Rat)=q;generalize ((g (f (aD base (1,0,0))):Int):Rat)=s;generalize ((g (f (aD base (1,0,1))):Int):Rat)=m;generalize ((g (f (aD base (1,1,0))):Int):Rat)=p;generalize ((g (f (aD base (1,1,1))):Int):Rat)=r;generalize (B:Rat)=b;grind
 unfold u6;rw[h,sY,SE,SE];refine aat λz=>?_
 generalize (B:Rat)=b at *;grind
def qe (n:Nat)(c:Q3):Kn:=(d_ n c.a,d_ n c.b,d_ n c.c)
def tQ (n:Nat)(f:Kn->R3)(c:Q3)(g:R3->Int)(t:Kn):Rat:=((g (f (aD (qe n c) t)):Int):Rat)
def pC (n:Nat)(c:Q3):Nat->Rat:=cS (jU n c.a) (jU n c.b) (jU n c.c)
def md (n:Nat)(f:Kn->R3)(c:Q3)(g:R3->Int):Rat:=bM (tQ n f c g) (pC n c) (qI (jU n c.a) (jU n c.b) (jU n c.c)).1 (qI (jU n c.a) (jU n c.b) (jU n c.c)).2.1 (qI (jU n c.a) (jU n c.b) (jU n c.c)).2.2
def rN (n:Nat)(f:Kn->R3)(c:Q3)(g:R3->Int):Rat:=nM (tQ n f c g) (jU n c.a) (jU n c.b) (jU n c.c)
def W4 (n:Nat)(f:Kn->R3)(c:Q3):Q3:=⟨md n f c R3.a,md n f c R3.b,md n f c R3.c⟩
def W8 (n:Nat)(f:Kn->R3)(c:Q3):Q3:=⟨rN n f c R3.a,rN n f c R3.b,rN n f c R3.c⟩
theorem JP (h:yL (pC n c) o):bM (tQ n f c g) (pC n c) o.1 o.2.1 o.2.2=md n f c g:=zy h (lX _ _ _)
theorem Eo:∀ {l:List Int},(∀ x∈l,Sm m x)->Sm (m+l.length) l.sum
 |[],_=>Sm.mono (k:=0) (show Sm 0 (0:Int) by unfold Sm;decide) (Tn _)
 |x::l,h=>by
  rw[XS,TL];exact(Sm.add ((h x Sz).mono (VN m l.length)) (Eo λy a=>h y (R_ _ a))).mono zyA
theorem qC {r:R3}(h:r.Wt):Sm 10 r.a/\Sm 10 r.b/\Sm 10 r.c:=by
 obtain⟨e,g,f,d,c0,c1⟩:=h;refine⟨?_,?_,?_⟩<;>(unfold Sm;lia)
theorem IL {n:Nat}{f:Kn->R3}{base:Kn}{g:R3->Int}{b:List Pc}{m:Nat}(hw:∀ p∈b,Sm 10 (g (f (aD base p.1))))(e:∀ p∈b,Sm m p.2)(h:(b.map (·.2)).sum≠0):Bq (10+m+b.length) (u6 f base g b):=by
 refine eK h ?_ ?_
 ·have d:∀ x∈WH (·*·) (b.map λp=>g (f (aD base p.1))) (b.map (·.2)),Sm (10+m) x:=λx c=>by
   rw[List.zipWith_map_left,List.zipWith_map_right,List.zipWith_self] at c;obtain⟨p,a,rfl⟩:=Ta.mp c;exact(hw p a).mul (e p a)
  have:=Eo d;rw[List.length_zipWith,R5,R5,Nat.min_self] at this;exact this
 ·have d:∀ x∈b.map (·.2),Sm m x:=λx c=>by
   obtain⟨p,a,rfl⟩:=Ta.mp c;exact e p a
  have:=Eo d;rw[R5] at this;exact this.mono zyA
def Q3.lst (q:Q3):Tr:=.list q.ds
theorem M0 {y:Rat}(c:2<=n)(e:n<=7)(h:Bq k y):Bq (k+6) (dZ n y):=by
 obtain⟨a,b,d⟩:=jG c e;exact eK (Tx h.ne zyA) (h.sn.mono zyA) (h.sd.mul (show Sm 6 (fu n) by unfold Sm;lia))
theorem Dt {y:Rat}(a:Dv n y)(h:Bq k y):Bq (k+10) (jU n y):=by
 have b:=M0 a.n2 a.n7 h;have c:Bq 3 (((d_ n y:Nat):Int):Rat):=kQ (by have:=f8 a;have:=a.n7;unfold Sm;lia) Z;exact Ok.mono (Bq.sub b c) zyA
def BQ (u v r:Rat):Rat:=u+r*(v-u)
def IB (h:Kn->Rat)(z:Rat)(a b:Nat):Rat:=BQ (h (a,b,0)) (h (a,b,1)) z
def J' (h:Kn->Rat)(y z:Rat)(a:Nat):Rat:=BQ (IB h z a 0) (IB h z a 1) y
theorem wd (h:Kn->Rat)(x y z:Rat):BQ (J' h y z 0) (J' h y z 1) x=nM h x y z:=by
 unfold J' IB BQ nM;generalize h (0,0,0)=d;generalize h (1,0,0)=e;generalize h (0,1,0)=g;generalize h (0,0,1)=f;generalize h (1,1,0)=b;generalize h (1,0,1)=c;generalize h (0,1,1)=a;generalize h (1,1,1)=i;grind
theorem lK {K:KE}(h:aB K H [d1,d2] xs):∃ x y,xs=[x,y]/\ax K H d1 x/\ax K H d2 y:=by
 cases h with
 |cons b h=>
  cases h with
  |cons a h=>
   cases h;exact⟨_,_,O,b,a⟩
def G0 (o:Nat×Nat×Nat):Nat->Nat
 |0=>o.1
 |1=>o.2.1
 |_=>o.2.2
def On (o:Nat×Nat×Nat):Nat->Kn
 |0=>(0,0,0)
 |i+1=>aD (On o i) (un (G0 o i))
theorem MY (h:o∈ux)(hi:i<=3):(On o i).1<=1/\(On o i).2.1<=1/\(On o i).2.2<=1:=by
 simp only[ux,R',Sg,TK] at h
 match i,hi with
 |0,_=>rcases h with rfl|rfl|rfl|rfl|rfl|rfl<;>decide
 |1,_=>rcases h with rfl|rfl|rfl|rfl|rfl|rfl<;>decide
 |2,_=>rcases h with rfl|rfl|rfl|rfl|rfl|rfl<;>decide
 |3,_=>rcases h with rfl|rfl|rfl|rfl|rfl|rfl<;>decide
theorem Ru (t:Kn):aD (0,0,0) t=t:=by
 simp only[aD,SL]
theorem qN {K:KE}(r:R3):aB K H r.ds r.vs:=.cons (.int _) (.cons (.int _) (.cons (.int _) .nil))
def uR (n:Nat)(t:Kn):Q3:=⟨((fu n*t.1:Int):Rat),((fu n*t.2.1:Int):Rat),((fu n*t.2.2:Int):Rat)⟩
theorem Q5 (h:u.1<=1/\u.2.1<=1/\u.2.2<=1):u∈aI 2:=bA.mpr zyA
theorem Df (q:2<=n)(m:n<=7)(r:t∈aI n):(uR n t).Wi ((60:Int):Rat)/\(uR n t).Bd 17:=by
 obtain⟨u,c,s⟩:=jG q m;obtain⟨b,k,o⟩:=bA.mp r;have one:∀ {i:Nat},i<n->(0:Rat)<=((fu n*(i:Int):Int):Rat)/\((fu n*(i:Int):Int):Rat)<=((60:Int):Rat)/\Bq 17 ((fu n*(i:Int):Int):Rat):=λ{i} v=>by
  have d:0<=fu n*(i:Int):=U3 zyA zyA;have g:fu n*(i:Int)<=60:=by
   rw[<- c];exact Int.mul_le_mul_of_nonneg_left zyA zyA
  exact⟨by exact_mod_cast d,by exact_mod_cast g,kQ (by unfold Sm;lia) Z⟩
 obtain⟨e,j,l⟩:=one b;obtain⟨f,h,a⟩:=one k;obtain⟨c1,c2,p⟩:=one o;exact⟨⟨e,j,f,h,c1,c2⟩,⟨l,a,p⟩⟩
def lA (h:Kn->Rat)(x y z:Rat):Rat:=bM h (cS x y z) (qI x y z).1 (qI x y z).2.1 (qI x y z).2.2
theorem eF {x y z:Rat}(a:yL (cS x y z) o):lA h x y z=bM h (cS x y z) o.1 o.2.1 o.2.2:=(zy (h:=h) a (lX x y z)).symm
theorem Qj {y z:Rat}(a:0<=y)(b:y<=1)(d:0<=z)(e:z<=1):lA h 1 y z=lA (λt=>h (aD t (1,0,0))) 0 y z:=by
 by_cases c:z<=y
 ·rw[eF (o:=(0,1,2)) ⟨Z,b,c⟩,eF (o:=(1,2,0)) ⟨Z,c,d⟩];simp only[bM,cS,un,aD,SV,SL];grind
 ·rw[eF (o:=(0,2,1)) ⟨Z,e,by show y<=z;grind⟩,eF (o:=(2,1,0)) ⟨Z,by show y<=z;grind,a⟩];simp only[bM,cS,un,aD,SV,SL];grind
theorem Qn {x z:Rat}(e:0<=x)(a:x<=1)(b:0<=z)(d:z<=1):lA h x 1 z=lA (λt=>h (aD t (0,1,0))) x 0 z:=by
 by_cases c:z<=x
 ·rw[eF (o:=(1,0,2)) ⟨Z,a,c⟩,eF (o:=(0,2,1)) ⟨Z,c,b⟩];simp only[bM,cS,un,aD,SV,SL];grind
 ·rw[eF (o:=(1,2,0)) ⟨Z,d,by show x<=z;grind⟩,eF (o:=(2,0,1)) ⟨Z,by show x<=z;grind,e⟩];simp only[bM,cS,un,aD,SV,SL];grind
theorem Qe {x y:Rat}(e:0<=x)(a:x<=1)(b:0<=y)(d:y<=1):lA h x y 1=lA (λt=>h (aD t (0,0,1))) x y 0:=by
 by_cases c:y<=x
 ·rw[eF (o:=(2,0,1)) ⟨Z,a,c⟩,eF (o:=(0,1,2)) ⟨Z,c,b⟩];simp only[bM,cS,un,aD,SV,SL];grind
 ·rw[eF (o:=(2,1,0)) ⟨Z,d,by show x<=y;grind⟩,eF (o:=(1,0,2)) ⟨Z,by show x<=y;grind,e⟩];simp only[bM,cS,un,aD,SV,SL];grind
theorem Nw {x p:Rat}(a:2<=n)(f:n<=7)(m:b+2<=n)(j:0<=p)(l:p<=1)(g:x=(((b:Nat):Int)+p)*((fu n:Int):Rat)):(d_ n x=b/\jU n x=p)\/(p=1/\d_ n x=b+1/\jU n x=0):=by
 have e:dZ n x=((b:Nat):Int)+p:=by
  rw[Bf a f,g];exact aat (B9 a f)
 by_cases h:p=1
 ·subst h;have c:GR (((b:Nat):Int)+(1:Rat))=(b:Int)+1:=by
   rw[As,show(((b:Nat):Int):Rat)+1=(((b:Int)+1:Int):Rat) by rw[Uj];rfl,Rat.floor_intCast]
  unfold jU d_;rw[e,c]
  by_cases d:b+3<=n
  ·refine .inr ⟨O,zyA,?_⟩;rw[show(((min ((b:Int)+1) ((n:Int)-2)).toNat:Nat):Int)=(b:Int)+1 by lia,Uj];have:((1:Int):Rat)=1:=O;grind
  ·refine .inl ⟨zyA,?_⟩;rw[show(((min ((b:Int)+1) ((n:Int)-2)).toNat:Nat):Int)=(b:Int) by lia];grind
 ·have c:GR (((b:Nat):Int)+p)=(b:Int):=by
   have k:=HM (((b:Nat):Int)+p);have i:=Hg (((b:Nat):Int)+p);generalize GR (((b:Nat):Int)+p)=z at *;have d:(((z:Int)):Rat)<(((b:Int)+1:Int):Rat):=by
    rw[Uj];have:((1:Int):Rat)=1:=O;grind
   have a:(((b:Int)):Rat)<((z+1:Int):Rat):=by grind
   have d:z<(b:Int)+1:=by exact_mod_cast d
   have a:(b:Int)<z+1:=by exact_mod_cast a
   lia
  unfold jU d_;rw[e,c];refine .inl ⟨zyA,?_⟩;rw[show(((min (b:Int) ((n:Int)-2)).toNat:Nat):Int)=(b:Int) by lia];grind
theorem HA {x y z:Rat} (B:2 <= n) (A:n <= 7) (D:b.1 + 2 <= n) (bb:b.2.1 + 2 <= n) (H:b.2.2 + 2 <= n) (p:0 <= x) (q:x <= 1) (k:0 <= y) (l:y <= 1) (h:0 <= z) (i:z <= 1)
  (E:c.a=(((b.1:Nat):Int)+x)*((fu n:Int):Rat))(G:c.b=(((b.2.1:Nat):Int)+y)*((fu n:Int):Rat))(I:c.c=(((b.2.2:Nat):Int)+z)*((fu n:Int):Rat)):
  md n f c g=lA (λt=>((g (f (aD b t)):Int):Rat)) x y z:=by
 have o:(0:Rat)<=0:=by grind
 have m:(0:Rat)<=1:=by grind
 show lA (tQ n f c g) (jU n c.a) (jU n c.b) (jU n c.c)=_;obtain⟨u,v,s⟩:=b;have j:∀ {s1 s2 s3:Nat},d_ n c.a=u+s1->d_ n c.b=v+s2->d_ n c.c=s+s3->tQ n f c g=λt=>((g (f (aD (u,v,s) (aD t (s1,s2,s3)))):Int):Rat):=λ{s1 s2 s3} d r F=>by
  funext t
  show((g (f (d_ n c.a+t.1,d_ n c.b+t.2.1,d_ n c.c+t.2.2)):Int):Rat)=((g (f (u+(t.1+s1),v+(t.2.1+s2),s+(t.2.2+s3))):Int):Rat)
  rw[d,r,F,Y2,Y2,Y2,VE s1,VE s2,VE s3]
 rcases Nw B A D p q E with ⟨e,C⟩|⟨rfl,e,C⟩<;>rcases Nw B A bb k l G with ⟨d1,d2⟩|⟨rfl,d1,d2⟩<;>rcases Nw B A H h i I with ⟨d,r⟩|⟨rfl,d,r⟩<;>rw[C,d2,r]
 ·rw[j (s1:=0) (s2:=0) (s3:=0) e d1 d];rfl
 ·rw[j (s1:=0) (s2:=0) (s3:=1) e d1 d,Qe p q k l]
 ·rw[j (s1:=0) (s2:=1) (s3:=0) e d1 d,Qn p q h i]
 ·rw[j (s1:=0) (s2:=1) (s3:=1) e d1 d,Qn p q h i,Qe p q o m];rfl
 ·rw[j (s1:=1) (s2:=0) (s3:=0) e d1 d,Qj k l h i]
 ·rw[j (s1:=1) (s2:=0) (s3:=1) e d1 d,Qj k l h i,Qe o m k l];rfl
 ·rw[j (s1:=1) (s2:=1) (s3:=0) e d1 d,Qj k l h i,Qn o m h i];rfl
 ·rw[j (s1:=1) (s2:=1) (s3:=1) e d1 d,Qj k l h i,Qn o m h i,Qe o m o m];rfl
def NY (o:Nat×Nat×Nat)(k:Nat):Nat:=if o.1=k then 0 else if o.2.1=k then 1 else 2
def QH (F:Kn->Rat)(b:Option Kn)(t:Kn):Option Kn:=match b with
 |none=>Y t
 |some u=>if F t<F u then Y t else Y u
def Qr (F:Kn->Rat)(ts:List Kn):Option Kn:=ts.foldl (QH F) none
end TR
namespace PySem
section
variable {prog:SA}{w:Te}{A:Tf}{E:RV->RZ->Prop}{s:RZ}{d it:Sd}{es:Array Uv}{i ep:Nat}
theorem Hx (hh:A.handled=none) (c:s.heap.IsKeyIter it d i es.size ep) (p:s.heap.RawD d es ep) (k:es.size <= i)
  (l:∀ h',Xd it s.heap h'->Q none { s with heap:=h' }):Sb (SD prog w) A (U_ (.ref it)) Q E s:=by
 obtain⟨o,j,r,h⟩:=id c;obtain⟨q,e,n,g⟩:=id p;have f:Ut "dict_keyiterator"=false:=Z
 unfold U_;refine HD (UA (SI (name:=TJ "__next__") c.typeIs Uu
  (SZ Uu c.typeIs XB ?_ (Xq _))))
 refine HD (RT (HD (HD ?_)))
 first|refine HD (U1 c.typeIs (RT ?_))|refine HD (Vz c.typeIs (RT ?_))
 refine HD (Wp j h ?_);simp only[f,Tc,UX];show Sb _ _ (if(SC d==Tv)=true then _ else _) _ _ s;rw[Sx (show ¬ ((SC d==Tv)=true) from Tg)];refine HD (RT (HD (Ub e g ?_)));rw[Sx zyB];refine HD (RT (HD (Wc e g ?_)));rw[Sx zyB];refine RT ?_;simp only[show ¬ ((i:Int)<0) from by lia,UX,SQ,Ze k];refine HD ?_
 first|refine HD (U1 c.typeIs (RT ?_))|refine HD (Vz c.typeIs (RT ?_))
 show Sb _ _ (aaB (.ref it) 0 .none>>=_) _ _ s;refine HD (UN j h zyB ?_);show Sb _ _ (abm (.type "StopIteration") []>>=_) _ _ _;refine HD ?_;simp only[abm,newTuple];refine HD (Tj ?_ (by size_fits));refine HD (m:=Vn _ _) (Za (a:=Tv) (by first|rfl|(simp only[Vn];rfl)) ?_);refine Tj ?_ (by size_fits);simp only[raiseNew];refine HD (Y_ ?_);rw[show A.in1.handled=none from hh];refine HD (RT (aai ?_));refine HD (U0 (T:="StopIteration") (b:=true) ⟨_,RW _ O,O⟩ Wo ?_);exact RT (l _ (((SH ..).extBut.push _).push _))
theorem KP (a:s.heap.IsKeyIter it d i es.size ep) (m:s.heap.RawD d es ep) (k:es[i]?=Y e)
  (p:∀ h',h'.IsKeyIter it d (i+1) es.size ep->S_ it s.heap h'->Q (Y e.key) { s with heap:=h' }):Sb (SD prog w) A (U_ (.ref it)) Q E s:=by
 obtain⟨o,j,n,h⟩:=id a;obtain⟨q,c,l,g⟩:=id m;have f:Ut "dict_keyiterator"=false:=Z
 unfold U_;refine HD (UA (SI (name:=TJ "__next__") a.typeIs Uu
  (SZ Uu a.typeIs XB ?_ (Xq _))))
 refine HD (RT (HD (HD ?_)))
 first|refine HD (U1 a.typeIs (RT ?_))|refine HD (Vz a.typeIs (RT ?_))
 refine HD (Wp j h ?_);simp only[f,Tc,UX];show Sb _ _ (if(SC d==Tv)=true then _ else _) _ _ s;rw[Sx (show ¬ ((SC d==Tv)=true) from Tg)];refine HD (RT (HD (Ub c g ?_)));rw[Sx zyB];refine HD (RT (HD (Wc c g ?_)));rw[Sx zyB];refine RT ?_;simp only[show ¬ ((i:Int)<0) from by lia,UX,SQ,k];refine HD ?_
 first|refine HD (U1 a.typeIs (RT ?_))|refine HD (Vz a.typeIs (RT ?_))
 refine HD (wpAny_isOneOf_keyiter a.typeIs ?_);show Sb _ _ (aaB (.ref it) 1 (UD ((i:Int)+1))>>=_) _ _ s;refine HD (UN j h zyB ?_);have b:(s.heap.update it (aaq (·.setIfInBounds 1 (UD ((i:Int)+1))))).IsKeyIter it d (i+1) es.size ep:=
  ⟨_,SK _ j (UO (Tz h _)),(Wl ..).trans n,by rw[Tz h];simp[UD]⟩
 refine HD (TC ?_);refine HD (wpAny_isOneOf_keyiter (s:={ s with heap:=s.heap.update it (aaq (·.setIfInBounds 1 (UD ((i:Int)+1)))) }) b.typeIs ?_);show Sb _ _ (pure e.key) _ _ _;exact RT (RT ⟨_,O,RT (p _ b (SH ..))⟩)
end
section
variable {prog:SA}{w:Te}{A:Tf}{E:RV->RZ->Prop}{s:RZ}{d:Sd}{es:Array Uv}{ep:Nat}
theorem Gn (g:(d == Ua)=false) (c:s.heap.RawD d es ep)
  (f:Q (.ref s.heap.objs.size) { s with heap:=s.heap.push { cls:=.type "dict_keyiterator",data:=.fields #[.ref d,.int 0 0,.int es.size 0,.int ep 0] } }):Sb (SD prog w) A (Z8 (.ref d)) Q E s:=by
 obtain⟨o,e,h,a⟩:=id c;have b:s.TypeIs (.ref d) "dict":=c.typeIs;refine Xn b Zb (SZ Zb b F.entry_dict_iter ?_ (F.args_dict_iter_1 _));unfold Va.«dict.__iter__»;refine HD ?_;unfold Builtin.Dict.dictSlotNone;refine HD (XA b ?_);show Sb _ _ (pure (SC d)) _ _ s;refine RT ?_;show Sb _ _ (V4 d>>=_) _ _ s;unfold V4;rw[Sx (by rw[g];exact Tg)];refine HD (RT (HD (Ub e a (HD (Wc e a ?_)))));refine HD (Tj (RT ⟨_,O,"dict_keyiterator",_,⟨_,RW _ O,O⟩,Uu.lookup,?_⟩))
 simpa [UD] using f
end
end PySem
namespace TR
open PySem PySem.Spec PyProof.Rows L2
def QJ (d:Sd)(o:Obj)(kvs:List (List iB×V)):It:=
 ⟨λi H=>H d=Y (.frz o (.dT kvs))/\i<kvs.length,
  λi H v b=>∃ (k:List iB) (x:V) (a:Sd),kvs[i]?=Y (k,x)/\H a=Y (.tup (k.map kV))/\v=.ref a/\b=H,
  λi H=>H d=Y (.frz o (.dT kvs))/\kvs.length<=i⟩
theorem GJ {K:KE}{ep:Nat} (C:o.data=.dict es ep) :
  yc P w K tg (QJ d o kvs) [it] it (λi h=>h.IsKeyIter it d i es.size ep) where
 mem:=zyB
 obj:=λi h st b j=>by
  cases RY.mp j;obtain⟨o,e,c,m⟩:=st;exact⟨o,e,λv z=>by rw[m] at z;cases z⟩
 keep:=λi h n st k=>by
  obtain⟨o,e,c,m⟩:=st;exact⟨o,k it zyB o e,c,m⟩
 item:=by
  intro X A hw x G i f s F H E I p st B;subst A hw x;obtain⟨q,t⟩:=B;obtain⟨g,y,r⟩:=uY C (I.hok d _ q);obtain⟨e,D,u,e1,L,e3,T,e5⟩:=r i _ _ (Sf t);obtain⟨f0,Q,f2,N,M,f5⟩:=p it zyB;refine KP st g e1 λn l J=>?_
  have I1:aK X f F H { s with heap:=n }:=I.turned (t':=s.toks) (λb o j e=>(J.2 b j).trans e) f0 Q N M f5;obtain⟨oi,ei,c,m⟩:=id l;refine⟨e.key,O,EH (s:={ s with heap:=n }) ei c m Z ⟨.ref D,H,I1,by rw[L];rfl,⟨kvs[i].1,kvs[i].2,D,Sf t,T,O,O⟩,l,λb j=>(p b j).1⟩⟩
 done:=by
  intro X A hw x G i f s F H E I p st B;subst A hw x;obtain⟨q,t⟩:=B;obtain⟨g,y,_⟩:=uY C (I.hok d _ q);have a:=p it zyB;exact Hx (I.ok.hd G) st g zyA λn ex=>⟨O,I.turned (it:=it) (t':=s.toks) (λb o j e=>ex b o j e) a.1 a.2.1 a.2.2.2.1 a.2.2.2.2.1 a.2.2.2.2.2⟩
 self:=λ_ _ _ _ _ st h=>wpAny_pyIter_keyiter st h
section
variable {X:Cx}
def O5 (to:TE):TI:=λc H R=>to c H λx b=>∃ d a,x=.ref d/\b d=Y (.dT a)/\∀ o,R (QJ d o a) (upd b d (.frz o (.dT a)))
theorem Hz (k:WE X o to):WI X tg o (O5 to):=by
 have k:=k.go;refine⟨?_⟩;intro f s C H R I h;refine cu (k f s C H _ I h) λv i g=>?_;obtain⟨x,L,m,y,A⟩:=g
 obtain⟨d,n,rfl,l,q⟩:=A;cases y;obtain⟨z,r,vs,F,D⟩:=qO m.hok (.inl l);obtain⟨J,N,c,E⟩:=Heap.RawD.of D;obtain⟨t,G,j⟩:=vz m l;obtain⟨M,a,_,p⟩:=id c;rw[G] at a;cases a;refine Gn r c ?_;refine⟨i.heap.objs.size,[i.heap.objs.size],_,_,_,O,j.kept (t':=i.toks) λb u e=>RS _ e,GJ p,⟨_,RW _ O,O,O⟩,λb B=>?_,q t⟩;cases RY.mp B;exact j.fpOk (R0 _) (j.hok.fresh (R0 _))
def O3 (t:TS):TS:=λD e H=>∃ d a,H d=Y (.dT a)/\t { nx:=λc b=>∃ o,b d=Y (.frz o (.dT a))/\D.nx c (upd b d (.dT a)),rt:=λv b=>∃ o,b d=Y (.frz o (.dT a))/\D.rt v (upd b d (.dT a)) } e H
theorem JQ {st:T6}{t:TS}(h:WS X st t):WS X st (O3 t):=by
 have h:=h.go;refine⟨?_⟩;intro b s n H D I q;obtain⟨d,k,l,q⟩:=q;have j:∀ o w,X.H₀ d≠Y (.frz o w):=λo w z=>by
  have:=I.base.frzs d o w z;rw[l] at this;cases this
 refine cu (h b s n H _ I q) λf r c=>?_
 cases f with
 |next=>
  obtain⟨a,p,i,o,e,g⟩:=c;exact⟨a,_,vA i e j,g⟩
 |brk=>exact(let ⟨_,_,_,z⟩:=c;z.elim)
 |cont=>exact(let ⟨_,_,_,z⟩:=c;z.elim)
 |ret u=>
  obtain⟨v,a,p,i,m,o,e,g⟩:=c;exact⟨v,a,_,vA i e j,m,g⟩
end
theorem J5 (b:Nat->L2.St->Hp->Prop) (t:b 0 a H) (j:∀ i a H,i <= kvs.length->b i a H->H d=Y (.frz o (.dT kvs)))
  (A:∀ i k x f a H,kvs[i]?=Y (k,x)->H f=Y (.tup (k.map kV))->b i a H->g (.ref f) a H λh q=>tb { D with nx:=b (i+1),ct:=b (i+1),bk:=D.nx } h q)(u:∀ a H,b kvs.length a H->D.nx a H):N8 (QJ d o kvs) g tb D a H:=by
 refine⟨λi m a H=>m=kvs.length-i/\i<=kvs.length/\b i a H,⟨kvs.length,zyA,Tn _,t⟩,?_⟩;rintro i m a H ⟨rfl,l,p⟩
 by_cases c:i<kvs.length
 ·refine .inr ⟨⟨j i a H l p,c⟩,b (i+1),λv z s=>⟨kvs.length-(i+1),zyA,O,c,s⟩,?_⟩;rintro x z ⟨k,y,f,r,n,rfl,rfl⟩;exact A i k y f a _ r n p
 ·have e:i=kvs.length:=zyA
  subst e;exact .inl ⟨⟨j _ a H l p,R0 _⟩,u a H p⟩
def MU (x y:Int):Int:=if x-y<0 then -(x-y) else x-y
def yj (r s:R3):List Int:=[MU r.a s.a,MU r.b s.b,MU r.c s.c]
def ED (n:Nat)(t:Kn)(k:Nat):Kn:=if aD t (un k)∈aI n then aD t (un k) else t
def qp (n:Nat)(f:Kn->R3)(t:Kn):List Int:=yj (f t) (f (ED n t 0))++yj (f t) (f (ED n t 1))++yj (f t) (f (ED n t 2))
structure kD (l:List Int)(m:Int):Prop where
 nn:0<=m
 le:∀ x∈l,x<=m
 at_:m=0\/m∈l
theorem kD.nil:kD [] 0:=⟨Z,λ_ h=>(Sg h).elim,.inl rfl⟩
theorem kD.app {m b:Int}(h:kD l m)(le:∀ x∈m::k,x<=b)(c:b∈m::k):kD (l++k) b:=by
 have d:=le m zyB;refine⟨Yl h.nn d,λx a=>?_,?_⟩
 ·rcases S8.mp a with a|a
  ·exact Yl (h.le x a) d
  ·exact le x (by simp[a])
 ·rcases R'.mp c with rfl|e
  ·rcases h.at_ with z|z
   ·exact .inl z
   ·exact .inr (UC _ z)
  ·exact .inr (Sj _ e)
theorem kD.perm {m:Int}(h:kD l m)(e:∀ x,x∈l↔x∈k):kD k m:=⟨h.nn,λx a=>h.le x ((e x).mpr a),h.at_.imp id (e m).mp⟩
theorem kD.uniq {m a:Int}(h:kD l m)(g:kD l a):m=a:=by
 have b:m<=a:=by
  rcases h.at_ with z|z
  ·rw[z];exact g.nn
  ·exact g.le m z
 have c:a<=m:=by
  rcases g.at_ with z|z
  ·rw[z];exact h.nn
  ·exact h.le a z
 lia
theorem OR (s:2<=n)(t:n<=7)(J:Db n f)(d:c.Wi ((60:Int):Rat))(u:c.Bd k):(W4 n f c).Bd (6*k+120):=by
 have p:Dv n c.a:=⟨s,t,d.a0,d.a1⟩
 have m:Dv n c.b:=⟨s,t,d.b0,d.b1⟩
 have o:Dv n c.c:=⟨s,t,d.c0,d.c1⟩
 have A:=Dt p u.a;have C:=Dt m u.b;have G:=Dt o u.c;have B:=f8 p;have F:=f8 m;have H:=f8 o;have e:∀ j,Bq (k+10) (pC n c j):=λj=>by
  match j with
  |0=>exact A
  |1=>exact C
  |_+2=>exact G
 have one:Bq 1 (1:Rat):=by
  rw[show(1:Rat)=((1:Int):Rat) from rfl];exact kQ (by unfold Sm;decide) Z
 have I:=lX (jU n c.a) (jU n c.b) (jU n c.c);have h:∀ {g:R3->Int},(∀ r:R3,r.Wt->Sm 10 (g r))->Bq (6*k+120) (md n f c g):=λ{g} E=>by
  have q:∀ i,i<=3->Bq 10 (tQ n f c g (On (qI (jU n c.a) (jU n c.b) (jU n c.c)) i)):=λi D=>by
   refine kQ (E _ (J _ (bA.mpr ?_))) Z;have:=MY I.1 D;show d_ n c.a+_<n/\d_ n c.b+_<n/\d_ n c.c+_<n;refine⟨?_,?_,?_⟩<;>lia
  have y:=q 0 Z;have x:=q 1 Z;have z:=q 2 Z;have v:=q 3 Z;simp only[On,G0,Ru] at y x z v;unfold md bM;refine Ok.mono (Bq.add (Bq.add (Bq.add (Bq.mul y (Bq.sub one (e _))) (Bq.mul x (Bq.sub (e _) (e _)))) (Bq.mul z (Bq.sub (e _) (e _)))) (Bq.mul v (e _))) zyA
 exact⟨h λr l=>(qC l).1,h λr l=>(qC l).2.1,h λr l=>(qC l).2.2⟩
def N4 (t:Kn):Nat->Nat
 |0=>t.1
 |1=>t.2.1
 |_=>t.2.2
def mI (o:Nat×Nat×Nat)(t:Kn):Kn:=(N4 t o.1,N4 t o.2.1,N4 t o.2.2)
def Qt (o:Nat×Nat×Nat):Nat×Nat×Nat:=(NY o 0,NY o 1,NY o 2)
def fT (o:Nat×Nat×Nat)(f:Kn->R3)(t:Kn):R3:=f (mI (Qt o) t)
theorem yZ.more {K:KE}(b:H d=Y (.dT (lf ts vs)))(h:aB K H (ts.map λt=>wD (f t)) vs)(e:t∉ts)(c:ax K H (wD (f t)) v):yZ K (upd H d (.dT (qy (lf ts vs) (c5 t) v))) (ts++[t]) f d:=by
 have a:=yZ.len h;rw[Ia a e];refine⟨_,ag,?_⟩;rw[T5];exact(aB.sameD (ij.put b) h).snoc (ax.sameD (ij.put b) c)
theorem Mq {K:KE}{H:Hp}{c:Q3}{xs:List V}(h:aB K H c.ds xs){k:Nat}(g:k<3):∃ v,xs[k]?=Y v/\ax K H (rD (cS c.a c.b c.c k)) v:=by
 obtain⟨x,y,z,rfl,e,f,d⟩:=rK h
 match k,g with
 |0,_=>exact⟨x,O,e⟩
 |1,_=>exact⟨y,O,f⟩
 |2,_=>exact⟨z,O,d⟩
theorem Qg {M:V->Hp->Prop}{I:V->Hp->Prop}{G:Prop}(fh:∀ v H,I v H->M v H)(main:(∀ v H,I v H->M v H)->G):G:=main fh
structure Rw where
 w:Int
 x:Int
 y:Int
 z:Int
def Rw.ns (r:Rw):List Int:=[r.w,r.x,r.y,r.z]
def Rw.d (r:Rw):Tr:=.tuple (r.ns.map Uf)
structure Rw.In (r:Rw)(m:Int):Prop where
 w0:-m<=r.w
 w1:r.w<=m
 x0:-m<=r.x
 x1:r.x<=m
 y0:-m<=r.y
 y1:r.y<=m
 z0:-m<=r.z
 z1:r.z<=m
def Fp (i:Int):Int:=min (max i 0) 1000
theorem so (i:Int):0<=Fp i/\Fp i<=1000:=by unfold Fp;lia
theorem NI {i:Int}(b:0<=i)(a:i<=1000):Fp i=i:=by unfold Fp;lia
def Rw.at (r:Rw)(t:Kn):Int:=Fp (r.w+(r.x*(t.1:Int)+(r.y*(t.2.1:Int)+r.z*(t.2.2:Int))))
def NB (c b a:Rw)(t:Kn):R3:=⟨c.at t,b.at t,a.at t⟩
def R3.sub (r s:R3):R3:=⟨r.a-s.a,r.b-s.b,r.c-s.c⟩
theorem tH {l m a b c:Int}(d:l<=a/\a<=m)(e:l<=b/\b<=m)(f:l<=c/\c<=m):RA 3 l m (.tuple [.int a,.int b,.int c])=true:=by
 show((decide (l<=a)&&decide (a<=m))&&((decide (l<=b)&&decide (b<=m))&&((decide (l<=c)&&decide (c<=m))&&true)))=true;rw[R8 d.1,R8 d.2,R8 e.1,R8 e.2,R8 f.1,R8 f.2];rfl
open PySem.W PySem.Calls
def P' (t u:Kn):Prop:=¬ (t.1<u.1\/(t.1=u.1/\(t.2.1<u.2.1\/(t.2.1=u.2.1/\t.2.2<u.2.2))))
theorem eB {a b:Rat}(h:a<=b):0<=b-a:=by grind
theorem K4:∀ o∈ux,un o.1∈aI 2/\aD (un o.1) (un o.2.1)∈aI 2/\aD (aD (un o.1) (un o.2.1)) (un o.2.2)∈aI 2:=Z
theorem Fe {m:Rat}(F:yL p o)(j:p o.1<=1)(f:0<=p o.2.2)(a:∀ t∈aI 2,m<=h t):m<=bM h p o.1 o.2.1 o.2.2:=by
 obtain⟨i,c,e⟩:=F;obtain⟨k1,k2,k⟩:=K4 o i;have l:=TF (eB (a (0,0,0) Z)) (eB j);have g:=TF (eB (a _ k1)) (eB c);have b:=TF (eB (a _ k2)) (eB e);have d:=TF (eB (a _ k)) f;unfold bM;generalize h (0,0,0)=r at l ⊢;generalize h (un o.1)=q at g ⊢;generalize h (aD (un o.1) (un o.2.1))=s at b ⊢;generalize h (aD (aD (un o.1) (un o.2.1)) (un o.2.2))=n at d ⊢;grind
theorem Hd:bM (λt=>- h t) p u v w=- bM h p u v w:=by unfold bM;grind
theorem LI {m:Rat}(F:yL p o)(b:p o.1<=1)(d:0<=p o.2.2)(c:∀ t∈aI 2,h t<=m):bM h p o.1 o.2.1 o.2.2<=m:=by
 have:=Fe (h:=λt=>- h t) (m:=-m) F b d λt a=>Rat.neg_le_neg (c t a)
 rw[Hd] at this;grind
theorem AN {u v r m:Rat}(d:m<=u)(c:m<=v)(b:0<=r)(a:r<=1):m<=BQ u v r:=by
 have f:=TF (eB d) (eB a);have e:=TF (eB c) b;unfold BQ;grind
theorem Ah {u v r m:Rat}(d:u<=m)(c:v<=m)(b:0<=r)(a:r<=1):BQ u v r<=m:=by
 have f:=TF (eB d) (eB a);have e:=TF (eB c) b;unfold BQ;grind
theorem Ir {x y z m:Rat}(n:0<=x)(f:x<=1)(g:0<=y)(i:y<=1)(j:0<=z)(k:z<=1)(e:∀ t∈aI 2,m<=h t):m<=nM h x y z:=by
 rw[<- wd];have l:∀ a b,a<2->b<2->m<=IB h z a b:=λa b c d=>AN (e (a,b,0) (bA.mpr ⟨c,d,Nat.zero_lt_two⟩)) (e (a,b,1) (bA.mpr ⟨c,d,Nat.one_lt_two⟩)) j k
 have s:∀ a,a<2->m<=J' h y z a:=λa c=>AN (l a 0 c Z) (l a 1 c Z) g i
 exact AN (s 0 Z) (s 1 Z) n f
theorem Jy {x y z m:Rat}(n:0<=x)(f:x<=1)(g:0<=y)(i:y<=1)(j:0<=z)(k:z<=1)(e:∀ t∈aI 2,h t<=m):nM h x y z<=m:=by
 rw[<- wd];have l:∀ a b,a<2->b<2->IB h z a b<=m:=λa b c d=>Ah (e (a,b,0) (bA.mpr ⟨c,d,Nat.zero_lt_two⟩)) (e (a,b,1) (bA.mpr ⟨c,d,Nat.one_lt_two⟩)) j k
 have s:∀ a,a<2->J' h y z a<=m:=λa c=>Ah (l a 0 c Z) (l a 1 c Z) g i
 exact Ah (s 0 Z) (s 1 Z) n f
theorem Qh {n:Nat}{c:Q3}(e:2<=n)(f:n<=7)(d:c.Wi ((60:Int):Rat)):Dv n c.a/\Dv n c.b/\Dv n c.c:=⟨⟨e,f,d.a0,d.a1⟩,⟨e,f,d.b0,d.b1⟩,⟨e,f,d.c0,d.c1⟩⟩
theorem BG (f:2<=n)(h:n<=7)(e:c.Wi ((60:Int):Rat))(g:k<3):0<=pC n c k/\pC n c k<=1:=by
 obtain⟨d,a,b⟩:=Qh f h e
 match k,g with
 |0,_=>exact⟨kC d,kJ d⟩
 |1,_=>exact⟨kC a,kJ a⟩
 |2,_=>exact⟨kC b,kJ b⟩
theorem Ll {q:Q3}{j k:Nat}(h:q.Bd j)(d:k<3):Bq j (cS q.a q.b q.c k):=by
 match k,d with
 |0,_=>exact h.a
 |1,_=>exact h.b
 |2,_=>exact h.c
theorem K' {x:Rat}:((d_ n x:Int):Rat)+jU n x=dZ n x:=by unfold jU;grind
theorem QV (f:2<=n)(g:n<=7)(a:c.Wi ((60:Int):Rat)):(qe n c).1+2<=n/\(qe n c).2.1+2<=n/\(qe n c).2.2+2<=n:=by
 obtain⟨e,b,d⟩:=Qh f g a;exact⟨f8 e,f8 b,f8 d⟩
instance {t u:Kn}:Decidable (P' t u):=by unfold P';infer_instance
def Rw.co (r:Rw):Nat->Int
 |0=>r.x
 |1=>r.y
 |_=>r.z
def gR (H H':Hp):Prop:=∀ b o,H b=Y o->(∀ C a fs,o≠.ins C a fs)->H' b=Y o
theorem gR.put (c:H a=Y (.ins C dx fs)):gR H (upd H a o):=λb u e n=>by
 rw[ar (λz=>by rw[z,c] at e;cases e;exact n _ _ _ O)];exact e
theorem Rd.sameI (e:gR H H')(h:Rd H a (.lst xs)):Rd H' a (.lst xs):=by
 rcases h with h|⟨o,h⟩
 ·exact .inl (e _ _ h λ_ _ _ z=>nomatch z)
 ·exact .inr ⟨o,e _ _ h λ_ _ _ z=>nomatch z⟩
theorem ax.sameI {K:KE}(e:gR H H')(h:ax K H d v):ax K H' d v:=h.all (λ_ _=>Rd.sameI e) (λ_ _ h=>e _ _ h λ_ _ _ z=>nomatch z) (λ_ h=>e _ _ h λ_ _ _ z=>nomatch z)
theorem aB.sameI {K:KE}(e:gR H H')(h:aB K H ds vs):aB K H' ds vs:=h.all (λ_ _=>Rd.sameI e) (λ_ _ h=>e _ _ h λ_ _ _ z=>nomatch z) (λ_ h=>e _ _ h λ_ _ _ z=>nomatch z)
def eG (K:KE)(H:Hp)(e:En)(v:V):Prop:=∃ (a C c:Sd) (x y:V),v=.ref a/\cR K "Ends" C/\H a=Y (.ins C c [("white",x),("black",y)])/\ax K H (cB false e.w) x/\ax K H (cB false e.b) y
theorem eG.same {K:KE}(h:eG K H e v)(s:ah H H'):eG K H' e v:=by
 obtain⟨a,C,b,x,y,g,c,i,d,f⟩:=h;exact⟨a,C,b,x,y,g,c,s _ _ i,ax.same s d,ax.same s f⟩
theorem eG.mv {K:KE}(h:eG K H e v)(m:Mv T H H')(l:cD H T):eG K H' e v:=by
 obtain⟨a,C,c,x,y,i,d,b,f,g⟩:=h;exact⟨a,C,c,x,y,i,d,m _ _ b (l.not b λ_ z=>nomatch z),ax.mv m l rfl f,ax.mv m l rfl g⟩
theorem eG.put {K:KE}(h:eG K H e v)(c:H a=Y (.ins C dx fs))(l:fs.map (·.1)≠[("white":Str),"black"]):eG K (upd H a o) e v:=by
 obtain⟨b,D,j,x,y,k,f,d,g,i⟩:=h;refine⟨b,D,j,x,y,k,f,?_,ax.sameI (gR.put c) g,ax.sameI (gR.put c) i⟩;rw[ar (λz=>by rw[z,c] at d;cases d;exact l rfl)];exact d
theorem eG.en {K:KE}(h:eG K H e v):qx K H e v:=by
 obtain⟨a,C,b,x,y,g,c,i,d,f⟩:=h;exact⟨a,C,b,x,y,g,c,i,T3.of d,T3.of f⟩
theorem i'.put {K:KE}{n:Nat}(h:i' K H n f v)(c:H a=Y (.ins C dx fs))(q:fs.map (·.1)≠[("knots":Str),"table"]):i' K (upd H a o) n f v:=by
 obtain⟨b,D,l,d,i,m,e,j,p,vs,g,k⟩:=h;refine⟨b,D,l,d,i,m,?_,j,p,vs,gR.put c _ _ g (λ_ _ _ z=>nomatch z),aB.sameI (gR.put c) k⟩;rw[ar (λz=>by rw[z,c] at e;cases e;exact q rfl)];exact e
structure C3 where
 p:List Pt
 q:List Pt
 r:List Pt
def C3.at (P:C3):Nat->List Pt
 |0=>P.p
 |1=>P.q
 |_=>P.r
def C3.In (P:C3)(cap:Int):Prop:=∀ i,i<3->vN (P.at i)/\∃ y z,(P.at i)[0]?=Y y/\(P.at i).getLast?=Y z/\z.1=60/\z.2<=cap
theorem C3.In.mono {P:C3}{j k:Int}(h:P.In j)(l:j<=k):P.In k:=λi f=>let ⟨a,y,z,b,c,d,e⟩:=h i f;⟨a,y,z,b,c,d,Yl e l⟩
def jX (K:KE)(H:Hp)(P:C3)(vs:List V):Prop:=vs.length=3/\∀ (i:Nat) (v:V),vs[i]?=Y v->my K H (P.at i) v
theorem jX.same {K:KE}(h:jX K H P vs)(s:ah H H'):jX K H' P vs:=⟨h.1,λi v e=>(h.2 i v e).same s⟩
theorem jX.put {K:KE}(h:jX K H P vs)(b:H a=Y (.ins C dx fs))(c:fs.map (·.1)≠[("points":Str)]):jX K (upd H a o) P vs:=⟨h.1,λi v e=>my.put b (λl z=>c (by rw[z];rfl)) (h.2 i v e)⟩
def yP (K:KE)(H:Hp)(P:C3)(s:S9)(e:En)(v:V):Prop:=∃ (a C c b:Sd) (vs:List V) (q en:V),v=.ref a/\cR K "SquareProfile" C/\H a=Y (.ins C c [("curves",.ref b),("square",q),("bounds",en)])/\H b=Y (.lst vs)/\jX K H P vs/\ax K H s.d q/\eG K H e en
def yn (K:KE)(H:Hp)(P:C3)(f:Kn->R3)(e:En)(v:V):Prop:=∃ (a C c b:Sd) (vs:List V) (g en:V),v=.ref a/\cR K "GridProfile" C/\H a=Y (.ins C c [("curves",.ref b),("grid",g),("bounds",en)])/\H b=Y (.lst vs)/\jX K H P vs/\i' K H 2 f g/\eG K H e en
theorem yP.same {K:KE}(h:yP K H P q e v)(s:ah H H'):yP K H' P q e v:=by
 obtain⟨a,C,c,i,vs,q,en,j,d,k,f,g,b,l⟩:=h;exact⟨a,C,c,i,vs,q,en,j,d,s _ _ k,s _ _ f,g.same s,ax.same s b,l.same s⟩
theorem yn.same {K:KE}(h:yn K H P f e v)(s:ah H H'):yn K H' P f e v:=by
 obtain⟨a,C,c,j,vs,q,en,k,d,l,g,i,b,m⟩:=h;exact⟨a,C,c,j,vs,q,en,k,d,s _ _ l,s _ _ g,i.same s,b.same s,m.same s⟩
theorem Mv.self:Mv T H (TR.cut T H):=λb o e n=>by rw[fS n];exact e
theorem cD.new (l:cD H T)(h:H b=none):b∉T:=λm=>by
 obtain⟨a,e⟩:=l b m;rw[h] at e;cases e
theorem cD.same (l:cD H T)(s:ah H H'):cD H' T:=λb m=>let ⟨xs,e⟩:=l b m;⟨xs,s _ _ e⟩
def kK (P:C3)(c r:Q3):Prop:=Bt P.p c.a r.a/\Bt P.q c.b r.b/\Bt P.r c.c r.c
section
variable {K:KE}{g:TG}{tt:TT}{te:TE}{σ0:L2.St}{Fin:List V->Hp->Prop}{H1:Hp}
theorem y7 (b:Nat->List V->Hp->Prop) (n:b 0 [] H1) (l:xs.length=ys.length) (u:xs.length <= 1000) (f:∀ i a H,b i a H->bY K H a1 xs b1/\bY K H a2 ys b2/\a.length <= i)
  (he:∀ (i:Nat) (x y:V) (a:List V) (T:Sd) (H:Hp),xs[i]?=Y x->ys[i]?=Y y->b i a H->H T=none->mf g tt te σ0 (.ref T) (upd H T (.tup [x,y])) λz H'=>b (i+1) (a++[z]) H')
  (o:∀ a H,b xs.length a H->Fin a H):ix (Ol K b1 b2 a1 a2) g tt te σ0 Fin H1:=by
 refine⟨λi m a H=>m=xs.length-i/\i<=xs.length/\b i a H,⟨xs.length,zyA,Tn _,n⟩,?_⟩;rintro i m a H ⟨rfl,A,pv⟩;obtain⟨h,j,t⟩:=f i a H pv
 by_cases c:i<xs.length
 ·have d:i<ys.length:=zyA
  refine .inr ⟨⟨xs,ys,xs[i],ys[i],h,j,by simp[c],by simp[d]⟩,bR zyA,λv B s=>?_⟩;obtain⟨x,y,T,k1,k2,r,rfl,rfl⟩:=s;exact he i x y a T H (k1 xs h) (k2 ys j) pv r _ (λz H' p=>⟨xs.length-(i+1),zyA,O,c,p⟩) λq=>∃ k,k<xs.length-i/\(k=xs.length-(i+1)/\i+1<=xs.length/\b (i+1) a q)
 ·have e:i=xs.length:=zyA
  subst e;exact .inl ⟨⟨xs,ys,h,j,.inl (R0 _)⟩,dw zyA,o a H pv⟩
end
theorem IP (h:l.length=3):∃ a b c,l=[a,b,c]:=by
 match l,h with
 |[a,b,c],_=>exact⟨a,b,c,O⟩
theorem DG:∀ {vs:List V},vs.length=n->(∀ v∈vs,v=.bl true)->vs=(Sl n true).map V.bl:=λ{vs} a b=>by
 rw[Yn];exact Zt.mpr ⟨a,b⟩
theorem kg (h:(l++[x])[j]?=Y v):(j<l.length/\l[j]?=Y v)\/(j=l.length/\v=x):=by
 by_cases a:j<l.length
 ·rw[UM a] at h;exact .inl ⟨a,h⟩
 ·rw[UE zyA] at h;have b:j-l.length<1:=by
   have:=(R9.mp h).1
   simpa using this
  have e:j=l.length:=zyA
  subst e;rw[Nat.sub_self] at h;exact .inr ⟨O,(RU h).symm⟩
theorem EV {c:Q3}{m:Rat}(h:c.Wi m){k:Nat}(d:k<3):0<=cS c.a c.b c.c k/\cS c.a c.b c.c k<=m:=by
 match k,d with
 |0,_=>exact⟨h.a0,h.a1⟩
 |1,_=>exact⟨h.b0,h.b1⟩
 |2,_=>exact⟨h.c0,h.c1⟩
def Oc (K:KE)(x:Str)(sp:Sp)(h:List V->List V->List V)(E:XK)(t i:TA):TE:=λd H Q=>t d H λvs g=>i d g λf c=>∀ C a b,cR K x C->c a=none->c b=none->b≠a ->
 sp (h (.ref a::vs) f) (upd (upd c b (.own a)) a (.ins C b [])) (λv e=>v=.non/\Q (.ref a) e) E
section
variable {X:Cx}{CX:qr}{K:KE}{k n j:Nat}{x:Str}{ps ks:List Str}{sp:Sp}{dvs:List V}{p pos:Pos}{t tk:TA}{e:U2}{es:List U2}{kws:List XC}
theorem Gh (M:Mk X.K C f) (F:jm X.prog X.w X.K X.mg X.base CX k f fd ps sp) (o:Room (k + 1) X.A)
  (j:kI X.K fd ps ks g gV)(l:∀ J:Hp,∀ s1:RZ,aK X pins σ J s1->∀ e d,CX X.stack J s1 E e d->X.xe e d)(I:aK X pins σ H s)(y:aU vs us)(x:aU zs ws)
  (h:∀ a c,H a=none->H c=none->c≠a->sp (gV (.ref a::vs) zs) (upd (upd H c (.own a)) a (.ins C c [])) (λv n=>v=.non/\Q (.ref a) n) E):
  Sb (SD X.prog X.w) X.A (call (.ref C) us (ks.zip ws)) (EP X pins σ Q) X.xe s:=by
 have hq:=h (s.heap.objs.size+1) s.heap.objs.size (I.hok.fresh (X5 _)) (I.hok.fresh (R0 _)) (Si (Um _));have J:=aK.made (C:=C) I;have i:=j.rel (show aU (V.ref (s.heap.objs.size+1)::vs) (SC (s.heap.objs.size+1)::us) from .cons rfl y) x;have m:(g (SC (s.heap.objs.size+1)::us) ws).length=ps.length:=i.length.symm.trans (F.len _ _ _ _ hq);refine XW (vh (f:=f) I.kIn M.makes M.init (UW.mp M.fn) (Vg (F.run _ X.stack _ _ ⟨SC (s.heap.objs.size+1)::us,ks.zip ws⟩ (g (SC (s.heap.objs.size+1)::us) ws) _ _ E (o.make C us (ks.zip ws))
  (J.env0.make C us (ks.zip ws)) (j.to _ (SC (s.heap.objs.size+1)::us) ws J.kIn m) i hq) λz d b=>?_))
 match z,b with
 |.error v,b=>exact l _ _ J v d b
 |.ok (.ret u),b=>
  obtain⟨v,t,r,B,p,q⟩:=J.after b;subst p;exact⟨B,⟨V.ref (s.heap.objs.size+1),t,r,O,q⟩⟩
theorem yU (hK:X.K=K) (hX:GU CX) (C:tV X.prog X.w X.K X.mg X.base CX k x "__init__" ps ks n j dvs sp) (N:Room (k + 1) X.A) (hg:Gl X x) (i:WA X (e :: es) t) (c:WK X kws tk)
  (d:(UV pos (TQ kws X.env)).all (·.1.isSome)=true:=by rfl)(u:(UV pos (TQ kws X.env)).filterMap (·.1)=ks:=by rfl)(m:(x==("__debug__":Str))=false:=by decide)
  (v:Ss (e::es) X.env=(false,V1 e X.env)::Ss es X.env:=by rfl)
  (q:((VY pos (Ss (e::es) X.env)).any (·.1)||(UV pos (TQ kws X.env)).any (·.1.isNone))=false:=by rfl):
  WE X (.Call (.Name x p) (e::es) kws pos) (Oc K x sp (jY n j dvs) E0 t tk):=by
 have i:=i.go;have c:=c.go;refine⟨?_⟩;subst hK;obtain⟨D,f,fd,ds,fs0,F,g,y,hmg,hb⟩:=C.ex;intro b s B H Q I h;refine TV (jk I hg hmg ?_ m);refine X7 (first:=[]) (h₀:=X.base) I.ok.mod.kin g.kp d (cu (i pos b s B H _ I h) λus E o=>?_) q v;obtain⟨vs,T,r,ru,q1⟩:=o;refine cu (c pos b E B T _ r q1) λws s2 l=>?_;obtain⟨zs,H2,G,rz,q2⟩:=l;refine⟨G.kIn,?_⟩
 rw[u];exact Gh ⟨g.makes,y.at_,y.fn,g.kp⟩ F N hb (λJ E r e s' z=>(qP hX) _ _ _ _ _ _ r z) G ru rz λa L h1 h2 M=>q2 D a L g.at_ h1 h2 M
end
theorem Mp {cap:Int}(h:P.In cap)(o:kK P c r)(d:c.Bd 17):r.Bd 400:=
 ⟨Ok.mono (sJ (h 0 Z).1 d.a o.1) Z,Ok.mono (sJ (h 1 Z).1 d.b o.2.1) Z,Ok.mono (sJ (h 2 Z).1 d.c o.2.2) Z⟩
theorem Jd {a v:Rat}(h:vN ps)(b:ps[0]?=Y y)(hz:ps.getLast?=Y z)(d:z.2<=60)(e:0<=a)(o:Bt ps a v):0<=v/\v<=((60:Int):Rat):=by
 obtain⟨l,u⟩:=G8 h b hz e o;have c:(0:Rat)<=(y.2:Rat):=VW.mpr (h.inn y (Se b)).b1;exact⟨SN c l,SN u (Tk.mpr d)⟩
theorem EF (h:P.In 60)(o:kK P c r)(a:c.Wi ((60:Int):Rat)):r.Wi ((60:Int):Rat):=by
 obtain⟨d,p,q,j,b,_,g⟩:=h 0 Z;obtain⟨i,t,s,e,f,_,d1⟩:=h 1 Z;obtain⟨m,u,n,l,k,_,d2⟩:=h 2 Z;have x:=Jd d j b g a.a0 o.1;have y:=Jd i e f d1 a.b0 o.2.1;have z:=Jd m l k d2 a.c0 o.2.2;exact⟨x.1,x.2,y.1,y.2,z.1,z.2⟩
def S9.cp (s:S9):S9:=⟨true,true,true,true,s.x,s.y,s.z⟩
theorem S9.In.cp {s:S9}(h:s.In):s.cp.In:=⟨h.x,h.y,h.z⟩
def S9.row (s:S9):Nat->R3
 |0=>s.x
 |1=>s.y
 |_=>s.z
theorem Ob {K:KE}{H:Hp}{s:S9}{xs:List V}(h:aB K H s.rows xs){i:Nat}{x:V}(e:xs[i]?=Y x):i<3/\∃ k,ax K H (cB k (s.row i)) x:=by
 obtain⟨g,d,f,rfl,b,c,a⟩:=rK h;rcases qD e with ⟨rfl,rfl⟩|⟨rfl,rfl⟩|⟨rfl,rfl⟩
 ·exact⟨Z,_,b⟩
 ·exact⟨Z,_,c⟩
 ·exact⟨Z,_,a⟩
def Dy:S9 ⊕ (Kn->R3)->Q3->Q3
 |.inl s,r=>s.m.led r
 |.inr f,r=>W4 2 f r
theorem nS (m:Mv T H H')(h:H' l=none)(n:l∉T):H l=none:=by
 cases z:H l with
 |none=>rfl
 |some o=>rw[m _ _ z n] at h;cases h
theorem Dq {cap:Int}(h:P.In cap)(o:kK P c r)(d:c.Bd 17):r.Bd 60:=
 ⟨Ok.mono (sJ (h 0 Z).1 d.a o.1) Z,Ok.mono (sJ (h 1 Z).1 d.b o.2.1) Z,Ok.mono (sJ (h 2 Z).1 d.c o.2.2) Z⟩
def QS (K:KE)(H:Hp)(P:C3)(a b:V):S9 ⊕ (Kn->R3)->Prop
 |.inl s=>ax K H s.d a/\s.In
 |.inr f=>a=.non/\(∃ d,b=.ref d/\Gr K H 2 f d)/\Db 2 f/\P.In 60
def AtD (K:KE)(x:Str)(st:T6):Prop:=∃ f d h b kV c i e a g,Sa K R1 x=Y (Y (.ref f))/\K.lookup f=Y ⟨d,h,.func (Sn x x (aO st) (aJ st) (af st) .none kV c i e a g),b⟩/\SF K a x=true/\Sq K (.ref f)=true
def AtM (K:KE)(x m a:Str)(st:T6):Prop:=∃ C f e h c kV d j g b i,Sa K R1 x=Y (Y (.ref C))/\SG K (.ref C) m=Y (Y (.ref f))/\K.lookup f=Y ⟨e,h,.func (Sn m a (aO st) (aJ st) (af st) .none kV d j g b i),c⟩/\SF K b a=true/\Sq K (.ref f)=true/\UP K (.ref f)=true
theorem AtD.of {K:KE}{x:Str}{st:T6}{f:Sd}{d kV c m a i:RV}{j e:Option Sd}{b:Array (Option RV)}(k:Sa K R1 x=Y (Y (.ref f)))(h:K.lookup f=Y ⟨d,j,.func (Sn x x (aO st) (aJ st) (af st) .none kV c m e a i),b⟩)(l:SF K a x=true)(g:Sq K (.ref f)=true):AtD K x st:=⟨_,_,_,_,_,_,_,_,_,_,k,h,l,g⟩
theorem AtM.of {K:KE}{x m a:Str}{st:T6}{C f:Sd}{i kV c n b e:RV}{g j:Option Sd}{d:Array (Option RV)}(l:Sa K R1 x=Y (Y (.ref C)))(q:SG K (.ref C) m=Y (Y (.ref f)))(h:K.lookup f=Y ⟨i,g,.func (Sn m a (aO st) (aJ st) (af st) .none kV c n j b e),d⟩)(k:SF K b a=true)(o:Sq K (.ref f)=true)(p:UP K (.ref f)=true):AtM K x m a st:=⟨_,_,_,_,_,_,_,_,_,_,_,l,q,h,k,o,p⟩
theorem gOf {K:KE}{i:Int}(h:Sa K R1 x=Y (Y (.int i t))):∃ t,Sa K R1 x=Y (Y (.int i t)):=⟨t,h⟩
section
variable {K:KE}{mg:Str->Option RV}{x m qual:Str}{st:T6}{ps fs:List Str}{h:Uc}
theorem AtD.dfn (a:AtD K x st)(X:K.In h)(G:h.Ns R1 mg)(e:∀ kV c l d b g us,us.length=ps.length->T_ (Sn x x (aO st) (aJ st) (af st) .none kV c l d b g) ⟨us,[]⟩=pure (ps.zip us)):dg K mg x st ps []:=by
 obtain⟨_,_,_,_,_,_,_,_,_,_,i,k,j,f⟩:=a;exact IK k j f (SJ X G i) (e _ _ _ _ _ _)
theorem AtM.dfn (a:AtM K x m qual st)(X:K.In h)(G:h.Ns R1 mg)(n:iO K x fs=true)(k:∀ kV b j g c e us,us.length=ps.length->T_ (Sn m qual (aO st) (aJ st) (af st) .none kV b j g c e) ⟨us,[]⟩=pure (ps.zip us)):kA K mg x m qual st ps []:=by
 obtain⟨_,_,_,_,_,_,_,_,_,_,_,d,p,f,i,l,o⟩:=a;exact K1 f i l o d p n (SJ X G d) (k _ _ _ _ _ _)
theorem Qa {P:List RV->Prop}{us:List RV}{n:Nat}(h:us.length=n+1)(k:∀ a vs,vs.length=n->P (a::vs)):P us:=by
 cases us with
 |nil=>cases h
 |cons a vs=>exact k a vs (Nat.succ.inj h)
theorem RC {P:List RV->Prop}{us:List RV}(h:us.length=0)(k:P []):P us:=by
 cases us with
 |nil=>exact k
 |cons a vs=>cases h
theorem QI {P:List RV->Prop}{us:List RV}(h:us.length=1)(k:∀ a,P [a]):P us:=Qa h λa _ h=>RC (P:=λv=>P (a::v)) h (k a)
theorem Qp {P:List RV->Prop}{us:List RV}(h:us.length=2)(k:∀ a b,P [a,b]):P us:=Qa h λa _ h=>QI (P:=λv=>P (a::v)) h (k a)
theorem Qq {P:List RV->Prop}{us:List RV}(h:us.length=3)(k:∀ a b c,P [a,b,c]):P us:=Qa h λa _ h=>Qp (P:=λv=>P (a::v)) h (k a)
theorem Rt {P:List RV->Prop}{us:List RV}(h:us.length=4)(k:∀ a b c d,P [a,b,c,d]):P us:=Qa h λa _ h=>Qq (P:=λv=>P (a::v)) h (k a)
theorem AtD.d1 {p:Str}(a:AtD K x st)(X:K.In h)(G:h.Ns R1 mg)(g:∀ kV d j e c i a,T_ (Sn x x (aO st) (aJ st) (af st) .none kV d j e c i) ⟨[a],[]⟩=pure (([p]:List Str).zip [a])):dg K mg x st [p] []:=a.dfn X G λ_ _ _ _ _ _ b f=>QI (P:=λb=>T_ _ ⟨b,[]⟩=pure ([p].zip b)) f (g _ _ _ _ _ _)
theorem AtM.d1 {p:Str}(a:AtM K x m qual st)(X:K.In h)(G:h.Ns R1 mg)(k:iO K x fs=true)(g:∀ kV d j e c i a,T_ (Sn m qual (aO st) (aJ st) (af st) .none kV d j e c i) ⟨[a],[]⟩=pure (([p]:List Str).zip [a])):kA K mg x m qual st [p] []:=a.dfn X G k λ_ _ _ _ _ _ b f=>QI (P:=λb=>T_ _ ⟨b,[]⟩=pure ([p].zip b)) f (g _ _ _ _ _ _)
theorem AtD.d2 {p q:Str}(a:AtD K x st)(X:K.In h)(G:h.Ns R1 mg)(i:∀ kV e k f d j a b,T_ (Sn x x (aO st) (aJ st) (af st) .none kV e k f d j) ⟨[a,b],[]⟩=pure (([p,q]:List Str).zip [a,b])):dg K mg x st [p,q] []:=a.dfn X G λ_ _ _ _ _ _ c g=>Qp (P:=λc=>T_ _ ⟨c,[]⟩=pure ([p,q].zip c)) g (i _ _ _ _ _ _)
theorem AtM.d2 {p q:Str}(a:AtM K x m qual st)(X:K.In h)(G:h.Ns R1 mg)(l:iO K x fs=true)(i:∀ kV e k f d j a b,T_ (Sn m qual (aO st) (aJ st) (af st) .none kV e k f d j) ⟨[a,b],[]⟩=pure (([p,q]:List Str).zip [a,b])):kA K mg x m qual st [p,q] []:=a.dfn X G l λ_ _ _ _ _ _ c g=>Qp (P:=λc=>T_ _ ⟨c,[]⟩=pure ([p,q].zip c)) g (i _ _ _ _ _ _)
theorem AtD.d3 {p q r:Str}(a:AtD K x st)(X:K.In h)(G:h.Ns R1 mg)(j:∀ kV f l g e k a b c,T_ (Sn x x (aO st) (aJ st) (af st) .none kV f l g e k) ⟨[a,b,c],[]⟩=pure (([p,q,r]:List Str).zip [a,b,c])):dg K mg x st [p,q,r] []:=a.dfn X G λ_ _ _ _ _ _ d i=>Qq (P:=λd=>T_ _ ⟨d,[]⟩=pure ([p,q,r].zip d)) i (j _ _ _ _ _ _)
theorem AtM.d3 {p q r:Str}(a:AtM K x m qual st)(X:K.In h)(G:h.Ns R1 mg)(n:iO K x fs=true)(l:∀ kV e k j f i a b c,T_ (Sn m qual (aO st) (aJ st) (af st) .none kV e k j f i) ⟨[a,b,c],[]⟩=pure (([p,q,r]:List Str).zip [a,b,c])):kA K mg x m qual st [p,q,r] []:=a.dfn X G n λ_ _ _ _ _ _ d g=>Qq (P:=λd=>T_ _ ⟨d,[]⟩=pure ([p,q,r].zip d)) g (l _ _ _ _ _ _)
theorem AtD.d4 {p q r u:Str}(a:AtD K x st)(X:K.In h)(G:h.Ns R1 mg)(m:∀ kV f l k g j a b c d,T_ (Sn x x (aO st) (aJ st) (af st) .none kV f l k g j) ⟨[a,b,c,d],[]⟩=pure (([p,q,r,u]:List Str).zip [a,b,c,d])):dg K mg x st [p,q,r,u] []:=a.dfn X G λ_ _ _ _ _ _ e i=>Rt (P:=λe=>T_ _ ⟨e,[]⟩=pure ([p,q,r,u].zip e)) i (m _ _ _ _ _ _)
theorem Kj {i:Int}(X:K.In h)(G:h.Ns R1 mg)(a:∃ t,Sa K R1 x=Y (Y (.int i t))):∃ t,mg x=Y (.int i t):=by obtain⟨t,e⟩:=a;exact⟨t,SJ X G e⟩
end
theorem cN (a:sc.kind=.function:=by rfl)(b:sc.isCoroutine=false:=by rfl)(c:sc.isGenerator=false:=by rfl)(d:N.Nodup:=by decide +kernel)(e:N.take P.length=P:=by rfl)(f:∀ x∈P,sc.names.lookup x=Y .local\/sc.names.lookup x=Y .cell:=by decide +kernel)(g:∀ y∈sc.names,y.2≠.free:=by decide +kernel):ao N P sc:=⟨a,b,c,d,e,f,g⟩
theorem gB (a:H p=none)(e:upd H p o=H1):ah H H1:=e▸ah.new a
theorem eD (e:upd H p o=H1):H1 p=Y o:=e▸ag
theorem Bl (b:H a=none)(d:H dx=none)(c:dx≠a)(e:upd (upd H dx o1) a o=H1):ah H H1:=e▸(ah.new d).trans (ah.new (by rw[ar c.symm];exact b))
theorem nN.uniq {c d:Rat}(h:nN ps i c)(g:nN ps i d):c=d:=by
 have a:∀ {c d:Rat},nN ps i c->nN ps i d->c<=d:=λ{c d} h g=>by
  rcases h.one with e|⟨j,p,r,b,k,f,e⟩
  ·rw[e];exact g.pos
  ·rw[e];exact g.all j p r b k f
 exact Rat.le_antisymm (a h g) (a g h)
theorem KY (h:vN ps){a b v w c:Rat}(s:nN ps (ps.length-1) c)(x:Bt ps a v)(y:Bt ps b w)(u:a<=b):w-v<=c*(b-a):=by
 obtain⟨k,p,q,e,rfl⟩:=x;obtain⟨j,r,t,g,rfl⟩:=y;have st:∀ {i:Nat}{p q:Pt}{a b:Rat},ps[i]?=Y p->ps[i+1]?=Y q->a<=b->CY p q b-CY p q a<=c*(b-a):=λ{i p q a b} m f l=>by
  have G:=(R9.mp f).1;have:=S0 (s.all i p q zyA m f) (eB l);rw[rP,rP];grind
 have lt:∀ {i:Nat}{p q:Pt},ps[i]?=Y p->ps[i+1]?=Y q->p.1<q.1:=λm f=>(h.up _ _ _ m f).1
 have pt:∀ (d i:Nat) (p q:Pt),ps[i]?=Y p->ps[i+d]?=Y q->(q.2:Rat)-(p.2:Rat)<=c*((q.1:Rat)-(p.1:Rat)):=λd=>by
  induction d with
  |zero=>
   intro i p q m f;rw[SV,m] at f;cases f;grind
  |succ d B=>
   intro i p q m f;have o:i+d<ps.length:=by have:=(R9.mp f).1;lia
   have n:ps[i+d]?=Y ps[i+d]:=Sf o;have F:=B i p _ m n;have A:ps[i+d+1]?=Y q:=f;have l:=lt n A;have C:=st n A (Tk.mpr (Yk l));rw[A4,Av l] at C;grind
 by_cases D:k=j
 ·subst D;obtain⟨rfl⟩:=RU (e.lo.symm.trans g.lo);obtain⟨rfl⟩:=RU (e.hi.symm.trans g.hi);exact st e.lo e.hi u
 by_cases E:k<j
 ·have o:=st e.lo e.hi e.le;rw[Av (lt e.lo e.hi)] at o;have B:=pt (j-(k+1)) (k+1) q r e.hi (by rw[show k+1+(j-(k+1))=j by lia];exact g.lo);have n:(r.1:Rat)<=b:=by
   rcases g.gt with z|z
   ·lia
   ·exact UQ z
  have A:=st g.lo g.hi n;rw[A4] at A;grind
 ·exfalso;have n:=(h.mono (k-(j+1)) (j+1) t p g.hi (by rw[show j+1+(k-(j+1))=k by lia];exact e.lo)).1;have n:(t.1:Rat)<=(p.1:Rat):=Tk.mpr n;have o:=g.le;rcases e.gt with z|z
  ·lia
  ·grind
def uB (L d e:Rat):Prop:=-(L*d)<=e/\e<=L*d
theorem Ev {D L d:Rat}(c:0<=d)(e:-L<=D)(f:D<=L):uB L d (D*d):=by
 have a:=S0 f c;have b:=S0 e c;exact⟨by grind,a⟩
theorem uB.add {L d e d' a:Rat}(h:uB L d e)(g:uB L d' a):uB L (d+d') (e+a):=by
 obtain⟨c,i⟩:=h;obtain⟨f,b⟩:=g;exact⟨by grind,by grind⟩
theorem Gp {g:Rat->Rat}{L lo hi:Rat} (f:lo <= hi) (a:∀ x y,x <= y->y <= lo->uB L (y - x) (g y - g x)) (b:∀ x y,lo <= x->x <= y->y <= hi->uB L (y - x) (g y - g x)) (c:∀ x y,hi <= x->x <= y->uB L (y - x) (g y - g x))
  {x y:Rat}(h:x<=y):uB L (y-x) (g y-g x):=by
 have d:∀ {x m y:Rat},uB L (m-x) (g m-g x)->uB L (y-m) (g y-g m)->uB L (y-x) (g y-g x):=λ{x m y} p q=>by
  have:=p.add q;rw[show m-x+(y-m)=y-x by grind,show g m-g x+(g y-g m)=g y-g x by grind] at this;exact this
 by_cases j:y<=lo
 ·exact a x y h j
 by_cases k:hi<=x
 ·exact c x y k h
 by_cases i:x<=lo
 ·refine d (a x lo i UZ) ?_
  by_cases e:y<=hi
  ·exact b lo y UZ (by grind) e
  ·exact d (b lo hi UZ f UZ) (c hi y UZ (by grind))
 ·by_cases e:y<=hi
  ·exact b x y (by grind) h e
  ·exact d (b x hi (by grind) (by grind) UZ) (c hi y UZ (by grind))
theorem Hh {L d:Rat} (b:o ∈ ux) (hi:i < 3) (j:0 <= d) (hq:∀ k,k < 3->k ≠ i->q k=p k) (l:q i - p i=d)
  (hh:∀ t∈aI 2,aD t (un i)∈aI 2->-L<=h (aD t (un i))-h t/\h (aD t (un i))-h t<=L):uB L d (bM h q o.1 o.2.1 o.2.2-bM h p o.1 o.2.1 o.2.2):=by
 have a:∀ {D:Rat},(-L<=D/\D<=L)->bM h q o.1 o.2.1 o.2.2-bM h p o.1 o.2.1 o.2.2=D*d->uB L d (bM h q o.1 o.2.1 o.2.2-bM h p o.1 o.2.1 o.2.2):=λ{D} c e=>by
  rw[e];exact Ev j c.1 c.2
 simp only[ux,R',Sg,TK] at b
 match i,hi with
 |0,_=>
  have g:=hq 1 Z Z;have f:=hq 2 Z Z;rcases b with rfl|rfl|rfl|rfl|rfl|rfl
  ·exact a (hh (0,0,0) Z Z) (by simp only[bM,un,aD,SV,SL];grind)
  ·exact a (hh (0,0,0) Z Z) (by simp only[bM,un,aD,SV,SL];grind)
  ·exact a (hh (0,1,0) Z Z) (by simp only[bM,un,aD,SV,SL];grind)
  ·exact a (hh (0,1,1) Z Z) (by simp only[bM,un,aD,SV,SL];grind)
  ·exact a (hh (0,0,1) Z Z) (by simp only[bM,un,aD,SV,SL];grind)
  ·exact a (hh (0,1,1) Z Z) (by simp only[bM,un,aD,SV,SL];grind)
 |1,_=>
  have g:=hq 0 Z Z;have f:=hq 2 Z Z;rcases b with rfl|rfl|rfl|rfl|rfl|rfl
  ·exact a (hh (1,0,0) Z Z) (by simp only[bM,un,aD,SV,SL];grind)
  ·exact a (hh (1,0,1) Z Z) (by simp only[bM,un,aD,SV,SL];grind)
  ·exact a (hh (0,0,0) Z Z) (by simp only[bM,un,aD,SV,SL];grind)
  ·exact a (hh (0,0,0) Z Z) (by simp only[bM,un,aD,SV,SL];grind)
  ·exact a (hh (1,0,1) Z Z) (by simp only[bM,un,aD,SV,SL];grind)
  ·exact a (hh (0,0,1) Z Z) (by simp only[bM,un,aD,SV,SL];grind)
 |2,_=>
  have g:=hq 0 Z Z;have f:=hq 1 Z Z;rcases b with rfl|rfl|rfl|rfl|rfl|rfl
  ·exact a (hh (1,1,0) Z Z) (by simp only[bM,un,aD,SV,SL];grind)
  ·exact a (hh (1,0,0) Z Z) (by simp only[bM,un,aD,SV,SL];grind)
  ·exact a (hh (1,1,0) Z Z) (by simp only[bM,un,aD,SV,SL];grind)
  ·exact a (hh (0,1,0) Z Z) (by simp only[bM,un,aD,SV,SL];grind)
  ·exact a (hh (0,0,0) Z Z) (by simp only[bM,un,aD,SV,SL];grind)
  ·exact a (hh (0,0,0) Z Z) (by simp only[bM,un,aD,SV,SL];grind)
def bW (c:Q3)(i:Nat)(x:Rat):Q3:=match i with
 |0=>⟨x,c.b,c.c⟩
 |1=>⟨c.a,x,c.c⟩
 |_=>⟨c.a,c.b,x⟩
theorem Jb {L x y:Rat} (hi:i < 3) (l:x <= y)
  (hh:∀ t∈aI 2,aD t (un i)∈aI 2->-L<=h (aD t (un i))-h t/\h (aD t (un i))-h t<=L):
  uB L (y-x) (lA h (bW c i y).a (bW c i y).b (bW c i y).c-lA h (bW c i x).a (bW c i x).b (bW c i x).c):=by
 have j:∀ {u v:Rat}{o:Nat×Nat×Nat},u<=v->yL (cS (bW c i u).a (bW c i u).b (bW c i u).c) o->yL (cS (bW c i v).a (bW c i v).b (bW c i v).c) o->uB L (v-u) (lA h (bW c i v).a (bW c i v).b (bW c i v).c-lA h (bW c i u).a (bW c i u).b (bW c i u).c):=λ{u v o} l a b=>by
  rw[eF a,eF b];refine Hh a.1 hi (eB l) (λk n ne=>?_) ?_ hh
  ·rcases(show i=0\/i=1\/i=2 by lia) with rfl|rfl|rfl<;>rcases(show k=0\/k=1\/k=2 by lia) with rfl|rfl|rfl<;>first|rfl|exact absurd rfl ne
  ·match i,hi with
   |0,_=>rfl
   |1,_=>rfl
   |2,_=>rfl
 have m:∀ {u v:Rat},¬ u<=v->v<=u:=λh=>UQ (Rat.not_le.mp h)
 match i,hi,@j with
 |0,_,j=>
  by_cases z:c.c<=c.b
  ·exact Gp (g:=λx=>lA h (bW c 0 x).a (bW c 0 x).b (bW c 0 x).c) z (λ_ _ d f=>j (o:=(1,2,0)) d ⟨Z,z,SN d f⟩ ⟨Z,z,f⟩) (λ_ _ e d f=>j (o:=(1,0,2)) d ⟨Z,SN d f,e⟩ ⟨Z,f,SN e d⟩) (λ_ _ e d=>j (o:=(0,1,2)) d ⟨Z,e,z⟩ ⟨Z,SN e d,z⟩) l
  ·exact Gp (g:=λx=>lA h (bW c 0 x).a (bW c 0 x).b (bW c 0 x).c) (m z) (λ_ _ d f=>j (o:=(2,1,0)) d ⟨Z,(m z),SN d f⟩ ⟨Z,(m z),f⟩) (λ_ _ e d f=>j (o:=(2,0,1)) d ⟨Z,SN d f,e⟩ ⟨Z,f,SN e d⟩) (λ_ _ e d=>j (o:=(0,2,1)) d ⟨Z,e,(m z)⟩ ⟨Z,SN e d,(m z)⟩) l
 |1,_,j=>
  by_cases z:c.c<=c.a
  ·exact Gp (g:=λx=>lA h (bW c 1 x).a (bW c 1 x).b (bW c 1 x).c) z (λ_ _ d f=>j (o:=(0,2,1)) d ⟨Z,z,SN d f⟩ ⟨Z,z,f⟩) (λ_ _ e d f=>j (o:=(0,1,2)) d ⟨Z,SN d f,e⟩ ⟨Z,f,SN e d⟩) (λ_ _ e d=>j (o:=(1,0,2)) d ⟨Z,e,z⟩ ⟨Z,SN e d,z⟩) l
  ·exact Gp (g:=λx=>lA h (bW c 1 x).a (bW c 1 x).b (bW c 1 x).c) (m z) (λ_ _ d f=>j (o:=(2,0,1)) d ⟨Z,(m z),SN d f⟩ ⟨Z,(m z),f⟩) (λ_ _ e d f=>j (o:=(2,1,0)) d ⟨Z,SN d f,e⟩ ⟨Z,f,SN e d⟩) (λ_ _ e d=>j (o:=(1,2,0)) d ⟨Z,e,(m z)⟩ ⟨Z,SN e d,(m z)⟩) l
 |2,_,j=>
  by_cases z:c.b<=c.a
  ·exact Gp (g:=λx=>lA h (bW c 2 x).a (bW c 2 x).b (bW c 2 x).c) z (λ_ _ d f=>j (o:=(0,1,2)) d ⟨Z,z,SN d f⟩ ⟨Z,z,f⟩) (λ_ _ e d f=>j (o:=(0,2,1)) d ⟨Z,SN d f,e⟩ ⟨Z,f,SN e d⟩) (λ_ _ e d=>j (o:=(2,0,1)) d ⟨Z,e,z⟩ ⟨Z,SN e d,z⟩) l
  ·exact Gp (g:=λx=>lA h (bW c 2 x).a (bW c 2 x).b (bW c 2 x).c) (m z) (λ_ _ d f=>j (o:=(1,0,2)) d ⟨Z,(m z),SN d f⟩ ⟨Z,(m z),f⟩) (λ_ _ e d f=>j (o:=(1,2,0)) d ⟨Z,SN d f,e⟩ ⟨Z,f,SN e d⟩) (λ_ _ e d=>j (o:=(2,1,0)) d ⟨Z,e,(m z)⟩ ⟨Z,SN e d,(m z)⟩) l
theorem KI (t:Kn):aD (0,0,0) t=t:=by
 obtain⟨a,b,c⟩:=t;simp[aD]
theorem LY (i:c.Wi ((60:Int):Rat)):md 2 f c g=lA (λt=>((g (f t):Int):Rat)) (c.a/((60:Int):Rat)) (c.b/((60:Int):Rat)) (c.c/((60:Int):Rat)):=by
 have d:((60:Int):Rat)≠0:=Z
 have j:(0:Rat)<((60:Int):Rat):=Z
 have lo:∀ {x:Rat},0<=x->0<=x/((60:Int):Rat):=λ{x} h=>by
  refine TX (c:=((60:Int):Rat)) ?_ j;rw[UU d,Rat.zero_mul];exact h
 have k:∀ {x:Rat},x<=((60:Int):Rat)->x/((60:Int):Rat)<=1:=λ{x} h=>by
  refine TX (c:=((60:Int):Rat)) ?_ j;rw[UU d,Rat.one_mul];exact h
 have e:∀ {x:Rat},x=(((0:Nat):Int)+x/((60:Int):Rat))*((fu 2:Int):Rat):=λ{x}=>by
  have l:fu 2=60:=Z
  have m:(((0:Nat):Int):Rat)=0:=O;rw[l,m,Rat.zero_add,UU d]
 rw[HA (b:=(0,0,0)) Z Z Z Z Z (lo i.a0) (k i.a1) (lo i.b0) (k i.b1) (lo i.c0) (k i.c1) e e e];simp only[KI]
def R3.nth (r:R3):Nat->Int
 |0=>r.a
 |1=>r.b
 |_=>r.c
theorem Nf {m:Int} (b:kD ((aI 2).flatMap (qp 2 f)) m) (hi:i < 3) (c:t ∈ aI 2) (a:aD t (un i) ∈ aI 2) :
  -((m:Int):Rat)<=(((f (aD t (un i))).nth j:Int):Rat)-(((f t).nth j:Int):Rat)/\(((f (aD t (un i))).nth j:Int):Rat)-(((f t).nth j:Int):Rat)<=((m:Int):Rat):=by
 have e:ED 2 t i=aD t (un i):=SO a;have d:MU ((f t).nth j) ((f (aD t (un i))).nth j)∈qp 2 f t:=by
  unfold qp yj;rw[<- e]
  match i,hi,j with
  |0,_,0=>simp[R3.nth]
  |0,_,1=>simp[R3.nth]
  |0,_,_+2=>simp[R3.nth]
  |1,_,0=>simp[R3.nth]
  |1,_,1=>simp[R3.nth]
  |1,_,_+2=>simp[R3.nth]
  |2,_,0=>simp[R3.nth]
  |2,_,1=>simp[R3.nth]
  |2,_,_+2=>simp[R3.nth]
 have h:=b.le _ (VM.mpr ⟨t,c,d⟩);unfold MU at h;have g:-m<=(f (aD t (un i))).nth j-(f t).nth j/\(f (aD t (un i))).nth j-(f t).nth j<=m:=by
  split at h<;>lia
 rw[<- Tt,<- ZG];exact⟨Tk.mpr g.1,Tk.mpr g.2⟩
def Q3.at (q:Q3):Nat->Rat:=cS q.a q.b q.c
theorem Fo:(W4 2 f c).at j=md 2 f c (λr=>r.nth j):=by
 match j with
 |0=>rfl
 |1=>rfl
 |_+2=>rfl
theorem Lr {u:Int}{L x y e:Rat}(a:(u:Rat)≠0)(h:uB L (y/(u:Rat)-x/(u:Rat)) e):uB (L/(u:Rat)) (y-x) e:=by
 have:L/(u:Rat)*(y-x)=L*(y/(u:Rat)-x/(u:Rat)):=by
  generalize (u:Rat)=v at *;grind
 unfold uB at *;rw[this];exact h
theorem NZ {m:Int} (g:kD ((aI 2).flatMap (qp 2 f)) m) {x y:Rat} (hi:i < 3) (l:x <= y) (o:(bW c i x).Wi ((60:Int):Rat)) (p:(bW c i y).Wi ((60:Int):Rat)) :
  uB (((m:Int):Rat)/((60:Int):Rat)) (y-x) ((W4 2 f (bW c i y)).at j-(W4 2 f (bW c i x)).at j):=by
 have d:((60:Int):Rat)≠0:=Z
 have e:(0:Rat)<((60:Int):Rat):=Z
 have n:x/((60:Int):Rat)<=y/((60:Int):Rat):=by
  refine TX (c:=((60:Int):Rat)) ?_ e;rw[UU d,UU d];exact l
 rw[Fo,Fo,LY o,LY p];refine Lr d ?_;have h:=Jb (h:=λt=>(((f t).nth j:Int):Rat)) (c:=⟨c.a/((60:Int):Rat),c.b/((60:Int):Rat),c.c/((60:Int):Rat)⟩) hi n (λt q k=>Nf g hi q k)
 match i,hi,h with
 |0,_,h=>exact h
 |1,_,h=>exact h
 |2,_,h=>exact h
def A5 (x:Int):Int:=if x<0 then -x else x
def rT (s:S9)(i:Nat):List Int:=[A5 (s.x.nth i),A5 (s.y.nth i),A5 (s.z.nth i)]
def jC:S9 ⊕ (Kn->R3)->Nat->Rat->Prop
 |.inl s,i,r=>∃ m:Int,kD (rT s i) m/\r=(m:Rat)/((1000:Int):Rat)
 |.inr f,_,r=>∃ m:Int,kD ((aI 2).flatMap (qp 2 f)) m/\r=(m:Rat)/((60:Int):Rat)
theorem GO {r r':Rat}(h:jC b i r)(g:jC b i r'):r=r':=by
 cases b with
 |inl s=>
  obtain⟨m,a,rfl⟩:=h;obtain⟨d,c,rfl⟩:=g;rw[a.uniq c]
 |inr f=>
  obtain⟨m,a,rfl⟩:=h;obtain⟨d,c,rfl⟩:=g;rw[a.uniq c]
theorem Fj {r:Rat}(h:jC b i r):0<=r:=by
 have c:∀ {m u:Int},0<=m->0<u->(0:Rat)<=(m:Rat)/(u:Rat):=λ{m u} a d=>by
  rw[Vl];exact TF (VW.mpr a) (UQ (Y9.mpr (by exact_mod_cast d)))
 cases b with
 |inl s=>obtain⟨m,a,rfl⟩:=h;exact c a.nn Z
 |inr f=>obtain⟨m,a,rfl⟩:=h;exact c a.nn Z
theorem Kq {x y:Rat}(hi:i<3):sF q (bW r i y)-sF q (bW r i x)=q.at i*(y-x):=by
 match i,hi with
 |0,_=>simp only[sF,bW,Q3.at,cS];grind
 |1,_=>simp only[sF,bW,Q3.at,cS];grind
 |2,_=>simp only[sF,bW,Q3.at,cS];grind
theorem K0 {r:R3}{i:Nat}:r.q.at i=((r.nth i:Int):Rat)/((1000:Int):Rat):=by
 match i with
 |0=>rfl
 |1=>rfl
 |_+2=>rfl
theorem KW {L x y:Rat} (h:jC b i L) (hi:i < 3) (l:x <= y) (w:∀ f,b=.inr f->(bW c i x).Wi ((60:Int):Rat)/\(bW c i y).Wi ((60:Int):Rat)) :
  uB L (y-x) ((Dy b (bW c i y)).at j-(Dy b (bW c i x)).at j):=by
 cases b with
 |inr f=>
  obtain⟨m,d,rfl⟩:=h;exact NZ d hi l (w f rfl).1 (w f rfl).2
 |inl s=>
  obtain⟨m,d,rfl⟩:=h;have a:∀ {r:R3},A5 (r.nth i)∈rT s i->uB ((m:Rat)/((1000:Int):Rat)) (y-x) (sF r.q (bW c i y)-sF r.q (bW c i x)):=λ{r} n=>by
   have k:=d.le _ n;unfold A5 at k;rw[Kq hi,K0];have g:-m<=r.nth i/\r.nth i<=m:=by split at k<;>lia
   have e:∀ {u v:Int},u<=v->(u:Rat)/((1000:Int):Rat)<=(v:Rat)/((1000:Int):Rat):=λ{u v} h=>by
    rw[Vl,Vl];exact S0 (Tk.mpr h) (UQ (Y9.mpr Z))
   refine Ev (eB l) ?_ (e g.2);have:=e g.1;rw[ZG] at this;rw[Vl,Rat.neg_mul] at this;rw[Vl];exact this
  match j with
  |0=>exact a (r:=s.x) (by simp[rT])
  |1=>exact a (r:=s.y) (by simp[rT])
  |_+2=>exact a (r:=s.z) (by simp[rT])
def ik (x:Rat):Rat:=if 0<=x then x else -x
theorem LS {L d e:Rat}(h:uB L d e):ik e<=L*d:=by
 unfold ik;obtain⟨a,b⟩:=h
 split<;>grind
theorem Cv (hi:i<3):bW c i (c.at i)=c:=by
 match i,hi with
 |0,_=>rfl
 |1,_=>rfl
 |2,_=>rfl
theorem CB {cap:Int}{L st x y:Rat} (n:P.In cap) (s:∀ f,b=.inr f->P.In 60) (h:jC b i L) (A:nN (P.at i) ((P.at i).length - 1) st) (hi:i < 3) (l:x <= y)
  (G:(bW c i x).Wi ((60:Int):Rat))(B:(bW c i y).Wi ((60:Int):Rat))(o:kK P (bW c i x) r)(d:kK P (bW c i y) r'):uB (L*st) (y-x) ((Dy b r').at j-(Dy b r).at j):=by
 have C:∃ u v,r=bW r i u/\r'=bW r i v/\Bt (P.at i) x u/\Bt (P.at i) y v:=by
  have z:i=0\/i=1\/i=2:=zyA
  rcases z with rfl|rfl|rfl
  ·refine⟨r.a,r'.a,O,?_,o.1,d.1⟩;have m:=jw (n 1 Z).1 o.2.1 d.2.1;have k:=jw (n 2 Z).1 o.2.2 d.2.2;exact Q3.ext rfl m.symm k.symm
  ·refine⟨r.b,r'.b,O,?_,o.2.1,d.2.1⟩;have m:=jw (n 0 Z).1 o.1 d.1;have k:=jw (n 2 Z).1 o.2.2 d.2.2;exact Q3.ext m.symm rfl k.symm
  ·refine⟨r.c,r'.c,O,?_,o.2.2,d.2.2⟩;have m:=jw (n 0 Z).1 o.1 d.1;have k:=jw (n 1 Z).1 o.2.1 d.2.1;exact Q3.ext m.symm k.symm rfl
 obtain⟨u,v,m,k,q,ov⟩:=C;have t:=(n i hi).1;have E:=HZ t l q ov;have p:=KY t A q ov l;have F:∀ f,b=.inr f->(bW r i u).Wi ((60:Int):Rat)/\(bW r i v).Wi ((60:Int):Rat):=λf e=>by
  rw[<- m,<- k];exact⟨EF (s f e) o G,EF (s f e) d B⟩
 have g:=KW (j:=j) h hi E F;rw[<- m,<- k] at g;have D:=Fj h;have J:=A.pos;have I:=XG p D;obtain⟨M,H⟩:=g;exact⟨by grind,by grind⟩
def PJ (K:KE)(x y:Str):List V->Hp->VK->Prop:=λc H Q=>∃ v C D p,c=[v,.ref p]/\cR K x C/\cR K y D/\H p=Y (.tup [.ref C,.ref D]) /\
 ((∃ a b fs,v=.ref a/\(H a=Y (.ins C b fs)\/H a=Y (.ins D b fs))/\Q (.bl true) H)\/∃ T,Ty K H v T/\T∈An/\Q (.bl false) H)
theorem M6 {K:KE}(hK:X.K=K)(hc:iO K x fs0=true)(hi:Gw K x=true)(i:iO K y fs1=true)(k:Gw K y=true)(hn:MW K y x=true):dP X (.builtin "isinstance") (PJ K x y):=by
 subst hK;intro t s σ H xs us Q I r h;obtain⟨v,C,D,p,rfl,m,o,hp,h⟩:=h;obtain⟨u,w,rfl,f,g⟩:=mK r;cases(show w=SC p from g);obtain⟨_,its,rr,⟨cl,dd,dt,sl⟩,j,F,n,B⟩:=I.hok p _ hp;obtain⟨u1,u2,rfl,N,w2⟩:=mK rr;cases(show u1=SC C from N);cases(show u2=SC D from w2);simp only at F B;subst F B;obtain⟨C',M⟩:=lY hc;cases bK m M.at_;obtain⟨D',z⟩:=lY i;cases bK o z.at_;obtain⟨E,e,q⟩:=jr hi;rw[jL m] at e;cases e;obtain⟨E,e,L⟩:=jr k;rw[jL o] at e;cases e;simp only[Tu,UW,Ul] at q L;obtain⟨⟨⟨⟨q1,q2⟩,q3⟩,q4⟩,q5⟩:=q;obtain⟨⟨⟨⟨r1,r2⟩,r3⟩,r4⟩,r5⟩:=L;obtain⟨E1,J,n1⟩:=jr hn;rw[jL o] at J;cases J;obtain⟨E2,G,l⟩:=jr n1;rw[jL m] at G;cases G;have l:=UW.mp l;have self:∀ c:RV,Vk X.K c c=Y true:=λc=>by unfold Vk;rw[SO (XI _)]
 rcases h with ⟨a,dx,fs,rfl,d|d,h⟩|⟨T,ty,A,h⟩
 ·exact Kw I f (.ins d M.cls q1 q2 q3 q4) j (by unfold Vj;rw[self]) λb=>⟨.bl true,H,I.tok b,O,h⟩
 ·exact Kw I f (.ins d z.cls r1 r2 r3 r4) j (by unfold Vj;rw[l];unfold Vj;rw[self]) λb=>⟨.bl true,H,I.tok b,O,h⟩
 ·exact Kw I f ty j (by unfold Vj;rw[q5 T A];unfold Vj;rw[r5 T A];rfl) λb=>⟨.bl false,H,I.tok b,O,h⟩
def P1 (b:S9 ⊕ (Kn->R3))(P:C3)(k:Nat)(r:Rat):Prop:=∃ L st,jC b k L/\nN (P.at k) ((P.at k).length-1) st/\r=L*st
def Ae (b:S9 ⊕ (Kn->R3))(P:C3)(q:Q3):Prop:=∀ k,k<3->P1 b P k (q.at k)
theorem JW (h:Ae b P q)(g:Ae b P q'):q=q':=by
 have a:∀ k,k<3->q.at k=q'.at k:=λk c=>by
  obtain⟨L,s,i,l,e⟩:=h k c;obtain⟨m,n,j,d,f⟩:=g k c;rw[e,f,GO i j,l.uniq d]
 exact Q3.ext (a 0 Z) (a 1 Z) (a 2 Z)
theorem C9 (h:vN ps){c:Rat}(s:nN ps i c):Bq 12 c:=by
 rcases s.one with rfl|⟨j,p,r,_,e,d,rfl⟩
 ·exact QB.mono Z
 ·have a:=h.inn p (Se e);have b:=h.inn r (Se d);have:=(h.up j p r e d).1;have:=a.a1;have:=a.a2;have:=b.a1;have:=b.a2;have:=a.b1;have:=a.b2;have:=b.b1;have:=b.b2;exact eK zyA (by unfold Sm;lia) (by unfold Sm;lia)
theorem IT {r:R3}{i:Nat}(hi:i<3):r.vs[i]?=Y (.int (r.nth i)):=by
 match i,hi with
 |0,_=>rfl
 |1,_=>rfl
 |2,_=>rfl
theorem MJ {r:R3}{m:Int}(h:r.In m){i:Nat}:-m<=r.nth i/\r.nth i<=m:=by
 match i with
 |0=>exact⟨h.a1,h.a2⟩
 |1=>exact⟨h.b1,h.b2⟩
 |_+2=>exact⟨h.c1,h.c2⟩
theorem L7 {m c:Int}(h:kD l m)(c0:0<=c)(a:∀ x∈l,x<=c):m<=c:=by
 rcases h.at_ with rfl|b
 ·exact c0
 ·exact a m b
theorem Ew {s:S9}(h:s.In){i:Nat}:∀ x∈rT s i,0<=x/\x<=4000:=by
 have a:∀ {r:R3},r.In 4000->0<=A5 (r.nth i)/\A5 (r.nth i)<=4000:=λ{r} c=>by
  have:=MJ c (i:=i);unfold A5
  split<;>lia
 intro x b;simp only[rT,R',Sg,TK] at b;rcases b with rfl|rfl|rfl
 ·exact a h.x
 ·exact a h.y
 ·exact a h.z
theorem Oa (h:t∈aI 2)(k:Nat):ED 2 t k∈aI 2:=by
 unfold ED
 split
 ·assumption
 ·exact h
theorem Lc (w:Db 2 f):∀ x∈(aI 2).flatMap (qp 2 f),x<=1000:=by
 intro x c;obtain⟨t,e,c⟩:=VM.mp c;have a:=w t e;have d:∀ k,x∈yj (f t) (f (ED 2 t k))->x<=1000:=λk h=>by
  have b:=w _ (Oa e k);obtain⟨p,l,i,m,c0,c1⟩:=a;obtain⟨o,d1,q,j,n,g⟩:=b;simp only[yj,R',Sg,TK] at h;rcases h with rfl|rfl|rfl<;>(unfold MU;split<;>lia)
 unfold qp at c;rcases S8.mp c with h|h
 ·rcases S8.mp h with h|h
  ·exact d 0 h
  ·exact d 1 h
 ·exact d 2 h
theorem zm {L:Rat}(d:match b with|.inl s=>s.In|.inr f=>Db 2 f)(h:jC b i L):Bq 13 L:=by
 have c:∀ {m u:Int},0<=m->m<=4000->0<u->u<=1000->Bq 13 ((m:Rat)/(u:Rat)):=λj l k g=>eK zyA (by unfold Sm;lia) (by unfold Sm;lia)
 cases b with
 |inl s=>
  obtain⟨m,a,rfl⟩:=h;exact c a.nn (L7 a Z λx e=>(Ew d x e).2) Z Z
 |inr f=>
  obtain⟨m,a,rfl⟩:=h;exact c a.nn (Yl (L7 a Z (Lc d)) Z) Z Z
def LK (K:KE)(H:Hp)(v:V):Prop:=∃ a C b fs,v=.ref a/\H a=Y (.ins C b fs)/\(cR K "SquareProfile" C\/cR K "GridProfile" C)
theorem yP.pr {K:KE}(h:yP K H P s e v):LK K H v:=by obtain⟨a,C,b,_,_,_,_,d,c,f,_⟩:=h;exact⟨a,C,b,_,d,f,.inl c⟩
theorem yn.pr {K:KE}(h:yn K H P f e v):LK K H v:=by obtain⟨a,C,b,_,_,_,_,d,c,g,_⟩:=h;exact⟨a,C,b,_,d,g,.inr c⟩
def zn (K:KE)(H:Hp)(P:C3)(b:S9 ⊕ (Kn->R3))(e:En)(v:V):Prop:=match b with
 |.inl s=>yP K H P s.cp e v/\s.In/\P.In 1000
 |.inr f=>yn K H P f e v/\Db 2 f/\P.In 60
theorem zn.same {K:KE}(h:zn K H P b e v)(s:ah H H'):zn K H' P b e v:=by
 cases b with
 |inl q=>exact⟨h.1.same s,h.2⟩
 |inr f=>exact⟨h.1.same s,h.2⟩
theorem zn.pr {K:KE}(h:zn K H P b e v):LK K H v:=by
 cases b with
 |inl q=>exact h.1.pr
 |inr f=>exact h.1.pr
theorem zn.pin {K:KE}(h:zn K H P b e v):P.In 1000:=by
 cases b with
 |inl q=>exact h.2.2
 |inr f=>exact h.2.2.mono Z
theorem DB {K:KE}{H:Hp}{c:Q3}{xs:List V}{i:Nat}(hi:i<3)(h:aB K H c.ds xs):∃ v,xs[i]?=Y v/\ax K H (rD (c.at i)) v:=Mq h hi
theorem wE {cap:Int}{q y:Rat} (s:P.In cap) (p:∀ f,b=.inr f->P.In 60) (h:P1 b P i q) (hi:i < 3) (v:c.Wi ((60:Int):Rat)) (m:(bW c i y).Wi ((60:Int):Rat))
  (o:kK P c r)(n:kK P (bW c i y) r'):ik ((Dy b r).at j-(Dy b r').at j)<=q*ik (y-c.at i):=by
 obtain⟨L,st,u,a,rfl⟩:=h;have d:(bW c i (c.at i)).Wi ((60:Int):Rat):=by rw[Cv hi];exact v
 have t:kK P (bW c i (c.at i)) r:=by rw[Cv hi];exact o
 by_cases l:c.at i<=y
 ·have g:=CB (j:=j) s p u a hi l d m t n;have e:ik (y-c.at i)=y-c.at i:=by unfold ik;rw[SO (eB l)]
  rw[e];obtain⟨x,k⟩:=g;unfold ik
  split<;>grind
 ·have k:y<=c.at i:=by grind
  have g:=CB (j:=j) s p u a hi k m d n t;have e:ik (y-c.at i)=c.at i-y:=by
   unfold ik;rw[Sx (by grind)];grind
  rw[e];exact LS g
theorem Lf (q:Rat):rD (-q)=jV (0-q.num) (q.den:Int):=by
 rw[Zs];rfl
theorem Ey {q:Rat}(h:0<=q.num):ik q=q:=by
 unfold ik;rw[SO (YE.mp h)]
theorem EI {q:Rat}(h:¬ 0<=q.num):ik q=-q:=by
 unfold ik;rw[Sx (λz=>h (YE.mpr z))]
theorem N0 {q:Rat}(h:Bq k q):Bq k (ik q):=by
 by_cases z:0<=q.num
 ·rw[Ey z];exact h
 ·rw[EI z];exact h.neg
theorem tX {q:Q3}{k i:Nat}(h:q.Bd k):Bq k (q.at i):=by
 match i with
 |0=>exact h.a
 |1=>exact h.b
 |_+2=>exact h.c
noncomputable def Qk (b:List Pt) (a:Rat):Rat:=aaG (Bt b a)
theorem Ep (h:vN ps){a v:Rat}(x:Bt ps a v):Qk ps a=v:=jw h (Zi ⟨v,x⟩) x
noncomputable def At (P:C3) (c:Q3):Q3:=⟨Qk P.p c.a,Qk P.q c.b,Qk P.r c.c⟩
theorem EE {cap:Int}(h:P.In cap)(o:kK P c r):At P c=r:=Q3.ext (Ep (h 0 Z).1 o.1) (Ep (h 1 Z).1 o.2.1) (Ep (h 2 Z).1 o.2.2)
noncomputable def wX (i:Str) (e a:En) (b:S9 ⊕ (Kn->R3)) (P:C3) (c:Q3):Q3:=NG i e a (Dy b (At P c))
def nw (q:Rat):Int:=(2*q.num+(q.den:Int)).fdiv (2*(q.den:Int))
def hq (q:Q3):R3:=⟨Fp (nw q.a),Fp (nw q.b),Fp (nw q.c)⟩
noncomputable def dS (n:Nat) (i:Str) (e a:En) (b:S9 ⊕ (Kn->R3)) (P:C3) (t:Kn):R3:=hq (wX i e a b P (uR n t))
theorem AV:Db m (dS n i e e2 b P):=λt _=>⟨(so _).1,(so _).2,(so _).1,(so _).2,(so _).1,(so _).2⟩
theorem LG {K:KE}(h:zn K H P b e v)(a:kK P c r)(g:c.Wi ((60:Int):Rat))(d:c.Bd 17):(Dy b r).Bd 480:=by
 cases b with
 |inl s=>exact(ND (P7 h.2.1) (Dq h.2.2 a d)).mono Z
 |inr f=>exact(OR Z Z h.2.1 (EF h.2.2 a g) (Dq h.2.2 a d)).mono Z
theorem zn.bounds {K:KE}{k:Nat} (h:zn K H P b e v) (j:σ[k]?=Y (Y v)) (q:∀ u,qx K H e u->Q u H) :
  Jn K "SquareProfile" (rX k) "bounds" σ H Q\/Jn K "GridProfile" (rX k) "bounds" σ H Q:=by
 cases b with
 |inl s=>
  obtain⟨a,C,c,l,vs,m,en,rfl,g,d,_,_,_,i⟩:=h.1;exact .inl ⟨_,j,a,C,c,_,_,O,g,d,O,q _ i.en⟩
 |inr f=>
  obtain⟨a,C,c,l,vs,m,en,rfl,g,d,_,_,_,i⟩:=h.1;exact .inr ⟨_,j,a,C,c,_,_,O,g,d,O,q _ i.en⟩
theorem Jc (l:H p0=none) (n:H p1=none) (m:H p2=none) (g:H D=none) (d:p0 ≠ p1) (b:p0 ≠ p2) (f:p1 ≠ p2) (j:p0 ≠ D) (i:p1 ≠ D) (h:p2 ≠ D) (e:upd (upd (upd (upd H p0 o0) p1 o1) p2 o2) D o=H') :
  ah H H'/\H' p0=Y o0/\H' p1=Y o1/\H' p2=Y o2/\H' D=Y o:=by
 subst e;have k:=ah.new (o:=o0) l;have s2:=ah.new (o:=o1) (show upd H p0 o0 p1=none by rw[ar d.symm];exact n);have c:=ah.new (o:=o2) (show upd (upd H p0 o0) p1 o1 p2=none by rw[ar f.symm,ar b.symm];exact m);have a:=ah.new (o:=o) (show upd (upd (upd H p0 o0) p1 o1) p2 o2 D=none by rw[ar h.symm,ar i.symm,ar j.symm];exact g);exact⟨((k.trans s2).trans c).trans a,a _ _ (c _ _ (s2 _ _ ag)),a _ _ (c _ _ ag),a _ _ ag,ag⟩
def EM (i:Str)(b1 a b2 b:Int):Rat:=if i="white" then(b:Rat)/(a:Rat) else if i="squeezed" then((b-b2:Int):Rat)/((a-b1:Int):Rat) else 1
def nr (i:Str)(h t:En):Q3:=⟨EM i h.b.a h.w.a t.b.a t.w.a,EM i h.b.b h.w.b t.b.b t.w.b,EM i h.b.c h.w.c t.b.c t.w.c⟩
def fX (d e:Rat):Prop:=-d<=e/\e<=d
theorem Iy {a b:Int}(c:0<=a)(d:0<b):(0:Rat)<=(a:Rat)/(b:Rat):=by
 rw[Vl];exact TF (VW.mpr c) (UQ (Y9.mpr (X_.mpr d)))
theorem AK {d e m g:Rat}(h:fX d e)(a:0<=m)(mg:m<=g):fX (g*d) (e*m):=by
 obtain⟨c,f⟩:=h;have b:0<=d:=by grind
 have k:=S0 c a;have i:=S0 f a;have j:=S0 mg b;exact⟨by grind,by grind⟩
theorem Ds {b1 e b2 c:Int}{g d x y:Rat} (r:0 <= b1/\b1 < e/\e <= 1000) (s:0 <= b2/\b2 < c/\c <= 1000) (p:1 <= g) (f:EM i b1 e b2 c <= g) (l:fX d (x - y)) :
  fX (g*d) (C_ i b1 e b2 c x-C_ i b1 e b2 c y):=by
 have own:=AK l (m:=1) Z p;unfold C_ EM at *
 by_cases k:i="same"
 ·rw[SO k,SO k];obtain⟨o,n⟩:=own;exact⟨by grind,by grind⟩
 rw[Sx k,Sx k]
 by_cases h:i="white"
 ·rw[SO h] at f ⊢;rw[SO h];obtain⟨o,n⟩:=AK l (Iy zyA zyA) f;exact⟨by grind,by grind⟩
 rw[Sx h] at f ⊢;rw[Sx h]
 by_cases j:i="squeezed"
 ·rw[SO j] at f ⊢;rw[SO j];obtain⟨o,n⟩:=AK l (Iy (a:=c-b2) (b:=e-b1) zyA zyA) f;exact⟨by grind,by grind⟩
 rw[Sx j,Sx j];obtain⟨o,n⟩:=own;obtain⟨k1,k2⟩:=l;have t:(b2:Rat)<=(c:Rat):=Tk.mpr zyA;have q:0<=d:=by grind
 have u:d<=g*d:=by have:=S0 p q;grind
 generalize (b2:Rat)=B at *;generalize (c:Rat)=W at *;generalize g*d=D at *;clear f r s k h j o n;unfold fX
 split<;>split<;>(try split)<;>(try split)<;>grind
def FT (i:Str)(h t:En)(g:Rat):Prop:=(g=1\/∃ k,k<3/\g=(nr i h t).at k)/\1<=g/\∀ k,k<3->(nr i h t).at k<=g
theorem FT.uniq {g g':Rat}(a:FT i h t g)(b:FT i h t g'):g=g':=by
 have l:∀ {g g':Rat},FT i h t g->FT i h t g'->g<=g':=λ{g g'} a b=>by
  rcases a.1 with rfl|⟨k,c,rfl⟩
  ·exact b.2.1
  ·exact b.2.2 k c
 exact Rat.le_antisymm (l a b) (l b a)
def xI (i:Str)(h t:En):List Rat:=if i="white"\/i="squeezed" then[(nr i h t).a,(nr i h t).b,(nr i h t).c] else[]
theorem N1 {m:Rat}(b:m∈(1:Rat)::xI i h t)(a:∀ r∈(1:Rat)::xI i h t,r<=m):FT i h t m:=by
 unfold xI at b a
 by_cases z:i="white"\/i="squeezed"
 ·rw[SO z] at b a;simp only[R',Sg,TK] at b a;refine⟨?_,a _ (.inl rfl),λk l=>?_⟩
  ·rcases b with e|e|e|e
   ·exact .inl e
   ·exact .inr ⟨0,Z,e⟩
   ·exact .inr ⟨1,Z,e⟩
   ·exact .inr ⟨2,Z,e⟩
  ·rcases(by lia:k=0\/k=1\/k=2) with rfl|rfl|rfl
   ·exact a _ (.inr (.inl rfl))
   ·exact a _ (.inr (.inr (.inl rfl)))
   ·exact a _ (.inr (.inr (.inr rfl)))
 ·rw[Sx z] at b a;simp only[R',Sg,TK] at b;subst b;have e:∀ f d g j,EM i f d g j=1:=λf d g j=>by
   unfold EM;rw[Sx (λc=>z (.inl c)),Sx (λc=>z (.inr c))]
  refine⟨.inl rfl,UZ,λk l=>?_⟩;rcases(by lia:k=0\/k=1\/k=2) with rfl|rfl|rfl<;>exact(e _ _ _ _).symm▸UZ
theorem vo:Bq 20 1:=⟨Z,Z,by unfold Sm;decide,by unfold Sm;decide⟩
theorem Ed {b1 a b2 b:Int}(c:0<=b1/\b1<a/\a<=1000)(d:0<=b2/\b2<b/\b<=1000):Bq 20 (EM i b1 a b2 b):=by
 unfold EM
 split
 ·exact eK zyA (by unfold Sm;lia) (by unfold Sm;lia)
 ·split
  ·exact eK zyA (by unfold Sm;lia) (by unfold Sm;lia)
  ·exact vo
theorem uW (a:h.In)(it:t.In):(nr i h t).Bd 20:=⟨Ed ⟨a.a0,a.a1,a.a2⟩ ⟨it.a0,it.a1,it.a2⟩,Ed ⟨a.b0,a.b1,a.b2⟩ ⟨it.b0,it.b1,it.b2⟩,Ed ⟨a.c0,a.c1,a.c2⟩ ⟨it.c0,it.c1,it.c2⟩⟩
theorem FT.bq {g:Rat}(a:h.In)(it:t.In)(G:FT i h t g):Bq 20 g:=by
 rcases G.1 with rfl|⟨k,b,rfl⟩
 ·exact vo
 ·exact tX (uW a it)
theorem LO {g d:Rat}(a:h.In)(it:t.In)(G:FT i h t g)(e:j<3)(l:fX d (x.at j-y.at j)):fX (g*d) ((NG i h t x).at j-(NG i h t y).at j):=by
 obtain⟨_,c,f⟩:=G;have b:=f j e;rcases(by lia:j=0\/j=1\/j=2) with rfl|rfl|rfl
 ·exact Ds ⟨a.a0,a.a1,a.a2⟩ ⟨it.a0,it.a1,it.a2⟩ c b l
 ·exact Ds ⟨a.b0,a.b1,a.b2⟩ ⟨it.b0,it.b1,it.b2⟩ c b l
 ·exact Ds ⟨a.c0,a.c1,a.c2⟩ ⟨it.c0,it.c1,it.c2⟩ c b l
theorem Dr {L d e:Rat}{y:Rat}(f:0<=L)(h:ik e<=L*ik y)(l:fX d y):fX (L*d) (-e):=by
 obtain⟨i,g⟩:=l;have a:ik y<=d:=by unfold ik;split<;>grind
 have b:=XG a f;have c:-ik e<=e/\e<=ik e:=by unfold ik;split<;>constructor<;>grind
 exact⟨by grind,by grind⟩
theorem DF {r:Rat}(h:P1 b P k r):0<=r:=by
 obtain⟨L,st,c,a,rfl⟩:=h;exact TF (Fj c) a.pos
theorem Ly {cap:Int}{d:Rat} (n:P.In cap) (m:∀ f,b=.inr f->P.In 60) (h:Ae b P q) (g:c.Wi ((60:Int):Rat)) (e:c'.Wi ((60:Int):Rat))
  (o:kK P c r)(i:kK P c' r')(l:∀ k,k<3->fX d (c'.at k-c.at k)):fX ((q.a+q.b+q.c)*d) ((Dy b r').at j-(Dy b r).at j):=by
 have t:=Dr (DF (h 0 Z)) (wE (j:=j) (y:=c'.a) (r':=⟨r'.a,r.b,r.c⟩) n m (h 0 Z) Z g ⟨e.a0,e.a1,g.b0,g.b1,g.c0,g.c1⟩ o ⟨i.1,o.2.1,o.2.2⟩) (l 0 Z);have v:=Dr (DF (h 1 Z)) (wE (j:=j) (y:=c'.b) (c:=⟨c'.a,c.b,c.c⟩) (r:=⟨r'.a,r.b,r.c⟩) (r':=⟨r'.a,r'.b,r.c⟩) n m (h 1 Z) Z ⟨e.a0,e.a1,g.b0,g.b1,g.c0,g.c1⟩ ⟨e.a0,e.a1,e.b0,e.b1,g.c0,g.c1⟩ ⟨i.1,o.2.1,o.2.2⟩ ⟨i.1,i.2.1,o.2.2⟩) (l 1 Z);have s2:=Dr (DF (h 2 Z)) (wE (j:=j) (y:=c'.c) (c:=⟨c'.a,c'.b,c.c⟩) (r:=⟨r'.a,r'.b,r.c⟩) (r':=r') n m (h 2 Z) Z ⟨e.a0,e.a1,e.b0,e.b1,g.c0,g.c1⟩ e ⟨i.1,i.2.1,o.2.2⟩ i) (l 2 Z);have u:q.at 0=q.a:=O;have s:q.at 1=q.b:=O;have p:q.at 2=q.c:=O;rw[u] at t;rw[s] at v;rw[p] at s2;generalize (Dy b r).at j=E at *;generalize (Dy b ⟨r'.a,r.b,r.c⟩).at j=F at *;generalize (Dy b ⟨r'.a,r'.b,r.c⟩).at j=x at *;generalize (Dy b r').at j=B at *;obtain⟨D,A⟩:=t;obtain⟨z,C⟩:=v;obtain⟨c0,c1⟩:=s2;clear h l o i g e u s p n m;exact⟨by grind,by grind⟩
theorem E9 (q:Rat):fX ((1:Int)/(2:Int):Rat) ((nw q:Int)-q):=by
 have h:(0:Int)<q.den:=by have:=q.den_pos;lia
 have e:=TW (2*q.num+(q.den:Int)) (b:=2*(q.den:Int)) zyA;have c:=U7 (2*q.num+(q.den:Int)) (b:=2*(q.den:Int)) zyA;have g:=Ux (2*q.num+(q.den:Int)) (b:=2*(q.den:Int)) zyA;have a:=Int.emod_add_mul_ediv (2*q.num+(q.den:Int)) (2*(q.den:Int));rw[<- e] at a;have en:nw q=(2*q.num+(q.den:Int)).fdiv (2*(q.den:Int)):=O;rw[<- en] at a;generalize (2*q.num+(q.den:Int))%(2*(q.den:Int))=z at c g a;have d:(0:Rat)<((q.den:Int):Rat):=X_.mpr h;have i:=iQ q;have k:=jE q;have c1:((2*(q.den:Int)*nw q:Int):Rat)<=((2*q.num+(q.den:Int):Int):Rat):=Tk.mpr zyA;have c2:((2*q.num+(q.den:Int):Int):Rat)<=((2*(q.den:Int)*nw q+2*(q.den:Int):Int):Rat):=Tk.mpr zyA;simp only[SE,Uj] at c1 c2;have f:((2:Int):Rat)=2:=O;have j:((1:Int):Rat)=1:=O;rw[f] at c1 c2;have k1:2*((q.den:Int):Rat)*((nw q:Int)-q)<=((q.den:Int):Rat):=by
  have:q*((q.den:Int):Rat)=((q.num:Int):Rat):=by
   generalize ((q.den:Int):Rat)=D at *;generalize ((q.num:Int):Rat)=N at *;grind
  grind
 have k2:-((q.den:Int):Rat)<=2*((q.den:Int):Rat)*((nw q:Int)-q):=by
  have:q*((q.den:Int):Rat)=((q.num:Int):Rat):=by
   generalize ((q.den:Int):Rat)=D at *;generalize ((q.num:Int):Rat)=N at *;grind
  grind
 rw[j,f];generalize ((q.den:Int):Rat)=D at *;generalize ((nw q:Int)-q:Rat)=X at *;clear c1 c2 i en e a c g;refine⟨?_,?_⟩
 ·refine YD ?_ d;grind
 ·refine YD ?_ d;grind
theorem HI {q:Rat}(f:0<=q)(d:q<=((1000:Int):Rat)):Fp (nw q)=nw q:=by
 obtain⟨a,b⟩:=E9 q;have c:((2:Int):Rat)=2:=O;have e:((1:Int):Rat)=1:=O;rw[e,c] at a b;have c1:((-1:Int):Rat)<((nw q:Int):Rat):=by
  have:((-1:Int):Rat)=-1:=O;rw[this];grind
 have c2:((nw q:Int):Rat)<((1001:Int):Rat):=by
  have:((1001:Int):Rat)=1001:=O;have k:((1000:Int):Rat)=1000:=O;rw[k] at d;rw[this];grind
 have d1:=Zn.mp c1;have d2:=Zn.mp c2;exact NI zyA zyA
theorem Ro {lo hi:Rat} (l:2 <= n) (k:n <= 7) (j:c.Wi ((60:Int):Rat)) (h:∀ t ∈ aI 2,lo <= ((g (f (aD (qe n c) t)):Int):Rat)/\((g (f (aD (qe n c) t)):Int):Rat) <= hi) :
  (lo<=md n f c g/\md n f c g<=hi)/\(lo<=rN n f c g/\rN n f c g<=hi):=by
 have F:=lX (jU n c.a) (jU n c.b) (jU n c.c);obtain⟨s,u,o3⟩:=DK F.1;obtain⟨d,e,i⟩:=Qh l k j;have r:=(BG l k j s).2;have q:=(BG l k j o3).1;have o:∀ t∈aI 2,lo<=tQ n f c g t:=λt m=>(h t m).1
 have p:∀ t∈aI 2,tQ n f c g t<=hi:=λt m=>(h t m).2
 exact⟨⟨Fe F r q o,LI F r q p⟩,Ir (kC d) (kJ d) (kC e) (kJ e) (kC i) (kJ i) o,Jy (kC d) (kJ d) (kC e) (kJ e) (kC i) (kJ i) p⟩
theorem wI {x:Rat}(a:Dv n x)(j:u<2):fX ((fu n:Int):Rat) (((fu n*((d_ n x+u:Nat):Int):Int):Rat)-x):=by
 have e:=K' (n:=n) (x:=x);rw[Bf a.n2 a.n7] at e;have ne:=B9 a.n2 a.n7;have b:(0:Rat)<((fu n:Int):Rat):=X_.mpr (jG a.n2 a.n7).1;have g:=TF (UQ b) (kC a);have i:=TF (UQ b) (eB (kJ a));have c:((d_ n x+u:Nat):Int)=(d_ n x:Int)+(u:Int):=zyA
 rw[c,SE,Uj];have f:x=((fu n:Int):Rat)*(((d_ n x:Int):Rat)+jU n x):=by
  rw[e];generalize ((fu n:Int):Rat)=A at *;grind
 generalize h:jU n x=R at *;generalize ((d_ n x:Int):Rat)=L at *;generalize ((fu n:Int):Rat)=A at *;have d:A*(L+((u:Int):Rat))-x=A*(((u:Int):Rat)-R):=by rw[f];grind
 rw[d];rcases(by lia:u=0\/u=1) with rfl|rfl
 ·have z:(((0:Nat):Int):Rat)=0:=O;rw[z];exact⟨by grind,by grind⟩
 ·have z:(((1:Nat):Int):Rat)=1:=O;rw[z];exact⟨by grind,by grind⟩
theorem Fu (i:2<=n)(l:n<=7)(a:c.Wi ((60:Int):Rat))(j:t∈aI 2):∀ k,k<3->fX ((fu n:Int):Rat) ((uR n (aD (qe n c) t)).at k-c.at k):=λk m=>by
 obtain⟨h,e,f⟩:=Qh i l a;obtain⟨g,b,d⟩:=bA.mp j;rcases(by lia:k=0\/k=1\/k=2) with rfl|rfl|rfl
 ·exact wI h g
 ·exact wI e b
 ·exact wI f d
theorem JE (b:2<=n)(e:n<=7)(a:c.Wi ((60:Int):Rat))(d:t∈aI 2):aD (qe n c) t∈aI n:=by
 obtain⟨k,f,g⟩:=QV b e a;obtain⟨j,h,i⟩:=bA.mp d;exact bA.mpr ⟨by show(qe n c).1+t.1<n;lia,by show(qe n c).2.1+t.2.1<n;lia,by show(qe n c).2.2+t.2.2<n;lia⟩
def OX (q:Q3):Prop:=∀ k,k<3->0<=q.at k/\q.at k<=((1000:Int):Rat)
theorem MG (a:j<3)(h:OX q):(hq q).nth j=nw (q.at j):=by
 have g:=h j a;rcases(by lia:j=0\/j=1\/j=2) with rfl|rfl|rfl<;>exact HI g.1 g.2
def qo (n:Nat)(q:Q3)(g:Rat):Rat:=(q.a+q.b+q.c)*g*((fu n:Int):Rat)+((1:Int):Rat)/((2:Int):Rat)
theorem G9 {cap:Int}{g:Rat} (s:2 <= n) (p:n <= 7) (D:P.In cap) (z:∀ f,b=.inr f->P.In 60) (E:Ae b P q) (N:e.In) (J:d.In) (G:FT i e d g)
  (o:c.Wi ((60:Int):Rat))(x:kK P c (At P c))(h:∀ t∈aI n,kK P (uR n t) (At P (uR n t))/\OX (wX i e d b P (uR n t)))(H:j<3):
  fX (qo n q g) ((W4 n (dS n i e d b P) c).at j-(wX i e d b P c).at j)/\fX (qo n q g) ((W8 n (dS n i e d b P) c).at j-(wX i e d b P c).at j):=by
 have v:(W4 n (dS n i e d b P) c).at j=md n (dS n i e d b P) c (λr=>r.nth j):=by
  rcases(by lia:j=0\/j=1\/j=2) with rfl|rfl|rfl<;>rfl
 have y:(W8 n (dS n i e d b P) c).at j=rN n (dS n i e d b P) c (λr=>r.nth j):=by
  rcases(by lia:j=0\/j=1\/j=2) with rfl|rfl|rfl<;>rfl
 rw[v,y];have k:∀ t∈aI 2,fX (qo n q g) ((((dS n i e d b P (aD (qe n c) t)).nth j:Int):Rat)-(wX i e d b P c).at j):=λt u=>by
  have m:=JE s p o u;obtain⟨I,F⟩:=h _ m;have f:=Ly (j:=j) D z E o (Df s p m).1 x I (Fu s p o u);have l:=LO N J G H f;have T:=E9 ((wX i e d b P (uR n (aD (qe n c) t))).at j);have en:(dS n i e d b P (aD (qe n c) t)).nth j=nw ((wX i e d b P (uR n (aD (qe n c) t))).at j):=MG H F;rw[en];have Q:fX (g*((q.a+q.b+q.c)*((fu n:Int):Rat))) ((wX i e d b P (uR n (aD (qe n c) t))).at j-(wX i e d b P c).at j):=l;generalize (wX i e d b P (uR n (aD (qe n c) t))).at j=X at *;generalize (wX i e d b P c).at j=zzW at *;generalize ((nw X:Int):Rat)=C at *;unfold qo;generalize ((fu n:Int):Rat)=A at *;generalize ((1:Int):Rat)/((2:Int):Rat)=U at *;obtain⟨L,M⟩:=T;obtain⟨b1,b2⟩:=Q;clear l f en F I m;exact⟨by grind,by grind⟩
 generalize qo n q g=B at *;generalize (wX i e d b P c).at j=zzW at *;obtain⟨⟨f1,f2⟩,e1,d⟩:=Ro (f:=dS n i e d b P) (g:=λr=>r.nth j) (lo:=zzW-B) (hi:=zzW+B) s p o λt u=>by
  obtain⟨L,M⟩:=k t u;generalize (((dS n i e d b P (aD (qe n c) t)).nth j:Int):Rat)=C at *;clear k v y h x o G E z D;exact⟨by grind,by grind⟩
 clear k v y h x o G E z D;exact⟨⟨by grind,by grind⟩,by grind,by grind⟩
section
variable {prog:SA}{w:Te}{A:Tf}{E:RV->RZ->Prop}{s:RZ}{K:KE}{x C:Sd}{ox:Obj}{od:Option Obj}
theorem instObj (X:K.In s.heap)(I:abo s.heap x ox C od)(a:Wm K (.ref C) (.type "object")=Y true):PySem.W.Looks M s.heap (ZO (.ref x) (.type "object")) true:=I.type.andThen (PySem.W.looks_subIn X a)
end
def OI:List Int->List Int->Bool
 |a::c,b::bs=>if a=b then OI c bs else decide (a<b)
 |_,_=>false
def Pb (H H':Hp):Prop:=∀ b o,H b=Y o->(∀ f,o≠.ext f)->H' b=Y o
theorem sE (s:ah H H'):Pb H H':=λb o e _=>s b o e
def Qi (a b:Int×Int×Int):Bool:=if a.1=b.1 then(if a.2.1=b.2.1 then decide (a.2.2<b.2.2) else decide (a.2.1<b.2.1)) else decide (a.1<b.1)
theorem uE (a b:Int×Int×Int):Qi a b=true↔a.1<b.1\/(a.1=b.1/\(a.2.1<b.2.1\/(a.2.1=b.2.1/\a.2.2<b.2.2))):=by
 unfold Qi
 by_cases c:a.1=b.1
 ·rw[SO c]
  by_cases d:a.2.1=b.2.1
  ·rw[SO d,U6];lia
  ·rw[Sx d,U6];lia
 ·rw[Sx c,U6];lia
theorem Ij (a b:Int×Int×Int):Qi a b=false↔¬ (a.1<b.1\/(a.1=b.1/\(a.2.1<b.2.1\/(a.2.1=b.2.1/\a.2.2<b.2.2)))):=by
 rw[<- uE];simp
def o3:KeyOrd where
 α:=Int×Int×Int
 blt:=Qi
 irrefl a:=by rw[Ij];lia
 trans a b c h1 h2:=by rw[uE] at *;lia
 negTrans a b c h:=by rw[uE] at *;rw[uE];lia
 total a b h1 h2:=by
  rw[Ij] at *;obtain⟨x,y,z⟩:=a;obtain⟨u,v,w⟩:=b;dsimp only at h1 h2;have d:x=u:=zyA
  have e:y=v:=zyA
  have f:z=w:=zyA
  rw[d,e,f]
def lp (m i:Nat):Nat:=(i*5+1)%(m+1)
section
variable {t:VX}
def rs (t:VX)(a:Nat×Nat):abq:={ j:=a.1,more:=SetTable.runEnd t.mask a.1-a.1,i:=a.1,perturb:=a.2,dummy:=none }
end
theorem WW.pt {X:Cx}{e:U2}{t:TT}(h:WW X e t):WT X e t:=⟨PW.pt h.go⟩
set_option autoImplicit true
set_option relaxedAutoImplicit true
section
variable {X:Cx}{st:T6}{K:KE}
theorem aN :WA X [] yf:=⟨Jf ⟩
theorem aj (a:WE X e te)(b:WA X es t)(c:Ss (e::es) X.env=(false,V1 e X.env)::Ss es X.env:=by rfl):WA X (e::es) (o8 te t):=⟨Et a.go b.go c⟩
theorem ak (i:Nat)(b:X.N[i]?=Y x:=by rfl)(c:Oj X.env.scope x:=by first|exact aa5 rfl|exact Z6 (aa5 rfl)|exact Z6 (Z6 rfl))(d:(x==("__debug__":Str))=false:=by decide)(a:(x==("__classdict__":Str))=false:=by decide):WE X (.Name x pos) (rX i):=⟨pv i b c d a⟩
theorem JY (b:X.xe=λ_ _=>False)(a:gens[d+1]?=none)(he:WE X elt te):WB X elt gens scope pos d (EY te):=⟨E_ b a he.go⟩
end
section
variable {X:Cx}
theorem aw (i:Nat){x:Str}{e:U2}{b:TE}{pos a:Pos}(d:X.N.Nodup)(he:WE X e b)(hi:X.N[i]?=Y x:=by rfl)(c:Nl X.env.scope x:=by first|exact aa5 rfl|exact Z6 rfl)(f:YX e (Y (.Name x a)) pos.line X.env=pure false:=by rfl)(g:X.fn x=true\/X.env.scope.names.lookup x=Y .local:=by first|exact .inl rfl|exact .inr rfl|assumption):WS X (.Assign [.Name x a] e pos) (MT b (wA i)):=KR d hi c he f g
theorem ai (i:Nat){x:Str}{pos:Pos}(b:X.N.Nodup)(hi:X.N[i]?=Y x:=by rfl)(a:Nl X.env.scope x:=by first|exact aa5 rfl|exact Z6 rfl)(c:X.fn x=true\/X.env.scope.names.lookup x=Y .local:=by first|exact .inl rfl|exact .inr rfl|assumption):WG X (.Name x pos) (wA i):=Ii b hi a c
theorem am (K:KE){a b:U2}{c tb:TE}{pos:Pos}(d:WE X a c)(f:WE X b tb)(e:X.K=K:=by rfl)(g:E5 b:=by intro _ _;rfl):WE X (.Subscript a b pos) (P0 (Ku K) c tb):=DO (Qz e) d f g
theorem ab {CX:qr}{k j:Nat}{x:Str}{d:List Str}{sp:Sp}{dvs:List V}{p pos:Pos}{e:U2}{es:List U2}{t:TA}(h:GU CX)(C:NH X.prog X.w X.K X.mg X.base CX k x d dvs sp)(f:Room j X.A)(c:WA X (e::es) t)(g:k<=j:=by decide)(i:Gl X x:=by rfl)(a:(x==("__debug__":Str))=false:=by decide)(he:Ss (e::es) X.env=(false,V1 e X.env)::Ss es X.env:=by rfl)(b:(VY pos (Ss es X.env)).any (·.1)=false:=by rfl):WE X (.Call (.Name x p) (e::es) [] pos) (BP sp dvs E0 t):=KF h C (f.mono g) i c a he b
theorem aE {e:U2}{a:TE}(h:WE X e a)(b:Ss [e] X.env=(false,V1 e X.env)::Ss [] X.env:=by rfl):WA X [e] (o8 a yf):=aj h aN b
theorem aA {e f:U2}{b a:TE}(h:WE X e b)(g:WE X f a)(d:Ss [e,f] X.env=(false,V1 e X.env)::Ss [f] X.env:=by rfl)(c:Ss [f] X.env=(false,V1 f X.env)::Ss [] X.env:=by rfl):WA X [e,f] (o8 b (o8 a yf)):=aj h (aj g aN c) d
theorem aG {a:Xy}{d e b:U2}{c:List U2}{h:TI}{g:TG}{i:TT}{f:TE}{pos:Pos}(ts cs:List Str)(js:List Nat)(k:Nat)(hi:WI X e b h)(r:(ts++cs).Nodup->∀ {C s0 H0 fp pn},WG (bU X (ts++cs) a (bD X a C) C s0 H0 fp pn) e g)(t:∀ {C s0 H0 fp pn},Mj (bU X (ts++cs) a (bD X a C) C s0 H0 fp pn) c i)(he:∀ {C s0 H0 fp pn},WE (bU X (ts++cs) a (bD X a C) C s0 H0 fp pn) d f)(o:(ts++cs).Nodup:=by decide +kernel)(q:X.calm=true:=by rfl)(n:uO a=true:=by decide +kernel)(l:(a.names.all λy=>!(y.2==.free)||(X.env.cells.lookup y.1).isSome)=true:=by rfl)(j:rf X a cs js=true:=by rfl)(m:cs.length=js.length:=by rfl)(p:ts.length=k:=by rfl)(s:∀ x,Ur b X.env x=pure x:=by intro _;rfl):WE X (.ListComp d [⟨e,b,c,0⟩] a pos) (Hk h g i f (DC k js)):=JK q hi (Bn n l) (Dx (ts:=ts) j m p) (λ_ _ _ _ _=>r o) (λ_ _ _ _ _=>t) (λ_ _ _ _ _=>he) s
theorem cP (i:Nat){y:Str}{o c:Pos}{a:Xy}{e f b:U2}{d:List U2}{m:TI}{g:TG}{n:TT}{l:TE}{pos:Pos}(ts cs:List Str)(js:List Nat)(k:Nat)(p:X.N.Nodup)(hi:WI X f b m)(B:(ts++cs).Nodup->∀ {C s0 H0 fp pn},WG (bU X (ts++cs) a (bD X a C) C s0 H0 fp pn) f g)(E:∀ {C s0 H0 fp pn},Mj (bU X (ts++cs) a (bD X a C) C s0 H0 fp pn) d n)(he:∀ {C s0 H0 fp pn},WE (bU X (ts++cs) a (bD X a C) C s0 H0 fp pn) e l)(v:(ts++cs).Nodup:=by decide +kernel)(A:X.calm=true:=by rfl)(h:X.N[i]?=Y y:=by rfl)(u:X.env.scope.names.lookup y=Y .local:=by rfl)(t:uO a=true:=by decide +kernel)(r:(a.names.all λy=>!(y.2==.free)||(X.env.cells.lookup y.1).isSome)=true:=by rfl)(q:rf X a cs js=true:=by rfl)(s:cs.length=js.length:=by rfl)(z:ts.length=k:=by rfl)(j:YX (.ListComp e [⟨f,b,d,0⟩] a pos) (Y (.Name y o)) c.line X.env=pure true:=by rfl)(D:∀ x,Ur b X.env x=pure x:=by intro _;rfl):WS X (.Assign [.Name y o] (.ListComp e [⟨f,b,d,0⟩] a pos) c) (Iz i m g n l (DC k js)):=CK A p h u hi (Bn t r) (Dx (ts:=ts) q s z) (λ_ _ _ _ _=>B v) (λ_ _ _ _ _=>E) (λ_ _ _ _ _=>he) j D
end
end TR
set_option Elab.async false
set_option linter.all false
set_option maxRecDepth 100000
set_option maxHeartbeats 8000000
namespace TR
open PySem PySem.Spec PyProof.Rows L2
set_option autoImplicit false
abbrev j0:List Str:=["thing"]
abbrev kS:List Str:=["_law_one","_law_two"]
abbrev oR:List Str:=["number","here","there"]
abbrev tR:List Str:=["_law_town_here","_law_cap"]
abbrev uA0:List Str:=["profile","intent","there","knots"]
abbrev uA1:List Str:=["_law_town_here"]
abbrev uA2:List Str:=["one","other"]
abbrev uA3:List Str:=["self"]
abbrev uA4:List Str:=["_law_town_here","_law_cap","_law_climbs"]
abbrev uA5:List Str:=["thing","most"]
abbrev uA6:List Str:=["profile","intent","colour","there"]
abbrev uA7:List Str:=["here","there"]
abbrev uA8:List Str:=["self","curves","square","ends"]
abbrev uA9:List Str:=["_law_town_here","_law_last","_law_cap","_law_climbs"]
abbrev uB0:List Str:=["self","colour","way"]
abbrev uB1:List Str:=["self","curves","grid","ends"]
abbrev uB2:List Str:=["_law_script"]
abbrev uB3:List Str:=["profile","intent","there"]
abbrev uB4:List Str:=["thing","knots"]
abbrev uB5:List Str:=["self","colour"]
abbrev uB6:List Str:=["worth","intent","here","there"]
abbrev uB7:List Str:=["thing","many","least","most"]
abbrev uB8:List Str:=["top","below"]
abbrev uB9:List Str:=["self","white","black"]
abbrev uC0:List Str:=["_law_town_here","_law_some"]
abbrev uC1:List Str:=["self","place"]
abbrev uC2:List Str:=["ends"]
abbrev uC3:List Str:=["_law_intent","_law_one","_law_two"]
abbrev uC4:List Str:=["_law_k"]
abbrev uC5:List Str:=["far","whole"]
abbrev uC6:List Str:=["there","knots"]
abbrev uC7:List Str:=["thing","least","most"]
abbrev uC8:List Str:=["self","knots","table"]
abbrev uC9:List Str:=["number"]
abbrev uD0:List Str:=["_law_town_here","_law_many"]
abbrev uD1:List Str:=["_law_town_here","_law_size"]
abbrev uD2:List Str:=["one","least","most"]
abbrev uD3:List Str:=["white","black"]
abbrev uD4:List Str:=["low","high"]
abbrev uD5:List Str:=["square","colour"]
abbrev uD6:List Str:=["curves","colour"]
abbrev uD7:List Str:=["intent","here","there"]
abbrev uD8:List Str:=["_law_w","_law_x","_law_y","_law_z"]
abbrev uD9:List Str:=["many"]
abbrev uE0:List Str:=["self","least","parts"]
abbrev uE1:List Str:=["a","b","c","numbers"]
abbrev uE2:List Str:=["place","steps"]
abbrev uE3:List Str:=["self","points"]
abbrev uE4:List Str:=["row","colour"]
abbrev uE5:List Str:=["row","other"]
abbrev uE6:List Str:=["low","high","at"]
abbrev uE7:List Str:=["knots"]
abbrev uE8:List Str:=["there"]
def cK (i:Nat):T6:=PySem.Challenge.pw_tintroads_k23_whole_link_bound.main.body.getD i (.Pass ⟨0,0,0,0⟩)
abbrev qk:T6:=cK 12
abbrev gf:T6:=cK 13
abbrev gk:T6:=cK 14
abbrev fR:T6:=cK 15
abbrev qm:T6:=cK 16
abbrev gi:T6:=cK 17
abbrev jj:T6:=cK 18
abbrev AT:T6:=cK 19
abbrev l0:T6:=cK 20
abbrev pU:T6:=cK 21
abbrev iL:T6:=cK 22
abbrev rR:T6:=cK 23
abbrev vk:T6:=cK 24
abbrev ny:T6:=cK 25
abbrev gW:T6:=cK 26
abbrev kW:T6:=cK 27
abbrev nB:T6:=cK 31
abbrev u_:T6:=cK 32
abbrev mE:T6:=cK 33
abbrev fI:T6:=cK 34
abbrev fQ:T6:=cK 35
abbrev nO:T6:=cK 36
abbrev nV:T6:=cK 37
abbrev Jh:T6:=cK 38
abbrev pO:T6:=cK 45
abbrev rV:T6:=cK 46
abbrev pQ:T6:=cK 47
abbrev AA:T6:=cK 48
abbrev Dw:T6:=cK 49
abbrev pN:T6:=cK 50
abbrev gq:T6:=cK 51
abbrev dh:T6:=cK 52
abbrev jt:T6:=cK 53
abbrev Ba:T6:=cK 54
abbrev du:T6:=cK 55
abbrev gU:T6:=cK 56
abbrev wR:T6:=cK 58
abbrev gQ:T6:=df (cK 59) 0
abbrev kP:T6:=df (cK 59) 1
abbrev kL:T6:=df (cK 59) 2
abbrev jT:T6:=df (cK 59) 4
abbrev b_:T6:=df (cK 59) 3
abbrev iI:T6:=df (cK 59) 5
abbrev cI:T6:=df (cK 61) 0
abbrev A7:T6:=cK 62
abbrev iP:T6:=cK 63
abbrev fV:T6:=cK 64
abbrev qh:T6:=cK 65
abbrev jI:T6:=cK 66
abbrev jH:T6:=cK 67
abbrev kF:T6:=cK 68
abbrev nh:T6:=cK 70
abbrev fG:T6:=cK 71
abbrev hU:T6:=cK 72
abbrev f6:T6:=cK 73
abbrev p7:T6:=cK 78
abbrev mH:T6:=cK 79
abbrev nK:T6:=cK 80
abbrev lZ:T6:=cK 81
abbrev sM:T6:=cK 82
abbrev fW:T6:=df (cK 83) 0
abbrev jD:T6:=df (cK 83) 5
abbrev iJ:T6:=df (cK 83) 1
abbrev fM:T6:=df (cK 83) 4
abbrev jN:T6:=df (cK 83) 6
abbrev kE:T6:=cK 86
abbrev mU:T6:=cK 87
abbrev fE:T6:=cK 88
abbrev fK:T6:=cK 89
abbrev iK:T6:=cK 90
abbrev kN:T6:=cK 91
abbrev mJ:T6:=cK 92
abbrev bB:T6:=df (cK 93) 0
abbrev cX:T6:=df (cK 93) 1
abbrev dE:T6:=df (cK 93) 3
abbrev bG:T6:=df (cK 94) 0
abbrev dG:T6:=df (cK 94) 1
abbrev dW:T6:=df (cK 94) 3
abbrev fk:T6:=cK 95
abbrev mP:T6:=cK 96
abbrev gY:T6:=cK 98
abbrev lH:T6:=cK 99
abbrev pK:T6:=cK 100
abbrev lF:T6:=cK 101
abbrev eR:T6:=cK 102
abbrev nG:T6:=cK 104
abbrev m_:T6:=cK 105
abbrev nk:T6:=cK 106
abbrev pR:T6:=cK 107
abbrev nj:T6:=cK 108
abbrev mS:T6:=cK 109
abbrev l4:T6:=cK 110
abbrev l_:T6:=cK 111
abbrev lO:T6:=cK 112
abbrev lQ:T6:=cK 113
abbrev kU:T6:=cK 114
abbrev kR:T6:=cK 115
abbrev nC:T6:=cK 116
abbrev mO:T6:=cK 117
abbrev kO:T6:=cK 118
abbrev jv:T6:=cK 119
abbrev kM:T6:=cK 120
abbrev pq:T6:=cK 121
class cH (K:KE) (mg:Str->Option RV) (w:Te):Prop where
 x5:iO K "Curve" ["points"]=true
 xa:iO K "Ends" uD3=true
 x1:iO K "Grid" ["knots","table"]=true
 x6:iO K "GridProfile" ["curves","grid","bounds"]=true
 x7:iO K "SquareProfile" ["curves","square","bounds"]=true
 xr:∃ D,mg "LEADS"=Y (.ref D)/\wn K w mg D [("same","led_same"),("white","led_by_white"),("squeezed","led_squeezed"),("clipped","led_clipped")]
 xs:∃ D,mg "WAYS"=Y (.ref D)/\wn K w mg D [("four","parts_by_four"),("eight","parts_by_eight")]
 xt:∃ t,mg "FEWEST_KNOTS"=Y (.int 2 t)
 xu:∃ t,mg "FEWEST_POINTS"=Y (.int 2 t)
 xv:∃ t,mg "GREATEST_TO_SQUARE"=Y (.int 1000 t)
 xw:∃ t,mg "GREATEST_curves"=Y (.int 1000 t)
 xj:∃ t,mg "GREATEST_grids"=Y (.int 1000 t)
 xk:∃ t,mg "GREATEST_squares"=Y (.int 4000 t)
 xx:∃ t,mg "MOST_KNOTS"=Y (.int 7 t)
 xy:∃ t,mg "MOST_POINTS"=Y (.int 12 t)
 xg:∃ t,mg "REACH"=Y (.int 60 t)
 xl:∃ t,mg "UNIT"=Y (.int 1000 t)
 xz:Gw K "Curve"=true
 xm:Gw K "Ends"=true
 x10:Gw K "Grid"=true
 x11:Gw K "GridProfile"=true
 x12:Gw K "SquareProfile"=true
 x13:∃ a,mg "STEPS"=Y (.ref a)/\Hq K a [[1,0,0],[0,1,0],[0,0,1]]
 xh:mg "abs"=none
 xb:mg "all"=none
 x14:mg "bool"=none
 xn:mg "dict"=none
 x15:mg "int"=none
 x2:mg "isinstance"=none
 x4:mg "len"=none
 xc:mg "list"=none
 xe:mg "max"=none
 xf:mg "min"=none
 x0:mg "range"=none
 xo:mg "set"=none
 xi:mg "sorted"=none
 xp:mg "str"=none
 xq:mg "sum"=none
 x3:mg "tuple"=none
 x8:mg "zip"=none
 x16:MW K "GridProfile" "SquareProfile"=true
 x17:dg K mg "is_whole" qk j0 []
 x18:dg K mg "is_whole_within" gf uC7 []
 x19:dg K mg "is_tuple_within" gk uB7 []
 x1a:dg K mg "greatest_measure" fR uA2 []
 x1b:dg K mg "is_share" qm j0 []
 x1c:dg K mg "refuse_no_share" gi j0 []
 x9:dg K mg "share" jj uB8 []
 xd:dg K mg "share" jj uB8 [.int 1]
 x1d:dg K mg "added" AT uA2 []
 x1e:dg K mg "multiplied" l0 uA2 []
 x1f:dg K mg "floor_of" pU ["one"] []
 x1g:dg K mg "nearest_whole" iL ["one"] []
 x1h:dg K mg "is_less" rR uA2 []
 x1i:dg K mg "sum_of" vk uD9 []
 x1j:dg K mg "is_within" ny uD2 []
 x1k:dg K mg "over_one_below" gW ["numbers"] []
 x1l:dg K mg "greatest_of" kW uD9 []
 x1m:dg K mg "is_colour" nB j0 []
 x1n:dg K mg "is_row" u_ j0 []
 x1o:dg K mg "is_square" mE j0 []
 x1p:dg K mg "refuse_no_square" fI j0 []
 x1q:dg K mg "refuse_no_colour" fQ j0 []
 x1r:dg K mg "whole_sum" nO uE5 []
 x1s:dg K mg "share_sum" nV uE4 []
 x1t:dg K mg "led" Jh uD5 []
 x1u:dg K mg "is_knots" pO j0 []
 x1v:dg K mg "is_knot" rV uB4 []
 x1w:dg K mg "is_worth" pQ j0 []
 x1x:dg K mg "apart" AA uE7 []
 x1y:dg K mg "held" Dw uC9 []
 x1z:dg K mg "is_table" pN uB4 []
 x20:dg K mg "refuse_no_knots" gq j0 []
 x21:dg K mg "refuse_no_device_colour" dh j0 []
 x22:dg K mg "places_below" jt uD9 []
 x23:dg K mg "moved" Ba uE2 []
 x3r:Ls K mg "parts_by_four" du uC5
 x24:dg K mg "parts_by_eight" gU uC5 []
 x25:dg K mg "is_way" wR j0 []
 x26:kA K mg "Grid" "__init__" "Grid.__init__" gQ uC8 []
 x27:kA K mg "Grid" "knot" "Grid.knot" kP uC1 []
 x28:kA K mg "Grid" "size" "Grid.size" kL uA3 []
 x29:kA K mg "Grid" "mixed" "Grid.mixed" jT uE0 []
 x3s:jS K mg "Grid" "worth" "Grid.worth" b_ uB0 ["way"] 2 1 []
 x2a:jS K mg "Grid" "worth" "Grid.worth" b_ uB0 [] 2 0 [.str "four"]
 x2b:kA K mg "Grid" "widest" "Grid.widest" iI uA3 []
 x3t:jS K mg "Ends" "__init__" "Ends.__init__" cI uB9 uD3 1 2 []
 x2c:dg K mg "spans" A7 uC2 []
 x2d:dg K mg "white_measure" iP uA7 []
 x2e:dg K mg "squeezed_measure" fV uA7 []
 x2f:dg K mg "led_same" qh oR []
 x2g:dg K mg "led_by_white" jI oR []
 x2h:dg K mg "led_squeezed" jH oR []
 x2i:dg K mg "led_clipped" kF oR []
 x2j:dg K mg "is_intent" nh j0 []
 x2k:dg K mg "refuse_no_intent" fG j0 []
 x2l:dg K mg "refuse_no_ends" hU j0 []
 x3u:rO K mg "led_worth" f6 uB6 uA7 2 2 []
 x2m:dg K mg "is_point" p7 j0 []
 x2n:dg K mg "is_onward" mH uD4 []
 x2o:dg K mg "is_points" nK j0 []
 x2p:dg K mg "stretch_to" lZ ["pairs","at"] []
 x2q:dg K mg "on_line" sM uE6 []
 x2r:kA K mg "Curve" "__init__" "Curve.__init__" fW uE3 []
 x2s:kA K mg "Curve" "last" "Curve.last" jD uA3 []
 x2t:kA K mg "Curve" "value" "Curve.value" iJ uC1 []
 x2u:kA K mg "Curve" "steepest" "Curve.steepest" fM uA3 []
 x2v:kA K mg "Curve" "ends" "Curve.ends" jN uA3 []
 x2w:dg K mg "is_curve_to" kE uA5 []
 x2x:dg K mg "is_curves" mU uA5 []
 x2y:dg K mg "refuse_no_curves" fE uA5 []
 x2z:dg K mg "refuse_no_bounds" fK j0 []
 x30:dg K mg "copied_curves" iK ["curves"] []
 x31:dg K mg "copied_ends" kN uC2 []
 x32:dg K mg "values_at" mJ uD6 []
 x3v:jS K mg "SquareProfile" "__init__" "SquareProfile.__init__" bB uA8 uC2 3 1 []
 x33:kA K mg "SquareProfile" "to_worth" "SquareProfile.to_worth" cX uB5 []
 x34:kA K mg "SquareProfile" "slopes" "SquareProfile.slopes" dE uA3 []
 x3w:jS K mg "GridProfile" "__init__" "GridProfile.__init__" bG uB1 uC2 3 1 []
 x35:kA K mg "GridProfile" "to_worth" "GridProfile.to_worth" dG uB5 []
 x36:kA K mg "GridProfile" "slopes" "GridProfile.slopes" dW uA3 []
 x37:dg K mg "refuse_no_profile" fk j0 []
 x38:dg K mg "slope_sum" mP ["profile"] []
 x3x:rO K mg "stepwise" gY uA6 uE8 3 1 []
 x3y:rO K mg "linked" lH uA0 uC6 2 2 []
 x39:dg K mg "measures" pK uD7 []
 x3z:rO K mg "growth" lF uB3 uE8 2 1 []
 x40:rO K mg "link_bound" eR uA0 uC6 2 2 []
 x3a:dg K mg "_law_town" nG uB2 []
 x3b:dg K mg "_law_draw" m_ uD0 []
 x3c:dg K mg "_law_pick" nk uC0 []
 x3d:dg K mg "_law_low" pR kS []
 x3e:dg K mg "_law_plus" nj kS []
 x3f:dg K mg "_law_less" mS kS []
 x3g:dg K mg "_law_times" l4 kS []
 x3h:dg K mg "_law_below" l_ kS []
 x3i:dg K mg "_law_share" lO tR []
 x3j:dg K mg "_law_three" lQ tR []
 x3k:dg K mg "_law_points" kU uA9 []
 x3l:dg K mg "_law_square" kR uA1 []
 x3m:dg K mg "_law_grid" nC uD1 []
 x3n:dg K mg "_law_ends" mO uA1 []
 x3o:dg K mg "_law_curves" kO uA4 []
 x3p:dg K mg "_law_profile" jv uA1 []
 x3q:dg K mg "_law_growth" kM uC3 []
structure Ql where
 P:SA
 w:Te
 K:KE
 mg:Str->Option RV
 base:Uc
def M1 (e:Ql):Prop:=∀ (_:cH e.K e.mg e.w) (f:Sd) (a:Uw) (_:Os e.K "law" "law" pq f a),jm e.P e.w e.K e.mg e.base yd 12 f a uB2 (tm ["parts_by_four"] e.K)
noncomputable def ON:Ql:=@aaG Ql ⟨⟨default,⟨λ_ _=>0,{ strHash:=λ_=>0,shareClass:=λ_=>0,mergeTok:=id,idOf:=λ_=>0,idOfShared:=λ_ _=>0,followText:=λ_=>false,idOfImm:=λ_=>0 }⟩,default,λ_=>none,default⟩⟩ λe=>¬M1 e
noncomputable def P:SA:=ON.P
noncomputable def w:Te:=ON.w
noncomputable def K:KE:=ON.K
noncomputable def mg:Str->Option RV:=ON.mg
noncomputable def base:Uc:=ON.base
abbrev ky:=IZ P w K mg base yd
abbrev bF:=NH P w K mg base yd
section
theorem Cd:ao j0 j0 (af qk):=cN
inductive Cc (vs:List V)(H:Hp)(Q:VK)(_:XK):Prop
 |mk (x T) (_:vs=[x]) (_:Ty K H x T) (_:Q (.bl (DL x)) H)
theorem iy [T:cH K mg w]:bF 1 "is_whole" j0 [] Cc:=by
  refine T.x17.cal Cd (bb:=λ_ _ _ _ _ H vs Q E g h=>?_);obtain⟨x,S,rfl,ty,q⟩:=h;refine⟨_,(cA.go (ae (aq (fB (ay (qG (K:=K) O) (by rfl) T.x2 a_ (aA (ak 0) (c_ (v:=.ty "int") O T.x15 MN rfl))) (jh (KC (ay (qG (K:=K) O) (by rfl) T.x2 a_ (aA (ak 0) (c_ (v:=.ty "bool") O T.x14 Lo rfl))))))))),?_⟩;obtain⟨b,d,a⟩:=Og ty;refine⟨_,O,_,_,_,b,O,ty,d,b,O,?_⟩;cases b with
  |false=>
   refine bN ?_;rw[show DL x=false from a] at q;exact q
  |true=>
   obtain⟨c,e,f⟩:=(show ∃ c,kh S "bool"=Y c/\DL x=!c from a)
   refine aY ⟨_,O,_,_,_,c,O,ty,e,c,O,?_⟩;rw[f] at q;exact q
theorem p_:ao uC7 uC7 (af gf):=cN
inductive qd (vs:List V)(H:Hp)(Q:VK)(_:XK):Prop
 |mk (x d l m) (_:vs=[x,.int l,.int m]) (_:ax K H d x) (_:Q (.bl (Jk l m d)) H)
theorem fO [T:cH K mg w]:bF 2 "is_whole_within" uC7 [] qd:=by
  refine T.x18.cal p_ (bb:=λ_ _ _ _ _ H vs Q E f h=>?_);obtain⟨x,d,l,m,rfl,c,q⟩:=h;refine⟨_,(cA.go (ae (aq (fB (ab av iy f (aE (ak 0))) (jh (y_ tE tE (ak 1) (ak 0) (ak 2))))))),?_⟩;refine⟨_,O,_,_,O,c.ty,_,O,?_⟩;cases c with
  |int i=>
   refine aY ⟨_,O,_,O,_,_,O,O,decide (l<=i),O,?_⟩;refine fm (λa=>?_) (λa=>?_)
   ·refine⟨_,O,_,_,O,O,?_⟩;have q:Q (.bl (decide (l<=i)&&decide (i<=m))) H:=q;rw[a,YZ] at q;exact q
   ·have a:decide (l<=i)=false:=by simpa using a
    have q:Q (.bl (decide (l<=i)&&decide (i<=m))) H:=q;rw[a,Xo] at q;exact q
  |non=>exact bN q
  |bl b=>exact bN q
  |str z=>exact bN q
  |lst e g=>exact bN q
  |tup e g=>exact bN q
  |dct e=>exact bN q
theorem pW:ao uB7 uB7 (af gk):=cN
inductive pL (vs:List V)(H:Hp)(Q:VK)(_:XK):Prop
 |mk (x:V) (ns:List Int) (n l m:Int) (_:vs=[x,.int n,.int l,.int m]) (_:ax K H (.tuple (ns.map Uf)) x) (_:n=ns.length) (_:ns.length<=1000) (_:∀ H',ah H H'->Q (.bl (ns.all λk=>decide (l<=k)&&decide (k<=m))) H')
theorem fH [T:cH K mg w]:bF 3 "is_tuple_within" uB7 [] pL:=by
  refine T.x19.cal pW (bb:=λ_ _ _ _ _ H vs Q E u h=>?_);obtain⟨x,ns,n,l,m,rfl,s,rfl,t,q⟩:=h;refine⟨_,(cA.go (ac (aZ (WW.pt (fU (bu (aV (ay (qG (K:=K) O) (by rfl) T.x2 a_ (aA (ak 0) (c_ (v:=.ty "tuple") O T.x3 cF rfl))))) (eI (aX sV (ay (ju (K:=K) O) (by rfl) T.x4 fj (aE (ak 0))) (ak 1) (bn _))))) (ae (aq iH)) aH)
   (ae (aq (ay (o_ (K:=K) O O) (by rfl) T.xb kG (aE (aG uC9 ["least","most"] [2,3] 1 (bE (K:=K) O (ak 0)) (λA=>(ai 0 A)) aF (ab av fO u (aj (ak 0) (aj (ak 1) (aj (ak 2) aN))))))))))),?_⟩
  refine⟨_,O,_,_,_,true,O,s.ty,(show kh "tuple" "tuple"=Y true by decide +kernel),_,O,bN ?_⟩;obtain⟨a,F,rfl,p,g⟩:=aL (b:=false) s;have j:=g.length;rw[R5] at j;refine⟨_,O,a,_,O,rJ p,_,O,_,_,O,O,false,by show V.bl (!decide ((F.length:Int)=ns.length))=_;rw[R8 zyA];rfl,bN ?_⟩;refine⟨_,O,a,false,O,⟨_,p⟩,mC (f:=λd=>.bool (Jk l m d)) p g (by rw[R5];exact t) (λi d x r G s2 o R C S=>?_) (λy r s2 c D z=>?_)⟩
  ·exact aY (B:=S r) ⟨_,O,_,O,_,O,x,d,l,m,O,o,C _ _ ⟨ah.refl _,.bl _⟩⟩
  ·have c:aB K r (((ns.map Uf).map (Jk l m)).map WD) y:=by rw[V9];exact c
   have e:=gJ c;subst e;refine⟨D,_,O,bI.of ag,?_⟩;have e:((ns.map Uf).map (Jk l m)).all id=ns.all λk=>decide (l<=k)&&decide (k<=m):=by
    rw[V9,List.all_map];rfl
   rw[e];exact q _ (s2.trans (ah.new z))
theorem fg:ao uA2 uA2 (af fR):=cN
inductive oW (vs:List V)(H:Hp)(Q:VK)(_:XK):Prop
 |mk (a b) (_:vs=[.int a,.int b]) (_:Q (.int (Uh a b)) H)
theorem iS [T:cH K mg w]:bF 1 "greatest_measure" uA2 [] oW:=by
  refine T.x1a.cal fg (bb:=λ_ _ _ _ _ H vs Q E o h=>?_);obtain⟨a,b,rfl,q⟩:=h;refine⟨_,(cA.go (ac (n_ (i:=0) (j:=1) O fg.nd rfl rfl Z O O (aA (ay rp (by rfl) T.xh Ab (aE (ak 0))) (ay rp (by rfl) T.xh Ab (aE (ak 1)))) O)
   (ac (r9 SW (aX BK (ak 1) aa (bn _)) (ae (n_ (i:=0) (j:=1) O fg.nd rfl rfl Z O O (aA (ak 1) (au mR (ak 0) (ak 1))) O)))
   (ae (aq (ak 0)))))),?_⟩
  refine⟨_,O,_,O,_,O,_,O,_,_,O,?_⟩;refine⟨λm f g=>∃ x y:Int,f=[Y (.int x),Y (.int y)]/\g=H/\0<=x/\0<=y/\Uh x y=Uh a b/\m=y.toNat,⟨_,_,_,O,O,?_,?_,?_,O⟩,?_⟩
  ·split<;>lia
  ·split<;>lia
  ·rw[ET]
  ·rintro m f g ⟨x,y,rfl,rfl,l,n,k,rfl⟩;refine⟨_,O,_,_,O,O,_,O,?_⟩;refine fm (λc=>?_) (λc=>?_)
   ·have c:=Ti c;refine⟨_,λ_ _ z=>z,?_⟩;refine⟨_,O,_,O,_,O,_,_,O,O,c,_,_,O,?_⟩;have d:=U7 x (show y≠0 by lia);have p:=Ux x c;exact⟨(x%y).toNat,zyA,y,x%y,O,O,n,d,by rw[Cf l c];exact k,O⟩
   ·have c:¬ (0<y):=λz=>c (R8 z)
    have d:y=0:=zyA
    subst d;refine⟨_,O,?_⟩;have e:x=(Uh a b:Int):=by
     rw[<- k,aam];lia
    rw[e];exact q
theorem mL:ao ["thing","top","below"] j0 (af qm):=cN
inductive Cm (vs:List V)(H:Hp)(Q:VK)(_:XK):Prop
 |mk (x d) (_:vs=[x]) (_:ax K H d x) (_:Q (.bl (shB d)) H)
theorem mW [T:cH K mg w]:bF 2 "is_share" j0 [] Cm:=by
  refine T.x1b.cal mL (bb:=λ_ _ _ _ _ H vs Q E g h=>?_);obtain⟨x,d,rfl,A,q⟩:=h;refine⟨_,(cA.go (ac (aZ (WW.pt (fU (bu (aV (ay (qG (K:=K) O) (by rfl) T.x2 a_ (aA (ak 0) (c_ (v:=.ty "tuple") O T.x3 cF rfl))))) (eI (aX sV (ay (ju (K:=K) O) (by rfl) T.x4 fj (aE (ak 0))) aa (bn _))))) (ae (aq iH)) aH)
   (ac (kq (ak 0) (cQ (K:=K) (n:=2) O O (az (ai 1 mL.nd) (az (ai 2 mL.nd) bv))))
   (ac (aZ (WW.pt (fU (bu (aV (ab av iy g (aE (ak 1))))) (fU (bu (aV (ab av iy g (aE (ak 2))))) (eI (aX y9 (ak 2) aa (bn _)))))) (ae (aq iH)) aH)
   (ae (aq (dA fq (ab av iS g (aA (ak 1) (ak 2))) aa (bn _)))))))),?_⟩
  cases A with
  |non=>exact⟨_,O,_,_,_,false,O,.non,zyC,_,O,aY (aY q)⟩
  |bl b=>exact⟨_,O,_,_,_,false,O,.bl b,zyC,_,O,aY (aY q)⟩
  |int i=>exact⟨_,O,_,_,_,false,O,.int i,zyC,_,O,aY (aY q)⟩
  |str z=>exact⟨_,O,_,_,_,false,O,.str z,zyC,_,O,aY (aY q)⟩
  |dct c=>exact⟨_,O,_,_,_,false,O,.dK c,(show kh "dict" "tuple"=Y false by decide +kernel),_,O,aY (aY q)⟩
  |lst c f=>exact⟨_,O,_,_,_,false,O,(ax.lst c f).ty,(show kh "list" "tuple"=Y false by decide +kernel),_,O,aY (aY q)⟩
  |@tup p j ds c f=>
   refine⟨_,O,_,_,_,true,O,.tup c,zyC,_,O,bN ?_⟩;refine⟨_,O,p,j,O,.inr (eM.of c),_,_,O,O,_,O,?_⟩;have C:=f.length;refine fm (λa=>?_) (λa=>?_)
   ·have a:¬ ((j.length:Int)=2):=V0 (by simpa using a);have e:shB (.tuple ds)=false:=Lk zyA;rw[e] at q;exact q
   ·have a:(j.length:Int)=2:=by simpa using a
    cases f with
    |nil=>simp at a
    |@cons d1 r _ _ k s=>
     cases s with
     |nil=>simp at a
     |@cons d2 o _ _ l B=>
      cases B with
      |cons _ _=>simp at a;lia
      |nil=>
       refine⟨_,O,p,_,O,eM.of c,O,_,_,O,_,_,O,O,?_⟩;refine⟨_,O,_,_,O,k.ty,_,O,?_⟩;refine fm (λa=>?_) (λa=>?_)
       ·refine aY ?_;have e:DL r=false:=by simpa using a
        rw[Py k e] at q;exact q
       ·have y:DL r=true:=by simpa using a
        refine⟨_,O,_,_,O,l.ty,_,O,?_⟩;refine fm (λa=>?_) (λa=>?_)
        ·refine aY ?_;have e:DL o=false:=by simpa using a
         rw[O4 l e] at q;exact q
        ·have t:DL o=true:=by simpa using a
         obtain⟨n,rfl,rfl⟩:=EX k y;obtain⟨m,rfl,rfl⟩:=EX l t;refine⟨_,O,_,_,O,O,_,O,?_⟩;have e:shB (jV n m)=(decide (1<=m)&&decide (Uh n m=1)):=O;refine fm (λa=>?_) (λa=>?_)
         ·have a:m<1:=Ti a;rw[e,Td (show ¬ (1<=m) by lia)] at q;exact q
         ·have a:¬ (m<1):=V0 (by simpa using a);refine⟨_,O,_,O,n,m,O,_,_,O,O,?_⟩;rw[e,R8 (show 1<=m by lia),YZ] at q;have u:decide ((Uh n m:Int)=1)=decide (Uh n m=1):=by
           by_cases z:Uh n m=1
           ·rw[R8 z,R8 zyA]
           ·rw[Td z,Td zyA]
          show Q (.bl (decide ((Uh n m:Int)=1))) H;rw[u];exact q
theorem p9:ao j0 j0 (af gi):=cN
inductive qt (vs:List V)(H:Hp)(Q:VK)(_:XK):Prop
 |mk (x d) (_:vs=[x]) (_:ax K H d x) (_:shB d=true) (_:Q .non H)
theorem cx [T:cH K mg w]:bF 3 "refuse_no_share" j0 [] qt:=by
  refine T.x1c.cal p9 (bb:=λ_ _ _ _ _ H vs Q E c h=>?_);obtain⟨x,d,rfl,a,b,q⟩:=h;refine⟨_,(cA.go (ae (aZ (bu (aV (ab av mW c (aE (ak 0))))) (ae bH) aH))),?_⟩;refine⟨_,O,x,d,O,a,_,O,?_⟩;rw[b];exact bN q
theorem xD:ao ["top","below","measure"] uB8 (af jj):=cN
inductive B1 (vs:List V)(H:Hp)(Q:VK)(_:XK):Prop
 |mk (t b:Int) (_:vs=[.int t,.int b]) (_:b≠0) (_:Sm 8000 b) (_:Sh K H t b Q)
theorem bO [T:cH K mg w] {dvs:List V} (D:dg K mg "share" jj uB8 dvs):bF 2 "share" uB8 dvs B1:=by
  refine D.cal xD (bb:=λ_ _ _ _ _ H vs Q E e h=>?_);obtain⟨t,b,rfl,c,i,q⟩:=h;refine⟨_,(cA.go (ac (aZ (WW.pt (fU (bu (aV (ab av iy e (aE (ak 0))))) (eI (bu (aV (ab av iy e (aE (ak 1)))))))) (ae bH) aH)
   (ac (aZ (aX fq (ak 1) aa (bn _)) (ae bH) aH)
   (ac (aw 2 xD.nd (ab av iS e (aA (ak 0) (ak 1))))
   (ac (aZ (aX y9 (ak 1) aa (bn _)) (ae (aw 2 xD.nd (ww vV (ak 2)))) aH)
   (ae (aq (aW (aA (au dR (ak 0) (ak 2)) (au dR (ak 1) (ak 2))))))))))),?_⟩
  refine⟨_,O,_,_,O,.int t,_,O,bN ?_⟩;refine⟨_,O,_,_,O,.int b,_,O,bN ?_⟩;refine⟨_,O,_,_,O,O,_,O,?_⟩;refine fm (λa=>absurd (Ti a) c) (λ_=>?_);refine⟨_,O,_,O,t,b,O,?_⟩;refine⟨_,O,_,_,O,O,_,O,?_⟩;have d:Sm 8000 (Uh t b:Int):=i.le (J6 c);have g:(Uh t b:Int)≠0:=by
   have:=VU t c;lia
  refine fm (λa=>?_) (λa=>?_)
  ·have a:=Ti a;refine⟨_,O,_,O,?_⟩;refine⟨_,O,_,O,_,_,O,O,⟨zyA,d.neg⟩,_,O,_,O,_,_,O,O,⟨zyA,d.neg⟩,kY,λp f=>?_⟩;exact q _ _ _ _ (ah.new f) (fb ag) (Ei c rfl (by rw[SO a]))
  ·have a:¬ (b<0):=λz=>a (R8 z)
   refine⟨_,O,_,O,_,_,O,O,⟨g,d⟩,_,O,_,O,_,_,O,O,⟨g,d⟩,kY,λp f=>?_⟩;exact q _ _ _ _ (ah.new f) (fb ag) (Ei c rfl (by rw[Sx a]))
theorem Jz:ao uA2 uA2 (af AT):=cN
inductive Jj (vs:List V)(H:Hp)(Q:VK)(_:XK):Prop
 |mk (x y n d m e) (_:vs=[x,y]) (_:ax K H (jV n d) x) (_:ax K H (jV m e) y) (_:Ok 3900 n d) (_:Ok 3900 m e) (_:Sh K H (n*e+m*d) (d*e) Q)
theorem qF [T:cH K mg w]:bF 4 "added" uA2 [] Jj:=by
  refine T.x1d.cal Jz (bb:=λ_ _ _ _ _ H vs Q E l h=>?_);obtain⟨x,y,n,d,m,e,rfl,p,r,g,f,q⟩:=h;obtain⟨a,rfl,k⟩:=bt p;obtain⟨b,rfl,o⟩:=bt r;refine⟨_,(cA.go (ac (bo (ab av cx l (aE (ak 0))))
   (ac (bo (ab av cx l (aE (ak 1))))
   (ae (aq (ab av (bO T.x9) l (aA (au di (au aM (am K (ak 0) aa) (am K (ak 1) aa)) (au aM (am K (ak 1) aa) (am K (ak 0) aa))) (au aM (am K (ak 0) aa) (am K (ak 1) aa))))))))),?_⟩
  refine⟨_,O,_,_,O,p,g.shB,?_⟩;refine⟨_,O,_,_,O,r,f.shB,?_⟩;have c:∀ {i j:Int},Sm 3900 i->Sm 3900 j->mB i j:=λs t=>.inl ⟨s.mono Z,t.mono Z⟩
  refine⟨_,O,cJ k ⟨_,O,bX o ⟨_,_,O,O,c g.sn f.sd,?_⟩⟩⟩;refine⟨_,O,cJ o ⟨_,O,bX k ⟨_,_,O,O,c f.sn g.sd,_,_,O,O,?_⟩⟩⟩;refine⟨_,O,bX k ⟨_,O,bX o ⟨_,_,O,O,c g.sd f.sd,?_⟩⟩⟩;exact⟨_,_,O,Tx g.ne f.ne,(g.sd.mul f.sd).mono Z,q⟩
theorem yN:ao uA2 uA2 (af l0):=cN
inductive yQ (vs:List V)(H:Hp)(Q:VK)(_:XK):Prop
 |mk (x y n d m e) (_:vs=[x,y]) (_:ax K H (jV n d) x) (_:ax K H (jV m e) y) (_:Ok 3900 n d) (_:Ok 3900 m e) (_:Sh K H (n*m) (d*e) Q)
theorem dN [T:cH K mg w]:bF 4 "multiplied" uA2 [] yQ:=by
  refine T.x1e.cal yN (bb:=λ_ _ _ _ _ H vs Q E k h=>?_);obtain⟨x,y,n,d,m,e,rfl,l,r,g,f,q⟩:=h;obtain⟨a,rfl,o⟩:=bt l;obtain⟨b,rfl,p⟩:=bt r;refine⟨_,(cA.go (ac (bo (ab av cx k (aE (ak 0))))
   (ac (bo (ab av cx k (aE (ak 1))))
   (ae (aq (ab av (bO T.x9) k (aA (au aM (am K (ak 0) aa) (am K (ak 1) aa)) (au aM (am K (ak 0) aa) (am K (ak 1) aa))))))))),?_⟩
  refine⟨_,O,_,_,O,l,g.shB,?_⟩;refine⟨_,O,_,_,O,r,f.shB,?_⟩;have c:∀ {i j:Int},Sm 3900 i->Sm 3900 j->mB i j:=λs t=>.inl ⟨s.mono Z,t.mono Z⟩
  refine⟨_,O,cJ o ⟨_,O,cJ p ⟨_,_,O,O,c g.sn f.sn,?_⟩⟩⟩;refine⟨_,O,bX o ⟨_,O,bX p ⟨_,_,O,O,c g.sd f.sd,?_⟩⟩⟩;exact⟨_,_,O,Tx g.ne f.ne,(g.sd.mul f.sd).mono Z,q⟩
theorem Cs:ao ["one"] ["one"] (af pU):=cN
inductive B6 (vs:List V)(H:Hp)(Q:VK)(_:XK):Prop
 |mk (x n d) (_:vs=[x]) (_:ax K H (jV n d) x) (_:Ok 3900 n d) (_:Q (.int (n.fdiv d)) H)
theorem B5 [T:cH K mg w]:bF 4 "floor_of" ["one"] [] B6:=by
  refine T.x1f.cal Cs (bb:=λ_ _ _ _ _ H vs Q E f h=>?_);obtain⟨x,n,d,rfl,c,b,q⟩:=h;obtain⟨a,rfl,e⟩:=bt c;refine⟨_,(cA.go (ac (bo (ab av cx f (aE (ak 0))))
   (ae (aq (au dR (am K (ak 0) aa) (am K (ak 0) aa)))))),?_⟩
  refine⟨_,O,_,_,O,c,b.shB,?_⟩;exact⟨_,O,cJ e ⟨_,O,bX e ⟨_,_,O,O,⟨b.ne,b.sd.mono Z⟩,q⟩⟩⟩
theorem sH:ao ["one"] ["one"] (af iL):=cN
inductive rZ (vs:List V)(H:Hp)(Q:VK)(_:XK):Prop
 |mk (x n d) (_:vs=[x]) (_:ax K H (jV n d) x) (_:Ok 3900 n d) (_:Q (.int ((2*n+d).fdiv (2*d))) H)
theorem rQ [T:cH K mg w]:bF 4 "nearest_whole" ["one"] [] rZ:=by
  refine T.x1g.cal sH (bb:=λ_ _ _ _ _ H vs Q E f h=>?_);obtain⟨x,n,d,rfl,e,c,q⟩:=h;obtain⟨a,rfl,b⟩:=bt e;refine⟨_,(cA.go (ac (bo (ab av cx f (aE (ak 0))))
   (ae (aq (au dR (au di (au aM aa (am K (ak 0) aa)) (am K (ak 0) aa)) (au aM aa (am K (ak 0) aa))))))),?_⟩
  refine⟨_,O,_,_,O,e,c.shB,?_⟩;have s2:Sm 64 2:=by unfold Sm;decide
  have c2:∀ {j:Int},mB 2 j:=.inr s2;have g:=c.pos;refine⟨_,O,cJ b ⟨_,_,O,O,c2,?_⟩⟩;refine⟨_,O,bX b ⟨_,_,O,O,?_⟩⟩;refine⟨_,O,bX b ⟨_,_,O,O,c2,?_⟩⟩;exact⟨_,_,O,O,⟨zyA,(s2.mul c.sd).mono Z⟩,q⟩
theorem DR:ao uA2 uA2 (af rR):=cN
inductive D0 (vs:List V)(H:Hp)(Q:VK)(_:XK):Prop
 |mk (x y:V) (p q:Rat) (_:vs=[x,y]) (_:ax K H (rD p) x) (_:ax K H (rD q) y) (_:Bq 3900 p) (_:Bq 3900 q) (_:Q (.bl (decide (p<q))) H)
theorem qw [T:cH K mg w]:bF 1 "is_less" uA2 [] D0:=by
  refine T.x1h.cal DR (bb:=λ_ _ _ _ _ H vs Q E o h=>?_);obtain⟨x,y,p,r,rfl,k,m,g,e,q⟩:=h;obtain⟨a,rfl,d⟩:=bt k;obtain⟨b,rfl,f⟩:=bt m;refine⟨_,(cA.go (ae (aq (dA y9 (au aM (am K (ak 0) aa) (am K (ak 1) aa)) (au aM (am K (ak 1) aa) (am K (ak 0) aa)) (bn _))))),?_⟩;have c:∀ {i j:Int},Sm 3900 i->Sm 3900 j->mB i j:=λl n=>.inl ⟨l.mono Z,n.mono Z⟩
  refine⟨_,O,cJ d ⟨_,O,bX f ⟨_,_,O,O,c g.sn e.sd,?_⟩⟩⟩;refine⟨_,O,cJ f ⟨_,O,bX d ⟨_,_,O,O,c e.sn g.sd,_,_,O,O,?_⟩⟩⟩;rw[show decide (p<r)=decide (p.num*(r.den:Int)<r.num*(p.den:Int)) from Zd.mpr (Rat.lt_iff p r)] at q;exact q
theorem oh:ao ["many","total","one"] uD9 (af vk):=cN
inductive FU (vs:List V)(H:Hp)(Q:VK)(_:XK):Prop
 |mk (x:V) (k:Bool) (b:Nat) (rs:List Rat) (_:vs=[x]) (_:ax K H (BD k (rs.map rD)) x) (_:(∀ r∈rs,Bq b r)) (_:b<=3900) (_:rs.length*(b+1)+1<=3900) (_:h_ K H (Ce rs) Q)
theorem zH [T:cH K mg w]:bF 5 "sum_of" uD9 [] FU:=by
  refine T.x1i.cal oh (bb:=λ_ _ _ _ _ H vs Q E t h=>?_);obtain⟨x,k,b,rs,rfl,A,p,F,I,q⟩:=h;obtain⟨a,xs,rfl,B,f⟩:=aL A;have u:=f.length;rw[R5] at u;refine⟨_,(cA.go (ac (aw 1 oh.nd (ab av (bO T.xd) t (aE aa)))
   (ac (de SW rfl (bE (K:=K) O (ak 0)) (ai 2 oh.nd) (ae (aw 1 oh.nd (ab av qF t (aA (ak 1) (ak 2))))))
   (ae (aq (ak 1)))))),?_⟩
  refine⟨0,1,O,Z,by unfold Sm;decide,λv n d D o N M=>?_⟩;obtain⟨rfl,rfl⟩:=l7 Z M (JC 1);have e:=bY.same o B;refine⟨_,O,a,k,O,⟨_,e⟩,lU (λi g z=>∃ v l,g=[Y (.ref a),Y v,l]/\ah D z/\ax K z (rD (Ce (rs.take i))) v)
   ⟨_,_,O,ah.refl _,N⟩ (λi g s y ⟨_,_,_,s2,_⟩=>bY.same s2 e) ?_ ?_⟩
  ·rintro i w g s G ⟨v,l,rfl,s2,c⟩;obtain⟨d,ed,J⟩:=(aB.same (o.trans s2) f).get G;obtain⟨r,m,rfl⟩:=AH ed;have y:i<rs.length:=(R9.mp m).1;refine⟨_,O,_,O,_,_,_,_,_,_,O,c,J,((E8 p i zyA).mono ?_),(p r (Se m)).mono F,h_.add λC H5 L j=>?_⟩
   ·exact Sv (Nat.add_le_add_right (Z3 _ (TH y)) 1) I
   ·exact⟨C,_,O,s2.trans L,by rw[cw m,yV];exact j⟩
  ·rintro g s ⟨v,l,rfl,s2,c⟩;rw[<- u,Vd] at c;exact⟨_,O,q _ _ (o.trans s2) c⟩
theorem A_:ao uD2 uD2 (af ny):=cN
inductive zO (vs:List V)(H:Hp)(Q:VK)(_:XK):Prop
 |mk (x:V) (p:Rat) (l m:Int) (_:vs=[x,.int l,.int m]) (_:ax K H (rD p) x) (_:Bq 3900 p) (_:Sm 60 l) (_:Sm 60 m) (_:Q (.bl (decide (l*(p.den:Int)<=p.num)&&decide (p.num<=m*(p.den:Int)))) H)
theorem qR [T:cH K mg w]:bF 1 "is_within" uD2 [] zO:=by
  refine T.x1j.cal A_ (bb:=λ_ _ _ _ _ H vs Q E f h=>?_);obtain⟨x,p,l,m,rfl,c,g,e,d,q⟩:=h;obtain⟨a,rfl,b⟩:=bt c;refine⟨_,(cA.go (ae (aq (y_ tE tE (au aM (ak 1) (am K (ak 0) aa)) (am K (ak 0) aa) (au aM (ak 2) (am K (ak 0) aa)))))),?_⟩;refine⟨_,O,_,O,bX b ⟨_,_,O,O,.inr (e.mono Z),_,O,cJ b ⟨_,_,O,O,_,O,?_⟩⟩⟩;cases hc:decide (l*(p.den:Int)<=p.num) with
  |true=>
   rw[hc,YZ] at q;exact aY ⟨_,O,_,O,bX b ⟨_,_,O,O,.inr (d.mono Z),_,_,O,O,q⟩⟩
  |false=>
   rw[hc,Xo] at q;exact bN q
theorem eJ:ao ["numbers","below","number"] ["numbers"] (af gW):=cN
inductive qZ (vs:List V)(H:Hp)(Q:VK)(_:XK):Prop
 |mk (x:V) (k:Bool) (b:Nat) (rs:List Rat) (_:vs=[x]) (_:ax K H (BD k (rs.map rD)) x) (_:(∀ r∈rs,Bq b r)) (_:rs.length<=500) (_:b<=7900) (_:rs.length*b+b+1<=7900) (_:∀ (v:V) (H':Hp),ah H H'->ax K H' (.tuple [.list (rs.map λr=>.int (ov (dB rs) r)),.int (dB rs)]) v->Q v H')
theorem kr [T:cH K mg w]:bF 1 "over_one_below" ["numbers"] [] qZ:=by
  refine T.x1k.cal eJ (bb:=λ_ _ _ _ _ H vs Q E hr h=>?_);obtain⟨x,k,b,rs,rfl,M,g,l5,b7,lb,q⟩:=h;obtain⟨a,xs,rfl,j,c⟩:=aL M;have z:=c.length;rw[R5] at z;refine⟨_,(cA.go (ac (aw 1 eJ.nd aa)
   (ac (de SW rfl (bE (K:=K) O (ak 0)) (ai 2 eJ.nd) (ae (Bs (i:=1) eJ.nd rfl (by first|exact aa5 rfl|exact Z6 rfl) (am K (ak 2) aa) JX)))
   (ae (aq (aW (aA (aG ["top","part"] ["below"] [1] 2 (bE (K:=K) O (ak 0)) (λL=>(cQ (K:=K) (n:=2) O O (az (ai 0 L) (az (ai 1 L) bv)))) aF (au aM (ak 0) (au dR (ak 2) (ak 1)))) (ak 1)))))))),?_⟩
  refine⟨_,O,a,k,O,⟨_,j⟩,lU (λi m H'=>∃ t,m=[Y (.ref a),Y (.int (dB (rs.take i))),t]/\H'=H)
   ⟨_,O,O⟩ (λi m y G ⟨_,_,e⟩=>e▸j) ?_ ?_⟩
  ·rintro i w m y l ⟨t,rfl,rfl⟩;obtain⟨d,o,s⟩:=c.get l;obtain⟨r,f,rfl⟩:=AH o;have G:i<rs.length:=(R9.mp f).1;have k1:=(ll g i zyA).2;have k2:=g r (Se f);have p:i*b<=rs.length*b:=Z3 _ (TH G);obtain⟨v,rfl,hw⟩:=bt s;refine⟨_,O,_,O,bX hw ⟨_,_,O,O,.inl ⟨k1.mono zyA,k2.sd.mono zyA⟩,Y (.ref v),?_,O⟩⟩;rw[cw f,vv];rfl
  ·rintro m y ⟨t,rfl,rfl⟩;rw[<- z,Vd];obtain⟨N,I⟩:=ll g rs.length (R0 _);rw[Vd] at N I;refine⟨_,O,a,k,O,⟨_,j⟩,bT (es:=rs.map λr=>.int (ov (dB rs) r)) j c zyB (by simp;lia) (λi d e u l s A J hu R kk S=>?_) (λzs l J p D F=>?_)⟩
   ·obtain⟨r,f,rfl⟩:=AH s;rw[Sc,f] at A;cases A;obtain⟨v,rfl,hw⟩:=bt hu;have k2:=g r (Se f);have dp:=k2.pos;have o:(dB rs).fdiv (r.den:Int)=dB rs/(r.den:Int):=TW _ zyA;refine⟨v,_,O,eM.of hw,O,_,_,O,_,_,O,O,aY (B:=S l) ?_⟩;refine⟨_,O,_,O,_,O,_,_,O,O,⟨zyA,k2.sd.mono zyA⟩,_,_,O,O,.inl ⟨k2.sn.mono zyA,?_⟩,kk _ _ ⟨ah.refl _,?_⟩⟩
    ·rw[o];have e1:dB rs/(r.den:Int)<=dB rs:=Int.ediv_le_self _ zyA;have C:0<=dB rs/(r.den:Int):=Zq zyA zyA;exact(show Sm _ _ from by unfold Sm at I ⊢;lia:Sm (rs.length*b+1) (dB rs/(r.den:Int))).mono zyA
    ·rw[o];exact .int _
   ·refine⟨_,O,kY,λT C=>?_⟩;have sD:ah l (upd l D (.lst zs)):=ah.new F;exact q _ _ ((J.trans sD).trans (ah.new C)) (ax.tupN C (.cons (ax.listN F p) (.cons (.int _) .nil)))
theorem jJ:ao ["many","tops","below"] uD9 (af kW):=cN
inductive wH (vs:List V)(H:Hp)(Q:VK)(_:XK):Prop
 |mk (x:V) (k:Bool) (b:Nat) (rs:List Rat) (_:vs=[x]) (_:ax K H (BD k (rs.map rD)) x) (_:(∀ r∈rs,Bq b r)) (_:rs≠[]) (_:rs.length<=500) (_:b<=7900) (_:rs.length*b+b+1<=7900) (_:∀ m∈rs,(∀ r∈rs,r<=m)->h_ K H m Q)
theorem nJ [T:cH K mg w]:bF 3 "greatest_of" uD9 [] wH:=by
  refine T.x1l.cal jJ (bb:=λ_ _ _ _ _ H vs Q E a h=>?_);obtain⟨x,k,b,rs,rfl,e,l,ne,N,M,y,q⟩:=h;refine⟨_,(cA.go (ac (kq (ab av kr a (aE (ak 0))) (cQ (K:=K) (n:=2) O O (az (ai 1 jJ.nd) (az (ai 2 jJ.nd) bv))))
   (ae (aq (ab av (bO T.x9) a (aA (ay (DE (K:=K) O O) (by rfl) T.xe vX (aE (ak 1))) (ak 2))))))),?_⟩
  refine⟨_,O,x,k,b,rs,O,e,l,N,M,y,λv H1 J I=>?_⟩;obtain⟨f,o⟩:=ll l rs.length (R0 _);rw[Vd] at f o;obtain⟨T,ts,rfl,C,i⟩:=aL (b:=false) (ds:=[.list (rs.map λr=>.int (ov (dB rs) r)),.int (dB rs)]) I;cases i with
  |cons A j=>
  cases j with
  |cons j p=>
  cases p;cases j;obtain⟨L,D,rfl,hL,c⟩:=aL (b:=true) (ds:=rs.map λr=>.int (ov (dB rs) r)) A;have t:D=(rs.map λr=>ov (dB rs) r).map V.int:=by
   have:(rs.map λr=>Uf (ov (dB rs) r))=(rs.map λr=>ov (dB rs) r).map Uf:=by rw[V9];rfl
   rw[this] at c;exact BE c
  subst t;refine⟨T,_,O,C,O,_,_,O,_,_,O,O,?_⟩;refine⟨_,O,L,_,O,hL,λz=>ne (List.map_eq_nil_iff.mp z),λm B e=>?_⟩;obtain⟨r,a,rfl⟩:=Ta.mp B;refine⟨_,O,_,_,O,zyA,o.mono zyA,h_.sh zyA ?_⟩;rw[Nt f (nZ a)];refine λs F G g=>q r a (λu d=>?_) s F (J.trans G) g
  exact(PP f (nZ d) (nZ a)).mp (e _ (Ta.mpr ⟨u,d,O⟩))
theorem zT:ao j0 j0 (af nB):=cN
inductive zM (vs:List V)(H:Hp)(Q:VK)(_:XK):Prop
 |mk (x:V) (p r t:Rat) (_:vs=[x]) (_:ax K H (PF p r t) x) (_:∀ H',ah H H'->Q (.bl true) H')
theorem rk [T:cH K mg w]:bF 3 "is_colour" j0 [] zM:=by
  refine T.x1m.cal zT (bb:=λ_ _ _ _ _ H vs Q E o h=>?_);obtain⟨x,p,r,t,rfl,m,q⟩:=h;refine⟨_,(cA.go (ae (aq (fB (ay (qG (K:=K) O) (by rfl) T.x2 a_ (aA (ak 0) (c_ (v:=.ty "tuple") O T.x3 cF rfl))) (fB (dA fq (ay (ju (K:=K) O) (by rfl) T.x4 fj (aE (ak 0))) aa (bn _)) (jh (ay (o_ (K:=K) O O) (by rfl) T.xb kG (aE (aG uC9 [] [] 1 (bE (K:=K) O (ak 0)) (λy=>(ai 0 y)) aF (ab av mW o (aE (ak 0)))))))))))),?_⟩;refine⟨_,O,_,_,_,true,O,m.ty,(show kh "tuple" "tuple"=Y true by decide +kernel),_,O,aY ?_⟩;obtain⟨a,F,rfl,k,g⟩:=aL (b:=false) m;have n:=g.length;refine⟨_,O,a,_,O,rJ k,_,_,O,O,true,uN (by rw[<- n];rfl),aY ?_⟩;have sh:∀ z:Rat,shB (rD z)=true:=λz=>(show Ok (z.num.natAbs+z.den) z.num z.den from⟨by have:=z.den_pos;lia,z.reduced,by unfold Sm;exact R6 (Wz) (Vq Z (VN _ _)),by unfold Sm;exact R6 (Wz) (Vq Z (Nat.le_add_left _ _))⟩).shB
  refine⟨_,O,a,false,O,⟨_,k⟩,mC (f:=λd=>.bool (shB d)) k g (Z:3<=1000) (λi d x l C s2 j R A S=>?_) (λs l s2 c D u=>?_)⟩
  ·exact aY (B:=S l) ⟨_,O,x,d,O,j,A _ _ ⟨ah.refl _,.bl _⟩⟩
  ·have c:aB K l (([rD p,rD r,rD t].map shB).map WD) s:=by rw[V9];exact c
   have e:=gJ c;subst e;refine⟨D,_,O,bI.of ag,?_⟩;have e:([rD p,rD r,rD t].map shB).all id=true:=by
    show(shB (rD p)&&(shB (rD r)&&(shB (rD t)&&true)))=true;rw[sh p,sh r,sh t];rfl
   rw[e];exact q _ (s2.trans (ah.new u))
theorem GI:ao j0 j0 (af u_):=cN
inductive FB (vs:List V)(H:Hp)(Q:VK)(_:XK):Prop
 |mk (x k r) (_:vs=[x]) (_:ax K H (cB k r) x) (_:R3.In r 4000) (_:∀ H',ah H H'->Q (.bl true) H')
theorem Fv [T:cH K mg w]:bF 3 "is_row" j0 [] FB:=by
  refine T.x1n.cal GI (bb:=λ_ _ _ _ _ H vs Q E C h=>?_);obtain⟨x,k,r,rfl,z,t,q⟩:=h;refine⟨_,(cA.go (ac (aZ (WW.pt (fU (bu (aV (ay (DH (K:=K) O) (by rfl) T.x2 a_ (aA (ak 0) (aW (aA (c_ (v:=.ty "list") O T.xc je rfl) (c_ (v:=.ty "tuple") O T.x3 cF rfl))))))) (eI (aX sV (ay (ju (K:=K) O) (by rfl) T.x4 fj (aE (ak 0))) aa (bn _))))) (ae (aq iH)) aH)
   (ae (aq (ay (o_ (K:=K) O O) (by rfl) T.xb kG (aE (aG uC9 [] [] 1 (bE (K:=K) O (ak 0)) (λnd=>(ai 0 nd)) aF (ab av fO C (aj (ak 0) (aj (ww vV (cO rfl T.xk)) (aj (cO rfl T.xk) aN))))))))))),?_⟩
  refine⟨_,O,kY,λp hp=>?_⟩;have u:ah H (upd H p (.tup [.ty "list",.ty "tuple"])):=ah.new hp;generalize s:upd H p (.tup [.ty "list",.ty "tuple"])=I at u ⊢;have y:I p=Y (.tup [.ty "list",.ty "tuple"]):=by rw[<- s];exact ag
  have j:=ax.same u z;obtain⟨T',ty,N⟩:=IA j;refine⟨_,_,p,_,_,true,O,ty,y,N,_,O,bN ?_⟩;obtain⟨a,rfl,A⟩:=lM j;refine⟨_,O,a,_,O,rJ A,_,_,O,O,_,O,bN ?_⟩;obtain⟨a',xs,G,l,o⟩:=aL j;cases G;refine⟨_,O,a,k,O,⟨_,l⟩,mC (f:=λd=>.bool (Jk (-4000) 4000 d)) l o (Z:3<=1000) (λi d x n hd s2 m R kk S=>?_) (λys n s2 g D hD=>?_)⟩
  ·exact aY (B:=S n) ⟨_,O,_,O,x,d,-4000,4000,O,m,kk _ _ ⟨ah.refl _,.bl _⟩⟩
  ·have g:aB K n ((r.ds.map (Jk (-4000) 4000)).map WD) ys:=by rw[V9];exact g
   have e:=gJ g;subst e;refine⟨D,_,O,bI.of ag,?_⟩;have e:(r.ds.map (Jk (-4000) 4000)).all id=true:=by
    obtain⟨F,M,J,L,c1,c2⟩:=t;show((decide (-4000<=r.a)&&decide (r.a<=4000))&&((decide (-4000<=r.b)&&decide (r.b<=4000))&&((decide (-4000<=r.c)&&decide (r.c<=4000))&&true)))=true;rw[R8 F,R8 M,R8 J,R8 L,R8 c1,R8 c2];rfl
   rw[e];exact q _ ((u.trans s2).trans (ah.new hD))
theorem zQ:ao j0 j0 (af mE):=cN
inductive z_ (vs:List V)(H:Hp)(Q:VK)(_:XK):Prop
 |mk (x:V) (s:S9) (_:vs=[x]) (_:ax K H s.d x) (_:s.In) (_:∀ H',ah H H'->Q (.bl true) H')
theorem AQ [T:cH K mg w]:bF 4 "is_square" j0 [] z_:=by
  refine T.x1o.cal zQ (bb:=λ_ _ _ _ _ H vs Q E J h=>?_);obtain⟨x,sq,rfl,G,g,q⟩:=h;refine⟨_,(cA.go (ae (aq (fB (ay (DH (K:=K) O) (by rfl) T.x2 a_ (aA (ak 0) (aW (aA (c_ (v:=.ty "list") O T.xc je rfl) (c_ (v:=.ty "tuple") O T.x3 cF rfl))))) (fB (dA fq (ay (ju (K:=K) O) (by rfl) T.x4 fj (aE (ak 0))) aa (bn _)) (jh (ay (o_ (K:=K) O O) (by rfl) T.xb kG (aE (aG ["row"] [] [] 1 (bE (K:=K) O (ak 0)) (λnd=>(ai 0 nd)) aF (ab av Fv J (aE (ak 0)))))))))))),?_⟩;refine⟨_,O,kY,λp hp=>?_⟩;have t:ah H (upd H p (.tup [.ty "list",.ty "tuple"])):=ah.new hp;generalize s:upd H p (.tup [.ty "list",.ty "tuple"])=L at t ⊢;have u:L p=Y (.tup [.ty "list",.ty "tuple"]):=by rw[<- s];exact ag
  have m:=ax.same t G;obtain⟨T',ty,M⟩:=IA m;refine⟨_,_,p,_,_,true,O,ty,u,M,_,O,aY ?_⟩;obtain⟨a,xs,rfl,r,j⟩:=aL m;have I:=j.length;refine⟨_,O,a,_,O,rJ r,_,_,O,O,true,uN (by rw[<- I];rfl),aY ?_⟩;refine⟨_,O,a,sq.k,O,⟨_,r⟩,mC (f:=λ_=>.bool true) r j (Z:3<=1000) (λi d x C b s2 c R A S=>?_) (λys C s2 o D N=>?_)⟩
  ·refine aY (B:=S C) ⟨_,O,?_⟩
   match i,b with
   |0,b=>cases(RU b);exact⟨x,_,_,O,c,g.x,λF l=>A _ _ ⟨l,.bl _⟩⟩
   |1,b=>cases(RU b);exact⟨x,_,_,O,c,g.y,λF l=>A _ _ ⟨l,.bl _⟩⟩
   |2,b=>cases(RU b);exact⟨x,_,_,O,c,g.z,λF l=>A _ _ ⟨l,.bl _⟩⟩
   |n+3,b=>simp[S9.rows] at b
  ·have e:=gJ (bs:=[true,true,true]) o;subst e;exact⟨D,[true,true,true],O,bI.of ag,q _ ((t.trans s2).trans (ah.new N))⟩
theorem oK:ao j0 j0 (af fI):=cN
inductive oz (vs:List V)(H:Hp)(Q:VK)(_:XK):Prop
 |mk (x:V) (s:S9) (_:vs=[x]) (_:ax K H s.d x) (_:s.In) (_:∀ H',ah H H'->Q .non H')
theorem iT [T:cH K mg w]:bF 5 "refuse_no_square" j0 [] oz:=by
  refine T.x1p.cal oK (bb:=λ_ _ _ _ _ H vs Q E d h=>?_);obtain⟨x,sq,rfl,b,a,q⟩:=h;refine⟨_,(cA.go (ae (aZ (bu (aV (ab av AQ d (aE (ak 0))))) (ae bH) aH))),?_⟩;exact⟨_,O,x,sq,O,b,a,λe c=>⟨_,O,bN (q _ c)⟩⟩
theorem oM:ao j0 j0 (af fQ):=cN
inductive oU (vs:List V)(H:Hp)(Q:VK)(_:XK):Prop
 |mk (x:V) (p r t:Rat) (_:vs=[x]) (_:ax K H (PF p r t) x) (_:∀ H',ah H H'->Q .non H')
theorem i7 [T:cH K mg w]:bF 4 "refuse_no_colour" j0 [] oU:=by
  refine T.x1q.cal oM (bb:=λ_ _ _ _ _ H vs Q E c h=>?_);obtain⟨x,p,r,t,rfl,a,q⟩:=h;refine⟨_,(cA.go (ae (aZ (bu (aV (ab av rk c (aE (ak 0))))) (ae bH) aH))),?_⟩;exact⟨_,O,x,p,r,t,O,a,λd b=>⟨_,O,bN (q _ b)⟩⟩
theorem AI:ao uE5 uE5 (af nO):=cN
inductive xM (vs:List V)(H:Hp)(Q:VK)(_:XK):Prop
 |mk (a b:Sd) (k j:Bool) (ns ms:List Int) (_:vs=[.ref a,.ref b]) (_:bY K H a (ns.map V.int) k) (_:bY K H b (ms.map V.int) j) (_:ns.length=ms.length) (_:ns.length<=1000) (_:(∀ n∈ns,Sm 8000 n)) (_:(∀ m∈ms,Sm 8000 m)) (_:∀ H',ah H H'->Q (.int (WH (·*·) ns ms).sum) H')
theorem vW [T:cH K mg w]:bF 1 "whole_sum" uE5 [] xM:=by
  refine T.x1r.cal AI (bb:=λ_ _ _ _ _ H vs Q E hr h=>?_);obtain⟨a,b,k,j,ns,G,rfl,p,v,o,L,M,sm,q⟩:=h;refine⟨_,(cA.go (ae (aq (ay (Hu (K:=K) O O) (by rfl) T.xq JR (aE (aG ["part","number"] [] [] 2 (jF (K:=K) O O T.x8 (aA (ak 0) (ak 1))) (λC=>(cQ (K:=K) (n:=2) O O (az (ai 0 C) (az (ai 1 C) bv)))) aF (au aM (ak 0) (ak 1)))))))),?_⟩;refine⟨_,O,_,O,a,b,k,j,O,⟨_,p⟩,⟨_,v⟩,jq (fs:=(WH (·*·) ns G).map Uf) p v (lv ns) (lv G) (by simp[o]) (by simp[o]) (by simp;lia) (λi d e g x y T r u s I A J hy N R kk S=>?_) (λzs r A l D hD=>?_)⟩
  ·rw[Sc] at u s I;obtain⟨n,en,rfl⟩:=So.mp u;obtain⟨m,t,rfl⟩:=So.mp s;obtain⟨z,F,rfl⟩:=So.mp I;rw[XD] at F;obtain⟨n',m',f,c,rfl⟩:=F;rw[en] at f;rw[t] at c;cases f;cases c;cases J;cases hy;exact⟨T,_,O,eM.of N,O,_,_,O,_,_,O,O,aY (B:=S r) ⟨_,O,_,O,_,_,O,O,.inl ⟨M _ (Se en),sm _ (Se t)⟩,kk _ _ ⟨ah.refl _,.int _⟩⟩⟩
  ·have e:=dY l;subst e;exact⟨D,_,O,bI.of ag,q _ (A.trans (ah.new hD))⟩
theorem zS:ao uE4 uE4 (af nV):=cN
inductive qQ (vs:List V)(H:Hp)(Q:VK)(_:XK):Prop
 |mk (x y:V) (k:Bool) (p c:Q3) (_:vs=[x,y]) (_:ax K H (BD k p.ds) x) (_:ax K H c.col y) (_:p.Bd 600) (_:c.Bd 600) (_:h_ K H (sF p c) Q)
theorem Bo [T:cH K mg w]:bF 6 "share_sum" uE4 [] qQ:=by
  refine T.x1s.cal zS (bb:=λ_ _ _ _ _ H vs Q E g h=>?_);obtain⟨x,y,k,p,c,rfl,N,hy,l,j,q⟩:=h;obtain⟨a,xs,rfl,F,z⟩:=aL N;obtain⟨b,ys,rfl,J,m⟩:=aL (b:=false) hy;refine⟨_,(cA.go (ae (aq (ab av zH g (aE (aG ["part","number"] [] [] 2 (jF (K:=K) O O T.x8 (aA (ak 0) (ak 1))) (λL=>(cQ (K:=K) (n:=2) O O (az (ai 0 L) (az (ai 1 L) bv)))) aF (ab av dN g (aA (ak 0) (ak 1))))))))),?_⟩;refine⟨_,O,_,O,a,b,k,false,O,⟨_,F⟩,⟨_,J⟩,jq (fs:=(Q3.mk (p.a*c.a) (p.b*c.b) (p.c*c.c)).ds) F J z m rfl rfl (Z:3<=1000) (λi d e f u v T G hd s A M hu hv hT R kk S=>?_) (λzs G M t D I=>?_)⟩
  ·refine⟨T,_,O,eM.of hT,O,_,_,O,_,_,O,O,aY (B:=S G) ?_⟩;obtain⟨P,C,rfl,rfl,rfl,bP,bC⟩:∃ P C:Rat,d=rD P/\e=rD C/\f=rD (P*C)/\Bq 600 P/\Bq 600 C:=by
    rcases qD hd with ⟨rfl,rfl⟩|⟨rfl,rfl⟩|⟨rfl,rfl⟩
    ·cases(RU s);cases(RU A);exact⟨_,_,O,O,O,l.a,j.a⟩
    ·cases(RU s);cases(RU A);exact⟨_,_,O,O,O,l.b,j.b⟩
    ·cases(RU s);cases(RU A);exact⟨_,_,O,O,O,l.c,j.c⟩
   exact⟨_,O,_,O,_,_,_,_,_,_,O,hu,hv,bP.mono Z,bC.mono Z,h_.mul λv4 H4 s4 o=>kk _ _ ⟨s4,o⟩⟩
  ·refine⟨.ref D,true,1200,[p.a*c.a,p.b*c.b,p.c*c.c],O,ax.listN I t,λr g=>?_,Z,by show 3*(1200+1)+1<=3900;decide,λv5 H5 s5 o=>q v5 H5 ((M.trans (ah.new I)).trans s5) o⟩;rcases R'.mp g with rfl|g
   ·exact l.a.mul j.a
   ·rcases R'.mp g with rfl|g
    ·exact l.b.mul j.b
    ·cases RY.mp g;exact l.c.mul j.c
theorem Ny:ao uD5 uD5 (af Jh):=cN
inductive Of (vs:List V)(H:Hp)(Q:VK)(_:XK):Prop
 |mk (x y:V) (s:S9) (c:Q3) (_:vs=[x,y]) (_:ax K H s.d x) (_:s.In) (_:ax K H c.col y) (_:c.Bd 600) (_:∀ v H',ah H H'->ax K H' (s.m.led c).col v->Q v H')
theorem Nv [T:cH K mg w]:bF 7 "led" uD5 [] Of:=by
  refine T.x1t.cal Ny (bb:=λ_ _ _ _ _ H vs Q E J h=>?_);obtain⟨x,y,sq,c,rfl,hx,j,hy,bc,q⟩:=h;refine⟨_,(cA.go (ac (bo (ab av iT J (aE (ak 0))))
   (ac (bo (ab av i7 J (aE (ak 1))))
   (ae (aq (bQ (gN (K:=K) O) (by rfl) T.x3 cF (aE (aG ["row"] ["colour"] [1] 1 (bE (K:=K) O (ak 0)) (λnd=>(ai 0 nd)) aF (ab av Bo J (aA (aG ["part"] [] [] 1 (bE (K:=K) O (ak 0)) (λnd=>(ai 0 nd)) aF (ab av (bO T.x9) J (aA (ak 0) (cO rfl T.xl)))) (ak 1))))))))))),?_⟩
  refine⟨_,O,x,sq,O,hx,j,λH1 s1=>?_⟩;refine⟨_,O,y,c.a,c.b,c.c,O,ax.same s1 hy,λH2 s2=>?_⟩;have s:=s1.trans s2;have L:=ax.same s hx;have hy2:=ax.same s hy;obtain⟨a,xs,rfl,ha,hds⟩:=aL L;have u13:Sm 13 (1000:Int):=by unfold Sm;decide
  have row:∀ (k:Bool) (r:R3),r.In 4000->∀ (v:V) (n:Hp) (M:VK),ax K n (cB k r) v->ax K n c.col y->h_ K n (sF r.q c) M ->
    BP qQ [] E0 (o8 (Hk (MH K (rX 0)) (wA 0) OT (BP B1 [] E0 (o8 (rX 0) (o8 (tC (.int 1000)) yf))) (DC 1 [])) (o8 (rX 1) yf)) [Y v,Y y] n M:=λk r ir v n M hv hc hq=>by
   obtain⟨b,ys,rfl,hb,o⟩:=aL hv;refine⟨_,O,b,k,O,⟨_,hb⟩,bT (es:=r.q.ds) hb o rfl (Z:3<=1000) (λi d e u H4 hd C s4 G R I S=>?_) (λzs H4 s4 hzs D t=>?_)⟩
   ·refine aY (B:=S H4) ?_;rcases qD hd with ⟨rfl,rfl⟩|⟨rfl,rfl⟩|⟨rfl,rfl⟩<;>(cases G;cases(RU C);exact⟨_,rfl,_,_,rfl,Z,u13.mono Z,h_.sh Z λA F g f=>I _ _ ⟨g,f⟩⟩)
   ·exact⟨_,O,.ref D,y,true,r.q,c,O,ax.listN t hzs,ax.same (s4.trans (ah.new t)) hc,(EG ir).mono Z,bc,λA F g f=>hq A F ((s4.trans (ah.new t)).trans g) f⟩
  refine⟨_,O,a,sq.k,O,⟨_,ha⟩,bT (es:=(sq.m.led c).ds) ha hds rfl (Z:3<=1000) (λi d e u n hd C N G R I S=>?_) (λys n N o D t=>?_)⟩
  ·refine aY (B:=S n) ?_;have p:=ax.same N hy2;rcases qD hd with ⟨rfl,rfl⟩|⟨rfl,rfl⟩|⟨rfl,rfl⟩
   ·cases(RU C);exact row _ _ j.x _ _ _ G p λA F g f=>I _ _ ⟨g,f⟩
   ·cases(RU C);exact row _ _ j.y _ _ _ G p λA F g f=>I _ _ ⟨g,f⟩
   ·cases(RU C);exact row _ _ j.z _ _ _ G p λA F g f=>I _ _ ⟨g,f⟩
  ·refine⟨D,ys,O,.inl ⟨bI.of ag,λl p=>?_⟩⟩;exact q _ _ ((s.trans N).trans ((ah.new t).trans (ah.new p))) (ax.tupN (ds:=(sq.m.led c).ds) p (aB.same (ah.new t) o))
theorem CO:ao j0 j0 (af pO):=cN
inductive CD (vs:List V)(H:Hp)(Q:VK)(_:XK):Prop
 |mk (x:V) (d:Tr) (_:vs=[x]) (_:ax K H d x) (_:Q (.bl (Jk 2 7 d)) H)
theorem tG [T:cH K mg w]:bF 3 "is_knots" j0 [] CD:=by
  refine T.x1u.cal CO (bb:=λ_ _ _ _ _ H vs Q E b h=>?_);obtain⟨x,d,rfl,a,q⟩:=h;refine⟨_,(cA.go (ae (aq (ab av fO b (aj (ak 0) (aj (cO rfl T.xt) (aj (cO rfl T.xx) aN))))))),?_⟩;exact⟨_,O,x,d,2,7,O,a,q⟩
theorem Ea:ao uB4 uB4 (af rV):=cN
inductive D4 (vs:List V)(H:Hp)(Q:VK)(_:XK):Prop
 |mk (x:V) (ns:List Int) (n:Int) (_:vs=[x,.int n]) (_:ax K H (.tuple (ns.map Uf)) x) (_:ns.length=3) (_:∀ H',ah H H'->Q (.bl (ns.all λk=>decide (0<=k)&&decide (k<=n-1))) H')
theorem vR [T:cH K mg w]:bF 4 "is_knot" uB4 [] D4:=by
  refine T.x1v.cal Ea (bb:=λ_ _ _ _ _ H vs Q E b h=>?_);obtain⟨x,ns,n,rfl,a,c,q⟩:=h;refine⟨_,(cA.go (ae (aq (ab av fH b (aj (ak 0) (aj aa (aj aa (aj (au cC (ak 1) aa) aN)))))))),?_⟩;exact⟨_,O,_,O,_,_,O,O,x,ns,3,0,n-1,O,a,zyA,zyA,q⟩
theorem CP:ao j0 j0 (af pQ):=cN
inductive CC (vs:List V)(H:Hp)(Q:VK)(_:XK):Prop
 |mk (x:V) (ns:List Int) (_:vs=[x]) (_:ax K H (.tuple (ns.map Uf)) x) (_:ns.length=3) (_:∀ H',ah H H'->Q (.bl (ns.all λk=>decide (0<=k)&&decide (k<=1000))) H')
theorem nF [T:cH K mg w]:bF 4 "is_worth" j0 [] CC:=by
  refine T.x1w.cal CP (bb:=λ_ _ _ _ _ H vs Q E b h=>?_);obtain⟨x,ns,rfl,a,c,q⟩:=h;refine⟨_,(cA.go (ae (aq (ab av fH b (aj (ak 0) (aj aa (aj aa (aj (cO rfl T.xj) aN)))))))),?_⟩;exact⟨_,O,x,ns,3,0,1000,O,a,zyA,zyA,q⟩
theorem Hn:ao uE7 uE7 (af AA):=cN
inductive Jl (vs:List V)(H:Hp)(Q:VK)(_:XK):Prop
 |mk (n:Nat) (_:vs=[.int n]) (_:2<=n) (_:n<=7) (_:Q (.int (fu n)) H)
theorem vY [T:cH K mg w]:bF 1 "apart" uE7 [] Jl:=by
  refine T.x1x.cal Hn (bb:=λ_ _ _ _ _ H vs Q E c h=>?_);obtain⟨n,rfl,b,a,q⟩:=h;refine⟨_,(cA.go (ae (aq (au dR (cO rfl T.xg) (au cC (ak 0) aa))))),?_⟩;refine⟨_,O,_,_,O,O,_,_,O,O,⟨zyA,Sm.mono (k:=20) (by unfold Sm;lia) Z⟩,?_⟩;dsimp only;rw[TW _ zyA];exact q
theorem LH:ao uC9 uC9 (af Dw):=cN
inductive Lx (vs:List V)(H:Hp)(Q:VK)(_:XK):Prop
 |mk (i:Int) (_:vs=[.int i]) (_:Q (.int (Fp i)) H)
theorem Kp [T:cH K mg w]:bF 1 "held" uC9 [] Lx:=by
  refine T.x1y.cal LH (bb:=λ_ _ _ _ _ H vs Q E a h=>?_);obtain⟨i,rfl,q⟩:=h;refine⟨_,(cA.go (ae (aq (ay (k9 rfl) (by rfl) T.xf wK (aA (ay (zi rfl) (by rfl) T.xe vX (aA (ak 0) aa)) (cO rfl T.xj)))))),?_⟩;refine⟨_,O,_,_,O,_,_,O,?_⟩;have e:(if(1000:Int)<(if 0>i then 0 else i) then 1000 else(if 0>i then 0 else i))=Fp i:=by
   unfold Fp
   split<;>split at*<;> lia
  rw[e];exact q
theorem BL:ao uB4 uB4 (af pN):=cN
inductive CA (vs:List V)(H:Hp)(Q:VK)(_:XK):Prop
 |mk (d:Sd) (n:Nat) (f:Kn->R3) (_:vs=[.ref d,.int n]) (_:Gr K H n f d) (_:Db n f) (_:n<=7) (_:∀ H',ah H H'->Q (.bl true) H')
theorem CG [T:cH K mg w]:bF 5 "is_table" uB4 [] CA:=by
  refine T.x1z.cal BL (bb:=λ_ _ _ _ _ H vs Q E L h=>?_);obtain⟨d,n,f,rfl,hg,hw,h7,q⟩:=h;obtain⟨j,N,vs,l,m⟩:=hg;have s:=yZ.len m;have kl:(lf j vs).length=n^3:=by rw[sg s,N.length_eq,lI]
  have n3:n^3<=7^3:=WC h7 3;refine⟨_,(cA.go (ac (aZ (WW.pt (fU (bu (aV (ay (qG (K:=K) O) (by rfl) T.x2 a_ (aA (ak 0) (c_ (v:=.ty "dict") O T.xn Ez rfl))))) (eI (aX sV (ay FH (by rfl) T.x4 fj (aE (ak 0))) (au HJ (ak 1) aa) (bn _))))) (ae (aq iH)) aH)
   (ae (aq (ay (o_ (K:=K) O O) (by rfl) T.xb kG (aE (Jt (aG ["place","worth"] uE7 [1] 2 (FX (ak 0)) (λr=>(cQ (K:=K) (n:=2) O O (az (ai 0 r) (az (ai 1 r) bv)))) aF (fB (ab av vR L (aA (ak 0) (ak 2))) (jh (ab av nF L (aE (ak 1))))))))))))),?_⟩
  refine⟨_,O,_,_,_,true,O,.dT l,(show kh "dict" "dict"=Y true by decide +kernel),_,O,bN ?_⟩;refine⟨_,O,d,_,O,.inl l,_,O,_,_,O,O,⟨Z,Z,zyA⟩,_,_,O,O,false,?_,bN ?_⟩
  ·show V.bl (!decide (((lf j vs).length:Int)=(n:Int)^(3:Int).toNat))=_;rw[kl,R8 (by show((n^3:Nat):Int)=(n:Int)^3;simp)];rfl
  refine⟨_,O,d,_,O,l,λo=>DA (d:=d) (bs:=Sl (lf j vs).length true) ag zyB zyA (λi k x ka T b C hk g p I hT R kk S=>?_) (λC p D J=>?_)⟩
  ·obtain⟨t,M,rfl,e2⟩:=IX hk;have g:b=true:=by
    rw[WY] at g
    split at g
    ·exact(RU g).symm
    ·cases g
   subst g;have ht:t∈aI n:=N.mem_iff.mp (Se M);have hm:=bA.mp ht;have wt:=hw t ht;have y:ax K C (wD (f t)) x:=by
    obtain⟨dd,ed,y⟩:=m.get e2;rw[Sc,M] at ed;cases ed;have F:ax K (upd H d (.frz o (.dT (lf j vs)))) (wD (f t)) x:=by
     obtain⟨a,xs,rfl,ha,hxs⟩:=aL (b:=false) (ds:=(f t).ds) y;have A:ax K H (.tuple (f t).ds) (.ref a):=y;cases A with
     |tup G h2=>exact .tup (by rw[ar (λz=>by rw[z,l] at G;cases G)];exact G) (by cases g_ h2;exact .cons (.int _) (.cons (.int _) (.cons (.int _) .nil)))
    exact ax.same p F
   have e3:([(t.1:Int),(t.2.1:Int),(t.2.2:Int)].all λk=>decide (0<=k)&&decide (k<=(n:Int)-1))=true:=by
    simp only[XR,aa1,XN,Tu,U6];lia
   have e4:([(f t).a,(f t).b,(f t).c].all λk=>decide (0<=k)&&decide (k<=1000))=true:=by
    obtain⟨a0,a1,b0,b1,c0,c1⟩:=wt;simp only[XR,aa1,XN,Tu,U6];lia
   refine⟨T,_,O,eM.of hT,O,_,_,O,_,_,O,O,aY (B:=S C) ?_⟩;refine⟨_,O,_,O,.ref ka,[(t.1:Int),(t.2.1:Int),(t.2.2:Int)],n,O,mz I,O,λH2 s2=>⟨true,by rw[e3],aY ?_⟩⟩;exact⟨_,O,x,[(f t).a,(f t).b,(f t).c],O,ax.same s2 y,O,λH3 s3=>by rw[e4];exact kk _ _ ⟨s2.trans s3,O⟩⟩
  ·have r:D≠d:=λz=>by rw[z,p _ _ ag] at J;cases J
   refine⟨d,o,lf j vs,l,by rw[ar (U9 r)];exact p _ _ ag,D,_,O,bI.of (by rw[ar r];exact ag),?_⟩;rw[show(Sl (lf j vs).length true).all id=true by simp];refine q _ λb u e=>?_
   by_cases g:b=d
   ·subst g;rw[l] at e;cases e;exact ag
   ·rw[ar g];have y:=p b u (by rw[ar g];exact e);rw[ar (λz=>by rw[z,J] at y;cases y)];exact y
theorem pJ:ao j0 j0 (af gq):=cN
inductive qf (vs:List V)(H:Hp)(Q:VK)(_:XK):Prop
 |mk (n:Nat) (_:vs=[.int n]) (_:2<=n) (_:n<=7) (_:Q .non H)
theorem jO [T:cH K mg w]:bF 4 "refuse_no_knots" j0 [] qf:=by
  refine T.x20.cal pJ (bb:=λ_ _ _ _ _ H vs Q E b h=>?_);obtain⟨n,rfl,d,c,q⟩:=h;refine⟨_,(cA.go (ae (aZ (bu (aV (ab av tG b (aE (ak 0))))) (ae bH) aH))),?_⟩;have a:Jk 2 7 (.int (n:Int))=true:=by
   show(decide ((2:Int)<=n)&&decide ((n:Int)<=7))=true;rw[R8 (show(2:Int)<=n by lia),R8 (show(n:Int)<=7 by lia)];rfl
  exact⟨_,O,.int n,.int n,O,.int _,true,by rw[a],bN q⟩
theorem jA:ao j0 j0 (af dh):=cN
inductive jR (vs:List V)(H:Hp)(Q:VK)(_:XK):Prop
 |mk (x:V) (c:Q3) (_:vs=[x]) (_:ax K H c.col x) (_:c.Wi ((60:Int):Rat)) (_:c.Bd 3000) (_:∀ H',ah H H'->Q .non H')
theorem uZ {p:Rat}{m:Int}(c:0<=p)(b:p<=(m:Rat)):(decide (0*(p.den:Int)<=p.num)&&decide (p.num<=m*(p.den:Int)))=true:=by
 have d:decide (0*(p.den:Int)<=p.num)=true:=R8 (by rw[Int.zero_mul];exact YE.mpr c);have a:decide (p.num<=m*(p.den:Int))=true:=R8 (by
  have h:=(Rat.le_iff p (m:Rat)).mp b;rw[Wa,Uz] at h
  simpa using h)
 rw[d,a];rfl
theorem c7 [T:cH K mg w]:bF 4 "refuse_no_device_colour" j0 [] jR:=by
  refine T.x21.cal jA (bb:=λ_ _ _ _ _ H vs Q E t h=>?_);obtain⟨x,c,rfl,p,hw,m,q⟩:=h;refine⟨_,(cA.go (ae (aZ (WW.pt (fU (bu (aV (ab av rk t (aE (ak 0))))) (eI (bu (aV (ay (o_ (K:=K) O O) (by rfl) T.xb kG (aE (aG uC9 [] [] 1 (bE (K:=K) O (ak 0)) (λA=>(ai 0 A)) aF (ab av qR t (aj (ak 0) (aj aa (aj (cO rfl T.xg) aN)))))))))))) (ae bH) aH))),?_⟩;refine⟨_,O,x,c.a,c.b,c.c,O,p,λC v=>⟨_,O,bN ?_⟩⟩;obtain⟨a,G,rfl,r,k⟩:=aL (b:=false) (ds:=c.ds) (ax.same v p);have f:Sm 60 (60:Int):=by unfold Sm;decide
  have g:Sm 60 (0:Int):=by unfold Sm;decide
  refine⟨_,O,a,false,O,⟨_,r⟩,bT (es:=[.bool true,.bool true,.bool true]) r k rfl (Z:3<=1000) (λi d e u s y j s2 n R o S=>?_) (λF s s2 l D z=>?_)⟩
  ·refine aY (B:=S s) ⟨_,O,?_⟩;rcases qD y with ⟨rfl,rfl⟩|⟨rfl,rfl⟩|⟨rfl,rfl⟩
   ·cases(RU j);exact⟨u,c.a,0,60,O,n,m.a.mono Z,g,f,by rw[uZ hw.a0 hw.a1];exact o _ _ ⟨ah.refl _,.bl _⟩⟩
   ·cases(RU j);exact⟨u,c.b,0,60,O,n,m.b.mono Z,g,f,by rw[uZ hw.b0 hw.b1];exact o _ _ ⟨ah.refl _,.bl _⟩⟩
   ·cases(RU j);exact⟨u,c.c,0,60,O,n,m.c.mono Z,g,f,by rw[uZ hw.c0 hw.c1];exact o _ _ ⟨ah.refl _,.bl _⟩⟩
  ·have e:=gJ (bs:=[true,true,true]) l;subst e;exact⟨D,_,O,bI.of ag,_,O,bN (q _ ((v.trans s2).trans (ah.new z)))⟩
theorem mn:ao ["many","numbers"] uD9 (af jt):=cN
inductive uh (vs:List V)(H:Hp)(Q:VK)(_:XK):Prop
 |mk (n:Nat) (_:vs=[.int n]) (_:n<=7) (_:∀ (D:Sd) (ys:List V) (H':Hp),ah H H'->H' D=Y (.lst ys)->aB K H' ((aI n).map KS) ys->Q (.ref D) H')
theorem mq [T:cH K mg w]:bF 1 "places_below" uD9 [] uh:=by
  refine T.x22.cal mn (bb:=λ_ _ _ _ _ H vs Q E hr h=>?_);obtain⟨n,rfl,I,q⟩:=h;refine⟨_,(cA.go (ac (aw 1 mn.nd (bQ (zW rfl) (by rfl) T.xc je (aj (E4 rfl T.x0 (aE (ak 0))) aN)))
   (ae (aq (Gz rfl (bE (K:=K) O (ak 1)) (Bn zyC (by rfl)) (Dx (ts:=["a","b","c"]) (cs:=["numbers"]) (js:=[1]) (k:=3) (by rfl) O O) (λ_ _ _ _ _=>(ai 0 (show abr (α:=Str) uE1 by decide +kernel))) (λ_ _ _ _ _=>aF) (λ_ _ _ _ _=>(Cq rfl rfl rfl (bE (K:=K) O (ak 3)) (ai 1 (show abr (α:=Str) uE1 by decide +kernel)) aF (Cq rfl rfl rfl (bE (K:=K) O (ak 3)) (ai 2 (show abr (α:=Str) uE1 by decide +kernel)) aF (JY rfl rfl (aW (aj (ak 0) (aj (ak 1) (aj (ak 2) aN))))))))))))),?_⟩
  refine⟨_,O,n,O,zyA,λp r=>⟨p,n,O,ag,zyA,λl L=>?_⟩⟩;have G:ah H (upd (upd H p (.rng 0 n)) l (.lst ((wm n).map V.int))):=(ah.new r).trans (ah.new L);have a:bY K (upd (upd H p (.rng 0 n)) l (.lst ((wm n).map V.int))) l ((wm n).map V.int) true:=bI.of ag;generalize upd (upd H p (.rng 0 n)) l (.lst ((wm n).map V.int))=y at G a ⊢;refine⟨_,O,l,true,O,⟨_,a⟩,Gk (xs:=(wm n).map V.int) (λi o e=>ah y e/\aB K e ((yx n i).map KS) o) ⟨ah.refl _,.nil⟩ (λi o e _ p=>bY.same p.1 a) (λi x o F m p R kk S=>?_) (λo F p=>?_)⟩
  ·obtain⟨hi,rfl⟩:=A1 m;obtain⟨s,d1⟩:=p;refine aY (B:=S F) ⟨_,O,l,true,O,⟨_,bY.same s a⟩,BJ (xs:=(wm n).map V.int) (λj f d e=>(∃ z g,f=[Y (.int i),z,g,Y (.ref l)])/\ah y e/\aB K e ((yx n i++xT n i j).map KS) d) ⟨⟨none,none,O⟩,s,by simpa [xT] using d1⟩ (λj f d e _ p=>bY.same p.2.1 a) (λj x f d C m p R2 A N=>?_) (λf d C p=>?_)⟩
   ·obtain⟨M,rfl⟩:=A1 m;obtain⟨⟨z,g,rfl⟩,s2,d2⟩:=p;refine aY (B:=N [Y (.int i),Y (.int j),g,Y (.ref l)] C) ⟨_,O,l,true,O,⟨_,bY.same s2 a⟩,BJ (xs:=(wm n).map V.int) (λk f c e=>(∃ g,f=[Y (.int i),Y (.int j),g,Y (.ref l)])/\ah y e/\aB K e ((yx n i++xT n i j++zg i j k).map KS) c) ⟨⟨g,O⟩,s2,by simpa [zg] using d2⟩ (λj f d e _ p=>bY.same p.2.1 a) (λk x f c J m p R3 v S3=>?_) (λf c J p=>?_)⟩
    ·obtain⟨hk,rfl⟩:=A1 m;obtain⟨⟨o3,rfl⟩,u,d3⟩:=p;have b:=d3.length;rw[R5] at b;refine aY (B:=S3 [Y (.int i),Y (.int j),Y (.int k),Y (.ref l)] J) ⟨bR (by rw[<- b];exact Sv (Ja I hi M (TH hk)) Z),_,O,_,O,_,O,Gd,λp r=>v _ _ _ ⟨⟨_,O⟩,u.trans (ah.new r),?_⟩⟩;rw[BM,<- U5,T5];exact(aB.same (ah.new r) d3).snoc (mz (t:=(i,j,k)) ag)
    ·obtain⟨⟨o3,rfl⟩,u,d3⟩:=p;rw[R5,km] at d3;exact A _ _ _ ⟨⟨_,_,O⟩,u,by rw[xA,<- U5];exact d3⟩
   ·obtain⟨⟨z,g,rfl⟩,s2,d2⟩:=p;rw[R5,km] at d2;exact kk _ _ _ ⟨s2,by rw[vc];exact d2⟩
  ·obtain⟨s,d1⟩:=p;rw[R5,km,Lw] at d1;have b:=d1.length;rw[R5,lI] at b;refine⟨?_,λD c=>q D o _ ((G.trans s).trans (ah.new c)) ag (aB.same (ah.new c) d1)⟩;have:n^3<=7^3:=WC I 3;lia
theorem IC:ao uE2 uE2 (af Ba):=cN
inductive JD (vs:List V)(H:Hp)(Q:VK)(_:XK):Prop
 |mk (a b:Sd) (ns ms:List Int) (_:vs=[.ref a,.ref b]) (_:eM K H a (ns.map V.int)) (_:eM K H b (ms.map V.int)) (_:ns.length=ms.length) (_:ns.length<=10) (_:∀ (p:Sd) (H':Hp),ah H H'->H' p=Y (.tup ((WH (·+·) ns ms).map V.int))->Q (.ref p) H')
theorem vn [T:cH K mg w]:bF 1 "moved" uE2 [] JD:=by
  refine T.x23.cal IC (bb:=λ_ _ _ _ _ H vs Q E hr h=>?_);obtain⟨a,b,ns,o,rfl,p,u,j,I,q⟩:=h;refine⟨_,(cA.go (ae (aq (bQ (gN (K:=K) O) (by rfl) T.x3 cF (aE (aG ["number","step"] [] [] 2 (jF (K:=K) O O T.x8 (aA (ak 0) (ak 1))) (λA=>(cQ (K:=K) (n:=2) O O (az (ai 0 A) (az (ai 1 A) bv)))) aF (au di (ak 0) (ak 1)))))))),?_⟩;refine⟨_,O,_,O,a,b,false,false,O,⟨_,p⟩,⟨_,u⟩,jq (fs:=(WH (·+·) ns o).map Uf) (show bY K H a (ns.map V.int) false from p) (show bY K H b (o.map V.int) false from u) (lv ns) (lv o) (by simp[j]) (by simp[j]) (by simp;lia) (λi d e g x y T r t s F v G N L R kk S=>?_) (λzs r v k D M=>?_)⟩
  ·rw[Sc] at t s F;obtain⟨n,en,rfl⟩:=So.mp t;obtain⟨m,J,rfl⟩:=So.mp s;obtain⟨z,C,rfl⟩:=So.mp F;rw[XD] at C;obtain⟨n',m',f,c,rfl⟩:=C;rw[en] at f;rw[J] at c;cases f;cases c;cases G;cases N;exact⟨T,_,O,eM.of L,O,_,_,O,_,_,O,O,aY (B:=S r) ⟨_,O,_,O,_,_,O,O,kk _ _ ⟨ah.refl _,.int _⟩⟩⟩
  ·have e:=dY k;subst e;exact⟨D,_,O,.inl ⟨bI.of ag,λl j=>q _ _ ((v.trans (ah.new M)).trans (ah.new j)) ag⟩⟩
theorem cy:ao ["far","whole","corner","left","parts","way"] uC5 (af du):=cN
inductive lh (vs:List V)(H:Hp)(Q:VK)(_:XK):Prop
 |mk (a:Sd) (x y z whole:Int) (_:vs=[.ref a,.int whole]) (_:bI K H a [.int x,.int y,.int z]) (_:Em K "parts_by_four" H) (_:∀ (o:Nat×Nat×Nat) (D:Sd) (ys:List V) (H':Hp),o∈ux->be x y z o.2.1<=be x y z o.1->be x y z o.2.2<=be x y z o.2.1->ah H H'->H' D=Y (.lst ys)->aB K H' ((jQ (be x y z) whole o.1 o.2.1 o.2.2).map JM) ys->Q (.ref D) H')
theorem sX [T:cH K mg w]:bF 2 "parts_by_four" uC5 [] lh:=by
  refine T.x3r.cal cy (bb:=λ_ _ _ _ _ H vs Q E hcv hr h=>?_);obtain⟨a,x,y,z,k,rfl,ha,⟨Pt,tb,hP⟩,q⟩:=h;obtain⟨c,rfl,hcd⟩:=hcv Pt tb;refine⟨_,(cA.go (ac (aw 2 cy.nd (aW (aj aa (aj aa (aj aa aN)))))
   (ac (aw 3 cy.nd (ak 1))
   (ac (aw 4 cy.nd (bV aN))
   (ac (de SW rfl (bE (K:=K) O (BA (K:=K) (i:=0) O O hr rfl T.xi rfl hcd rfl rfl (E4 rfl T.x0 (aE aa)))) (ai 5 cy.nd) (ac (bo (Di W0 VJ WJ rF (ak 4) (aE (aW (aA (ak 2) (au cC (ak 3) (am K (ak 0) (ak 5))))))))
   (ac (aw 2 cy.nd (ab av vn hr (aA (ak 2) (am K (EW (K:=K) (rows:=[[1,0,0],[0,1,0],[0,0,1]]) O T.x13) (ak 5)))))
   (ae (aw 3 cy.nd (am K (ak 0) (ak 5)))))))
   (ac (bo (Di W0 VJ WJ rF (ak 4) (aE (aW (aA (ak 2) (ak 3))))))
   (ae (aq (ak 4))))))))),?_⟩
  refine⟨Gd,λc0 hc0=>⟨_,O,Z,λj N=>⟨3,O,Z,λM hrg=>?_⟩⟩⟩;have s0:ah H (upd (upd (upd H c0 (.tup [.int 0,.int 0,.int 0])) j (.lst [])) M (.rng 0 3)):=((ah.new hc0).trans (ah.new N)).trans (ah.new hrg);have gc:upd (upd (upd H c0 (.tup [.int 0,.int 0,.int 0])) j (.lst [])) M (.rng 0 3) c0=Y (.tup (tP (0,0,0))):=ah.new hrg _ _ (ah.new N _ _ ag);have gP:upd (upd (upd H c0 (.tup [.int 0,.int 0,.int 0])) j (.lst [])) M (.rng 0 3) j=Y (.lst []):=ah.new hrg _ _ ag;have gr:upd (upd (upd H c0 (.tup [.int 0,.int 0,.int 0])) j (.lst [])) M (.rng 0 3) M=Y (.rng 0 3):=ag;have fP:H j=none:=(ah.new (o:=.tup [.int 0,.int 0,.int 0]) hc0).free N;generalize upd (upd (upd H c0 (.tup [.int 0,.int 0,.int 0])) j (.lst [])) M (.rng 0 3)=H1 at s0 gc gP gr ⊢;refine⟨M,3,a,[x,y,z],O,gr,Z,O,s0.seq ha,O,s0 _ _ hP,λH2 D order s2 hD perm pw=>?_⟩;obtain⟨⟨u,v,w⟩,ho,rfl⟩:=Nm perm;obtain⟨u3,v3,w3⟩:=DK ho;have p1:be x y z v<=be x y z u:=by
   have:=(Uy.mp pw).1 (v:Int) zyB
   rwa [nW u3,nW v3] at this
  have p2:be x y z w<=be x y z v:=by
   have:=(Uy.mp (Uy.mp pw).2).1 (w:Int) zyB
   rwa [nW v3,nW w3] at this
  have s3:ah H (upd H2 D (.lst ([(u:Int),(v:Int),(w:Int)].map V.int))):=(s0.trans s2).trans (ah.new hD);have L:bY K (upd H2 D (.lst ([(u:Int),(v:Int),(w:Int)].map V.int))) D [.int (u:Int),.int (v:Int),.int (w:Int)] true:=bI.of ag;have gc3:=(s2.trans (ah.new (o:=.lst ([(u:Int),(v:Int),(w:Int)].map V.int)) hD)) _ _ gc;have gP3:=(s2.trans (ah.new (o:=.lst ([(u:Int),(v:Int),(w:Int)].map V.int)) hD)) _ _ gP;have DP:D≠j:=λz=>by rw[z,s2 _ _ gP] at hD;cases hD
  generalize upd H2 D (.lst ([(u:Int),(v:Int),(w:Int)].map V.int))=J at s3 L gc3 gP3 ⊢;have fr:∀ {A:Hp},Mv [j] J A->∀ b o,J b=Y o->b≠j->A b=Y o:=λm b o e n=>m b o e (by simp[n])
  have sq:∀ {A:Hp},Mv [j] J A->bI K A a [.int x,.int y,.int z]:=λ{A} m=>by
   have aP:∀ o,H a=Y o->A a=Y o:=λo e=>m _ _ (s3 _ _ e) (λz=>by rw[RY.mp z,fP] at e;cases e)
   rcases ha with (h|⟨o,h⟩)|h
   ·exact .inl (.inl (aP _ h))
   ·exact .inl (.inr ⟨o,aP _ h⟩)
   ·exact .inr h
  have hlD:∀ {A:Hp},Mv [j] J A->bY K A D [.int (u:Int),.int (v:Int),.int (w:Int)] true:=λ{A} m=>by
   rcases L with (h|⟨o,h⟩)|h
   ·exact .inl (.inl (fr m _ _ h DP))
   ·exact .inl (.inr ⟨o,fr m _ _ h DP⟩)
   ·exact .inr h
  have mI:∀ (g:Nat) (cc:Kn) (left:Int) (ps:List Pc) (s:Hp) (ca:Sd) (r:List V),g < 3->Mv [j] J s->s ca=Y (.tup (tP cc))->s j=Y (.lst r)->aB K s (ps.map JM) r->ps.length <= 10 ->
    ∀ R:Hp->Sd->List V->Prop,(∀ t cb zs,Mv [j] J t->t cb=Y (.tup (tP (aD cc (un g))))->t j=Y (.lst zs)->aB K t ((ps++[(cc,left-be x y z g)]).map JM) zs->R t cb zs) ->
    ∀ p,s p=none->(∀ sa,Hq K sa [[1,0,0],[0,1,0],[0,0,1]]->∃ (bs:List V) (b:Sd),KT K sa bs/\Es bs (g:Int)=Y (.ref b)/\KT K b (tP (un g))) /\
     ∀ cb t,ah (upd (upd s p (.tup [.ref ca,.int (left-be x y z g)])) j (.lst (r++[.ref p]))) t->t cb=Y (.tup (tP (aD cc (un g))))->R t cb (r++[.ref p]):=by
   intro g cc left ps s ca r g3 m4 l f B hpl R kk p I;refine⟨λsa hs=>IM hs g3,λcb t s5 G=>?_⟩;have pP:p≠j:=λz=>by rw[z,f] at I;cases I
   have m5:Mv [j] s (upd (upd s p (.tup [.ref ca,.int (left-be x y z g)])) j (.lst (r++[.ref p]))):=λb o e n=>by
    rw[ar (λz=>n (by simp[z])),ar (aS e I)];exact e
   have li:cD s [j]:=λb mm=>⟨r,by rw[RY.mp mm];exact f⟩
   refine kk t cb _ ((m4.trans m5).trans (Mv.of s5)) G (s5 _ _ ag) ?_;rw[T5];refine aB.same s5 ((aB.mv m5 li (uI ps) B).snoc (.tup (by rw[ar pP];exact ag) (.cons ?_ (.cons (.int _) .nil))));exact mz (m5 _ _ l (λz=>by rw[RY.mp z,f] at l;cases l))
  refine ⟨D,true,O,⟨_,L⟩,lU (xs:=[.int (u:Int),.int (v:Int),.int (w:Int)]) (fun i σ A=>∃ (ca:Sd) (r:List V) (ow:Option V) (cc:Kn) (left:Int),σ=[Y (.ref a),Y (.int k),Y (.ref ca),Y (.int left),Y (.ref j),ow]/\Mv [j] J A/\A ca=Y (.tup (tP cc))/\A j=Y (.lst r) /\
    aB K A (((jQ (be x y z) k u v w).take i).map JM) r/\(cc=match i with|0=>(0,0,0)|1=>un u|2=>aD (un u) (un v)|_=>aD (aD (un u) (un v)) (un w))/\left=match i with|0=>k|1=>be x y z u|2=>be x y z v|_=>be x y z w)
   ⟨c0,[],none,(0,0,0),k,O,Mv.refl,gc3,gP3,.nil,O,O⟩ (λi σ A hi ⟨_,_,_,_,_,_,m,_⟩=>hlD m) ?_ ?_⟩
  ·rintro i wv σ s ew ⟨ca,r,ow,cc,left,rfl,m4,l,f,B,F,C⟩;have hpl:((jQ (be x y z) k u v w).take i).length<=10:=by rw[SX];show min i 4<=10;lia
   obtain⟨g,rfl,g3,hg⟩:∃ g:Nat,wv=.int (g:Int)/\g<3/\((i=0/\g=u)\/(i=1/\g=v)\/(i=2/\g=w)):=by
    rcases qD ew with ⟨rfl,rfl⟩|⟨rfl,rfl⟩|⟨rfl,rfl⟩
    ·exact⟨u,O,u3,.inl ⟨O,O⟩⟩
    ·exact⟨v,O,v3,.inr (.inl ⟨O,O⟩)⟩
    ·exact⟨w,O,w3,.inr (.inr ⟨O,O⟩)⟩
   have hl:=B.length;rw[R5] at hl;refine⟨_,O,.inl ⟨O,_,bI.of f⟩,_,O,_,O,_,O,_,O,.inl ⟨a,_,_,_,O,O,sq m4,Fh g3,_,_,O,O,kY,λp I=>?_⟩⟩;have pP:p≠j:=λz=>by rw[z,f] at I;cases I
   obtain⟨t1,t2⟩:=mI g cc left _ s ca r g3 m4 l f B hpl (λt cb zs=>∃ (ca:Sd) (r:List V) (ow:Option V) (cc:Kn) (left:Int),[Y (V.ref a),Y (V.int k),Y (V.ref cb),Y (V.int (be x y z g)),Y (V.ref j),Y (V.int (g:Int))]=[Y (.ref a),Y (.int k),Y (.ref ca),Y (.int left),Y (.ref j),ow]/\Mv [j] J t/\t ca=Y (.tup (tP cc))/\t j=Y (.lst r) /\
    aB K t (((jQ (be x y z) k u v w).take (i+1)).map JM) r/\(cc=match i+1 with|0=>(0,0,0)|1=>un u|2=>aD (un u) (un v)|_=>aD (aD (un u) (un v)) (un w))/\left=match i+1 with|0=>k|1=>be x y z u|2=>be x y z v|_=>be x y z w) (λt cb zs m5 G hP5 hzs=>by
     refine⟨cb,zs,_,_,_,O,m5,G,hP5,?_,?_,?_⟩
     ·rcases hg with ⟨rfl,rfl⟩|⟨rfl,rfl⟩|⟨rfl,rfl⟩<;>(subst F;subst C;exact hzs)
     ·rcases hg with ⟨rfl,rfl⟩|⟨rfl,rfl⟩|⟨rfl,rfl⟩
      ·subst F;show aD (0,0,0) (un g)=un g;unfold aD;simp
      ·subst F;rfl
      ·subst F;rfl
     ·rcases hg with ⟨rfl,rfl⟩|⟨rfl,rfl⟩|⟨rfl,rfl⟩<;>rfl) p I
   have gP5:upd s p (.tup [.ref ca,.int (left-be x y z g)]) j=Y (.lst r):=by rw[ar (U9 pP)];exact f
   refine⟨j,r,.ref p,O,O,gP5,bR zyA,?_⟩;have m6:Mv [j] s (upd (upd s p (.tup [.ref ca,.int (left-be x y z g)])) j (.lst (r++[.ref p]))):=λb o e n=>by
    rw[ar (λz=>n (by simp[z])),ar (aS e I)];exact e
   have ca6:upd (upd s p (.tup [.ref ca,.int (left-be x y z g)])) j (.lst (r++[.ref p])) ca=Y (.tup (tP cc)):=m6 _ _ l (λz=>by rw[RY.mp z,f] at l;cases l);have sq6:=sq (m4.trans m6);refine⟨_,O,λsa hsa=>?_⟩;obtain⟨bs,b,k1,k2,k3⟩:=t1 sa hsa;refine⟨_,O,.inr (.inl ⟨sa,bs,_,_,O,O,k1.sq,k2,ca,b,[(cc.1:Int),(cc.2.1:Int),(cc.2.2:Int)],[((un g).1:Int),((un g).2.1:Int),((un g).2.2:Int)],O,eM.of ca6,k3.sq,O,(Z:3<=10),λcb t s5 G=>?_⟩)⟩;rw[Do] at G;exact⟨_,O,_,O,.inl ⟨a,_,_,_,O,O,s5.seq sq6,Fh g3,t2 cb t s5 G⟩⟩
  ·rintro σ s ⟨ca,r,ow,cc,left,rfl,m4,l,f,B,F,C⟩;have hl:=B.length;rw[R5] at hl;refine⟨_,O,.inl ⟨O,_,bI.of f⟩,_,O,_,O,kY,λp I=>?_⟩;have pP:p≠j:=λz=>by rw[z,f] at I;cases I
   refine⟨j,r,.ref p,O,O,by rw[ar (U9 pP)];exact f,bR (by rw[<- hl];show 3<=1000;decide),_,O,?_⟩;have m6:Mv [j] s (upd (upd s p (.tup [.ref ca,.int left])) j (.lst (r++[.ref p]))):=λb o e n=>by
    rw[ar (λz=>n (by simp[z])),ar (aS e I)];exact e
   have li:cD s [j]:=λb mm=>⟨r,by rw[RY.mp mm];exact f⟩
   subst F C;refine q (u,v,w) j _ _ ho p1 p2 (λb o e=>(m4.trans m6) b o (s3 _ _ e) (λz=>by rw[RY.mp z,fP] at e;cases e)) ag ?_;refine(aB.mv m6 li (uI _) B).snoc (d:=JM (aD (aD (un u) (un v)) (un w),be x y z w)) (.tup (by rw[ar pP];exact ag) (.cons ?_ (.cons (.int _) .nil)));exact mz (m6 _ _ l (λz=>by rw[RY.mp z,f] at l;cases l))
theorem ci:ao ["far","whole","parts","corner","part","beyond","distance"] uC5 (af gU):=cN
inductive ku (vs:List V)(H:Hp)(Q:VK)(_:XK):Prop
 |mk (a:Sd) (x y z whole:Int) (b:Nat) (_:vs=[.ref a,.int whole]) (_:bI K H a [.int x,.int y,.int z]) (_:Sm b x) (_:Sm b y) (_:Sm b z) (_:Sm b whole) (_:b<=2000) (_:∀ (D:Sd) (ys:List V) (H':Hp),ah H H'->H' D=Y (.lst ys)->aB K H' ((dO (be x y z) whole).map JM) ys->Q (.ref D) H')
theorem qX [T:cH K mg w]:bF 2 "parts_by_eight" uC5 [] ku:=by
  refine T.x24.cal ci (bb:=λ_ _ _ _ _ H vs Q E hr h=>?_);obtain⟨a,x,y,z,f,b,rfl,ha,sx,sy,sz,sw,hb,q⟩:=h;refine⟨_,(cA.go (ac (aw 2 ci.nd (bV aN))
   (ac (de SW rfl (bE (K:=K) O (ab av mq hr (aE aa))) (ai 3 ci.nd) (ac (aw 4 ci.nd aa)
   (ac (de SW rfl (jF (K:=K) O O T.x8 (aA (ak 3) (ak 0))) (cQ (K:=K) (n:=2) O O (az (ai 5 ci.nd) (az (ai 6 ci.nd) bv))) (ae (Bs (i:=4) ci.nd rfl (by first|exact aa5 rfl|exact Z6 rfl) (jp (aX fq (ak 5) aa (bn _)) (ak 6) (au cC (ak 1) (ak 6))) JX)))
   (ae (bo (Di W0 VJ WJ rF (ak 2) (aE (aW (aA (ak 3) (ak 4))))))))))
   (ae (aq (ak 2)))))),?_⟩
  have fs:=Hf sx sy sz sw;have gs:∀ k c,Sm 8000 (qz (be x y z) f k c):=λk c=>(fs k c).mono zyA
  have ps:∀ t j,Sm 8000 (dU (be x y z) f t j):=λt j=>(BV fs t j).mono zyA
  refine⟨Z,λA J=>⟨2,O,Z,λD xs H1 s1 hD M=>?_⟩⟩;have gP:=s1 _ _ (ag (H:=H) (a:=A) (o:=.lst []));have s0:ah H H1:=(ah.new J).trans s1;have DP:D≠A:=λz=>by
   rw[z,gP] at hD;cases hD;have:=M.length;exact absurd this Z
  have lx:=M.length;rw[R5] at lx;refine⟨D,true,O,⟨_,bI.of hD⟩,lU (xs:=xs) (λi F L=>∃ (ys:List V) (o1 o2 o3 I:Option V),F=[Y (.ref a),Y (.int f),Y (.ref A),o1,o2,o3,I]/\Mv [A] H1 L/\L A=Y (.lst ys)/\aB K L (((dO (be x y z) f).take i).map JM) ys)
   ⟨[],_,_,_,_,O,Mv.refl,gP,.nil⟩ (λi F L hi ⟨_,_,_,_,_,_,m,_⟩=>bI.of (m _ _ hD (by simp[DP]))) ?_ ?_⟩
  ·rintro i wv F H4 ew ⟨ys,o1,o2,o3,I,rfl,m4,G,B⟩;obtain⟨d,ed,hd⟩:=M.get ew;rw[Sc] at ed;obtain⟨t,et,rfl⟩:=So.mp ed;obtain⟨ca,rfl,N⟩:=qK hd;have g:H4 ca=Y (.tup (tP t)):=m4 _ _ N (λz=>by rw[RY.mp z,gP] at N;cases N);have ha4:bI K H4 a [.int x,.int y,.int z]:=by
    have aP:∀ o,H a=Y o->H4 a=Y o:=λo e=>m4 _ _ (s0 _ _ e) (λz=>by rw[RY.mp z,J] at e;cases e)
    rcases ha with (h|⟨o,h⟩)|h
    ·exact .inl (.inl (aP _ h))
    ·exact .inl (.inr ⟨o,aP _ h⟩)
    ·exact .inr h
   have hl:=B.length;have e8:(dO (be x y z) f).length=8:=by unfold dO;rw[R5];rfl
   rw[R5,SX,e8] at hl;refine⟨_,O,_,O,ca,a,false,true,O,⟨_,eM.of g⟩,⟨_,ha4⟩,KU (K:=K) (xs:=tP t) (ys:=[.int x,.int y,.int z]) (λj F L=>(∃ o3 I,F=[Y (.ref a),Y (.int f),Y (.ref A),Y (.ref ca),Y (.int (dU (be x y z) f t j)),o3,I])/\ah H4 L)
    ⟨⟨_,_,O⟩,ah.refl _⟩ rfl (λj F L _ ⟨_,s⟩=>⟨lB s (eM.of g),s.seq ha4⟩) ?_ ?_⟩
   ·rintro j u v T F H5 eu ev ⟨⟨o3,I,rfl⟩,s5⟩ hT;refine⟨T,_,O,eM.of ag,O,_,_,O,_,_,O,O,_,O,?_⟩;have sT:=s5.trans (ah.new (o:=.tup [u,v]) hT);rcases qD eu with ⟨rfl,rfl⟩|⟨rfl,rfl⟩|⟨rfl,rfl⟩
    ·cases(RU ev);refine⟨_,O,_,_,O,O,_,O,fm (λC=>?_) (λC=>?_)⟩
     ·have e:t.1=1:=by have:=Ti C;lia
      have r:qz (be x y z) f 0 t.1=x:=by unfold qz;rw[SO e];rfl
      have l:=gs 0 t.1;rw[r] at l;exact⟨_,O,_,_,O,O,.inl ⟨ps t 0,l⟩,⟨_,_,by rw[show dU (be x y z) f t (0+1)=dU (be x y z) f t 0*x from(show _=dU (be x y z) f t 0*qz (be x y z) f 0 t.1 from rfl).trans (VZ _ r)];rfl⟩,sT⟩
     ·have e:¬ t.1=1:=by have:=V0 (by simpa using C);lia
      have r:qz (be x y z) f 0 t.1=f-x:=by unfold qz;rw[Sx e];rfl
      have l:=gs 0 t.1;rw[r] at l;exact⟨_,O,_,O,_,_,O,O,_,_,O,O,.inl ⟨ps t 0,l⟩,⟨_,_,by rw[show dU (be x y z) f t (0+1)=dU (be x y z) f t 0*(f-x) from(show _=dU (be x y z) f t 0*qz (be x y z) f 0 t.1 from rfl).trans (VZ _ r)];rfl⟩,sT⟩
    ·cases(RU ev);refine⟨_,O,_,_,O,O,_,O,fm (λC=>?_) (λC=>?_)⟩
     ·have e:t.2.1=1:=by have:=Ti C;lia
      have r:qz (be x y z) f 1 t.2.1=y:=by unfold qz;rw[SO e];rfl
      have l:=gs 1 t.2.1;rw[r] at l;exact⟨_,O,_,_,O,O,.inl ⟨ps t 1,l⟩,⟨_,_,by rw[show dU (be x y z) f t (1+1)=dU (be x y z) f t 1*y from(show _=dU (be x y z) f t 1*qz (be x y z) f 1 t.2.1 from rfl).trans (VZ _ r)];rfl⟩,sT⟩
     ·have e:¬ t.2.1=1:=by have:=V0 (by simpa using C);lia
      have r:qz (be x y z) f 1 t.2.1=f-y:=by unfold qz;rw[Sx e];rfl
      have l:=gs 1 t.2.1;rw[r] at l;exact⟨_,O,_,O,_,_,O,O,_,_,O,O,.inl ⟨ps t 1,l⟩,⟨_,_,by rw[show dU (be x y z) f t (1+1)=dU (be x y z) f t 1*(f-y) from(show _=dU (be x y z) f t 1*qz (be x y z) f 1 t.2.1 from rfl).trans (VZ _ r)];rfl⟩,sT⟩
    ·cases(RU ev);refine⟨_,O,_,_,O,O,_,O,fm (λC=>?_) (λC=>?_)⟩
     ·have e:t.2.2=1:=by have:=Ti C;lia
      have r:qz (be x y z) f 2 t.2.2=z:=by unfold qz;rw[SO e];rfl
      have l:=gs 2 t.2.2;rw[r] at l;exact⟨_,O,_,_,O,O,.inl ⟨ps t 2,l⟩,⟨_,_,by rw[show dU (be x y z) f t (2+1)=dU (be x y z) f t 2*z from(show _=dU (be x y z) f t 2*qz (be x y z) f 2 t.2.2 from rfl).trans (VZ _ r)];rfl⟩,sT⟩
     ·have e:¬ t.2.2=1:=by have:=V0 (by simpa using C);lia
      have r:qz (be x y z) f 2 t.2.2=f-z:=by unfold qz;rw[Sx e];rfl
      have l:=gs 2 t.2.2;rw[r] at l;exact⟨_,O,_,O,_,_,O,O,_,_,O,O,.inl ⟨ps t 2,l⟩,⟨_,_,by rw[show dU (be x y z) f t (2+1)=dU (be x y z) f t 2*(f-z) from(show _=dU (be x y z) f t 2*qz (be x y z) f 2 t.2.2 from rfl).trans (VZ _ r)];rfl⟩,sT⟩
   ·rintro F H5 ⟨⟨o3,I,rfl⟩,s5⟩;have l:=s5 _ _ G;refine⟨_,O,.inl ⟨O,_,bI.of l⟩,_,O,_,O,kY,λp C=>?_⟩;have pP:p≠A:=λz=>by rw[z,l] at C;cases C
    refine⟨A,ys,.ref p,O,O,by rw[ar (U9 pP)];exact l,bR zyA,?_⟩;have r:Mv [A] H5 (upd (upd H5 p (.tup [.ref ca,.int (dU (be x y z) f t (tP t).length)])) A (.lst (ys++[.ref p]))):=λb o e n=>by
     rw[ar (λz=>n (by simp[z])),ar (aS e C)];exact e
    have li:cD H5 [A]:=λb mm=>⟨ys,by rw[RY.mp mm];exact l⟩
    refine⟨_,_,_,_,_,O,(m4.trans (Mv.of s5)).trans r,ag,?_⟩;have et':(dO (be x y z) f)[i]?=Y (t,dU (be x y z) f t 3):=by
     unfold dO;rw[Sc,et];rfl
    rw[cw et',T5];refine(aB.mv r li (uI _) (aB.same s5 B)).snoc (.tup (by rw[ar pP];exact ag) (.cons ?_ (.cons (.int _) .nil)));exact mz (r _ _ (s5 _ _ g) (λz=>by rw[RY.mp z,G] at g;cases g))
  ·rintro F H4 ⟨ys,o1,o2,o3,I,rfl,m4,G,B⟩;rw[SY (by rw[<- lx];show(dO (be x y z) f).length<=_;unfold dO;rw[R5];exact R0 _)] at B;exact⟨_,O,q A ys H4 (λb o e=>m4 b o (s0 _ _ e) (λz=>by rw[RY.mp z,J] at e;cases e)) G B⟩
theorem Gs:ao j0 j0 (af wR):=cN
def Mc:List (Str×Str):=[("four","parts_by_four"),("eight","parts_by_eight")]
inductive GB (vs:List V)(H:Hp)(Q:VK)(_:XK):Prop
 |mk (i:Str) (_:vs=[.str i]) (_:Q (.bl (Mc.lookup i).isSome) H)
theorem FI [T:cH K mg w]:bF 1 "is_way" j0 [] GB:=by
  refine T.x25.cal Gs (bb:=λ_ _ _ _ _ H vs Q E b h=>?_);obtain⟨i,rfl,q⟩:=h;refine⟨_,(cA.go (ae (aq (fB (ay (qG (K:=K) O) (by rfl) T.x2 a_ (aA (ak 0) (c_ (v:=.ty "str") O T.xp Jq rfl))) (jh (dA (BW (K:=K) (w:=w) (mg:=mg) (kvs:=[("four","parts_by_four"),("eight","parts_by_eight")]) O O) (ak 0) (uD (K:=K) (w:=w) (mg:=mg) (kvs:=[("four","parts_by_four"),("eight","parts_by_eight")]) O T.xs) O)))))),?_⟩;refine⟨_,O,_,_,_,true,O,.str i,(show kh "str" "str"=Y true by decide +kernel),_,O,aY ?_⟩;exact⟨_,O,λD a=>⟨i,D,O,O,a,q⟩⟩
theorem pM:ao uC8 uC8 (af gQ):=cN
inductive qu (vs:List V)(H:Hp)(Q:VK)(_:XK):Prop
 |mk (a C dx d:Sd) (n:Nat) (f:Kn->R3) (_:vs=[.ref a,.int n,.ref d]) (_:cR K "Grid" C) (_:H a=Y (.ins C dx [])) (_:Gr K H n f d) (_:Db n f) (_:2<=n) (_:n<=7) (_:∀ (H':Hp) (L:Sd),Mv [a] H H'->H' a=Y (.ins C dx [("knots",.int n),("table",.ref L)])->Gr K H' n f L->H L=none->Q .non H')
theorem fN [T:cH K mg w]:ky 6 "Grid" "__init__" uC8 [] qu:=by
  refine T.x26.cal pM (bb:=λ_ _ _ _ _ H vs Q E J h=>?_);obtain⟨a,C,r,d,n,f,rfl,M,ha,hg,hw,h2,h7,q⟩:=h;refine⟨_,(cA.go (ac (aZ (bu (aV (ab av tG J (aE (ak 1))))) (ae bH) aH)
   (ac (aZ (bu (aV (ab av CG J (aA (ak 2) (ak 1))))) (ae bH) aH)
   (ac (eQ (K:=K) (x:="Grid") O T.x1 (.head _) (ak 0) (ak 1))
   (ae (eQ (K:=K) (x:="Grid") O T.x1 (.tail _ (.head _)) (ak 0) (bQ Dm (by rfl) T.xn Ez (aE (ak 2))))))))),?_⟩
  have e1:Jk 2 7 (.int (n:Int))=true:=by
   show(decide ((2:Int)<=n)&&decide ((n:Int)<=7))=true;rw[R8 (show(2:Int)<=n by lia),R8 (show(n:Int)<=7 by lia)];rfl
  refine⟨_,O,.int n,.int n,O,.int _,true,by rw[e1],bN ?_⟩;refine⟨_,O,_,O,d,n,f,O,hg,hw,h7,λk v=>⟨_,O,bN ?_⟩⟩;have l:=v _ _ ha;have D:=hg.same v;refine⟨_,O,_,O,a,C,r,[],O,M,l,Z,?_⟩;obtain⟨c,G,vs,F,s⟩:=id D;have i:=yZ.len s;have na:d≠a:=λz=>by rw[z,l] at F;cases F
  have B:Mv [a] k (upd k a (.ins C r (eU "knots" (.int n) []))):=λb o e g=>by rw[ar (λz=>g (by simp[z]))];exact e
  have ne:lf c vs≠[]:=λz=>by
   have:=VZ aag z;rw[sg i,G.length_eq,lI] at this;have:0<n^3:=Nat.pow_pos zyA;rw[WZ] at *;lia
  refine⟨_,O,d,_,O,.inl (B _ _ F (by simp[na])),ne,Lz h7 G i,λL j=>?_⟩;refine⟨_,O,a,C,r,_,O,M,by rw[ar (λz=>by rw[<- z,ag] at j;cases j)];exact ag,by show 1<1000;decide,?_⟩;have N:L≠a:=λz=>by rw[z,ag] at j;cases j
  have u:Mv [a] k (upd (upd (upd k a (.ins C r (eU "knots" (.int n) []))) L (.dT (lf c vs))) a (.ins C r (eU "table" (.ref L) (eU "knots" (.int n) [])))):=λb o e g=>by
   have g:b≠a:=λz=>g (by simp[z])
   rw[ar g,ar (λz=>by rw[<- z,ar g,e] at j;cases j),ar g];exact e
  have p:∀ {c:List Kn}{y:List V}{I:Hp},Mv [a] k I->aB K k (c.map λt=>wD (f t)) y->aB K I (c.map λt=>wD (f t)) y:=λ{c y I} m h=>by
   induction c generalizing y with
   |nil=>cases h;exact .nil
   |cons t c ih=>
    cases h with
    |cons h1 h2=>
     refine .cons ?_ (ih h2);have A:ax K k (.tuple (f t).ds) _:=h1;cases A with
     |tup k1 k2=>
      cases g_ k2;exact .tup (m _ _ k1 (λz=>by rw[RY.mp z,l] at k1;cases k1)) (.cons (.int _) (.cons (.int _) (.cons (.int _) .nil)))
  refine q _ L (λb o e g=>u b o (v _ _ e) g) ag ⟨c,G,vs,?_,p u s⟩ ?_
  ·rw[ar N];exact ag
  ·cases z:H L with
   |none=>rfl
   |some o=>
    rw[ar N,v _ _ z] at j;cases j
theorem w_:ao uC1 uC1 (af kP):=cN
inductive wj (vs:List V)(H:Hp)(Q:VK)(_:XK):Prop
 |mk (v x:V) (n:Nat) (f:Kn->R3) (t:Kn) (_:vs=[v,x]) (_:i' K H n f v) (_:ax K H (KS t) x) (_:t∈aI n) (_:∀ (w:V) (H':Hp),ah H H'->ax K H' (wD (f t)) w->Q w H')
theorem wk [T:cH K mg w]:ky 5 "Grid" "knot" uC1 [] wj:=by
  refine T.x27.cal w_ (bb:=λ_ _ _ _ _ H vs Q E l h=>?_);obtain⟨v,x,n,f,t,rfl,s,g,o,q⟩:=h;obtain⟨a,C,i,d,rfl,m,j,u⟩:=id s;refine⟨_,(cA.go (ac (aZ (bu (aV (ab av vR l (aA (ak 1) (aR (K:=K) (x:="Grid") O T.x1 (.head _) (ak 0)))))) (ae bH) aH)
   (ae (aq (u9 l.u1 (aR (K:=K) (x:="Grid") O T.x1 (.tail _ (.head _)) (ak 0)) (ak 1) (λ_ _=>rfl)))))),?_⟩
  have A:=bA.mp o;have e:([(t.1:Int),(t.2.1:Int),(t.2.2:Int)].all λk=>decide (0<=k)&&decide (k<=(n:Int)-1))=true:=by
   simp only[XR,aa1,XN,Tu,U6];lia
  refine⟨_,O,_,O,a,C,i,_,_,O,m,j,O,x,[(t.1:Int),(t.2.1:Int),(t.2.2:Int)],n,O,g,O,λz c=>⟨true,by rw[e],bN ?_⟩⟩;obtain⟨b,rfl,r⟩:=qK (ax.same c g);obtain⟨w,y,p⟩:=MD (u.same c) o r;exact⟨_,O,a,C,i,_,_,O,m,c _ _ j,O,_,O,d,w,O,y,q _ _ c p⟩
theorem xN:ao uA3 uA3 (af kL):=cN
inductive wq (vs:List V)(H:Hp)(Q:VK)(_:XK):Prop
 |mk (v:V) (n:Nat) (f:Kn->R3) (_:vs=[v]) (_:i' K H n f v) (_:2<=n) (_:n<=7) (_:∀ (w:V) (H':Hp),ah H H'->ax K H' (.tuple [.int n,.int (fu n)]) w->Q w H')
theorem mN [T:cH K mg w]:ky 2 "Grid" "size" uA3 [] wq:=by
  refine T.x28.cal xN (bb:=λ_ _ _ _ _ H vs Q E i h=>?_);obtain⟨v,n,f,rfl,j,l,k,q⟩:=h;obtain⟨a,C,b,d,rfl,e,c,m⟩:=j;refine⟨_,(cA.go (ae (aq (aW (aA (aR (K:=K) (x:="Grid") O T.x1 (.head _) (ak 0)) (ab av vY i (aE (aR (K:=K) (x:="Grid") O T.x1 (.head _) (ak 0))))))))),?_⟩;refine⟨_,O,a,C,b,_,_,O,e,c,O,_,O,a,C,b,_,_,O,e,c,O,n,O,l,k,kY,λp g=>?_⟩;exact q _ _ (ah.new g) (ax.tupN g (.cons (.int _) (.cons (.int _) .nil)))
theorem iC:ao ["self","least","parts","worths","amounts"] uE0 (af jT):=cN
inductive ua (vs:List V)(H:Hp)(Q:VK)(_:XK):Prop
 |mk (v x:V) (D:Sd) (ys:List V) (n:Nat) (f:Kn->R3) (base:Kn) (ps:List Pc) (_:vs=[v,x,.ref D]) (_:i' K H n f v) (_:ax K H (KS base) x) (_:H D=Y (.lst ys)) (_:aB K H (ps.map JM) ys) (_:ps.length<=10) (_:Db n f) (_:(∀ p∈ps,aD base p.1∈aI n)) (_:(∀ p∈ps,Sm 7000 p.2)) (_:(ps.map (·.2)).sum≠0) (_:Sm 8000 (ps.map (·.2)).sum) (_:∀ (w:V) (H':Hp),ah H H'->ax K H' (GM f base ps).col w->Q w H')
theorem ul [T:cH K mg w]:ky 6 "Grid" "mixed" uE0 [] ua:=by
  refine T.x29.cal iC (bb:=λ_ _ _ _ _ H vs Q E hr h=>?_);obtain⟨v,x,D,ys,n,f,base,s,rfl,hv,hx,hD,hys,hl,hw,hk,hp,h0,hS,q⟩:=h;refine⟨_,(cA.go (ac (aw 3 iC.nd (aG ["corner","part"] ["self","least"] [0,1] 2 (bE (K:=K) O (ak 2)) (λt=>(cQ (K:=K) (n:=2) O O (az (ai 0 t) (az (ai 1 t) bv)))) aF (qH (K:=K) O av wk (hr.mono Z) (ak 2) (aE (ab av vn hr (aA (ak 3) (ak 0)))))))
   (ac (aw 4 iC.nd (aG ["corner","part"] [] [] 2 (bE (K:=K) O (ak 2)) (λt=>(cQ (K:=K) (n:=2) O O (az (ai 0 t) (az (ai 1 t) bv)))) aF (ak 1)))
   (ae (aq (bQ (gN (K:=K) O) (by rfl) T.x3 cF (aE (aG ["k"] ["worths","amounts"] [3,4] 1 (bj rfl T.x0 (aE aa)) (λt=>(ai 0 t)) aF (ab av (bO T.x9) hr (aA (ab av vW hr (aA (aG ["worth"] ["k"] [0] 1 (bE (K:=K) O (ak 1)) (λt=>(ai 0 t)) aF (am K (ak 0) (ak 1))) (ak 2))) (ay (Hu (K:=K) O O) (by rfl) T.xq JR (aE (ak 2))))))))))))),?_⟩
  obtain⟨a,C,dx,d,rfl,hC,ha,hg⟩:=id hv;obtain⟨la,rfl,hla⟩:=qK hx;have lw:∀ {r:R3},r.Wt->∀ g:R3->Int,(∀ r:R3,g r=r.a\/g r=r.b\/g r=r.c)->Sm 8000 (g r):=λ{r} h g I=>by
   refine Sm.mono (k:=20) ?_ Z;obtain⟨a0,a1,b0,b1,c0,c1⟩:=h;unfold Sm;rcases I r with e|e|e<;>(rw[e];lia)
  refine⟨_,O,D,true,O,⟨_,bI.of hD⟩,bT (es:=s.map λp=>wD (f (aD base p.1))) (show bY K H D ys true from bI.of hD) hys zyB (by simp;lia) (λi e e' u M y m s1 hu R kk S=>?_) (λws M s1 hws W hW=>?_)⟩
  ·rw[Sc] at y m;obtain⟨p,ep,rfl⟩:=So.mp y;rw[ep] at m;cases m;obtain⟨ta,ca,rfl,G,hca⟩:=JL hu;refine⟨ta,_,O,eM.of G,O,_,_,O,_,_,O,O,aY (B:=S M) ?_⟩;refine⟨_,O,a,C,dx,_,O,hC,s1 _ _ ha,O,_,O,_,O,la,ca,[(base.1:Int),(base.2.1:Int),(base.2.2:Int)],[(p.1.1:Int),(p.1.2.1:Int),(p.1.2.2:Int)],O,eM.of (s1 _ _ hla),eM.of hca,O,(Z:3<=10),λpa H2 s2 F=>?_⟩;rw[Do] at F;exact⟨.ref a,.ref pa,n,f,aD base p.1,O,hv.same (s1.trans s2),mz F,hk p (Se ep),λw J s3 hw3=>kk _ _ ⟨s2.trans s3,hw3⟩⟩
  have sW:ah M (upd M W (.lst ws)):=ah.new hW;have hW2:bY K (upd M W (.lst ws)) W ws true:=bI.of ag;have A:=aB.same sW hws;have s2:=s1.trans sW;generalize upd M W (.lst ws)=H2 at sW hW2 A s2 ⊢;refine⟨_,O,D,true,O,⟨_,bI.of (s2 _ _ hD)⟩,bT (es:=(s.map (·.2)).map Uf) (show bY K H2 D ys true from bI.of (s2 _ _ hD)) (aB.same s2 hys) zyB (by simp;lia) (λi e e' u J y m s3 hu R kk S=>?_) (λks J s3 hks L hL=>?_)⟩
  ·rw[Sc] at y m;obtain⟨p,ep,rfl⟩:=So.mp y;rw[Sc,ep] at m;cases m;obtain⟨ta,ca,rfl,G,hca⟩:=JL hu;exact⟨ta,_,O,eM.of G,O,_,_,O,_,_,O,O,aY (B:=S J) ⟨_,O,kk _ _ ⟨ah.refl _,.int _⟩⟩⟩
  have eks:=dY hks;subst eks;have sL:ah J (upd J L (.lst ((s.map (·.2)).map V.int))):=ah.new hL;have hL4:bY K (upd J L (.lst ((s.map (·.2)).map V.int))) L ((s.map (·.2)).map V.int) true:=bI.of ag;have s4:=s3.trans sL;generalize upd J L (.lst ((s.map (·.2)).map V.int))=H4 at sL hL4 s4 ⊢;have hW4:=bY.same s4 hW2;have hws4:=aB.same s4 A;refine⟨3,O,Z,Z,im (K:=K) (lo:=0) (ds:=(GM f base s).ds) (n:=3) O Z (λi e H5 m s5 R kk S=>?_) (λzs H5 s5 hzs zyQ hZ=>?_)⟩
  ·obtain⟨g,rfl,hi,hgv⟩:=QZ m;have I:∀ r:R3,g r=r.a\/g r=r.b\/g r=r.c:=λr=>by
    have:=hgv r;rcases qD this with ⟨_,e⟩|⟨_,e⟩|⟨_,e⟩
    ·injection e with e;exact .inl e
    ·injection e with e;exact .inr (.inl e)
    ·injection e with e;exact .inr (.inr e)
   refine aY (B:=S H5) ⟨_,O,W,true,O,⟨_,bY.same s5 hW4⟩,bT (es:=(s.map λp=>g (f (aD base p.1))).map Uf) (bY.same s5 hW4) (aB.same s5 hws4) zyB (by simp;lia) (λj e e' u H6 y m s6 hu R2 kk2 S2=>?_) (λns H6 s6 hns N hN=>?_)⟩
   ·rw[Sc] at y m;obtain⟨p,ep,rfl⟩:=So.mp y;rw[Sc,ep] at m;cases m;obtain⟨wa,rfl,F⟩:=lM (b:=false) hu;refine aY (B:=S2 H6) ⟨_,O,_,O,?_⟩;have:=pE (K:=K) (Q:=R2) F (hgv (f (aD base p.1))) (kk2 _ _ ⟨ah.refl _,.int _⟩);rw[show((0:Int)+(i:Int))=(i:Int) from Xs _];exact this
   ·have ens:=dY hns;subst ens;have hL7:=bY.same ((s5.trans s6).trans (ah.new (o:=.lst ((s.map λp=>g (f (aD base p.1))).map V.int)) hN)) hL4;refine⟨_,O,N,L,true,true,_,_,O,bI.of ag,hL7,zyB,by simp;lia,λz hz=>?_,λz hz=>?_,λH7 s7=>?_⟩
    ·obtain⟨p,F,rfl⟩:=Ta.mp hz;exact lw (hw _ (hk p F)) g I
    ·obtain⟨p,F,rfl⟩:=Ta.mp hz;exact(hp p F).mono Z
    ·refine⟨_,O,L,_,O,bY.same s7 hL7,_,_,O,h0,hS,?_⟩;refine h_.sh h0 λw H8 s8 hw8=>kk _ _ ⟨((s6.trans (ah.new hN)).trans s7).trans s8,hw8⟩
  ·exact⟨zyQ,zs,O,.inl ⟨bI.of ag,λl hl=>q _ _ ((((s2.trans s4).trans s5).trans (ah.new hZ)).trans (ah.new hl)) (ax.tupN (ds:=(GM f base s).ds) hl (aB.same (ah.new hZ) hzs))⟩⟩
theorem cM:ao ["self","colour","way","parts_of","steps","least","tops","below","far"] uB0 (af b_):=cN
inductive t6 (vs:List V)(H:Hp)(Q:VK)(_:XK):Prop
 |mk (v x:V) (G0:Str) (n:Nat) (f:Kn->R3) (c:Q3) (k:Nat) (_:vs=[v,x,.str G0]) (_:i' K H n f v) (_:Db n f) (_:2<=n) (_:n<=7) (_:ax K H c.col x) (_:c.Wi ((60:Int):Rat)) (_:c.Bd k) (_:k<=400) (_:Em K "parts_by_four" H) (_:(G0="four"\/G0="eight")) (_:∀ (r:Q3) (w:V) (H':Hp),ah H H'->(G0="four"->r=W4 n f c)->(G0="eight"->r=W8 n f c)->r.Bd (12*k+120)->ax K H' r.col w->Q w H')
theorem iM [T:cH K mg w] {ks:List Str}{n m:Nat}{dvs:List V} (D:jS K mg "Grid" "worth" "Grid.worth" b_ uB0 ks n m dvs):tV P w K mg base yd 7 "Grid" "worth" uB0 ks n m dvs t6:=by
  refine D.cal cM (bb:=λ_ _ _ _ _ H vs Q E M h=>?_);obtain⟨v,x,G0,n,f,c,k,rfl,hv,hw,h2,h7,hx,wi,bd,hk,tb,hway,q⟩:=h;obtain⟨a,C,dx,d,rfl,hC,ha,hg⟩:=id hv;obtain⟨ap0,ap1,ap2⟩:=jG h2 h7;have hlk:∃ fnm,Mc.lookup G0=Y fnm:=by
   rcases hway with rfl|rfl
   ·exact⟨_,O⟩
   ·exact⟨_,O⟩
  obtain⟨fnm,hlk⟩:=hlk;have dva:Dv n c.a:=⟨h2,h7,wi.a0,wi.a1⟩
  have dvb:Dv n c.b:=⟨h2,h7,wi.b0,wi.b1⟩
  have dvc:Dv n c.c:=⟨h2,h7,wi.c0,wi.c1⟩
  have sap:Sm 6 (fu n):=by unfold Sm;lia
  have bqs:∀ {y:Rat},Bq k y->Bq (k+6) (dZ n y):=λ{y} h=>eK (Tx h.ne zyA) (h.sn.mono zyA) ((h.sd.mul sap))
  refine⟨_,(cA.go (ac (aZ (bu (aV (ab av FI M (aE (ak 2))))) (ae bH) aH)
   (ac (bo (ab av c7 M (aE (ak 1))))
   (ac (aw 3 cM.nd (DO (Hw (K:=K) (w:=w) (mg:=mg) (kvs:=[("four","parts_by_four"),("eight","parts_by_eight")]) O O) (uD (K:=K) (w:=w) (mg:=mg) (kvs:=[("four","parts_by_four"),("eight","parts_by_eight")]) O T.xs) (ak 2) (λ_ _=>rfl)))
   (ac (cP 4 uB8 uA3 [0] 2 cM.nd (bE (K:=K) O (ak 1)) (λnd=>(cQ (K:=K) (n:=2) O O (az (ai 0 nd) (az (ai 1 nd) bv)))) aF (ab av (bO T.x9) M (aA (ak 0) (au aM (ak 1) (am K (fw (K:=K) O av mN (M.mono Z) (ak 2)) aa)))))
   (ac (aw 5 cM.nd (bQ (gN (K:=K) O) (by rfl) T.x3 cF (aE (aG ["step"] uA3 [0] 1 (bE (K:=K) O (ak 4)) (λnd=>(ai 0 nd)) aF (ay (k9 rfl) (by rfl) T.xf wK (aA (ab av B5 M (aE (ak 0))) (au cC (aR (K:=K) (x:="Grid") O T.x1 (.head _) (ak 1)) aa)))))))
   (ac (kq (ab av kr M (aE (ak 4))) (cQ (K:=K) (n:=2) O O (az (ai 6 cM.nd) (az (ai 7 cM.nd) bv))))
   (ac (cP 8 ["top","number"] ["below"] [7] 2 cM.nd (jF (K:=K) O O T.x8 (aA (ak 6) (ak 5))) (λnd=>(cQ (K:=K) (n:=2) O O (az (ai 0 nd) (az (ai 1 nd) bv)))) aF (au cC (ak 0) (au aM (ak 1) (ak 2))))
   (ae (aq (qH (K:=K) O av ul (M.mono Z) (ak 0) (aA (ak 5) (BO (P:=P) (w:=w) (K:=K) (mg:=mg) (base:=base) (CX:=yd) (k:=2) O O O O O av (M.mono Z) (ak 3) (aA (ak 8) (ak 7))))))))))))))),?_⟩
  refine⟨_,O,G0,O,true,by rw[hlk];rfl,bN ?_⟩;refine⟨_,O,x,c,O,hx,wi,bd.mono zyA,λH1 s1=>?_⟩;refine λD hD=>⟨_,O,G0,fnm,D,O,O,hD,hlk,λfa hfa=>?_⟩
  have hx1:=ax.same s1 hx;obtain⟨ca,xs,rfl,hca,hxs⟩:=aL (b:=false) (ds:=c.ds) hx1;have hv1:=hv.same s1;refine⟨_,O,ca,false,O,⟨_,hca⟩,bT (es:=[rD (dZ n c.a),rD (dZ n c.b),rD (dZ n c.c)]) hca hxs rfl (Z:3<=1000) (λi e e' u H2 hd he s2 hu R kk S=>?_) (λss H2 s2 hss St hSt=>?_)⟩
  ·obtain⟨y,rfl,rfl,by_⟩:∃ y:Rat,e=rD y/\e'=rD (dZ n y)/\Bq k y:=by
    rcases qD hd with ⟨rfl,rfl⟩|⟨rfl,rfl⟩|⟨rfl,rfl⟩
    ·exact⟨c.a,O,(RU he).symm,bd.a⟩
    ·exact⟨c.b,O,(RU he).symm,bd.b⟩
    ·exact⟨c.c,O,(RU he).symm,bd.c⟩
   obtain⟨wa,rfl,hwa⟩:=bt hu;refine⟨wa,_,O,eM.of hwa,O,_,_,O,_,_,O,O,aY (B:=S H2) ?_⟩;refine⟨_,O,_,O,_,O,a,C,dx,_,O,hC,(s1.trans s2) _ _ ha,O,.ref a,n,f,O,hv1.same s2,h2,h7,λw H3 s3 hw3=>?_⟩;obtain⟨wb,rfl,hwb⟩:=bt (n:=(n:Int)) (d:=fu n) hw3;refine bX hwb ⟨_,_,O,O,.inl ⟨by_.sd.mono zyA,sap.mono Z⟩,_,_,O,Tx by_.ne zyA,(by_.sd.mul sap).mono zyA,?_⟩;exact h_.sh (Tx by_.ne zyA) λw H4 s4 hw4=>kk _ _ ⟨s3.trans s4,hw4⟩
  have sS:ah H2 (upd H2 St (.lst ss)):=ah.new hSt;have hS3:ax K (upd H2 St (.lst ss)) (.list [rD (dZ n c.a),rD (dZ n c.b),rD (dZ n c.c)]) (.ref St):=ax.listN hSt hss;have s3:=(s1.trans s2).trans sS;generalize upd H2 St (.lst ss)=H3 at sS hS3 s3 ⊢;obtain⟨St',ss',eS,hSq,hss3⟩:=aL (b:=true) (ds:=[rD (dZ n c.a),rD (dZ n c.b),rD (dZ n c.c)]) hS3;cases eS;refine⟨_,O,St,true,O,⟨_,hSq⟩,bT (es:=[.int ((d_ n c.a:Nat):Int),.int ((d_ n c.b:Nat):Int),.int ((d_ n c.c:Nat):Int)]) hSq hss3 rfl (Z:3<=1000) (λi e e' u H4 hd he s4 hu R kk S=>?_) (λls H4 s4 hls L hL=>?_)⟩
  ·obtain⟨y,rfl,rfl,by_,dv⟩:∃ y:Rat,e=rD (dZ n y)/\e'=.int ((d_ n y:Nat):Int)/\Bq k y/\Dv n y:=by
    rcases qD hd with ⟨rfl,rfl⟩|⟨rfl,rfl⟩|⟨rfl,rfl⟩
    ·exact⟨c.a,O,(RU he).symm,bd.a,dva⟩
    ·exact⟨c.b,O,(RU he).symm,bd.b,dvb⟩
    ·exact⟨c.c,O,(RU he).symm,bd.c,dvc⟩
   refine aY (B:=S H4) ⟨_,O,u,_,_,O,hu,(bqs by_).mono zyA,_,O,a,C,dx,_,_,O,hC,(s3.trans s4) _ _ ha,O,_,_,O,O,_,_,O,?_⟩;have e:(if(n:Int)-2<(dZ n y).num.fdiv ((dZ n y).den:Int) then(n:Int)-2 else(dZ n y).num.fdiv ((dZ n y).den:Int))=((d_ n y:Nat):Int):=by
    rw[Io,uV dv];rfl
   rw[e];exact kk _ _ ⟨ah.refl _,.int _⟩
  have els:=dY (ns:=[((d_ n c.a:Nat):Int),((d_ n c.b:Nat):Int),((d_ n c.c:Nat):Int)]) hls;subst els;refine⟨L,_,O,.inl ⟨bI.of ag,λle hle=>?_⟩⟩;have s5:ah H3 (upd (upd H4 L (.lst ([((d_ n c.a:Nat):Int),((d_ n c.b:Nat):Int),((d_ n c.c:Nat):Int)].map V.int))) le (.tup ([((d_ n c.a:Nat):Int),((d_ n c.b:Nat):Int),((d_ n c.c:Nat):Int)].map V.int))):=(s4.trans (ah.new hL)).trans (ah.new hle);have hle5:upd (upd H4 L (.lst ([((d_ n c.a:Nat):Int),((d_ n c.b:Nat):Int),((d_ n c.c:Nat):Int)].map V.int))) le (.tup ([((d_ n c.a:Nat):Int),((d_ n c.b:Nat):Int),((d_ n c.c:Nat):Int)].map V.int)) le=Y (.tup (tP (qe n c))):=ag;generalize upd (upd H4 L (.lst ([((d_ n c.a:Nat):Int),((d_ n c.b:Nat):Int),((d_ n c.c:Nat):Int)].map V.int))) le (.tup ([((d_ n c.a:Nat):Int),((d_ n c.b:Nat):Int),((d_ n c.c:Nat):Int)].map V.int))=H5 at s5 hle5 ⊢;have brs:∀ r∈[dZ n c.a,dZ n c.b,dZ n c.c],Bq (k+6) r:=λr M=>by
   simp only[R',Sg,TK] at M;rcases M with rfl|rfl|rfl
   ·exact bqs bd.a
   ·exact bqs bd.b
   ·exact bqs bd.c
  refine⟨_,O,.ref St,true,k+6,[dZ n c.a,dZ n c.b,dZ n c.c],O,ax.same s5 hS3,brs,(Z:3<=500),zyA,by show 3*(k+6)+(k+6)+1<=7900;lia,λtv H6 s6 htv=>?_⟩;obtain⟨B0,BS⟩:=ll brs 3 (Z:3<=3);rw[SY (Z:3<=3)] at B0 BS;have dvd:∀ r∈[dZ n c.a,dZ n c.b,dZ n c.c],(r.den:Int)∣dB [dZ n c.a,dZ n c.b,dZ n c.c]:=λr M=>nZ M
  have ovs:∀ r∈[dZ n c.a,dZ n c.b,dZ n c.c],Sm (3*(k+6)+(k+6)+1) (ov (dB [dZ n c.a,dZ n c.b,dZ n c.c]) r):=λr M=>Pq brs M
  generalize dB [dZ n c.a,dZ n c.b,dZ n c.c]=B at *;obtain⟨ta,ts,rfl,hta,hts⟩:=aL (b:=false) (ds:=[.list ([dZ n c.a,dZ n c.b,dZ n c.c].map λr=>.int (ov B r)),.int B]) htv;obtain⟨t0,rfl,ht0⟩:∃ t0,ts=[t0,.int B]/\ax K H6 (.list ([dZ n c.a,dZ n c.b,dZ n c.c].map λr=>.int (ov B r))) t0:=by
   cases hts with
   |cons k1 k2=>
    cases k2 with
    |cons k3 k4=>
     cases k3;cases k4;exact⟨_,O,k1⟩
  refine⟨ta,_,O,hta,O,_,_,O,_,_,O,O,?_⟩;obtain⟨tl,tls,rfl,htl,htls⟩:=aL (b:=true) (ds:=[dZ n c.a,dZ n c.b,dZ n c.c].map λr=>.int (ov B r)) ht0;have hle6:=s6 _ _ hle5;refine⟨_,O,_,O,tl,le,true,false,O,⟨_,htl⟩,⟨_,eM.of hle6⟩,jq (fs:=[.int (ov B (dZ n c.a)-((d_ n c.a:Nat):Int)*B),.int (ov B (dZ n c.b)-((d_ n c.b:Nat):Int)*B),.int (ov B (dZ n c.c)-((d_ n c.c:Nat):Int)*B)]) htl (show bY K H6 le (tP (qe n c)) false from eM.of hle6) htls (lv [((d_ n c.a:Nat):Int),((d_ n c.b:Nat):Int),((d_ n c.c:Nat):Int)]) O O (Z:3<=1000) (λi e e' e'' u v T H7 hd he hf s7 hu hv' hT R kk S=>?_) (λfs H7 s7 hfs F hF=>?_)⟩
  ·have sle:∀ {m:Nat},m+2<=n->Sm 8000 (m:Int):=λh=>Sm.mono (k:=20) (by unfold Sm;lia) Z
   have sB:Sm 8000 B:=BS.mono zyA;have l1:=f8 dva;have l2:=f8 dvb;have l3:=f8 dvc;rcases qD hd with ⟨rfl,rfl⟩|⟨rfl,rfl⟩|⟨rfl,rfl⟩
   ·cases(RU he);cases(RU hf);cases hu;cases hv';exact⟨T,_,O,eM.of hT,O,_,_,O,_,_,O,O,aY (B:=S H7) ⟨_,O,_,O,_,O,_,_,O,O,.inl ⟨sle l1,sB⟩,_,_,O,O,kk _ _ ⟨ah.refl _,.int _⟩⟩⟩
   ·cases(RU he);cases(RU hf);cases hu;cases hv';exact⟨T,_,O,eM.of hT,O,_,_,O,_,_,O,O,aY (B:=S H7) ⟨_,O,_,O,_,O,_,_,O,O,.inl ⟨sle l2,sB⟩,_,_,O,O,kk _ _ ⟨ah.refl _,.int _⟩⟩⟩
   ·cases(RU he);cases(RU hf);cases hu;cases hv';exact⟨T,_,O,eM.of hT,O,_,_,O,_,_,O,O,aY (B:=S H7) ⟨_,O,_,O,_,O,_,_,O,O,.inl ⟨sle l3,sB⟩,_,_,O,O,kk _ _ ⟨ah.refl _,.int _⟩⟩⟩
  have efs:=dY (ns:=[ov B (dZ n c.a)-((d_ n c.a:Nat):Int)*B,ov B (dZ n c.b)-((d_ n c.b:Nat):Int)*B,ov B (dZ n c.c)-((d_ n c.c:Nat):Int)*B]) hfs;subst efs;have BR:(B:Rat)≠0:=by
   intro z;have:B=0:=by exact_mod_cast z
   lia
  have ra:((ov B (dZ n c.a)-((d_ n c.a:Nat):Int)*B:Int):Rat)=jU n c.a*(B:Rat):=by
   rw[Tt,SE,yT (dvd _ zyB)];unfold jU;grind
  have rb:((ov B (dZ n c.b)-((d_ n c.b:Nat):Int)*B:Int):Rat)=jU n c.b*(B:Rat):=by
   rw[Tt,SE,yT (dvd _ zyB)];unfold jU;grind
  have rc:((ov B (dZ n c.c)-((d_ n c.c:Nat):Int)*B:Int):Rat)=jU n c.c*(B:Rat):=by
   rw[Tt,SE,yT (dvd _ zyB)];unfold jU;grind
  have sf:∀ {y:Rat},y∈[c.a,c.b,c.c]->Dv n y->Sm (4*k+30) (ov B (dZ n y)-((d_ n y:Nat):Int)*B):=λ{y} hy dv=>by
   have h1:=ovs (dZ n y) (by simp only[R',Sg,TK] at hy ⊢;rcases hy with rfl|rfl|rfl<;>simp);have h2:Sm (3+(3*(k+6)+1)) (((d_ n y:Nat):Int)*B):=(show Sm 3 ((d_ n y:Nat):Int) by have:=f8 dv;unfold Sm;lia).mul BS;have h3:Sm (4*k+29) (ov B (dZ n y)):=h1.mono zyA;have h4:Sm (4*k+29) (((d_ n y:Nat):Int)*B):=h2.mono zyA;exact h3.sub h4
  have sfa:=sf zyB dva;have sfb:=sf zyB dvb;have sfc:=sf zyB dvc;generalize ov B (dZ n c.a)-((d_ n c.a:Nat):Int)*B=G at *;generalize ov B (dZ n c.b)-((d_ n c.b:Nat):Int)*B=s at *;generalize ov B (dZ n c.c)-((d_ n c.c:Nat):Int)*B=A at *;have s8:ah H7 (upd H7 F (.lst ([G,s,A].map V.int))):=ah.new hF;have hF8:bI K (upd H7 F (.lst ([G,s,A].map V.int))) F [.int G,.int s,.int A]:=bI.of ag;have I:ah H (upd H7 F (.lst ([G,s,A].map V.int))):=(((s3.trans s5).trans s6).trans s7).trans s8;have hle8:=(s7.trans s8) _ _ hle6;generalize upd H7 F (.lst ([G,s,A].map V.int))=H8 at s8 hF8 I hle8 ⊢;have hB8:Sm (4*k+30) B:=BS.mono zyA;have cin:∀ t:Kn,t.1<=1->t.2.1<=1->t.2.2<=1->aD (qe n c) t∈aI n:=λt u1 J u3=>by
   rw[bA];have l1:=f8 dva;have l2:=f8 dvb;have l3:=f8 dvc;show d_ n c.a+t.1<n/\d_ n c.b+t.2.1<n/\d_ n c.c+t.2.2<n;lia
  have NB:∀ j,Sm (4*k+30) (be G s A j):=λj=>by
   match j with
   |0=>exact sfa
   |1=>exact sfb
   |_+2=>exact sfc
  refine⟨_,O,a,C,dx,_,O,hC,I _ _ ha,O,_,O,?_⟩;rcases hway with rfl|rfl
  ·cases(RU hlk);refine⟨_,O,lh,sX.fnV hfa Z,_,O,_,O,F,G,s,A,B,O,hF8,tb.same I,λo D9 ys H9 ho p1 p2 s9 hD9 hys=>?_⟩;have fall:yL (pC n c) o:=by
    have mono:∀ i j,be G s A i<=be G s A j->pC n c i<=pC n c j:=λi j h=>by
     have l:∀ k,((be G s A k:Int):Rat)=pC n c k*(B:Rat):=λk=>by
      match k with
      |0=>exact ra
      |1=>exact rb
      |_+2=>exact rc
     have h':((be G s A i:Int):Rat)<=((be G s A j:Int):Rat):=by exact_mod_cast h
     rw[l,l] at h';exact TX h' (by exact_mod_cast B0)
    exact⟨ho,mono _ _ p1,mono _ _ p2⟩
   obtain⟨o1,o2,o3⟩:=DK ho;have un1:∀ {j:Nat},j<3->(un j).1<=1/\(un j).2.1<=1/\(un j).2.2<=1:=λ{j} h=>by
    match j,h with
    |0,_=>decide
    |1,_=>decide
    |2,_=>decide
   have J:∀ {p:Pc},p∈jQ (be G s A) B o.1 o.2.1 o.2.2->(p.1.1<=1/\p.1.2.1<=1/\p.1.2.2<=1)/\Sm (4*k+31) p.2:=λ{p} l=>by
    simp only[ux,R',Sg,TK] at ho;simp only[jQ,R',Sg,TK] at l;refine⟨?_,?_⟩
    ·rcases ho with rfl|rfl|rfl|rfl|rfl|rfl<;>rcases l with rfl|rfl|rfl|rfl<;>(dsimp only;decide)
    ·rcases l with rfl|rfl|rfl|rfl
     ·exact hB8.sub (NB _)
     ·exact(NB _).sub (NB _)
     ·exact(NB _).sub (NB _)
     ·exact(NB _).mono zyA
   have N:∀ p∈jQ (be G s A) B o.1 o.2.1 o.2.2,(f (aD (qe n c) p.1)).Wt:=λp l=>hw _ (cin p.1 (J l).1.1 (J l).1.2.1 (J l).1.2.2)
   refine⟨.ref a,.ref le,D9,ys,n,f,qe n c,_,O,hv.same (I.trans s9),mz (s9 _ _ hle8),hD9,hys,(Z:4<=10),hw,λp l=>cin p.1 (J l).1.1 (J l).1.2.1 (J l).1.2.2,λp l=>(J l).2.mono zyA,by rw[vi];lia,by rw[vi];exact hB8.mono zyA,λw Ha sa hwr=>?_⟩;refine q (GM f (qe n c) (jQ (be G s A) B o.1 o.2.1 o.2.2)) w Ha ((I.trans s9).trans sa) (λ_=>?_) (λz=>absurd z Z) ?_ hwr
   ·refine Q3.ext ?_ ?_ ?_<;>exact(HS BR ra rb rc).trans (JP fall)
   ·have h0:((jQ (be G s A) B o.1 o.2.1 o.2.2).map (·.2)).sum≠0:=by rw[vi];lia
    have bb:∀ {g:R3->Int},(∀ p∈jQ (be G s A) B o.1 o.2.1 o.2.2,Sm 10 (g (f (aD (qe n c) p.1))))->Bq (12*k+120) (u6 f (qe n c) g (jQ (be G s A) B o.1 o.2.1 o.2.2)):=λhg=>Ok.mono (IL (n:=n) hg (λp l=>(J l).2) h0) (by show 10+(4*k+31)+4<=12*k+120;lia)
    exact⟨bb λp l=>(qC (N p l)).1,bb λp l=>(qC (N p l)).2.1,bb λp l=>(qC (N p l)).2.2⟩
  ·cases(RU hlk);refine⟨_,O,ku,qX.fnV hfa Z,_,O,_,O,F,G,s,A,B,4*k+30,O,hF8,sfa,sfb,sfc,hB8,zyA,λD9 ys H9 s9 hD9 hys=>?_⟩;have J:∀ {p:Pc},p∈dO (be G s A) B->(p.1.1<=1/\p.1.2.1<=1/\p.1.2.2<=1)/\Sm (12*k+94) p.2:=λ{p} l=>by
    obtain⟨t,ht,rfl⟩:=Ta.mp l;have:=bA.mp ht;exact⟨by show t.1<=1/\t.2.1<=1/\t.2.2<=1;lia,(BV (Hf sfa sfb sfc hB8) t 3).mono zyA⟩
   have N:∀ p∈dO (be G s A) B,(f (aD (qe n c) p.1)).Wt:=λp l=>hw _ (cin p.1 (J l).1.1 (J l).1.2.1 (J l).1.2.2)
   have l8:(dO (be G s A) B).length=8:=by unfold dO;rw[R5];rfl
   have h0:((dO (be G s A) B).map (·.2)).sum≠0:=by
    rw[sY];exact Tx (Tx zyA zyA) zyA
   refine⟨.ref a,.ref le,D9,ys,n,f,qe n c,_,O,hv.same (I.trans s9),mz (s9 _ _ hle8),hD9,hys,by rw[l8];decide,hw,λp l=>cin p.1 (J l).1.1 (J l).1.2.1 (J l).1.2.2,λp l=>(J l).2.mono zyA,h0,by rw[sY];exact((hB8.mul hB8).mul hB8).mono zyA,λw Ha sa hwr=>?_⟩;refine q (GM f (qe n c) (dO (be G s A) B)) w Ha ((I.trans s9).trans sa) (λz=>absurd z Z) (λ_=>?_) ?_ hwr
   ·refine Q3.ext ?_ ?_ ?_<;>exact Gy BR ra rb rc
   ·have bb:∀ {g:R3->Int},(∀ p∈dO (be G s A) B,Sm 10 (g (f (aD (qe n c) p.1))))->Bq (12*k+120) (u6 f (qe n c) g (dO (be G s A) B)):=λhg=>Ok.mono (IL (n:=n) hg (λp l=>(J l).2) h0) (by rw[l8];lia)
    exact⟨bb λp l=>(qC (N p l)).1,bb λp l=>(qC (N p l)).2.1,bb λp l=>(qC (N p l)).2.2⟩
theorem cU:ao ["self","most","place","step","other"] uA3 (af iI):=cN
inductive sU (vs:List V)(H:Hp)(Q:VK)(_:XK):Prop
 |mk (v:V) (n:Nat) (f:Kn->R3) (_:vs=[v]) (_:i' K H n f v) (_:Db n f) (_:2<=n) (_:n<=7) (_:∀ (m:Int) (H':Hp),ah H H'->kD ((aI n).flatMap (qp n f)) m->Q (.int m) H')
theorem r6 [T:cH K mg w]:ky 2 "Grid" "widest" uA3 [] sU:=by
  refine T.x2b.cal cU (bb:=λ_ _ _ _ _ H vs Q E hr h=>?_);obtain⟨v,n,f,rfl,hv,wt,n2,n7,q⟩:=h;obtain⟨a,C,dx,d,rfl,hC,ha,hg⟩:=id hv;refine⟨_,(cA.go (ac (aw 1 cU.nd aa)
   (ac (JQ (de SW rfl (Hz (aR (K:=K) (x:="Grid") O T.x1 (.tail _ (.head _)) (ak 0))) (ai 2 cU.nd) (ae (de SW rfl (bE (K:=K) O (EW (K:=K) (rows:=[[1,0,0],[0,1,0],[0,0,1]]) O T.x13)) (ai 3 cU.nd) (ac (aw 4 cU.nd (GN hr.u1 (aR (K:=K) (x:="Grid") O T.x1 (.tail _ (.head _)) (ak 0)) (ab av vn hr (aA (ak 2) (ak 3))) (u9 hr.u1 (aR (K:=K) (x:="Grid") O T.x1 (.tail _ (.head _)) (ak 0)) (ak 2) (λ_ _=>rfl)) ⟨O,O,O,O⟩))
   (ae (aw 1 cU.nd (ay (DE (K:=K) O O) (by rfl) T.xe vX (aE (au xE (bV (aE (ak 1))) (aG ["one","two"] [] [] 2 (jF (K:=K) O O T.x8 (aA (u9 hr.u1 (aR (K:=K) (x:="Grid") O T.x1 (.tail _ (.head _)) (ak 0)) (ak 2) (λ_ _=>rfl)) (ak 4))) (λnd=>(cQ (K:=K) (n:=2) O O (az (ai 0 nd) (az (ai 1 nd) bv)))) aF (ay rp (by rfl) T.xh Ab (aE (au cC (ak 0) (ak 1)))))))))))))))
   (ae (aq (ak 1)))))),?_⟩
  obtain⟨g,pm,vs,hd,hvs⟩:=hg;have hlen:=yZ.len hvs;have lts:g.length<=343:=by
   rw[pm.length_eq,lI];exact WC n7 3
  refine⟨d,_,hd,_,O,a,C,dx,_,_,O,hC,ha,O,d,_,O,hd,λF=>?_⟩;have sD:ij H (upd H d (.frz F (.dT (lf g vs)))):=λb o e nd=>by
   rw[ar (λz=>by rw[z,hd] at e;cases e;exact nd _ O)];exact e
  have fz:upd H d (.frz F (.dT (lf g vs))) d=Y (.frz F (.dT (lf g vs))):=ag;have ha1:=sD _ _ ha (λ_ z=>nomatch z);have r:=aB.sameD sD hvs;have back:∀ {c:Hp},ah (upd H d (.frz F (.dT (lf g vs)))) c->ah H (upd c d (.dT (lf g vs))):=λ{c} s b o e=>by
   by_cases hb:b=d
   ·subst hb;rw[hd] at e;cases e;exact ag
   ·rw[ar hb];exact s _ _ (by rw[ar hb];exact e)
  generalize upd H d (.frz F (.dT (lf g vs)))=H1 at sD fz ha1 r back ⊢;have got:∀ {c:Hp}{b:Sd}{t:Kn},ah H1 c->c b=Y (.tup (tP t))->ud c d (.ref b) (oO (lf g vs) (c5 t)):=λ{c b t} s hb=>.inr ⟨lf g vs,c5 t,b,.inr ⟨F,s _ _ fz⟩,O,by rw[Ap];exact hb,O⟩
  refine J5 (λi A c=>(∃ (m:Int) (o1 N o3:Option V),A=[Y (.ref a),Y (.int m),o1,N,o3]/\kD ((g.take i).flatMap (qp n f)) m)/\ah H1 c)
   ⟨⟨0,_,_,_,O,kD.nil⟩,ah.refl _⟩ (λi A c _ h=>h.2 _ _ fz) ?_ ?_
  ·rintro i k x ka A H2 ek hka ⟨⟨m,o1,N,o3,rfl,M⟩,s2⟩;obtain⟨t,et,rfl,ex⟩:=IX ek;have htm:=pm.mem_iff.mp (Se et);rw[Ap] at hka;obtain⟨xv,evx,hx⟩:=zY (f:=λt=>wD (f t)) r (Se et);refine λsa hs=>?_
   obtain⟨bs,hb1,hb2⟩:=id hs;obtain⟨b0,b1,b2,rfl,k0,k1,k2⟩:∃ b0 b1 b2,bs=[b0,b1,b2]/\KT K b0 (tP (un 0))/\KT K b1 (tP (un 1))/\KT K b2 (tP (un 2)):=by
    cases hb2 with
    |cons k0 h=>
     cases h with
     |cons k1 h=>
      cases h with
      |cons k2 h=>
       cases h;exact⟨_,_,_,O,k0,k1,k2⟩
   refine⟨sa,false,O,⟨_,KT.sq hb1⟩,lU (K:=K) (b:=false) (xs:=[.ref b0,.ref b1,.ref b2]) (λj A c=>(∃ (m:Int) (N o3:Option V),A=[Y (.ref a),Y (.int m),Y (.ref ka),N,o3]/\kD ((g.take i).flatMap (qp n f)++(qp n f t).take (3*j)) m)/\ah H2 c)
    ⟨⟨m,_,_,O,by simpa using M⟩,ah.refl _⟩ (λj A c _ _=>KT.sq hb1) ?_ ?_⟩
   ·rintro j xw A H3 ew ⟨⟨m,N,o3,rfl,M⟩,s3⟩;obtain⟨b,rfl,kb,hj⟩:∃ b,xw=.ref b/\KT K b (tP (un j))/\j<3:=by
     rcases qD ew with ⟨rfl,rfl⟩|⟨rfl,rfl⟩|⟨rfl,rfl⟩
     ·exact⟨b0,O,k0,Z⟩
     ·exact⟨b1,O,k1,Z⟩
     ·exact⟨b2,O,k2,Z⟩
    have J:=s2.trans s3;have ha3:=J _ _ ha1;have D:=s3 _ _ hka;refine⟨_,O,a,C,dx,_,_,O,hC,ha3,O,d,O,.inr ⟨_,.inr ⟨F,J _ _ fz⟩⟩,_,O,_,O,ka,b,[(t.1:Int),(t.2.1:Int),(t.2.2:Int)],[((un j).1:Int),((un j).2.1:Int),((un j).2.2:Int)],O,eM.of D,KT.sq kb,O,(Z:3<=10),λp H4 s4 hp=>?_⟩;rw[Do] at hp;have I:=J.trans s4;have ha4:=s4 _ _ ha3;have G:=s4 _ _ D;have gx:ud H4 d (.ref ka) (Y xv):=by rw[<- evx];exact got I G
    refine⟨_,O,a,C,dx,_,_,O,hC,ha4,O,_,O,d,xv,O,gx,_,got I hp,?_⟩;obtain⟨ov,eov,hov⟩:∃ ov,(oO (lf g vs) (c5 (aD t (un j)))).getD xv=ov/\ax K H1 (wD (f (ED n t j))) ov:=by
     by_cases hm:aD t (un j)∈aI n
     ·obtain⟨w,e,hw⟩:=zY (f:=λt=>wD (f t)) r (pm.mem_iff.mpr hm);refine⟨w,by rw[e];rfl,?_⟩;unfold ED;rw[SO hm];exact hw
     ·refine⟨xv,by rw[Ak (λz=>hm (pm.mem_iff.mp z))];rfl,?_⟩;unfold ED;rw[Sx hm];exact hx
    rw[eov];refine⟨_,O,Ow,λp1 hp1=>?_⟩;generalize e0:upd H4 p1 _=H5;have s5:=gB hp1 e0;have gp1:=eD e0;have L:=I.trans s5;have gx5:ud H5 d (.ref ka) (Y xv):=by rw[<- evx];exact got L (s5 _ _ G)
    obtain⟨xa,rfl,hxa⟩:=lM (b:=false) (ax.same L hx);obtain⟨oa,rfl,hoa⟩:=lM (b:=false) (ax.same L hov);refine⟨_,O,a,C,dx,_,_,O,hC,s5 _ _ ha4,O,_,O,d,_,O,gx5,_,O,xa,oa,false,false,O,⟨_,hxa⟩,⟨_,hoa⟩,jq (K:=K) (fs:=(yj (f t) (f (ED n t j))).map Uf) hxa hoa (qN _) (qN _) O O (Z:3<=1000) (λl d1 d2 d3 x y T H6 h1 h2 h3 s6 hx6 hy6 hT R kk S=>?_) (λzs H6 s6 hzs zyQ hZ=>?_)⟩
    ·obtain⟨u,w,rfl,rfl,rfl⟩:∃ u w:Int,d1=.int u/\d2=.int w/\d3=.int (MU u w):=by
      rcases qD h1 with ⟨rfl,rfl⟩|⟨rfl,rfl⟩|⟨rfl,rfl⟩<;>(cases(RU h2);cases(RU h3);exact⟨_,_,rfl,rfl,rfl⟩)
     cases hx6;cases hy6;refine⟨T,_,O,eM.of hT,O,_,_,O,_,_,O,O,aY (B:=S H6) ⟨_,O,_,O,_,_,O,O,_,O,kk _ _ ⟨ah.refl _,.int _⟩⟩⟩
    ·have ez:=dY hzs;subst ez;have sZ:ah H6 (upd H6 zyQ (.lst ((yj (f t) (f (ED n t j))).map V.int))):=ah.new hZ;refine⟨p1,zyQ,_,_,O,O,(s6.trans sZ) _ _ gp1,ag,(Z:1+3<=Sk),λpc hpc=>⟨pc,m::yj (f t) (f (ED n t j)),O,bI.of ag,zyB,λm' mem le=>⟨⟨m',_,_,O,?_⟩,((((s3.trans s4).trans s5).trans s6).trans sZ).trans (ah.new hpc)⟩⟩⟩;have e3:(qp n f t).take (3*(j+1))=(qp n f t).take (3*j)++yj (f t) (f (ED n t j)):=by
      match j,hj with
      |0,_=>rfl
      |1,_=>rfl
      |2,_=>rfl
     rw[e3,<- U5];exact M.app le mem
   ·rintro A H3 ⟨⟨m,N,o3,rfl,M⟩,s3⟩;refine⟨⟨m,_,_,_,O,?_⟩,s2.trans s3⟩;have D:(qp n f t).take (3*3)=qp n f t:=O;rw[cw et,Wy,List.flatMap_cons,List.flatMap_nil,X0,<- D];exact M
  ·rintro A H2 ⟨⟨m,o1,N,o3,rfl,M⟩,s2⟩;refine⟨F,s2 _ _ fz,_,O,q m _ (back s2) (M.perm λx=>?_)⟩;rw[SY (by rw[sg hlen];exact R0 _)];simp only[VM];constructor
   ·rintro⟨t,D,h⟩;exact⟨t,pm.mem_iff.mp D,h⟩
   ·rintro⟨t,D,h⟩;exact⟨t,pm.mem_iff.mpr D,h⟩
theorem pT:ao uB9 uB9 (af cI):=cN
inductive pV (vs:List V)(H:Hp)(Q:VK)(_:XK):Prop
 |mk (a C dx:Sd) (x y:V) (e:En) (_:vs=[.ref a,x,y]) (_:cR K "Ends" C) (_:H a=Y (.ins C dx [])) (_:ax K H (cB false e.w) x) (_:ax K H (cB false e.b) y) (_:e.In) (_:∀ H',Mv [a] H H'->eG K H' e (.ref a)->Q .non H')
theorem fF [T:cH K mg w]:tV P w K mg base yd 5 "Ends" "__init__" uB9 uD3 1 2 [] pV:=by
  refine T.x3t.cal pT (bb:=λ_ _ _ _ _ H vs Q E hr h=>?_);obtain⟨a,C,I,x,y,e,rfl,hC,hH,N,hy,ie,q⟩:=h;refine⟨_,(cA.go (ac (aZ (WW.pt (fU (bu (aV (ab av nF hr (aE (ak 1))))) (eI (bu (aV (ab av nF hr (aE (ak 2)))))))) (ae bH) aH)
   (ac (aZ (bu (aV (ay (o_ (K:=K) O O) (by rfl) T.xb kG (aE (aG ["high","low"] [] [] 2 (jF (K:=K) O O T.x8 (aA (ak 1) (ak 2))) (λnd=>(cQ (K:=K) (n:=2) O O (az (ai 0 nd) (az (ai 1 nd) bv)))) aF (dA BK (ak 0) (ak 1) (bn _))))))) (ae bH) aH)
   (ac (eQ (K:=K) (x:="Ends") O T.xa (.head _) (ak 0) (ak 1))
   (ae (eQ (K:=K) (x:="Ends") O T.xa (.tail _ (.head _)) (ak 0) (ak 2))))))),?_⟩
  have ok:∀ {i j k:Int},0<=i->i<=1000->0<=j->j<=1000->0<=k->k<=1000->([i,j,k].all λz=>decide (0<=z)&&decide (z<=1000))=true:=λ{i j k} h1 h2 h3 h4 h5 h6=>by
   simp[h1,h2,h3,h4,h5,h6]
  have⟨a0,a1,a2,b0,b1,b2,c0,c1,c2⟩:=ie;refine⟨_,O,x,[e.w.a,e.w.b,e.w.c],O,N,O,λH1 s1=>⟨_,O,?_⟩⟩;rw[ok zyA zyA zyA zyA zyA zyA];refine bN ?_;refine⟨_,O,y,[e.b.a,e.b.b,e.b.c],O,ax.same s1 hy,O,λH2 s2=>⟨_,O,?_⟩⟩;rw[ok zyA zyA zyA zyA zyA zyA];refine bN ?_;have g:=s1.trans s2;obtain⟨p,xs,rfl,hp,hds⟩:=aL (b:=false) (ax.same g N);obtain⟨r,ys,rfl,s,hes⟩:=aL (b:=false) (ax.same g hy);refine⟨_,O,_,O,p,r,false,false,O,⟨_,hp⟩,⟨_,s⟩,jq (fs:=[.bool true,.bool true,.bool true]) hp s hds hes rfl rfl (Z:3<=1000) (λi d e' f x y T t hd he hf s3 hx3 J hT R kk S=>?_) (λzs t s3 L D hD=>?_)⟩
  ·obtain⟨n,rfl,l⟩:=R3.at (r:=e.w) hd;obtain⟨m,rfl,v⟩:=R3.at (r:=e.b) he;have hf:f=.bool true:=by rcases qD hf with ⟨_,rfl⟩|⟨_,rfl⟩|⟨_,rfl⟩<;>rfl
   subst hf;cases hx3;cases J;refine⟨T,_,O,eM.of hT,O,_,_,O,_,_,O,O,?_⟩;refine aY (B:=S t) ⟨_,O,_,O,_,_,O,O,?_⟩
   (try dsimp only)
   rw[R8 (show m<n by lia)];exact kk _ _ ⟨ah.refl _,.bl _⟩
  ·have ez:=gJ (bs:=[true,true,true]) L;subst ez;refine⟨D,[true,true,true],O,bI.of ag,_,O,bN ?_⟩;have l:ah H (upd t D (.lst ([true,true,true].map V.bl))):=(g.trans s3).trans (ah.new hD);generalize upd t D (.lst ([true,true,true].map V.bl))=G at l ⊢;have A:=ax.same l N;have F:=ax.same l hy;have v:=l _ _ hH;refine⟨_,O,_,O,a,C,I,[],O,hC,v,Z,?_⟩;refine⟨_,O,_,O,a,C,I,_,O,hC,ag,(by show 1<1000;decide),?_⟩;rw[KA];have mv:∀ {o:HO},Mv [a] G (upd G a o):=λb u z M=>by rw[ar (λw=>M (by simp[w]))];exact z
   refine q _ (λb u z M=>mv b u (l _ _ z) M) ⟨a,C,I,_,_,O,hC,ag,ax.sameI (gR.put v) A,ax.sameI (gR.put v) F⟩
theorem IS:ao uC2 uC2 (af A7):=cN
inductive Hi (vs:List V)(H:Hp)(Q:VK)(_:XK):Prop
 |mk (v:V) (e:En) (_:vs=[v]) (_:qx K H e v) (_:∀ L H',ah H H'->Af K H' e L->Q (.ref L) H')
theorem q9 [T:cH K mg w]:bF 1 "spans" uC2 [] Hi:=by
  refine T.x2c.cal IS (bb:=λ_ _ _ _ _ H vs Q E hr h=>?_);obtain⟨v,e,rfl,G,q⟩:=h;obtain⟨a,C,z,x,y,rfl,B,A,⟨p,rfl,N⟩,⟨r,rfl,n⟩⟩:=G;refine⟨_,(cA.go (ae (aq (tY (K:=K) O O (by rfl) T.xc (by rfl) T.x8 (aA (aR (K:=K) (x:="Ends") O T.xa (.tail _ (.head _)) (ak 0)) (aR (K:=K) (x:="Ends") O T.xa (.head _) (ak 0))))))),?_⟩;refine⟨_,O,a,C,z,_,_,O,B,A,O,_,O,a,C,z,_,_,O,B,A,O,?_⟩;refine⟨r,p,false,false,_,_,_,_,_,_,O,n,N,λL d f i J I h2 hL t m u M F D=>?_⟩;have j:upd H d (.tup [V.int e.b.a,.int e.w.a]) f=none:=by rw[ar t.symm];exact I
  have l:upd (upd H d (.tup [V.int e.b.a,.int e.w.a])) f (.tup [V.int e.b.b,.int e.w.b]) i=none:=by rw[ar u.symm,ar m.symm];exact h2
  have s:upd (upd (upd H d (.tup [V.int e.b.a,.int e.w.a])) f (.tup [V.int e.b.b,.int e.w.b])) i (.tup [V.int e.b.c,.int e.w.c]) L=none:=by rw[ar D.symm,ar F.symm,ar M.symm];exact hL
  have s1:ah H (upd H d (.tup [V.int e.b.a,.int e.w.a])):=ah.new J;have s2:=ah.new (o:=.tup [V.int e.b.b,.int e.w.b]) j;have k:=ah.new (o:=.tup [V.int e.b.c,.int e.w.c]) l;have g:=ah.new (o:=.lst [.ref d,.ref f,.ref i]) s;exact q L _ (((s1.trans s2).trans k).trans g) ⟨d,f,i,ag,g _ _ (k _ _ (s2 _ _ ag)),g _ _ (k _ _ ag),g _ _ ag⟩
theorem sK:ao uA7 uA7 (af iP):=cN
inductive rE (vs:List V)(H:Hp)(Q:VK)(_:XK):Prop
 |mk (y z:V) (b1 w1 b2 w2:Int) (_:vs=[y,z]) (_:ax K H (jV b1 w1) y) (_:ax K H (jV b2 w2) z) (_:(0<=b1/\b1<w1/\w1<=1000)) (_:(0<=b2/\b2<w2/\w2<=1000)) (_:h_ K H ((w2:Rat)/(w1:Rat)) Q)
theorem lC [T:cH K mg w]:bF 3 "white_measure" uA7 [] rE:=by
  refine T.x2d.cal sK (bb:=λ_ _ _ _ _ H vs Q E d h=>?_);obtain⟨y,z,m,i,n,s,rfl,g,e,⟨p,j,o⟩,⟨r,l,q⟩,k⟩:=h;refine⟨_,(cA.go (ae (aq (ab av (bO T.x9) d (aA (am K (ak 1) aa) (am K (ak 0) aa)))))),?_⟩;obtain⟨a,rfl,c⟩:=bt g;obtain⟨b,rfl,f⟩:=bt e;exact⟨_,O,bX f ⟨_,O,bX c ⟨_,_,O,zyA,(qT zyA zyA).mono Z,h_.sh zyA k⟩⟩⟩
theorem oX:ao uA7 uA7 (af fV):=cN
inductive oI (vs:List V)(H:Hp)(Q:VK)(_:XK):Prop
 |mk (y z:V) (b1 w1 b2 w2:Int) (_:vs=[y,z]) (_:ax K H (jV b1 w1) y) (_:ax K H (jV b2 w2) z) (_:(0<=b1/\b1<w1/\w1<=1000)) (_:(0<=b2/\b2<w2/\w2<=1000)) (_:h_ K H (((w2-b2:Int):Rat)/((w1-b1:Int):Rat)) Q)
theorem iV [T:cH K mg w]:bF 3 "squeezed_measure" uA7 [] oI:=by
  refine T.x2e.cal oX (bb:=λ_ _ _ _ _ H vs Q E e h=>?_);obtain⟨y,z,m,i,n,s,rfl,g,f,⟨p,j,o⟩,⟨r,l,q⟩,k⟩:=h;refine⟨_,(cA.go (ae (aq (ab av (bO T.x9) e (aA (au cC (am K (ak 1) aa) (am K (ak 1) aa)) (au cC (am K (ak 0) aa) (am K (ak 0) aa))))))),?_⟩;obtain⟨a,rfl,c⟩:=bt g;obtain⟨b,rfl,d⟩:=bt f;refine⟨_,O,bX d ⟨_,O,cJ d ⟨_,_,O,O,?_⟩⟩⟩;exact⟨_,O,bX c ⟨_,O,cJ c ⟨_,_,O,O,_,_,O,zyA,(qT zyA zyA).mono Z,h_.sh zyA k⟩⟩⟩
theorem B2:ao oR oR (af qh):=cN
def B4:Sp:=HV K "same"
theorem CV [T:cH K mg w]:bF 1 "led_same" oR [] B4:=by
 refine T.x2f.cal B2 (λvs H Q E h=>?_) (λf g A a s H vs Q E l h=>?_)
 ·obtain⟨x,y,z,q,d,c,e,i,rfl,_⟩:=h;rfl
 ·obtain⟨x,y,z,q,d,c,e,i,rfl,b,bq,o,m,n,j,k⟩:=h;refine⟨_,(cA.go (ae (aq (ak 0)))),?_⟩;rw[IW] at k;exact⟨_,O,k x H (ah.refl _) b⟩
theorem ui:ao oR oR (af jI):=cN
def uj:Sp:=HV K "white"
theorem t_ [T:cH K mg w]:bF 5 "led_by_white" oR [] uj:=by
 refine T.x2g.cal ui (λvs H Q E h=>?_) (λf I A b s H vs Q E e h=>?_)
 ·obtain⟨x,y,z,q,g,a,i,d,rfl,_⟩:=h;rfl
 ·obtain⟨x,y,z,q,g,a,i,d,rfl,n,bq,F,B,⟨C,p,j⟩,⟨G,r,l⟩,k⟩:=h;refine⟨_,(cA.go (ae (aq (ab av dN e (aA (ak 0) (ab av lC e (aA (ak 1) (ak 2)))))))),?_⟩;rw[Fz] at k;refine⟨_,O,_,O,_,O,y,z,g,a,i,d,O,F,B,⟨C,p,j⟩,⟨G,r,l⟩,λv J m D=>?_⟩;have o:Bq 10 ((d:Rat)/(a:Rat)):=eK zyA (qT zyA l) (qT zyA j);exact⟨_,_,_,_,_,_,O,ax.same m n,D,bq.mono Z,o.mono Z,h_.mul λu t s2 c=>k u t (m.trans s2) c⟩
theorem mr:ao ["number","here","there","above"] oR (af jH):=cN
def ub:Sp:=HV K "squeezed"
theorem uf [T:cH K mg w]:bF 5 "led_squeezed" oR [] ub:=by
 refine T.x2h.cal mr (λvs H Q E h=>?_) (λf cdv A o s H vs Q E d h=>?_)
 ·obtain⟨x,y,z,q,e,l,j,C,rfl,_⟩:=h;rfl
 ·obtain⟨x,y,z,q,e,l,j,C,rfl,hx,bq,N,J,⟨i1,i2,i3⟩,⟨j1,j2,j3⟩,k⟩:=h;refine⟨_,(cA.go (ac (aw 3 mr.nd (ab av qF d (aA (ak 0) (ab av (bO T.xd) d (aE (ww vV (am K (ak 1) aa)))))))
   (ae (aq (ab av qF d (aA (ab av (bO T.xd) d (aE (am K (ak 2) aa))) (ab av dN d (aA (ak 3) (ab av iV d (aA (ak 1) (ak 2))))))))))),?_⟩
  rw[Aq] at k;obtain⟨a,rfl,ha⟩:=bt N;obtain⟨b,rfl,hb⟩:=bt J;have one:∀ {n:Int}{Q:VK}{H:Hp},h_ K H (n:Rat) Q->Sh K H n 1 Q:=λ{n Q H} h=>h_.sh Z (by rw[wL];exact h)
  have g:Sm 8000 (1:Int):=by unfold Sm;decide
  refine⟨_,O,_,O,cJ ha ⟨_,O,_,_,O,Z,g,one λv1 H1 s1 u=>?_⟩⟩;have L:Bq 10 ((-e:Int):Rat):=kQ (qT zyA zyA) Z;refine⟨_,_,_,_,_,_,O,ax.same s1 hx,u,bq.mono Z,L.mono Z,h_.add λv2 H2 s2 B=>?_⟩;have i:=s1.trans s2;have F:Bq 611 (q+((-e:Int):Rat)):=Bq.add bq L;refine⟨_,O,cJ (i _ _ hb) ⟨_,_,O,Z,g,one λv4 H4 I D=>?_⟩⟩;have c:=i.trans I;refine⟨_,O,_,O,_,O,_,_,e,l,j,C,O,ax.same c N,ax.same c J,⟨i1,i2,i3⟩,⟨j1,j2,j3⟩,λv3 H3 p m=>?_⟩;have G:Bq 10 (((C-j:Int):Rat)/((l-e:Int):Rat)):=eK zyA (qT zyA zyA) (qT zyA zyA);refine⟨_,_,_,_,_,_,O,ax.same (I.trans p) B,m,F.mono Z,G.mono Z,h_.mul λv5 H5 M r=>?_⟩;have v:Bq 10 (j:Rat):=kQ (qT zyA zyA) Z;exact⟨_,_,_,_,_,_,O,ax.same (p.trans M) D,r,v.mono Z,(F.mul G).mono Z,h_.add λv6 H6 s6 t=>k v6 H6 (((c.trans p).trans M).trans s6) t⟩
theorem mF:ao ["number","here","there","black","white"] oR (af kF):=cN
def vx:Sp:=HV K "clipped"
theorem xF [T:cH K mg w]:bF 3 "led_clipped" oR [] vx:=by
 refine T.x2i.cal mF (λvs H Q E h=>?_) (λf F A o s H vs Q E m h=>?_)
 ·obtain⟨x,y,z,q,v,u,C,G,rfl,_⟩:=h;rfl
 ·obtain⟨x,y,z,q,v,u,C,G,rfl,t,bq,hy,B,⟨i1,I,i3⟩,⟨j1,J,j3⟩,k⟩:=h;refine⟨_,(cA.go (ac (n_ (i:=3) (j:=4) O mF.nd rfl rfl Z O O (aA (ab av (bO T.xd) m (aE (am K (ak 2) aa))) (ab av (bO T.xd) m (aE (am K (ak 2) aa)))) O)
   (ac (aZ (aV (ab av qw m (aA (ak 0) (ak 3)))) (ae (aq (ak 3))) aH)
   (ac (aZ (aV (ab av qw m (aA (ak 4) (ak 0)))) (ae (aq (ak 4))) aH)
   (ae (aq (ak 0))))))),?_⟩
  rw[BZ] at k;obtain⟨b,rfl,p⟩:=bt B;have one:∀ {n:Int}{Q:VK}{H:Hp},h_ K H (n:Rat) Q->Sh K H n 1 Q:=λ{n Q H} h=>h_.sh Z (by rw[wL];exact h)
  have d:Sm 8000 (1:Int):=by unfold Sm;decide
  have r:∀ {n:Int},-1000<=n->n<=1000->Bq 3900 (n:Rat):=λD h=>(kQ (qT D h) Z).mono Z
  refine⟨_,O,cJ p ⟨_,_,O,Z,d,one λv1 M g e=>?_⟩⟩;refine⟨_,O,bX (g _ _ p) ⟨_,_,O,Z,d,one λN L s2 l=>⟨_,_,O,?_⟩⟩⟩;have a:=ax.same (g.trans s2) t;refine⟨_,O,_,O,_,_,_,_,O,a,ax.same s2 e,bq.mono Z,r zyA zyA,_,O,?_⟩;refine fm (λc=>?_) (λc=>?_)
  ·rw[SO (Ti c)] at k;exact⟨_,O,k _ _ (g.trans s2) (ax.same s2 e)⟩
  ·rw[Sx (λz=>c (R8 z))] at k;refine⟨_,O,_,O,_,_,_,_,O,l,a,r zyA zyA,bq.mono Z,_,O,?_⟩;refine fm (λc=>?_) (λc=>?_)
   ·rw[SO (Ti c)] at k;exact⟨_,O,k _ _ (g.trans s2) l⟩
   ·rw[Sx (λz=>c (R8 z))] at k;exact⟨_,O,k _ _ (g.trans s2) a⟩
theorem AL:ao j0 j0 (af nh):=cN
inductive Ax (vs:List V)(H:Hp)(Q:VK)(_:XK):Prop
 |mk (i:Str) (_:vs=[.str i]) (_:Q (.bl (iE.lookup i).isSome) H)
theorem Al [T:cH K mg w]:bF 1 "is_intent" j0 [] Ax:=by
  refine T.x2j.cal AL (bb:=λ_ _ _ _ _ H vs Q E b h=>?_);obtain⟨i,rfl,q⟩:=h;refine⟨_,(cA.go (ae (aq (fB (ay (qG (K:=K) O) (by rfl) T.x2 a_ (aA (ak 0) (c_ (v:=.ty "str") O T.xp Jq rfl))) (jh (dA (BW (K:=K) (w:=w) (mg:=mg) (kvs:=[("same","led_same"),("white","led_by_white"),("squeezed","led_squeezed"),("clipped","led_clipped")]) O O) (ak 0) (uD (K:=K) (w:=w) (mg:=mg) (kvs:=[("same","led_same"),("white","led_by_white"),("squeezed","led_squeezed"),("clipped","led_clipped")]) O T.xr) O)))))),?_⟩;refine⟨_,O,_,_,_,true,O,.str i,(show kh "str" "str"=Y true by decide +kernel),_,O,aY ?_⟩;exact⟨_,O,λD a=>⟨i,D,O,O,a,q⟩⟩
theorem oQ:ao j0 j0 (af fG):=cN
inductive oS (vs:List V)(H:Hp)(Q:VK)(_:XK):Prop
 |mk (i n:Str) (_:vs=[.str i]) (_:iE.lookup i=Y n) (_:Q .non H)
theorem iU [T:cH K mg w]:bF 2 "refuse_no_intent" j0 [] oS:=by
  refine T.x2k.cal oQ (bb:=λ_ _ _ _ _ H vs Q E b h=>?_);obtain⟨i,n,rfl,a,q⟩:=h;refine⟨_,(cA.go (ae (aZ (bu (aV (ab av Al b (aE (ak 0))))) (ae bH) aH))),?_⟩;refine⟨_,O,i,O,_,O,?_⟩;rw[a];exact bN q
theorem rA:ao j0 j0 (af hU):=cN
inductive re (vs:List V)(H:Hp)(Q:VK)(_:XK):Prop
 |mk (v:V) (e:En) (_:vs=[v]) (_:qx K H e v) (_:Q .non H)
theorem gO [T:cH K mg w]:bF 1 "refuse_no_ends" j0 [] re:=by
  refine T.x2l.cal rA (bb:=λ_ _ _ _ _ H vs Q E i h=>?_);obtain⟨v,e,rfl,f,q⟩:=h;obtain⟨a,C,c,x,y,rfl,b,d,_⟩:=f;refine⟨_,(cA.go (ae (aZ (bu (aV (ay (E6 (K:=K) (x:="Ends") O T.xa T.xm) (by rfl) T.x2 a_ (aA (ak 0) (ot (K:=K) (x:="Ends") O O (jo T.xa)))))) (ae bH) aH))),?_⟩;refine⟨_,O,λD g=>?_⟩;cases bK g b;exact⟨_,_,O,b,.inl ⟨a,c,_,O,d,_,O,bN q⟩⟩
theorem rq:ao ["worth","intent","here","there","lead"] uB6 (af f6):=cN
inductive Bb (vs:List V)(H:Hp)(Q:VK)(_:XK):Prop
 |mk (x u t:V) (i n:Str) (c:Q3) (e1 e2:En) (_:vs=[x,.str i,u,t]) (_:ax K H c.col x) (_:c.Bd 600) (_:iE.lookup i=Y n) (_:qx K H e1 u) (_:qx K H e2 t) (_:e1.In) (_:e2.In) (_:∀ v H',ah H H'->ax K H' (NG i e1 e2 c).col v->Q v H')
theorem AD [T:cH K mg w]:Du P w K mg base yd 6 "led_worth" uB6 uA7 2 2 [] Bb:=by
  refine T.x3u.cal rq (bb:=λ_ _ _ _ _ H vs Q E r h=>?_);obtain⟨x,u,t,i,n,c,G,F,rfl,s,bc,N,h1,h2,o,p,q⟩:=h;refine⟨_,(cA.go (ac (bo (ab av i7 r (aE (ak 0))))
   (ac (bo (ab av iU r (aE (ak 1))))
   (ac (bo (ab av gO r (aE (ak 2))))
   (ac (bo (ab av gO r (aE (ak 3))))
   (ac (aw 4 rq.nd (DO (Hw (K:=K) (w:=w) (mg:=mg) (kvs:=[("same","led_same"),("white","led_by_white"),("squeezed","led_squeezed"),("clipped","led_clipped")]) O O) (uD (K:=K) (w:=w) (mg:=mg) (kvs:=[("same","led_same"),("white","led_by_white"),("squeezed","led_squeezed"),("clipped","led_clipped")]) O T.xr) (ak 1) (λ_ _=>rfl)))
   (ae (aq (bQ (gN (K:=K) O) (by rfl) T.x3 cF (aE (aG ["number","near","far"] ["lead"] [4] 3 (KB (K:=K) O O T.x8 (aj (ak 0) (aj (ab av q9 r (aE (ak 2))) (aj (ab av q9 r (aE (ak 3))) aN)))) (λJ=>(Dl (K:=K) (n:=3) O O (az (ai 0 J) (az (ai 1 J) (az (ai 2 J) bv))))) aF (BO (P:=P) (w:=w) (K:=K) (mg:=mg) (base:=base) (CX:=yd) (k:=5) O O O O O av (r.mono Z) (ak 3) (aj (ak 0) (aj (ak 1) (aj (ak 2) aN))))))))))))))),?_⟩
  refine⟨_,O,x,c.a,c.b,c.c,O,s,λH1 v=>?_⟩;refine⟨_,O,i,n,O,N,?_⟩;refine⟨_,O,u,G,O,h1.same v,?_⟩;refine⟨_,O,t,F,O,h2.same v,?_⟩;refine λD hD=>⟨_,O,i,n,D,O,O,hD,N,λf I=>?_⟩
  have fn:∀ {k:Nat},5<=k->Rb P w K mg base yd k (.ref f) (HV K i):=λ{k} hk=>by
   rcases nU N with ⟨rfl,rfl⟩|⟨rfl,rfl⟩|⟨rfl,rfl⟩|⟨rfl,rfl⟩
   ·exact CV.fnV I zyA
   ·exact t_.fnV I zyA
   ·exact uf.fnV I zyA
   ·exact xF.fnV I zyA
  refine⟨_,O,_,O,u,G,O,h1.same v,λL H2 s2 hL=>?_⟩;refine⟨_,O,t,F,O,h2.same (v.trans s2),λL2 H3 s3 hL2=>?_⟩;have hx3:=ax.same ((v.trans s2).trans s3) s;obtain⟨a,xs,rfl,ha,hds⟩:=aL (b:=false) hx3;obtain⟨x0,x1,x2,rfl,d0,d1,d2⟩:=rK hds;obtain⟨t0,t1,t2,g,g0,g1,g2⟩:=hL.same s3;obtain⟨u0,u1,u2,k,k0,k1,k2⟩:=hL2;refine⟨a,L,L2,O,⟨_,ha⟩,⟨_,bI.of g⟩,⟨_,bI.of k⟩,I_ (es:=(NG i G F c).ds) ha (bI.of g) (bI.of k) O (λj e x y z T H4 he s hy hz m hT R M S=>?_) (λvs H4 m hvs D2 A=>?_)⟩
  ·refine⟨T,_,O,.inr (eM.of hT),O,_,_,O,_,_,O,_,_,O,O,?_⟩;refine aY (B:=S H4) ⟨_,O,_,fn Z,_,O,_,O,_,O,?_⟩;rcases qD he with ⟨rfl,rfl⟩|⟨rfl,rfl⟩|⟨rfl,rfl⟩
   ·cases s;cases hy;cases hz;exact⟨_,_,_,c.a,_,_,_,_,O,ax.same m d0,bc.a,fb (m _ _ g0),fb (m _ _ k0),⟨o.a0,o.a1,o.a2⟩,⟨p.a0,p.a1,p.a2⟩,λv5 H5 C d=>M _ _ ⟨C,d⟩⟩
   ·cases s;cases hy;cases hz;exact⟨_,_,_,c.b,_,_,_,_,O,ax.same m d1,bc.b,fb (m _ _ g1),fb (m _ _ k1),⟨o.b0,o.b1,o.b2⟩,⟨p.b0,p.b1,p.b2⟩,λv5 H5 C d=>M _ _ ⟨C,d⟩⟩
   ·cases s;cases hy;cases hz;exact⟨_,_,_,c.c,_,_,_,_,O,ax.same m d2,bc.c,fb (m _ _ g2),fb (m _ _ k2),⟨o.c0,o.c1,o.c2⟩,⟨p.c0,p.c1,p.c2⟩,λv5 H5 C d=>M _ _ ⟨C,d⟩⟩
  ·refine⟨D2,vs,O,.inl ⟨bI.of ag,λl d=>?_⟩⟩;exact q _ _ ((((v.trans s2).trans s3).trans m).trans ((ah.new A).trans (ah.new d))) (ax.tupN (ds:=(NG i G F c).ds) d (aB.same (ah.new A) hvs))
theorem Ck:ao j0 j0 (af p7):=cN
inductive Cz (vs:List V)(H:Hp)(Q:VK)(_:XK):Prop
 |mk (x:V) (p:Pt) (_:vs=[x]) (_:ax K H (tJ p) x) (_:p.In) (_:∀ H',ah H H'->Q (.bl true) H')
theorem Cy [T:cH K mg w]:bF 4 "is_point" j0 [] Cz:=by
  refine T.x2m.cal Ck (bb:=λ_ _ _ _ _ H vs Q E c h=>?_);obtain⟨x,p,rfl,b,a,q⟩:=h;refine⟨_,(cA.go (ae (aq (ab av fH c (aj (ak 0) (aj aa (aj aa (aj (cO rfl T.xw) aN)))))))),?_⟩;refine⟨_,O,x,[p.1,p.2],2,0,1000,O,b,O,(Z:2<=1000),λd s=>?_⟩;have e:([p.1,p.2].all λk=>decide (0<=k)&&decide (k<=1000))=true:=by
   show((decide (0<=p.1)&&decide (p.1<=1000))&&((decide (0<=p.2)&&decide (p.2<=1000))&&true))=true;rw[R8 a.a1,R8 a.a2,R8 a.b1,R8 a.b2];rfl
  rw[e];exact q _ s
theorem AS:ao uD4 uD4 (af mH):=cN
inductive AC (vs:List V)(H:Hp)(Q:VK)(_:XK):Prop
 |mk (x y:V) (p q:Pt) (_:vs=[x,y]) (_:ax K H (tJ p) x) (_:ax K H (tJ q) y) (_:Q (.bl (decide (p.1<q.1)&&decide (p.2<=q.2))) H)
theorem AB [T:cH K mg w]:bF 1 "is_onward" uD4 [] AC:=by
  refine T.x2n.cal AS (bb:=λ_ _ _ _ _ H vs Q E g h=>?_);obtain⟨x,y,p,r,rfl,e,f,q⟩:=h;obtain⟨a,rfl,c⟩:=bt e;obtain⟨b,rfl,d⟩:=bt f;refine⟨_,(cA.go (ae (aq (fB (dA y9 (am K (ak 0) aa) (am K (ak 1) aa) (bn _)) (jh (dA tE (am K (ak 0) aa) (am K (ak 1) aa) (bn _))))))),?_⟩;refine⟨_,O,cJ c ⟨_,O,cJ d ⟨_,_,O,O,decide (p.1<r.1),O,?_⟩⟩⟩;cases hc:decide (p.1<r.1) with
  |true=>
   rw[hc,YZ] at q;exact aY ⟨_,O,bX c ⟨_,O,bX d ⟨_,_,O,O,q⟩⟩⟩
  |false=>
   rw[hc,Xo] at q;exact bN q
theorem AM:ao j0 j0 (af nK):=cN
inductive zK (vs:List V)(H:Hp)(Q:VK)(_:XK):Prop
 |mk (x:V) (ps:List Pt) (_:vs=[x]) (_:ax K H (KQ ps) x) (_:vN ps) (_:∀ H',ah H H'->Q (.bl true) H')
theorem Bm [T:cH K mg w]:bF 5 "is_points" j0 [] zK:=by
  refine T.x2o.cal AM (bb:=λ_ _ _ _ _ H vs Q E hr h=>?_);obtain⟨x,a,rfl,hx,C,q⟩:=h;refine⟨_,(cA.go (ac (aZ (WW.pt (fU (bu (aV (ay (qG (K:=K) O) (by rfl) T.x2 a_ (aA (ak 0) (c_ (v:=.ty "list") O T.xc je rfl))))) (eI (bu (Gq tE tE (cO rfl T.xu) (ay (ju (K:=K) O) (by rfl) T.x4 fj (aE (ak 0))) (cO rfl T.xy)))))) (ae (aq iH)) aH)
   (ac (aZ (WW.pt (fU (bu (aV (ay (o_ (K:=K) O O) (by rfl) T.xb kG (aE (aG ["point"] [] [] 1 (bE (K:=K) O (ak 0)) (λI=>(ai 0 I)) aF (ab av Cy hr (aE (ak 0)))))))) (eI (aX sV (am K (am K (ak 0) aa) aa) aa (bn _))))) (ae (aq iH)) aH)
   (ae (aq (ay (o_ (K:=K) O O) (by rfl) T.xb kG (aE (aG uD4 [] [] 2 (jF (K:=K) O O T.x8 (aA (ak 0) (tu (Nc (K:=K) O) (ak 0) (wQ aa) v7))) (λI=>(cQ (K:=K) (n:=2) O O (az (ai 0 I) (az (ai 1 I) bv)))) aF (ab av AB hr (aA (ak 0) (ak 1))))))))))),?_⟩
  refine⟨_,O,_,_,_,true,O,hx.ty,(show kh "list" "list"=Y true by decide +kernel),_,O,bN ?_⟩;obtain⟨l,s,rfl,t,j⟩:=aL (b:=true) hx;have F:=j.length;rw[R5] at F;have two:=C.two;have few:=C.few;refine⟨_,O,l,_,O,rJ t,?_⟩;refine⟨_,_,O,O,true,uN zyA,aY ⟨_,_,O,O,true,uN zyA,bN ?_⟩⟩;have tr:∀ n:Nat,(Sl n true).all id=true:=λn=>by induction n with
   |zero=>rfl
   |succ n ih=>rw[UI,XR,ih];rfl
  refine⟨_,O,l,true,O,⟨_,t⟩,mC (f:=λ_=>.bool true) t j (by rw[R5];lia) (λi d x u c s2 J R kk S=>?_) (λys u s2 g D hD=>?_)⟩
  ·rw[Sc] at c;cases e:a[i]? with
   |none=>rw[e] at c;cases c
   |some p=>
    rw[e] at c;cases c;exact aY (B:=S u) ⟨_,O,x,p,O,J,C.inn p (Se e),λG k=>kk _ _ ⟨k,.bl _⟩⟩
  have g:aB K u ((Sl a.length true).map WD) ys:=by
   have e:(a.map tJ).map (λ_=>WD true)=(Sl a.length true).map WD:=by
    rw[V9,Yn];exact Zt.mpr ⟨zyB,λb hb=>by obtain⟨_,_,h⟩:=Ta.mp hb;exact h.symm⟩
   rw[<- e];exact g
  have e:=gJ g;subst e;refine⟨D,_,O,bI.of ag,_,O,?_⟩;rw[tr];refine bN ?_;have k:ah H (upd u D (.lst ((Sl a.length true).map V.bl))):=s2.trans (ah.new hD);generalize upd u D (.lst ((Sl a.length true).map V.bl))=G at k ⊢;clear g s2 hD;have e0:a[0]?=Y a[0]:=Sf zyA;obtain⟨v0,ev0,hv0⟩:=qJ (aB.same k j) e0;obtain⟨p0,rfl,hp0⟩:=bt hv0;refine⟨_,O,pE (i:=0) (bY.same k t) ev0 (cJ hp0 ⟨_,_,O,O,_,O,OW (C.zero _ e0) ?_⟩)⟩;have l3:=bY.same k t;refine⟨_,O,_,O,1,O,l,s,O,l3,λL hL=>?_⟩;rw[CI s zyA];have A:ah G (upd G L (.lst (s.drop 1))):=ah.new hL;have m:bY K (upd G L (.lst (s.drop 1))) L (s.drop 1) true:=bI.of ag;generalize upd G L (.lst (s.drop 1))=H4 at A m ⊢;have d4:=aB.same (k.trans A) j;have d5:=aB.drop 1 d4;refine⟨l,L,true,true,O,⟨_,bY.same A l3⟩,⟨_,m⟩,?_⟩;refine yW (fs:=Sl (a.length-1) (.bool true)) (bY.same A l3) m d4 d5 zyB zyB (by simp;lia) (λi d e f x y zyQ H5 c z hf s5 N M hZ R kk S=>?_) (λzs H5 s5 o D2 hD2=>?_)
  ·have hf:f=.bool true:=(List.mem_replicate.mp (Se hf)).2;subst hf;rw[Sc] at c;rw[WV,Sc] at z;cases e1:a[i]? with
   |none=>rw[e1] at c;cases c
   |some p=>
    cases e2:a[1+i]? with
    |none=>rw[e2] at z;cases z
    |some r=>
     rw[e1] at c;rw[e2] at z;cases c;cases z;obtain⟨u1,u2⟩:=C.up i p r e1 (by rw[VE];exact e2);refine⟨zyQ,_,O,eM.of hZ,O,_,_,O,_,_,O,O,?_⟩;refine aY (B:=S H5) ⟨_,O,_,O,x,y,p,r,O,N,M,?_⟩;rw[R8 u1,R8 u2];exact kk _ _ ⟨ah.refl _,.bl _⟩
  ·have o:aB K H5 ((Sl (a.length-1) true).map WD) zs:=by rw[Yn];exact o
   have e:=gJ o;subst e;refine⟨D2,_,O,bI.of ag,?_⟩;rw[tr];exact q _ (((k.trans A).trans s5).trans (ah.new hD2))
theorem kB:ao ["pairs","at","k"] ["pairs","at"] (af lZ):=cN
inductive yg (vs:List V)(H:Hp)(Q:VK)(_:XK):Prop
 |mk (x y:V) (ps:List Pt) (a:Rat) (z:Pt) (_:vs=[x,y]) (_:ax K H (KQ ps) x) (_:ax K H (rD a) y) (_:2<=ps.length) (_:(∀ p∈ps,p.In)) (_:Bq 600 a) (_:ps.getLast?=Y z) (_:a<=(z.1:Rat)) (_:∀ (v:V) (k:Nat) (p q:Pt) (H':Hp),ah H H'->FK ps a k p q->ax K H' (.tuple [tJ p,tJ q]) v->Q v H')
theorem yO [T:cH K mg w]:bF 3 "stretch_to" ["pairs","at"] [] yg:=by
  refine T.x2p.cal kB (bb:=λ_ _ _ _ _ H vs Q E j h=>?_);obtain⟨x,y,c,a,z,rfl,hx,hy,two,D,oa,hz,ha,q⟩:=h;obtain⟨l,xs,rfl,hl,s⟩:=aL (b:=true) hx;refine⟨_,(cA.go (ac (aw 2 kB.nd aa)
   (ac (r9 SW (aV (ab av qw j (aA (ab av (bO T.xd) j (aE (am K (am K (ak 0) (ak 2)) aa))) (ak 1)))) (ae (Bs (i:=2) kB.nd rfl (by first|exact aa5 rfl|exact Z6 rfl) aa NO)))
   (ae (aq (aW (aA (am K (ak 0) (au cC (ak 2) aa)) (am K (ak 0) (ak 2))))))))),?_⟩
  have f:c[c.length-1]?=Y z:=by rw[<- TD];exact hz
  refine⟨λm L H'=>∃ k:Nat,L=[Y (.ref l),Y y,Y (.int k)]/\ah H H'/\1<=k/\k<c.length/\(k=1\/∃ p,c[k-1]?=Y p/\(p.1:Rat)<a)/\m=c.length-k,⟨_,1,O,ah.refl _,Z,zyA,.inl rfl,O⟩,?_⟩;rintro m L H1 ⟨k,rfl,g,k1,k2,hk,rfl⟩;have n:c[k]?=Y c[k]:=Sf k2;obtain⟨v,J,M⟩:=qJ (aB.same g s) n;obtain⟨pa,rfl,u⟩:=bt M;have N:=D _ (Se n);have I:=bY.same g hl;have st:Sm 20 (c[k]).1:=by have:=N.a1;have:=N.a2;unfold Sm;lia
  refine⟨_,O,_,O,pE I J (cJ u ⟨_,_,O,Z,Sm.mono (k:=4) (by unfold Sm;decide) Z,h_.sh Z λv2 H2 s2 t=>?_⟩)⟩;have e2:((c[k]).1:Rat)/((1:Int):Rat)=((c[k]).1:Rat):=by
   rw[show((1:Int):Rat)=1 from rfl];grind
  rw[e2] at t;refine⟨_,O,v2,y,_,a,O,t,ax.same (g.trans s2) hy,?_,oa.mono Z,_,O,?_⟩
  ·show Ok 3900 (((c[k]).1:Rat)).num ((((c[k]).1:Rat)).den:Int);rw[Wa,Uz];exact⟨Z,zyB,st.mono Z,Sm.mono (k:=4) (by unfold Sm;decide) Z⟩
  refine fm (λd=>?_) (λd=>?_)
  ·have d:((c[k]).1:Rat)<a:=Ti d;have B:k+1<c.length:=by
    by_cases e:k=c.length-1
    ·exfalso;have A:c[k]?=Y z:=by rw[e];exact f
     rw[n] at A;rw[RU A] at d;grind
    ·lia
   refine⟨_,λ_ _ w=>w,?_⟩;refine⟨_,O,_,_,O,O,?_⟩;exact⟨c.length-(k+1),zyA,k+1,O,g.trans s2,zyA,B,.inr ⟨c[k],by rw[Nat.add_sub_cancel];exact n,d⟩,O⟩
  ·have d:¬ ((c[k]).1:Rat)<a:=λw=>d (R8 w)
   have A:c[k-1]?=Y c[k-1]:=Sf zyA;obtain⟨v0,B,C⟩:=qJ (aB.same (g.trans s2) s) A;have G:=bY.same s2 I;have ek:((k:Nat):Int)-1=((k-1:Nat):Int):=zyA
   refine⟨_,O,_,O,_,_,O,O,?_⟩;dsimp only;rw[ek];refine pE G B ⟨_,O,_,O,pE G J ⟨kY,λr j=>?_⟩⟩;have sr:=s2.trans (ah.new (o:=.tup [v0,.ref pa]) j);refine q _ (k-1) c[k-1] c[k] _ (g.trans sr) ⟨A,by rw[Nat.sub_add_cancel k1];exact n,?_,by grind⟩ (ax.tupN j (.cons C (.cons (ax.same s2 M) .nil)));rcases hk with w|⟨p,F,w2⟩
   ·exact .inl zyA
   ·rw[A] at F;cases F;exact .inr w2
theorem jP:ao ["low","high","at","run","rise","top","below"] uE6 (af sM):=cN
inductive Dk (vs:List V)(H:Hp)(Q:VK)(_:XK):Prop
 |mk (x y z:V) (p q:Pt) (a:Rat) (_:vs=[x,y,z]) (_:ax K H (tJ p) x) (_:ax K H (tJ q) y) (_:ax K H (rD a) z) (_:p.In) (_:q.In) (_:p.1<q.1) (_:Bq 600 a) (_:h_ K H (CY p q a) Q)
theorem DM [T:cH K mg w]:bF 3 "on_line" uE6 [] Dk:=by
  refine T.x2q.cal jP (bb:=λ_ _ _ _ _ H vs Q E v h=>?_);obtain⟨x,y,z,p,r,c,rfl,u,D,A,e,l,s,o,q⟩:=h;obtain⟨a,rfl,k⟩:=bt u;obtain⟨b,rfl,t⟩:=bt D;obtain⟨d,rfl,C⟩:=bt A;refine⟨_,(cA.go (ac (aw 3 jP.nd (au cC (am K (ak 1) aa) (am K (ak 0) aa)))
   (ac (aw 4 jP.nd (au cC (am K (ak 1) aa) (am K (ak 0) aa)))
   (ac (kq (ak 2) (cQ (K:=K) (n:=2) O O (az (ai 5 jP.nd) (az (ai 6 jP.nd) bv))))
   (ae (aq (ab av (bO T.x9) v (aA (au di (au aM (au aM (am K (ak 0) aa) (ak 3)) (ak 6)) (au aM (au cC (ak 5) (au aM (am K (ak 0) aa) (ak 6))) (ak 4))) (au aM (ak 3) (ak 6)))))))))),?_⟩
  have f:∀ {i:Int},0<=i->i<=1000->Sm 10 i:=λB G=>by unfold Sm;lia
  have g:∀ {i j:Int},0<=i->i<=1000->0<=j->j<=1000->Sm 11 (i-j):=λB G I J=>by unfold Sm;lia
  refine⟨_,O,cJ t ⟨_,O,cJ k ⟨_,_,O,O,?_⟩⟩⟩;refine⟨_,O,bX t ⟨_,O,bX k ⟨_,_,O,O,?_⟩⟩⟩;refine⟨_,O,d,_,O,eM.of C,O,_,_,O,_,_,O,O,?_⟩;have m:Sm 11 (r.1-p.1):=g l.a1 l.a2 e.a1 e.a2;have F:Sm 11 (r.2-p.2):=g l.b1 l.b2 e.b1 e.b2;refine⟨_,O,bX k ⟨_,O,_,_,O,O,.inr ((f e.b1 e.b2).mono Z),?_⟩⟩;refine⟨_,O,_,_,O,O,.inr (((f e.b1 e.b2).mul m).mono Z),?_⟩;refine⟨_,O,_,O,cJ k ⟨_,O,_,_,O,O,.inr ((f e.a1 e.a2).mono Z),_,_,O,O,_,O,?_⟩⟩;refine⟨_,_,O,O,.inl ⟨?_,F.mono Z⟩,_,_,O,O,?_⟩
  ·exact((o.sn.mono (show 600<=610 by decide)).sub ((f e.a1 e.a2).mul o.sd)).mono Z
  refine⟨_,O,_,O,_,_,O,O,.inr (m.mono Z),_,_,O,?_,?_,?_⟩
  ·exact Tx zyA (by exact_mod_cast c.den_nz)
  ·exact(m.mul o.sd).mono Z
  ·rw[Il s] at q;exact h_.sh (Tx zyA (by exact_mod_cast c.den_nz)) q
theorem oN:ao uE3 uE3 (af fW):=cN
inductive oH (vs:List V)(H:Hp)(Q:VK)(_:XK):Prop
 |mk (a C dx:Sd) (x:V) (ps:List Pt) (_:vs=[.ref a,x]) (_:cR K "Curve" C) (_:H a=Y (.ins C dx [])) (_:ax K H (KQ ps) x) (_:vN ps) (_:∀ H',Mv [a] H H'->my K H' ps (.ref a)->(∀ T,cD H T->my K (cut T H') ps (.ref a))->Q .non H')
theorem iX [T:cH K mg w]:ky 6 "Curve" "__init__" uE3 [] oH:=by
  refine T.x2r.cal oN (bb:=λ_ _ _ _ _ H vs Q E hr h=>?_);obtain⟨a,C,g,x,t,rfl,y,v,I,k,q⟩:=h;refine⟨_,(cA.go (ac (aZ (bu (aV (ab av Bm hr (aE (ak 1))))) (ae bH) aH)
   (ae (eQ (K:=K) (x:="Curve") O T.x5 (.head _) (ak 0) (bQ (vT (K:=K) O) (by rfl) T.xc je (aE (ak 1))))))),?_⟩
  refine⟨_,O,x,t,O,I,k,λf n=>⟨_,O,bN ?_⟩⟩;have G:=ax.same n I;obtain⟨l,c,rfl,hl,A⟩:=aL (b:=true) G;refine⟨_,O,l,c,O,.inl hl,λL s=>?_⟩;have u:ah f (upd f L (.lst c)):=ah.new s;have J:=u _ _ (n _ _ v);refine⟨_,O,a,C,g,[],O,y,J,Z,?_⟩;have na:L≠a:=λz=>by rw[z,n _ _ v] at s;cases s
  have mv:Mv [a] (upd f L (.lst c)) (upd (upd f L (.lst c)) a (.ins C g (eU "points" (.ref L) []))):=λb o e D=>by rw[ar (λz=>D (by simp[z]))];exact e
  have tup:∀ p∈t.map tJ,yi p=true:=λp k=>by obtain⟨r,_,rfl⟩:=Ta.mp k;rfl
  have keep:∀ {ds:List Tr}{j:List V},(∀ p∈ds,∃ r:Pt,p=tJ r)->aB K (upd f L (.lst c)) ds j->aB K (upd (upd f L (.lst c)) a (.ins C g (eU "points" (.ref L) []))) ds j:=λ{ds j} N h=>by
   induction ds generalizing j with
   |nil=>cases h;exact .nil
   |cons d ds ih=>
    cases h with
    |cons h1 h2=>
     refine .cons ?_ (ih (λp k=>N p (R_ _ k)) h2);obtain⟨r,rfl⟩:=N d (Sz ..);obtain⟨pa,rfl,i⟩:=bt h1;exact fb (mv _ _ i (λz=>by rw[RY.mp z,J] at i;cases i))
  have kd:=keep (ds:=t.map tJ) (λp k=>by obtain⟨r,_,rfl⟩:=Ta.mp k;exact⟨r,O⟩) (aB.same u A);have gL:upd (upd f L (.lst c)) a (.ins C g (eU "points" (.ref L) [])) L=Y (.lst c):=by rw[ar na];exact ag
  refine q _ (λb o e D=>mv b o (u _ _ (n _ _ e)) D) ⟨a,C,g,L,O,y,ag,.lst (.inl gL) kd⟩ λT B=>?_
  have M:a∉T:=B.not v λ_ z=>nomatch z
  have LT:L∉T:=λm=>by
   obtain⟨j,e⟩:=B L m;rw[n _ _ e] at s;cases s
  have F:cD (upd (upd f L (.lst c)) a (.ins C g (eU "points" (.ref L) []))) T:=λb m=>by
   obtain⟨j,e⟩:=B b m;exact⟨j,mv _ _ (u _ _ (n _ _ e)) (λz=>M (RY.mp z▸m))⟩
  exact⟨a,C,g,L,O,y,by rw[fS M];exact ag,.lst (.inl (by rw[fS LT];exact gL)) (aB.cutT F (Ko t) kd)⟩
theorem um:ao uA3 uA3 (af jD):=cN
inductive uu (vs:List V)(H:Hp)(Q:VK)(_:XK):Prop
 |mk (v:V) (ps:List Pt) (z:Pt) (_:vs=[v]) (_:my K H ps v) (_:ps.getLast?=Y z) (_:Q (.int z.1) H)
theorem mj [T:cH K mg w]:ky 1 "Curve" "last" uA3 [] uu:=by
  refine T.x2s.cal um (bb:=λ_ _ _ _ _ H vs Q E s h=>?_);obtain⟨v,r,z,rfl,⟨a,C,g,l,rfl,j,i,m⟩,k,q⟩:=h;refine⟨_,(cA.go (ae (aq (am K (am K (aR (K:=K) (x:="Curve") O T.x5 (.head _) (ak 0)) (ww vV aa)) aa)))),?_⟩;obtain⟨t,o,e,f,d⟩:=aL (b:=true) m;cases e;obtain⟨u,p,n⟩:=BF d k;obtain⟨y,rfl,c⟩:=bt n;exact⟨_,O,a,C,g,_,_,O,j,i,O,_,O,.inl ⟨l,o,_,_,O,O,f,u8 p,cJ c q⟩⟩
theorem hJ:ao ["self","place","low","high"] uC1 (af iJ):=cN
inductive rC (vs:List V)(H:Hp)(Q:VK)(_:XK):Prop
 |mk (v x:V) (ps:List Pt) (a:Rat) (z:Pt) (_:vs=[v,x]) (_:my K H ps v) (_:ax K H (rD a) x) (_:vN ps) (_:Bq 600 a) (_:ps.getLast?=Y z) (_:0<=a) (_:a<=(z.1:Rat)) (_:∀ (w:V) (c:Rat) (H':Hp),ah H H'->Bt ps a c->ax K H' (rD c) w->Q w H')
theorem sk [T:cH K mg w]:ky 4 "Curve" "value" uC1 [] rC:=by
  refine T.x2t.cal hJ (bb:=λ_ _ _ _ _ H vs Q E e h=>?_);obtain⟨v,x,y,c,z,rfl,I,f,d,m,s,c0,B,q⟩:=h;refine⟨_,(cA.go (ac (aZ (WW.pt (fU (bu (aV (ab av mW e (aE (ak 1))))) (eI (bu (aV (ab av qR e (aj (ak 1) (aj aa (aj (fw (K:=K) O av mj (e.mono Z) (ak 0)) aN))))))))) (ae bH) aH)
   (ac (kq (ab av yO e (aA (aR (K:=K) (x:="Curve") O T.x5 (.head _) (ak 0)) (ak 1))) (cQ (K:=K) (n:=2) O O (az (ai 2 hJ.nd) (az (ai 3 hJ.nd) bv))))
   (ae (aq (ab av DM e (aj (ak 2) (aj (ak 3) (aj (ak 1) aN))))))))),?_⟩
  refine⟨_,O,x,_,O,f,_,O,?_⟩;rw[Ld];refine bN ?_;obtain⟨a,C,t,l,rfl,F,A,hd⟩:=id I;have G:=d.inn z (Vp s);refine⟨_,O,_,O,a,C,t,_,O,F,A,O,.ref a,y,z,O,I,s,x,c,0,z.1,O,f,m.mono Z,?_,?_,?_⟩
  ·unfold Sm;decide
  ·refine Sm.mono (k:=20) ?_ Z;have:=G.a1;have:=G.a2;unfold Sm;lia
  have e1:decide (0*(c.den:Int)<=c.num)=true:=R8 (by rw[Int.zero_mul];exact YE.mpr c0);have L:decide (c.num<=z.1*(c.den:Int))=true:=R8 (by
   have h:=(Rat.le_iff c (z.1:Rat)).mp B;rw[Wa,Uz] at h
   simpa using h)
  rw[e1,L];refine⟨_,O,bN ?_⟩;refine⟨_,O,a,C,t,_,_,O,F,A,O,_,O,.ref l,x,y,c,z,O,hd,f,d.two,d.inn,m,s,B,λu k p r D J st hu=>?_⟩;obtain⟨M,ys,rfl,ht,j⟩:=aL (b:=false) hu;obtain⟨g,i,rfl,g0,g1⟩:∃ g i,ys=[g,i]/\ax K D (tJ p) g/\ax K D (tJ r) i:=by
   cases j with
   |cons h1 h2=>
    cases h2 with
    |cons h3 h4=>
     cases h4;exact⟨_,_,O,h1,h3⟩
  refine⟨M,_,O,ht,O,_,_,O,_,_,O,O,?_⟩;have o:=(d.up k p r st.lo st.hi).1;refine⟨_,O,_,O,_,O,g,i,x,p,r,c,O,g0,g1,ax.same J f,d.inn p (Se st.lo),d.inn r (Se st.hi),o,m,λw N s2 hw=>?_⟩;exact q w _ N (J.trans s2) ⟨k,p,r,st,O⟩ hw
theorem oJ:ao uA3 uA3 (af fM):=cN
inductive oG (vs:List V)(H:Hp)(Q:VK)(_:XK):Prop
 |mk (v:V) (ps:List Pt) (_:vs=[v]) (_:my K H ps v) (_:vN ps) (_:∀ (w:V) (c:Rat) (H':Hp),ah H H'->nN ps (ps.length-1) c->ax K H' (rD c) w->Q w H')
theorem iW [T:cH K mg w]:ky 4 "Curve" "steepest" uA3 [] oG:=by
  refine T.x2u.cal oJ (bb:=λ_ _ _ _ _ H vs Q E M h=>?_);obtain⟨v,j,rfl,⟨a,C,dx,l,rfl,hC,hH,k⟩,s,q⟩:=h;refine⟨_,(cA.go (ae (aq (ab av nJ M (aE (aG uD4 [] [] 2 (jF (K:=K) O O T.x8 (aA (aR (K:=K) (x:="Curve") O T.x5 (.head _) (ak 0)) (tu (Nc (K:=K) O) (aR (K:=K) (x:="Curve") O T.x5 (.head _) (ak 0)) (wQ aa) v7))) (λnd=>(cQ (K:=K) (n:=2) O O (az (ai 0 nd) (az (ai 1 nd) bv)))) aF (ab av (bO T.x9) M (aA (au cC (am K (ak 1) aa) (am K (ak 0) aa)) (au cC (am K (ak 1) aa) (am K (ak 0) aa)))))))))),?_⟩;obtain⟨l',t,e,hl,I⟩:=aL (b:=true) k;cases e;have F:=I.length;rw[R5] at F;have two:=s.two;have few:=s.few;refine⟨_,O,a,C,dx,_,_,O,hC,hH,O,_,O,a,C,dx,_,_,O,hC,hH,O,1,O,l,t,O,hl,λL hL=>?_⟩;rw[CI t zyA];have J:ah H (upd H L (.lst (t.drop 1))):=ah.new hL;have o:bY K (upd H L (.lst (t.drop 1))) L (t.drop 1) true:=bI.of ag;generalize upd H L (.lst (t.drop 1))=H4 at J o ⊢;have d4:=aB.same J I;have d5:=aB.drop 1 d4;have bs:∀ {i:Nat}{p r:Pt},j[i]?=Y p->j[i+1]?=Y r->r.1-p.1≠0/\Sm 11 (r.1-p.1)/\Sm 11 (r.2-p.2):=λ{i p r} g c=>by
   have ip:=s.inn p (Se g);have N:=s.inn r (Se c);obtain⟨u1,u2⟩:=s.up i p r g c;have:=ip.a1;have:=ip.a2;have:=N.a1;have:=N.a2;have:=ip.b1;have:=ip.b2;have:=N.b1;have:=N.b2;exact⟨zyA,by unfold Sm;lia,by unfold Sm;lia⟩
  refine⟨l,L,true,true,O,⟨_,bY.same J hl⟩,⟨_,o⟩,?_⟩;refine yW (fs:=(slopes j).map rD) (bY.same J hl) o d4 d5 zyB (by simp[slopes]) (by simp;lia) (λi d e f x y zyQ H5 k G hf s5 hx5 hy5 hZ R kk S=>?_) (λzs H5 s5 hzs D2 D=>?_)
  ·rw[Sc] at k;rw[WV,Sc] at G;cases g:j[i]? with
   |none=>rw[g] at k;cases k
   |some p=>
    cases c:j[1+i]? with
    |none=>rw[c] at G;cases G
    |some r=>
     rw[g] at k;rw[c] at G;cases k;cases G;have hf:f=rD (kf p r):=by
      rw[Sc,vQ g (by rw[VE];exact c)] at hf;cases hf;rfl
     subst hf;obtain⟨nz,sa,sb⟩:=bs g (by rw[VE];exact c);obtain⟨pa,rfl,u⟩:=bt hx5;obtain⟨ra,rfl,A⟩:=bt hy5;refine⟨zyQ,_,O,eM.of hZ,O,_,_,O,_,_,O,O,?_⟩;exact aY (B:=S H5) ⟨_,O,bX A ⟨_,O,bX u ⟨_,_,O,O,_,O,cJ A ⟨_,O,cJ u ⟨_,_,O,O,_,_,O,nz,sa.mono Z,h_.sh nz λv5 H6 s6 hv5=>kk _ _ ⟨s6,hv5⟩⟩⟩⟩⟩⟩
  ·have A:(slopes j).length=j.length-1:=by simp[slopes]
   refine⟨.ref D2,true,11,slopes j,O,ax.listN D hzs,λr M=>?_,λz=>?_,zyA,Z,zyA,λm hm hx v6 H6 s6 u=>q v6 m H6 (((J.trans s5).trans (ah.new D)).trans s6) (JN s hm hx) u⟩
   ·obtain⟨i,p,r',g,c,rfl⟩:=vI M;obtain⟨nz,sa,sb⟩:=bs g c;exact eK nz sb sa
   ·rw[z] at A;simp only[WZ] at A;lia
theorem ug:ao uA3 uA3 (af jN):=cN
inductive uz (vs:List V)(H:Hp)(Q:VK)(_:XK):Prop
 |mk (v:V) (ps:List Pt) (y z:Pt) (_:vs=[v]) (_:my K H ps v) (_:ps[0]?=Y y) (_:ps.getLast?=Y z) (_:∀ u H',ah H H'->ax K H' (.tuple [.int y.2,.int z.2]) u->Q u H')
theorem ur [T:cH K mg w]:ky 1 "Curve" "ends" uA3 [] uz:=by
  refine T.x2v.cal ug (bb:=λ_ _ _ _ _ H vs Q E J h=>?_);obtain⟨v,I,y,z,rfl,⟨a,C,m,l,rfl,o,n,t⟩,A,s,q⟩:=h;refine⟨_,(cA.go (ae (aq (aW (aA (am K (am K (aR (K:=K) (x:="Curve") O T.x5 (.head _) (ak 0)) aa) aa) (am K (am K (aR (K:=K) (x:="Curve") O T.x5 (.head _) (ak 0)) (ww vV aa)) aa)))))),?_⟩;obtain⟨L,D,e,k,c⟩:=aL (b:=true) t;cases e;obtain⟨G,f,g⟩:=qJ c A;obtain⟨N,rfl,j⟩:=bt g;obtain⟨u,F,B⟩:=BF c s;obtain⟨M,rfl,d⟩:=bt B;refine⟨_,O,a,C,m,_,_,O,o,n,O,pE (i:=0) k f (bX j ?_)⟩;refine⟨_,O,a,C,m,_,_,O,o,n,O,_,O,.inl ⟨l,D,_,_,O,O,k,u8 F,bX d ⟨kY,λp r=>?_⟩⟩⟩;exact q _ _ (ah.new r) (ax.tupN r (.cons (.int _) (.cons (.int _) .nil)))
theorem wY:ao uA5 uA5 (af kE):=cN
inductive wz (vs:List V)(H:Hp)(Q:VK)(_:XK):Prop
 |mk (v:V) (ps:List Pt) (y z:Pt) (most:Int) (_:vs=[v,.int most]) (_:my K H ps v) (_:ps[0]?=Y y) (_:ps.getLast?=Y z) (_:z.1=60) (_:z.2<=most) (_:∀ H',ah H H'->Q (.bl true) H')
theorem vU [T:cH K mg w]:bF 2 "is_curve_to" uA5 [] wz:=by
  refine T.x2w.cal wY (bb:=λ_ _ _ _ _ H vs Q E f h=>?_);obtain⟨v,j,y,z,m,rfl,g,s,k,o,n,q⟩:=h;refine⟨_,(cA.go (ae (aq (fB (ay (E6 (K:=K) (x:="Curve") O T.x5 T.xz) (by rfl) T.x2 a_ (aA (ak 0) (ot (K:=K) (x:="Curve") O O (jo T.x5)))) (fB (dA (BH (K:=K) O f.units) (fw (K:=K) O av mj (f.mono Z) (ak 0)) (cO rfl T.xg) (bn _)) (jh (dA tE (am K (fw (K:=K) O av ur (f.mono Z) (ak 0)) aa) (ak 1) (bn _)))))))),?_⟩;obtain⟨a,C,d,l,rfl,c,e,F⟩:=id g;refine⟨_,O,λD r=>?_⟩;cases bK r c;refine⟨_,_,O,c,.inl ⟨a,d,_,O,e,_,O,aY ?_⟩⟩;refine⟨_,O,a,C,d,_,O,c,e,O,.ref a,j,z,O,g,k,.int z.1,.int 60,.int _,.int _,O,O,true,by rw[o];rfl,aY ?_⟩;refine⟨_,O,a,C,d,_,O,c,e,O,.ref a,j,y,z,O,g,s,k,λu G t B=>?_⟩;obtain⟨p,rfl,A⟩:=bt B;refine pE (b:=false) (i:=1) (eM.of A) O ⟨_,O,_,_,O,O,?_⟩;dsimp only;rw[R8 n];exact q _ t
theorem A':ao uA5 uA5 (af mU):=cN
inductive Au (vs:List V)(H:Hp)(Q:VK)(_:XK):Prop
 |mk (l:Sd) (ws:List V) (P:C3) (most:Int) (_:vs=[.ref l,.int most]) (_:H l=Y (.lst ws)) (_:jX K H P ws) (_:P.In most) (_:∀ H',ah H H'->Q (.bl true) H')
theorem Ad [T:cH K mg w]:bF 3 "is_curves" uA5 [] Au:=by
  refine T.x2x.cal A' (bb:=λ_ _ _ _ _ H vs Q E I h=>?_);obtain⟨l,C,P,g,rfl,j,hw,M,q⟩:=h;refine⟨_,(cA.go (ac (aZ (WW.pt (fU (bu (aV (ay (DH (K:=K) O) (by rfl) T.x2 a_ (aA (ak 0) (aW (aA (c_ (v:=.ty "list") O T.xc je rfl) (c_ (v:=.ty "tuple") O T.x3 cF rfl))))))) (eI (aX sV (ay (ju (K:=K) O) (by rfl) T.x4 fj (aE (ak 0))) aa (bn _))))) (ae (aq iH)) aH)
   (ae (aq (ay (o_ (K:=K) O O) (by rfl) T.xb kG (aE (aG ["curve"] ["most"] [1] 1 (bE (K:=K) O (ak 0)) (λN=>(ai 0 N)) aF (ab av vU I (aA (ak 0) (ak 1)))))))))),?_⟩
  refine⟨_,O,kY,λp n=>?_⟩;generalize k:upd H p _=u;have a:=gB n k;have g1:=eD k;obtain⟨F,r,o⟩:∃ T,Ty K u (.ref l) T/\xQ T ["list","tuple"]=Y true:=⟨"list",.lst (a _ _ j),zyC⟩
  refine⟨_,F,p,_,_,true,O,r,g1,o,_,O,bN ?_⟩;refine⟨_,O,l,C,O,.inl (bI.of (a _ _ j)),_,_,O,O,false,by rw[hw.1];rfl,bN ?_⟩;refine⟨_,O,l,true,O,⟨_,bI.of (a _ _ j)⟩,kZ (K:=K) (b:=true) (xs:=C) (λi c d=>ah u d/\c.length=i/\∀ v∈c,v=.bl true) ⟨ah.refl _,O,λ_ h=>nomatch h⟩ (by rw[hw.1];decide) (λi c d A h=>⟨bI.of (h.1 _ _ (a _ _ j)),by have:=h.2.1;lia⟩) (λi x c d t h R S kk _=>?_) (λc d h D L=>?_)⟩
  ·obtain⟨m,e,s⟩:=h;have A:i<3:=by rw[<- hw.1];exact(R9.mp t).1
   obtain⟨pp,y,z,k,ez,J,G⟩:=M i A;refine aY (B:=S d) ⟨_,O,_,O,x,_,y,z,g,O,(hw.2 i x t).same (a.trans m),k,ez,J,G,λH2 s2=>kk _ _ ⟨m.trans s2,by rw[SB,e];rfl,λv f=>?_⟩⟩;rcases S8.mp f with f|f
   ·exact s v f
   ·exact RY.mp f
  ·obtain⟨m,e,s⟩:=h;rw[hw.1] at e;have f:=DG e s;subst f;exact⟨D,_,O,bI.of ag,q _ ((a.trans m).trans (ah.new L))⟩
theorem oV:ao uA5 uA5 (af fE):=cN
inductive oY (vs:List V)(H:Hp)(Q:VK)(_:XK):Prop
 |mk (l:Sd) (ws:List V) (P:C3) (most:Int) (_:vs=[.ref l,.int most]) (_:H l=Y (.lst ws)) (_:jX K H P ws) (_:P.In most) (_:∀ H',ah H H'->Q .non H')
theorem iY [T:cH K mg w]:bF 4 "refuse_no_curves" uA5 [] oY:=by
  refine T.x2y.cal oV (bb:=λ_ _ _ _ _ H vs Q E f h=>?_);obtain⟨l,e,P,a,rfl,b,hw,d,q⟩:=h;refine⟨_,(cA.go (ae (aZ (bu (aV (ab av Ad f (aA (ak 0) (ak 1))))) (ae bH) aH))),?_⟩;exact⟨_,O,_,O,l,e,P,a,O,b,hw,d,λg c=>⟨_,O,bN (q _ c)⟩⟩
theorem oE:ao j0 j0 (af fK):=cN
inductive oP (vs:List V)(H:Hp)(Q:VK)(_:XK):Prop
 |mk (v:V) (e:En) (_:vs=[v]) (_:eG K H e v) (_:Q .non H)
theorem iZ [T:cH K mg w]:bF 1 "refuse_no_bounds" j0 [] oP:=by
  refine T.x2z.cal oE (bb:=λ_ _ _ _ _ H vs Q E i h=>?_);obtain⟨v,e,rfl,g,q⟩:=h;refine⟨_,(cA.go (ae (aZ (bu (aV (ay (E6 (K:=K) (x:="Ends") O T.xa T.xm) (by rfl) T.x2 a_ (aA (ak 0) (ot (K:=K) (x:="Ends") O O (jo T.xa)))))) (ae bH) aH))),?_⟩;obtain⟨a,C,c,x,y,rfl,b,d,_⟩:=g;refine⟨_,O,λD f=>?_⟩;cases bK f b;exact⟨_,_,O,b,.inl ⟨a,c,_,O,d,_,O,bN q⟩⟩
theorem rS:ao ["curves"] ["curves"] (af iK):=cN
inductive r_ (vs:List V)(H:Hp)(Q:VK)(_:XK):Prop
 |mk (l:Sd) (ws:List V) (P:C3) (most:Int) (_:vs=[.ref l]) (_:H l=Y (.lst ws)) (_:jX K H P ws) (_:P.In most) (_:∀ (D:Sd) (us:List V) (H':Hp),ah H H'->H D=none->H' D=Y (.lst us)->jX K H' P us->(∀ T,cD H T->jX K (cut T H') P us)->Q (.ref D) H')
theorem lE [T:cH K mg w]:bF 8 "copied_curves" ["curves"] [] r_:=by
  refine T.x30.cal rS (bb:=λ_ _ _ _ _ H vs Q E hr h=>?_);obtain⟨l,ws,P,most,rfl,M,hw,hp,q⟩:=h;refine⟨_,(cA.go (ae (aq (aG ["curve"] [] [] 1 (bE (K:=K) O (ak 0)) (λnd=>(ai 0 nd)) aF (qS (K:=K) O av iX (hr.mono Z) O (aE (aR (K:=K) (x:="Curve") O T.x5 (.head _) (ak 0)))))))),?_⟩;refine⟨_,O,l,true,O,⟨_,bI.of M⟩,kZ (K:=K) (b:=true) (xs:=ws) (λi m c=>ah H c/\m.length=i/\(∀ (j:Nat) (v:V),m[j]?=Y v->my K c (P.at j) v)/\∀ T,cD H T->∀ (j:Nat) (v:V),m[j]?=Y v->my K (cut T c) (P.at j) v) ⟨ah.refl _,O,λj v e=>by simp at e,λ_ _ j v e=>by simp at e⟩ (by rw[hw.1];decide) (λi m c N ⟨f,e,_⟩=>⟨bI.of (f _ _ M),zyA⟩) (λi x m c L ⟨f,e,A,k⟩ R S kk _=>?_) (λm c ⟨f,e,A,k⟩=>?_)⟩
  ·have N:i<3:=by rw[<- hw.1];exact(R9.mp L).1
   obtain⟨pp,_⟩:=hp i N;obtain⟨a,C,dx,l2,rfl,hC,ha,I⟩:=(hw.2 i x L).same f;refine aY (B:=S c) ⟨_,O,a,C,dx,_,_,O,hC,ha,O,λn b g t hb u y=>?_⟩;have p:ah c (upd (upd c g (.own b)) b (.ins n g [])):=(ah.new u).trans (ah.new (by rw[ar y.symm];exact hb));have gv:upd (upd c g (.own b)) b (.ins n g []) b=Y (.ins n g []):=ag;generalize upd (upd c g (.own b)) b (.ins n g [])=H5 at p gv ⊢;refine⟨b,n,g,_,P.at i,O,t,gv,ax.same p I,pp,λH6 J F s=>⟨O,kk _ _ ?_⟩⟩;have G:ah c H6:=λb' o e=>J _ _ (p _ _ e) (λz=>by rw[RY.mp z,hb] at e;cases e)
   refine⟨f.trans G,by rw[SB,e];rfl,λj v d=>?_,λT r j v d=>?_⟩
   ·rcases kg d with ⟨_,d⟩|⟨rfl,rfl⟩
    ·exact(A j v d).same G
    ·rw[e];exact F
   ·rcases kg d with ⟨_,d⟩|⟨rfl,rfl⟩
    ·exact(k T r j v d).same (ah.cut G)
    ·rw[e];exact s T ((r.same f).same p)
  ·intro D g;rw[hw.1] at e;refine q D m _ (f.trans (ah.new g)) ?_ ag ⟨e,λj v d=>(A j v d).same (ah.new g)⟩ λT r=>⟨e,λj v d=>(k T r j v d).same (ah.cut (ah.new g))⟩
   cases z:H D with
   |none=>rfl
   |some o=>rw[f _ _ z] at g;cases g
theorem vj:ao uC2 uC2 (af kN):=cN
inductive xR (vs:List V)(H:Hp)(Q:VK)(_:XK):Prop
 |mk (v:V) (e:En) (_:vs=[v]) (_:eG K H e v) (_:e.In) (_:∀ (u:V) (H':Hp),ah H H'->eG K H' e u->Q u H')
theorem ng [T:cH K mg w]:bF 7 "copied_ends" uC2 [] xR:=by
  refine T.x31.cal vj (bb:=λ_ _ _ _ _ H vs Q E u h=>?_);obtain⟨v,e,rfl,A,t,q⟩:=h;refine⟨_,(cA.go (ae (aq (wP (K:=K) O av fF (u.mono Z) O (bZ (aR (K:=K) (x:="Ends") O T.xa (.head _) (ak 0)) (bZ (aR (K:=K) (x:="Ends") O T.xa (.tail _ (.head _)) (ak 0)) dQ)))))),?_⟩;obtain⟨a,C,k,x,y,rfl,m,l,s,B⟩:=A;refine⟨_,O,a,C,k,_,_,O,m,l,O,_,O,a,C,k,_,_,O,m,l,O,λD b r d p f g=>?_⟩;generalize n:upd (upd H r _) b _=I;have i:=Bl p f g n;have F:=eD n;refine⟨b,D,r,x,y,e,O,d,F,ax.same i s,ax.same i B,t,λG j c=>⟨O,q _ _ (λJ o e=>j _ _ (i _ _ e) (λz=>by rw[RY.mp z,p] at e;cases e)) c⟩⟩
theorem Bi:ao uD6 uD6 (af mJ):=cN
inductive zI (vs:List V)(H:Hp)(Q:VK)(_:XK):Prop
 |mk (l:Sd) (x:V) (ws:List V) (P:C3) (most:Int) (c:Q3) (_:vs=[.ref l,x]) (_:H l=Y (.lst ws)) (_:jX K H P ws) (_:P.In most) (_:ax K H c.col x) (_:c.Bd 17) (_:c.Wi ((60:Int):Rat)) (_:∀ (r:Q3) (u:V) (H':Hp),ah H H'->kK P c r->ax K H' r.col u->Q u H')
theorem rj [T:cH K mg w]:bF 5 "values_at" uD6 [] zI:=by
  refine T.x32.cal Bi (bb:=λ_ _ _ _ _ H vs Q E hr h=>?_);obtain⟨l,x,ws,P,most,c,rfl,hl,hw,hp,u,bd,N,q⟩:=h;refine⟨_,(cA.go (ae (aq (bQ (gN (K:=K) O) (by rfl) T.x3 cF (aE (aG ["curve","number"] [] [] 2 (jF (K:=K) O O T.x8 (aA (ak 0) (ak 1))) (λnd=>(cQ (K:=K) (n:=2) O O (az (ai 0 nd) (az (ai 1 nd) bv)))) aF (qH (K:=K) O av sk (hr.mono Z) (ak 0) (aE (ak 1))))))))),?_⟩;obtain⟨ca,xs,rfl,t,k⟩:=aL (b:=false) (ds:=c.ds) u;have G:xs.length=3:=by rw[<- k.length];rfl
  refine⟨_,O,_,O,l,ca,true,false,O,⟨_,bI.of hl⟩,⟨_,t⟩,y7 (K:=K) (b1:=true) (b2:=false) (xs:=ws) (ys:=xs) (λi p d=>ah H d/\p.length=i/\∀ (j:Nat) (v:V),p[j]?=Y v->∃ r:Rat,Bt (P.at j) (cS c.a c.b c.c j) r/\ax K d (rD r) v) ⟨ah.refl _,O,λj v e=>by simp at e⟩ (by rw[hw.1,G]) (by rw[hw.1];decide) (λi p d h=>⟨bI.of (h.1 _ _ hl),bY.same h.1 t,by have:=h.2.1;lia⟩) (λi x y p T d u F h hT R kk S=>?_) (λp d h D hD=>?_)⟩
  ·obtain⟨g,e,m⟩:=h;have f:i<3:=by rw[<- hw.1];exact(R9.mp u).1
   generalize L:upd d T _=H2;have A:=gB hT L;have gT:=eD L;obtain⟨pp,yy,z,L,ez,z1,z2⟩:=hp i f;obtain⟨yv,ey,J⟩:=Mq k f;rw[F] at ey;cases ey;have s:=(hw.2 i x u).same (g.trans A);obtain⟨a,C,dx,l2,rfl,hC,ha,hl2⟩:=id s;refine⟨T,_,O,eM.of gT,O,_,_,O,_,_,O,O,aY (B:=S H2) ⟨_,O,a,C,dx,_,O,hC,ha,O,_,O,.ref a,y,P.at i,_,z,O,s,ax.same (g.trans A) J,pp,Ok.mono (Ll bd f) Z,ez,(EV N f).1,by rw[z1];exact(EV N f).2,λw r H3 s3 on M=>kk _ _ ⟨(g.trans A).trans s3,by rw[SB,e];rfl,λj v I=>?_⟩⟩⟩;rcases kg I with ⟨_,I⟩|⟨rfl,rfl⟩
   ·obtain⟨r',o',h'⟩:=m j v I;exact⟨r',o',ax.same (A.trans s3) h'⟩
   ·rw[e];exact⟨r,on,M⟩
  ·obtain⟨g,e,m⟩:=h;rw[hw.1] at e;obtain⟨L,u1,s,rfl⟩:=IP e;obtain⟨I,M,h0⟩:=m 0 L rfl;obtain⟨J,o1,h1⟩:=m 1 u1 rfl;obtain⟨A,o2,h2⟩:=m 2 s rfl;refine⟨D,_,O,.inl ⟨bI.of ag,λy F=>?_⟩⟩;have f:=ah.new (o:=.lst [L,u1,s]) hD;exact q ⟨I,J,A⟩ (.ref y) _ ((g.trans f).trans (ah.new F)) ⟨M,o1,o2⟩ (ax.tupN (ds:=(Q3.mk I J A).ds) F (aB.same f (.cons h0 (.cons h1 (.cons h2 .nil)))))
theorem jc:ao uA8 uA8 (af bB):=cN
inductive i_ (vs:List V)(H:Hp)(Q:VK)(_:XK):Prop
 |mk (a C dx l:Sd) (x y:V) (ws:List V) (P:C3) (s:S9) (e:En) (_:vs=[.ref a,.ref l,x,y]) (_:cR K "SquareProfile" C) (_:H a=Y (.ins C dx [])) (_:H l=Y (.lst ws)) (_:jX K H P ws) (_:P.In 1000) (_:ax K H s.d x) (_:s.In) (_:eG K H e y) (_:e.In) (_:∀ H',Mv [a] H H'->(∀ T,cD H T->yP K (cut T H') P s.cp e (.ref a))->Q .non H')
theorem jd [T:cH K mg w]:tV P w K mg base yd 9 "SquareProfile" "__init__" uA8 uC2 3 1 [] i_:=by
  refine T.x3v.cal jc (bb:=λ_ _ _ _ _ H vs Q E hr h=>?_);obtain⟨a,C,c,l,x,y,ws,P,s,e,rfl,hC,hH,J,hw,hp,hx,hs,hy,ie,q⟩:=h;refine⟨_,(cA.go (ac (bo (ab av iY hr (aA (ak 1) (cO rfl T.xv))))
   (ac (bo (ab av iZ hr (aE (ak 3))))
   (ac (bo (ab av iT hr (aE (ak 2))))
   (ac (eQ (K:=K) (x:="SquareProfile") O T.x7 (.head _) (ak 0) (ab av lE hr (aE (ak 1))))
   (ac (eQ (K:=K) (x:="SquareProfile") O T.x7 (.tail _ (.head _)) (ak 0) (aG ["row"] [] [] 1 (bE (K:=K) O (ak 2)) (λnd=>(ai 0 nd)) aF (bQ (vT (K:=K) O) (by rfl) T.xc je (aE (ak 0)))))
   (ae (eQ (K:=K) (x:="SquareProfile") O T.x7 (.tail _ (.tail _ (.head _))) (ak 0) (ab av ng hr (aE (ak 3))))))))))),?_⟩
  refine⟨_,O,l,ws,P,1000,O,J,hw,hp,λH1 s1=>?_⟩;refine⟨_,O,y,e,O,hy.same s1,?_⟩;refine⟨_,O,x,s,O,ax.same s1 hx,hs,λH2 s2=>?_⟩;have f:=s1.trans s2;refine⟨_,O,l,ws,P,1000,O,f _ _ J,hw.same f,hp,λD us H3 s3 hD gD c3 cT=>?_⟩;have r:=f.trans s3;have ha:=r _ _ hH;refine⟨_,O,a,C,c,[],O,hC,ha,Z,?_⟩;generalize hG:upd H3 a (.ins C c (eU "curves" (.ref D) []))=G;have ga:G a=Y (.ins C c [("curves",.ref D)]):=by rw[<- hG];exact ag
  have sI:gR H3 G:=by rw[<- hG];exact gR.put ha
  have mG:Mv [a] H G:=λb o z d=>by rw[<- hG,ar (λw=>d (by simp[w]))];exact r _ _ z
  have gD':G D=Y (.lst us):=sI _ _ gD λ_ _ _ z=>nomatch z
  have yG:eG K G e y:=by rw[<- hG];exact(hy.same r).put ha Z
  have cG:∀ T,cD H T->jX K (cut T G) P us:=λT n=>by
   have F:a∉T:=n.not hH λ_ z=>nomatch z
   have e:cut T G=upd (cut T H3) a (.ins C c (eU "curves" (.ref D) [])):=by rw[<- hG];exact nX F
   rw[e];exact(cT T (n.same f)).put (by rw[fS F];exact ha) Z
  have xG:=ax.sameI sI (ax.same r hx);have hD0:H D=none:=nS (T:=[]) (l:=D) (Mv.of f) hD zyB;clear hG sI s1 s2 s3 f r ha J hw hx hy gD c3 cT;obtain⟨xa,xs,rfl,hxa,hxs⟩:=aL xG;have hxl:xs.length=3:=by rw[<- hxs.length];rfl
  refine⟨_,O,xa,s.k,O,⟨_,hxa⟩,kZ (K:=K) (xs:=xs) (λi p L=>ah G L/\p.length=i/\∀ (j:Nat) (v:V),p[j]?=Y v->∃ l,v=.ref l/\H l=none/\L l=Y (.lst (s.row j).vs)) ⟨ah.refl _,O,λj v e=>by simp at e⟩ (by rw[hxl];decide) (λi p L hi h=>⟨bY.same h.1 hxa,by have:=h.2.1;lia⟩) (λi x p L hx h R S kk _=>?_) (λp L h=>?_)⟩
  ·obtain⟨N,el,hz⟩:=h;obtain⟨hi,k,hr⟩:=Ob (aB.same N hxs) hx;obtain⟨ra,rfl,hra⟩:=lM hr;refine aY (B:=S L) ⟨_,O,ra,_,O,rJ hra,λl J=>kk _ _ ⟨N.trans (ah.new J),by rw[SB,el];rfl,λj v ej=>?_⟩⟩;rcases kg ej with ⟨_,ej⟩|⟨rfl,rfl⟩
   ·obtain⟨l',h1,h2,h3⟩:=hz j v ej;exact⟨l',h1,h2,ah.new J _ _ h3⟩
   ·rw[el];refine⟨l,O,nS (T:=[a]) (λb o z d=>N _ _ (mG _ _ z d)) J (λz=>?_),ag⟩;rw[RY.mp z,N _ _ ga] at J;cases J
  obtain⟨N,el,hz⟩:=h;intro g t;have sZ:=N.trans (ah.new (o:=.lst p) t);have eZ:upd L g (.lst p) g=Y (.lst p):=ag;have hD20:H g=none:=nS (T:=[a]) (λb o z d=>N _ _ (mG _ _ z d)) t (λz=>by rw[RY.mp z,N _ _ ga] at t;cases t);replace hz:∀ (j:Nat) (v:V),p[j]?=Y v->∃ l,v=.ref l/\H l=none/\upd L g (.lst p) l=Y (.lst (s.row j).vs):=λj v ej=>by obtain⟨l,h1,h2,h3⟩:=hz j v ej;exact⟨l,h1,h2,ah.new t _ _ h3⟩
  generalize upd L g (.lst p)=H4 at sZ eZ hz ⊢;rw[hxl] at el;obtain⟨z0,z1,z2,rfl⟩:=IP el;have I:=sZ _ _ ga;refine⟨_,O,a,C,c,_,O,hC,I,(by show 1<1000;decide),?_⟩;generalize A:upd H4 a (.ins C c (eU "square" (.ref g) [("curves",.ref D)]))=G2;have ga2:G2 a=Y (.ins C c [("curves",.ref D),("square",.ref g)]):=by rw[<- A];exact ag
  have sI2:gR H4 G2:=by rw[<- A];exact gR.put I
  have mG2:Mv [a] H G2:=λb o z d=>by rw[<- A,ar (λw=>d (by simp[w]))];exact sZ _ _ (mG _ _ z d)
  have yG2:eG K G2 e y:=by rw[<- A];exact(yG.same sZ).put I (by show([("curves":Str)]:List Str)≠[("white":Str),("black":Str)];decide)
  have cG2:∀ T,cD H T->jX K (cut T G2) P us:=λT n=>by
   have F:a∉T:=n.not hH λ_ z=>nomatch z
   have e:cut T G2=upd (cut T H4) a (.ins C c (eU "square" (.ref g) [("curves",.ref D)])):=by rw[<- A];exact nX F
   rw[e];exact((cG T n).same (ah.cut sZ)).put (by rw[fS F];exact I) (by show([("curves":Str)]:List Str)≠[("points":Str)];decide)
  refine⟨_,O,y,e,O,yG2,ie,λu H5 s5 en5=>?_⟩;have ga5:=s5 _ _ ga2;refine⟨_,O,a,C,c,_,O,hC,ga5,(by show 2<1000;decide),?_⟩;have F:∀ {T},cD H T->a∉T:=λn=>n.not hH λ_ z=>nomatch z
  have m5:Mv [a] H H5:=λb o z d=>s5 _ _ (mG2 _ _ z d)
  refine q _ (λb o z d=>by rw[ar (λw=>d (by simp[w]))];exact m5 _ _ z d) λT n=>?_
  have F:=F n;have lT5:cD H5 T:=λb m=>let ⟨w,e⟩:=n b m;⟨w,m5 _ _ e (λz=>F (RY.mp z▸m))⟩
  rw[nX F];have M:cut T H5 a=Y (.ins C c [("curves",.ref D),("square",.ref g)]):=by rw[fS F];exact ga5
  have at5:∀ {l:Sd}{o:HO},H l=none->H4 l=Y o->(∀ C c fs,o≠.ins C c fs)->upd (cut T H5) a (.ins C c (eU "bounds" u [("curves",.ref D),("square",.ref g)])) l=Y o:=λ{l o} h0 h4 hn=>by
   rw[ar (λz=>by rw[z,hH] at h0;cases h0),fS (n.new h0)];exact s5 _ _ (sI2 _ _ h4 hn)
  have rows:∀ (j:Nat) (v:V),[z0,z1,z2][j]?=Y v->ax K (upd (cut T H5) a (.ins C c (eU "bounds" u [("curves",.ref D),("square",.ref g)]))) (cB true (s.row j)) v:=λj v ej=>by
   obtain⟨l,rfl,h0,h4⟩:=hz j v ej;exact .lst (.inl (at5 h0 h4 λ_ _ _ z=>nomatch z)) (qN _)
  exact⟨a,C,c,D,us,.ref g,u,O,hC,ag,at5 hD0 (sZ _ _ gD') (λ_ _ _ z=>nomatch z),((cG2 T n).same (ah.cut s5)).put M (by show([("curves":Str),("square":Str)]:List Str)≠[("points":Str)];decide),
   .lst (.inl (at5 hD20 eZ λ_ _ _ z=>nomatch z)) (.cons (rows 0 z0 rfl) (.cons (rows 1 z1 rfl) (.cons (rows 2 z2 rfl) .nil))),(en5.mv Mv.self lT5).put M (by show([("curves":Str),("square":Str)]:List Str)≠[("white":Str),("black":Str)];decide)⟩
theorem i9:ao uB5 uB5 (af cX):=cN
inductive eE (vs:List V)(H:Hp)(Q:VK)(_:XK):Prop
 |mk (v x:V) (P:C3) (s:S9) (e:En) (c:Q3) (_:vs=[v,x]) (_:yP K H P s e v) (_:P.In 1000) (_:s.In) (_:ax K H c.col x) (_:c.Wi ((60:Int):Rat)) (_:c.Bd 17) (_:∀ (r:Q3) (u:V) (H':Hp),ah H H'->kK P c r->r.Bd 400->ax K H' (s.m.led r).col u->Q u H')
theorem jg [T:cH K mg w]:ky 8 "SquareProfile" "to_worth" uB5 [] eE:=by
  refine T.x33.cal i9 (bb:=λ_ _ _ _ _ H vs Q E f h=>?_);obtain⟨v,x,P,s,e,c,rfl,D,p,I,j,m,g,q⟩:=h;refine⟨_,(cA.go (ac (bo (ab av c7 f (aE (ak 1))))
   (ae (aq (ab av Nv f (aA (aR (K:=K) (x:="SquareProfile") O T.x7 (.tail _ (.head _)) (ak 0)) (ab av rj f (aA (aR (K:=K) (x:="SquareProfile") O T.x7 (.head _) (ak 0)) (ak 1))))))))),?_⟩
  refine⟨_,O,x,c,O,j,m,g.mono Z,λM i=>?_⟩;obtain⟨a,C,k,F,A,B,en,rfl,o,l,b,y,hq,N⟩:=D.same i;refine⟨_,O,a,C,k,_,_,O,o,l,O,_,O,a,C,k,_,_,O,o,l,O,_,O,F,x,A,P,1000,c,O,b,y,p,ax.same i j,g,m,λr u L s2 n G=>?_⟩;have t:=Mp p n g;exact⟨B,u,s,r,O,ax.same s2 hq,I,G,t.mono Z,λv J z d=>q r v J ((i.trans s2).trans z) n t d⟩
theorem fe:ao ["self","parts"] uA3 (af dE):=cN
inductive ff (vs:List V)(H:Hp)(Q:VK)(_:XK):Prop
 |mk (v:V) (P:C3) (s:S9) (e:En) (_:vs=[v]) (_:yP K H P s e v) (_:P.In 1000) (_:s.In) (_:∀ (q:Q3) (u:V) (H':Hp),ah H H'->Ae (.inl s) P q->q.Bd 25->ax K H' (.list q.ds) u->Q u H')
theorem jW [T:cH K mg w]:ky 5 "SquareProfile" "slopes" uA3 [] ff:=by
  refine T.x34.cal fe (bb:=λ_ _ _ _ _ H vs Q E I h=>?_);obtain⟨v,P,s,e,rfl,hv,hp,hs,q⟩:=h;refine⟨_,(cA.go (ac (cP 1 ["way"] uA3 [0] 1 fe.nd (bj rfl T.x0 (aE aa)) (λu=>(ai 0 u)) aF (ab av (bO T.x9) I (aA (ay (DE (K:=K) O O) (by rfl) T.xe vX (aE (aG ["row"] ["way"] [0] 1 (bE (K:=K) O (aR (K:=K) (x:="SquareProfile") O T.x7 (.tail _ (.head _)) (ak 1))) (λu=>(ai 0 u)) aF (ay rp (by rfl) T.xh Ab (aE (am K (ak 0) (ak 1))))))) (cO rfl T.xl))))
   (ae (aq (aG ["part","curve"] [] [] 2 (jF (K:=K) O O T.x8 (aA (ak 1) (aR (K:=K) (x:="SquareProfile") O T.x7 (.head _) (ak 0)))) (λu=>(cQ (K:=K) (n:=2) O O (az (ai 0 u) (az (ai 1 u) bv)))) aF (ab av dN I (aA (ak 0) (fw (K:=K) O av iW (I.mono Z) (ak 1))))))))),?_⟩
  obtain⟨a,C,dx,cl,us,qv,en,rfl,hC,ha,hcl,h3,hq,he⟩:=hv;obtain⟨qa,xs,rfl,J,hxs⟩:=aL hq;refine⟨3,O,Z,Z,tO (lo:=0) (n:=3) (λi l f=>ah H f/\l.length=i/\∀ (j:Nat) (v:V),l[j]?=Y v->∃ L:Rat,jC (.inl s) j L/\ax K f (rD L) v) ⟨ah.refl _,O,λj v e=>by simp at e⟩ Z (λi l f _ ⟨_,e,_⟩=>zyA) (λi l f hi ⟨g,e,F⟩ R S kk _=>?_) (λl f ⟨g,e,F⟩=>?_)⟩
  ·refine aY (B:=S f) ?_;refine⟨_,O,a,C,dx,_,_,O,hC,g _ _ ha,O,qa,s.k,O,⟨_,bY.same g J⟩,bT (es:=(rT s i).map Uf) (bY.same g J) (aB.same g hxs) O (Z:3<=1000) (λj d e x H2 hd he s2 N R2 M S2=>?_) (λys H2 s2 A D hD=>?_)⟩
   ·obtain⟨hj,k,r,er,I⟩:j<3/\∃ k r,(rT s i)[j]?=Y (A5 (r.nth i))/\ax K H2 (cB k r) x:=by
     rcases qD hd with ⟨rfl,rfl⟩|⟨rfl,rfl⟩|⟨rfl,rfl⟩
     ·exact⟨Z,_,s.x,O,N⟩
     ·exact⟨Z,_,s.y,O,N⟩
     ·exact⟨Z,_,s.z,O,N⟩
    rw[Sc,er] at he;cases he;obtain⟨ra,rfl,t⟩:=lM I;exact aY (B:=S2 H2) ⟨_,O,_,O,pE (i:=0+i) t (by rw[SL];exact IT hi) ⟨_,O,M _ _ ⟨ah.refl _,.int _⟩⟩⟩
   ·have ey:=AX A;subst ey;have G:=s2.trans (ah.new (o:=.lst ((rT s i).map V.int)) hD);refine⟨D,rT s i,O,bI.of ag,by simp[rT],λm hm t=>?_⟩;have mx:kD (rT s i) m:=⟨(Ew hs m hm).1,t,.inr hm⟩
    refine⟨m,1000,O,Z,Sm.mono (k:=20) (by unfold Sm;decide) Z,h_.sh Z λv H4 s4 hv=>kk _ _ ⟨(g.trans G).trans s4,by rw[SB,e];rfl,λj w p=>?_⟩⟩;rcases kg p with ⟨_,p⟩|⟨rfl,rfl⟩
    ·obtain⟨L,h1,h2⟩:=F j w p;exact⟨L,h1,ax.same (G.trans s4) h2⟩
    ·rw[e];exact⟨_,⟨m,mx,O⟩,hv⟩
  ·intro D hD;have A:=g.trans (ah.new (o:=.lst l) hD);have gD:upd f D (.lst l) D=Y (.lst l):=ag;replace F:∀ (j:Nat) (v:V),l[j]?=Y v->∃ L:Rat,jC (.inl s) j L/\ax K (upd f D (.lst l)) (rD L) v:=λj v p=>let ⟨L,h1,h2⟩:=F j v p;⟨L,h1,ax.same (ah.new hD) h2⟩
   generalize upd f D (.lst l)=H1 at A gD F ⊢;refine⟨_,O,_,O,a,C,dx,_,_,O,hC,A _ _ ha,O,D,cl,true,true,O,⟨_,bI.of gD⟩,⟨_,bI.of (A _ _ hcl)⟩,y7 (K:=K) (b1:=true) (b2:=true) (xs:=l) (ys:=us) (λi ys f=>ah H1 f/\ys.length=i/\∀ (j:Nat) (v:V),ys[j]?=Y v->∃ r:Rat,P1 (.inl s) P j r/\Bq 25 r/\ax K f (rD r) v) ⟨ah.refl _,O,λj v e=>by simp at e⟩ (by rw[e,h3.1]) (by rw[e];decide) (λi ys f ⟨g,e,_⟩=>⟨bI.of (g _ _ gD),bI.of (g _ _ (A _ _ hcl)),zyA⟩) (λi x y ys T f N hy ⟨g,e,hc⟩ hT R kk S=>?_) (λys f ⟨g,e',hc⟩ E hE=>?_)⟩
   ·have hi:i<3:=by rw[<- h3.1];exact(R9.mp hy).1
    generalize e0:upd f T _=H2;have sT:=gB hT e0;have gT:=eD e0;have t:=g.trans sT;obtain⟨L,hL,hx2⟩:=F i x N;have hcv:=(h3.2 i y hy).same (A.trans t);obtain⟨c,D',dy,l2,rfl,hD',hc',hl2⟩:=id hcv;have pp:=(hp i hi).1;refine⟨T,_,O,eM.of gT,O,_,_,O,_,_,O,O,aY (B:=S H2) ⟨_,O,_,O,c,D',dy,_,O,hD',hc',O,.ref c,P.at i,O,hcv,pp,λw st H3 G M hw=>?_⟩⟩;have bL:=zm (b:=.inl s) hs hL;have bS:=C9 pp M;refine⟨_,_,_,_,_,_,O,ax.same (t.trans G) hx2,hw,bL.mono Z,bS.mono Z,h_.mul λv4 H4 s4 hv4=>kk _ _ ⟨(t.trans G).trans s4,by rw[SB,e];rfl,λj v p=>?_⟩⟩;rcases kg p with ⟨_,p⟩|⟨rfl,rfl⟩
    ·obtain⟨r',o',b',h'⟩:=hc j v p;exact⟨r',o',b',ax.same ((sT.trans G).trans s4) h'⟩
    ·rw[e];exact⟨_,⟨L,st,hL,M,O⟩,Bq.mul bL bS,hv4⟩
   ·rw[e] at e';obtain⟨M,u1,t,rfl⟩:=IP e';obtain⟨x0,o0,b0,g0⟩:=hc 0 M rfl;obtain⟨x1,o1,b1,g1⟩:=hc 1 u1 rfl;obtain⟨x2,o2,b2,g2⟩:=hc 2 t rfl;have sE:=ah.new (o:=.lst [M,u1,t]) hE;refine q ⟨x0,x1,x2⟩ (.ref E) _ ((A.trans g).trans sE) (λk hk=>?_) ⟨b0,b1,b2⟩ (.lst (.inl ag) (aB.same sE (.cons g0 (.cons g1 (.cons g2 .nil)))))
    match k,hk with
    |0,_=>exact o0
    |1,_=>exact o1
    |2,_=>exact o2
theorem j5:ao uB1 uB1 (af bG):=cN
inductive j9 (vs:List V)(H:Hp)(Q:VK)(_:XK):Prop
 |mk (a C dx l:Sd) (x y:V) (ws:List V) (P:C3) (f:Kn->R3) (e:En) (_:vs=[.ref a,.ref l,x,y]) (_:cR K "GridProfile" C) (_:H a=Y (.ins C dx [])) (_:H l=Y (.lst ws)) (_:jX K H P ws) (_:P.In 60) (_:i' K H 2 f x) (_:Db 2 f) (_:eG K H e y) (_:e.In) (_:∀ H',Mv [a] H H'->(∀ T,cD H T->yn K (cut T H') P f e (.ref a))->Q .non H')
theorem j6 [T:cH K mg w]:tV P w K mg base yd 9 "GridProfile" "__init__" uB1 uC2 3 1 [] j9:=by
  refine T.x3w.cal j5 (bb:=λ_ _ _ _ _ H vs Q E N h=>?_);obtain⟨a,C,n,l,x,y,ws,P,f,e,rfl,hC,hH,hl,hw,hp,hx,wt,hy,ie,q⟩:=h;refine⟨_,(cA.go (ac (bo (ab av iY N (aA (ak 1) (cO rfl T.xg))))
   (ac (bo (ab av iZ N (aE (ak 3))))
   (ac (aZ (bu (aV (ay (E6 (K:=K) (x:="Grid") O T.x1 T.x10) (by rfl) T.x2 a_ (aA (ak 2) (ot (K:=K) (x:="Grid") O O (jo T.x1)))))) (ae bH) aH)
   (ac (eQ (K:=K) (x:="GridProfile") O T.x6 (.head _) (ak 0) (ab av lE N (aE (ak 1))))
   (ac (eQ (K:=K) (x:="GridProfile") O T.x6 (.tail _ (.head _)) (ak 0) (qS (K:=K) O av fN (N.mono Z) O (aA (aR (K:=K) (x:="Grid") O T.x1 (.head _) (ak 2)) (aR (K:=K) (x:="Grid") O T.x1 (.tail _ (.head _)) (ak 2)))))
   (ae (eQ (K:=K) (x:="GridProfile") O T.x6 (.tail _ (.tail _ (.head _))) (ak 0) (ab av ng N (aE (ak 3))))))))))),?_⟩
  refine⟨_,O,l,ws,P,60,O,hl,hw,hp,λH1 A=>?_⟩;refine⟨_,O,y,e,O,hy.same A,?_⟩;obtain⟨g,Cg,dy,Lt,rfl,d,L,t⟩:=hx.same A;refine⟨_,O,λD hD=>?_⟩;cases bK hD d;refine⟨_,_,O,d,.inl ⟨g,dy,_,O,L,_,O,bN ?_⟩⟩;refine⟨_,O,l,ws,P,60,O,A _ _ hl,hw.same A,hp,λD us H3 s3 hD gD c3 cT=>?_⟩;have j:=A.trans s3;have J:=j _ _ hH;refine⟨_,O,a,C,n,[],O,hC,J,Z,?_⟩;generalize F:upd H3 a (.ins C n (eU "curves" (.ref D) []))=G;have ga:G a=Y (.ins C n [("curves",.ref D)]):=by rw[<- F];exact ag
  have sI:gR H3 G:=by rw[<- F];exact gR.put J
  have mG:Mv [a] H G:=λb o z s=>by rw[<- F,ar (λw=>s (by simp[w]))];exact j _ _ z
  have gD':G D=Y (.lst us):=sI _ _ gD λ_ _ _ z=>nomatch z
  have yG:eG K G e y:=by rw[<- F];exact(hy.same j).put J Z
  have cG:∀ T,cD H T->jX K (cut T G) P us:=λT i=>by
   have r:a∉T:=i.not hH λ_ z=>nomatch z
   have e:cut T G=upd (cut T H3) a (.ins C n (eU "curves" (.ref D) [])):=by rw[<- F];exact nX r
   rw[e];exact(cT T (i.same A)).put (by rw[fS r];exact J) Z
  have xG:i' K G 2 f (.ref g):=by rw[<- F];exact(hx.same j).put J Z
  have I:H D=none:=nS (T:=[]) (l:=D) (Mv.of A) hD zyB;clear F A s3 j J hl hw hx hy gD c3 cT L t d sI;obtain⟨_,Cg,dy,Lt,eg,d,L,t⟩:=id xG;cases eg;refine⟨_,O,g,Cg,dy,_,_,O,d,L,O,_,O,g,Cg,dy,_,_,O,d,L,O,λC3 b dz hC3 hb hdz hne=>?_⟩;generalize e0:upd (upd G dz _) b _=H5;have v:=Bl hb hdz hne e0;have gv:=eD e0;refine⟨b,C3,dz,Lt,2,f,O,hC3,gv,t.same v,wt,Z,Z,λH4 L4 M hb4 gL4 hL4=>⟨O,?_⟩⟩;have sZ:ah G H4:=λb' o e=>M _ _ (v _ _ e) (λz=>by rw[RY.mp z,hb] at e;cases e)
  have gr4:i' K H4 2 f (.ref b):=⟨b,C3,dz,L4,O,hC3,hb4,gL4⟩
  clear v gv M hb4 gL4 hL4 L t xG;have k:=sZ _ _ ga;refine⟨_,O,a,C,n,_,O,hC,k,(by show 1<1000;decide),?_⟩;generalize c:upd H4 a (.ins C n (eU "grid" (.ref b) [("curves",.ref D)]))=B;have ga2:B a=Y (.ins C n [("curves",.ref D),("grid",.ref b)]):=by rw[<- c];exact ag
  have sI2:gR H4 B:=by rw[<- c];exact gR.put k
  have mG2:Mv [a] H B:=λb o z s=>by rw[<- c,ar (λw=>s (by simp[w]))];exact sZ _ _ (mG _ _ z s)
  have yG2:eG K B e y:=by rw[<- c];exact(yG.same sZ).put k (by show([("curves":Str)]:List Str)≠[("white":Str),("black":Str)];decide)
  have gr2:i' K B 2 f (.ref b):=by rw[<- c];exact gr4.put k (by show([("curves":Str)]:List Str)≠[("knots":Str),("table":Str)];decide)
  have cG2:∀ T,cD H T->jX K (cut T B) P us:=λT i=>by
   have r:a∉T:=i.not hH λ_ z=>nomatch z
   have e:cut T B=upd (cut T H4) a (.ins C n (eU "grid" (.ref b) [("curves",.ref D)])):=by rw[<- c];exact nX r
   rw[e];exact((cG T i).same (ah.cut sZ)).put (by rw[fS r];exact k) (by show([("curves":Str)]:List Str)≠[("points":Str)];decide)
  refine⟨_,O,y,e,O,yG2,ie,λu H5 v en5=>?_⟩;have ga5:=v _ _ ga2;refine⟨_,O,a,C,n,_,O,hC,ga5,(by show 2<1000;decide),?_⟩;have r:∀ {T},cD H T->a∉T:=λi=>i.not hH λ_ z=>nomatch z
  have m5:Mv [a] H H5:=λb o z s=>v _ _ (mG2 _ _ z s)
  refine q _ (λb o z s=>by rw[ar (λw=>s (by simp[w]))];exact m5 _ _ z s) λT i=>?_
  have r:=r i;have lT5:cD H5 T:=λb m=>let ⟨w,e⟩:=i b m;⟨w,m5 _ _ e (λz=>r (RY.mp z▸m))⟩
  rw[nX r];have p:cut T H5 a=Y (.ins C n [("curves",.ref D),("grid",.ref b)]):=by rw[fS r];exact ga5
  refine⟨a,C,n,D,us,.ref b,u,O,hC,ag,?_,((cG2 T i).same (ah.cut v)).put p (by show([("curves":Str),("grid":Str)]:List Str)≠[("points":Str)];decide),((gr2.same v).mv Mv.self lT5).put p (by show([("curves":Str),("grid":Str)]:List Str)≠[("knots":Str),("table":Str)];decide),(en5.mv Mv.self lT5).put p (by show([("curves":Str),("grid":Str)]:List Str)≠[("white":Str),("black":Str)];decide)⟩;rw[ar (λz=>by rw[z,hH] at I;cases I),fS (i.new I)];exact v _ _ (sI2 _ _ (sZ _ _ gD') λ_ _ _ z=>nomatch z)
theorem j8:ao uB5 uB5 (af dG):=cN
inductive e_ (vs:List V)(H:Hp)(Q:VK)(_:XK):Prop
 |mk (v x:V) (P:C3) (f:Kn->R3) (e:En) (c:Q3) (_:vs=[v,x]) (_:yn K H P f e v) (_:P.In 60) (_:Db 2 f) (_:ax K H c.col x) (_:c.Wi ((60:Int):Rat)) (_:c.Bd 17) (_:Em K "parts_by_four" H) (_:∀ (r:Q3) (u:V) (H':Hp),ah H H'->kK P c r->r.Wi ((60:Int):Rat)->r.Bd 400->ax K H' (W4 2 f r).col u->(W4 2 f r).Bd 3900->Q u H')
theorem j_ [T:cH K mg w]:ky 8 "GridProfile" "to_worth" uB5 [] e_:=by
  refine T.x35.cal j8 (bb:=λ_ _ _ _ _ H vs Q E m h=>?_);obtain⟨v,x,P,f,e,c,rfl,G,i,wt,p,o,j,N,q⟩:=h;refine⟨_,(cA.go (ac (bo (ab av c7 m (aE (ak 1))))
   (ae (aq (vB (K:=K) O av (iM T.x2a) (m.mono Z) (aR (K:=K) (x:="GridProfile") O T.x6 (.tail _ (.head _)) (ak 0)) (aE (ab av rj m (aA (aR (K:=K) (x:="GridProfile") O T.x6 (.head _) (ak 0)) (ak 1)))) dQ))))),?_⟩
  refine⟨_,O,x,c,O,p,o,j.mono Z,λH1 k=>?_⟩;obtain⟨a,C,s,I,F,gv,en,rfl,y,t,l,A,hq,he⟩:=G.same k;obtain⟨g,M,dy,L,rfl,n,hg,gL⟩:=id hq;refine⟨_,O,a,C,s,_,_,O,y,t,O,g,M,dy,_,O,n,hg,O,_,O,a,C,s,_,_,O,y,t,O,_,O,I,x,F,P,60,c,O,l,A,i,ax.same k p,j,o,λr u H2 s2 d J=>?_⟩;have rb:=Mp (cap:=60) i d j;have rw:=EF i d o;exact⟨.ref g,u,"four",2,f,r,60,O,hq.same s2,wt,Z,Z,J,rw,Dq i d j,Z,(N.same k).same s2,.inl rfl,λr4 v H3 D B _ z b=>by
   rw[B rfl] at b z;exact q r v H3 ((k.trans s2).trans D) d rw rb b (z.mono Z)⟩
theorem f7:ao ["self","part"] uA3 (af dW):=cN
inductive fZ (vs:List V)(H:Hp)(Q:VK)(_:XK):Prop
 |mk (v:V) (P:C3) (f:Kn->R3) (e:En) (_:vs=[v]) (_:yn K H P f e v) (_:P.In 60) (_:Db 2 f) (_:∀ (q:Q3) (u:V) (H':Hp),ah H H'->Ae (.inr f) P q->q.Bd 25->ax K H' (.list q.ds) u->Q u H')
theorem k_ [T:cH K mg w]:ky 5 "GridProfile" "slopes" uA3 [] fZ:=by
  refine T.x36.cal f7 (bb:=λ_ _ _ _ _ H vs Q E p h=>?_);obtain⟨v,P,f,e,rfl,hv,hp,wt,q⟩:=h;refine⟨_,(cA.go (ac (aw 1 f7.nd (ab av (bO T.x9) p (aA (fw (K:=K) O av r6 (p.mono Z) (aR (K:=K) (x:="GridProfile") O T.x6 (.tail _ (.head _)) (ak 0))) (am K (fw (K:=K) O av mN (p.mono Z) (aR (K:=K) (x:="GridProfile") O T.x6 (.tail _ (.head _)) (ak 0))) aa))))
   (ae (aq (aG ["curve"] ["part"] [1] 1 (bE (K:=K) O (aR (K:=K) (x:="GridProfile") O T.x6 (.head _) (ak 0))) (λnd=>(ai 0 nd)) aF (ab av dN p (aA (ak 1) (fw (K:=K) O av iW (p.mono Z) (ak 0))))))))),?_⟩
  obtain⟨a,C,dx,cl,us,gv,en,rfl,hC,J,z,G,hq,he⟩:=hv;obtain⟨g,C2,dy,L,rfl,s,hg,gL⟩:=id hq;refine⟨_,O,a,C,dx,_,_,O,hC,J,O,g,C2,dy,_,O,s,hg,O,.ref g,2,f,O,hq,wt,Z,Z,λm H1 I mx=>?_⟩;refine⟨_,O,a,C,dx,_,_,O,hC,I _ _ J,O,g,C2,dy,_,O,s,I _ _ hg,O,.ref g,2,f,O,hq.same I,Z,Z,λw H2 s2 hw=>?_⟩;obtain⟨wa,ws,rfl,hwa,hws⟩:=aL (b:=false) (ds:=[.int 2,.int (fu 2)]) hw;obtain⟨w0,w1,rfl,hw0,hw1⟩:=lK hws;cases hw1;refine pE (b:=false) (i:=1) hwa rfl ⟨m,60,O,Z,Sm.mono (k:=20) (by unfold Sm;decide) Z,h_.sh Z λpt H3 s3 t=>?_⟩;have d:=(I.trans s2).trans s3;have hL:jC (.inr f) 0 ((m:Rat)/((60:Int):Rat)):=⟨m,mx,O⟩
  generalize (m:Rat)/((60:Int):Rat)=L at hL t;have hL':∀ k,jC (.inr f) k L:=λk=>hL
  have bL:=zm (b:=.inr f) wt hL;refine⟨_,O,a,C,dx,_,_,O,hC,d _ _ J,O,cl,true,O,⟨_,bI.of (d _ _ z)⟩,kZ (K:=K) (xs:=us) (λi D n=>ah H3 n/\D.length=i/\∀ (j:Nat) (v:V),D[j]?=Y v->∃ r:Rat,P1 (.inr f) P j r/\Bq 25 r/\ax K n (rD r) v) ⟨ah.refl _,O,λj v e=>by simp at e⟩ (by rw[G.1];decide) (λi D n hi ⟨l,e,_⟩=>⟨bI.of (l _ _ (d _ _ z)),zyA⟩) (λi y D n hy ⟨l,e,A⟩ R S kk _=>?_) (λD n ⟨l,e,A⟩ E hE=>?_)⟩
  ·have hi:i<3:=by rw[<- G.1];exact(R9.mp hy).1
   have F:=(G.2 i y hy).same (d.trans l);obtain⟨c,D',dz,l2,rfl,hD',hc',hl2⟩:=id F;have pp:=(hp i hi).1;refine aY (B:=S n) ⟨_,O,_,O,c,D',dz,_,O,hD',hc',O,.ref c,P.at i,O,F,pp,λw st H4 s4 u hw=>?_⟩;have bS:=C9 pp u;refine⟨_,_,_,_,_,_,O,ax.same (l.trans s4) t,hw,bL.mono Z,bS.mono Z,h_.mul λv4 H5 s5 M=>kk _ _ ⟨(l.trans s4).trans s5,by rw[SB,e];rfl,λj v N=>?_⟩⟩;rcases kg N with ⟨_,N⟩|⟨rfl,rfl⟩
   ·obtain⟨r',o',b',h'⟩:=A j v N;exact⟨r',o',b',ax.same (s4.trans s5) h'⟩
   ·rw[e];exact⟨_,⟨L,st,hL' i,u,O⟩,Bq.mul bL bS,M⟩
  ·rw[G.1] at e;obtain⟨F,u1,u,rfl⟩:=IP e;obtain⟨x0,o0,b0,g0⟩:=A 0 F rfl;obtain⟨x1,o1,b1,g1⟩:=A 1 u1 rfl;obtain⟨x2,o2,N,M⟩:=A 2 u rfl;have sE:=ah.new (o:=.lst [F,u1,u]) hE;refine q ⟨x0,x1,x2⟩ (.ref E) _ ((d.trans l).trans sE) (λk hk=>?_) ⟨b0,b1,N⟩ (.lst (.inl ag) (aB.same sE (.cons g0 (.cons g1 (.cons M .nil)))))
   match k,hk with
   |0,_=>exact o0
   |1,_=>exact o1
   |2,_=>exact o2
theorem nv:ao j0 j0 (af fk):=cN
inductive mV (vs:List V)(H:Hp)(Q:VK)(_:XK):Prop
 |mk (v:V) (_:vs=[v]) (_:LK K H v) (_:∀ H',ah H H'->Q .non H')
theorem eN [T:cH K mg w]:bF 1 "refuse_no_profile" j0 [] mV:=by
  refine T.x37.cal nv (bb:=λ_ _ _ _ _ H vs Q E j h=>?_);obtain⟨v,rfl,⟨a,E,f,fs,rfl,c,i⟩,q⟩:=h;refine⟨_,(cA.go (ae (aZ (bu (aV (ay (M6 (K:=K) (x:="SquareProfile") (y:="GridProfile") O T.x7 T.x12 T.x6 T.x11 T.x16) (by rfl) T.x2 a_ (aA (ak 0) (aW (aA (ot (K:=K) (x:="SquareProfile") O O (jo T.x7)) (ot (K:=K) (x:="GridProfile") O O (jo T.x6)))))))) (ae bH) aH))),?_⟩;refine⟨_,O,λC d D e=>⟨kY,λp g=>?_⟩⟩;have b:=ah.new (o:=.tup [.ref C,.ref D]) g;refine⟨_,C,D,p,O,d,e,ag,.inl ⟨a,f,fs,O,?_,_,O,bN (q _ b)⟩⟩;rcases i with z|z
  ·cases bK d z;exact .inl (b _ _ c)
  ·cases bK e z;exact .inr (b _ _ c)
theorem Ao:ao ["profile"] ["profile"] (af mP):=cN
theorem zn.slopes {H:Hp}{P:C3}{b:S9 ⊕ (Kn->R3)}{e:En}{v:V}{k:Nat}{i:L2.St}{Q:VK} (h:zn K H P b e v) (j:i[k]?=Y (Y v)) (q:∀ (q:Q3) (u:V) (H':Hp),ah H H'->Ae b P q->q.Bd 25->ax K H' (.list q.ds) u->Q u H') :
  zt K "SquareProfile" "slopes" ff [] E0 (rX k) yf i H Q\/zt K "GridProfile" "slopes" fZ [] E0 (rX k) yf i H Q:=by
 cases b with
 |inl s=>
  obtain⟨a,C,c,l,vs,n,en,rfl,g,d,m⟩:=id h.1;exact .inl ⟨_,j,a,C,c,_,O,g,d,O,.ref a,P,s.cp,e,O,h.1,h.2.2,h.2.1.cp,q⟩
 |inr f=>
  obtain⟨a,C,c,l,vs,n,en,rfl,g,d,m⟩:=id h.1;exact .inr ⟨_,j,a,C,c,_,O,g,d,O,.ref a,P,f,e,O,h.1,h.2.2,h.2.1,q⟩
inductive Ag (vs:List V)(H:Hp)(Q:VK)(_:XK):Prop
 |mk (v:V) (P:C3) (b:S9 ⊕ (Kn->R3)) (e:En) (_:vs=[v]) (_:zn K H P b e v) (_:∀ (q:Q3) (u:V) (H':Hp),ah H H'->Ae b P q->q.Bd 25->ax K H' (rD (q.a+q.b+q.c)) u->Q u H')
theorem qU [T:cH K mg w]:bF 6 "slope_sum" ["profile"] [] Ag:=by
  refine T.x38.cal Ao (bb:=λ_ _ _ _ _ H vs Q E f h=>?_);obtain⟨v,P,b,e,rfl,g,q⟩:=h;refine⟨_,(cA.go (ac (bo (ab av eN f (aE (ak 0))))
   (ae (aq (ab av zH f (aE (lS (fw (K:=K) O av jW (f.mono Z) (ak 0)) (fw (K:=K) O av k_ (f.mono Z) (ak 0))))))))),?_⟩
  refine⟨_,O,v,O,g.pr,λo i=>?_⟩;refine(g.same i).slopes rfl λd u n s2 l bs k=>?_
  refine⟨u,true,25,[d.a,d.b,d.c],O,k,λr f=>?_,Z,by show 3*(25+1)+1<=3900;decide,λw m j hw=>?_⟩
  ·simp only[R',Sg,TK] at f;rcases f with rfl|rfl|rfl
   ·exact bs.a
   ·exact bs.b
   ·exact bs.c
  ·refine q d w m ((i.trans s2).trans j) l bs ?_;have e:Ce [d.a,d.b,d.c]=d.a+d.b+d.c:=by simp only[Ce,Zu,List.foldl_nil];grind
   rw[<- e];exact hw
theorem BU:ao uA6 uA6 (af gY):=cN
theorem zn.worth {H:Hp}{P:C3}{b:S9 ⊕ (Kn->R3)}{e:En}{v:V}{k:Nat}{n:TA}{j:L2.St}{Q:VK}{c:Q3} (h:zn K H P b e v) (tb:Em K "parts_by_four" H) (B:j[k]?=Y (Y v)) (i:∀ R:List V->Hp->Prop,(∀ x H',ah H H'->ax K H' c.col x->R [x] H')->n j H R) (A:c.Wi ((60:Int):Rat)) (D:c.Bd 17)
  (q:∀ (u:V) (H':Hp),ah H H'->kK P c (At P c)->ax K H' (Dy b (At P c)).col u->Q u H'):
  zt K "SquareProfile" "to_worth" eE [] E0 (rX k) n j H Q\/zt K "GridProfile" "to_worth" e_ [] E0 (rX k) n j H Q:=by
 cases b with
 |inl s=>
  obtain⟨a,C,o,l,vs,G,en,rfl,y,p,F⟩:=id h.1;refine .inl ⟨_,B,a,C,o,_,O,y,p,O,i _ λx E d m=>?_⟩;exact⟨.ref a,x,P,s.cp,e,c,O,h.1.same d,h.2.2,h.2.1.cp,m,A,D,λr u t s2 g I z=>by
   cases EE h.2.2 g;exact q u t (d.trans s2) g z⟩
 |inr f=>
  obtain⟨a,C,o,l,vs,G,en,rfl,y,p,F⟩:=id h.1;refine .inr ⟨_,B,a,C,o,_,O,y,p,O,i _ λx E d m=>?_⟩;exact⟨.ref a,x,P,f,e,c,O,h.1.same d,h.2.2,h.2.1,m,A,D,tb.same d,λr u t s2 g _ _ z I=>by
   cases EE h.2.2 g;exact q u t (d.trans s2) g z⟩
inductive Cw (vs:List V)(H:Hp)(Q:VK)(_:XK):Prop
 |mk (pv x tv:V) (i n:Str) (P:C3) (b:S9 ⊕ (Kn->R3)) (e e2:En) (c:Q3) (_:vs=[pv,.str i,x,tv]) (_:zn K H P b e pv) (_:iE.lookup i=Y n) (_:ax K H c.col x) (_:c.Wi ((60:Int):Rat)) (_:c.Bd 17) (_:Em K "parts_by_four" H) (_:qx K H e2 tv) (_:e.In) (_:e2.In) (_:∀ (v:V) (H':Hp),ah H H'->kK P c (At P c)->ax K H' (wX i e e2 b P c).col v->(wX i e e2 b P c).Bd 520->Q v H')
theorem mM [T:cH K mg w]:Du P w K mg base yd 9 "stepwise" uA6 uE8 3 1 [] Cw:=by
  refine T.x3x.cal BU (bb:=λ_ _ _ _ _ H vs Q E d h=>?_);obtain⟨pv,x,D,i,n,P,b,e,y,c,rfl,f,z,t,o,s,F,I,r,m,q⟩:=h;refine⟨_,(cA.go (ac (bo (ab av eN d (aE (ak 0))))
   (ae (aq (iA av AD (d.mono Z) O (aA (lS (qH (K:=K) O av jg (d.mono Z) (ak 0) (aE (ak 2))) (qH (K:=K) O av j_ (d.mono Z) (ak 0) (aE (ak 2)))) (ak 1)) (bZ (lS (aR (K:=K) (x:="SquareProfile") O T.x7 (.tail _ (.tail _ (.head _))) (ak 0)) (aR (K:=K) (x:="GridProfile") O T.x6 (.tail _ (.tail _ (.head _))) (ak 0))) (bZ (ak 3) dQ))))))),?_⟩
  refine⟨_,O,pv,O,f.pr,λL g=>?_⟩;refine(f.same g).worth (F.same g) O (λR k=>⟨_,O,k _ _ (ah.refl _) (ax.same g t)⟩) o s λu J s2 p C=>?_
  have a:=g.trans s2;have l:=LG f p o s;refine⟨_,O,(f.same a).bounds rfl λen j=>⟨_,O,u,en,D,i,n,_,e,y,O,C,l.mono Z,z,j,I.same a,r,m,λv G A B=>q v G (a.trans A) p B (Mu l r m)⟩⟩
theorem lq:ao ["profile","intent","there","knots","table","place","colour","worth"] uA0 (af lH):=cN
inductive FA (vs:List V)(H:Hp)(Q:VK)(_:XK):Prop
 |mk (pv tv:V) (i nm:Str) (n:Nat) (P:C3) (b:S9 ⊕ (Kn->R3)) (e e2:En) (_:vs=[pv,.str i,tv,.int n]) (_:2<=n) (_:n<=7) (_:zn K H P b e pv) (_:iE.lookup i=Y nm) (_:Em K "parts_by_four" H) (_:qx K H e2 tv) (_:e.In) (_:e2.In) (_:∀ (g C dx L:Sd) (H':Hp),ah H H'->cR K "Grid" C->H' g=Y (.ins C dx [("knots",.int n),("table",.ref L)])->Gr K H' n (dS n i e e2 b P) L->Q (.ref g) H')
theorem FY [T:cH K mg w]:Du P w K mg base yd 10 "linked" uA0 uC6 2 2 [] FA:=by
  refine T.x3y.cal lq (bb:=λ_ _ _ _ _ H vs Q E r h=>?_);obtain⟨pv,tv,i,nm,n,P,b,e,p,rfl,n2,s,hp,hn,tb,h2,i1,i2,q⟩:=h;refine⟨_,(cA.go (ac (bo (ab av jO r (aE (ak 3))))
   (ac (aw 4 lq.nd zd)
   (ac (de SW rfl (bE (K:=K) O (ab av mq r (aE (ak 3)))) (ai 5 lq.nd) (ac (aw 6 lq.nd (bQ (gN (K:=K) O) (by rfl) T.x3 cF (aE (aG ["at"] uE7 [3] 1 (bE (K:=K) O (ak 5)) (λnd=>(ai 0 nd)) aF (ab av (bO T.xd) r (aE (au aM (ak 0) (ab av vY r (aE (ak 1))))))))))
   (ac (aw 7 lq.nd (iA av mM (r.mono Z) O (aj (ak 0) (aj (ak 1) (aj (ak 6) aN))) (bZ (ak 2) dQ)))
   (ae (C0 r.u1 (ak 4) (ak 5) (bQ (gN (K:=K) O) (by rfl) T.x3 cF (aE (aG uC9 [] [] 1 (bE (K:=K) O (ak 7)) (λnd=>(ai 0 nd)) aF (ab av Kp r (aE (ab av rQ r (aE (ak 0)))))))) O)))))
   (ae (aq (qS (K:=K) O av fN (r.mono Z) O (aA (ak 3) (ak 4))))))))),?_⟩
  refine⟨_,O,n,O,n2,s,λd hd=>?_⟩;generalize e0:upd H d _=H1;have s0:=gB hd e0;have g0:=eD e0;refine⟨_,O,n,O,s,λD ys H2 s2 hD hys=>?_⟩;refine⟨D,true,O,⟨_,bI.of hD⟩,lU (λk σ H'=>(∃ o1 o2 o3,σ=[Y pv,Y (.str i),Y tv,Y (.int n),Y (.ref d),o1,o2,o3])/\ah H H'/\ij H2 H'/\yZ K H' ((aI n).take k) (dS n i e p b P) d)
   ⟨⟨_,_,_,O⟩,s0.trans s2,λ_ _ e _=>e,[],s2 _ _ g0,.nil⟩ (λk σ H' _ ⟨_,_,sd,_⟩=>bI.of (sd _ _ hD λ_ z=>nomatch z)) ?_ ?_⟩
  ·rintro k x σ H3 ex ⟨⟨o1,o2,o3,rfl⟩,s3,sd,ws,e3,hws⟩;obtain⟨dd,ed,hdd⟩:=hys.get ex;rw[Sc] at ed;obtain⟨t,et,rfl⟩:=So.mp ed;have htm:=Se et;have fresh:t∉(aI n).take k:=λz=>by
    obtain⟨j,hj,N⟩:=TY z;rw[SX] at hj;rw[YN] at N;obtain⟨hi,ei⟩:=R9.mp et;exact Wn.mp (BX s) j k zyA hi zyA (N.trans ei.symm)
   obtain⟨ka,rfl,F⟩:=qK (ax.sameD sd hdd);have few:(aI n).length<=343:=by
    rw[lI];exact WC s 3
   obtain⟨wi,bd⟩:=Df n2 s htm;obtain⟨a0,_,a60⟩:=jG n2 s;refine⟨_,O,ka,false,O,⟨_,eM.of F⟩,bT (b:=false) (ds:=[.int t.1,.int t.2.1,.int t.2.2]) (es:=(uR n t).ds) (eM.of F) (.cons (.int _) (.cons (.int _) (.cons (.int _) .nil))) O (Z:3<=1000) (λj dj N u H4 J f s4 hu R4 kk4 S4=>?_) (λM H4 s4 hzs G hZ=>?_)⟩
   ·obtain⟨m,hm,rfl,rfl⟩:∃ m:Nat,m<7/\dj=.int m/\N=rD (((fu n*m:Int)):Rat):=by
     obtain⟨t1,t2,t3⟩:=bA.mp htm;rcases qD J with ⟨rfl,rfl⟩|⟨rfl,rfl⟩|⟨rfl,rfl⟩
     ·exact⟨t.1,zyA,O,(RU f).symm⟩
     ·exact⟨t.2.1,zyA,O,(RU f).symm⟩
     ·exact⟨t.2.2,zyA,O,(RU f).symm⟩
    cases hu;refine aY (B:=S4 H4) ⟨_,O,_,O,n,O,n2,s,_,_,O,O,.inr (by unfold Sm;lia),_,1,O,Z,Sm.mono (k:=20) (by unfold Sm;decide) Z,λv n' d' H5 A hv lw=>?_⟩;obtain⟨rfl,rfl⟩:=l7 Z lw (EA _);exact kk4 _ _ ⟨A,by rw[xC,VC];exact hv⟩
   refine⟨G,_,O,.inl ⟨bI.of ag,λy hy=>?_⟩⟩;have sZ:=ah.new (o:=.lst M) hZ;have A:=(s4.trans sZ).trans (ah.new (o:=.tup M) hy);have gy:ax K (upd (upd H4 G (.lst M)) y (.tup M)) (uR n t).col (.ref y):=ax.tupN (ds:=(uR n t).ds) hy (aB.same sZ hzs);generalize upd (upd H4 G (.lst M)) y (.tup M)=H5 at A gy ⊢;have I:=s3.trans A;refine⟨_,O,_,O,_,O,_,O,pv,.ref y,tv,i,nm,P,b,e,p,_,O,hp.same I,hn,gy,wi,bd,tb.same I,h2.same I,i1,i2,λwv H6 s6 on hw bw=>?_⟩;obtain⟨wa,ws',rfl,hwa,hws'⟩:=aL (b:=false) (ds:=(wX i e p b P (uR n t)).ds) hw;have s36:=A.trans s6;refine⟨_,O,wa,false,O,⟨_,hwa⟩,bT (b:=false) (es:=(dS n i e p b P t).ds) hwa hws' rfl (Z:3<=1000) (λj dj N u H7 J f s7 hu R7 kk7 S7=>?_) (λzs' H7 s7 hzs' Z' hZ'=>?_)⟩
   ·obtain⟨m,bm,rfl,rfl⟩:∃ m:Rat,Bq 520 m/\dj=rD m/\N=.int (Fp (nw m)):=by
     rcases qD J with ⟨rfl,rfl⟩|⟨rfl,rfl⟩|⟨rfl,rfl⟩
     ·exact⟨_,bw.a,O,(RU f).symm⟩
     ·exact⟨_,bw.b,O,(RU f).symm⟩
     ·exact⟨_,bw.c,O,(RU f).symm⟩
    exact aY (B:=S7 H7) ⟨_,O,u,_,_,O,hu,Ok.mono bm Z,_,O,kk7 _ _ ⟨ah.refl _,.int _⟩⟩
   have ez:=g_ hzs';subst ez;refine⟨Z',_,O,.inl ⟨bI.of ag,λz hz=>?_⟩⟩;have s8:=(s7.trans (ah.new (o:=.lst (dS n i e p b P t).vs) hZ')).trans (ah.new (o:=.tup (dS n i e p b P t).vs) hz);have gz:ax K (upd (upd H7 Z' (.lst (dS n i e p b P t).vs)) z (.tup (dS n i e p b P t).vs)) (wD (dS n i e p b P t)) (.ref z):=.tup ag (qN _);generalize upd (upd H7 Z' (.lst (dS n i e p b P t).vs)) z (.tup (dS n i e p b P t).vs)=H8 at s8 gz ⊢;have l:=s36.trans s8;have e8:=l _ _ e3;refine⟨_,O,_,O,d,_,O,FD.t (k:=c5 t) e8 (by rw[Ap];exact l _ _ F) (by rw[sg (yZ.len hws),SX];exact bR zyA),⟨_,_,_,O⟩,λb' o z'=>?_,λb' o z' nz=>ij.put e8 _ _ (l _ _ (sd _ _ z' nz)) nz,?_⟩
   ·rw[ar (λw=>by rw[w,hd] at z';cases z')];exact l _ _ (s3 _ _ z')
   ·rw[cw et];exact yZ.more e8 (aB.same l hws) fresh gz
  ·rintro σ H3 ⟨⟨o1,o2,o3,rfl⟩,s3,sd,J⟩;have ly:=hys.length;rw[R5] at ly;rw[SY zyA] at J;refine⟨_,O,_,O,λC g f N M G I=>?_⟩;generalize e0:upd (upd H3 f _) g _=H5;have A:=Bl M G I e0;have gv:=eD e0;refine⟨g,C,f,d,n,_,O,N,gv,⟨_,.refl _,J.same A⟩,AV,n2,s,λH6 L F l gL hL=>⟨O,?_⟩⟩;have s6:ah H3 H6:=λb' o z=>F _ _ (A _ _ z) (λw=>by rw[RY.mp w,M] at z;cases z)
   exact q g C f L H6 (s3.trans s6) N l gL
theorem tZ:ao ["intent","here","there","pairs"] uD7 (af pK):=cN
inductive CW (vs:List V)(H:Hp)(Q:VK)(_:XK):Prop
 |mk (u t:V) (i n:Str) (e1 e2:En) (_:vs=[.str i,u,t]) (_:iE.lookup i=Y n) (_:qx K H e1 u) (_:qx K H e2 t) (_:e1.In) (_:e2.In) (_:∀ (L:Sd) (vs:List V) (H':Hp),ah H H'->H' L=Y (.lst vs)->aB K H' ((xI i e1 e2).map rD) vs->Q (.ref L) H')
theorem B7 [T:cH K mg w]:bF 4 "measures" uD7 [] CW:=by
  refine T.x39.cal tZ (bb:=λ_ _ _ _ _ H vs Q E hr h=>?_);obtain⟨u,t,i,n,s,r,rfl,hn,h1,h2,C,I,q⟩:=h;refine⟨_,(cA.go (ac (aw 3 tZ.nd (tY (K:=K) O O (by rfl) T.xc (by rfl) T.x8 (aA (ab av q9 hr (aE (ak 1))) (ab av q9 hr (aE (ak 2))))))
   (ac (aZ (aX (BH (K:=K) O hr.units) (ak 0) ji (bn _)) (ae (aq (aG ["near","far"] [] [] 2 (bE (K:=K) O (ak 3)) (λnd=>(cQ (K:=K) (n:=2) O O (az (ai 0 nd) (az (ai 1 nd) bv)))) aF (ab av lC hr (aA (ak 0) (ak 1)))))) aH)
   (ac (aZ (aX (BH (K:=K) O hr.units) (ak 0) ji (bn _)) (ae (aq (aG ["near","far"] [] [] 2 (bE (K:=K) O (ak 3)) (λnd=>(cQ (K:=K) (n:=2) O O (az (ai 0 nd) (az (ai 1 nd) bv)))) aF (ab av iV hr (aA (ak 0) (ak 1)))))) aH)
   (ae (aq (bV aN))))))),?_⟩
  refine⟨_,O,u,s,O,h1,λL H1 s1 hL=>?_⟩;refine⟨_,O,t,r,O,h2.same s1,λL2 H2 s2 hL2=>?_⟩;obtain⟨t0,t1,t2,g,g0,g1,g2⟩:=hL.same s2;obtain⟨u0,u1,u2,k,k0,k1,k2⟩:=hL2;refine⟨L,L2,true,true,_,_,_,_,_,_,O,bI.of g,bI.of k,λD p0 p1 p2 a0 a1 a2 hD n01 n02 n12 n0 n1 n2=>?_⟩;generalize e0:upd (upd (upd (upd H2 p0 _) p1 _) p2 _) D _=H3;obtain⟨s3,q0,q1,q2,A⟩:=Jc a0 a1 a2 hD n01 n02 n12 n0 n1 n2 e0;clear e0;have sd:∀ {t u p:Sd}{m f l o:Int},H2 t=Y (.tup [.int m,.int f])->H2 u=Y (.tup [.int l,.int o])->H3 p=Y (.tup [.ref t,.ref u])->ax K H3 (.tuple [jV m f,jV l o]) (.ref p):=λx y z=>.tup z (.cons (fb (s3 _ _ x)) (.cons (fb (s3 _ _ y)) .nil))
  have hds:=aB.cons (sd g0 k0 q0) (.cons (sd g1 k1 q1) (.cons (sd g2 k2 q2) .nil));have F:=(s1.trans s2).trans s3;clear sd q0 q1 q2 g0 g1 g2 k0 k1 k2 g k;have br:∀ {d:Tr}{j:Nat},[PyData.tuple [jV s.b.a s.w.a,jV r.b.a r.w.a],.tuple [jV s.b.b s.w.b,jV r.b.b r.w.b],.tuple [jV s.b.c s.w.c,jV r.b.c r.w.c]][j]?=Y d->∃ m f l o:Int,d=.tuple [jV m f,jV l o]/\(0<=m/\m<f/\f<=1000)/\(0<=l/\l<o/\o<=1000)/\∀ e,(nr i s r).ds[j]?=Y e->e=rD (EM i m f l o):=λ{d j} hd=>by
   rcases qD hd with ⟨rfl,rfl⟩|⟨rfl,rfl⟩|⟨rfl,rfl⟩
   ·exact⟨_,_,_,_,O,⟨C.a0,C.a1,C.a2⟩,⟨I.a0,I.a1,I.a2⟩,λe z=>(RU z).symm⟩
   ·exact⟨_,_,_,_,O,⟨C.b0,C.b1,C.b2⟩,⟨I.b0,I.b1,I.b2⟩,λe z=>(RU z).symm⟩
   ·exact⟨_,_,_,_,O,⟨C.c0,C.c1,C.c2⟩,⟨I.c0,I.c1,I.c2⟩,λe z=>(RU z).symm⟩
  by_cases z1:i="white"
  ·subst z1;refine⟨_,O,_,_,.str _,.str _,zyC,zyC,true,O,aY ⟨_,O,D,true,O,⟨_,bI.of A⟩,bT (b:=true) (es:=(nr "white" s r).ds) (bI.of A) hds rfl (Z:3<=1000) (λj dj ej u H4 hdj N s4 hu R4 J S4=>?_) (λzs H4 s4 M zyQ G=>?_)⟩⟩
   ·obtain⟨m,f,l,o,rfl,r1,r2,he⟩:=br hdj;cases he _ N;obtain⟨p,xs,rfl,hp,hxs⟩:=aL (b:=false) (ds:=[jV m f,jV l o]) hu;obtain⟨y,z,rfl,hy,hz⟩:=lK hxs;refine⟨p,_,O,hp,O,_,_,O,_,_,O,O,aY (B:=S4 H4) ⟨_,O,_,O,y,z,m,f,l,o,O,hy,hz,r1,r2,λv H5 s5 hv=>J _ _ ⟨s5,hv⟩⟩⟩
   ·exact q _ _ _ (F.trans (s4.trans (ah.new G))) ag (aB.same (ah.new G) M)
  by_cases z2:i="squeezed"
  ·subst z2;refine⟨_,O,_,_,.str _,.str _,zyC,zyC,false,O,bN ⟨_,O,_,_,.str _,.str _,zyC,zyC,true,O,aY ⟨_,O,D,true,O,⟨_,bI.of A⟩,bT (b:=true) (es:=(nr "squeezed" s r).ds) (bI.of A) hds rfl (Z:3<=1000) (λj dj ej u H4 hdj N s4 hu R4 J S4=>?_) (λzs H4 s4 M zyQ G=>?_)⟩⟩⟩
   ·obtain⟨m,f,l,o,rfl,r1,r2,he⟩:=br hdj;cases he _ N;obtain⟨p,xs,rfl,hp,hxs⟩:=aL (b:=false) (ds:=[jV m f,jV l o]) hu;obtain⟨y,z,rfl,hy,hz⟩:=lK hxs;refine⟨p,_,O,hp,O,_,_,O,_,_,O,O,aY (B:=S4 H4) ⟨_,O,_,O,y,z,m,f,l,o,O,hy,hz,r1,r2,λv H5 s5 hv=>J _ _ ⟨s5,hv⟩⟩⟩
   ·exact q _ _ _ (F.trans (s4.trans (ah.new G))) ag (aB.same (ah.new G) M)
  have em:xI i s r=[]:=by unfold xI;rw[Sx (λz=>z.elim z1 z2)]
  rw[em] at q;rcases nU hn with ⟨rfl,_⟩|⟨rfl,_⟩|⟨rfl,_⟩|⟨rfl,_⟩
  ·exact⟨_,O,_,_,.str _,.str _,zyC,zyC,false,O,bN ⟨_,O,_,_,.str _,.str _,zyC,zyC,false,O,bN ⟨(Z:0<=Sk),λzyQ G=>q _ _ _ (F.trans (ah.new G)) ag .nil⟩⟩⟩
  ·exact absurd rfl z1
  ·exact absurd rfl z2
  ·exact⟨_,O,_,_,.str _,.str _,zyC,zyC,false,O,bN ⟨_,O,_,_,.str _,.str _,zyC,zyC,false,O,bN ⟨(Z:0<=Sk),λzyQ G=>q _ _ _ (F.trans (ah.new G)) ag .nil⟩⟩⟩
theorem FP:ao uB3 uB3 (af lF):=cN
inductive FR (vs:List V)(H:Hp)(Q:VK)(_:XK):Prop
 |mk (pv tv:V) (i n:Str) (P:C3) (b:S9 ⊕ (Kn->R3)) (e e2:En) (_:vs=[pv,.str i,tv]) (_:zn K H P b e pv) (_:iE.lookup i=Y n) (_:qx K H e2 tv) (_:e.In) (_:e2.In) (_:∀ (g:Rat) (v:V) (H':Hp),ah H H'->FT i e e2 g->ax K H' (rD g) v->Q v H')
theorem zj [T:cH K mg w]:Du P w K mg base yd 5 "growth" uB3 uE8 2 1 [] FR:=by
  refine T.x3z.cal FP (bb:=λ_ _ _ _ _ H vs Q E d h=>?_);obtain⟨pv,N,i,n,P,b,e,j,rfl,L,B,h2,F,A,q⟩:=h;refine⟨_,(cA.go (ac (bo (ab av eN d (aE (ak 0))))
   (ac (bo (ab av iU d (aE (ak 1))))
   (ac (bo (ab av gO d (aE (ak 2))))
   (ae (aq (ab av nJ d (aE (au xE (bV (aE (ab av (bO T.xd) d (aE aa)))) (ab av B7 d (aj (ak 1) (aj (lS (aR (K:=K) (x:="SquareProfile") O T.x7 (.tail _ (.tail _ (.head _))) (ak 0)) (aR (K:=K) (x:="GridProfile") O T.x6 (.tail _ (.tail _ (.head _))) (ak 0))) (aj (ak 2) aN))))))))))))),?_⟩
  refine⟨_,O,pv,O,L.pr,λH1 J=>?_⟩;refine⟨_,O,i,n,O,B,?_⟩;refine⟨_,O,N,j,O,h2.same J,?_⟩;refine⟨1,1,O,Z,Sm.mono (k:=20) (by unfold Sm;decide) Z,λv n' d' H2 s2 hv I=>?_⟩;obtain⟨rfl,rfl⟩:=l7 Z I (EA _);refine⟨Ow,λp z=>?_⟩;generalize G:upd H2 p _=H3;have C:=gB z G;have gp:=eD G;have g:=J.trans (s2.trans C);refine⟨_,O,(L.same g).bounds rfl λen u=>⟨_,O,en,N,i,n,e,j,O,B,u,h2.same g,F,A,λW M H4 o hW f=>?_⟩⟩;have I:M.length<=3:=by
   rw[<- f.length,R5];unfold xI
   split
   ·exact R0 _
   ·exact Tn _
  refine⟨p,W,_,_,O,O,o _ _ gp,hW,Sv (show 1+M.length<=4 by lia) (Z:4<=Sk),λl hZ=>?_⟩;generalize D:upd H4 l _=H5;have t:=gB hZ D;have gz:=eD D;refine⟨.ref l,true,20,(1:Rat)::xI i e j,O,.lst (.inl gz) (.cons (ax.same ((C.trans o).trans t) hv) (aB.same t f)),λr d=>?_,List.cons_ne_nil _ _,?_,Z,?_,λm hm hl v' H6 s6 s=>q m v' H6 (((g.trans o).trans t).trans s6) (N1 hm hl) s⟩
  ·have y:=uW (i:=i) F A;unfold xI at d
   split at d
   ·simp only[R',Sg,TK] at d;rcases d with rfl|rfl|rfl|rfl
    ·exact vo
    ·exact y.a
    ·exact y.b
    ·exact y.c
   ·simp only[R',Sg,TK] at d;subst d;exact vo
  ·have:=f.length;rw[R5] at this;show(xI i e j).length+1<=500;lia
  ·have:=f.length;rw[R5] at this;show((xI i e j).length+1)*20+20+1<=7900;lia
theorem pB:ao ["profile","intent","there","knots","slope"] uA0 (af eR):=cN
inductive ye (vs:List V)(H:Hp)(Q:VK)(_:XK):Prop
 |mk (pv tv:V) (i n:Str) (m:Nat) (P:C3) (b:S9 ⊕ (Kn->R3)) (e e2:En) (_:vs=[pv,.str i,tv,.int m]) (_:2<=m) (_:m<=7) (_:zn K H P b e pv) (_:iE.lookup i=Y n) (_:qx K H e2 tv) (_:e.In) (_:e2.In) (_:∀ (q:Q3) (g:Rat) (v:V) (H':Hp),ah H H'->Ae b P q->q.Bd 25->FT i e e2 g->ax K H' (rD (qo m q g)) v->Q v H')
theorem yh [T:cH K mg w]:Du P w K mg base yd 7 "link_bound" uA0 uC6 2 2 [] ye:=by
  refine T.x40.cal pB (bb:=λ_ _ _ _ _ H vs Q E d h=>?_);obtain⟨pv,tv,i,n,m,P,b,e,I,rfl,l,p,C,J,h2,B,t,q⟩:=h;refine⟨_,(cA.go (ac (bo (ab av jO d (aE (ak 3))))
   (ac (aw 4 pB.nd (ab av dN d (aA (ab av qU d (aE (ak 0))) (iA av zj (d.mono Z) O (aA (ak 0) (ak 1)) (bZ (ak 2) dQ)))))
   (ae (aq (ab av qF d (aA (ab av dN d (aA (ak 4) (ab av (bO T.xd) d (aE (ab av vY d (aE (ak 3))))))) (ab av (bO T.x9) d (aA aa aa))))))))),?_⟩
  refine⟨_,O,m,O,l,p,?_⟩;refine⟨_,O,pv,P,b,e,O,C,λsl u H1 o hs bs hu=>?_⟩;refine⟨_,O,_,O,_,O,pv,tv,i,n,P,b,e,I,O,C.same o,J,h2.same o,B,t,λg v H2 s2 G hv=>?_⟩;have f:=Bq.add (Bq.add bs.a bs.b) bs.c;have j:=G.bq B t;refine⟨u,v,_,_,_,_,O,ax.same s2 hu,hv,Ok.mono f Z,Ok.mono j Z,h_.mul λw H3 L hw=>?_⟩;have N:Sm 6 (fu m):=by have:=jG l p;unfold Sm;lia
  refine⟨_,O,_,O,m,O,l,p,fu m,1,O,Z,Sm.mono (k:=20) (by unfold Sm;decide) Z,h_.sh Z λz H4 A hz=>?_⟩;have M:((fu m:Int):Rat)/((1:Int):Rat)=((fu m:Int):Rat):=by rw[show((1:Int):Rat)=1 from rfl];grind
  have s:Bq 6 (((fu m:Int):Rat)/((1:Int):Rat)):=eK Z N (by unfold Sm;decide);have bh:Bq 6 (((1:Int):Rat)/((2:Int):Rat)):=eK Z (by unfold Sm;decide) (by unfold Sm;decide);refine⟨w,z,_,_,_,_,O,ax.same A hw,hz,Ok.mono (Bq.mul f j) Z,Ok.mono s Z,h_.mul λy H5 s5 hy=>?_⟩;refine⟨1,2,O,Z,Sm.mono (k:=20) (by unfold Sm;decide) Z,h_.sh Z λx H6 D F=>?_⟩;refine⟨y,x,_,_,_,_,O,ax.same D hy,F,Ok.mono (Bq.mul (Bq.mul f j) s) Z,Ok.mono bh Z,h_.add λr H7 s7 d=>?_⟩;rw[M] at d;exact q sl g r H7 ((((((o.trans s2).trans L).trans A).trans s5).trans D).trans s7) hs bs G d
theorem Aj:ao uB2 uB2 (af nG):=cN
inductive Bg (vs:List V)(H:Hp)(Q:VK)(_:XK):Prop
 |mk (a:Sd) (ns:List Int) (_:vs=[.ref a]) (_:bI K H a (ns.map V.int)) (_:ns.length<=63) (_:∀ t r H',ah H H'->H t=none->H r=none->cr H' t r->Q (.ref t) H')
theorem A8 [T:cH K mg w]:bF 1 "_law_town" uB2 [] Bg:=by
  refine T.x3a.cal Aj (bb:=λ_ _ _ _ _ H vs Q E b h=>?_);obtain⟨a,ns,rfl,f,i,q⟩:=h;refine⟨_,(cA.go (ae (aq (bV (aA (jp (aX (LB (K:=K) O b.units) (ak 0) (bV aN) (bn _)) (bQ (vT (K:=K) O) (by rfl) T.xc je (aE (ak 0))) (bV (aE aa))) aa))))),?_⟩;refine⟨_,O,Z,λp g=>⟨a,p,ns,O,O,(ah.new g).seq f,ag,_,O,?_⟩⟩;have d:ah H (upd H p (.lst [])):=ah.new g
  by_cases e:ns=[]
  ·rw[R8 e];refine bN ⟨Z,λr b=>⟨kY,λt c=>?_⟩⟩;have s2:=d.trans (ah.new (o:=.lst [.int 0]) b);exact q t r _ (s2.trans (ah.new c)) (s2.free c) (d.free b) ⟨[0],0,ag,by rw[ar (aS ag c)];exact ag,Z,Z⟩
  ·rw[Td e];refine aY ⟨_,O,a,ns.map V.int,O,.inl (d.seq f),λr b=>⟨kY,λt c=>?_⟩⟩;have s2:=d.trans (ah.new (o:=.lst (ns.map V.int)) b);exact q t r _ (s2.trans (ah.new c)) (s2.free c) (d.free b) ⟨ns,0,ag,by rw[ar (aS ag c)];exact ag,e,i⟩
theorem eW:ao ["_law_town_here","_law_many","_law_row","_law_at","_law_cell","_law_mixed"] uD0 (af m_):=cN
inductive A0 (vs:List V)(H:Hp)(Q:VK)(_:XK):Prop
 |mk (t r:Sd) (many:Int) (_:vs=[.ref t,.int many]) (_:cr H t r) (_:0<many) (_:Sm 8000 many) (_:∀ (d:Int) (H':Hp),0<=d->d<many->cr H' t r->Mv [t,r] H H'->Q (.int d) H')
theorem aQ [T:cH K mg w]:bF 1 "_law_draw" uD0 [] A0:=by
  refine T.x3b.cal eW (bb:=λ_ _ _ _ _ H vs Q E J h=>?_);obtain⟨t,r,g,rfl,p,i,D,q⟩:=h;have e:=p.ne;obtain⟨a,k,m,hw,f,d⟩:=p;refine⟨_,(cA.go (ac (aw 2 eW.nd (am K (ak 0) aa))
   (ac (kq (au di (am K (ak 0) aa) aa) (EK (ak 0) aa CU))
   (ac (aw 3 eW.nd (au mR (am K (ak 0) aa) (ay (ju (K:=K) O) (by rfl) T.x4 fj (aE (ak 2)))))
   (ac (aw 4 eW.nd (am K (ak 2) (ak 3)))
   (ac (aZ (aX Mm (ak 4) aa (bn _)) (ac (kq (au dR (ak 4) (ak 1)) (EK (ak 2) (ak 3) CU))
   (ae (aq (au mR (ak 4) (ak 1))))) aH)
   (ac (aw 5 eW.nd (au mR (au di (ak 4) (au aM aa (am K (ak 0) aa))) aa))
   (ac (aw 5 eW.nd (au mR (au HJ (ak 5) aa) aa))
   (ae (aq (au mR (au dR (au mR (au di (au aM (au dR (ak 5) aa) aa) (ak 5)) aa) aa) (ak 1)))))))))))),?_⟩
  have I:0<a.length:=X1.mpr f;have b:∀ o,upd H t o r=Y (.lst (a.map V.int)):=λo=>by rw[ar e.symm];exact hw
  refine⟨_,O,MX m ?_⟩;refine⟨_,O,Dh m ⟨_,_,O,O,_,O,t,_,1,1,O,O,m,O,?_⟩⟩;refine⟨_,O,Dh (x:=.ref r) (y:=.int (k+1)) ag ⟨_,O,r,a.map V.int,O,.inl (bI.of (b _)),_,_,O,O,?_,?_⟩⟩
  ·show(0:Int)<((a.map V.int).length:Int);rw[R5];lia
  have L:((a.map V.int).length:Int)=(a.length:Int):=by rw[R5]
  obtain⟨j,v⟩:∃ j:Nat,(k+1)%((a.map V.int).length:Int)=(j:Int):=⟨_,(Int.toNat_of_nonneg (U7 _ zyA)).symm⟩
  have n:j<a.length:=by
   have:=Ux (k+1) (show 0<((a.map V.int).length:Int) by lia);lia
  simp only[v];refine⟨_,O,_,O,.inl ⟨r,_,_,.int a[j],O,O,bI.of (b _),qV (by simp[n]),?_⟩⟩;generalize a[j]=c;refine⟨_,O,_,_,O,O,_,O,?_⟩;refine fm (λF=>?_) (λF=>?_)
  ·refine⟨_,O,_,O,_,_,O,O,⟨zyA,D⟩,_,O,_,O,r,_,_,j,O,O,b _,?_,?_⟩
   ·rw[R5];unfold G4;rw[SO (show(0:Int)<=(j:Int) by lia),SO (show(j:Int)<(a.length:Int) by lia)];rfl
   refine⟨_,O,_,O,_,_,O,O,i,?_⟩;refine q _ _ (U7 _ zyA) (Ux _ i) ⟨a.set j (c.fdiv g),k+1,?_,?_,?_,?_⟩ ?_
   ·rw[ar e];exact ag
   ·rw[ag,List.map_set]
   ·intro z;have:=VZ aag z;rw[Zx] at this;exact absurd this (by rw[WZ];lia)
   ·rw[Zx];exact d
   ·exact(Mv.upd zyB).trans (Mv.upd zyB)
  ·refine⟨_,O,_,O,Dh (x:=.ref r) (y:=.int (k+1)) ag ⟨_,_,O,O,.inr (by unfold Sm;decide),_,_,O,O,_,_,O,O,(by show(0:Int)<4294967291;decide),?_⟩⟩;dsimp only;have A:=U7 (c+104729*(k+1)) (show(4294967291:Int)≠0 by decide);have B:=Ux (c+104729*(k+1)) (show(0:Int)<4294967291 by decide);generalize (c+104729*(k+1))%4294967291=l at A B ⊢;refine⟨_,O,_,_,O,O,⟨Z,Z,zyA⟩,_,_,O,O,(by show(0:Int)<4294967279;decide),?_⟩;dsimp only;have s:=U7 (l^(5:Int).toNat) (show(4294967279:Int)≠0 by decide);have G:=Ux (l^(5:Int).toNat) (show(0:Int)<4294967279 by decide);generalize l^(5:Int).toNat%4294967279=C at s G ⊢;have u:Sm 64 (C.fdiv 64):=by
    rw[TW _ Z];unfold Sm;lia
   refine⟨_,O,_,_,O,O,⟨Z,by unfold Sm;decide⟩,_,_,O,O,.inr u,_,O,_,_,O,O,_,_,O,O,(by show(0:Int)<4294967231;decide),_,_,O,O,⟨Z,by unfold Sm;decide⟩,_,O,_,_,O,O,i,?_⟩;exact q _ _ (U7 _ zyA) (Ux _ i) ⟨a,k+1,ag,b _,f,d⟩ (Mv.upd zyB)
theorem Az:ao uC0 uC0 (af nk):=cN
inductive Be (vs:List V)(H:Hp)(Q:VK)(_:XK):Prop
 |mk (t r p:Sd) (xs:List V) (_:vs=[.ref t,.ref p]) (_:cr H t r) (_:H p=Y (.lst xs)) (_:p≠t) (_:p≠r) (_:xs≠[]) (_:xs.length<=1000) (_:∀ (i:Nat) (v:V) (H':Hp),xs[i]?=Y v->cr H' t r->Mv [t,r] H H'->Q v H')
theorem dX [T:cH K mg w]:bF 2 "_law_pick" uC0 [] Be:=by
  refine T.x3c.cal Az (bb:=λ_ _ _ _ _ H vs Q E i h=>?_);obtain⟨t,r,p,a,rfl,n,f,l,g,c,o,q⟩:=h;refine⟨_,(cA.go (ae (aq (am K (ak 1) (ab av aQ i (aA (ak 0) (ay (ju (K:=K) O) (by rfl) T.x4 fj (aE (ak 1))))))))),?_⟩;have s:0<a.length:=X1.mpr c;refine⟨_,O,_,O,_,O,p,a,O,.inl (bI.of f),t,r,_,O,n,zyA,?_,λd v m u b mv=>?_⟩
  ·refine Sm.mono (k:=64) ?_ Z;unfold Sm;lia
  obtain⟨j,rfl⟩:=WR m;have e:j<a.length:=zyA
  exact .inl ⟨p,a,_,a[j],O,O,bI.of (mv p _ f (by simp[l,g])),qV (by simp[e]),q j _ _ (by simp[e]) b mv⟩
theorem ki:ao ["_law_one","_law_two","_law_a","_law_b"] kS (af pR):=cN
inductive Cr (vs:List V)(H:Hp)(Q:VK)(_:XK):Prop
 |mk (t b:Int) (_:vs=[.int t,.int b]) (_:b≠0) (_:Sm 8000 b) (_:Sh K H t b Q)
theorem fY [T:cH K mg w]:bF 1 "_law_low" kS [] Cr:=by
  refine T.x3d.cal ki (bb:=λ_ _ _ _ _ H vs Q E J h=>?_);obtain⟨t,b,rfl,L,r,q⟩:=h;refine⟨_,(cA.go (ac (aZ (aX y9 (ak 1) aa (bn _)) (ae (n_ (i:=0) (j:=1) O ki.nd rfl rfl Z O O (aA (au cC aa (ak 0)) (au cC aa (ak 1))) O)) aH)
   (ac (n_ (i:=2) (j:=3) O ki.nd rfl rfl Z O O (aA (ay (zi rfl) (by rfl) T.xe vX (aA (ak 0) (au cC aa (ak 0)))) (ak 1)) O)
   (ac (r9 SW (aX BK (ak 3) aa (bn _)) (ae (n_ (i:=2) (j:=3) O ki.nd rfl rfl Z O O (aA (ak 3) (au mR (ak 2) (ak 3))) O)))
   (ae (aq (aW (aA (au dR (ak 0) (ak 2)) (au dR (ak 1) (ak 2)))))))))),?_⟩
  have g:∃ c a:Int,(b<0->c=0-t/\a=0-b)/\(¬ b<0->c=t/\a=b)/\0<a/\Sm 8000 a/\∀ n d,FO c a n d->FO t b n d:=by
   by_cases f:b<0
   ·refine⟨0-t,0-b,λ_=>⟨O,O⟩,λz=>absurd f z,zyA,by rw[Zs];exact r.neg,λn d z=>⟨z.1,z.2.1,?_⟩⟩;have:=z.2.2;rw[Zs,Zs,abf,Int.neg_mul] at this;lia
   ·exact⟨t,b,λz=>absurd z f,λ_=>⟨O,O⟩,zyA,r,λ_ _ z=>z⟩
  obtain⟨c,a,c1,c2,I,l,D⟩:=g;refine⟨_,O,_,_,O,O,_,O,?_⟩
  suffices fh:OY _ _ _ [Y (.int c),Y (.int a),none,none] H by
   refine fm (λf=>?_) (λf=>?_)
   ·obtain⟨rfl,rfl⟩:=c1 (Ti f);exact⟨_,O,_,_,O,O,_,O,_,_,O,O,_,_,O,fh⟩
   ·obtain⟨rfl,rfl⟩:=c2 (λz=>f (R8 z));exact fh
  refine⟨_,O,_,O,_,_,O,O,_,_,O,_,O,_,_,O,?_⟩;refine⟨λm v A=>∃ x y:Int,v=[Y (.int c),Y (.int a),Y (.int x),Y (.int y)]/\A=H/\0<=x/\0<=y/\Uh x y=Uh c a/\m=y.toNat,⟨_,_,_,O,O,?_,?_,?_,O⟩,?_⟩
  ·split<;>lia
  ·lia
  ·rw[<- ET c a,show(if a<0 then -a else a)=a from Sx zyA]
   congr 1
   by_cases k:c<0
   ·rw[SO k,SO (show 0-c>c by lia)];lia
   ·rw[Sx k]
    split<;>lia
  ·rintro m v A ⟨x,y,rfl,rfl,C,F,B,rfl⟩;refine⟨_,O,_,_,O,O,_,O,?_⟩;refine fm (λf=>?_) (λf=>?_)
   ·have f:=Ti f;refine⟨_,λ_ _ z=>z,?_⟩;refine⟨_,O,_,O,_,O,_,_,O,O,f,_,_,O,?_⟩;have k:=U7 x (show y≠0 by lia);have o:=Ux x f;exact⟨(x%y).toNat,zyA,y,x%y,O,O,F,k,by rw[Cf C f];exact B,O⟩
   ·have f:¬ (0<y):=λz=>f (R8 z)
    have o:y=0:=zyA
    subst o;have e:x=(Uh c a:Int):=by
     rw[<- B,aam];lia
    subst e;have s:Sm 8000 (Uh c a:Int):=l.le (J6 zyA);have u:(Uh c a:Int)≠0:=by
     have:=VU c (show a≠0 by lia);lia
    refine⟨_,O,_,O,_,_,O,O,⟨u,s⟩,_,O,_,O,_,_,O,O,⟨u,s⟩,kY,λp G=>?_⟩;exact q _ _ _ _ (ah.new G) (fb ag) (D _ _ (Ei zyA O (by rw[Sx zyA])))
theorem AW:ao kS kS (af nj):=cN
inductive AY (vs:List V)(H:Hp)(Q:VK)(_:XK):Prop
 |mk (x y n d m e) (_:vs=[x,y]) (_:ax K H (jV n d) x) (_:ax K H (jV m e) y) (_:Ok 3900 n d) (_:Ok 3900 m e) (_:Sh K H (n*e+m*d) (d*e) Q)
theorem AR [T:cH K mg w]:bF 2 "_law_plus" kS [] AY:=by
  refine T.x3e.cal AW (bb:=λ_ _ _ _ _ H vs Q E p h=>?_);obtain⟨x,y,n,d,m,e,rfl,o,s,g,f,q⟩:=h;obtain⟨a,rfl,k⟩:=bt o;obtain⟨b,rfl,l⟩:=bt s;refine⟨_,(cA.go (ae (aq (ab av fY p (aA (au di (au aM (am K (ak 0) aa) (am K (ak 1) aa)) (au aM (am K (ak 1) aa) (am K (ak 0) aa))) (au aM (am K (ak 0) aa) (am K (ak 1) aa))))))),?_⟩;have c:∀ {i j:Int},Sm 3900 i->Sm 3900 j->mB i j:=λr t=>.inl ⟨r.mono Z,t.mono Z⟩
  refine⟨_,O,cJ k ⟨_,O,bX l ⟨_,_,O,O,c g.sn f.sd,?_⟩⟩⟩;refine⟨_,O,cJ l ⟨_,O,bX k ⟨_,_,O,O,c f.sn g.sd,_,_,O,O,?_⟩⟩⟩;refine⟨_,O,bX k ⟨_,O,bX l ⟨_,_,O,O,c g.sd f.sd,?_⟩⟩⟩;exact⟨_,_,O,Tx g.ne f.ne,(g.sd.mul f.sd).mono Z,q⟩
theorem Bh:ao kS kS (af mS):=cN
inductive AF (vs:List V)(H:Hp)(Q:VK)(_:XK):Prop
 |mk (x y n d m e) (_:vs=[x,y]) (_:ax K H (jV n d) x) (_:ax K H (jV m e) y) (_:Ok 3900 n d) (_:Ok 3900 m e) (_:Sh K H (n*e-m*d) (d*e) Q)
theorem Bj [T:cH K mg w]:bF 2 "_law_less" kS [] AF:=by
  refine T.x3f.cal Bh (bb:=λ_ _ _ _ _ H vs Q E p h=>?_);obtain⟨x,y,n,d,m,e,rfl,o,s,g,f,q⟩:=h;obtain⟨a,rfl,k⟩:=bt o;obtain⟨b,rfl,l⟩:=bt s;refine⟨_,(cA.go (ae (aq (ab av fY p (aA (au cC (au aM (am K (ak 0) aa) (am K (ak 1) aa)) (au aM (am K (ak 1) aa) (am K (ak 0) aa))) (au aM (am K (ak 0) aa) (am K (ak 1) aa))))))),?_⟩;have c:∀ {i j:Int},Sm 3900 i->Sm 3900 j->mB i j:=λr t=>.inl ⟨r.mono Z,t.mono Z⟩
  refine⟨_,O,cJ k ⟨_,O,bX l ⟨_,_,O,O,c g.sn f.sd,?_⟩⟩⟩;refine⟨_,O,cJ l ⟨_,O,bX k ⟨_,_,O,O,c f.sn g.sd,_,_,O,O,?_⟩⟩⟩;refine⟨_,O,bX k ⟨_,O,bX l ⟨_,_,O,O,c g.sd f.sd,?_⟩⟩⟩;exact⟨_,_,O,Tx g.ne f.ne,(g.sd.mul f.sd).mono Z,q⟩
theorem yJ:ao kS kS (af l4):=cN
inductive yp (vs:List V)(H:Hp)(Q:VK)(_:XK):Prop
 |mk (x y n d m e) (_:vs=[x,y]) (_:ax K H (jV n d) x) (_:ax K H (jV m e) y) (_:Ok 3900 n d) (_:Ok 3900 m e) (_:Sh K H (n*m) (d*e) Q)
theorem ph [T:cH K mg w]:bF 2 "_law_times" kS [] yp:=by
  refine T.x3g.cal yJ (bb:=λ_ _ _ _ _ H vs Q E p h=>?_);obtain⟨x,y,n,d,m,e,rfl,o,s,g,f,q⟩:=h;obtain⟨a,rfl,k⟩:=bt o;obtain⟨b,rfl,l⟩:=bt s;refine⟨_,(cA.go (ae (aq (ab av fY p (aA (au aM (am K (ak 0) aa) (am K (ak 1) aa)) (au aM (am K (ak 0) aa) (am K (ak 1) aa))))))),?_⟩;have c:∀ {i j:Int},Sm 3900 i->Sm 3900 j->mB i j:=λr t=>.inl ⟨r.mono Z,t.mono Z⟩
  refine⟨_,O,cJ k ⟨_,O,cJ l ⟨_,_,O,O,c g.sn f.sn,?_⟩⟩⟩;refine⟨_,O,bX k ⟨_,O,bX l ⟨_,_,O,O,c g.sd f.sd,?_⟩⟩⟩;exact⟨_,_,O,Tx g.ne f.ne,(g.sd.mul f.sd).mono Z,q⟩
theorem yI:ao kS kS (af l_):=cN
inductive yt (vs:List V)(H:Hp)(Q:VK)(_:XK):Prop
 |mk (x y:V) (p q:Rat) (_:vs=[x,y]) (_:ax K H (rD p) x) (_:ax K H (rD q) y) (_:Bq 3900 p) (_:Bq 3900 q) (_:Q (.bl (decide (p<q))) H)
theorem ia [T:cH K mg w]:bF 1 "_law_below" kS [] yt:=by
  refine T.x3h.cal yI (bb:=λ_ _ _ _ _ H vs Q E o h=>?_);obtain⟨x,y,p,r,rfl,k,m,g,e,q⟩:=h;obtain⟨a,rfl,d⟩:=bt k;obtain⟨b,rfl,f⟩:=bt m;refine⟨_,(cA.go (ae (aq (dA y9 (au aM (am K (ak 0) aa) (am K (ak 1) aa)) (au aM (am K (ak 1) aa) (am K (ak 0) aa)) (bn _))))),?_⟩;have c:∀ {i j:Int},Sm 3900 i->Sm 3900 j->mB i j:=λl n=>.inl ⟨l.mono Z,n.mono Z⟩
  refine⟨_,O,cJ d ⟨_,O,bX f ⟨_,_,O,O,c g.sn e.sd,?_⟩⟩⟩;refine⟨_,O,cJ f ⟨_,O,bX d ⟨_,_,O,O,c e.sn g.sd,_,_,O,O,?_⟩⟩⟩;rw[show decide (p<r)=decide (p.num*(r.den:Int)<r.num*(p.den:Int)) from Zd.mpr (Rat.lt_iff p r)] at q;exact q
theorem pA:ao ["_law_town_here","_law_cap","_law_below_here"] tR (af lO):=cN
inductive yr (vs:List V)(H:Hp)(Q:VK)(_:XK):Prop
 |mk (t r:Sd) (cap:Int) (_:vs=[.ref t,.int cap]) (_:cr H t r) (_:0<cap) (_:cap<=1000) (_:∀ (v:V) (q:Rat) (H':Hp),ax K H' (rD q) v->0<=q->q<=(cap:Rat)->Bq 17 q->cr H' t r->Mv [t,r] H H'->Q v H')
theorem ig [T:cH K mg w]:bF 3 "_law_share" tR [] yr:=by
  refine T.x3i.cal pA (bb:=λ_ _ _ _ _ H vs Q E J h=>?_);obtain⟨t,r,c,rfl,tw,c0,c1,q⟩:=h;refine⟨_,(cA.go (ac (aw 2 pA.nd (ab av dX J (aA (ak 0) (bV (aj aa (aj aa (aj aa (aj aa (aj aa (aj aa aN))))))))))
   (ae (aq (ab av dX J (aA (ak 0) (au xE (au H_ (bV (aE (ab av fY J (aA (ab av aQ J (aA (ak 0) (au di (au aM (ak 1) (ak 2)) aa))) (ak 2))))) aa) (bV (aA (aW (aA aa aa)) (aW (aA (ak 1) aa))))))))))),?_⟩
  have y:∀ {n:Int},0<n->n<100000->Sm 8000 n:=λh1 h2=>Sm.mono (k:=20) (by unfold Sm;lia) Z
  refine⟨_,O,(Z:6<=Sk),λp hp=>?_⟩;have sp:=ah.new (o:=.lst [.int 1,.int 1,.int 2,.int 3,.int 7,.int 60]) hp;have np:=tw.not hp;refine⟨t,r,p,_,O,tw.same sp,ag,λz=>np (by simp[z]),λz=>np (by simp[z]),zyB,(Z:6<=1000),λj v G e tw1 m=>?_⟩;obtain⟨b,rfl,b0,b1⟩:∃ b:Int,v=.int b/\0<b/\b<=60:=by
   match j,e with
   |0,e=>exact⟨1,(RU e).symm,Z,Z⟩
   |1,e=>exact⟨1,(RU e).symm,Z,Z⟩
   |2,e=>exact⟨2,(RU e).symm,Z,Z⟩
   |3,e=>exact⟨3,(RU e).symm,Z,Z⟩
   |4,e=>exact⟨7,(RU e).symm,Z,Z⟩
   |5,e=>exact⟨60,(RU e).symm,Z,Z⟩
  have cb:c*b<=60000:=Yl (Int.mul_le_mul_of_nonneg_right c1 zyA) zyA;have cb0:0<=c*b:=U3 zyA zyA;have m:=(Mv.of sp).trans m;clear e sp np hp;refine⟨_,O,_,O,_,O,_,O,_,_,O,O,.inr ((qT zyA c1).mono Z),_,_,O,O,?_⟩;refine⟨t,r,_,O,tw1,zyA,y zyA zyA,λd H2 d0 d1 D mv2=>?_⟩;have bq:Bq 17 ((d:Rat)/(b:Rat)):=eK zyA (by unfold Sm;lia) (by unfold Sm;lia);have bp:(0:Rat)<(b:Rat):=X_.mpr b0;have hd0:(0:Rat)<=(d:Rat):=VW.mpr d0;have hd1:(d:Rat)<=(c:Rat)*(b:Rat):=by rw[<- SE];exact Tk.mpr zyA
  have nb:=Na (n:=b) zyA;have eq:(d:Rat)=(d:Rat)/(b:Rat)*(b:Rat):=by grind
  have L:0<=(d:Rat)/(b:Rat):=aaR.mp λz=>by
   have:=Ya z bp;grind
  have q1:(d:Rat)/(b:Rat)<=(c:Rat):=aaR.mp λz=>by
   have:=Ya z bp;grind
  refine⟨_,O,_,_,O,zyA,y zyA zyA,h_.sh zyA λf I s3 hv3=>?_⟩;refine⟨Ow,λN hp1=>?_⟩;have s4:=ah.new (o:=.lst [f]) hp1;refine K6 (n:=4) O Z ag λC hp2=>?_
  have s5:=ah.new (o:=.lst (Sl 4 f)) hp2;refine⟨kY,λi hp3=>?_⟩;have s6:=ah.new (o:=.tup [.int 0,.int 1]) hp3;refine⟨_,O,kY,λl hp4=>?_⟩;have s7:=ah.new (o:=.tup [.int c,.int 1]) hp4;refine⟨kY,λp5 hp5=>?_⟩;have s8:=ah.new (o:=.lst [.ref i,.ref l]) hp5;have u:=s6.trans (s7.trans s8);refine⟨C,p5,_,_,O,O,u _ _ ag,ag,(Z:4+2<=Sk),λB F=>?_⟩;have s9:=ah.new (o:=.lst (Sl 4 f++[.ref i,.ref l])) F;have g3:=s9 _ _ (s8 _ _ (s7 _ _ (ag (H:=upd (upd I N (.lst [f])) C (.lst (Sl 4 f))) (a:=i) (o:=.tup [.int 0,.int 1]))));have g4:=s9 _ _ (s8 _ _ (ag (H:=upd (upd (upd I N (.lst [f])) C (.lst (Sl 4 f))) i (.tup [.int 0,.int 1])) (a:=l) (o:=.tup [.int c,.int 1])));have M:ah I _:=((s4.trans s5).trans u).trans s9;have e:=ax.same M hv3;have s:=(D.same s3).same M;have n6:B∉[t,r]:=((D.same s3).same ((s4.trans s5).trans u)).not F;have A:=(m.trans mv2).trans (Mv.of (s3.trans M));have gA:upd (upd (upd (upd (upd (upd I N (.lst [f])) C (.lst (Sl 4 f))) i (.tup [.int 0,.int 1])) l (.tup [.int c,.int 1])) p5 (.lst [.ref i,.ref l])) B (.lst (Sl 4 f++[.ref i,.ref l])) B=Y (.lst (Sl 4 f++[.ref i,.ref l])):=ag;generalize upd (upd (upd (upd (upd (upd I N (.lst [f])) C (.lst (Sl 4 f))) i (.tup [.int 0,.int 1])) l (.tup [.int c,.int 1])) p5 (.lst [.ref i,.ref l])) B (.lst (Sl 4 f++[.ref i,.ref l]))=GA at g3 g4 M e s A gA ⊢;refine⟨t,r,B,_,O,s,gA,λz=>n6 (by simp[z]),λz=>n6 (by simp[z]),zyB,(Z:6<=1000),λj v H7 g tw7 x=>?_⟩;have one:∀ {n:Int}{a:Sd},GA a=Y (.tup [.int n,.int 1])->ax K GA (rD (n:Rat)) (.ref a):=λ{n a} h=>by rw[xC];exact fb h
  obtain⟨z,hz,z0,z1,bz⟩:∃ z:Rat,ax K GA (rD z) v/\0<=z/\z<=(c:Rat)/\Bq 17 z:=by
   have cp:(0:Rat)<=(c:Rat):=VW.mpr zyA
   match j,g with
   |0,g=>cases g;exact⟨_,e,L,q1,bq⟩
   |1,g=>cases g;exact⟨_,e,L,q1,bq⟩
   |2,g=>cases g;exact⟨_,e,L,q1,bq⟩
   |3,g=>cases g;exact⟨_,e,L,q1,bq⟩
   |4,g=>cases g;exact⟨_,one g3,UZ,cp,(kQ (n:=0) (k:=17) (by unfold Sm;decide) Z)⟩
   |5,g=>cases g;exact⟨_,one g4,cp,UZ,(kQ (qT zyA c1) Z).mono Z⟩
  exact q v z H7 (ax.mv x s.lists rfl hz) z0 z1 bz tw7 (A.trans x)
theorem yM:ao tR tR (af lQ):=cN
inductive yq (vs:List V)(H:Hp)(Q:VK)(_:XK):Prop
 |mk (t r:Sd) (cap:Int) (_:vs=[.ref t,.int cap]) (_:cr H t r) (_:0<cap) (_:cap<=1000) (_:∀ (v:V) (c:Q3) (H':Hp),ax K H' c.col v->c.Wi cap->c.Bd 17->cr H' t r->Mv [t,r] H H'->Q v H')
theorem yz [T:cH K mg w]:bF 4 "_law_three" tR [] yq:=by
  refine T.x3j.cal yM (bb:=λ_ _ _ _ _ H vs Q E g h=>?_);obtain⟨t,r,a,rfl,N,c0,c1,q⟩:=h;refine⟨_,(cA.go (ac (aZ (aX fq (ab av aQ g (aA (ak 0) aa)) aa (bn _)) (ae (aq (au K3 (aW (aE (ab av ig g (aA (ak 0) (ak 1))))) aa))) aH)
   (ae (aq (aW (aj (ab av ig g (aA (ak 0) (ak 1))) (aj (ab av ig g (aA (ak 0) (ak 1))) (aj (ab av ig g (aA (ak 0) (ak 1))) aN)))))))),?_⟩
  refine⟨_,O,t,r,6,O,N,Z,by unfold Sm;decide,λd H1 d0 d1 k f=>⟨_,_,O,O,_,O,?_⟩⟩;refine fm (λ_=>?_) (λ_=>?_)
  ·refine⟨_,O,_,O,t,r,a,O,k,c0,c1,λv z B c n i x b e=>⟨Ow,λp l=>?_⟩⟩;have j:=ah.new (o:=.tup [v]) l;refine⟨p,_,O,O,ag,λy m=>?_⟩;have u:=ah.new (o:=.tup [v,v,v]) m;have c:=ax.same (j.trans u) c;exact q _ ⟨z,z,z⟩ _ (.tup ag (.cons c (.cons c (.cons c .nil)))) ⟨n,i,n,i,n,i⟩ ⟨x,x,x⟩ (b.same (j.trans u)) ((f.trans e).trans (Mv.of (j.trans u)))
  ·refine⟨_,O,_,O,t,r,a,O,k,c0,c1,λL i B n J D y b e=>?_⟩;refine⟨_,O,_,O,t,r,a,O,b,c0,c1,λG A H3 u C I bb tH j=>?_⟩;refine⟨_,O,_,O,t,r,a,O,tH,c0,c1,λM F H4 m k0 k1 bk x c=>⟨Gd,λp l=>?_⟩⟩;have s:=ah.new (o:=.tup [L,G,M]) l;exact q _ ⟨i,A,F⟩ _ (ax.tupN l (.cons (ax.mv (j.trans c) b.lists rfl n) (.cons (ax.mv c tH.lists rfl u) (.cons m .nil)))) ⟨J,D,C,I,k0,k1⟩ ⟨y,bb,bk⟩ (x.same s) ((((f.trans e).trans j).trans c).trans (Mv.of s))
theorem cE:ao ["_law_town_here","_law_last","_law_cap","_law_climbs","_law_size","_law_places","_law_values"] uA9 (af kU):=cN
inductive w6 (vs:List V)(H:Hp)(Q:VK)(_:XK):Prop
 |mk (t r:Sd) (last cap:Int) (c:Bool) (_:vs=[.ref t,.int last,.int cap,.bl c]) (_:cr H t r) (_:1<=last) (_:last<=1000) (_:1<=cap) (_:cap<=1000) (_:∀ (D:Sd) (ps:List Pt) (z:Pt) (xs:List V) (H':Hp),H' D=Y (.lst xs)->aB K H' (ps.map tJ) xs->vN ps->ps.getLast?=Y z->z.1=last->z.2<=cap->D∉[t,r]->cr H' t r->Mv [t,r] H H'->Q (.ref D) H')
theorem w9 [T:cH K mg w]:bF 2 "_law_points" uA9 [] w6:=by
  refine T.x3k.cal cE (bb:=λ_ _ _ _ _ H vs Q E hr h=>?_);obtain⟨t,r,a,b,c,rfl,tw,l1,l2,c1,c2,q⟩:=h;refine⟨_,(cA.go (ac (aw 4 cE.nd (au di aa (ab av aQ hr (aA (ak 0) aa))))
   (ac (aw 5 cE.nd (tN (K:=K) O O (by rfl) T.xi (by rfl) T.xo (aE (au xE (bV (aA aa (ak 1))) (aG uC4 ["_law_town_here","_law_last"] [0,1] 1 (bj rfl T.x0 (aE (ak 4))) (λnd=>(ai 0 nd)) aF (ab av aQ hr (aA (ak 1) (au di (ak 2) aa))))))))
   (ac (aw 6 cE.nd (ay (Ju (K:=K) O) (by rfl) T.xi sO (aE (aG uC4 tR [0,2] 1 (bj rfl T.x0 (aE (ay (ju (K:=K) O) (by rfl) T.x4 fj (aE (ak 5))))) (λnd=>(ai 0 nd)) aF (ab av aQ hr (aA (ak 1) (au di (ak 2) aa)))))))
   (ac (aZ (aV (ak 3)) (ac (aw 6 cE.nd (aG uC4 ["_law_cap","_law_values"] [2,6] 1 (bj rfl T.x0 (aE (ay (ju (K:=K) O) (by rfl) T.x4 fj (aE (ak 5))))) (λnd=>(ai 0 nd)) aF (ay (k9 rfl) (by rfl) T.xf wK (aA (ak 1) (au di (am K (ak 2) (ak 0)) (ak 0))))))
   (ac (aw 6 cE.nd (tN (K:=K) O O (by rfl) T.xi (by rfl) T.xo (aE (ak 6))))
   (ac (aw 5 cE.nd (jp (aX BK (ay (ju (K:=K) O) (by rfl) T.x4 fj (aE (ak 6))) aa (bn _)) (au xE (tu (Nc (K:=K) O) (ak 5) v7 (wQ (au cC (ay (ju (K:=K) O) (by rfl) T.x4 fj (aE (ak 6))) aa))) (bV (aE (ak 1)))) (bV (aA aa (ak 1)))))
   (ae (aw 6 cE.nd (jp (aX BK (ay (ju (K:=K) O) (by rfl) T.x4 fj (aE (ak 6))) aa (bn _)) (ak 6) (bV (aA aa (ak 2))))))))) aH)
   (ae (aq (aG uC4 ["_law_places","_law_values"] [5,6] 1 (bj rfl T.x0 (aE (ay (ju (K:=K) O) (by rfl) T.x4 fj (aE (ak 5))))) (λnd=>(ai 0 nd)) aF (aW (aA (am K (ak 1) (ak 0)) (am K (ak 2) (ak 0)))))))))))),?_⟩
  have s64:∀ {n:Int},0<n->n<100000->Sm 8000 n:=λh1 h2=>Sm.mono (k:=20) (by unfold Sm;lia) Z
  refine⟨_,O,t,r,5,O,tw,Z,s64 Z Z,λd H1 d0 d1 tw1 mv1=>⟨_,_,O,O,?_⟩⟩;refine⟨_,O,kY,λp hp=>?_⟩;generalize C:upd H1 p _=H2;have sp:=gB hp C;have gp:=eD C;have np:=tw1.not hp;have tw2:=tw1.same sp;have mv2:=mv1.trans (Mv.of sp);refine⟨_,O,_,O,zyA,zyA,tD (t:=t) (r:=r) (lo:=0) (m:=a) tw2 zyA (λi H3 hi tH mv3 R kk S=>?_) (λks H3 hk hP tH mv3 D I=>?_)⟩
  ·exact aY (B:=S H3) ⟨_,O,_,O,_,_,O,O,t,r,_,O,tH,zyA,s64 zyA zyA,λd3 H4 a3 b3 tw4 mv4=>kk _ _ ⟨d3,O,a3,zyA,tw4,mv4⟩⟩
  generalize C:upd H3 D _=H4;have sD:=gB I C;have gD:=eD C;have tw4:=tH.same sD;have mv4:=(mv2.trans mv3).trans (Mv.of sD);have gp4:=sD _ _ (mv3 _ _ gp np);have hk':ks.length<=6:=zyA
  refine⟨p,D,_,_,O,O,gp4,gD,by rw[R5,Uo];simp;lia,λp5 hp5=>?_⟩;have s5:ah H4 (upd H4 p5 (.lst ([.int 0,.int a]++ks.map V.int))):=ah.new hp5;have g5:upd H4 p5 (.lst ([.int 0,.int a]++ks.map V.int)) p5=Y (.lst (([0,a]++ks).map V.int)):=by rw[ag,T5];rfl
  have tw5:=tw4.same s5;have mv5:=mv4.trans (Mv.of s5);generalize upd H4 p5 (.lst ([.int 0,.int a]++ks.map V.int))=H5 at s5 g5 tw5 mv5 ⊢;refine⟨p5,[0,a]++ks,O,bI.of g5,by simp;lia,λL ns hL up mem len=>?_⟩;have pl:Pl a ns:=Px l1 up ((mem 0).mpr zyB) ((mem a).mpr zyB) (λx J=>by
   have:=(mem x).mp J;simp only[S8,R',Sg,TK] at this;rcases this with (e|e)|e
   ·lia
   ·lia
   ·exact hP x e) (by simp at len;lia)
  have few8:ns.length<=8:=by simp at len;lia
  generalize C:upd H5 L _=H6;have s6:=gB hL C;have g6:=eD C;have nL:=tw5.not hL;have tw6:=tw5.same s6;have mv6:=mv5.trans (Mv.of s6);have two:=pl.two;have len6:(ns.map V.int).length=ns.length:=R5 _;refine⟨_,O,L,_,O,.inl (bI.of g6),_,O,zyA,zyA,tD (t:=t) (r:=r) (lo:=0) (m:=b) tw6 zyA (λi H7 hi tw7 mv7 R kk S=>?_) (λvs H7 hv iv tw7 mv7 D7 hD7=>?_)⟩
  ·exact aY (B:=S H7) ⟨_,O,_,O,_,_,O,O,t,r,_,O,tw7,zyA,s64 zyA zyA,λd3 H4 a3 b3 tw4 mv4=>kk _ _ ⟨d3,O,a3,zyA,tw4,mv4⟩⟩
  have hv:vs.length=ns.length:=zyA
  generalize C:upd H7 D7 _=H8;have s8:=gB hD7 C;have g8:=eD C;have tw8:=tw7.same s8;have mv8:=(mv6.trans mv7).trans (Mv.of s8);have gL8:=s8 _ _ (mv7 _ _ g6 nL);refine⟨D7,vs,O,bI.of g8,zyA,λL9 A hL9 up9 pe9=>?_⟩;have lw:A.length=ns.length:=by rw[pe9.length_eq];exact hv
  have iw:∀ x∈A,0<=x/\x<=b:=λx J=>iv x (pe9.mem_iff.mp J)
  generalize C:upd H8 L9 _=H9;have s9:=gB hL9 C;have g9:=eD C;have nL9:=tw8.not hL9;have tw9:=tw8.same s9;have mv9:=mv8.trans (Mv.of s9);have gL9:=s9 _ _ gL8;have out:∀ (ps:List Pt) (z:Pt) (G:Hp) (ys:List V) (D:Sd),vN ps->ps.getLast?=Y z->z.1=a->z.2<=b->cr G t r->Mv [t,r] H G->aB K G (ps.map tJ) ys->G D=none->Q (.ref D) (upd G D (.lst ys)):=
   λps z G ys D h1 h2 h3 h4 twG mvG g I=>q D ps z ys _ ag (aB.same (ah.new I) g) h1 h2 h3 h4 (twG.not I) (twG.same (ah.new I)) (mvG.trans (Mv.of (ah.new I)))
  refine⟨_,O,_,O,?_⟩;refine fm (λhc=>?_) (λhc=>?_)
  ·let cl:List Int:=(UH ns.length).map λk:Nat=>if A.getD k 0+(k:Int)<b then A.getD k 0+(k:Int) else b
   have icl:∀ x∈cl,0<=x/\x<=b:=λx J=>by
    obtain⟨k,hk,rfl⟩:=Ta.mp J;rw[U4] at hk;have:A.getD k 0=A[k]:=by simp[List.getD,show k<A.length by lia]
    have:=iw A[k] (UY _)
    split<;>lia
   have lcl:cl.length=ns.length:=by simp[cl]
   refine⟨_,O,L,_,O,.inl (bI.of gL9),_,O,zyA,zyA,im (K:=K) (lo:=0) (ds:=cl.map Uf) (by rw[R5,lcl];lia) zyA (λi d G hd o R kk S=>?_) (λys G o g D I=>?_)⟩
   ·rw[Sc] at hd;obtain⟨m,em,rfl⟩:=So.mp hd;have hi:i<ns.length:=by have:=(R9.mp em).1;lia
    have em':m=if A.getD i 0+(i:Int)<b then A.getD i 0+(i:Int) else b:=by
     simp only[cl,Sc,List.getElem?_range hi,abh,aaO] at em;exact em.symm
    have ew:(A.map V.int)[i]?=Y (.int (A.getD i 0)):=by simp[List.getD,show i<A.length by lia]
    exact aY (B:=S G) ⟨_,O,_,O,_,O,N_ (o _ _ g9) (j:=i) ew zyA ⟨_,O,_,_,O,O,_,_,O,kk _ _ ⟨ah.refl _,by rw[em',Xs];exact .int _⟩⟩⟩
   cases AX g;have s10:ah H9 (upd G D (.lst (cl.map V.int))):=o.trans (ah.new I);have g10:upd G D (.lst (cl.map V.int)) D=Y (.lst (cl.map V.int)):=ag;clear g;generalize upd G D (.lst (cl.map V.int))=G at s10 g10 ⊢;refine⟨_,O,D,cl,O,bI.of g10,zyA,λL2 f hL2 up2 mem2 len2=>?_⟩;have iu:∀ x∈f,0<=x/\x<=b:=λx J=>icl x ((mem2 x).mp J)
   have s11:ah H9 (upd G L2 (.lst (f.map V.int))):=s10.trans (ah.new hL2);have g11:upd G L2 (.lst (f.map V.int)) L2=Y (.lst (f.map V.int)):=ag;generalize upd G L2 (.lst (f.map V.int))=G at s11 g11 ⊢;have lu:(f.map V.int).length=f.length:=R5 _;have gL11:=s11 _ _ gL9;refine⟨_,O,L2,_,O,.inl (bI.of g11),_,_,O,O,_,O,?_⟩
   by_cases hu:1<f.length
   ·rw[R8 (show((f.map V.int).length:Int)>1 by lia)];refine aY ?_;refine⟨_,O,_,O,L2,_,O,.inl (bI.of g11),_,_,O,O,_,O,L,_,O,bI.of gL11,λF l=>⟨_,O,Ow,λp2 M=>?_⟩⟩;rw[lu,IY (ns.map V.int) f.length zyA,<- List.map_take] at M ⊢;have N:ah G (upd (upd G F (.lst ((ns.take (f.length-1)).map V.int))) p2 (.lst [.int a])):=(ah.new l).trans (ah.new M);have ga:upd (upd G F (.lst ((ns.take (f.length-1)).map V.int))) p2 (.lst [.int a]) F=Y (.lst ((ns.take (f.length-1)).map V.int)):=ah.new M _ _ ag;have gb:upd (upd G F (.lst ((ns.take (f.length-1)).map V.int))) p2 (.lst [.int a]) p2=Y (.lst [.int a]):=ag;generalize upd (upd G F (.lst ((ns.take (f.length-1)).map V.int))) p2 (.lst [.int a])=G2 at N ga gb ⊢;refine⟨F,p2,_,_,O,O,ga,gb,by rw[R5,SX,Uo];simp;lia,λp3 hp3=>?_⟩;rw[show(ns.take (f.length-1)).map V.int++[V.int a]=(ns.take (f.length-1)++[a]).map V.int by simp];obtain⟨pl2,len2'⟩:=M8 pl hu zyA;generalize ns.take (f.length-1)++[a]=ms at pl2 len2' ⊢;have u:ah H9 (upd G2 p3 (.lst (ms.map V.int))):=(s11.trans N).trans (ah.new hp3);have y:upd G2 p3 (.lst (ms.map V.int)) p3=Y (.lst (ms.map V.int)):=ag;have s:upd G2 p3 (.lst (ms.map V.int)) L2=Y (.lst (f.map V.int)):=ah.new hp3 _ _ (N _ _ g11);generalize upd G2 p3 (.lst (ms.map V.int))=G3 at u y s ⊢;have lm:(ms.map V.int).length=ms.length:=R5 _;refine⟨_,O,L2,_,O,.inl (bI.of s),_,_,O,O,_,O,?_⟩;rw[R8 (show((f.map V.int).length:Int)>1 by lia)];refine aY ⟨_,O,?_⟩;obtain⟨l,z,hz,ez⟩:=DY pl2 l2 (up2.imp (λh=>Yk h)) (λx J=>by have:=iu x J;lia) zyA;have lz:(ms.zip f).length=ms.length:=by rw[X2];lia
    refine⟨_,O,p3,_,O,.inl (bI.of y),_,O,zyA,zyA,im (K:=K) (lo:=0) (ds:=(ms.zip f).map tJ) (by rw[R5];lia) zyA (λi d G' hd o R kk S=>?_) (λys G' o g D I=>?_)⟩
    ·rw[Sc] at hd;obtain⟨pt,ept,rfl⟩:=So.mp hd;obtain⟨ea,eb⟩:=S5.mp ept;exact aY (B:=S G') ⟨_,O,_,O,N_ (o _ _ y) (j:=i) (v:=.int pt.1) (by rw[Sc,ea];rfl) zyA ⟨_,O,_,O,N_ (o _ _ s) (j:=i) (v:=.int pt.2) (by rw[Sc,eb];rfl) zyA ⟨kY,λp hp=>kk _ _ ⟨ah.new hp,ax.tupN hp (.cons (.int _) (.cons (.int _) .nil))⟩⟩⟩⟩
    ·exact out _ z G' ys D l hz ez (iu z.2 (Vw (Vp hz)).2).2 ((tw9.same u).same o) ((mv9.trans (Mv.of u)).trans (Mv.of o)) g I
   ·rw[Td (show ¬ ((f.map V.int).length:Int)>1 by lia)];refine bN ⟨_,O,kY,λF l=>?_⟩;have N:ah H9 (upd G F (.lst [.int 0,.int a])):=s11.trans (ah.new l);have g12:upd G F (.lst [.int 0,.int a]) F=Y (.lst ([0,a].map V.int)):=ag;have gu12:upd G F (.lst [.int 0,.int a]) L2=Y (.lst (f.map V.int)):=ah.new l _ _ g11;generalize upd G F (.lst [.int 0,.int a])=G2 at N g12 gu12 ⊢;refine⟨_,O,L2,_,O,.inl (bI.of gu12),_,_,O,O,_,O,?_⟩;rw[Td (show ¬ ((f.map V.int).length:Int)>1 by lia)];refine bN ⟨_,O,kY,λp2 M=>?_⟩;have u:ah H9 (upd G2 p2 (.lst [.int 0,.int b])):=N.trans (ah.new M);have y:upd G2 p2 (.lst [.int 0,.int b]) F=Y (.lst ([0,a].map V.int)):=ah.new M _ _ g12;have s:upd G2 p2 (.lst [.int 0,.int b]) p2=Y (.lst ([0,b].map V.int)):=ag;generalize upd G2 p2 (.lst [.int 0,.int b])=G3 at u y s ⊢;have lm:([0,a].map V.int).length=2:=O;have lm2:[0,a].length=2:=O;have lm3:[0,b].length=2:=O;obtain⟨l,z,hz,ez⟩:=DY (MF l1) l2 (show[0,b].Pairwise (·<=·) by simp;lia) (λx J=>by simp at J;lia) O;have lz:([0,a].zip [0,b]).length=[0,a].length:=by rw[X2];lia
    refine⟨_,O,F,_,O,.inl (bI.of y),_,O,zyA,zyA,im (K:=K) (lo:=0) (ds:=([0,a].zip [0,b]).map tJ) (by rw[R5];lia) zyA (λi d G' hd o R kk S=>?_) (λys G' o g D I=>?_)⟩
    ·rw[Sc] at hd;obtain⟨pt,ept,rfl⟩:=So.mp hd;obtain⟨ea,eb⟩:=S5.mp ept;exact aY (B:=S G') ⟨_,O,_,O,N_ (o _ _ y) (j:=i) (v:=.int pt.1) (by rw[Sc,ea];rfl) zyA ⟨_,O,_,O,N_ (o _ _ s) (j:=i) (v:=.int pt.2) (by rw[Sc,eb];rfl) zyA ⟨kY,λp hp=>kk _ _ ⟨ah.new hp,ax.tupN hp (.cons (.int _) (.cons (.int _) .nil))⟩⟩⟩⟩
    ·exact out _ z G' ys D l hz ez (by have m:=(Vw (Vp hz)).2;simp at m;lia) ((tw9.same u).same o) ((mv9.trans (Mv.of u)).trans (Mv.of o)) g I
  ·obtain⟨l,z,hz,ez⟩:=DY pl l2 up9 (λx J=>by have:=iw x J;lia) lw;have lz:(ns.zip A).length=ns.length:=by rw[X2];lia
   refine⟨_,O,L,_,O,.inl (bI.of gL9),_,O,zyA,zyA,im (K:=K) (lo:=0) (ds:=(ns.zip A).map tJ) (by rw[R5];lia) zyA (λi d G hd o R kk S=>?_) (λys G o g D I=>?_)⟩
   ·rw[Sc] at hd;obtain⟨pt,ept,rfl⟩:=So.mp hd;obtain⟨ea,eb⟩:=S5.mp ept;exact aY (B:=S G) ⟨_,O,_,O,N_ (o _ _ gL9) (j:=i) (v:=.int pt.1) (by rw[Sc,ea];rfl) zyA ⟨_,O,_,O,N_ (o _ _ g9) (j:=i) (v:=.int pt.2) (by rw[Sc,eb];rfl) zyA ⟨kY,λp hp=>kk _ _ ⟨ah.new hp,ax.tupN hp (.cons (.int _) (.cons (.int _) .nil))⟩⟩⟩⟩
   ·exact out _ z G ys D l hz ez (iw z.2 (Vw (Vp hz)).2).2 (tw9.same o) (mv9.trans (Mv.of o)) g I
theorem gu:ao ["_law_town_here","_law_kind","_law_first","_law_cap"] uA1 (af kR):=cN
inductive vq (vs:List V)(H:Hp)(Q:VK)(_:XK):Prop
 |mk (t r:Sd) (_:vs=[.ref t]) (_:cr H t r) (_:∀ (v:V) (s:S9) (H':Hp),ax K (cut [t,r] H') s.d v->s.In->cr H' t r->Mv [t,r] H H'->Q v H')
def Ra (d:Tr):Prop:=∃ i:Int,d=.int i/\-4000<=i/\i<=4000
theorem E7 {ds:List Tr}(e:ds.length=3)(h:∀ d∈ds,Ra d):∃ r:R3,ds=r.ds/\r.In 4000:=by
 match ds,e,h with
 |[x,y,z],_,h=>
  obtain⟨a,rfl,f,j⟩:=h x zyB;obtain⟨b,rfl,g,i⟩:=h y zyB;obtain⟨c,rfl,c1,c2⟩:=h z zyB;exact⟨⟨a,b,c⟩,O,f,j,g,i,c1,c2⟩
theorem vt [T:cH K mg w]:bF 3 "_law_square" uA1 [] vq:=by
  refine T.x3l.cal gu (bb:=λ_ _ _ _ _ H vs Q E hr h=>?_);obtain⟨t,r,rfl,tw,q⟩:=h;refine⟨_,(cA.go (ac (aw 1 gu.nd (ab av aQ hr (aA (ak 0) aa)))
   (ac (aZ (aX fq (ak 1) aa (bn _)) (ae (aq (aW (aj (aW (aj aa (aj aa (aj aa aN)))) (aj (aW (aj aa (aj aa (aj aa aN)))) (aj (aW (aj aa (aj aa (aj aa aN)))) aN)))))) aH)
   (ac (aZ (aX fq (ak 1) aa (bn _)) (ac (cP 2 uC4 uA1 [0] 1 gu.nd (bj rfl T.x0 (aE aa)) (λM=>(ai 0 M)) aF (au cC (ab av aQ hr (aA (ak 1) aa)) aa))
   (ae (aq (bV (aj (ak 2) (aj (aG ["_law_one"] [] [] 1 (bE (K:=K) O (ak 2)) (λM=>(ai 0 M)) aF (au aM aa (ak 0))) (aj (aG uC4 uA1 [0] 1 (bj rfl T.x0 (aE aa)) (λM=>(ai 0 M)) aF (ab av aQ hr (aA (ak 1) aa))) aN))))))) aH)
   (ac (aw 3 gu.nd (ab av dX hr (aA (ak 0) (bV (aj aa (aj aa (aj aa aN)))))))
   (ae (aq (aG ["_law_j"] tR [0,3] 1 (bj rfl T.x0 (aE aa)) (λM=>(ai 0 M)) aF (aG uC4 tR [1,2] 1 (bj rfl T.x0 (aE aa)) (λM=>(ai 0 M)) aF (au cC (ab av aQ hr (aA (ak 1) (au di (au aM aa (ak 2)) aa))) (ak 2))))))))))),?_⟩
  have J:∀ {n:Int},0<n->n<100000->Sm 8000 n:=λh1 h2=>Sm.mono (k:=20) (by unfold Sm;lia) Z
  refine⟨_,O,t,r,4,O,tw,Z,J Z Z,λd1 H1 a1 b1 N mv1=>?_⟩;refine⟨_,O,_,_,O,O,_,O,?_⟩;refine fm (λ_=>?_) (λ_=>?_)
  ·refine⟨Gd,λp hp=>⟨Gd,λp2 hp2=>⟨Gd,λp3 G=>⟨Gd,λp4 C=>?_⟩⟩⟩⟩;have t1:ax K (upd H1 p (.tup [.int 412,.int 357,.int 180])) (cB false ⟨412,357,180⟩) (.ref p):=ax.tupN hp (.cons (.int _) (.cons (.int _) (.cons (.int _) .nil)));have sa:ah H1 (upd H1 p (.tup [.int 412,.int 357,.int 180])):=ah.new hp;generalize upd H1 p (.tup [.int 412,.int 357,.int 180])=A at t1 sa hp2 G C ⊢;have t2:ax K (upd A p2 (.tup [.int 212,.int 715,.int 72])) (cB false ⟨212,715,72⟩) (.ref p2):=ax.tupN hp2 (.cons (.int _) (.cons (.int _) (.cons (.int _) .nil)));have sb:ah A (upd A p2 (.tup [.int 212,.int 715,.int 72])):=ah.new hp2;generalize upd A p2 (.tup [.int 212,.int 715,.int 72])=H3 at t2 sb G C ⊢;have t3:ax K (upd H3 p3 (.tup [.int 19,.int 119,.int 950])) (cB false ⟨19,119,950⟩) (.ref p3):=ax.tupN G (.cons (.int _) (.cons (.int _) (.cons (.int _) .nil)));have sc:ah H3 (upd H3 p3 (.tup [.int 19,.int 119,.int 950])):=ah.new G;generalize upd H3 p3 (.tup [.int 19,.int 119,.int 950])=m at t3 sc C ⊢;have sd:ah m (upd m p4 (.tup [.ref p,.ref p2,.ref p3])):=ah.new C;have s4:ah H1 (upd m p4 (.tup [.ref p,.ref p2,.ref p3])):=(sa.trans sb).trans (sc.trans sd);have g:=N.same s4;have hh:ax K (upd m p4 (.tup [.ref p,.ref p2,.ref p3])) (S9.d ⟨false,false,false,false,⟨412,357,180⟩,⟨212,715,72⟩,⟨19,119,950⟩⟩) (.ref p4):=
    ax.tupN C (.cons (ax.same (sb.trans sc) t1) (.cons (ax.same sc t2) (.cons t3 .nil)))
   refine q _ ⟨false,false,false,false,⟨412,357,180⟩,⟨212,715,72⟩,⟨19,119,950⟩⟩ _ (ax.cutT g.lists rfl hh) ?_ g (mv1.trans (Mv.of s4));exact⟨⟨Z,Z,Z,Z,Z,Z⟩,⟨Z,Z,Z,Z,Z,Z⟩,⟨Z,Z,Z,Z,Z,Z⟩⟩
  refine⟨_,O,_,_,O,O,_,O,?_⟩;refine fm (λ_=>?_) (λ_=>?_)
  ·refine⟨3,O,Z,Z,eO (K:=K) (lo:=0) (n:=3) (Pd:=λd=>∃ i:Int,d=.int i/\-2000<=i/\i<=2000) N Z (λi A hi s mv2 R kk S=>?_) (λds ys A hl hP s mv2 j D F=>?_)⟩
   ·refine aY (B:=S A) ⟨_,O,t,r,9,O,s,Z,J Z Z,λd2 H3 a2 b2 tH l=>⟨_,_,O,O,kk _ _ ⟨tH,l,.int (d2-4),⟨_,O,zyA,zyA⟩,.int _⟩⟩⟩
   obtain⟨f,rfl,i1⟩:∃ f:R3,ds=f.ds/\f.In 2000:=by
    match ds,hl,hP with
    |[x,y,z],_,h=>
     obtain⟨a,rfl,a1,a2⟩:=h x zyB;obtain⟨b,rfl,b1,b2⟩:=h y zyB;obtain⟨c,rfl,c1,c2⟩:=h z zyB;exact⟨⟨a,b,c⟩,O,a1,a2,b1,b2,c1,c2⟩
   have sD:ah A (upd A D (.lst ys)):=ah.new F;have c1:=il s F j;have tH:=s.same sD;have l:=(mv1.trans mv2).trans (Mv.of sD);generalize upd A D (.lst ys)=H3 at sD c1 tH l ⊢;have g1:=ax.uncut c1;obtain⟨b,xs,eb,hb,hxs⟩:=aL (b:=true) g1;cases eb;refine⟨_,O,_,O,D,true,O,⟨_,hb⟩,bT (es:=(R3.mk (2*f.a) (2*f.b) (2*f.c)).ds) hb hxs rfl (Z:3<=1000) (λi d e u m hd he s4 hu R kk S=>?_) (λzs m s4 hzs D2 hD2=>?_)⟩
   ·refine aY (B:=S m) ?_;rcases qD hd with ⟨rfl,rfl⟩|⟨rfl,rfl⟩|⟨rfl,rfl⟩<;>(cases hu;cases(RU he);exact⟨_,rfl,_,_,rfl,rfl,.inr (by unfold Sm;decide),kk _ _ ⟨ah.refl _,.int _⟩⟩)
   have g:=tH.same s4;have sD2:ah m (upd m D2 (.lst zs)):=ah.new hD2;have zz:=g_ hzs;subst zz;have c2:ax K (cut [t,r] (upd m D2 (.lst (R3.mk (2*f.a) (2*f.b) (2*f.c)).vs))) (cB true ⟨2*f.a,2*f.b,2*f.c⟩) (.ref D2):=il g hD2 (.cons (.int _) (.cons (.int _) (.cons (.int _) .nil)));have c1':=ax.same (ah.cut (T:=[t,r]) (s4.trans sD2)) c1;have tw5:=g.same sD2;have mv5:=(l.trans (Mv.of s4)).trans (Mv.of sD2);generalize upd m D2 (.lst (R3.mk (2*f.a) (2*f.b) (2*f.c)).vs)=H5 at c2 c1' tw5 mv5 ⊢;refine⟨3,O,Z,Z,eO (K:=K) (lo:=0) (n:=3) (Pd:=Ra) tw5 Z (λi H6 hi tw6 mv6 R kk S=>?_) (λds ys H6 hl hP tw6 mv6 j D3 hD3=>?_)⟩
   ·refine aY (B:=S H6) ⟨_,O,t,r,99,O,tw6,Z,J Z Z,λd2 H7 a2 b2 C G=>kk _ _ ⟨C,G,.int d2,⟨_,O,zyA,zyA⟩,.int _⟩⟩
   obtain⟨I,rfl,i3⟩:=E7 hl hP;have c3:=il tw6 hD3 j;have sD3:ah H6 (upd H6 D3 (.lst ys)):=ah.new hD3;have c1'':=ax.same ((mv6.trans (Mv.of sD3)).cut) c1';have c2':=ax.same ((mv6.trans (Mv.of sD3)).cut) c2;have C:=tw6.same sD3;have G:=(mv5.trans mv6).trans (Mv.of sD3);generalize upd H6 D3 (.lst ys)=H7 at c3 c1'' c2' C G ⊢;refine⟨Gd,λL hL=>?_⟩;refine q _ ⟨true,true,true,true,f,⟨2*f.a,2*f.b,2*f.c⟩,I⟩ _ (il (ds:=[cB true f,cB true ⟨2*f.a,2*f.b,2*f.c⟩,cB true I]) C hL (.cons c1'' (.cons c2' (.cons c3 .nil)))) ⟨?_,?_,i3⟩ (C.same (ah.new hL)) (G.trans (Mv.of (ah.new hL)))
   ·obtain⟨a1,a2,b1,b2,c1,c2⟩:=i1;exact⟨by show -4000<=f.a;lia,by show f.a<=4000;lia,by show -4000<=f.b;lia,by show f.b<=4000;lia,by show -4000<=f.c;lia,by show f.c<=4000;lia⟩
   ·obtain⟨a1,a2,b1,b2,c1,c2⟩:=i1;exact⟨by show -4000<=2*f.a;lia,by show 2*f.a<=4000;lia,by show -4000<=2*f.b;lia,by show 2*f.b<=4000;lia,by show -4000<=2*f.c;lia,by show 2*f.c<=4000;lia⟩
  refine⟨_,O,Gd,λp hp=>?_⟩;obtain⟨_,_,k1,k2,_⟩:=id N;refine⟨t,r,p,_,O,N.same (ah.new hp),ag,(aS k1 hp).symm,(aS k2 hp).symm,zyB,Z,λi v A hv s mv2=>?_⟩;obtain⟨o,rfl,h1,h2⟩:∃ o:Int,v=.int o/\0<o/\o<=4000:=by
   rcases qD hv with ⟨_,rfl⟩|⟨_,rfl⟩|⟨_,rfl⟩<;>exact⟨_,rfl,Z,Z⟩
  have mv2':=(mv1.trans (Mv.of (ah.new hp))).trans mv2;refine⟨3,O,Z,Z,eO (K:=K) (lo:=0) (n:=3) (Pd:=λd=>∃ r:R3,d=cB true r/\r.In 4000) s Z (λi H3 hi tH l R kk S=>?_) (λds ys H3 hl hP tH l j D F=>?_)⟩
  ·refine aY (B:=S H3) ?_;refine⟨3,O,Z,Z,eO (K:=K) (lo:=0) (n:=3) (Pd:=Ra) tH Z (λi m hi g C R kk S=>?_) (λds ys m hl hP g C j D F=>?_)⟩
   ·refine aY (B:=S m) ⟨_,O,_,O,_,_,O,O,.inr (by unfold Sm;decide),_,_,O,O,t,r,2*o+1,O,g,zyA,J zyA zyA,λd2 H5 a2 b2 tw5 mv5=>⟨_,O,_,_,O,O,kk _ _ ⟨tw5,mv5,.int (d2-o),⟨_,O,zyA,zyA⟩,.int _⟩⟩⟩
   obtain⟨I,rfl,i3⟩:=E7 hl hP;exact kk _ _ ⟨g.same (ah.new F),C.trans (Mv.of (ah.new F)),cB true I,⟨_,O,i3⟩,il g F j⟩
  obtain⟨f,r2,I,rfl,i1,i2,i3⟩:∃ f r2 I:R3,ds=[cB true f,cB true r2,cB true I]/\f.In 4000/\r2.In 4000/\I.In 4000:=by
   match ds,hl,hP with
   |[x,y,z],_,h=>
    obtain⟨a,rfl,a1⟩:=h x zyB;obtain⟨b,rfl,b1⟩:=h y zyB;obtain⟨c,rfl,c1⟩:=h z zyB;exact⟨a,b,c,O,a1,b1,c1⟩
  exact q _ ⟨true,true,true,true,f,r2,I⟩ _ (il tH F j) ⟨i1,i2,i3⟩ (tH.same (ah.new F)) ((mv2'.trans l).trans (Mv.of (ah.new F)))
theorem b9:ao ["_law_town_here","_law_size","_law_table","_law_kind","_law_rows","_law_a","_law_b","_law_c","_law_worth"] uD1 (af nC):=cN
inductive zJ (vs:List V)(H:Hp)(Q:VK)(_:XK):Prop
 |mk (t r:Sd) (n:Nat) (_:vs=[.ref t,.int n]) (_:cr H t r) (_:2<=n) (_:n<=7) (_:∀ (d:Sd) (f:Kn->R3) (H':Hp),yZ K H' (aI n) f d->Db n f->cr H' t r->Mv [t,r] H H'->H d=none->Q (.ref d) H')
structure R4 where
 w:Int
 x:Int
 y:Int
 z:Int
def R4.ds (r:R4):List Tr:=[.int r.w,.int r.x,.int r.y,.int r.z]
structure R4.In (r:R4):Prop where
 w0:0<=r.w
 w1:r.w<200
 x0:0<=r.x
 x1:r.x<90
 y0:0<=r.y
 y1:r.y<90
 z0:0<=r.z
 z1:r.z<90
theorem JG {K:KE}{H:Hp}{r:R4}{v:V}(h:ax K H (.list r.ds) v):∃ a,v=.ref a/\bI K H a [.int r.w,.int r.x,.int r.y,.int r.z]:=by
 obtain⟨a,d,rfl,f,c⟩:=aL (b:=true) (ds:=r.ds) h;have e:d=[r.w,r.x,r.y,r.z].map V.int:=dY (ns:=[r.w,r.x,r.y,r.z]) c;subst e;exact⟨a,O,f⟩
structure R3.Up (r:R3):Prop where
 a:0<=r.a
 b:0<=r.b
 c:0<=r.c
theorem Pg {ds:List Tr}(e:ds.length=3)(h:∀ d∈ds,∃ i:Int,d=.int i/\0<=i):∃ r:R3,ds=r.ds/\r.Up:=by
 match ds,e,h with
 |[x,y,z],_,h=>
  obtain⟨a,rfl,g⟩:=h x zyB;obtain⟨b,rfl,f⟩:=h y zyB;obtain⟨c,rfl,c1⟩:=h z zyB;exact⟨⟨a,b,c⟩,O,g,f,c1⟩
structure ma (K:KE)(t r d R:Sd)(rs:Tr)(H1:Hp)(ts:List Kn)(H':Hp):Prop where
 tw:cr H' t r
 mv:Mv [t,r,d] H1 H'
 rs:ax K (cut [t,r] H') rs (.ref R)
 gr:∃ f,yZ K H' ts f d/\∀ u∈ts,(f u).Wt
theorem ma.same {K:KE}{t r d R:Sd}{rs:Tr}{c e g:Hp}{ts:List Kn}(h:ma K t r d R rs c ts e)(s:ah e g):ma K t r d R rs c ts g:=
 ⟨h.tw.same s,h.mv.trans (Mv.of s),ax.same (ah.cut s) h.rs,let ⟨f,a,b⟩:=h.gr;⟨f,a.same s,b⟩⟩
theorem ma.draw {K:KE}{t r d R:Sd}{rs:Tr}{e g c:Hp}{ts:List Kn}(h:ma K t r d R rs e ts g)(i:cr c t r)(m:Mv [t,r] g c):ma K t r d R rs e ts c:=
 ⟨i,h.mv.trans m.wide,ax.same m.cut h.rs,let ⟨f,a,b⟩:=h.gr;⟨f,a.mv m h.tw.lists,b⟩⟩
theorem Aa [T:cH K mg w]:bF 2 "_law_grid" uD1 [] zJ:=by
  refine T.x3m.cal b9 (bb:=λ_ _ _ _ _ H vs Q E hr h=>?_);obtain⟨t,r,n,rfl,tw,h2,h7,q⟩:=h;refine⟨_,(cA.go (ac (aw 2 b9.nd zd)
   (ac (aw 3 b9.nd (ab av aQ hr (aA (ak 0) aa)))
   (ac (cP 4 uC4 uA1 [0] 1 b9.nd (bj rfl T.x0 (aE aa)) (λM=>(ai 0 M)) aF (bV (aj (ab av aQ hr (aA (ak 1) aa)) (aj (ab av aQ hr (aA (ak 1) aa)) (aj (ab av aQ hr (aA (ak 1) aa)) (aj (ab av aQ hr (aA (ak 1) aa)) aN))))))
   (ac (de SW rfl (bj rfl T.x0 (aE (ak 1))) (ai 5 b9.nd) (ae (de SW rfl (bj rfl T.x0 (aE (ak 1))) (ai 6 b9.nd) (ae (de SW rfl (bj rfl T.x0 (aE (ak 1))) (ai 7 b9.nd) (ac (aZ (aX fq (ak 3) aa (bn _)) (ae (cP 8 uD8 ["_law_a","_law_b","_law_c"] [5,6,7] 4 b9.nd (bE (K:=K) O (ak 4)) (λM=>(Dl (K:=K) (n:=4) O O (az (ai 0 M) (az (ai 1 M) (az (ai 2 M) (az (ai 3 M) bv)))))) aF (au di (au di (au di (ak 0) (au aM (ak 1) (ak 4))) (au aM (ak 2) (ak 5))) (au aM (ak 3) (ak 6))))) (ae (aZ (aX fq (ak 3) aa (bn _)) (ae (cP 8 uC4 uA1 [0] 1 b9.nd (bj rfl T.x0 (aE aa)) (λM=>(ai 0 M)) aF (ab av aQ hr (aA (ak 1) aa)))) (ae (cP 8 uD8 ["_law_a","_law_size","_law_b","_law_c"] [5,1,6,7] 4 b9.nd (bE (K:=K) O (ak 4)) (λM=>(Dl (K:=K) (n:=4) O O (az (ai 0 M) (az (ai 1 M) (az (ai 2 M) (az (ai 3 M) bv)))))) aF (ay (k9 rfl) (by rfl) T.xf wK (aA aa (au di (au di (au di (ak 0) (au dR (au aM (au aM (ak 1) (ak 4)) (ak 4)) (ak 5))) (au aM aa (ak 6))) (au aM aa (ak 7))))))))))
   (ac (aZ (WW.pt (EQ (aX fq (ak 5) (ak 6) (bn _)) (EQ (aX fq (ak 6) (ak 7) (bn _)) (HQ (aX fq (ak 3) aa (bn _)))))) (ae (aw 8 b9.nd (au H_ (bV (aE (am K (ak 8) aa))) aa))) aH)
   (ae (C0 hr.u1 (ak 2) (aW (aj (ak 5) (aj (ak 6) (aj (ak 7) aN)))) (bQ (gN (K:=K) O) (by rfl) T.x3 cF (aE (aG ["_law_one"] [] [] 1 (bE (K:=K) O (ak 8)) (λM=>(ai 0 M)) aF (ay (k9 rfl) (by rfl) T.xf wK (aA aa (ak 0)))))) O)))))))))
   (ae (aq (ak 2)))))))),?_⟩
  have s64:∀ {n:Int},0<n->n<100000->Sm 8000 n:=λh1 h2=>Sm.mono (k:=20) (by unfold Sm;lia) Z
  refine λd hd=>?_
  have sd:ah H (upd H d (.dT [])):=ah.new hd;have tw0:=tw.same sd;have gd0:upd H d (.dT []) d=Y (.dT []):=ag;generalize hH0:upd H d (.dT [])=H0 at sd tw0 gd0 ⊢;refine⟨_,O,t,r,3,O,tw0,Z,s64 Z Z,λkd H1 k0 k3 tw1 mv1=>?_⟩;refine⟨3,O,Z,Z,eO (K:=K) (lo:=0) (n:=3) (Pd:=λd=>∃ r:R4,d=.list r.ds/\r.In) tw1 Z (λi H2 hi tw2 mv2 R kk S=>?_) (λds ys H2 hl hP tw2 mv2 hys R hR=>?_)⟩
  ·refine aY (B:=S H2) ⟨_,O,t,r,200,O,tw2,Z,s64 Z Z,λx1 H3 a1 b1 tH J=>?_⟩;refine⟨_,O,t,r,90,O,tH,Z,s64 Z Z,λx2 H4 a2 b2 G F=>?_⟩;refine⟨_,O,t,r,90,O,G,Z,s64 Z Z,λx3 H5 a3 b3 tw5 mv5=>?_⟩;refine⟨_,O,t,r,90,O,tw5,Z,s64 Z Z,λx4 H6 a4 b4 s N=>⟨RP,λL hL=>?_⟩⟩;exact kk _ _ ⟨s.same (ah.new hL),(((J.trans F).trans mv5).trans N).trans (Mv.of (ah.new hL)),_,⟨⟨x1,x2,x3,x4⟩,O,a1,b1,a2,b2,a3,b3,a4,b4⟩,il s hL (.cons (.int _) (.cons (.int _) (.cons (.int _) (.cons (.int _) .nil))))⟩
  obtain⟨C,v,A,rfl,i1,i2,i3⟩:∃ C v A:R4,ds=[.list C.ds,.list v.ds,.list A.ds]/\C.In/\v.In/\A.In:=by
   match ds,hl,hP with
   |[x,y,z],_,h=>
    obtain⟨a,rfl,a1⟩:=h x zyB;obtain⟨b,rfl,b1⟩:=h y zyB;obtain⟨c,rfl,c1⟩:=h z zyB;exact⟨a,b,c,O,a1,b1,c1⟩
  have M:d∉[t,r]:=λm=>by
   obtain⟨xs,e⟩:=tw0.lists d m;rw[gd0] at e;cases e
  have gi0:ma K t r d R (.list [.list C.ds,.list v.ds,.list A.ds]) H0 [] (upd H2 R (.lst ys)):=⟨tw2.same (ah.new hR),((mv1.trans mv2).trans (Mv.of (ah.new hR))).wide,il tw2 hR hys,λ_=>⟨0,0,0⟩,⟨[],ah.new hR _ _ (mv2 _ _ (mv1 _ _ gd0 M) M),.nil⟩,λ_ m=>nomatch m⟩
  generalize upd H2 R (.lst ys)=H3 at gi0 ⊢;have lt:∀ {x:Int}{m:Nat},0<=x->x<200->m<7->Sm 64 x:=λh1 h2 _=>by unfold Sm;lia
  have inr:∀ {D:R4},D=C\/D=v\/D=A->D.In:=λh=>by rcases h with rfl|rfl|rfl<;>assumption
  refine⟨_,O,(n:Int),O,zyA,zyA,eV (lo:=0) (n:=(n:Int).toNat) (λi σ H'=>(∃ oa ob oc ow,σ=[Y (.ref t),Y (.int n),Y (.ref d),Y (.int kd),Y (.ref R),oa,ob,oc,ow])/\ma K t r d R (.list [.list C.ds,.list v.ds,.list A.ds]) H0 (yx n i) H')
   ⟨⟨_,_,_,_,O⟩,gi0⟩ ?_ ?_⟩
  ·rintro i σ H4 hi ⟨⟨oa,ob,oc,ow,rfl⟩,gi1⟩;have hi:i<n:=zyA
   refine⟨_,O,(n:Int),O,zyA,zyA,eV (lo:=0) (n:=(n:Int).toNat) (λj σ H'=>(∃ ob oc ow,σ=[Y (.ref t),Y (.int n),Y (.ref d),Y (.int kd),Y (.ref R),Y (.int (0+i)),ob,oc,ow])/\ma K t r d R (.list [.list C.ds,.list v.ds,.list A.ds]) H0 (yx n i++xT n i j) H')
    ⟨⟨_,_,_,O⟩,by simpa [xT] using gi1⟩ ?_ ?_⟩
   ·rintro j σ H5 hj ⟨⟨ob,oc,ow,rfl⟩,gi2⟩;have hj:j<n:=zyA
    refine⟨_,O,(n:Int),O,zyA,zyA,eV (lo:=0) (n:=(n:Int).toNat) (λk σ H'=>(∃ oc ow,σ=[Y (.ref t),Y (.int n),Y (.ref d),Y (.int kd),Y (.ref R),Y (.int (0+i)),Y (.int (0+j)),oc,ow])/\ma K t r d R (.list [.list C.ds,.list v.ds,.list A.ds]) H0 (yx n i++xT n i j++zg i j k) H')
     ⟨⟨_,_,O⟩,by simpa [zg] using gi2⟩ ?_ ?_⟩
    ·rintro k σ H6 hk ⟨⟨oc,ow,rfl⟩,N⟩;have hk:k<n:=zyA
     obtain⟨b0,xs,eb,hb,hxs⟩:=aL (b:=true) (ds:=[.list C.ds,.list v.ds,.list A.ds]) (ax.uncut N.rs);cases eb;apply Qg (I:=λwv H'=>∃ (W:Sd) (s:R3),wv=.ref W/\ma K t r d R (.list [.list C.ds,.list v.ds,.list A.ds]) H0 (yx n i++xT n i j++zg i j k) H'/\H' W=Y (.lst s.vs)/\s.Up)
     case main=>
      intro rest1;refine⟨_,O,_,_,O,O,_,O,fm (λhc=>?k0) (λhc=>?kx)⟩
      case' k0=>
       refine⟨_,O,R,true,O,⟨_,hb⟩,bT (es:=[.int (C.w+C.x*(0+i)+C.y*(0+j)+C.z*(0+k)),.int (v.w+v.x*(0+i)+v.y*(0+j)+v.z*(0+k)),.int (A.w+A.x*(0+i)+A.y*(0+j)+A.z*(0+k))]) hb hxs rfl (Z:3<=1000) (λii dd ee u H7 hd he s7 hu RR kk S=>?_) (λzs H7 s7 hzs W hW=>?_)⟩
       ·obtain⟨D,hrr,rfl,rfl⟩:∃ D:R4,(D=C\/D=v\/D=A)/\dd=.list D.ds/\ee=.int (D.w+D.x*(0+i)+D.y*(0+j)+D.z*(0+k)):=by
         rcases qD hd with ⟨rfl,rfl⟩|⟨rfl,rfl⟩|⟨rfl,rfl⟩
         ·exact⟨C,.inl rfl,O,(RU he).symm⟩
         ·exact⟨v,.inr (.inl rfl),O,(RU he).symm⟩
         ·exact⟨A,.inr (.inr rfl),O,(RU he).symm⟩
        obtain⟨w0,w1,x0,x1,y0,y1,z0,z1⟩:=inr hrr;obtain⟨ra,rfl,hra⟩:=JG hu;refine⟨ra,_,O,.inl hra,O,_,_,O,_,_,O,_,_,O,_,_,O,O,aY (B:=S H7) ?_⟩;exact⟨_,O,_,O,_,O,_,_,O,O,.inr (by unfold Sm;lia),_,_,O,O,_,O,_,O,_,_,O,O,.inr (by unfold Sm;lia),_,_,O,O,_,O,_,O,_,_,O,O,.inr (by unfold Sm;lia),_,_,O,O,kk _ _ ⟨ah.refl _,.int _⟩⟩
       have zz:=dY (ns:=[C.w+C.x*(0+i)+C.y*(0+j)+C.z*(0+k),v.w+v.x*(0+i)+v.y*(0+j)+v.z*(0+k),A.w+A.x*(0+i)+A.y*(0+j)+A.z*(0+k)]) hzs;subst zz;have F:=(N.same s7).same (ah.new (o:=.lst ([C.w+C.x*(0+i)+C.y*(0+j)+C.z*(0+k),v.w+v.x*(0+i)+v.y*(0+j)+v.z*(0+k),A.w+A.x*(0+i)+A.y*(0+j)+A.z*(0+k)].map V.int)) hW);have pos:∀ {D:R4},D.In->0<=D.w+D.x*(0+(i:Int))+D.y*(0+(j:Int))+D.z*(0+(k:Int)):=λh=>by
        have p1:=U3 h.x0 (show(0:Int)<=0+i by lia);have p2:=U3 h.y0 (show(0:Int)<=0+j by lia);have p3:=U3 h.z0 (show(0:Int)<=0+k by lia);have p4:=h.w0;lia
       obtain⟨s,G,up⟩:∃ s:R3,upd H7 W (.lst ([C.w+C.x*(0+i)+C.y*(0+j)+C.z*(0+k),v.w+v.x*(0+i)+v.y*(0+j)+v.z*(0+k),A.w+A.x*(0+i)+A.y*(0+j)+A.z*(0+k)].map V.int)) W=Y (.lst s.vs)/\s.Up:=⟨⟨_,_,_⟩,ag,pos i1,pos i2,pos i3⟩
       generalize upd H7 W (.lst ([C.w+C.x*(0+i)+C.y*(0+j)+C.z*(0+k),v.w+v.x*(0+i)+v.y*(0+j)+v.z*(0+k),A.w+A.x*(0+i)+A.y*(0+j)+A.z*(0+k)].map V.int))=H8 at F G ⊢
      case' kx=>
       refine⟨_,O,_,_,O,O,_,O,fm (λhc1=>?k1) (λhc1=>?k2)⟩
      case' k1=>
       refine⟨3,O,Z,Z,eO (K:=K) (lo:=0) (n:=3) (Pd:=λd=>∃ i:Int,d=.int i/\0<=i) N.tw Z (λii H7 hii tw7 mv7 RR kk S=>aY (B:=S H7) ⟨_,O,t,r,1001,O,tw7,Z,s64 Z Z,λx1 H9 a1 b1 tw9 mv9=>kk _ _ ⟨tw9,mv9,_,⟨x1,O,a1⟩,.int _⟩⟩) (λds ws H7 hl hP tw7 mv7 hws W hW=>?_)⟩;obtain⟨s,rfl,up⟩:=Pg hl hP;have zz:=g_ hws;subst zz;have F:=(N.draw tw7 mv7).same (ah.new (o:=.lst s.vs) hW);have G:upd H7 W (.lst s.vs) W=Y (.lst s.vs):=ag;generalize upd H7 W (.lst s.vs)=H8 at F G ⊢
      case' k2=>
       have e2:∃ g:R4->Int,g=λD=>if D.w+(D.x*(0+(i:Int))*(0+(i:Int))).fdiv n+40*(0+(j:Int))+30*(0+(k:Int))<1000 then D.w+(D.x*(0+(i:Int))*(0+(i:Int))).fdiv n+40*(0+(j:Int))+30*(0+(k:Int)) else 1000:=⟨_,O⟩
       obtain⟨g,hg⟩:=e2;refine⟨_,O,R,true,O,⟨_,hb⟩,bT (es:=[.int (g C),.int (g v),.int (g A)]) hb hxs rfl (Z:3<=1000) (λii dd ee u H7 hd he s7 hu RR kk S=>?_) (λzs H7 s7 hzs W hW=>?_)⟩
       ·obtain⟨D,hrr,rfl,rfl⟩:∃ D:R4,(D=C\/D=v\/D=A)/\dd=.list D.ds/\ee=.int (g D):=by
         rcases qD hd with ⟨rfl,rfl⟩|⟨rfl,rfl⟩|⟨rfl,rfl⟩
         ·exact⟨C,.inl rfl,O,(RU he).symm⟩
         ·exact⟨v,.inr (.inl rfl),O,(RU he).symm⟩
         ·exact⟨A,.inr (.inr rfl),O,(RU he).symm⟩
        obtain⟨w0,w1,x0,x1,y0,y1,z0,z1⟩:=inr hrr;obtain⟨ra,rfl,hra⟩:=JG hu;have sx:Sm 64 (D.x*(0+(i:Int))):=((show Sm 10 D.x by unfold Sm;lia).mul (show Sm 10 (0+(i:Int)) by unfold Sm;lia)).mono Z;refine⟨ra,_,O,.inl hra,O,_,_,O,_,_,O,_,_,O,_,_,O,O,aY (B:=S H7) ?_⟩;refine⟨_,O,_,O,_,O,_,_,O,O,.inr (by unfold Sm;lia),_,O,_,_,O,O,.inr sx,_,O,_,_,O,O,⟨zyA,Sm.mono (k:=20) (by unfold Sm;lia) Z⟩,_,_,O,O,_,O,_,_,O,O,.inr (by unfold Sm;decide),_,_,O,O,_,O,_,_,O,O,.inr (by unfold Sm;decide),_,_,O,O,_,_,O,kk _ _ ⟨ah.refl _,?_⟩⟩;rw[hg];exact .int _
       have zz:=dY (ns:=[g C,g v,g A]) hzs;subst zz;have F:=(N.same s7).same (ah.new (o:=.lst ([g C,g v,g A].map V.int)) hW);have pos:∀ {D:R4},D.In->0<=g D:=λ{D} h=>by
        have p1:=U3 (U3 h.x0 (show(0:Int)<=0+i by lia)) (show(0:Int)<=0+i by lia);have p2:0<=(D.x*(0+(i:Int))*(0+(i:Int))).fdiv n:=by
         rw[TW _ zyA];exact Zq p1 zyA
        have p4:=h.w0;rw[hg];dsimp only
        split<;>lia
       obtain⟨s,G,up⟩:∃ s:R3,upd H7 W (.lst ([g C,g v,g A].map V.int)) W=Y (.lst s.vs)/\s.Up:=⟨⟨_,_,_⟩,ag,pos i1,pos i2,pos i3⟩
       generalize upd H7 W (.lst ([g C,g v,g A].map V.int))=H8 at F G ⊢
      all_goals
       obtain⟨wv,ewv⟩:∃ wv,wv=V.ref W:=⟨_,O⟩
       rw[<- ewv];exact rest1 wv H8 ⟨W,s,ewv,F,G,up⟩
     clear N hb hxs;rintro wv H8 ⟨W,s,rfl,F,G,up⟩;apply Qg (I:=λwv H'=>∃ (W:Sd) (s:R3),wv=.ref W/\ma K t r d R (.list [.list C.ds,.list v.ds,.list A.ds]) H0 (yx n i++xT n i j++zg i j k) H'/\H' W=Y (.lst s.vs)/\s.Up)
     case main=>
      intro J;refine⟨_,O,_,O,_,_,O,O,_,O,fm (λc1=>?c1t) (λc1=>bN ?c1f)⟩
      case c1t=>
       refine⟨_,O,_,O,_,_,O,O,_,O,fm (λc2=>?c2t) (λc2=>bN ?c2f)⟩
       case c2t=>
        refine⟨_,O,_,_,O,O,_,O,fm (λc3=>?c3t) (λc3=>?c3f)⟩
        case c3t=>
         refine⟨_,O,.inl ⟨W,_,0,.int s.a,O,O,bI.of G,O,Ow,λp hp=>⟨p,3,_,O,O,ag,Z,Z,(Z:3<=Sk),λp2 hp2=>?_⟩⟩⟩;have F:=(F.same (ah.new (o:=.lst [.int s.a]) hp)).same (ah.new (o:=.lst (Sl (3:Int).toNat [V.int s.a]).flatten) hp2);have ewr2:upd (upd H8 p (.lst [.int s.a])) p2 (.lst (Sl (3:Int).toNat [V.int s.a]).flatten) p2=Y (.lst (R3.mk s.a s.a s.a).vs):=ag;generalize upd (upd H8 p (.lst [.int s.a])) p2 (.lst (Sl (3:Int).toNat [V.int s.a]).flatten)=H9 at F ewr2 ⊢;obtain⟨wv,ewv⟩:∃ wv,wv=V.ref p2:=⟨_,O⟩
         rw[<- ewv];exact J wv H9 ⟨p2,_,ewv,F,ewr2,up.a,up.a,up.a⟩
        case c3f=>exact J (.ref W) H8 ⟨W,s,O,F,G,up⟩
       case c2f=>exact J (.ref W) H8 ⟨W,s,O,F,G,up⟩
      case c1f=>exact J (.ref W) H8 ⟨W,s,O,F,G,up⟩
     clear F G up;rintro wv H8 ⟨W,s,rfl,F,G,up⟩;refine⟨_,O,_,true,O,⟨_,bI.of G⟩,bT (es:=[.int (min 1000 s.a),.int (min 1000 s.b),.int (min 1000 s.c)]) (K:=K) (b:=true) (bI.of G) (.cons (.int s.a) (.cons (.int s.b) (.cons (.int s.c) .nil))) O (Z:3<=1000) (λii dd ee u H9 hd he s9 hu RR kk S=>?_) (λzs H9 s9 hzs D9 hD9=>?_)⟩
     ·refine aY (B:=S H9) ?_;rcases qD hd with ⟨rfl,rfl⟩|⟨rfl,rfl⟩|⟨rfl,rfl⟩<;>(cases hu;cases(RU he);exact⟨_,rfl,_,_,rfl,by rw[Io];exact kk _ _ ⟨ah.refl _,.int _⟩⟩)
     ·have zz:=dY (ns:=[min 1000 s.a,min 1000 s.b,min 1000 s.c]) hzs;subst zz;refine⟨D9,_,O,.inl ⟨bI.of ag,λl hl=>?_⟩⟩;have wtl:(R3.mk (min 1000 s.a) (min 1000 s.b) (min 1000 s.c)).Wt:=by
       obtain⟨u1,u2,u3⟩:=up;exact⟨by show 0<=min 1000 s.a;lia,by show min 1000 s.a<=1000;lia,by show 0<=min 1000 s.b;lia,by show min 1000 s.b<=1000;lia,by show 0<=min 1000 s.c;lia,by show min 1000 s.c<=1000;lia⟩
      have gi5:=((F.same s9).same (ah.new (o:=.lst ([min 1000 s.a,min 1000 s.b,min 1000 s.c].map V.int)) hD9)).same (ah.new (o:=.tup ([min 1000 s.a,min 1000 s.b,min 1000 s.c].map V.int)) hl);have hlt:ax K (upd (upd H9 D9 (.lst ([min 1000 s.a,min 1000 s.b,min 1000 s.c].map V.int))) l (.tup ([min 1000 s.a,min 1000 s.b,min 1000 s.c].map V.int))) (wD ⟨min 1000 s.a,min 1000 s.b,min 1000 s.c⟩) (.ref l):=ax.tupN hl (.cons (.int _) (.cons (.int _) (.cons (.int _) .nil)));generalize upd (upd H9 D9 (.lst ([min 1000 s.a,min 1000 s.b,min 1000 s.c].map V.int))) l (.tup ([min 1000 s.a,min 1000 s.b,min 1000 s.c].map V.int))=Ha at gi5 hlt ⊢;generalize R3.mk (min 1000 s.a) (min 1000 s.b) (min 1000 s.c)=wf at wtl hlt;refine⟨_,O,_,O,_,O,_,O,Gd,λkt hkt=>?_⟩;have ek:[V.int (0+(i:Int)),V.int (0+(j:Int)),V.int (0+(k:Int))]=(c5 (i,j,k)).map kV:=by rw[Xs,Xs,Xs];rfl
      have gi6:=gi5.same (ah.new (o:=.tup [V.int (0+(i:Int)),V.int (0+(j:Int)),V.int (0+(k:Int))]) hkt);have hlt:=ax.same (ah.new (o:=.tup [V.int (0+(i:Int)),V.int (0+(j:Int)),V.int (0+(k:Int))]) hkt) hlt;have hkt':upd Ha kt (.tup [V.int (0+(i:Int)),V.int (0+(j:Int)),V.int (0+(k:Int))]) kt=Y (.tup ((c5 (i,j,k)).map kV)):=by rw[<- ek];exact ag
      generalize upd Ha kt (.tup [V.int (0+(i:Int)),V.int (0+(j:Int)),V.int (0+(k:Int))])=Hb at gi6 hlt hkt' ⊢;obtain⟨f,⟨vs,gd,gv⟩,gw⟩:=gi6.gr;have hlen:=yZ.len gv;have fresh:((i,j,k):Kn)∉yx n i++xT n i j++zg i j k:=λm=>by
       rcases S8.mp m with m|m
       ·rcases S8.mp m with m|m
        ·have:=(Kx.mp m).1;exact absurd this (Th _)
        ·have:=(EZ.mp m).2.1;exact absurd this (Th _)
       ·have:=(ES.mp m).2.2;exact absurd this (Th _)
      refine⟨d,_,O,FD.t (k:=c5 (i,j,k)) gd hkt' (by rw[sg hlen];exact bR (Sv (Ja h7 hi hj (TH hk)) Z)),⟨_,_,O⟩,?_⟩;rw[Ia hlen fresh,BM,<- U5];have sdb:ij Hb (upd Hb d (.dT (lf (yx n i++xT n i j++zg i j k++[(i,j,k)]) (vs++[.ref l])))):=ij.put gd;refine⟨gi6.tw.sameD sdb,gi6.mv.trans λb o e nb=>?_,ax.sameD (ij.cut sdb) gi6.rs,λu=>if u=(i,j,k) then wf else f u,⟨_,ag,?_⟩,λu hu=>?_⟩
      ·rw[ar (λz=>nb (by simp[z]))];exact e
      ·rw[T5];refine(aB.sameD sdb (show aB K Hb _ _ from ?_)).snoc ?_
       ·have cg:(yx n i++xT n i j++zg i j k).map (λu=>wD (if u=(i,j,k) then wf else f u))=(yx n i++xT n i j++zg i j k).map (λu=>wD (f u)):=List.map_congr_left λu hu=>by
         have nu:u≠(i,j,k):=λz=>fresh (z▸hu)
         rw[Sx nu]
        rw[cg];exact gv
       ·show ax K _ (wD (if((i,j,k):Kn)=(i,j,k) then wf else f (i,j,k))) _;rw[SO rfl];exact ax.sameD sdb hlt
      ·show(if u=(i,j,k) then wf else f u).Wt;rcases S8.mp hu with hu|hu
       ·have nu:u≠(i,j,k):=λz=>fresh (z▸hu)
        rw[Sx nu];exact gw u hu
       ·rw[SO (RY.mp hu)];exact wtl
    ·rintro σ H6 ⟨⟨oc,ow,rfl⟩,N⟩;refine⟨⟨_,_,_,O⟩,?_⟩;rw[xA,<- U5];exact N
   ·rintro σ H5 ⟨⟨ob,oc,ow,rfl⟩,gi2⟩;refine⟨⟨_,_,_,_,O⟩,?_⟩;rw[vc];exact gi2
  ·rintro σ H4 ⟨⟨oa,ob,oc,ow,rfl⟩,gi1⟩;obtain⟨f,F,s⟩:=gi1.gr;refine⟨_,O,q d f H4 F (λu hu=>s u hu) gi1.tw (λb o e nb=>?_) hd⟩;refine gi1.mv b o (sd _ _ e) λz=>?_
   simp only[R',Sg,TK] at z nb;rcases z with z|z|z
   ·exact nb (.inl z)
   ·exact nb (.inr z)
   ·rw[z,hd] at e;cases e
theorem qE:ao ["_law_town_here","_law_dark"] uA1 (af mO):=cN
inductive AG (vs:List V)(H:Hp)(Q:VK)(_:XK):Prop
 |mk (t r:Sd) (_:vs=[.ref t]) (_:cr H t r) (_:∀ (v:V) (e:En) (H':Hp),ax K H' (.tuple [cB false e.w,cB false e.b]) v->e.In->cr H' t r->Mv [t,r] H H'->Q v H')
theorem qY [T:cH K mg w]:bF 3 "_law_ends" uA1 [] AG:=by
  refine T.x3n.cal qE (bb:=λ_ _ _ _ _ H vs Q E hr h=>?_);obtain⟨t,r,rfl,tw,q⟩:=h;refine⟨_,(cA.go (ac (cP 1 uC4 uA1 [0] 1 qE.nd (bj rfl T.x0 (aE aa)) (λnd=>(ai 0 nd)) aF (ab av dX hr (aA (ak 1) (bV (aj aa (aj aa (aj (ab av aQ hr (aA (ak 1) aa)) aN)))))))
   (ae (aq (aW (aA (bQ (gN (K:=K) O) (by rfl) T.x3 cF (aE (aG ["_law_one"] uA1 [0] 1 (bE (K:=K) O (ak 1)) (λnd=>(ai 0 nd)) aF (au di (au di (ak 0) aa) (ab av aQ hr (aA (ak 1) (au cC aa (ak 0)))))))) (bQ (gN (K:=K) O) (by rfl) T.x3 cF (aE (ak 1))))))))),?_⟩
  have C:∀ {n:Int},0<n->n<100000->Sm 8000 n:=λh1 h2=>Sm.mono (k:=20) (by unfold Sm;lia) Z
  refine⟨3,O,Z,Z,eO (K:=K) (lo:=0) (n:=3) (Pd:=λd=>∃ i:Int,d=.int i/\0<=i/\i<=399) tw Z (λi H2 hi o F R kk S=>?_) (λds ys H2 hl hP o F hys D hD=>?_)⟩
  ·refine aY (B:=S H2) ⟨_,O,_,O,t,r,400,O,o,Z,C Z Z,λd2 H3 I L tH s=>⟨Gd,λp N=>?_⟩⟩;have sp:ah H3 (upd H3 p (.lst [.int 0,.int 0,.int d2])):=ah.new N;have np:=tH.not N;refine⟨t,r,p,_,O,tH.same sp,ag,λz=>np (by simp[z]),λz=>np (by simp[z]),zyB,(Z:3<=1000),λj v g hv f e=>?_⟩;refine kk _ _ ⟨f,(s.trans (Mv.of sp)).trans e,?_⟩;rcases qD hv with ⟨rfl,rfl⟩|⟨rfl,rfl⟩|⟨rfl,rfl⟩
   ·exact⟨_,⟨0,O,Z,Z⟩,.int _⟩
   ·exact⟨_,⟨0,O,Z,Z⟩,.int _⟩
   ·exact⟨_,⟨d2,O,I,zyA⟩,.int _⟩
  obtain⟨b,rfl,bi⟩:∃ b:R3,ds=b.ds/\(0<=b.a/\b.a<=399/\0<=b.b/\b.b<=399/\0<=b.c/\b.c<=399):=by
   match ds,hl,hP with
   |[x,y,z],_,h=>
    obtain⟨a,rfl,a1,I⟩:=h x zyB;obtain⟨b,rfl,b1,L⟩:=h y zyB;obtain⟨c,rfl,c1,c2⟩:=h z zyB;exact⟨⟨a,b,c⟩,O,a1,I,b1,L,c1,c2⟩
  cases g_ hys;generalize e0:upd H2 D _=G;have sD:=gB hD e0;have gD:=eD e0;have nD:=o.not hD;have tH:=o.same sD;have s:=F.trans (Mv.of sD);refine⟨_,O,D,true,O,⟨_,bI.of gD⟩,Er (K:=K) (xs:=b.vs) (Pn:=λi n=>∃ m,b.vs[i]?=Y (.int m)/\m<n/\n<=1000) tH gD nD (Z:3<=1000) (λi x g hx f e R kk S=>?_) (λns g hn hP4 f e A hD2=>?_)⟩
  ·obtain⟨m,rfl,m1,m2⟩:∃ m:Int,x=.int m/\0<=m/\m<=399:=by
    rcases qD hx with ⟨rfl,rfl⟩|⟨rfl,rfl⟩|⟨rfl,rfl⟩
    ·exact⟨_,O,zyA,zyA⟩
    ·exact⟨_,O,zyA,zyA⟩
    ·exact⟨_,O,zyA,zyA⟩
   refine aY (B:=S g) ⟨_,O,_,_,O,O,_,O,_,O,_,_,O,O,t,r,_,O,f,zyA,C zyA zyA,λd5 H5 a5 b5 tw5 mv5=>⟨_,_,O,O,kk _ _ ⟨tw5,mv5,_,⟨m,hx,zyA,zyA⟩,O⟩⟩⟩
  obtain⟨w,ew,u⟩:∃ w:R3,ns.map V.int=w.vs/\(b.a<w.a/\w.a<=1000/\b.b<w.b/\w.b<=1000/\b.c<w.c/\w.c<=1000):=by
   match ns,hn,hP4 with
   |[x,y,z],_,h=>
    obtain⟨a,ea,a1,I⟩:=h 0 x rfl;obtain⟨b',eb,b1,L⟩:=h 1 y rfl;obtain⟨c,ec,c1,c2⟩:=h 2 z rfl;cases ea;cases eb;cases ec;exact⟨⟨x,y,z⟩,O,a1,I,b1,L,c1,c2⟩
  rw[ew];have sD2:ah g (upd g A (.lst w.vs)):=ah.new hD2;refine⟨A,_,O,.inl ⟨bI.of ag,λl hl=>?_⟩⟩;have sl:ah (upd g A (.lst w.vs)) (upd (upd g A (.lst w.vs)) l (.tup w.vs)):=ah.new hl;have gl:upd (upd g A (.lst w.vs)) l (.tup w.vs) l=Y (.tup w.vs):=ag;have s5:=sD2.trans sl;have g5:=s5 _ _ (e _ _ gD nD);generalize upd (upd g A (.lst w.vs)) l (.tup w.vs)=G5 at gl s5 g5 ⊢;refine⟨_,O,D,_,O,.inl ⟨bI.of g5,λJ hl2=>⟨kY,λp N=>?_⟩⟩⟩;have s6:ah G5 (upd G5 J (.tup b.vs)):=ah.new hl2;have M:ah (upd G5 J (.tup b.vs)) (upd (upd G5 J (.tup b.vs)) p (.tup [.ref l,.ref J])):=ah.new N;refine q _ ⟨w,b⟩ _ (.tup ag (.cons (ax.same (s6.trans M) (.tup gl (.cons (.int _) (.cons (.int _) (.cons (.int _) .nil))))) (.cons (ax.same M (.tup ag (.cons (.int _) (.cons (.int _) (.cons (.int _) .nil))))) .nil))) ⟨bi.1,u.1,u.2.1,bi.2.2.1,u.2.2.1,u.2.2.2.1,bi.2.2.2.2.1,u.2.2.2.2.1,u.2.2.2.2.2⟩ (f.same (s5.trans (s6.trans M))) ((s.trans e).trans (Mv.of (s5.trans (s6.trans M))))
theorem wO:ao uA4 uA4 (af kO):=cN
inductive vK (vs:List V)(H:Hp)(Q:VK)(_:XK):Prop
 |mk (t r:Sd) (cap:Int) (c:Bool) (_:vs=[.ref t,.int cap,.bl c]) (_:cr H t r) (_:1<=cap) (_:cap<=1000) (_:∀ (D:Sd) (us:List V) (P:C3) (H':Hp),H D=none->H' D=Y (.lst us)->D∉[t,r]->jX K (cut [t,r] H') P us->P.In cap->cr H' t r->Mv [t,r] H H'->Q (.ref D) H')
theorem nH [T:cH K mg w]:bF 8 "_law_curves" uA4 [] vK:=by
  refine T.x3o.cal wO (bb:=λ_ _ _ _ _ H vs Q E hr h=>?_);obtain⟨t,r,p,c,rfl,tw,c1,c2,q⟩:=h;refine⟨_,(cA.go (ae (aq (aG uC4 uA4 [0,1,2] 1 (bj rfl T.x0 (aE aa)) (λnd=>(ai 0 nd)) aF (qS (K:=K) O av iX (hr.mono Z) O (aE (ab av w9 hr (aj (ak 1) (aj aa (aj (ak 2) (aj (ak 3) aN))))))))))),?_⟩;refine⟨3,O,Z,Z,tO (lo:=0) (n:=3) (λi s g=>cr g t r/\Mv [t,r] H g/\s.length=i/\∀ (j:Nat) (v:V),s[j]?=Y v->∃ f y z,my K (cut [t,r] g) f v/\vN f/\f[0]?=Y y/\f.getLast?=Y z/\z.1=60/\z.2<=p) ⟨tw,Mv.refl,O,λj v e=>by simp at e⟩ Z (λi s g _ ⟨_,_,e,_⟩=>zyA) (λi s g hi ⟨b,d,e,m⟩ R S kk _=>?_) (λs g ⟨b,d,e,m⟩=>?_)⟩
  ·refine aY (B:=S g) ⟨_,O,_,O,_,O,t,r,60,p,c,O,b,Z,Z,c1,c2,λL f z xs H1 hL M F hz I N nL k l=>?_⟩;refine λC a dx hC ha J hne=>?_
   generalize u:upd (upd H1 dx _) a _=H5;have s5:=Bl ha J hne u;have gv:=eD u;refine⟨a,C,dx,.ref L,f,O,hC,gv,ax.same s5 (.lst (.inl hL) M),F,λH6 G cv6 A=>⟨O,kk _ _ ?_⟩⟩;have s6:ah H1 H6:=λb' o e=>G _ _ (s5 _ _ e) (λz=>by rw[RY.mp z,ha] at e;cases e)
   refine⟨k.same s6,(d.trans l).trans (Mv.of s6),by rw[SB,e];rfl,λj v x=>?_⟩;rcases kg x with ⟨_,x⟩|⟨rfl,rfl⟩
   ·obtain⟨ps',y,z',h1,h2⟩:=m j v x;exact⟨ps',y,z',(h1.same l.cut).same (ah.cut s6),h2⟩
   ·exact⟨f,f[0]'(by have:=F.two;lia),z,A [t,r] (k.lists.same s5),F,Sf _,hz,I,N⟩
  ·intro D l;obtain⟨F,u1,x,rfl⟩:=IP e;obtain⟨p0,M,z0,a0,b0,c0,d0,u,f0⟩:=m 0 F rfl;obtain⟨p1,y1,I,J,b1,G,d1,e1,f1⟩:=m 1 u1 rfl;obtain⟨p2,y2,N,a2,b2,A,d2,e2,f2⟩:=m 2 x rfl;have k:=ah.new (o:=.lst [F,u1,x]) l;refine q D [F,u1,x] ⟨p0,p1,p2⟩ _ (nS d l (b.not l)) ag (b.not l) ⟨O,λi v ei=>?_⟩ (λi hi=>?_) (b.same k) (d.trans (Mv.of k))
   ·rcases qD ei with ⟨rfl,rfl⟩|⟨rfl,rfl⟩|⟨rfl,rfl⟩
    ·exact a0.same (ah.cut k)
    ·exact J.same (ah.cut k)
    ·exact a2.same (ah.cut k)
   ·match i,hi with
    |0,_=>exact⟨b0,M,z0,c0,d0,u,f0⟩
    |1,_=>exact⟨b1,y1,I,G,d1,e1,f1⟩
    |2,_=>exact⟨b2,y2,N,A,d2,e2,f2⟩
theorem cn:ao ["_law_town_here","_law_bright","_law_dark","_law_edges","_law_curves_here","_law_square_here","_law_table"] uA1 (af jv):=cN
structure LP (K:KE)(t r:Sd)(P:C3)(b:S9 ⊕ (Kn->R3))(e:En)(cl:Sd)(us:List V)(pv sv dv:V)(H:Hp):Prop where
 tw:cr H t r
 nc:cl∉[t,r]
 hl:H cl=Y (.lst us)
 hc:jX K (cut [t,r] H) P us
 hb:match b with
  |.inl s=>yP K (cut [t,r,cl] H) P s.cp e pv/\ax K (cut [t,r] H) s.d sv/\s.In/\P.In 1000
  |.inr f=>yn K (cut [t,r,cl] H) P f e pv/\sv=.non/\(∃ d,dv=.ref d/\Gr K H 2 f d)/\Db 2 f/\P.In 60
inductive uq (vs:List V)(H:Hp)(Q:VK)(_:XK):Prop
 |mk (t r:Sd) (_:vs=[.ref t]) (_:cr H t r) (_:∀ (Tp cl:Sd) (us:List V) (P:C3) (b:S9 ⊕ (Kn->R3)) (e:En) (pv sv dv ev:V) (H':Hp),H' Tp=Y (.tup [pv,.ref cl,sv,dv,ev])->LP K t r P b e cl us pv sv dv H'->ax K H' (.tuple [cB false e.w,cB false e.b]) ev->e.In->Mv [t,r] H H'->Q (.ref Tp) H')
theorem uw [T:cH K mg w]:bF 11 "_law_profile" uA1 [] uq:=by
  refine T.x3p.cal cn (bb:=λ_ _ _ _ _ H vs Q E I h=>?_);obtain⟨t,r,rfl,tw,q⟩:=h;refine⟨_,(cA.go (ac (kq (ab av qY I (aE (ak 0))) (cQ (K:=K) (n:=2) O O (az (ai 1 cn.nd) (az (ai 2 cn.nd) bv))))
   (ac (aw 3 cn.nd (wP (K:=K) O av fF (I.mono Z) O (bZ (ak 1) (bZ (ak 2) dQ))))
   (ac (aZ (aX fq (ab av aQ I (aA (ak 0) aa)) aa (bn _)) (ac (aw 4 cn.nd (ab av nH I (aj (ak 0) (aj (ab av dX I (aA (ak 0) (bV (aA aa aa)))) (aj (dA fq (ab av aQ I (aA (ak 0) aa)) aa (bn _)) aN)))))
   (ac (aw 5 cn.nd (ab av vt I (aE (ak 0))))
   (ae (aq (aW (aj (yU (K:=K) O av jd (I.mono Z) O (aA (ak 4) (ak 5)) (bZ (ak 3) dQ)) (aj (ak 4) (aj (ak 5) (aj Eu (aj (aW (aA (ak 1) (ak 2))) aN)))))))))) aH)
   (ac (aw 4 cn.nd (ab av nH I (aj (ak 0) (aj aa (aj (dA fq (ab av aQ I (aA (ak 0) aa)) aa (bn _)) aN)))))
   (ac (aw 6 cn.nd (ab av Aa I (aA (ak 0) aa)))
   (ae (aq (aW (aj (yU (K:=K) O av j6 (I.mono Z) O (aA (ak 4) (qS (K:=K) O av fN (I.mono Z) O (aA aa (ak 6)))) (bZ (ak 3) dQ)) (aj (ak 4) (aj Eu (aj (ak 6) (aj (aW (aA (ak 1) (ak 2))) aN)))))))))))))),?_⟩
  refine⟨_,O,t,r,O,tw,λv e H1 hv ie tw1 mv1=>?_⟩;obtain⟨ea,xs,rfl,hea,hes⟩:=aL (b:=false) (ds:=[cB false e.w,cB false e.b]) hv;obtain⟨x,y,rfl,hx,hy⟩:=lK hes;refine⟨ea,_,O,hea,O,_,_,O,_,_,O,O,_,O,_,O,λC1 a1 dx1 hC1 ha1 hdx1 hne1=>?_⟩;generalize G:upd (upd H1 dx1 _) a1 _=H2;have s2:=Bl ha1 hdx1 hne1 G;have gv:=eD G;refine⟨a1,C1,dx1,x,y,e,O,hC1,gv,ax.same s2 hx,ax.same s2 hy,ie,λH3 mv3 en=>⟨O,?_⟩⟩;have s3:ah H1 H3:=λb' o z=>mv3 _ _ (s2 _ _ z) (λw=>by rw[RY.mp w,ha1] at z;cases z)
  replace tw:=tw1.same s3;have mv:=mv1.trans (Mv.of s3);replace hx:=ax.same s3 hx;replace hy:=ax.same s3 hy;clear s2 gv mv3 s3 tw1 mv1 hv hea hes ha1 hdx1 hne1;have s64:∀ {n:Int},0<n->n<100000->Sm 8000 n:=λh1 h2=>Sm.mono (k:=20) (by unfold Sm;lia) Z
  refine⟨_,O,t,r,2,O,tw,Z,s64 Z Z,λx0 H4 a0 b0 j J=>⟨_,_,O,O,_,O,?_⟩⟩;replace en:=en.mv J tw.lists;replace hx:=ax.mv J tw.lists rfl hx;replace hy:=ax.mv J tw.lists rfl hy;replace mv:=mv.trans J;clear tw J;refine fm (λhc=>?_) (λhc=>?_)
  ·refine⟨_,O,_,O,kY,λp hp=>?_⟩;generalize G:upd H4 p _=H5;have s5:=gB hp G;have gp:=eD G;have np:=j.not hp;refine⟨t,r,p,_,O,j.same s5,gp,λz=>np (by simp[z]),λz=>np (by simp[z]),zyB,(Z:2<=1000),λi v H6 ev tw6 mv6=>?_⟩;obtain⟨cap,rfl,c1,c2⟩:∃ cap:Int,v=.int cap/\1<=cap/\cap<=1000:=by
    have m:=Se ev;simp only[R',Sg,TK] at m;rcases m with rfl|rfl
    ·exact⟨60,O,Z,Z⟩
    ·exact⟨1000,O,Z,Z⟩
   have mv6':=(Mv.of (T:=[t,r]) s5).trans mv6;refine⟨_,O,t,r,2,O,tw6,Z,s64 Z Z,λx1 H7 a2 b2 tw7 M=>⟨_,_,O,O,t,r,cap,_,O,tw7,c1,c2,λD us P H8 hD gD nD c3 pin tw8 mv8=>?_⟩⟩;refine⟨_,O,t,r,O,tw8,λsv s H9 hs si B u=>?_⟩;have l:=((mv6'.trans M).trans mv8).trans u;replace en:=en.mv l j.lists;replace hx:=ax.mv l j.lists rfl hx;replace hy:=ax.mv l j.lists rfl hy;replace mv:=mv.trans l;replace gD:=u _ _ gD nD;replace c3:=c3.same u.cut;clear s5 gp np tw6 mv6 mv6' tw7 M tw8 mv8 u l j ev hD;refine⟨_,O,_,O,_,O,λC a dx hC ha hdx hne=>?_⟩;generalize G:upd (upd H9 dx _) a _=H10;have c:=Bl ha hdx hne G;have gv:=eD G;refine⟨a,C,dx,D,sv,.ref a1,us,P,s,e,O,hC,gv,c _ _ gD,(c3.same nR).same c,pin.mono c2,ax.same c (ax.uncut hs),si,en.same c,ie,λN mv11 sp11=>⟨O,?_⟩⟩;have F:ah H9 N:=λb' o z=>mv11 _ _ (c _ _ z) (λw=>by rw[RY.mp w,ha] at z;cases z)
   refine⟨_,O,_,O,_,O,_,O,kY,λp1 hp1=>⟨(Z:5<=Sk),λp2 hp2=>?_⟩⟩;have s12:=ah.new (o:=.tup [x,y]) hp1;have ge:ax K (upd N p1 (.tup [x,y])) (.tuple [cB false e.w,cB false e.b]) (.ref p1):=ax.tupN (ds:=[cB false e.w,cB false e.b]) hp1 (.cons (ax.same F hx) (.cons (ax.same F hy) .nil));have A:=ah.new (o:=.tup [.ref a,.ref D,sv,.non,.ref p1]) hp2;have sA:=(F.trans s12).trans A;have sC:=ah.cut (T:=[t,r,D]) (s12.trans A);have lD:cD H10 [t,r,D]:=λb m=>by
    simp only[R',Sg,TK] at m;rcases m with rfl|rfl|rfl
    ·exact(B.lists.same c) _ zyB
    ·exact(B.lists.same c) _ zyB
    ·exact⟨_,c _ _ gD⟩
   exact q p2 D us P (.inl s) e (.ref a) sv .non (.ref p1) _ ag ⟨B.same sA,nD,sA _ _ gD,c3.same (ah.cut sA),⟨(sp11 [t,r,D] lD).same sC,ax.same (ah.cut sA) hs,si,pin.mono c2⟩⟩ (ax.same A ge) ie (mv.trans (Mv.of sA))
  ·refine⟨_,O,_,O,t,r,2,O,j,Z,s64 Z Z,λx1 H7 a2 b2 tw7 M=>⟨_,_,O,O,t,r,60,_,O,tw7,Z,Z,λD us P H8 hD gD nD c3 pin tw8 mv8=>?_⟩⟩;refine⟨_,O,t,r,2,O,tw8,Z,Z,λd f H9 gp wt B u nd=>?_⟩;have l:=(M.trans mv8).trans u;replace en:=en.mv l j.lists;replace hx:=ax.mv l j.lists rfl hx;replace hy:=ax.mv l j.lists rfl hy;replace mv:=mv.trans l;replace gD:=u _ _ gD nD;replace c3:=c3.same u.cut;have gr:Gr K H9 2 f d:=⟨_,.refl _,gp⟩
   clear tw7 M tw8 mv8 u l j hD nd;refine⟨_,O,_,O,λC2 g dy hC2 hg hdy hne2=>?_⟩;generalize G:upd (upd H9 dy _) g _=H5;have s5:=Bl hg hdy hne2 G;have gv2:=eD G;refine⟨g,C2,dy,d,2,f,O,hC2,gv2,gr.same s5,wt,Z,Z,λH6 L mv6 hg6 gL hL=>⟨O,_,O,λC a dx hC ha hdx hne=>?_⟩⟩;have s6:ah H9 H6:=λb' o z=>mv6 _ _ (s5 _ _ z) (λw=>by rw[RY.mp w,hg] at z;cases z)
   generalize G:upd (upd H6 dx _) a _=H10;have s10':=Bl ha hdx hne G;have gv:=eD G;have c:=s6.trans s10';refine⟨a,C,dx,D,.ref g,.ref a1,us,P,f,e,O,hC,gv,c _ _ gD,(c3.same nR).same c,pin,⟨g,C2,dy,L,O,hC2,s10' _ _ hg6,gL.same s10'⟩,wt,en.same c,ie,λN mv11 sp11=>⟨O,?_⟩⟩;have F:ah H9 N:=λb' o z=>mv11 _ _ (c _ _ z) (λw=>by rw[RY.mp w] at z;rw[s6 _ _ z] at ha;cases ha)
   refine⟨_,O,_,O,_,O,_,O,kY,λp1 hp1=>⟨(Z:5<=Sk),λp2 hp2=>?_⟩⟩;have s12:=ah.new (o:=.tup [x,y]) hp1;have ge:ax K (upd N p1 (.tup [x,y])) (.tuple [cB false e.w,cB false e.b]) (.ref p1):=ax.tupN (ds:=[cB false e.w,cB false e.b]) hp1 (.cons (ax.same F hx) (.cons (ax.same F hy) .nil));have A:=ah.new (o:=.tup [.ref a,.ref D,.non,.ref d,.ref p1]) hp2;have sA:=(F.trans s12).trans A;have sC:=ah.cut (T:=[t,r,D]) (s12.trans A);have lD:cD H10 [t,r,D]:=λb m=>by
    simp only[R',Sg,TK] at m;rcases m with rfl|rfl|rfl
    ·exact(B.lists.same c) _ zyB
    ·exact(B.lists.same c) _ zyB
    ·exact⟨_,c _ _ gD⟩
   exact q p2 D us P (.inr f) e (.ref a) .non (.ref d) (.ref p1) _ ag ⟨B.same sA,nD,sA _ _ gD,c3.same (ah.cut sA),⟨(sp11 [t,r,D] lD).same sC,O,⟨d,O,gr.same sA⟩,wt,pin⟩⟩ (ax.same A ge) ie (mv.trans (Mv.of sA))
theorem cW:ao ["_law_intent","_law_one","_law_two","_law_found","_law_k","_law_many"] uC3 (af kM):=cN
inductive wJ (vs:List V)(H:Hp)(Q:VK)(_:XK):Prop
 |mk (x y:V) (i n:Str) (e1 e2:En) (_:vs=[.str i,x,y]) (_:iE.lookup i=Y n) (_:ax K H (.tuple [cB false e1.w,cB false e1.b]) x) (_:ax K H (.tuple [cB false e2.w,cB false e2.b]) y) (_:e1.In) (_:e2.In) (_:∀ (g:Rat) (v:V) (H':Hp),ah H H'->FT i e1 e2 g->ax K H' (rD g) v->Q v H')
def Qb (i:Str)(h t:En)(k:Nat)(g:Rat):Prop:=(g=1\/∃ j,j<k/\g=(nr i h t).at j)/\1<=g/\∀ j,j<k->(nr i h t).at j<=g
theorem Qb.more {i:Str}{h t:En}{k:Nat}{g:Rat}(G:Qb i h t k g):Qb i h t (k+1) (if g<(nr i h t).at k then(nr i h t).at k else g):=by
 obtain⟨a,b,c⟩:=G
 split
 ·next l=>
  refine⟨.inr ⟨k,zyA,O⟩,by grind,λj d=>?_⟩
  by_cases z:j=k
  ·subst z;exact UZ
  ·have:=c j zyA;grind
 ·next l=>
  refine⟨?_,b,λj d=>?_⟩
  ·rcases a with a|⟨j,d,e⟩
   ·exact .inl a
   ·exact .inr ⟨j,zyA,e⟩
  ·by_cases z:j=k
   ·subst z;grind
   ·exact c j zyA
theorem Nd {i:Str}{h t:En}{k:Nat}(a:k<3):(nr i h t).at k=EM i (h.b.nth k) (h.w.nth k) (t.b.nth k) (t.w.nth k):=by
 match k,a with
 |0,_=>rfl
 |1,_=>rfl
 |2,_=>rfl
theorem En.In.nth {e:En}(h:e.In){k:Nat}(a:k<3):0<=e.b.nth k/\e.b.nth k<e.w.nth k/\e.w.nth k<=1000:=by
 match k,a with
 |0,_=>exact⟨h.a0,h.a1,h.a2⟩
 |1,_=>exact⟨h.b0,h.b1,h.b2⟩
 |2,_=>exact⟨h.c0,h.c1,h.c2⟩
theorem vm [T:cH K mg w]:bF 2 "_law_growth" uC3 [] wJ:=by
  refine T.x3q.cal cW (bb:=λ_ _ _ _ _ H vs Q E v h=>?_);obtain⟨x,y,i,n,s,o,rfl,hn,hx,hy,i1,i2,q⟩:=h;refine⟨_,(cA.go (ac (aw 3 cW.nd (aW (aA aa aa)))
   (ac (de SW rfl (bj rfl T.x0 (aE aa)) (ai 4 cW.nd) (ac (aw 5 cW.nd (aW (aA aa aa)))
   (ac (aZ (aX (BH (K:=K) O v.units) (ak 0) ji (bn _)) (ae (aw 5 cW.nd (ab av fY v (aA (am K (am K (ak 2) aa) (ak 4)) (am K (am K (ak 1) aa) (ak 4)))))) aH)
   (ac (aZ (aX (BH (K:=K) O v.units) (ak 0) ji (bn _)) (ae (aw 5 cW.nd (ab av fY v (aA (au cC (am K (am K (ak 2) aa) (ak 4)) (am K (am K (ak 2) aa) (ak 4))) (au cC (am K (am K (ak 1) aa) (ak 4)) (am K (am K (ak 1) aa) (ak 4))))))) aH)
   (ae (aw 3 cW.nd (jp (aV (ab av ia v (aA (ak 3) (ak 5)))) (ak 5) (ak 3))))))))
   (ae (aq (ak 3)))))),?_⟩
  have sh:Yq (.str i)=true:=by rcases nU hn with ⟨rfl,_⟩|⟨rfl,_⟩|⟨rfl,_⟩|⟨rfl,_⟩<;>decide +kernel
  have F:∀ {j:Str},Xh (.str i) (.str j)=true↔i=j:=λ{j}=>by simp[Xh]
  obtain⟨xa,xs,rfl,f,hxs⟩:=aL (b:=false) (ds:=[cB false s.w,cB false s.b]) hx;obtain⟨x0,x1,rfl,hx0,hx1⟩:=lK hxs;obtain⟨ya,ys,rfl,e,hys⟩:=aL (b:=false) (ds:=[cB false o.w,cB false o.b]) hy;obtain⟨y0,y1,rfl,hy0,hy1⟩:=lK hys;refine⟨kY,λp hp=>?_⟩;generalize e0:upd H p _=H1;have s1:=gB hp e0;have g1:ax K H1 (rD 1) (.ref p):=fb (eD e0);clear e0 hp;refine⟨3,O,Z,Z,eV (lo:=0) (n:=3) (λk σ H'=>∃ (g:Rat) (m:V) (o1 o2:Option V),σ=[Y (.str i),Y (.ref xa),Y (.ref ya),Y m,o1,o2]/\ah H H'/\ax K H' (rD g) m/\Qb i s o k g) ⟨1,.ref p,none,none,O,s1,g1,.inl rfl,UZ,λj hj=>absurd hj (X6 _)⟩ ?_ ?_⟩
  ·rintro k σ B N ⟨g,m,o1,o2,rfl,s2,J,G⟩;have bg:Bq 20 g:=by
    rcases G.1 with rfl|⟨j,_,rfl⟩
    ·exact vo
    ·exact tX (uW i1 i2)
   have b1:=i1.nth N;have b2:=i2.nth N;have me:=Nd (i:=i) (h:=s) (t:=o) N;have bm:=tX (i:=k) (uW (i:=i) i1 i2);obtain⟨yw,rfl,A⟩:=T3.of (ax.same s2 hy0);obtain⟨yb,rfl,hyb⟩:=T3.of (ax.same s2 hy1);obtain⟨xw,rfl,D⟩:=T3.of (ax.same s2 hx0);obtain⟨xb,rfl,hxb⟩:=T3.of (ax.same s2 hx1);have d:∀ {r:R3},r.vs[0+k]?=Y (.int (r.nth k)):=λ{r}=>by rw[SL];exact IT N
   replace f:=bY.same s2 f;replace e:=bY.same s2 e;apply Qg (I:=λmv l=>ah B l/\ax K l (rD ((nr i s o).at k)) mv)
   case main=>
    intro fh;refine⟨kY,λL hp1=>?_⟩;generalize e3:upd B L _=l;have a:=gB hp1 e3;have g3:ax K l (rD 1) (.ref L):=fb (eD e3);clear e3;refine⟨_,O,.str i,.str "white",.str _,.str _,sh,zyC,_,O,fm (λc=>?w) (λc=>?nw)⟩
    case nw=>
     have C:i≠"white":=λz=>c (F.mpr z)
     refine⟨_,O,.str i,.str "squeezed",.str _,.str _,sh,zyC,_,O,fm (λc=>?sq) (λc=>?no)⟩
     case no=>
      have z2:i≠"squeezed":=λz=>c (F.mpr z)
      have h5:ah B l/\ax K l (rD ((nr i s o).at k)) (.ref L):=⟨a,by rw[me];unfold EM;rw[Sx C,Sx z2];exact g3⟩
      generalize L2.V.ref L=mv at h5 ⊢;exact fh mv l h5
     have z2:=F.mp c;refine⟨_,O,pE (b:=false) (i:=0) (bY.same a e) O ⟨_,O,pE (b:=false) (i:=0+k) (bY.same a A) d ⟨_,O,pE (b:=false) (i:=1) (bY.same a e) O ⟨_,O,pE (b:=false) (i:=0+k) (bY.same a hyb) d ⟨_,_,O,O,?_⟩⟩⟩⟩⟩;refine⟨_,O,pE (b:=false) (i:=0) (bY.same a f) O ⟨_,O,pE (b:=false) (i:=0+k) (bY.same a D) d ⟨_,O,pE (b:=false) (i:=1) (bY.same a f) O ⟨_,O,pE (b:=false) (i:=0+k) (bY.same a hxb) d ⟨_,_,O,O,_,_,O,zyA,Sm.mono (k:=20) (by unfold Sm;lia) Z,h_.sh zyA λmv H4 s4 u=>fh mv H4 ⟨a.trans s4,?_⟩⟩⟩⟩⟩⟩;rw[me];unfold EM;rw[Sx C,SO z2];exact u
    have C:=F.mp c;refine⟨_,O,pE (b:=false) (i:=0) (bY.same a e) O ⟨_,O,pE (b:=false) (i:=0+k) (bY.same a A) d ⟨_,O,pE (b:=false) (i:=0) (bY.same a f) O ⟨_,O,pE (b:=false) (i:=0+k) (bY.same a D) d ⟨_,_,O,zyA,Sm.mono (k:=20) (by unfold Sm;lia) Z,h_.sh zyA λmv H4 s4 u=>?_⟩⟩⟩⟩⟩;refine⟨_,O,.str i,.str "squeezed",.str _,.str _,sh,zyC,_,O,fm (λc=>?s2) (λc=>fh mv H4 ⟨a.trans s4,?_⟩)⟩
    case s2=>exact absurd (C.symm.trans (F.mp c)) zyC
    rw[me];unfold EM;rw[SO C];exact u
   rintro mv l ⟨a,u⟩;refine⟨_,O,_,O,m,mv,g,_,O,ax.same a J,u,Ok.mono bg Z,Ok.mono bm Z,?_⟩;have M:=G.more;refine⟨_,O,fm (λc=>⟨_,O,(nr i s o).at k,mv,_,_,O,s2.trans a,u,?_⟩) (λc=>⟨_,O,g,m,_,_,O,s2.trans a,ax.same a J,?_⟩)⟩
   ·rw[SO (Ti c)] at M;exact M
   ·rw[Sx (λz=>c (R8 z))] at M;exact M
  ·rintro σ B ⟨g,m,o1,o2,rfl,s2,J,G⟩;exact⟨_,O,q g m B s2 G J⟩
theorem dk:ao ["_law_script","_law_town_here","_law_parts","_law_other","_law_yonder","_law_intent","_law_size","_law_step","_law_grown","_law_told","_law_due","_law_grid_here","_law_a","_law_b","_law_c","_law_found","_law_turn","_law_colour","_law_steps","_law_worth","_law_k","_law_off"] uB2 (af pq):=cN
section
variable {K:KE}{t r cl:Sd}{P:C3}{b:S9 ⊕ (Kn->R3)}{e:En}{us:List V}{pv sv dv:V}{H H':Hp}
theorem LP.mv (h:LP K t r P b e cl us pv sv dv H)(m:Mv [t,r] H H')(k:cr H' t r):LP K t r P b e cl us pv sv dv H':=by
 obtain⟨q,c,p,n,a⟩:=h;refine⟨k,c,m _ _ p c,n.same m.cut,?_⟩;cases b with
 |inl s=>exact⟨a.1.same m.wide.cut,ax.same m.cut a.2.1,a.2.2⟩
 |inr f=>
  obtain⟨l,o,⟨d,g,i⟩,j⟩:=a;exact⟨l.same m.wide.cut,o,⟨d,g,i.mv m q.lists⟩,j⟩
theorem LP.same (h:LP K t r P b e cl us pv sv dv H)(s:ah H H'):LP K t r P b e cl us pv sv dv H':=h.mv (Mv.of s) (h.tw.same s)
theorem LP.pr (h:LP K t r P b e cl us pv sv dv H):zn K H P b e pv:=by
 have h:=h.hb;cases b with
 |inl s=>exact⟨h.1.same nR,h.2.2.1,h.2.2.2⟩
 |inr f=>exact⟨h.1.same nR,h.2.2.2.1,h.2.2.2.2⟩
theorem LP.own (h:LP K t r P b e cl us pv sv dv H):QS K H P sv dv b:=by
 have h:=h.hb;cases b with
 |inl s=>exact⟨ax.uncut h.2.1,h.2.2.1⟩
 |inr f=>exact h.2
end
structure GS (K:KE)(t r Tp cl:Sd)(P:C3)(b:S9 ⊕ (Kn->R3))(e e2:En)(us:List V)(pv sv dv ev yv:V)(D:List (Tr×V))(H:Hp):Prop where
 lp:LP K t r P b e cl us pv sv dv H
 tb:Em K "parts_by_four" H
 hT:H Tp=Y (.tup [pv,.ref cl,sv,dv,ev])
 yo:eG K H e2 yv
 ds:∀ p∈D,yi p.1=true/\ax K H p.1 p.2
section
variable {K:KE}{t r Tp cl:Sd}{P:C3}{b:S9 ⊕ (Kn->R3)}{e e2:En}{us:List V}{pv sv dv ev yv:V}{D:List (Tr×V)}{H H':Hp}
theorem GS.mv (h:GS K t r Tp cl P b e e2 us pv sv dv ev yv D H)(m:Mv [t,r] H H')(c:cr H' t r):GS K t r Tp cl P b e e2 us pv sv dv ev yv D H':=
 ⟨h.lp.mv m c,h.tb.mv m h.lp.tw.lists,m _ _ h.hT (h.lp.tw.lists.not h.hT λ_ z=>nomatch z),h.yo.mv m h.lp.tw.lists,λp a=>⟨(h.ds p a).1,ax.mv m h.lp.tw.lists (h.ds p a).1 (h.ds p a).2⟩⟩
theorem GS.same (h:GS K t r Tp cl P b e e2 us pv sv dv ev yv D H)(s:ah H H'):GS K t r Tp cl P b e e2 us pv sv dv ev yv D H':=h.mv (Mv.of s) (h.lp.tw.same s)
end
theorem JS {K:KE}{H:Hp}{p:Sd}{i n:Nat}(h:H p=Y (.tup [.int ((0+(i:Int))*fu n),.int 1])):ax K H (rD ((fu n*(i:Int):Int):Rat)) (.ref p):=by
 rw[Xs,VC] at h;rw[xC];exact fb h
def Li (n:Nat)(i:Str)(e a:En)(b:S9 ⊕ (Kn->R3))(P:C3)(t:Kn):Prop:=kK P (uR n t) (At P (uR n t))/\OX (wX i e a b P (uR n t))
theorem NV {d e:Rat}(h:fX d e):¬ d<ik e:=by
 obtain⟨a,b⟩:=h;unfold ik
 split<;>grind
theorem Mx [T:cH K mg w]{f:Sd}{fd:Uw}(F:Os K "law" "law" pq f fd):jm P w K mg base yd 12 f fd uB2 (tm ["parts_by_four"] K):=by
 refine Os.okX F dk (λvs H Q E h=>?_) (λcdv A outer s H vs Q E hr h=>?_)
 ·obtain⟨a,ns,rfl,_⟩:=h;rfl
 ·obtain⟨a,ns,rfl,hS,hl,hT,q⟩:=h;refine⟨_,(cA.go (ac (aw 1 dk.nd (ab av A8 hr (aE (ak 0))))
   (ac (aw 2 dk.nd (ab av uw hr (aE (ak 1))))
   (ac (aw 3 dk.nd (ab av qY hr (aE (ak 1))))
   (ac (aw 4 dk.nd (wP (K:=K) O av fF (hr.mono Z) O (bZ (am K (ak 3) aa) (bZ (am K (ak 3) aa) dQ))))
   (ac (aw 5 dk.nd (ab av dX hr (aA (ak 1) (bV (aj ji (aj ji (aj ji (aj ji aN))))))))
   (ac (aw 6 dk.nd (ab av dX hr (aA (ak 1) (bV (aj aa (aj aa (aj aa aN)))))))
   (ac (aw 7 dk.nd (au dR aa (au cC (ak 6) aa)))
   (ac (aw 8 dk.nd (ab av vm hr (aj (ak 5) (aj (am K (ak 2) aa) (aj (ak 3) aN)))))
   (ac (aw 9 dk.nd (iA av yh (hr.mono Z) O (aA (am K (ak 2) aa) (ak 5)) (bZ (ak 4) (bZ (ak 6) dQ))))
   (ac (aw 10 dk.nd (ab av AR hr (aA (ab av ph hr (aA (ab av ph hr (aA (ab av qU hr (aE (am K (ak 2) aa))) (ak 8))) (aW (aA (ak 7) aa)))) (aW (aA aa aa)))))
   (ac (aZ (WW.pt (fU (aX (Is (K:=K) O hr.units) (ak 9) (ak 10) (bn _)) (eI (aX (Is (K:=K) O hr.units) (iA av zj (hr.mono Z) O (aA (am K (ak 2) aa) (ak 5)) (bZ (ak 4) dQ)) (ak 8) (bn _))))) (ae (aq iH)) aH)
   (ac (aw 11 dk.nd (iA av FY (hr.mono Z) O (aA (am K (ak 2) aa) (ak 5)) (bZ (ak 4) (bZ (ak 6) dQ))))
   (ac (de SW rfl (bj rfl T.x0 (aE (ak 6))) (ai 12 dk.nd) (ae (de SW rfl (bj rfl T.x0 (aE (ak 6))) (ai 13 dk.nd) (ae (de SW rfl (bj rfl T.x0 (aE (ak 6))) (ai 14 dk.nd) (ac (aw 15 dk.nd (iA av mM (hr.mono Z) O (aj (am K (ak 2) aa) (aj (ak 5) (aj (aW (aj (aW (aA (au aM (ak 12) (ak 7)) aa)) (aj (aW (aA (au aM (ak 13) (ak 7)) aa)) (aj (aW (aA (au aM (ak 14) (ak 7)) aa)) aN)))) aN))) (bZ (ak 4) dQ)))
   (ae (aZ (aX (Is (K:=K) O hr.units) (aG ["_law_one"] [] [] 1 (bE (K:=K) O (ak 15)) (λnd=>(ai 0 nd)) (Jp (WW.pt (fU (aV (ab av ia hr (aA (ak 0) (aW (aA aa aa))))) (eI (aV (ab av ia hr (aA (aW (aA aa aa)) (ak 0)))))))) (ak 0)) (bV aN) (bn _)) (ae (aq iH)) aH))))))))
   (ac (de SW rfl (bj rfl T.x0 (aE aa)) (ai 16 dk.nd) (ac (aw 17 dk.nd (ab av yz hr (aA (ak 1) aa)))
   (ac (aw 18 dk.nd (iA av mM (hr.mono Z) O (aj (am K (ak 2) aa) (aj (ak 5) (aj (ak 17) aN))) (bZ (ak 4) dQ)))
   (ae (de SW rfl (bE (K:=K) O (bV (aA (vB (K:=K) O av (iM T.x2a) (hr.mono Z) (ak 11) (aE (ak 17)) dQ) (vB (K:=K) O av (iM T.x3s) (hr.mono Z) (ak 11) (aE (ak 17)) (bZ ji dQ))))) (ai 19 dk.nd) (ae (de SW rfl (bj rfl T.x0 (aE aa)) (ai 20 dk.nd) (ac (aw 21 dk.nd (ab av Bj hr (aA (am K (ak 19) (ak 20)) (am K (ak 18) (ak 20)))))
   (ae (aZ (aV (ab av ia hr (aA (ak 9) (jp (aX Mm (am K (ak 21) aa) aa (bn _)) (ak 21) (aW (aA (au cC aa (am K (ak 21) aa)) (am K (ak 21) aa))))))) (ae (aq iH)) aH))))))))))
   (ae (aq iH))))))))))))))))),?_⟩
  refine⟨_,O,a,ns,O,hS,hl,λt r H0 s0 _ _ tw0=>?_⟩;have tb0:=(hT "parts_by_four" zyB).same s0;clear hT hS hl s0;refine⟨_,O,t,r,O,tw0,λTp cl us P b e pv sv dv ev H1 hT lp hev ie mv1=>?_⟩;have tb1:=tb0.mv mv1 tw0.lists;clear tb0 mv1 tw0;refine⟨_,O,t,r,O,lp.tw,λov D H4 hov ie2 tw4 mv4=>?_⟩;replace tb1:=tb1.mv mv4 lp.tw.lists;replace hT:=mv4 _ _ hT (lp.tw.lists.not hT λ_ z=>nomatch z);replace hev:=ax.mv mv4 lp.tw.lists rfl hev;replace lp:=lp.mv mv4 tw4;clear mv4 tw4;obtain⟨oa,xs,rfl,hoa,hos⟩:=aL (b:=false) (ds:=[cB false D.w,cB false D.b]) hov;obtain⟨x,y,rfl,hx,hy⟩:=lK hos;refine⟨_,O,pE (b:=false) (i:=0) hoa rfl ⟨_,O,pE (b:=false) (i:=1) hoa rfl λC2 a2 dx2 hC2 ha2 hdx2 hne2=>?_⟩⟩;generalize d:upd (upd H4 dx2 _) a2 _=H5;have s5:=Bl ha2 hdx2 hne2 d;have gv:=eD d;refine⟨a2,C2,dx2,x,y,D,O,hC2,gv,ax.same s5 hx,ax.same s5 hy,ie2,λH6 mv6 en2=>⟨O,?_⟩⟩;have s6:ah H4 H6:=λb' o z=>mv6 _ _ (s5 _ _ z) (λw=>by rw[RY.mp w,ha2] at z;cases z)
  have V:GS K t r Tp cl P b e D us pv sv dv ev (.ref a2) [(.tuple [cB false e.w,cB false e.b],ev),(.tuple [cB false D.w,cB false D.b],.ref oa)] H6:=⟨lp.same s6,tb1.same s6,s6 _ _ hT,en2,λp hp=>by
   simp only[R',Sg,TK] at hp;rcases hp with rfl|rfl
   ·exact⟨O,ax.same s6 hev⟩
   ·exact⟨O,ax.same s6 hov⟩⟩
  clear d s5 gv mv6 s6 hoa hos hx hy ha2 hdx2 hne2 hov lp tb1 hT en2 hev;refine⟨_,O,(Z:4<=Sk),λp hp=>?_⟩;have np:=V.lp.tw.not hp;generalize d:upd H6 p _=H7;replace V:=V.same (gB hp d);refine⟨t,r,p,_,O,V.lp.tw,eD d,λz=>np (by simp[z]),λz=>np (by simp[z]),zyB,(Z:4<=1000),λi v H8 ev8 tw8 mv8=>?_⟩;obtain⟨J,nm,rfl,hn⟩:∃ J nm:Str,v=.str J/\iE.lookup J=Y nm:=by
   have m:=Se ev8;simp only[R',Sg,TK] at m;rcases m with rfl|rfl|rfl|rfl
   ·exact⟨"same",_,O,O⟩
   ·exact⟨"white",_,O,O⟩
   ·exact⟨"squeezed",_,O,O⟩
   ·exact⟨"clipped",_,O,O⟩
  replace V:=V.mv mv8 tw8;clear d np hp mv8 tw8 ev8;refine⟨_,O,Gd,λp hp=>?_⟩;have np:=V.lp.tw.not hp;generalize d:upd H8 p _=H9;replace V:=V.same (gB hp d);refine⟨t,r,p,_,O,V.lp.tw,eD d,λz=>np (by simp[z]),λz=>np (by simp[z]),zyB,(Z:3<=1000),λi v H10 ev8 tw8 mv8=>?_⟩;obtain⟨n,rfl,n2,n3⟩:∃ n:Nat,v=.int n/\2<=n/\n<=3:=by
   have m:=Se ev8;simp only[R',Sg,TK] at m;rcases m with rfl|rfl|rfl
   ·exact⟨2,O,Z,Z⟩
   ·exact⟨2,O,Z,Z⟩
   ·exact⟨3,O,Z,Z⟩
  have n7:n<=7:=zyA
  replace V:=V.mv mv8 tw8;clear d np hp mv8 tw8 ev8
  change wA 6 _ [Y (.ref a),Y (.ref t),Y (.ref Tp),Y (.ref oa),Y (.ref a2),Y (.str J),none,none,none,none,none,none,none,none,none,none,none,none,none,none,none,none] _ _
  obtain⟨ap0,ap1,ap2⟩:=jG n2 n7;have ef:(60:Int).fdiv ((n:Int)-1)=fu n:=TW _ zyA;refine⟨_,O,_,_,O,O,_,_,O,O,⟨zyA,Sm.mono (k:=20) (by unfold Sm;lia) Z⟩,?_⟩
  change wA 7 (.int ((60:Int).fdiv ((n:Int)-1))) [Y (.ref a),Y (.ref t),Y (.ref Tp),Y (.ref oa),Y (.ref a2),Y (.str J),Y (.int n),none,none,none,none,none,none,none,none,none,none,none,none,none,none,none] _ _
  generalize (60:Int).fdiv ((n:Int)-1)=st at ef ⊢;subst ef;have sa:Sm 6 (fu n):=by unfold Sm;lia
  refine⟨_,O,_,O,pE (b:=false) (i:=4) (eM.of V.hT) O ⟨_,O,ev,.ref oa,J,nm,e,D,O,hn,(V.ds _ (.head _)).2,(V.ds _ (.tail _ (.head _))).2,ie,ie2,λg gv H11 s11 G hg=>?_⟩⟩;replace V:=V.same s11;clear s11;refine⟨_,O,pE (b:=false) (i:=0) (eM.of V.hT) O ⟨_,O,_,O,_,O,pv,.ref a2,J,nm,n,P,b,e,D,O,n2,n7,V.lp.pr,hn,V.yo.en,ie,ie2,λsl g' tv H12 s12 hs bs G' ht=>?_⟩⟩;cases G.uniq G';replace V:=V.same s12;replace hg:=ax.same s12 hg;clear s12 G';refine⟨_,O,pE (b:=false) (i:=0) (eM.of V.hT) O ⟨pv,P,b,e,O,V.lp.pr,λsl' uv H13 s13 hs' bs' hu=>?_⟩⟩;cases JW hs hs';have bsl:=Bq.add (Bq.add bs.a bs.b) bs.c;have bg:=G.bq ie ie2;have ba:Bq 6 ((fu n:Int):Rat):=⟨by rw[Uz];decide,by rw[Uz];exact Zz _,by rw[Wa];exact sa,by rw[Uz];unfold Sm;decide⟩
  have bh:Bq 6 (((1:Int):Rat)/((2:Int):Rat)):=eK Z (by unfold Sm;decide) (by unfold Sm;decide);refine⟨_,O,uv,gv,_,_,_,_,O,hu,ax.same s13 hg,Ok.mono bsl Z,Ok.mono bg Z,h_.mul λw1 H14 s14 hw1=>?_⟩;refine⟨_,O,kY,λp hp=>?_⟩;generalize d:upd H14 p _=H15;have s15:=gB hp d;have g15:ax K H15 (rD ((fu n:Int):Rat)) (.ref p):=by rw[xC];exact fb (eD d)
  clear d;refine⟨w1,.ref p,_,_,_,_,O,ax.same s15 hw1,g15,Ok.mono (Bq.mul bsl bg) Z,Ok.mono ba Z,h_.mul λw2 H16 s16 hw2=>?_⟩;refine⟨kY,λp2 hp2=>?_⟩;generalize d:upd H16 p2 _=H17;have s17:=gB hp2 d;have g17:ax K H17 (rD (((1:Int):Rat)/((2:Int):Rat))) (.ref p2):=by
   have en:(((1:Int):Rat)/((2:Int):Rat)).num=1:=zyC
   have ed:(((1:Int):Rat)/((2:Int):Rat)).den=2:=zyC
   rw[rD,en,ed];exact fb (eD d)
  clear d;have boff:=Bq.add (Bq.mul (Bq.mul bsl bg) ba) bh;refine⟨w2,.ref p2,_,_,_,_,O,ax.same s17 hw2,g17,Ok.mono (Bq.mul (Bq.mul bsl bg) ba) Z,Ok.mono bh Z,h_.add λw3 H18 s18 hw3=>?_⟩;have N:=((((s13.trans s14).trans s15).trans s16).trans s17).trans s18;replace V:=V.same N;replace hg:=ax.same N hg;replace ht:=ax.same N ht;clear N s13 s14 s15 s16 s17 s18 hw1 hw2 g15 g17 hu hp hp2;have eqs:∀ {x:Rat},Xh (rD x) (rD x)=true:=CH ⟨O,O⟩;refine⟨_,O,_,O,rD (qo n sl g),rD (qo n sl g),ht,hw3,O,O,false,by rw[eqs];rfl,bN ?_⟩;refine⟨_,O,pE (b:=false) (i:=0) (eM.of V.hT) O ⟨_,O,_,O,pv,.ref a2,J,nm,P,b,e,D,O,V.lp.pr,hn,V.yo.en,ie,ie2,λg2 gv2 H19 s19 G2 hg2=>?_⟩⟩;cases G.uniq G2;refine⟨_,O,_,_,hg2,ax.same s19 hg,O,O,false,by rw[eqs];rfl,bN ?_⟩;replace V:=V.same s19;replace ht:=ax.same s19 ht;clear s19 hg2 G2 hw3 hg;refine⟨_,O,pE (b:=false) (i:=0) (eM.of V.hT) O ⟨_,O,_,O,_,O,pv,.ref a2,J,nm,n,P,b,e,D,O,n2,n7,V.lp.pr,hn,V.tb,V.yo.en,ie,ie2,λgA C dx L H20 s20 hC hgA gL=>?_⟩⟩;have B:i' K H20 n (dS n J e D b P) (.ref gA):=⟨gA,C,dx,L,O,hC,hgA,gL⟩
  replace V:GS K t r Tp cl P b e D us pv sv dv ev (.ref a2) [(rD (qo n sl g),tv)] H20:=⟨(V.same s20).lp,(V.same s20).tb,(V.same s20).hT,(V.same s20).yo,λp hp=>by
   cases RY.mp hp;exact⟨O,ax.same s20 ht⟩⟩
  clear ht s20 hgA gL;refine⟨_,O,(n:Int),O,zyA,zyA,eV (lo:=0) (n:=(n:Int).toNat) (λi σ H'=>(∃ oA oB oC oF,σ=[Y (.ref a),Y (.ref t),Y (.ref Tp),Y (.ref oa),Y (.ref a2),Y (.str J),Y (.int n),Y (.int (fu n)),Y gv,Y tv,Y w3,Y (.ref gA),oA,oB,oC,oF,none,none,none,none,none,none])/\GS K t r Tp cl P b e D us pv sv dv ev (.ref a2) [(rD (qo n sl g),tv)] H'/\i' K H' n (dS n J e D b P) (.ref gA)/\∀ u∈aI n,u.1<i->Li n J e D b P u) ⟨⟨_,_,_,_,O⟩,V,B,λu _ z=>absurd z (X6 _)⟩ ?_ ?_⟩
  ·clear V B;rintro i σ H1 hi ⟨⟨oA,oB,oC,oF,rfl⟩,V,B,M⟩;refine⟨_,O,(n:Int),O,zyA,zyA,eV (lo:=0) (n:=(n:Int).toNat) (λj σ H'=>(∃ oB oC oF,σ=[Y (.ref a),Y (.ref t),Y (.ref Tp),Y (.ref oa),Y (.ref a2),Y (.str J),Y (.int n),Y (.int (fu n)),Y gv,Y tv,Y w3,Y (.ref gA),Y (.int (0+i)),oB,oC,oF,none,none,none,none,none,none])/\GS K t r Tp cl P b e D us pv sv dv ev (.ref a2) [(rD (qo n sl g),tv)] H'/\i' K H' n (dS n J e D b P) (.ref gA)/\∀ u∈aI n,(u.1<i\/u.1=i/\u.2.1<j)->Li n J e D b P u) ⟨⟨_,_,_,O⟩,V,B,λu m z=>z.elim (M u m) λz=>absurd z.2 (X6 _)⟩ ?_ ?_⟩
   ·clear V B M;rintro j σ H1 hj ⟨⟨oB,oC,oF,rfl⟩,V,B,M⟩;refine⟨_,O,(n:Int),O,zyA,zyA,eV (lo:=0) (n:=(n:Int).toNat) (λk σ H'=>(∃ oC oF,σ=[Y (.ref a),Y (.ref t),Y (.ref Tp),Y (.ref oa),Y (.ref a2),Y (.str J),Y (.int n),Y (.int (fu n)),Y gv,Y tv,Y w3,Y (.ref gA),Y (.int (0+i)),Y (.int (0+j)),oC,oF,none,none,none,none,none,none])/\GS K t r Tp cl P b e D us pv sv dv ev (.ref a2) [(rD (qo n sl g),tv)] H'/\i' K H' n (dS n J e D b P) (.ref gA)/\∀ u∈aI n,(u.1<i\/u.1=i/\(u.2.1<j\/u.2.1=j/\u.2.2<k))->Li n J e D b P u) ⟨⟨_,_,O⟩,V,B,λu m z=>M u m zyA⟩ ?_ ?_⟩
    ·clear V B M;rintro k σ H1 hk ⟨⟨oC,oF,rfl⟩,V,B,M⟩;have htm:((i,j,k):Kn)∈aI n:=bA.mpr ⟨by show i<n;lia,by show j<n;lia,by show k<n;lia⟩;obtain⟨wi,bd⟩:=Df n2 n7 htm;have cm:∀ {m:Nat},m<7->mB (0+(m:Int)) (fu n):=λ{m} h=>.inr (by unfold Sm;lia)
     refine⟨_,O,pE (b:=false) (i:=0) (eM.of V.hT) O ⟨_,O,_,O,_,O,_,_,O,O,cm zyA,kY,λp0 hp0=>?_⟩⟩;generalize d:upd H1 p0 _=H2;have s2:=gB hp0 d;have g2:=JS (K:=K) (i:=i) (n:=n) (eD d);clear d;refine⟨_,O,_,O,_,_,O,O,cm zyA,kY,λp1 hp1=>?_⟩;generalize d:upd H2 p1 _=H3;have s3:=gB hp1 d;have g3:=JS (K:=K) (i:=j) (n:=n) (eD d);clear d;refine⟨_,O,_,O,_,_,O,O,cm zyA,kY,λp2 hp2=>?_⟩;generalize d:upd H3 p2 _=H4;have s4:=gB hp2 d;have g4:=JS (K:=K) (i:=k) (n:=n) (eD d);clear d;refine⟨Gd,λp3 hp3=>?_⟩;generalize d:upd H4 p3 _=H5;have s5:=gB hp3 d;have g5:ax K H5 (uR n (i,j,k)).col (.ref p3):=.tup (eD d) (.cons (ax.same ((s3.trans s4).trans s5) g2) (.cons (ax.same (s4.trans s5) g3) (.cons (ax.same s5 g4) .nil)));have s15:=((s2.trans s3).trans s4).trans s5;replace V:=V.same s15;replace B:=B.same s15;clear d s2 s3 s4 s5 s15 g2 g3 g4 hp0 hp1 hp2 hp3;refine⟨_,O,pv,.ref p3,.ref a2,J,nm,P,b,e,D,_,O,V.lp.pr,hn,g5,wi,bd,V.tb,V.yo.en,ie,ie2,λfv H6 s6 on hf bf=>?_⟩;replace V:=V.same s6;replace B:=B.same s6;clear s6 g5;have more:OX (wX J e D b P (uR n (i,j,k)))->∀ u∈aI n,(u.1<i\/u.1=i/\(u.2.1<j\/u.2.1=j/\u.2.2<k+1))->Li n J e D b P u:=λir u m z=>by
      by_cases h:u=(i,j,k)
      ·subst h;exact⟨on,ir⟩
      ·refine M u m ?_;have:¬ (u.1=i/\u.2.1=j/\u.2.2=k):=λ⟨x,y,z⟩=>h (by rw[<- x,<- y,<- z])
       lia
     clear M on;generalize wX J e D b P (uR n (i,j,k))=sq at hf bf more;obtain⟨wa,ws,rfl,hwa,hws⟩:=aL (b:=false) (ds:=sq.ds) hf;have lws:ws.length=3:=by rw[<- hws.length];rfl
     have b0:Bq 520 (0:Rat):=QB.mono Z;have b1000:Bq 520 ((1000:Int):Rat):=⟨by rw[Uz];decide,by rw[Uz];exact Zz _,by rw[Wa];exact Sm.mono (k:=12) (by unfold Sm;decide) Z,by rw[Uz];exact Sm.mono (k:=12) (by unfold Sm;decide) Z⟩
     refine⟨_,O,wa,false,O,⟨_,hwa⟩,kZ (K:=K) (xs:=ws) (λm zs H'=>ah H6 H'/\∃ rs:List Rat,aB K H' (rs.map rD) zs/\rs.length<=m/\(rs=[]->∀ l,l<m->0<=sq.at l/\sq.at l<=((1000:Int):Rat))) ⟨ah.refl _,[],.nil,R0 _,λ_ l hl=>absurd hl (X6 _)⟩ zyA (λm zs H' hm ⟨s',rs,hz,lr,_⟩=>⟨bY.same s' hwa,by rw[<- hz.length,R5];exact lr⟩) (λm x zs H' hx ⟨s',rs,hz,lr,al⟩ R S kk ks=>?_) (λzs H' ⟨s',rs,hz,lr,al⟩ zyQ hZ=>?_)⟩
     ·have hm:m<3:=by rw[<- lws];exact(R9.mp hx).1
      obtain⟨x',ex,hx'⟩:=DB hm (aB.same s' hws);rw[hx] at ex;cases ex;have bm:=tX (i:=m) bf;have yes:∀ H'',ah H' H''->R x H'':=λH'' s''=>kk x H'' ⟨s'.trans s'',rs++[sq.at m],by rw[T5];exact aB.snoc (aB.same s'' hz) (ax.same s'' hx'),by rw[SB];show rs.length+1<=m+1;lia,λz=>absurd z zyB⟩
      refine⟨_,O,kY,λp hp=>⟨x,.ref p,sq.at m,0,O,ax.same (ah.new hp) hx',fb ag,Ok.mono bm Z,Ok.mono b0 Z,?_⟩⟩;generalize d:upd H' p _=H7;have s7:=gB hp d;clear d;refine⟨_,O,fm (λhc=>aY ⟨_,O,yes H7 s7⟩) (λhc=>?_)⟩;have h0:¬ sq.at m<0:=λz=>hc (R8 z)
      refine⟨kY,λp1 hp1=>?_⟩;generalize d:upd H7 p1 _=H8;have s8:=s7.trans (gB hp1 d);have g8:ax K H8 (rD ((1000:Int):Rat)) (.ref p1):=by rw[xC];exact fb (eD d)
      clear d;refine⟨_,O,.ref p1,x,((1000:Int):Rat),sq.at m,O,g8,ax.same s8 hx',Ok.mono b1000 Z,Ok.mono bm Z,⟨_,O,?_⟩⟩
      by_cases h1:((1000:Int):Rat)<sq.at m
      ·rw[R8 h1];exact aY ⟨_,O,yes H8 s8⟩
      ·rw[Td h1];refine bN (ks H8 ⟨s'.trans s8,rs,aB.same s8 hz,zyA,λz l hl=>?_⟩)
       by_cases e:l=m
       ·subst e;exact⟨aaR.mp h0,aaR.mp h1⟩
       ·exact al z l zyA
     rw[lws] at lr al;refine⟨(Z:0<=Sk),λW hW=>?_⟩;generalize e1:upd H' zyQ _=H7 at hW ⊢;generalize D:upd H7 W _=H8;have s7:=gB hZ e1;have s8:=gB hW D;have sA:=(s'.trans s7).trans s8;have h1:ax K H8 (.list (rs.map rD)) (.ref zyQ):=.lst (.inl (s8 _ _ (eD e1))) (aB.same (s7.trans s8) hz);have h2:ax K H8 (.list []) (.ref W):=.lst (.inl (eD D)) .nil
     match rs,lr,al,h1 with
     |[],_,al,h1=>exact⟨_,_,h1,h2,O,O,false,O,bN ⟨⟨_,_,O⟩,V.same sA,B.same sA,more λl hl=>al rfl l hl⟩⟩
     |[x],_,_,h1=>exact⟨_,_,h1,h2,O,O,true,O,aY (q _)⟩
     |[x,y],_,_,h1=>exact⟨_,_,h1,h2,O,O,true,O,aY (q _)⟩
     |[x,y,z],_,_,h1=>exact⟨_,_,h1,h2,O,O,true,O,aY (q _)⟩
    ·rintro σ H2 ⟨⟨oC,oF,rfl⟩,V,B,M⟩;exact⟨⟨_,_,_,O⟩,V,B,λu m z=>M u m (by have:=bA.mp m;lia)⟩
   ·rintro σ H2 ⟨⟨oB,oC,oF,rfl⟩,V,B,M⟩;exact⟨⟨_,_,_,_,O⟩,V,B,λu m z=>M u m (by have:=bA.mp m;lia)⟩
  ·clear V B;rintro σ H2 ⟨⟨oA,oB,oC,oF,rfl⟩,V,B,M⟩;have hb60:∀ f,b=.inr f->P.In 60:=λf ef=>by subst ef;exact V.lp.pr.2.2
   have ons:∀ t∈aI n,kK P (uR n t) (At P (uR n t))/\OX (wX J e D b P (uR n t)):=λu m=>M u m (by have:=bA.mp m;lia)
   clear M;refine⟨4,O,Z,Z,eV (lo:=0) (n:=4) (λj σ H'=>(∃ p0 p1 p2 p3 p4 p5,σ=[Y (.ref a),Y (.ref t),Y (.ref Tp),Y (.ref oa),Y (.ref a2),Y (.str J),Y (.int n),Y (.int (fu n)),Y gv,Y tv,Y w3,Y (.ref gA),oA,oB,oC,oF,p0,p1,p2,p3,p4,p5])/\GS K t r Tp cl P b e D us pv sv dv ev (.ref a2) [(rD (qo n sl g),tv)] H'/\i' K H' n (dS n J e D b P) (.ref gA)) ⟨⟨_,_,_,_,_,_,O⟩,V,B⟩ ?_ ?_⟩
   ·clear V B;rintro j σ H3 hj ⟨⟨p0,p1,p2,p3,p4,p5,rfl⟩,V,B⟩;refine⟨_,O,t,r,60,O,V.lp.tw,Z,Z,λcv c H4 hc wi bd tw4 mv4=>?_⟩;replace B:=B.mv mv4 V.lp.tw.lists;replace V:=V.mv mv4 tw4;clear mv4 tw4;refine⟨_,O,pE (b:=false) (i:=0) (eM.of V.hT) O ⟨_,O,_,O,_,O,pv,cv,.ref a2,J,nm,P,b,e,D,c,O,V.lp.pr,hn,hc,wi,bd,V.tb,V.yo.en,ie,ie2,λstv H5 s5 on hst Qr=>?_⟩⟩;replace V:=V.same s5;replace B:=B.same s5;replace hc:=ax.same s5 hc;clear s5;have far:=λk (hk:k<3)=>G9 (c:=c) (j:=k) n2 n7 V.lp.pr.pin hb60 hs ie ie2 G wi on ons hk
    obtain⟨gA',C',dx',L',eg,hC',hg',gL⟩:=id B;cases eg;refine⟨_,O,gA,C',dx',_,O,hC',hg',O,_,O,.ref gA,cv,"four",n,_,c,17,O,B,AV,n2,n7,hc,wi,bd,Z,V.tb,.inl rfl,λr4 v4 H6 s6 e4 _ b4 h4=>?_⟩;cases e4 rfl;replace V:=V.same s6;replace B:=B.same s6;replace hc:=ax.same s6 hc;refine⟨_,O,gA,C',dx',_,O,hC',s6 _ _ hg',O,_,O,.ref gA,cv,"eight",n,_,c,17,O,B,AV,n2,n7,hc,wi,bd,Z,V.tb,.inr rfl,λr8 v8 H7 s7 _ e8 b8 h8=>?_⟩;cases e8 rfl;replace V:=V.same s7;replace B:=B.same s7;replace h4:=ax.same s7 h4;replace hst:=ax.same (s6.trans s7) hst;clear hc hg' gL s6 s7;refine⟨kY,λwl hwl=>?_⟩;generalize d:upd H7 wl _=H8;have s8:=gB hwl d;have g8:=eD d;clear d;obtain⟨sw,xs2,rfl,hsa,hss⟩:=aL (b:=false) (ds:=(wX J e D b P c).ds) (ax.same s8 hst);have htv:=(V.same s8).ds _ (.head _);have bx:=Ok.mono boff (k:=3900) Z;refine⟨wl,true,O,⟨_,bI.of g8⟩,lU (K:=K) (xs:=[v4,v8]) (λm σ H'=>(∃ q3 q4 q5,σ=[Y (.ref a),Y (.ref t),Y (.ref Tp),Y (.ref oa),Y (.ref a2),Y (.str J),Y (.int n),Y (.int (fu n)),Y gv,Y tv,Y w3,Y (.ref gA),oA,oB,oC,oF,Y (.int (0+j)),Y cv,Y (.ref sw),q3,q4,q5])/\ah H8 H') ⟨⟨_,_,_,O⟩,ah.refl _⟩ (λm σ H' _ ⟨_,s'⟩=>bI.of (s' _ _ g8)) ?_ ?_⟩
    ·rintro m x σ H9 hx ⟨⟨q3,q4,q5,rfl⟩,s9⟩;obtain⟨rr,hxr,br,fr⟩:∃ rr:Q3,ax K H9 rr.col x/\rr.Bd 400/\∀ k,k<3->fX (qo n sl g) (rr.at k-(wX J e D b P c).at k):=by
      match m,hx with
      |0,hx=>cases RU hx;exact⟨_,ax.same (s8.trans s9) h4,b4.mono Z,λk hk=>(far k hk).1⟩
      |1,hx=>cases RU hx;exact⟨_,ax.same (s8.trans s9) h8,b8.mono Z,λk hk=>(far k hk).2⟩
      |m+2,hx=>cases hx
     obtain⟨xa,xs1,rfl,hxa,hxs⟩:=aL (b:=false) (ds:=rr.ds) hxr;refine⟨3,O,Z,Z,eV (lo:=0) (n:=3) (λk σ H'=>(∃ q4 q5,σ=[Y (.ref a),Y (.ref t),Y (.ref Tp),Y (.ref oa),Y (.ref a2),Y (.str J),Y (.int n),Y (.int (fu n)),Y gv,Y tv,Y w3,Y (.ref gA),oA,oB,oC,oF,Y (.int (0+j)),Y cv,Y (.ref sw),Y (.ref xa),q4,q5])/\ah H9 H') ⟨⟨_,_,O⟩,ah.refl _⟩ ?_ ?_⟩
     ·rintro k σ H10 hk ⟨⟨q4,q5,rfl⟩,N⟩;obtain⟨z1,ez1,hz1⟩:=DB hk (aB.same N hxs);obtain⟨z2,ez2,hz2⟩:=DB hk (aB.same (s9.trans N) hss);have ez1':xs1[0+k]?=Y z1:=by rw[SL];exact ez1
      have ez2':xs2[0+k]?=Y z2:=by rw[SL];exact ez2
      refine⟨_,O,_,O,pE (b:=false) (i:=0+k) (bY.same N hxa) ez1' ⟨_,O,_,O,pE (b:=false) (i:=0+k) (bY.same (s9.trans N) hsa) ez2' ⟨_,_,_,_,_,_,O,hz1,hz2,(tX br).mono Z,(tX Qr).mono Z,h_.sub λov H11 s11 hov=>?_⟩⟩⟩;have le:=NV (fr k hk);have bq:Bq 1000 (rr.at k-(wX J e D b P c).at k):=Ok.mono (Bq.sub (tX br) (tX Qr)) Z;generalize rr.at k-(wX J e D b P c).at k=y at *;obtain⟨fa,rfl,hfa⟩:=bt hov;apply Qg (I:=λfv H12=>ah H11 H12/\ax K H12 (rD (ik y)) fv)
      case main=>
       intro fh;refine⟨_,O,_,O,cJ hfa ⟨_,_,O,O,_,O,fm (λhc=>?k1) (λhc=>?k2)⟩⟩
       case k2=>
        have hc:¬ 0<=y.num:=λz=>hc (R8 z)
        refine⟨_,O,cJ hfa ⟨_,_,O,O,_,O,bX hfa ⟨kY,λp5 hp5=>?_⟩⟩⟩;have h5:ah H11 (upd H11 p5 (.tup [.int (0-y.num),.int (y.den:Int)]))/\ax K (upd H11 p5 (.tup [.int (0-y.num),.int (y.den:Int)])) (rD (ik y)) (.ref p5):=⟨ah.new hp5,by rw[EI hc,Lf];exact fb ag⟩
        generalize upd H11 p5 (.tup [.int (0-y.num),.int (y.den:Int)])=H12 at h5 ⊢;generalize L2.V.ref p5=fv at h5 ⊢;exact fh fv H12 h5
       have hc:=Ti hc;rw[<- Ey hc] at hov;exact⟨_,O,fh _ _ ⟨ah.refl _,hov⟩⟩
      rintro fv H12 ⟨s12,hfv⟩;refine⟨tv,fv,qo n sl g,ik y,O,ax.same (((s9.trans N).trans s11).trans s12) htv.2,hfv,bx,Ok.mono (N0 bq) Z,⟨_,O,?_⟩⟩;rw[Td le];exact bN ⟨⟨_,_,O⟩,(N.trans s11).trans s12⟩
     ·rintro σ H10 ⟨⟨q4,q5,rfl⟩,N⟩;exact⟨⟨_,_,_,O⟩,s9.trans N⟩
    ·rintro σ H9 ⟨⟨q3,q4,q5,rfl⟩,s9⟩;exact⟨⟨_,_,_,_,_,_,O⟩,V.same (s8.trans s9),B.same (s8.trans s9)⟩
   ·rintro σ H3 ⟨⟨p0,p1,p2,p3,p4,p5,rfl⟩,V,B⟩;exact q _
end
theorem HX (e:Ql):M1 e:=Classical.byContradiction λn=>Zi (p:=λe=>¬M1 e) ⟨e,n⟩ λT _ _ F=>@Mx T _ _ F
structure Q2 (K:KE):Prop where
 xh:Sa K R1 "abs"=Y none
 xb:Sa K R1 "all"=Y none
 x14:Sa K R1 "bool"=Y none
 xn:Sa K R1 "dict"=Y none
 x15:Sa K R1 "int"=Y none
 x2:Sa K R1 "isinstance"=Y none
 x4:Sa K R1 "len"=Y none
 xc:Sa K R1 "list"=Y none
 xe:Sa K R1 "max"=Y none
 xf:Sa K R1 "min"=Y none
 x0:Sa K R1 "range"=Y none
 xo:Sa K R1 "set"=Y none
 xi:Sa K R1 "sorted"=Y none
 xp:Sa K R1 "str"=Y none
 xq:Sa K R1 "sum"=Y none
 x3:Sa K R1 "tuple"=Y none
 x8:Sa K R1 "zip"=Y none
structure Qu (K:KE):Prop where
 xt:∃ t,Sa K R1 "FEWEST_KNOTS"=Y (Y (.int 2 t))
 xu:∃ t,Sa K R1 "FEWEST_POINTS"=Y (Y (.int 2 t))
 xv:∃ t,Sa K R1 "GREATEST_TO_SQUARE"=Y (Y (.int 1000 t))
 xw:∃ t,Sa K R1 "GREATEST_curves"=Y (Y (.int 1000 t))
 xj:∃ t,Sa K R1 "GREATEST_grids"=Y (Y (.int 1000 t))
 xk:∃ t,Sa K R1 "GREATEST_squares"=Y (Y (.int 4000 t))
 xx:∃ t,Sa K R1 "MOST_KNOTS"=Y (Y (.int 7 t))
 xy:∃ t,Sa K R1 "MOST_POINTS"=Y (Y (.int 12 t))
 xg:∃ t,Sa K R1 "REACH"=Y (Y (.int 60 t))
 xl:∃ t,Sa K R1 "UNIT"=Y (Y (.int 1000 t))
structure Qy (K:KE):Prop where
 x5:iO K "Curve" ["points"]=true
 xa:iO K "Ends" uD3=true
 x1:iO K "Grid" ["knots","table"]=true
 x6:iO K "GridProfile" ["curves","grid","bounds"]=true
 x7:iO K "SquareProfile" ["curves","square","bounds"]=true
 xz:Gw K "Curve"=true
 xm:Gw K "Ends"=true
 x10:Gw K "Grid"=true
 x11:Gw K "GridProfile"=true
 x12:Gw K "SquareProfile"=true
 x16:MW K "GridProfile" "SquareProfile"=true
structure RawD (K:KE):Prop where
 x17:AtD K "is_whole" qk
 x18:AtD K "is_whole_within" gf
 x19:AtD K "is_tuple_within" gk
 x1a:AtD K "greatest_measure" fR
 x1b:AtD K "is_share" qm
 x1c:AtD K "refuse_no_share" gi
 x1d:AtD K "added" AT
 x1e:AtD K "multiplied" l0
 x1f:AtD K "floor_of" pU
 x1g:AtD K "nearest_whole" iL
 x1h:AtD K "is_less" rR
 x1i:AtD K "sum_of" vk
 x1j:AtD K "is_within" ny
 x1k:AtD K "over_one_below" gW
 x1l:AtD K "greatest_of" kW
 x1m:AtD K "is_colour" nB
 x1n:AtD K "is_row" u_
 x1o:AtD K "is_square" mE
 x1p:AtD K "refuse_no_square" fI
 x1q:AtD K "refuse_no_colour" fQ
 x1r:AtD K "whole_sum" nO
 x1s:AtD K "share_sum" nV
 x1t:AtD K "led" Jh
 x1u:AtD K "is_knots" pO
 x1v:AtD K "is_knot" rV
 x1w:AtD K "is_worth" pQ
 x1x:AtD K "apart" AA
 x1y:AtD K "held" Dw
 x1z:AtD K "is_table" pN
 x20:AtD K "refuse_no_knots" gq
 x21:AtD K "refuse_no_device_colour" dh
 x22:AtD K "places_below" jt
 x23:AtD K "moved" Ba
 x24:AtD K "parts_by_eight" gU
 x25:AtD K "is_way" wR
 x2c:AtD K "spans" A7
 x2d:AtD K "white_measure" iP
 x2e:AtD K "squeezed_measure" fV
 x2f:AtD K "led_same" qh
 x2g:AtD K "led_by_white" jI
 x2h:AtD K "led_squeezed" jH
 x2i:AtD K "led_clipped" kF
 x2j:AtD K "is_intent" nh
 x2k:AtD K "refuse_no_intent" fG
 x2l:AtD K "refuse_no_ends" hU
 x2m:AtD K "is_point" p7
 x2n:AtD K "is_onward" mH
 x2o:AtD K "is_points" nK
 x2p:AtD K "stretch_to" lZ
 x2q:AtD K "on_line" sM
 x2w:AtD K "is_curve_to" kE
 x2x:AtD K "is_curves" mU
 x2y:AtD K "refuse_no_curves" fE
 x2z:AtD K "refuse_no_bounds" fK
 x30:AtD K "copied_curves" iK
 x31:AtD K "copied_ends" kN
 x32:AtD K "values_at" mJ
 x37:AtD K "refuse_no_profile" fk
 x38:AtD K "slope_sum" mP
 x39:AtD K "measures" pK
 x3a:AtD K "_law_town" nG
 x3b:AtD K "_law_draw" m_
 x3c:AtD K "_law_pick" nk
 x3d:AtD K "_law_low" pR
 x3e:AtD K "_law_plus" nj
 x3f:AtD K "_law_less" mS
 x3g:AtD K "_law_times" l4
 x3h:AtD K "_law_below" l_
 x3i:AtD K "_law_share" lO
 x3j:AtD K "_law_three" lQ
 x3k:AtD K "_law_points" kU
 x3l:AtD K "_law_square" kR
 x3m:AtD K "_law_grid" nC
 x3n:AtD K "_law_ends" mO
 x3o:AtD K "_law_curves" kO
 x3p:AtD K "_law_profile" jv
 x3q:AtD K "_law_growth" kM
structure Q7 (K:KE):Prop where
 x26:AtM K "Grid" "__init__" "Grid.__init__" gQ
 x27:AtM K "Grid" "knot" "Grid.knot" kP
 x28:AtM K "Grid" "size" "Grid.size" kL
 x29:AtM K "Grid" "mixed" "Grid.mixed" jT
 x2b:AtM K "Grid" "widest" "Grid.widest" iI
 x2r:AtM K "Curve" "__init__" "Curve.__init__" fW
 x2s:AtM K "Curve" "last" "Curve.last" jD
 x2t:AtM K "Curve" "value" "Curve.value" iJ
 x2u:AtM K "Curve" "steepest" "Curve.steepest" fM
 x2v:AtM K "Curve" "ends" "Curve.ends" jN
 x33:AtM K "SquareProfile" "to_worth" "SquareProfile.to_worth" cX
 x34:AtM K "SquareProfile" "slopes" "SquareProfile.slopes" dE
 x35:AtM K "GridProfile" "to_worth" "GridProfile.to_worth" dG
 x36:AtM K "GridProfile" "slopes" "GridProfile.slopes" dW
set_option autoImplicit true in
set_option relaxedAutoImplicit true in
theorem all_mk {l:ZC}{w:Te}{K:KE}{h:Uc}{mg:Str->Option RV}{fa:Sd}{k:List Sd} (X:K.In h) (G:h.Ns R1 mg) (j:mg "law"=Y (.ref fa))
  (RN:Q2 K)
  (RG:Qu K)
  (RB:Qy K)
  (RD:RawD K)
  (RM:Q7 K)
  (s_:Sa K R1 "Grid"=Y (Y (.ref NE)))
  (A9:Sa K R1 "Ends"=Y (Y (.ref NJ)))
  (fA:Sa K R1 "SquareProfile"=Y (Y (.ref t9)))
  (ic:Sa K R1 "GridProfile"=Y (Y (.ref yu)))
  (uX:Sa K R1 "share"=Y (Y (.ref Fi)))
  (uP:K.lookup Fi=Y ⟨Ps,Pf,.func (Sn "share" "share" (aO jj) (aJ jj) (af jj) (.ref Kz) PR PH PV O8 IV Pm),P3⟩)
  (uM:SF K IV "share"=true)
  (uC:Sq K (.ref Fi)=true)
  (uQ:K.lookup Kz=Y Je)
  (uA:Je.data=.seq #[.int 1 Js] Qd)
  (cL:Sa K R1 "parts_by_four"=Y (Y (.ref iD)))
  (fC:K.lookup iD=Y ⟨F5,F4,.func (Sn "parts_by_four" "parts_by_four" (aO du) (aJ du) (af du) .none Ga FJ FW GF (.ref hV) F7),GP⟩)
  (iF:SF K (.ref hV) "parts_by_four"=true)
  (iR:Sq K (.ref iD)=true)
  (eX:K.lookup hV=Y ⟨.type "code",Fg,.fields sP,Fq⟩)
  (eT:JT sP hV eY)
  (gS:K.lookup eY=none)
  (hO:eY∈k)
  (gG:SG K (.ref NE) "worth"=Y (Y (.ref jB)))
  (gC:K.lookup jB=Y ⟨GV,G6,.func (Sn "worth" "Grid.worth" (aO b_) (aJ b_) (af b_) .none (.ref uo) G7 GY GZ ut G1),GW⟩)
  (gK:SF K ut "Grid.worth"=true)
  (gH:Sq K (.ref jB)=true)
  (gM:UP K (.ref jB)=true)
  (iN:K.lookup uo=Y ⟨.type "dict",none,.dict #[⟨Gg,.str "way" Fw,.str "four" sj⟩] GL,#[]⟩)
  (gh:SG K (.ref NJ) "__init__"=Y (Y (.ref gE)))
  (gg:K.lookup gE=Y ⟨D8,DX,.func (Sn "__init__" "Ends.__init__" (aO cI) (aJ cI) (af cI) .none Ee Ek Dp D_ pS DJ),Dc⟩)
  (f9:SF K pS "Ends.__init__"=true)
  (gI:Sq K (.ref gE)=true)
  (f_:UP K (.ref gE)=true)
  (nA:Sa K R1 "led_worth"=Y (Y (.ref tM)))
  (m9:K.lookup tM=Y ⟨Kv,Lv,.func (Sn "led_worth" "led_worth" (aO f6) (aJ f6) (af f6) .none LF LQ LV Lh Bp K7),LD⟩)
  (mQ:SF K Bp "led_worth"=true)
  (mY:Sq K (.ref tM)=true)
  (cV:SG K (.ref t9) "__init__"=Y (Y (.ref c8)))
  (cY:K.lookup c8=Y ⟨uK,uU,.func (Sn "__init__" "SquareProfile.__init__" (aO bB) (aJ bB) (af bB) .none uG uJ uS uF i8 uL),uT⟩)
  (cZ:SF K i8 "SquareProfile.__init__"=true)
  (c9:Sq K (.ref c8)=true)
  (c6:UP K (.ref c8)=true)
  (dI:SG K (.ref yu) "__init__"=Y (Y (.ref dH)))
  (dD:K.lookup dH=Y ⟨xV,xW,.func (Sn "__init__" "GridProfile.__init__" (aO bG) (aJ bG) (af bG) .none xU xZ xY xS jZ xX),x_⟩)
  (dM:SF K jZ "GridProfile.__init__"=true)
  (dJ:Sq K (.ref dH)=true)
  (dF:UP K (.ref dH)=true)
  (pX:Sa K R1 "stepwise"=Y (Y (.ref vf)))
  (pI:K.lookup vf=Y ⟨L5,Md,.func (Sn "stepwise" "stepwise" (aO gY) (aJ gY) (af gY) .none Ms Mg LZ Ma Ci Mb),Ml⟩)
  (pZ:SF K Ci "stepwise"=true)
  (pY:Sq K (.ref vf)=true)
  (wu:Sa K R1 "linked"=Y (Y (.ref B8)))
  (vP:K.lookup B8=Y ⟨Op,OB,.func (Sn "linked" "linked" (aO lH) (aJ lH) (af lH) .none Ox OD Oo Oh Gx Oy),Oq⟩)
  (vp:SF K Gx "linked"=true)
  (vM:Sq K (.ref B8)=true)
  (u7:Sa K R1 "growth"=Y (Y (.ref CS)))
  (wF:K.lookup CS=Y ⟨Oz,Ot,.func (Sn "growth" "growth" (aO lF) (aJ lF) (af lF) .none Om OC Ov Ou Gv Oi),OA⟩)
  (wW:SF K Gv "growth"=true)
  (vF:Sq K (.ref CS)=true)
  (l9:Sa K R1 "link_bound"=Y (Y (.ref rh)))
  (lN:K.lookup rh=Y ⟨Kc,Ke,.func (Sn "link_bound" "link_bound" (aO eR) (aJ eR) (af eR) .none J_ Kb Ki Kf ym Ka),Kd⟩)
  (lR:SF K ym "link_bound"=true)
  (l6:Sq K (.ref rh)=true)
  (a_law:Sa K R1 "law"=Y (Y (.ref f_law)))
  (l_law:K.lookup f_law=Y ⟨QF,Re,.func (Sn "law" "law" (aO pq) (aJ pq) (af pq) .none N9 N2 NT M5 Hv NK),QD⟩)
  (c_law:SF K Hv "law"=true)
  (k_law:Sq K (.ref f_law)=true)
  (jy:Sa K R1 "led_by_white"=Y (Y (.ref v9)))
  (kX:Sa K R1 "led_clipped"=Y (Y (.ref yk)))
  (qj:Sa K R1 "led_same"=Y (Y (.ref Dd)))
  (jK:Sa K R1 "led_squeezed"=Y (Y (.ref u5)))
  (gX:Sa K R1 "parts_by_eight"=Y (Y (.ref rG)))
  (wN:Sa K R1 "LEADS"=Y (Y (.ref Am)))
  (xL:K.lookup Am=Y ⟨.type "dict",none,.dict vg ID,#[]⟩)
  (v_:ZB w.params vg.toList)
  (vC:Yp (λ(e:Uv) (p:Str×Sd)=>∃ t,e.key=.str p.1 t/\e.val=.ref p.2) vg.toList [("same",Dd),("white",v9),("squeezed",u5),("clipped",yk)])
  (vH:(Am==Ua)=false)
  (zN:Sa K R1 "WAYS"=Y (Y (.ref D1)))
  (zX:K.lookup D1=Y ⟨.type "dict",none,.dict AO Lg,#[]⟩)
  (AJ:ZB w.params AO.toList)
  (AU:Yp (λ(e:Uv) (p:Str×Sd)=>∃ t,e.key=.str p.1 t/\e.val=.ref p.2) AO.toList [("four",iD),("eight",rG)])
  (Ac:(D1==Ua)=false)
  (z_k_STEPS:Sa K R1 "STEPS"=Y (Y (.ref TA_STEPS)))
  (xK:K.lookup TA_STEPS=Y oTA_STEPS)
  (we:oTA_STEPS.cls=.type "tuple"/\oTA_STEPS.data=.seq iTA_STEPS nTA_STEPS/\iTA_STEPS.size<=Sk/\aU [.ref TA_STEPS_0,.ref TA_STEPS_1,.ref TA_STEPS_2] iTA_STEPS.toList)
  (kt_STEPS_0:K.lookup TA_STEPS_0=Y oTA_STEPS_0)
  (ku_STEPS_0:oTA_STEPS_0.cls=.type "tuple"/\oTA_STEPS_0.data=.seq iTA_STEPS_0 nTA_STEPS_0/\iTA_STEPS_0.size<=Sk/\aU ([1,0,0].map V.int) iTA_STEPS_0.toList)
  (kt_STEPS_1:K.lookup TA_STEPS_1=Y oTA_STEPS_1)
  (ku_STEPS_1:oTA_STEPS_1.cls=.type "tuple"/\oTA_STEPS_1.data=.seq iTA_STEPS_1 nTA_STEPS_1/\iTA_STEPS_1.size<=Sk/\aU ([0,1,0].map V.int) iTA_STEPS_1.toList)
  (kt_STEPS_2:K.lookup TA_STEPS_2=Y oTA_STEPS_2)
  (ku_STEPS_2:oTA_STEPS_2.cls=.type "tuple"/\oTA_STEPS_2.data=.seq iTA_STEPS_2 nTA_STEPS_2/\iTA_STEPS_2.size<=Sk/\aU ([0,0,1].map V.int) iTA_STEPS_2.toList)
  : ∃ (ts:List (Str×Sd)) (n:Uw),zL K k ts/\(∀ (s:RZ) (v:RV),aab s n ⟨[v],[]⟩ [("_law_script",v)])/\∀ base:Uc,K.In base->base.Ns R1 mg->jm l.prog w K mg base yd 12 fa n uB2 (tm (ts.map (·.1)) K):=by
 have i:zL K k [("parts_by_four",eY)]:=⟨zyB,λp m=>by
  simp only[R',Sg,TK] at m;subst m;exact⟨hO,gS,N7 eX eT,Nn cL fC rfl rfl eX eT⟩⟩
 refine⟨[("parts_by_four",eY)],Sn "law" "law" (aO pq) (aJ pq) (af pq) .none N9 N2 NT M5 Hv NK,i,λs v=>.of_eq rfl,?_⟩;show ∀ base:Uc,K.In base->base.Ns R1 mg->jm l.prog w K mg base yd 12 fa _ uB2 (tm ["parts_by_four"] K);have e:=j.symm.trans (SJ X G a_law);cases e;have q:dg K mg "share" jj uB8 []:=Fm (ds:=[]) uP uM uC (SJ X G uX) uQ uA .nil λa g=>match a,g with|[_,_],_=>⟨_,O,O⟩
 have f:dg K mg "share" jj uB8 [.int 1]:=Fm (ds:=[.int 1 Js]) uP uM uC (SJ X G uX) uQ uA (.cons ⟨_,O⟩ (.nil)) λa g=>match a,(show a.length=1 by simpa using g) with|[_],_=>⟨_,O,O⟩
 have x:Ls K mg "parts_by_four" du uC5:=⟨IK fC iF iR (SJ X G cL) λa g=>match a,g with|[_,_],_=>rfl,_,cL,SJ X G cL⟩
 have B:jS K mg "Grid" "worth" "Grid.worth" b_ uB0 [] 2 0 [.str "four"]:=FC (t:=sj) gC gK gH gM s_ gG RB.x1 (SJ X G s_) iN λa d c b=>match a,c,d,b with|[_,_],_,[],_=>⟨_,_,O,O⟩
 have r:jS K mg "Grid" "worth" "Grid.worth" b_ uB0 ["way"] 2 1 []:=qM gC gK gH gM s_ gG RB.x1 (SJ X G s_) λa d c b=>match a,c,d,b with|[_,_],_,[_],_=>rfl
 have y:jS K mg "Ends" "__init__" "Ends.__init__" cI uB9 uD3 1 2 []:=qM gg f9 gI f_ A9 gh RB.xa (SJ X G A9) λa d c b=>match a,c,d,b with|[_],_,[_,_],_=>rfl
 have z:rO K mg "led_worth" f6 uB6 uA7 2 2 []:=qL m9 mQ mY (SJ X G nA) λa d c b=>match a,c,d,b with|[_,_],_,[_,_],_=>rfl
 have E:jS K mg "SquareProfile" "__init__" "SquareProfile.__init__" bB uA8 uC2 3 1 []:=qM cY cZ c9 c6 fA cV RB.x7 (SJ X G fA) λa d c b=>match a,c,d,b with|[_,_,_],_,[_],_=>rfl
 have o:jS K mg "GridProfile" "__init__" "GridProfile.__init__" bG uB1 uC2 3 1 []:=qM dD dM dJ dF ic dI RB.x6 (SJ X G ic) λa d c b=>match a,c,d,b with|[_,_,_],_,[_],_=>rfl
 have C:rO K mg "stepwise" gY uA6 uE8 3 1 []:=qL pI pZ pY (SJ X G pX) λa d c b=>match a,c,d,b with|[_,_,_],_,[_],_=>rfl
 have A:rO K mg "linked" lH uA0 uC6 2 2 []:=qL vP vp vM (SJ X G wu) λa d c b=>match a,c,d,b with|[_,_],_,[_,_],_=>rfl
 have D:rO K mg "growth" lF uB3 uE8 2 1 []:=qL wF wW vF (SJ X G u7) λa d c b=>match a,c,d,b with|[_,_],_,[_],_=>rfl
 have u:rO K mg "link_bound" eR uA0 uC6 2 2 []:=qL lN lR l6 (SJ X G l9) λa d c b=>match a,c,d,b with|[_,_],_,[_,_],_=>rfl
 have T:cH K mg w:=⟨RB.x5,RB.xa,RB.x1,RB.x6,RB.x7,⟨Am,SJ X G wN,⟨vg,ID,xL,v_,vO vC (.cons ⟨O,SJ X G qj⟩ (.cons ⟨O,SJ X G jy⟩ (.cons ⟨O,SJ X G jK⟩ (.cons ⟨O,SJ X G kX⟩ (.nil)))))⟩,vH⟩,⟨D1,SJ X G zN,⟨AO,Lg,zX,AJ,vO AU (.cons ⟨O,SJ X G cL⟩ (.cons ⟨O,SJ X G gX⟩ (.nil)))⟩,Ac⟩,Kj X G RG.xt,Kj X G RG.xu,Kj X G RG.xv,Kj X G RG.xw,Kj X G RG.xj,Kj X G RG.xk,Kj X G RG.xx,Kj X G RG.xy,Kj X G RG.xg,Kj X G RG.xl,RB.xz,RB.xm,RB.x10,RB.x11,RB.x12,⟨_,SJ X G z_k_STEPS,[TA_STEPS_0,TA_STEPS_1,TA_STEPS_2],ER xK we,.cons (ER kt_STEPS_0 ku_STEPS_0) (.cons (ER kt_STEPS_1 ku_STEPS_1) (.cons (ER kt_STEPS_2 ku_STEPS_2) (.nil)))⟩,SS X G RN.xh,SS X G RN.xb,SS X G RN.x14,SS X G RN.xn,SS X G RN.x15,SS X G RN.x2,SS X G RN.x4,SS X G RN.xc,SS X G RN.xe,SS X G RN.xf,SS X G RN.x0,SS X G RN.xo,SS X G RN.xi,SS X G RN.xp,SS X G RN.xq,SS X G RN.x3,SS X G RN.x8,RB.x16,RD.x17.d1 X G λ_ _ _ _ _ _ _=>rfl,RD.x18.d3 X G λ_ _ _ _ _ _ _ _ _=>rfl,RD.x19.d4 X G λ_ _ _ _ _ _ _ _ _ _=>rfl,RD.x1a.d2 X G λ_ _ _ _ _ _ _ _=>rfl,RD.x1b.d1 X G λ_ _ _ _ _ _ _=>rfl,RD.x1c.d1 X G λ_ _ _ _ _ _ _=>rfl,q,f,RD.x1d.d2 X G λ_ _ _ _ _ _ _ _=>rfl,RD.x1e.d2 X G λ_ _ _ _ _ _ _ _=>rfl,RD.x1f.d1 X G λ_ _ _ _ _ _ _=>rfl,RD.x1g.d1 X G λ_ _ _ _ _ _ _=>rfl,RD.x1h.d2 X G λ_ _ _ _ _ _ _ _=>rfl,RD.x1i.d1 X G λ_ _ _ _ _ _ _=>rfl,RD.x1j.d3 X G λ_ _ _ _ _ _ _ _ _=>rfl,RD.x1k.d1 X G λ_ _ _ _ _ _ _=>rfl,RD.x1l.d1 X G λ_ _ _ _ _ _ _=>rfl,RD.x1m.d1 X G λ_ _ _ _ _ _ _=>rfl,RD.x1n.d1 X G λ_ _ _ _ _ _ _=>rfl,RD.x1o.d1 X G λ_ _ _ _ _ _ _=>rfl,RD.x1p.d1 X G λ_ _ _ _ _ _ _=>rfl,RD.x1q.d1 X G λ_ _ _ _ _ _ _=>rfl,RD.x1r.d2 X G λ_ _ _ _ _ _ _ _=>rfl,RD.x1s.d2 X G λ_ _ _ _ _ _ _ _=>rfl,RD.x1t.d2 X G λ_ _ _ _ _ _ _ _=>rfl,RD.x1u.d1 X G λ_ _ _ _ _ _ _=>rfl,RD.x1v.d2 X G λ_ _ _ _ _ _ _ _=>rfl,RD.x1w.d1 X G λ_ _ _ _ _ _ _=>rfl,RD.x1x.d1 X G λ_ _ _ _ _ _ _=>rfl,RD.x1y.d1 X G λ_ _ _ _ _ _ _=>rfl,RD.x1z.d2 X G λ_ _ _ _ _ _ _ _=>rfl,RD.x20.d1 X G λ_ _ _ _ _ _ _=>rfl,RD.x21.d1 X G λ_ _ _ _ _ _ _=>rfl,RD.x22.d1 X G λ_ _ _ _ _ _ _=>rfl,RD.x23.d2 X G λ_ _ _ _ _ _ _ _=>rfl,x,RD.x24.d2 X G λ_ _ _ _ _ _ _ _=>rfl,RD.x25.d1 X G λ_ _ _ _ _ _ _=>rfl,RM.x26.d3 X G RB.x1 λ_ _ _ _ _ _ _ _ _=>rfl,RM.x27.d2 X G RB.x1 λ_ _ _ _ _ _ _ _=>rfl,RM.x28.d1 X G RB.x1 λ_ _ _ _ _ _ _=>rfl,RM.x29.d3 X G RB.x1 λ_ _ _ _ _ _ _ _ _=>rfl,r,B,RM.x2b.d1 X G RB.x1 λ_ _ _ _ _ _ _=>rfl,y,RD.x2c.d1 X G λ_ _ _ _ _ _ _=>rfl,RD.x2d.d2 X G λ_ _ _ _ _ _ _ _=>rfl,RD.x2e.d2 X G λ_ _ _ _ _ _ _ _=>rfl,RD.x2f.d3 X G λ_ _ _ _ _ _ _ _ _=>rfl,RD.x2g.d3 X G λ_ _ _ _ _ _ _ _ _=>rfl,RD.x2h.d3 X G λ_ _ _ _ _ _ _ _ _=>rfl,RD.x2i.d3 X G λ_ _ _ _ _ _ _ _ _=>rfl,RD.x2j.d1 X G λ_ _ _ _ _ _ _=>rfl,RD.x2k.d1 X G λ_ _ _ _ _ _ _=>rfl,RD.x2l.d1 X G λ_ _ _ _ _ _ _=>rfl,z,RD.x2m.d1 X G λ_ _ _ _ _ _ _=>rfl,RD.x2n.d2 X G λ_ _ _ _ _ _ _ _=>rfl,RD.x2o.d1 X G λ_ _ _ _ _ _ _=>rfl,RD.x2p.d2 X G λ_ _ _ _ _ _ _ _=>rfl,RD.x2q.d3 X G λ_ _ _ _ _ _ _ _ _=>rfl,RM.x2r.d2 X G RB.x5 λ_ _ _ _ _ _ _ _=>rfl,RM.x2s.d1 X G RB.x5 λ_ _ _ _ _ _ _=>rfl,RM.x2t.d2 X G RB.x5 λ_ _ _ _ _ _ _ _=>rfl,RM.x2u.d1 X G RB.x5 λ_ _ _ _ _ _ _=>rfl,RM.x2v.d1 X G RB.x5 λ_ _ _ _ _ _ _=>rfl,RD.x2w.d2 X G λ_ _ _ _ _ _ _ _=>rfl,RD.x2x.d2 X G λ_ _ _ _ _ _ _ _=>rfl,RD.x2y.d2 X G λ_ _ _ _ _ _ _ _=>rfl,RD.x2z.d1 X G λ_ _ _ _ _ _ _=>rfl,RD.x30.d1 X G λ_ _ _ _ _ _ _=>rfl,RD.x31.d1 X G λ_ _ _ _ _ _ _=>rfl,RD.x32.d2 X G λ_ _ _ _ _ _ _ _=>rfl,E,RM.x33.d2 X G RB.x7 λ_ _ _ _ _ _ _ _=>rfl,RM.x34.d1 X G RB.x7 λ_ _ _ _ _ _ _=>rfl,o,RM.x35.d2 X G RB.x6 λ_ _ _ _ _ _ _ _=>rfl,RM.x36.d1 X G RB.x6 λ_ _ _ _ _ _ _=>rfl,RD.x37.d1 X G λ_ _ _ _ _ _ _=>rfl,RD.x38.d1 X G λ_ _ _ _ _ _ _=>rfl,C,A,RD.x39.d3 X G λ_ _ _ _ _ _ _ _ _=>rfl,D,u,RD.x3a.d1 X G λ_ _ _ _ _ _ _=>rfl,RD.x3b.d2 X G λ_ _ _ _ _ _ _ _=>rfl,RD.x3c.d2 X G λ_ _ _ _ _ _ _ _=>rfl,RD.x3d.d2 X G λ_ _ _ _ _ _ _ _=>rfl,RD.x3e.d2 X G λ_ _ _ _ _ _ _ _=>rfl,RD.x3f.d2 X G λ_ _ _ _ _ _ _ _=>rfl,RD.x3g.d2 X G λ_ _ _ _ _ _ _ _=>rfl,RD.x3h.d2 X G λ_ _ _ _ _ _ _ _=>rfl,RD.x3i.d2 X G λ_ _ _ _ _ _ _ _=>rfl,RD.x3j.d2 X G λ_ _ _ _ _ _ _ _=>rfl,RD.x3k.d4 X G λ_ _ _ _ _ _ _ _ _ _=>rfl,RD.x3l.d1 X G λ_ _ _ _ _ _ _=>rfl,RD.x3m.d2 X G λ_ _ _ _ _ _ _ _=>rfl,RD.x3n.d1 X G λ_ _ _ _ _ _ _=>rfl,RD.x3o.d3 X G λ_ _ _ _ _ _ _ _ _=>rfl,RD.x3p.d1 X G λ_ _ _ _ _ _ _=>rfl,RD.x3q.d3 X G λ_ _ _ _ _ _ _ _ _=>rfl⟩
 intro base _ _;exact HX ⟨l.prog,w,K,mg,base⟩ T _ _ (MB (st:=pq) l_law c_law k_law)
theorem walk {l:ZC}{q:SA}{b:List Str}{p:(Str->Option RV)->Uc->Prop}{c:Te->Uc->Prop}{d:DefRec}{K:Params->KE} (o:l.most=Y 63) (e:d.params.defaults=[])
  {j:List Sd}(t:∀ (w:Te) (h:Uc),c w h->(K w.params).In h)(g:∀ (w:Te) (h:Uc),c w h->∀ P∈j,h.get? P=Y { cls:=.none,data:=.fields #[] })
  (F:∀ (w:Te) (mg:Str->Option RV) (fa:Sd) (h:Uc),(K w.params).In h->h.Ns R1 mg->mg d.name=Y (.ref fa) ->
   ∃ (ts:List (Str×Sd)) (i:Uw),zL (K w.params) j ts/\(∀ (s:RZ) (u:RV),aab s i ⟨[u],[]⟩ [("_law_script",u)])/\∀ base:Uc,(K w.params).In base->base.Ns R1 mg->jm l.prog w (K w.params) mg base yd 12 fa i uB2 (tm (ts.map (·.1)) (K w.params))) :
  PySem.W.WalkO q b p c l.row.toRowW d [] (λf vs=>abu f vs):=
 HF (k:=12) (x:="_law_script") (CX:=λw=>yd) (sp:=tm) o e ⟨O,Z,Z⟩ t g F (λ_ _ _ a ns n r m=>⟨a,ns,O,r,n,m,λ_=>rfl⟩) λ_ _ _ _ _ z=>z
end TR
structure PySem.W.Fast:Prop where (tw5679279065097914950 tw15004360771272037864 tw4596528165531748104 tw6477394063251345629 tw14055296634391228052 tw441505998823011394 tw2255627548002253026 tw9413406084923993428 tw15942224282300820016 tw1206513438935472125 tw15474246774577331147 tw8165559516115742972 tw11893711739653084926 tw16233366871978627561 tw4950281706440107493 tw7037436749678122442 tw8285452754630364388 tw7723546617481881119 tw11961935661188579555 tw14841170433093926806 tw7864103690624417137 tw8449094469700891168 tw17168658768872323613 tw7324047165944829511 tw18394381620335804286 tw14318425803626645507 tw11279979954892813151 tw2580553833012489941 tw17457755710345148188 tw8240912310199443215 tw13887939269197437359 tw7566902021644816677 tw15766926195604571031 tw10292656383199379578 tw10597429189873566409 tw2988885188872876863 tw12090376284131033981 tw4649824488369881913 tw2634335106138838105 tw885894206481951280 tw11341487855164130022 tw970918507504919057 tw11971750975481100950 tw3189713699712220142 tw13263267109618739434 tw12426965525580107904 tw8571303720031955309 tw4262628271167324156 tw4483641651258886828 tw4161545798047163069 tw18068037102600775992 tw10441079818290637290 tw16441681470058587374 tw3807174212751907792 tw18287151021001702522 tw12532041880956155537 tw8194616644722110376 tw1811733181472579443 tw7747885251072538496 tw2840012825815229404 tw2637664271102414656 tw7304472196588575065 tw12751286779138304121 tw12477837170847357730 tw10454247283336584104 tw18193273485693653999 tw13406961416237672362 tw3065219504821713872 tw8432386548631361830 tw15624753005701965339 tw1282422327438671828 tw1885091185658485031 tw5579182179961939401 tw6475256897270181162 tw500005498482386935 tw10843683752382734343 tw7456311458627552022 tw17502948516683244525 tw838386006159762035 tw11105678425795567195 tw17682985551367555964 tw7896774652105386072 tw8993356279975917748 tw12844340492000865401 tw17814097366244286602 tw3197798108070442005 tw3617045610509691451 tw4730216939842693532 tw5827129785494264497 tw381333963038776977 tw4322696126985434342 tw12881873185198888054 tw5011074824924784281 tw14479772416093173948 tw5625882758488248301 tw13972739387485885195 tw12959937524649582459 tw8485595811203615758 tw13887035735413463889 tw8680318929964138159 tw485238144532982702 tw997737112450893845 tw7936198823182269094 tw16642248456792395708 tw17855917353458699937 tw17682654537648664335 tw639062105391559338 tw12133232975320028638 tw10580898884324868137 tw3130027756810283796 tw6360180517289128468 tw16321184650296529347 tw11153118636523894545 tw5066519966425481676 tw5926160926347485604 tw8436702502097854565 tw6797568305122838905 tw15174057927148460172 tw817279062261338494 tw12733049342976142570 tw12310235516900918821 tw6086532643820443358 tw9188774410111284256 tw3189061055448104775 tw10756263575755030373 tw14669191835210766968 tw15189218167277754836 tw4335038217788725601 tw2893708134432104411 tw6532946035438659748 tw12607305364474741068 tw315313301649530105 tw2639553702175497622 tw7709243140721695838 tw18224051390936605327 tw9227359821525108446 tw5972360334720207789 tw15719304803762953803 tw11383063218673296551 tw558637009468431892 tw5588441673188733790 tw4525279501588670143 tw4796366067287053049 tw8444610431743808368 tw6384941074169191197 tw6852888284899566412 tw12726502715621101760 tw722986841778319261 tw7109060351497801189 tw3128769918453758761 tw16251785705189494658 tw13148459642494510075 tw323247941858473145 tw2607082482108658063 tw6993831131229873531 tw17363384629434084057 tw437271733189005025 tw1121450498391432122 tw10478931660991215652 tw10582685205408755631 tw2888548019133341576 tw4550979396520777091 tw12652862060792613336 tw15464562395161137972 tw2313196773819284408 tw9176462328547150809 tw13189660505157571680 tw2215726186583886461 tw6516630650128365944 tw4656934253737066396 tw14158943147924583909 tw14959189272518543178 tw4836171154033492820 tw3550949296893745665 tw15697244707404479636 tw15500063684334434645 tw5417515575445889209 tw15783809447500988060 tw7589207487701452702 tw8251775436201958424 tw6471190265430449639 tw16193395393731257293 tw2175056751555552337 tw7028918936299723161 tw8050560359345325814 tw17819755554029179355 tw11184094293271697158 tw12744621645970900052 tw8540549522707004401 tw13157672292684225259 tw4179235411406559732 tw5822299735821859871 tw5766482591433637375 tw11827091136739363271 tw15734641066708456217 tw6933828617712777659 tw4432944744193028373 tw10127114268455897744 tw1369936965475446099 tw14290159159433697160 tw6893957675664580835 tw17693771183688146159 tw16576556923340394702 tw12312257041416114149 tw10934445715979471367 tw6508947339963088563 tw9953457145256822487 tw6217714848182417460 tw5500585774856292470 tw6896123942539873826 tw8135068224440465918 tw15700646935120994732 tw3782385315596804317 tw11561267936233950458 tw8725733691760937320 tw3756554921914371806 tw10974291205152174018 tw9538355988253740006 tw15556982946986283398 tw4275954461145268843 tw13733624017226077406 tw2197299066877333688 tw17947793778122584580 tw9851008966930591902 tw17790190136292447984 tw2165295355162906174 tw6945845653811039325 tw11731636595442294472 tw14834226231516371453 tw52775877963100347 tw8996123194270708249 tw9067217148083961545 tw12656005505366433314 tw14160382264496220182 tw3304862852860438370 tw17669173444925487034 tw17537034002939276880 tw11820228342289209216 tw11586231660059314442 tw605265356006110208 tw13986350848942815858 tw17903248635106541922 tw17268021812891318972 tw13219906859259596879 tw4686624345690460240 tw1868878055706824197 tw4235015317704375763 tw18318638087355504545 tw5983310086630614572 tw17296201615626917016 tw1802743132221039714 tw14937842662662494339 tw10498880942700525194 tw11308613097273897508 tw7016929439888822882 tw1540361838443037552 tw1663009877936743633 tw12456977907032410129 tw3884952260690852448 tw6204685896574233765 tw18273754649756961426 tw5153444725735235914 tw11027750714594579937 tw14892740720860570497 tw11109413112708990766 tw10315537941218742720 tw821504648167776452 tw7533187779984869842 tw13265027536200265053 tw17999006565737784039 tw1657445106747503269 tw14268590523270613427 tw12976580146601809639 tw15036688947893161618 tw4275836761610310083 tw4196789306173496352 tw4541042154747632318 tw5035627583517077348 tw3665973505790748830 tw5591619958682809519 tw2303259957356710530 tw8254593988791281318 tw12202153321472180228 tw12797101842963793225 tw4012707406659921672 tw1082984113556162709 tw3249385453851399081 tw5302110878198821152 tw15731044272476208424 tw1226488563243883452 tw12590809998455595051 tw7069580646048898031 tw477809718907547070 tw14442282755622189790 tw13451372443629836249 tw17532155529953084314 tw8725165605494891739 tw6997282854328887338 tw6437042250543452044 tw9829448361088788825 tw14835296272213991020 tw15349890396147320137 tw17743455644866733867 tw683681826365146900 tw4562363651293564673 tw1984431265005341306 tw6330282223438595882 tw13063848027986776594 tw6606209627576495165 tw3949881430108512457 tw9548097711554740621 tw11830335978402150939 tw6525919627369189296 tw9328286587897889447 tw4264282354279742270 tw7886391243044358725 tw13678685226008569164 tw7184097000008032720 tw10119712693406026807 tw10553718906657425409 tw6597599418918197541 tw488245943849103681 tw16530824516472372848 tw16307318891402762471 tw2274506265651470201 tw10859967652153198238 tw11428431202628275099 tw6384945404196101073 tw17288695962641718871 tw15645516771279096438 tw9774641101251861059 tw13519934219469519673 tw5836746064729491619 tw710670609996253388 tw8949329751821582821 tw12019621635766804646 tw11535422402708792125 tw9811323151664540569 tw17125061456589396431 tw14411776040963135993 tw6933652016528022972 tw578528452557914686 tw8458368141584966304 tw12482113253035163435 tw6065576636523002216 tw7884609486716784935 tw14086233300770543427 tw4281469165886986226 tw3430707523884562632 tw7227501622266151401 tw16422205143734078417 tw6330737029944198771 tw6391733214890026281 tw14942456317959277148 tw16325396360697585249 tw9204037675582365891 tw16266718133016153588 tw13944213043769561608 tw7327363670523786995 tw6835574724485759794 tw5119961483463361724 tw17830800921571861482 tw2395523060620540248 tw9824436591829434698 tw659465726538917664 tw14292959417995461551 tw6456960212103101584 tw15911513593546774021 tw12616930003024149979 tw3048107071012962495 tw5403428683595634713 tw3089692913821541863 tw5311473423216709903 tw15357881662586313051 tw2041785448311486908 tw6775847338608388059 tw2131927127389120515 tw14432074284361078115 tw9254621843953246795 tw4356904710985665498 tw17378182549882322783 tw7470338327749911144 tw2605302080295574029 tw13795423775916333124 tw14674839331433117233 tw2180966373399284918 tw13554044521035714727 tw9537853673448072293 tw8888609736269699116 tw10925715528889297688 tw12119876560002191923 tw3627918783765428758 tw9108758916180245769 tw15752373823134282942 tw13383194808893688018 tw2524296966704174357 tw5382642545684885114 tw1111126591741915969 tw1186719477788660215 tw6475828550161061407 tw14125083137193296646 tw736017277566784969 tw6705691575957170505 tw14475358738313486634 tw12709028616141730485 tw238806541429629928 tw17673517773327731805 tw9194004769208899854 tw9760663312018146706 tw10696382724810908202 tw15600115958338518693 tw6765597635956018427 tw7362113990998809037 tw6324546048655771349 tw7460781995216325079 tw47945217660238622 tw15926664518806613732 tw8095761237879427910 tw12545286383474196324 tw12257757373053526543 tw16988495184632444025 tw9407229526768993811 tw17294211002097458010 tw3828841498050915803 tw18084873891089051621 tw13450413154292772141 tw19486631999275584 tw5633289900457143352 tw3257100293931649655 tw14157682070988618778 tw16406509120607912781 tw6302121894631680871 tw16027482459440029753 tw11844421321170088376 tw11851223872031726414 tw633164774153512017 tw12650329216929655673 tw1244074866085206489 tw17092232047798084372 tw9433067426821031979 tw1280082383482793979 tw18133122153327567472 tw13009282412411327992 tw12047145681917667931 tw6080733449532526445 tw12429239872601943820 tw15405122316979541041 tw2046055994620699353 tw8113445532011233331 tw329051377154688516 tw15990711511079922347 tw4482557402991681635 tw426453732249017983 tw16839907868578830540 tw4997132823620857607 tw4250604163500483994 tw2813487927452115619 tw239982689337569330 tw18229423023937560930 tw10869057836403239405 tw12193446658556687634 tw14820125412915928234 tw1388687235244959190 tw12247410115238530839 tw1306035023370818907 tw8095830374899636478 tw6645874475927660487 tw3730898316419265092 tw8590908937758744790 tw2436422580342243064 tw2514183945841965525 tw16235641507719024107 tw372831567374979640 tw5026082006150699992 tw50321166329736489 tw3345798626494643577 tw11239548899346940747 tw6628966149088460091 tw4306082087219064017:True)
open PySem PySem.W PyProof.Rows
set_option maxRecDepth 100000 in
set_option maxHeartbeats 0 in
theorem PySem.Challenge.cw_tintroads_k23_whole_link_bound_holds : PySem.Challenge.rw_tintroads_k23_whole_link_bound.Holds := by
  w_on;o_law;k_head;(case hw=>w_witness2)
  k_fill
  refine TR.walk (l:=PySem.Challenge.rw_tintroads_k23_whole_link_bound) O O (fun w h zzW=>PySem.W.km_in_of zzW) (fun w h zzW=>PySem.W.km_tabs_of zzW) ?F
  case F=>
    intro w mg fa h KX G hmg
    refine' TR.all_mk KX G hmg ?RN ?RG ?RB ?RD ?RM ?s_ ?A9 ?fA ?ic ?uX ?uP ?uM ?uC ?uQ ?uA ?cL ?fC ?iF ?iR ?eX ?eT ?gS ?hO ?gG ?gC ?gK ?gH ?gM ?iN ?gh ?gg ?f9 ?gI ?f_ ?nA ?m9 ?mQ ?mY ?cV ?cY ?cZ ?c9 ?c6 ?dI ?dD ?dM ?dJ ?dF ?pX ?pI ?pZ ?pY ?wu ?vP ?vp ?vM ?u7 ?wF ?wW ?vF ?l9 ?lN ?lR ?l6 ?a_law ?l_law ?c_law ?k_law ?jy ?kX ?qj ?jK ?gX ?wN ?xL ?v_ ?vC ?vH ?zN ?zX ?AJ ?AU ?Ac ?z_k_STEPS ?xK ?we ?kt_STEPS_0 ?ku_STEPS_0 ?kt_STEPS_1 ?ku_STEPS_1 ?kt_STEPS_2 ?ku_STEPS_2
    (case RN=>constructor <;> k_is)
    (case RG=>constructor <;> (refine' TR.gOf ?a;(case a=>k_is)))
    (case RB=>constructor <;> kernel_rfl)
    (case RD=>constructor <;> (refine' TR.AtD.of ?a ?b ?c ?d;(case a=>k_is);(case b=>k_is);(case c=>k_is);(case d=>k_is)))
    (case RM=>constructor <;> (refine' TR.AtM.of ?a ?b ?c ?d ?e ?f;(case a=>k_is);(case b=>k_is);(case c=>k_is);(case d=>k_is);(case e=>k_is);(case f=>k_is)))
    (case s_=>k_is)
    (case A9=>k_is)
    (case fA=>k_is)
    (case ic=>k_is)
    (case uX=>k_is)
    (case uP=>k_is)
    (case uM=>k_is)
    (case uC=>k_is)
    (case uQ=>k_is)
    (case uA=>first | rfl | k_is)
    (case cL=>k_is)
    (case fC=>k_is)
    (case iF=>k_is)
    (case iR=>k_is)
    (case eX=>k_is)
    (case eT=>exact ⟨_,_,_,_,_,_,_,O,O,O,O,O,O,by decide⟩)
    (case gS=>kernel_rfl)
    (case hO=>decide)
    (case gX=>k_is)
    (case gG=>k_is)
    (case gC=>k_is)
    (case gK=>k_is)
    (case gH=>k_is)
    (case gM=>k_is)
    (case iN=>k_is)
    (case gh=>k_is)
    (case gg=>k_is)
    (case f9=>k_is)
    (case gI=>k_is)
    (case f_=>k_is)
    (case qj=>k_is)
    (case jy=>k_is)
    (case jK=>k_is)
    (case kX=>k_is)
    (case nA=>k_is)
    (case m9=>k_is)
    (case mQ=>k_is)
    (case mY=>k_is)
    (case cV=>k_is)
    (case cY=>k_is)
    (case cZ=>k_is)
    (case c9=>k_is)
    (case c6=>k_is)
    (case dI=>k_is)
    (case dD=>k_is)
    (case dM=>k_is)
    (case dJ=>k_is)
    (case dF=>k_is)
    (case pX=>k_is)
    (case pI=>k_is)
    (case pZ=>k_is)
    (case pY=>k_is)
    (case wu=>k_is)
    (case vP=>k_is)
    (case vp=>k_is)
    (case vM=>k_is)
    (case u7=>k_is)
    (case wF=>k_is)
    (case wW=>k_is)
    (case vF=>k_is)
    (case l9=>k_is)
    (case lN=>k_is)
    (case lR=>k_is)
    (case l6=>k_is)
    (case a_law=>k_is)
    (case l_law=>k_is)
    (case c_law=>k_is)
    (case k_law=>k_is)
    (case wN=>k_is)
    (case xL=>k_is)
    (case v_=>first | exact ⟨⟨_,_,rfl,rfl⟩,⟨_,_,rfl,rfl⟩,⟨_,_,rfl,rfl⟩,⟨_,_,rfl,rfl⟩,trivial⟩ | (k_is;exact ⟨⟨_,_,rfl,rfl⟩,⟨_,_,rfl,rfl⟩,⟨_,_,rfl,rfl⟩,⟨_,_,rfl,rfl⟩,trivial⟩))
    (case vC=>exact .cons ⟨_,O,O⟩ (.cons ⟨_,O,O⟩ (.cons ⟨_,O,O⟩ (.cons ⟨_,O,O⟩ (.nil)))))
    (case vH=>first | rfl | decide)
    (case zN=>k_is)
    (case zX=>k_is)
    (case AJ=>first | exact ⟨⟨_,_,rfl,rfl⟩,⟨_,_,rfl,rfl⟩,trivial⟩ | (k_is;exact ⟨⟨_,_,rfl,rfl⟩,⟨_,_,rfl,rfl⟩,trivial⟩))
    (case AU=>exact .cons ⟨_,O,O⟩ (.cons ⟨_,O,O⟩ (.nil)))
    (case Ac=>first | rfl | decide)
    (case z_k_STEPS=>k_is)
    (case xK=>k_is)
    (case we=>exact ⟨O,O,by decide,.cons rfl (.cons rfl (.cons rfl (.nil)))⟩)
    (case kt_STEPS_0=>k_is)
    (case ku_STEPS_0=>exact ⟨O,O,by decide,.cons ⟨_,O⟩ (.cons ⟨_,O⟩ (.cons ⟨_,O⟩ .nil))⟩)
    (case kt_STEPS_1=>k_is)
    (case ku_STEPS_1=>exact ⟨O,O,by decide,.cons ⟨_,O⟩ (.cons ⟨_,O⟩ (.cons ⟨_,O⟩ .nil))⟩)
    (case kt_STEPS_2=>k_is)
    (case ku_STEPS_2=>exact ⟨O,O,by decide,.cons ⟨_,O⟩ (.cons ⟨_,O⟩ (.cons ⟨_,O⟩ .nil))⟩)
#print axioms PySem.Challenge.cw_tintroads_k23_whole_link_bound_holds
